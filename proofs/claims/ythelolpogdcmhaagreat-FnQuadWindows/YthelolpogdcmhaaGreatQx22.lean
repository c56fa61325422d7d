/- Part 22 of the walks that the proof leans on. -/
import Derived.Test.YthelolpogdcmhaaGreatQx21
import Derived.Test.YthelolpogdcmhaaGreatQx16
set_option maxRecDepth 100000
set_option maxHeartbeats 16000000
namespace Go.Proofs.YthelolpogdcmhaaGreat
open Go.RowKit
def HeldP (Q:QD) (il:List Nat) (w:World) (r:Ending) (w' :World):Prop:=∃v,r= .returned v∧w'.ownsRow w.heap.size 40 5 v il.length (itCs Q il)∧Below w.heap.size w w'
theorem held_any (Q:QD) (gq g ic:Nat) (io:Option Addr) (m d:Int) (pv:Value) (x y s lv:Int) (iv kv:Value) (il:List Nat) (ok:Nat→Prop) (hm:Q.m≤1048576) (hr:riseI Q) (hil:∀i∈il,i<Q.m) (hl:il.length≤1048576) (w:World) (BQ:Blk w gq [.int .i64 m,.int .i64 d,.slice io Q.m ic,pv]) (B0:BkB w g x y s lv iv kv) (hI:IdV ok w iv (idL Q il)) (hS:ItIn Q w io (List.range Q.m)):Calls Tryz.prog 42 #[.pointer (some ⟨gq,0,none⟩),.pointer (some ⟨g,0,none⟩)] w (HeldP Q il w):=by
 obtain⟨i0,hi,hz0,hz1,hz2⟩:=info_item;obtain⟨eo,ec,rfl,hNo,_,_⟩:=hI;have el:(idL Q il).length=il.length:=by unfold idL;rw[List.length_map]
 obtain⟨n,hn⟩:∃n,il.length=n:=⟨_,rfl⟩;rw[el,hn] at B0 hNo;have HNO:Hid (NoIn w eo n (fun i=>(idL Q il).getD i 0)):=hNo;have HS:Hid (ItIn Q w io (List.range Q.m)):=hS;have HIL:Hid (il.length=n∧∀i∈il,i<Q.m):=⟨hn,hil⟩;rw[hn] at hl;clear hNo hS el hn hil;have hnI:(n:Int)≤1048576:=by omega
 have k4:=B0.c 4 rfl
 go_enter Tryz.func42,Tryz.ntmps42
 go_wp2_with fail
 go_loopw [5,15] (fun o i wr=>∃c:Nat,c≤n∧i= .int .i64 c∧wr.ownsRow w.heap.size 40 5 o c (itCs Q (il.take c))∧Below w.heap.size w wr) (fun _ i _=>n-(intOf i).toNat)
 case atStart=>exact⟨0,by omega,rfl,World.ownsRow_nil _ _ _ _,Below.refl _ _⟩
 case round=>
  obtain⟨c,hc,rfl,HO,HB⟩:=hrel
  by_cases hcn:c<n
  · obtain⟨i,hi2⟩:∃i,il[c]? =some i:=⟨_,List.getElem?_eq_getElem (by have:=HIL.out.1;omega)⟩;have him:i<Q.m:=HIL.out.2 i (List.mem_of_getElem? hi2);have hcI:(c:Int)<n:=by omega
    obtain⟨A,off,rfl,hA,hcell⟩:=HNO.out c hcn;have hid:(idL Q il).getD c 0=Q.I i:=by unfold idL;rw[List.getD_eq_getElem?_getD,List.getElem?_map,hi2];rfl
    replace hcell:w.cell? ⟨A,off+c,none⟩=some (.int .i64 (Q.I i)):=by rw[←hid];exact hcell
    have cw:=(HB.cell (p:=⟨A,off+c,none⟩) hA).trans hcell;have C:=place_any Q gq ic io m d (Q.I i) pv i true hm (by omega) (fun j hj=>by have h:=rise_lt hr (i-j-1) j (by omega);rwa [show j+(i-j-1)+1=i by omega] at h) (fun j hj hj2=>by
     rcases Nat.lt_or_ge i j with h | h
     · have h:=rise_lt hr (j-i-1) i (by omega);rw[show i+(j-i-1)+1=j by omega] at h
       omega
     · rw[show j=i by omega];exact Int.le_refl _) ⟨fun _=>⟨him,rfl⟩,fun _=>rfl⟩ wr (BQ.step HB) (HS.out.step HB)
    have HTK:Hid (il.take (c+1)=il.take c ++[i]):=by show _=_;rw[List.take_add_one,hi2];rfl
    clear hcell hid k4;go_wp2_with fail;refine C.mono ?_;rintro r w1 ⟨rfl,hB1⟩;replace HO:=ownA_step HO hB1;replace HB:=HB.trans (hB1.mono HB.size);clear C cw hB1 hA;obtain⟨A2,off2,rfl,hA2,q0,q1,q2,q3,q4⟩:=HS.out.step HB i i (by rw[List.getElem?_range him]);have b2:=(BQ.step HB).c 2 rfl;have hiI:(i:Int)<Q.m:=by omega
    have hmI:(Q.m:Int)≤1048576:=by omega
    go_wp2_with (at_builtin;refine wpList_append_own _ rfl _ _ 24 rfl w.heap.size 40 i0 (.agg #[.int .i64 0,.int .i64 0,.int .i64 0,.int .i64 0,.int .i64 0]) 5 40 Tryz.underlying24 hi hz0 hz1 hz2 rfl (by decide) _ _ _ rfl (ownA_step HO ((Below.refl _ _).alloc (Nat.le_refl _) _)) ⟨w1.heap.size,0,none⟩ 1 1 (it5 Q i) rfl rfl (it5_new _ _ _ _) (it5_one _ _) (by unfold maxLen;omega) (by omega) (by have:=HB.size;simp;omega) ?_)
    intro v1 w2 hown1 hgrow1 _;have HBN:Below w.heap.size w w2:=(HB.alloc HB.size _).grown hgrow1 (by have:=HB.size;simp;omega) (fun k hk=>(HO.lt k hk).1);have HN:w2.ownsRow w.heap.size 40 5 v1 (c+1) (itCs Q (il.take (c+1))):=by
     rw[HTK.out,itCs_app];exact hown1
    clear HO HB hown1 hgrow1 q0 q1 q2 q3 q4 b2;go_wp2;go_roundw
    case rel=>exact⟨c+1,by omega,by go_num,HN,HBN⟩
    case measure=>simp[intOf];omega
  · obtain rfl:c=n:=by omega
    rw[List.take_of_length_le (by have:=HIL.out.1;omega)] at HO;go_wp2;go_ret;exact⟨_,rfl,by rw[HIL.out.1];exact HO,HB⟩
def VvwA (Be Hb:Nat) (bx wc:Int) (_B:Nat):Nat→Value→World→Prop
 | 0,v,_=>v= .pointer (some ⟨Hb,0,none⟩)
 | 1,v,_=>v= .int .i64 (wc)
 | 2,v,_=>v= .pointer (some ⟨Be,0,none⟩)
 | 3,v,_=>v= .pointer (some ⟨Be,0,none⟩)
 | 4,v,_=>v= .pointer (some ⟨Be,0,none⟩)
 | 5,v,_=>v= .pointer (some ⟨Be,0,none⟩)
 | 6,v,_=>v= .int .i64 (bx)
 | 7,v,_=>v= .bool (decide (wc<bx))
 | 8,v,_=>v= .bool true
 | 9,v,_=>v=undef
 | 10,v,_=>v=undef
 | 11,v,_=>v=undef
 | 12,v,_=>v=undef
 | 13,v,_=>v=undef
 | 14,v,_=>v= .bool true
 | 15,v,_=>v= .bool true
 | 16,v,_=>v=undef
 | 17,v,_=>v=undef
 | 18,v,_=>v=undef
 | 19,v,_=>v=undef
 | 20,v,_=>v=undef
 | 21,v,_=>v=undef
 | 22,v,_=>v=undef
 | 23,v,_=>v=undef
 | 24,v,_=>v= .bool true
 | 25,v,_=>v= .bool true
 | 26,v,_=>v=undef
 | 27,v,_=>v=undef
 | 28,v,_=>v=undef
 | 29,v,_=>v=undef
 | 30,v,_=>v=undef
 | 31,v,_=>v= .bool true
 | _,_,_=>True
theorem vwA {Q:Exit→Act→World→Prop} {Be Hb:Nat} {bx wc:Int} {Lb:Nat} {Tb:Nat} {bY:Int} {bs:Int} {wa:Int} {wb:Int} {wd:Int} {w0:World} {a0:Act} {idq:Nat} {t0 t1 t2 t3 t4 t5 t6 t7 t8 t9 t10 t11 t12 t13 t14 t15 t16 t17 t18 t19 t20 t21 t22 t23 t24 t25 t26 t27 t28 t29 t30 t31:TypeId} {q0 q1 q2 q3 q4 q5 q6 q7 q8 q9 q10 q11 q12 q13 q14 q15 q16 q17 q18 q19 q20 q21 q22 q23 q24 q25 q26 q27 q28 q29 q30 q31:String}
 (d1:Hid (decide (wc<bx)=true)) (h1:a0.tmps[1]? =some (.pointer (some ⟨Be,0,none⟩))) (h7:a0.tmps[7]? =some (.pointer (some ⟨Lb,0,none⟩))) (h8:a0.tmps[8]? =some (.pointer (some ⟨Hb,0,none⟩))) (h11:a0.tmps[11]? =some (.pointer (some ⟨Tb,0,none⟩))) (k0:w0.cell? ⟨Hb,0,none⟩=some (.int .i64 wc)) (l0:(⟨Hb,0,none⟩:Addr).block<w0.heap.size) (k1:w0.cell? ⟨Hb,1,none⟩=some (.int .i64 wd)) (l1:(⟨Hb,1,none⟩:Addr).block<w0.heap.size) (k2:w0.cell? ⟨Lb,0,none⟩=some (.int .i64 wa)) (l2:(⟨Lb,0,none⟩:Addr).block<w0.heap.size) (k3:w0.cell? ⟨Lb,1,none⟩=some (.int .i64 wb)) (l3:(⟨Lb,1,none⟩:Addr).block<w0.heap.size) (k4:w0.cell? ⟨Tb,0,none⟩=some (.int .i64 (bx+bs))) (l4:(⟨Tb,0,none⟩:Addr).block<w0.heap.size) (k5:w0.cell? ⟨Tb,1,none⟩=some (.int .i64 (bY+bs))) (l5:(⟨Tb,1,none⟩:Addr).block<w0.heap.size) (k6:w0.cell? ⟨Be,0,none⟩=some (.int .i64 bx)) (l6:(⟨Be,0,none⟩:Addr).block<w0.heap.size) (k7:w0.cell? ⟨Be,1,none⟩=some (.int .i64 bY)) (l7:(⟨Be,1,none⟩:Addr).block<w0.heap.size) (hz:a0.tmps.size=87)
 (hQ:∀aq W,aq.tmps.size=a0.tmps.size→aq.defers=a0.defers→(∀e,e∉([18,19,20,21,22,23,24,25,26,27,28,29,30,31,32,33,34,35,36,37,38,39,40,41,42,43,44,45,46,47,48,49]:List Nat)→aq.tmps[e]? =a0.tmps[e]?)→VvwA Be Hb bx wc w0.heap.size 31 (aq.tmps.getD 49 undef) W→Below w0.heap.size w0 W→Q .normal aq W) :
 (Code.region idq #[⟨some 18,.fieldAddr 29 (.tmp 8) 0,t0,q0,#[],none⟩,
 ⟨some 19,.load 2 (.tmp 18),t1,q1,#[⟨0,.data⟩],none⟩,
 ⟨some 20,.move (.tmp 1),t2,q2,#[],none⟩,
 ⟨some 21,.nilCheck (.tmp 20),t3,q3,#[⟨2,.data⟩],none⟩,
 ⟨some 22,.fieldAddr 83 (.tmp 21) 0,t4,q4,#[⟨3,.data⟩],none⟩,
 ⟨some 23,.fieldAddr 29 (.tmp 22) 0,t5,q5,#[⟨4,.data⟩],none⟩,
 ⟨some 24,.load 2 (.tmp 23),t6,q6,#[⟨5,.data⟩],none⟩,
 ⟨some 25,.binOp .lss 2 (.tmp 19) (.tmp 24) 2,t7,q7,#[⟨1,.data⟩,⟨6,.data⟩],none⟩,
 ⟨some 26,.move (.tmp 25),t8,q8,#[⟨7,.data⟩],none⟩,
 ⟨some 27,.fieldAddr 29 (.tmp 11) 0,t9,q9,#[⟨8,.guard⟩],some (8,false)⟩,
 ⟨some 28,.load 2 (.tmp 27),t10,q10,#[⟨9,.data⟩,⟨8,.guard⟩],some (8,false)⟩,
 ⟨some 29,.fieldAddr 29 (.tmp 7) 0,t11,q11,#[⟨8,.guard⟩],some (8,false)⟩,
 ⟨some 30,.load 2 (.tmp 29),t12,q12,#[⟨11,.data⟩,⟨8,.guard⟩],some (8,false)⟩,
 ⟨some 31,.binOp .lss 2 (.tmp 28) (.tmp 30) 2,t13,q13,#[⟨10,.data⟩,⟨12,.data⟩,⟨8,.guard⟩],some (8,false)⟩,
 ⟨some 32,.pick (.tmp 26) (.const (.bool true)) (.tmp 31),t14,q14,#[⟨8,.data⟩,⟨13,.data⟩],none⟩,
 ⟨some 33,.move (.tmp 32),t15,q15,#[⟨14,.data⟩,⟨8,.chain⟩],none⟩,
 ⟨some 34,.fieldAddr 29 (.tmp 8) 1,t16,q16,#[⟨15,.guard⟩],some (15,false)⟩,
 ⟨some 35,.load 2 (.tmp 34),t17,q17,#[⟨16,.data⟩,⟨15,.guard⟩],some (15,false)⟩,
 ⟨some 36,.move (.tmp 1),t18,q18,#[⟨15,.guard⟩],some (15,false)⟩,
 ⟨some 37,.nilCheck (.tmp 36),t19,q19,#[⟨18,.data⟩,⟨15,.guard⟩],some (15,false)⟩,
 ⟨some 38,.fieldAddr 83 (.tmp 37) 0,t20,q20,#[⟨19,.data⟩,⟨15,.guard⟩],some (15,false)⟩,
 ⟨some 39,.fieldAddr 29 (.tmp 38) 1,t21,q21,#[⟨20,.data⟩,⟨15,.guard⟩],some (15,false)⟩,
 ⟨some 40,.load 2 (.tmp 39),t22,q22,#[⟨21,.data⟩,⟨15,.guard⟩],some (15,false)⟩,
 ⟨some 41,.binOp .lss 2 (.tmp 35) (.tmp 40) 2,t23,q23,#[⟨17,.data⟩,⟨22,.data⟩,⟨15,.guard⟩],some (15,false)⟩,
 ⟨some 42,.pick (.tmp 33) (.const (.bool true)) (.tmp 41),t24,q24,#[⟨15,.data⟩,⟨23,.data⟩],none⟩,
 ⟨some 43,.move (.tmp 42),t25,q25,#[⟨24,.data⟩,⟨15,.chain⟩],none⟩,
 ⟨some 44,.fieldAddr 29 (.tmp 11) 1,t26,q26,#[⟨25,.guard⟩],some (25,false)⟩,
 ⟨some 45,.load 2 (.tmp 44),t27,q27,#[⟨26,.data⟩,⟨25,.guard⟩],some (25,false)⟩,
 ⟨some 46,.fieldAddr 29 (.tmp 7) 1,t28,q28,#[⟨25,.guard⟩],some (25,false)⟩,
 ⟨some 47,.load 2 (.tmp 46),t29,q29,#[⟨28,.data⟩,⟨25,.guard⟩],some (25,false)⟩,
 ⟨some 48,.binOp .lss 2 (.tmp 45) (.tmp 47) 2,t30,q30,#[⟨27,.data⟩,⟨29,.data⟩,⟨25,.guard⟩],some (25,false)⟩,
 ⟨some 49,.pick (.tmp 43) (.const (.bool true)) (.tmp 48),t31,q31,#[⟨25,.data⟩,⟨30,.data⟩],none⟩] true).wp Tryz.prog Q a0 w0:=by
 have hS:distS [some 18,some 19,some 20,some 21,some 22,some 23,some 24,some 25,some 26,some 27,some 28,some 29,some 30,some 31,some 32,some 33,some 34,some 35,some 36,some 37,some 38,some 39,some 40,some 41,some 42,some 43,some 44,some 45,some 46,some 47,some 48,some 49]=true:=rfl;refine wp_region_q (by kernel_rfl) w0.heap.size [some 18,some 19,some 20,some 21,some 22,some 23,some 24,some 25,some 26,some 27,some 28,some 29,some 30,some 31,some 32,some 33,some 34,some 35,some 36,some 37,some 38,some 39,some 40,some 41,some 42,some 43,some 44,some 45,some 46,some 47,some 48,some 49] (VvwA Be Hb bx wc w0.heap.size) rfl ?_ ?_
 · intro Q lq aq W iq oq hJ2 hl ho hall;have z5:=hJ2.b;have g1:=hJ2.a h1
   have g7:=hJ2.a h7
   have g8:=hJ2.a h8
   have g11:=hJ2.a h11
   have c0:=hJ2.c k0 l0;have c1:=hJ2.c k1 l1;have c2:=hJ2.c k2 l2;have c3:=hJ2.c k3 l3;have c4:=hJ2.c k4 l4;have c5:=hJ2.c k5 l5;have c6:=hJ2.c k6 l6;have c7:=hJ2.c k7 l7
   clear hQ
   match iq,ho with
   | 0,ho=>
    cases ho;refine wpOp_of rfl rfl ?_;have hK:=hJ2.gO hS 0 18;generalize InvQ _ _ _ _ _ _=K at hK⊢;clear ho hall hl hJ2 hS;go_simp;exact hK _ rfl
   | 1,ho=>
    cases ho;refine wpOp_of rfl rfl ?_;have f0:_=Value.pointer (some ⟨Hb,0,none⟩):=hJ2.v hall 0 18;have hK:=hJ2.gO hS 1 19;generalize InvQ _ _ _ _ _ _=K at hK⊢;clear ho hall hl hJ2 hS;go_simp;exact hK _ rfl
   | 2,ho=>
    cases ho;refine wpOp_of rfl rfl ?_;have hK:=hJ2.gO hS 2 20;generalize InvQ _ _ _ _ _ _=K at hK⊢;clear ho hall hl hJ2 hS;go_simp;exact hK _ rfl
   | 3,ho=>
    cases ho;refine wpOp_of rfl rfl ?_;have f2:_=Value.pointer (some ⟨Be,0,none⟩):=hJ2.v hall 2 20;have hK:=hJ2.gO hS 3 21;generalize InvQ _ _ _ _ _ _=K at hK⊢;clear ho hall hl hJ2 hS;go_simp;exact hK _ rfl
   | 4,ho=>
    cases ho;refine wpOp_of rfl rfl ?_;have f3:_=Value.pointer (some ⟨Be,0,none⟩):=hJ2.v hall 3 21;have hK:=hJ2.gO hS 4 22;generalize InvQ _ _ _ _ _ _=K at hK⊢;clear ho hall hl hJ2 hS;go_simp;exact hK _ rfl
   | 5,ho=>
    cases ho;refine wpOp_of rfl rfl ?_;have f4:_=Value.pointer (some ⟨Be,0,none⟩):=hJ2.v hall 4 22;have hK:=hJ2.gO hS 5 23;generalize InvQ _ _ _ _ _ _=K at hK⊢;clear ho hall hl hJ2 hS;go_simp;exact hK _ rfl
   | 6,ho=>
    cases ho;refine wpOp_of rfl rfl ?_;have f5:_=Value.pointer (some ⟨Be,0,none⟩):=hJ2.v hall 5 23;have hK:=hJ2.gO hS 6 24;generalize InvQ _ _ _ _ _ _=K at hK⊢;clear ho hall hl hJ2 hS;go_simp;exact hK _ rfl
   | 7,ho=>
    cases ho;refine wpOp_of rfl rfl ?_;have f1:_=Value.int .i64 (wc):=hJ2.v hall 1 19;have f6:_=Value.int .i64 (bx):=hJ2.v hall 6 24;have hK:=hJ2.gO hS 7 25;generalize InvQ _ _ _ _ _ _=K at hK⊢;clear ho hall hl hJ2 hS;go_simp;exact hK _ rfl
   | 8,ho=>
    cases ho;refine wpOp_of rfl rfl ?_;have f7:_=Value.bool (decide (wc<bx)):=hJ2.v hall 7 25;rw[d1.out] at f7;have hK:=hJ2.gO hS 8 26;generalize InvQ _ _ _ _ _ _=K at hK⊢;clear ho hall hl hJ2 hS;go_simp;exact hK _ rfl
   | 9,ho=>
    cases ho;have fg:aq.tmps.getD 26 undef= .bool true:=hJ2.v hall 8 26 .guard;refine wpOp_off rfl rfl rfl rfl fg ?_;exact hJ2.put hS 9 27 rfl (by omega) z5 (fun _ _ h=>h) undef rfl
   | 10,ho=>
    cases ho;have fg:aq.tmps.getD 26 undef= .bool true:=hJ2.v hall 8 26 .guard;refine wpOp_off rfl rfl rfl rfl fg ?_;exact hJ2.put hS 10 28 rfl (by omega) z5 (fun _ _ h=>h) undef rfl
   | 11,ho=>
    cases ho;have fg:aq.tmps.getD 26 undef= .bool true:=hJ2.v hall 8 26 .guard;refine wpOp_off rfl rfl rfl rfl fg ?_;exact hJ2.put hS 11 29 rfl (by omega) z5 (fun _ _ h=>h) undef rfl
   | 12,ho=>
    cases ho;have fg:aq.tmps.getD 26 undef= .bool true:=hJ2.v hall 8 26 .guard;refine wpOp_off rfl rfl rfl rfl fg ?_;exact hJ2.put hS 12 30 rfl (by omega) z5 (fun _ _ h=>h) undef rfl
   | 13,ho=>
    cases ho;have fg:aq.tmps.getD 26 undef= .bool true:=hJ2.v hall 8 26 .guard;refine wpOp_off rfl rfl rfl rfl fg ?_;exact hJ2.put hS 13 31 rfl (by omega) z5 (fun _ _ h=>h) undef rfl
   | 14,ho=>
    cases ho;refine wpOp_of rfl rfl ?_;have f8:_=Value.bool true:=hJ2.v hall 8 26;have f13:_=undef:=hJ2.v hall 13 31;have hK:=hJ2.gO hS 14 32;generalize InvQ _ _ _ _ _ _=K at hK⊢;clear ho hall hl hJ2 hS;go_simp;exact hK _ rfl
   | 15,ho=>
    cases ho;refine wpOp_of rfl rfl ?_;have f14:_=Value.bool true:=hJ2.v hall 14 32;have hK:=hJ2.gO hS 15 33;generalize InvQ _ _ _ _ _ _=K at hK⊢;clear ho hall hl hJ2 hS;go_simp;exact hK _ rfl
   | 16,ho=>
    cases ho;have fg:aq.tmps.getD 33 undef= .bool true:=hJ2.v hall 15 33 .guard;refine wpOp_off rfl rfl rfl rfl fg ?_;exact hJ2.put hS 16 34 rfl (by omega) z5 (fun _ _ h=>h) undef rfl
   | 17,ho=>
    cases ho;have fg:aq.tmps.getD 33 undef= .bool true:=hJ2.v hall 15 33 .guard;refine wpOp_off rfl rfl rfl rfl fg ?_;exact hJ2.put hS 17 35 rfl (by omega) z5 (fun _ _ h=>h) undef rfl
   | 18,ho=>
    cases ho;have fg:aq.tmps.getD 33 undef= .bool true:=hJ2.v hall 15 33 .guard;refine wpOp_off rfl rfl rfl rfl fg ?_;exact hJ2.put hS 18 36 rfl (by omega) z5 (fun _ _ h=>h) undef rfl
   | 19,ho=>
    cases ho;have fg:aq.tmps.getD 33 undef= .bool true:=hJ2.v hall 15 33 .guard;refine wpOp_off rfl rfl rfl rfl fg ?_;exact hJ2.put hS 19 37 rfl (by omega) z5 (fun _ _ h=>h) undef rfl
   | 20,ho=>
    cases ho;have fg:aq.tmps.getD 33 undef= .bool true:=hJ2.v hall 15 33 .guard;refine wpOp_off rfl rfl rfl rfl fg ?_;exact hJ2.put hS 20 38 rfl (by omega) z5 (fun _ _ h=>h) undef rfl
   | 21,ho=>
    cases ho;have fg:aq.tmps.getD 33 undef= .bool true:=hJ2.v hall 15 33 .guard;refine wpOp_off rfl rfl rfl rfl fg ?_;exact hJ2.put hS 21 39 rfl (by omega) z5 (fun _ _ h=>h) undef rfl
   | 22,ho=>
    cases ho;have fg:aq.tmps.getD 33 undef= .bool true:=hJ2.v hall 15 33 .guard;refine wpOp_off rfl rfl rfl rfl fg ?_;exact hJ2.put hS 22 40 rfl (by omega) z5 (fun _ _ h=>h) undef rfl
   | 23,ho=>
    cases ho;have fg:aq.tmps.getD 33 undef= .bool true:=hJ2.v hall 15 33 .guard;refine wpOp_off rfl rfl rfl rfl fg ?_;exact hJ2.put hS 23 41 rfl (by omega) z5 (fun _ _ h=>h) undef rfl
   | 24,ho=>
    cases ho;refine wpOp_of rfl rfl ?_;have f15:_=Value.bool true:=hJ2.v hall 15 33;have f23:_=undef:=hJ2.v hall 23 41;have hK:=hJ2.gO hS 24 42;generalize InvQ _ _ _ _ _ _=K at hK⊢;clear ho hall hl hJ2 hS;go_simp;exact hK _ rfl
   | 25,ho=>
    cases ho;refine wpOp_of rfl rfl ?_;have f24:_=Value.bool true:=hJ2.v hall 24 42;have hK:=hJ2.gO hS 25 43;generalize InvQ _ _ _ _ _ _=K at hK⊢;clear ho hall hl hJ2 hS;go_simp;exact hK _ rfl
   | 26,ho=>
    cases ho;have fg:aq.tmps.getD 43 undef= .bool true:=hJ2.v hall 25 43 .guard;refine wpOp_off rfl rfl rfl rfl fg ?_;exact hJ2.put hS 26 44 rfl (by omega) z5 (fun _ _ h=>h) undef rfl
   | 27,ho=>
    cases ho;have fg:aq.tmps.getD 43 undef= .bool true:=hJ2.v hall 25 43 .guard;refine wpOp_off rfl rfl rfl rfl fg ?_;exact hJ2.put hS 27 45 rfl (by omega) z5 (fun _ _ h=>h) undef rfl
   | 28,ho=>
    cases ho;have fg:aq.tmps.getD 43 undef= .bool true:=hJ2.v hall 25 43 .guard;refine wpOp_off rfl rfl rfl rfl fg ?_;exact hJ2.put hS 28 46 rfl (by omega) z5 (fun _ _ h=>h) undef rfl
   | 29,ho=>
    cases ho;have fg:aq.tmps.getD 43 undef= .bool true:=hJ2.v hall 25 43 .guard;refine wpOp_off rfl rfl rfl rfl fg ?_;exact hJ2.put hS 29 47 rfl (by omega) z5 (fun _ _ h=>h) undef rfl
   | 30,ho=>
    cases ho;have fg:aq.tmps.getD 43 undef= .bool true:=hJ2.v hall 25 43 .guard;refine wpOp_off rfl rfl rfl rfl fg ?_;exact hJ2.put hS 30 48 rfl (by omega) z5 (fun _ _ h=>h) undef rfl
   | 31,ho=>
    cases ho;refine wpOp_of rfl rfl ?_;have f25:_=Value.bool true:=hJ2.v hall 25 43;have f30:_=undef:=hJ2.v hall 30 48;have hK:=hJ2.gO hS 31 49;generalize InvQ _ _ _ _ _ _=K at hK⊢;clear ho hall hl hJ2 hS;go_simp;exact hK _ rfl
   | iq+32,ho=>simp at ho
 · intro lq aq W hJ hr;obtain⟨z1,z2,z3,z4,z5,z6,z7⟩:=hJ;have hl:=listed_of hr [0,1,2,3,4,5,6,7,8,9,10,11,12,13,14,15,16,17,18,19,20,21,22,23,24,25,26,27,28,29,30,31] [] (by simp) (by kernel_rfl) (by rw[z1];decide);exact hQ aq W z2 z3 (fun e he=>z4 e (by simpa using he)) (z6 31 49 (hl 31 (by simp)) rfl) z5
def VvwB (Be Lb Hb Tb:Nat) (bx bs wa wc:Int) (_B:Nat):Nat→Value→World→Prop
 | 0,v,_=>v= .pointer (some ⟨Hb,0,none⟩)
 | 1,v,_=>v= .int .i64 (wc)
 | 2,v,_=>v= .pointer (some ⟨Be,0,none⟩)
 | 3,v,_=>v= .pointer (some ⟨Be,0,none⟩)
 | 4,v,_=>v= .pointer (some ⟨Be,0,none⟩)
 | 5,v,_=>v= .pointer (some ⟨Be,0,none⟩)
 | 6,v,_=>v= .int .i64 (bx)
 | 7,v,_=>v= .bool (decide (wc<bx))
 | 8,v,_=>v= .bool false
 | 9,v,_=>v= .pointer (some ⟨Tb,0,none⟩)
 | 10,v,_=>v= .int .i64 (bx+bs)
 | 11,v,_=>v= .pointer (some ⟨Lb,0,none⟩)
 | 12,v,_=>v= .int .i64 (wa)
 | 13,v,_=>v= .bool (decide (bx+bs<wa))
 | 14,v,_=>v= .bool true
 | 15,v,_=>v= .bool true
 | 16,v,_=>v=undef
 | 17,v,_=>v=undef
 | 18,v,_=>v=undef
 | 19,v,_=>v=undef
 | 20,v,_=>v=undef
 | 21,v,_=>v=undef
 | 22,v,_=>v=undef
 | 23,v,_=>v=undef
 | 24,v,_=>v= .bool true
 | 25,v,_=>v= .bool true
 | 26,v,_=>v=undef
 | 27,v,_=>v=undef
 | 28,v,_=>v=undef
 | 29,v,_=>v=undef
 | 30,v,_=>v=undef
 | 31,v,_=>v= .bool true
 | _,_,_=>True
theorem vwB {Q:Exit→Act→World→Prop} {Be Lb Hb Tb:Nat} {bx bs wa wc:Int} {bY:Int} {wb:Int} {wd:Int} {w0:World} {a0:Act} {idq:Nat} {t0 t1 t2 t3 t4 t5 t6 t7 t8 t9 t10 t11 t12 t13 t14 t15 t16 t17 t18 t19 t20 t21 t22 t23 t24 t25 t26 t27 t28 t29 t30 t31:TypeId} {q0 q1 q2 q3 q4 q5 q6 q7 q8 q9 q10 q11 q12 q13 q14 q15 q16 q17 q18 q19 q20 q21 q22 q23 q24 q25 q26 q27 q28 q29 q30 q31:String}
 (d1:Hid (decide (wc<bx)=false)) (d2:Hid (decide (bx+bs<wa)=true)) (h1:a0.tmps[1]? =some (.pointer (some ⟨Be,0,none⟩))) (h7:a0.tmps[7]? =some (.pointer (some ⟨Lb,0,none⟩))) (h8:a0.tmps[8]? =some (.pointer (some ⟨Hb,0,none⟩))) (h11:a0.tmps[11]? =some (.pointer (some ⟨Tb,0,none⟩))) (k0:w0.cell? ⟨Hb,0,none⟩=some (.int .i64 wc)) (l0:(⟨Hb,0,none⟩:Addr).block<w0.heap.size) (k1:w0.cell? ⟨Hb,1,none⟩=some (.int .i64 wd)) (l1:(⟨Hb,1,none⟩:Addr).block<w0.heap.size) (k2:w0.cell? ⟨Lb,0,none⟩=some (.int .i64 wa)) (l2:(⟨Lb,0,none⟩:Addr).block<w0.heap.size) (k3:w0.cell? ⟨Lb,1,none⟩=some (.int .i64 wb)) (l3:(⟨Lb,1,none⟩:Addr).block<w0.heap.size) (k4:w0.cell? ⟨Tb,0,none⟩=some (.int .i64 (bx+bs))) (l4:(⟨Tb,0,none⟩:Addr).block<w0.heap.size) (k5:w0.cell? ⟨Tb,1,none⟩=some (.int .i64 (bY+bs))) (l5:(⟨Tb,1,none⟩:Addr).block<w0.heap.size) (k6:w0.cell? ⟨Be,0,none⟩=some (.int .i64 bx)) (l6:(⟨Be,0,none⟩:Addr).block<w0.heap.size) (k7:w0.cell? ⟨Be,1,none⟩=some (.int .i64 bY)) (l7:(⟨Be,1,none⟩:Addr).block<w0.heap.size) (hz:a0.tmps.size=87)
 (hQ:∀aq W,aq.tmps.size=a0.tmps.size→aq.defers=a0.defers→(∀e,e∉([18,19,20,21,22,23,24,25,26,27,28,29,30,31,32,33,34,35,36,37,38,39,40,41,42,43,44,45,46,47,48,49]:List Nat)→aq.tmps[e]? =a0.tmps[e]?)→VvwB Be Lb Hb Tb bx bs wa wc w0.heap.size 31 (aq.tmps.getD 49 undef) W→Below w0.heap.size w0 W→Q .normal aq W) :
 (Code.region idq #[⟨some 18,.fieldAddr 29 (.tmp 8) 0,t0,q0,#[],none⟩,
 ⟨some 19,.load 2 (.tmp 18),t1,q1,#[⟨0,.data⟩],none⟩,
 ⟨some 20,.move (.tmp 1),t2,q2,#[],none⟩,
 ⟨some 21,.nilCheck (.tmp 20),t3,q3,#[⟨2,.data⟩],none⟩,
 ⟨some 22,.fieldAddr 83 (.tmp 21) 0,t4,q4,#[⟨3,.data⟩],none⟩,
 ⟨some 23,.fieldAddr 29 (.tmp 22) 0,t5,q5,#[⟨4,.data⟩],none⟩,
 ⟨some 24,.load 2 (.tmp 23),t6,q6,#[⟨5,.data⟩],none⟩,
 ⟨some 25,.binOp .lss 2 (.tmp 19) (.tmp 24) 2,t7,q7,#[⟨1,.data⟩,⟨6,.data⟩],none⟩,
 ⟨some 26,.move (.tmp 25),t8,q8,#[⟨7,.data⟩],none⟩,
 ⟨some 27,.fieldAddr 29 (.tmp 11) 0,t9,q9,#[⟨8,.guard⟩],some (8,false)⟩,
 ⟨some 28,.load 2 (.tmp 27),t10,q10,#[⟨9,.data⟩,⟨8,.guard⟩],some (8,false)⟩,
 ⟨some 29,.fieldAddr 29 (.tmp 7) 0,t11,q11,#[⟨8,.guard⟩],some (8,false)⟩,
 ⟨some 30,.load 2 (.tmp 29),t12,q12,#[⟨11,.data⟩,⟨8,.guard⟩],some (8,false)⟩,
 ⟨some 31,.binOp .lss 2 (.tmp 28) (.tmp 30) 2,t13,q13,#[⟨10,.data⟩,⟨12,.data⟩,⟨8,.guard⟩],some (8,false)⟩,
 ⟨some 32,.pick (.tmp 26) (.const (.bool true)) (.tmp 31),t14,q14,#[⟨8,.data⟩,⟨13,.data⟩],none⟩,
 ⟨some 33,.move (.tmp 32),t15,q15,#[⟨14,.data⟩,⟨8,.chain⟩],none⟩,
 ⟨some 34,.fieldAddr 29 (.tmp 8) 1,t16,q16,#[⟨15,.guard⟩],some (15,false)⟩,
 ⟨some 35,.load 2 (.tmp 34),t17,q17,#[⟨16,.data⟩,⟨15,.guard⟩],some (15,false)⟩,
 ⟨some 36,.move (.tmp 1),t18,q18,#[⟨15,.guard⟩],some (15,false)⟩,
 ⟨some 37,.nilCheck (.tmp 36),t19,q19,#[⟨18,.data⟩,⟨15,.guard⟩],some (15,false)⟩,
 ⟨some 38,.fieldAddr 83 (.tmp 37) 0,t20,q20,#[⟨19,.data⟩,⟨15,.guard⟩],some (15,false)⟩,
 ⟨some 39,.fieldAddr 29 (.tmp 38) 1,t21,q21,#[⟨20,.data⟩,⟨15,.guard⟩],some (15,false)⟩,
 ⟨some 40,.load 2 (.tmp 39),t22,q22,#[⟨21,.data⟩,⟨15,.guard⟩],some (15,false)⟩,
 ⟨some 41,.binOp .lss 2 (.tmp 35) (.tmp 40) 2,t23,q23,#[⟨17,.data⟩,⟨22,.data⟩,⟨15,.guard⟩],some (15,false)⟩,
 ⟨some 42,.pick (.tmp 33) (.const (.bool true)) (.tmp 41),t24,q24,#[⟨15,.data⟩,⟨23,.data⟩],none⟩,
 ⟨some 43,.move (.tmp 42),t25,q25,#[⟨24,.data⟩,⟨15,.chain⟩],none⟩,
 ⟨some 44,.fieldAddr 29 (.tmp 11) 1,t26,q26,#[⟨25,.guard⟩],some (25,false)⟩,
 ⟨some 45,.load 2 (.tmp 44),t27,q27,#[⟨26,.data⟩,⟨25,.guard⟩],some (25,false)⟩,
 ⟨some 46,.fieldAddr 29 (.tmp 7) 1,t28,q28,#[⟨25,.guard⟩],some (25,false)⟩,
 ⟨some 47,.load 2 (.tmp 46),t29,q29,#[⟨28,.data⟩,⟨25,.guard⟩],some (25,false)⟩,
 ⟨some 48,.binOp .lss 2 (.tmp 45) (.tmp 47) 2,t30,q30,#[⟨27,.data⟩,⟨29,.data⟩,⟨25,.guard⟩],some (25,false)⟩,
 ⟨some 49,.pick (.tmp 43) (.const (.bool true)) (.tmp 48),t31,q31,#[⟨25,.data⟩,⟨30,.data⟩],none⟩] true).wp Tryz.prog Q a0 w0:=by
 have hS:distS [some 18,some 19,some 20,some 21,some 22,some 23,some 24,some 25,some 26,some 27,some 28,some 29,some 30,some 31,some 32,some 33,some 34,some 35,some 36,some 37,some 38,some 39,some 40,some 41,some 42,some 43,some 44,some 45,some 46,some 47,some 48,some 49]=true:=rfl;refine wp_region_q (by kernel_rfl) w0.heap.size [some 18,some 19,some 20,some 21,some 22,some 23,some 24,some 25,some 26,some 27,some 28,some 29,some 30,some 31,some 32,some 33,some 34,some 35,some 36,some 37,some 38,some 39,some 40,some 41,some 42,some 43,some 44,some 45,some 46,some 47,some 48,some 49] (VvwB Be Lb Hb Tb bx bs wa wc w0.heap.size) rfl ?_ ?_
 · intro Q lq aq W iq oq hJ2 hl ho hall;have z5:=hJ2.b;have g1:=hJ2.a h1
   have g7:=hJ2.a h7
   have g8:=hJ2.a h8
   have g11:=hJ2.a h11
   have c0:=hJ2.c k0 l0;have c1:=hJ2.c k1 l1;have c2:=hJ2.c k2 l2;have c3:=hJ2.c k3 l3;have c4:=hJ2.c k4 l4;have c5:=hJ2.c k5 l5;have c6:=hJ2.c k6 l6;have c7:=hJ2.c k7 l7
   clear hQ
   match iq,ho with
   | 0,ho=>
    cases ho;refine wpOp_of rfl rfl ?_;have hK:=hJ2.gO hS 0 18;generalize InvQ _ _ _ _ _ _=K at hK⊢;clear ho hall hl hJ2 hS;go_simp;exact hK _ rfl
   | 1,ho=>
    cases ho;refine wpOp_of rfl rfl ?_;have f0:_=Value.pointer (some ⟨Hb,0,none⟩):=hJ2.v hall 0 18;have hK:=hJ2.gO hS 1 19;generalize InvQ _ _ _ _ _ _=K at hK⊢;clear ho hall hl hJ2 hS;go_simp;exact hK _ rfl
   | 2,ho=>
    cases ho;refine wpOp_of rfl rfl ?_;have hK:=hJ2.gO hS 2 20;generalize InvQ _ _ _ _ _ _=K at hK⊢;clear ho hall hl hJ2 hS;go_simp;exact hK _ rfl
   | 3,ho=>
    cases ho;refine wpOp_of rfl rfl ?_;have f2:_=Value.pointer (some ⟨Be,0,none⟩):=hJ2.v hall 2 20;have hK:=hJ2.gO hS 3 21;generalize InvQ _ _ _ _ _ _=K at hK⊢;clear ho hall hl hJ2 hS;go_simp;exact hK _ rfl
   | 4,ho=>
    cases ho;refine wpOp_of rfl rfl ?_;have f3:_=Value.pointer (some ⟨Be,0,none⟩):=hJ2.v hall 3 21;have hK:=hJ2.gO hS 4 22;generalize InvQ _ _ _ _ _ _=K at hK⊢;clear ho hall hl hJ2 hS;go_simp;exact hK _ rfl
   | 5,ho=>
    cases ho;refine wpOp_of rfl rfl ?_;have f4:_=Value.pointer (some ⟨Be,0,none⟩):=hJ2.v hall 4 22;have hK:=hJ2.gO hS 5 23;generalize InvQ _ _ _ _ _ _=K at hK⊢;clear ho hall hl hJ2 hS;go_simp;exact hK _ rfl
   | 6,ho=>
    cases ho;refine wpOp_of rfl rfl ?_;have f5:_=Value.pointer (some ⟨Be,0,none⟩):=hJ2.v hall 5 23;have hK:=hJ2.gO hS 6 24;generalize InvQ _ _ _ _ _ _=K at hK⊢;clear ho hall hl hJ2 hS;go_simp;exact hK _ rfl
   | 7,ho=>
    cases ho;refine wpOp_of rfl rfl ?_;have f1:_=Value.int .i64 (wc):=hJ2.v hall 1 19;have f6:_=Value.int .i64 (bx):=hJ2.v hall 6 24;have hK:=hJ2.gO hS 7 25;generalize InvQ _ _ _ _ _ _=K at hK⊢;clear ho hall hl hJ2 hS;go_simp;exact hK _ rfl
   | 8,ho=>
    cases ho;refine wpOp_of rfl rfl ?_;have f7:_=Value.bool (decide (wc<bx)):=hJ2.v hall 7 25;rw[d1.out] at f7;have hK:=hJ2.gO hS 8 26;generalize InvQ _ _ _ _ _ _=K at hK⊢;clear ho hall hl hJ2 hS;go_simp;exact hK _ rfl
   | 9,ho=>
    cases ho;have fg:aq.tmps.getD 26 undef= .bool false:=hJ2.v hall 8 26 .guard;refine wpOp_on rfl rfl rfl rfl fg ?_;have hK:=hJ2.gO hS 9 27;generalize InvQ _ _ _ _ _ _=K at hK⊢;clear ho hall hl hJ2 hS;go_simp;exact hK _ rfl
   | 10,ho=>
    cases ho;have fg:aq.tmps.getD 26 undef= .bool false:=hJ2.v hall 8 26 .guard;refine wpOp_on rfl rfl rfl rfl fg ?_;have f9:_=Value.pointer (some ⟨Tb,0,none⟩):=hJ2.v hall 9 27;have hK:=hJ2.gO hS 10 28;generalize InvQ _ _ _ _ _ _=K at hK⊢;clear ho hall hl hJ2 hS;go_simp;exact hK _ rfl
   | 11,ho=>
    cases ho;have fg:aq.tmps.getD 26 undef= .bool false:=hJ2.v hall 8 26 .guard;refine wpOp_on rfl rfl rfl rfl fg ?_;have hK:=hJ2.gO hS 11 29;generalize InvQ _ _ _ _ _ _=K at hK⊢;clear ho hall hl hJ2 hS;go_simp;exact hK _ rfl
   | 12,ho=>
    cases ho;have fg:aq.tmps.getD 26 undef= .bool false:=hJ2.v hall 8 26 .guard;refine wpOp_on rfl rfl rfl rfl fg ?_;have f11:_=Value.pointer (some ⟨Lb,0,none⟩):=hJ2.v hall 11 29;have hK:=hJ2.gO hS 12 30;generalize InvQ _ _ _ _ _ _=K at hK⊢;clear ho hall hl hJ2 hS;go_simp;exact hK _ rfl
   | 13,ho=>
    cases ho;have fg:aq.tmps.getD 26 undef= .bool false:=hJ2.v hall 8 26 .guard;refine wpOp_on rfl rfl rfl rfl fg ?_;have f10:_=Value.int .i64 (bx+bs):=hJ2.v hall 10 28;have f12:_=Value.int .i64 (wa):=hJ2.v hall 12 30;have hK:=hJ2.gO hS 13 31;generalize InvQ _ _ _ _ _ _=K at hK⊢;clear ho hall hl hJ2 hS;go_simp;exact hK _ rfl
   | 14,ho=>
    cases ho;refine wpOp_of rfl rfl ?_;have f8:_=Value.bool false:=hJ2.v hall 8 26;have f13:_=Value.bool (decide (bx+bs<wa)):=hJ2.v hall 13 31;rw[d2.out] at f13;have hK:=hJ2.gO hS 14 32;generalize InvQ _ _ _ _ _ _=K at hK⊢;clear ho hall hl hJ2 hS;go_simp;exact hK _ rfl
   | 15,ho=>
    cases ho;refine wpOp_of rfl rfl ?_;have f14:_=Value.bool true:=hJ2.v hall 14 32;have hK:=hJ2.gO hS 15 33;generalize InvQ _ _ _ _ _ _=K at hK⊢;clear ho hall hl hJ2 hS;go_simp;exact hK _ rfl
   | 16,ho=>
    cases ho;have fg:aq.tmps.getD 33 undef= .bool true:=hJ2.v hall 15 33 .guard;refine wpOp_off rfl rfl rfl rfl fg ?_;exact hJ2.put hS 16 34 rfl (by omega) z5 (fun _ _ h=>h) undef rfl
   | 17,ho=>
    cases ho;have fg:aq.tmps.getD 33 undef= .bool true:=hJ2.v hall 15 33 .guard;refine wpOp_off rfl rfl rfl rfl fg ?_;exact hJ2.put hS 17 35 rfl (by omega) z5 (fun _ _ h=>h) undef rfl
   | 18,ho=>
    cases ho;have fg:aq.tmps.getD 33 undef= .bool true:=hJ2.v hall 15 33 .guard;refine wpOp_off rfl rfl rfl rfl fg ?_;exact hJ2.put hS 18 36 rfl (by omega) z5 (fun _ _ h=>h) undef rfl
   | 19,ho=>
    cases ho;have fg:aq.tmps.getD 33 undef= .bool true:=hJ2.v hall 15 33 .guard;refine wpOp_off rfl rfl rfl rfl fg ?_;exact hJ2.put hS 19 37 rfl (by omega) z5 (fun _ _ h=>h) undef rfl
   | 20,ho=>
    cases ho;have fg:aq.tmps.getD 33 undef= .bool true:=hJ2.v hall 15 33 .guard;refine wpOp_off rfl rfl rfl rfl fg ?_;exact hJ2.put hS 20 38 rfl (by omega) z5 (fun _ _ h=>h) undef rfl
   | 21,ho=>
    cases ho;have fg:aq.tmps.getD 33 undef= .bool true:=hJ2.v hall 15 33 .guard;refine wpOp_off rfl rfl rfl rfl fg ?_;exact hJ2.put hS 21 39 rfl (by omega) z5 (fun _ _ h=>h) undef rfl
   | 22,ho=>
    cases ho;have fg:aq.tmps.getD 33 undef= .bool true:=hJ2.v hall 15 33 .guard;refine wpOp_off rfl rfl rfl rfl fg ?_;exact hJ2.put hS 22 40 rfl (by omega) z5 (fun _ _ h=>h) undef rfl
   | 23,ho=>
    cases ho;have fg:aq.tmps.getD 33 undef= .bool true:=hJ2.v hall 15 33 .guard;refine wpOp_off rfl rfl rfl rfl fg ?_;exact hJ2.put hS 23 41 rfl (by omega) z5 (fun _ _ h=>h) undef rfl
   | 24,ho=>
    cases ho;refine wpOp_of rfl rfl ?_;have f15:_=Value.bool true:=hJ2.v hall 15 33;have f23:_=undef:=hJ2.v hall 23 41;have hK:=hJ2.gO hS 24 42;generalize InvQ _ _ _ _ _ _=K at hK⊢;clear ho hall hl hJ2 hS;go_simp;exact hK _ rfl
   | 25,ho=>
    cases ho;refine wpOp_of rfl rfl ?_;have f24:_=Value.bool true:=hJ2.v hall 24 42;have hK:=hJ2.gO hS 25 43;generalize InvQ _ _ _ _ _ _=K at hK⊢;clear ho hall hl hJ2 hS;go_simp;exact hK _ rfl
   | 26,ho=>
    cases ho;have fg:aq.tmps.getD 43 undef= .bool true:=hJ2.v hall 25 43 .guard;refine wpOp_off rfl rfl rfl rfl fg ?_;exact hJ2.put hS 26 44 rfl (by omega) z5 (fun _ _ h=>h) undef rfl
   | 27,ho=>
    cases ho;have fg:aq.tmps.getD 43 undef= .bool true:=hJ2.v hall 25 43 .guard;refine wpOp_off rfl rfl rfl rfl fg ?_;exact hJ2.put hS 27 45 rfl (by omega) z5 (fun _ _ h=>h) undef rfl
   | 28,ho=>
    cases ho;have fg:aq.tmps.getD 43 undef= .bool true:=hJ2.v hall 25 43 .guard;refine wpOp_off rfl rfl rfl rfl fg ?_;exact hJ2.put hS 28 46 rfl (by omega) z5 (fun _ _ h=>h) undef rfl
   | 29,ho=>
    cases ho;have fg:aq.tmps.getD 43 undef= .bool true:=hJ2.v hall 25 43 .guard;refine wpOp_off rfl rfl rfl rfl fg ?_;exact hJ2.put hS 29 47 rfl (by omega) z5 (fun _ _ h=>h) undef rfl
   | 30,ho=>
    cases ho;have fg:aq.tmps.getD 43 undef= .bool true:=hJ2.v hall 25 43 .guard;refine wpOp_off rfl rfl rfl rfl fg ?_;exact hJ2.put hS 30 48 rfl (by omega) z5 (fun _ _ h=>h) undef rfl
   | 31,ho=>
    cases ho;refine wpOp_of rfl rfl ?_;have f25:_=Value.bool true:=hJ2.v hall 25 43;have f30:_=undef:=hJ2.v hall 30 48;have hK:=hJ2.gO hS 31 49;generalize InvQ _ _ _ _ _ _=K at hK⊢;clear ho hall hl hJ2 hS;go_simp;exact hK _ rfl
   | iq+32,ho=>simp at ho
 · intro lq aq W hJ hr;obtain⟨z1,z2,z3,z4,z5,z6,z7⟩:=hJ;have hl:=listed_of hr [0,1,2,3,4,5,6,7,8,9,10,11,12,13,14,15,16,17,18,19,20,21,22,23,24,25,26,27,28,29,30,31] [] (by simp) (by kernel_rfl) (by rw[z1];decide);exact hQ aq W z2 z3 (fun e he=>z4 e (by simpa using he)) (z6 31 49 (hl 31 (by simp)) rfl) z5
def VvwC (Be Lb Hb Tb:Nat) (bx bY bs wa wc wd:Int) (_B:Nat):Nat→Value→World→Prop
 | 0,v,_=>v= .pointer (some ⟨Hb,0,none⟩)
 | 1,v,_=>v= .int .i64 (wc)
 | 2,v,_=>v= .pointer (some ⟨Be,0,none⟩)
 | 3,v,_=>v= .pointer (some ⟨Be,0,none⟩)
 | 4,v,_=>v= .pointer (some ⟨Be,0,none⟩)
 | 5,v,_=>v= .pointer (some ⟨Be,0,none⟩)
 | 6,v,_=>v= .int .i64 (bx)
 | 7,v,_=>v= .bool (decide (wc<bx))
 | 8,v,_=>v= .bool false
 | 9,v,_=>v= .pointer (some ⟨Tb,0,none⟩)
 | 10,v,_=>v= .int .i64 (bx+bs)
 | 11,v,_=>v= .pointer (some ⟨Lb,0,none⟩)
 | 12,v,_=>v= .int .i64 (wa)
 | 13,v,_=>v= .bool (decide (bx+bs<wa))
 | 14,v,_=>v= .bool false
 | 15,v,_=>v= .bool false
 | 16,v,_=>v= .pointer (some ⟨Hb,1,none⟩)
 | 17,v,_=>v= .int .i64 (wd)
 | 18,v,_=>v= .pointer (some ⟨Be,0,none⟩)
 | 19,v,_=>v= .pointer (some ⟨Be,0,none⟩)
 | 20,v,_=>v= .pointer (some ⟨Be,0,none⟩)
 | 21,v,_=>v= .pointer (some ⟨Be,1,none⟩)
 | 22,v,_=>v= .int .i64 (bY)
 | 23,v,_=>v= .bool (decide (wd<bY))
 | 24,v,_=>v= .bool true
 | 25,v,_=>v= .bool true
 | 26,v,_=>v=undef
 | 27,v,_=>v=undef
 | 28,v,_=>v=undef
 | 29,v,_=>v=undef
 | 30,v,_=>v=undef
 | 31,v,_=>v= .bool true
 | _,_,_=>True
theorem vwC {Q:Exit→Act→World→Prop} {Be Lb Hb Tb:Nat} {bx bY bs wa wc wd:Int} {wb:Int} {w0:World} {a0:Act} {idq:Nat} {t0 t1 t2 t3 t4 t5 t6 t7 t8 t9 t10 t11 t12 t13 t14 t15 t16 t17 t18 t19 t20 t21 t22 t23 t24 t25 t26 t27 t28 t29 t30 t31:TypeId} {q0 q1 q2 q3 q4 q5 q6 q7 q8 q9 q10 q11 q12 q13 q14 q15 q16 q17 q18 q19 q20 q21 q22 q23 q24 q25 q26 q27 q28 q29 q30 q31:String}
 (d1:Hid (decide (wc<bx)=false)) (d2:Hid (decide (bx+bs<wa)=false)) (d3:Hid (decide (wd<bY)=true)) (h1:a0.tmps[1]? =some (.pointer (some ⟨Be,0,none⟩))) (h7:a0.tmps[7]? =some (.pointer (some ⟨Lb,0,none⟩))) (h8:a0.tmps[8]? =some (.pointer (some ⟨Hb,0,none⟩))) (h11:a0.tmps[11]? =some (.pointer (some ⟨Tb,0,none⟩))) (k0:w0.cell? ⟨Hb,0,none⟩=some (.int .i64 wc)) (l0:(⟨Hb,0,none⟩:Addr).block<w0.heap.size) (k1:w0.cell? ⟨Hb,1,none⟩=some (.int .i64 wd)) (l1:(⟨Hb,1,none⟩:Addr).block<w0.heap.size) (k2:w0.cell? ⟨Lb,0,none⟩=some (.int .i64 wa)) (l2:(⟨Lb,0,none⟩:Addr).block<w0.heap.size) (k3:w0.cell? ⟨Lb,1,none⟩=some (.int .i64 wb)) (l3:(⟨Lb,1,none⟩:Addr).block<w0.heap.size) (k4:w0.cell? ⟨Tb,0,none⟩=some (.int .i64 (bx+bs))) (l4:(⟨Tb,0,none⟩:Addr).block<w0.heap.size) (k5:w0.cell? ⟨Tb,1,none⟩=some (.int .i64 (bY+bs))) (l5:(⟨Tb,1,none⟩:Addr).block<w0.heap.size) (k6:w0.cell? ⟨Be,0,none⟩=some (.int .i64 bx)) (l6:(⟨Be,0,none⟩:Addr).block<w0.heap.size) (k7:w0.cell? ⟨Be,1,none⟩=some (.int .i64 bY)) (l7:(⟨Be,1,none⟩:Addr).block<w0.heap.size) (hz:a0.tmps.size=87)
 (hQ:∀aq W,aq.tmps.size=a0.tmps.size→aq.defers=a0.defers→(∀e,e∉([18,19,20,21,22,23,24,25,26,27,28,29,30,31,32,33,34,35,36,37,38,39,40,41,42,43,44,45,46,47,48,49]:List Nat)→aq.tmps[e]? =a0.tmps[e]?)→VvwC Be Lb Hb Tb bx bY bs wa wc wd w0.heap.size 31 (aq.tmps.getD 49 undef) W→Below w0.heap.size w0 W→Q .normal aq W) :
 (Code.region idq #[⟨some 18,.fieldAddr 29 (.tmp 8) 0,t0,q0,#[],none⟩,
 ⟨some 19,.load 2 (.tmp 18),t1,q1,#[⟨0,.data⟩],none⟩,
 ⟨some 20,.move (.tmp 1),t2,q2,#[],none⟩,
 ⟨some 21,.nilCheck (.tmp 20),t3,q3,#[⟨2,.data⟩],none⟩,
 ⟨some 22,.fieldAddr 83 (.tmp 21) 0,t4,q4,#[⟨3,.data⟩],none⟩,
 ⟨some 23,.fieldAddr 29 (.tmp 22) 0,t5,q5,#[⟨4,.data⟩],none⟩,
 ⟨some 24,.load 2 (.tmp 23),t6,q6,#[⟨5,.data⟩],none⟩,
 ⟨some 25,.binOp .lss 2 (.tmp 19) (.tmp 24) 2,t7,q7,#[⟨1,.data⟩,⟨6,.data⟩],none⟩,
 ⟨some 26,.move (.tmp 25),t8,q8,#[⟨7,.data⟩],none⟩,
 ⟨some 27,.fieldAddr 29 (.tmp 11) 0,t9,q9,#[⟨8,.guard⟩],some (8,false)⟩,
 ⟨some 28,.load 2 (.tmp 27),t10,q10,#[⟨9,.data⟩,⟨8,.guard⟩],some (8,false)⟩,
 ⟨some 29,.fieldAddr 29 (.tmp 7) 0,t11,q11,#[⟨8,.guard⟩],some (8,false)⟩,
 ⟨some 30,.load 2 (.tmp 29),t12,q12,#[⟨11,.data⟩,⟨8,.guard⟩],some (8,false)⟩,
 ⟨some 31,.binOp .lss 2 (.tmp 28) (.tmp 30) 2,t13,q13,#[⟨10,.data⟩,⟨12,.data⟩,⟨8,.guard⟩],some (8,false)⟩,
 ⟨some 32,.pick (.tmp 26) (.const (.bool true)) (.tmp 31),t14,q14,#[⟨8,.data⟩,⟨13,.data⟩],none⟩,
 ⟨some 33,.move (.tmp 32),t15,q15,#[⟨14,.data⟩,⟨8,.chain⟩],none⟩,
 ⟨some 34,.fieldAddr 29 (.tmp 8) 1,t16,q16,#[⟨15,.guard⟩],some (15,false)⟩,
 ⟨some 35,.load 2 (.tmp 34),t17,q17,#[⟨16,.data⟩,⟨15,.guard⟩],some (15,false)⟩,
 ⟨some 36,.move (.tmp 1),t18,q18,#[⟨15,.guard⟩],some (15,false)⟩,
 ⟨some 37,.nilCheck (.tmp 36),t19,q19,#[⟨18,.data⟩,⟨15,.guard⟩],some (15,false)⟩,
 ⟨some 38,.fieldAddr 83 (.tmp 37) 0,t20,q20,#[⟨19,.data⟩,⟨15,.guard⟩],some (15,false)⟩,
 ⟨some 39,.fieldAddr 29 (.tmp 38) 1,t21,q21,#[⟨20,.data⟩,⟨15,.guard⟩],some (15,false)⟩,
 ⟨some 40,.load 2 (.tmp 39),t22,q22,#[⟨21,.data⟩,⟨15,.guard⟩],some (15,false)⟩,
 ⟨some 41,.binOp .lss 2 (.tmp 35) (.tmp 40) 2,t23,q23,#[⟨17,.data⟩,⟨22,.data⟩,⟨15,.guard⟩],some (15,false)⟩,
 ⟨some 42,.pick (.tmp 33) (.const (.bool true)) (.tmp 41),t24,q24,#[⟨15,.data⟩,⟨23,.data⟩],none⟩,
 ⟨some 43,.move (.tmp 42),t25,q25,#[⟨24,.data⟩,⟨15,.chain⟩],none⟩,
 ⟨some 44,.fieldAddr 29 (.tmp 11) 1,t26,q26,#[⟨25,.guard⟩],some (25,false)⟩,
 ⟨some 45,.load 2 (.tmp 44),t27,q27,#[⟨26,.data⟩,⟨25,.guard⟩],some (25,false)⟩,
 ⟨some 46,.fieldAddr 29 (.tmp 7) 1,t28,q28,#[⟨25,.guard⟩],some (25,false)⟩,
 ⟨some 47,.load 2 (.tmp 46),t29,q29,#[⟨28,.data⟩,⟨25,.guard⟩],some (25,false)⟩,
 ⟨some 48,.binOp .lss 2 (.tmp 45) (.tmp 47) 2,t30,q30,#[⟨27,.data⟩,⟨29,.data⟩,⟨25,.guard⟩],some (25,false)⟩,
 ⟨some 49,.pick (.tmp 43) (.const (.bool true)) (.tmp 48),t31,q31,#[⟨25,.data⟩,⟨30,.data⟩],none⟩] true).wp Tryz.prog Q a0 w0:=by
 have hS:distS [some 18,some 19,some 20,some 21,some 22,some 23,some 24,some 25,some 26,some 27,some 28,some 29,some 30,some 31,some 32,some 33,some 34,some 35,some 36,some 37,some 38,some 39,some 40,some 41,some 42,some 43,some 44,some 45,some 46,some 47,some 48,some 49]=true:=rfl;refine wp_region_q (by kernel_rfl) w0.heap.size [some 18,some 19,some 20,some 21,some 22,some 23,some 24,some 25,some 26,some 27,some 28,some 29,some 30,some 31,some 32,some 33,some 34,some 35,some 36,some 37,some 38,some 39,some 40,some 41,some 42,some 43,some 44,some 45,some 46,some 47,some 48,some 49] (VvwC Be Lb Hb Tb bx bY bs wa wc wd w0.heap.size) rfl ?_ ?_
 · intro Q lq aq W iq oq hJ2 hl ho hall;have z5:=hJ2.b;have g1:=hJ2.a h1
   have g7:=hJ2.a h7
   have g8:=hJ2.a h8
   have g11:=hJ2.a h11
   have c0:=hJ2.c k0 l0;have c1:=hJ2.c k1 l1;have c2:=hJ2.c k2 l2;have c3:=hJ2.c k3 l3;have c4:=hJ2.c k4 l4;have c5:=hJ2.c k5 l5;have c6:=hJ2.c k6 l6;have c7:=hJ2.c k7 l7
   clear hQ
   match iq,ho with
   | 0,ho=>
    cases ho;refine wpOp_of rfl rfl ?_;have hK:=hJ2.gO hS 0 18;generalize InvQ _ _ _ _ _ _=K at hK⊢;clear ho hall hl hJ2 hS;go_simp;exact hK _ rfl
   | 1,ho=>
    cases ho;refine wpOp_of rfl rfl ?_;have f0:_=Value.pointer (some ⟨Hb,0,none⟩):=hJ2.v hall 0 18;have hK:=hJ2.gO hS 1 19;generalize InvQ _ _ _ _ _ _=K at hK⊢;clear ho hall hl hJ2 hS;go_simp;exact hK _ rfl
   | 2,ho=>
    cases ho;refine wpOp_of rfl rfl ?_;have hK:=hJ2.gO hS 2 20;generalize InvQ _ _ _ _ _ _=K at hK⊢;clear ho hall hl hJ2 hS;go_simp;exact hK _ rfl
   | 3,ho=>
    cases ho;refine wpOp_of rfl rfl ?_;have f2:_=Value.pointer (some ⟨Be,0,none⟩):=hJ2.v hall 2 20;have hK:=hJ2.gO hS 3 21;generalize InvQ _ _ _ _ _ _=K at hK⊢;clear ho hall hl hJ2 hS;go_simp;exact hK _ rfl
   | 4,ho=>
    cases ho;refine wpOp_of rfl rfl ?_;have f3:_=Value.pointer (some ⟨Be,0,none⟩):=hJ2.v hall 3 21;have hK:=hJ2.gO hS 4 22;generalize InvQ _ _ _ _ _ _=K at hK⊢;clear ho hall hl hJ2 hS;go_simp;exact hK _ rfl
   | 5,ho=>
    cases ho;refine wpOp_of rfl rfl ?_;have f4:_=Value.pointer (some ⟨Be,0,none⟩):=hJ2.v hall 4 22;have hK:=hJ2.gO hS 5 23;generalize InvQ _ _ _ _ _ _=K at hK⊢;clear ho hall hl hJ2 hS;go_simp;exact hK _ rfl
   | 6,ho=>
    cases ho;refine wpOp_of rfl rfl ?_;have f5:_=Value.pointer (some ⟨Be,0,none⟩):=hJ2.v hall 5 23;have hK:=hJ2.gO hS 6 24;generalize InvQ _ _ _ _ _ _=K at hK⊢;clear ho hall hl hJ2 hS;go_simp;exact hK _ rfl
   | 7,ho=>
    cases ho;refine wpOp_of rfl rfl ?_;have f1:_=Value.int .i64 (wc):=hJ2.v hall 1 19;have f6:_=Value.int .i64 (bx):=hJ2.v hall 6 24;have hK:=hJ2.gO hS 7 25;generalize InvQ _ _ _ _ _ _=K at hK⊢;clear ho hall hl hJ2 hS;go_simp;exact hK _ rfl
   | 8,ho=>
    cases ho;refine wpOp_of rfl rfl ?_;have f7:_=Value.bool (decide (wc<bx)):=hJ2.v hall 7 25;rw[d1.out] at f7;have hK:=hJ2.gO hS 8 26;generalize InvQ _ _ _ _ _ _=K at hK⊢;clear ho hall hl hJ2 hS;go_simp;exact hK _ rfl
   | 9,ho=>
    cases ho;have fg:aq.tmps.getD 26 undef= .bool false:=hJ2.v hall 8 26 .guard;refine wpOp_on rfl rfl rfl rfl fg ?_;have hK:=hJ2.gO hS 9 27;generalize InvQ _ _ _ _ _ _=K at hK⊢;clear ho hall hl hJ2 hS;go_simp;exact hK _ rfl
   | 10,ho=>
    cases ho;have fg:aq.tmps.getD 26 undef= .bool false:=hJ2.v hall 8 26 .guard;refine wpOp_on rfl rfl rfl rfl fg ?_;have f9:_=Value.pointer (some ⟨Tb,0,none⟩):=hJ2.v hall 9 27;have hK:=hJ2.gO hS 10 28;generalize InvQ _ _ _ _ _ _=K at hK⊢;clear ho hall hl hJ2 hS;go_simp;exact hK _ rfl
   | 11,ho=>
    cases ho;have fg:aq.tmps.getD 26 undef= .bool false:=hJ2.v hall 8 26 .guard;refine wpOp_on rfl rfl rfl rfl fg ?_;have hK:=hJ2.gO hS 11 29;generalize InvQ _ _ _ _ _ _=K at hK⊢;clear ho hall hl hJ2 hS;go_simp;exact hK _ rfl
   | 12,ho=>
    cases ho;have fg:aq.tmps.getD 26 undef= .bool false:=hJ2.v hall 8 26 .guard;refine wpOp_on rfl rfl rfl rfl fg ?_;have f11:_=Value.pointer (some ⟨Lb,0,none⟩):=hJ2.v hall 11 29;have hK:=hJ2.gO hS 12 30;generalize InvQ _ _ _ _ _ _=K at hK⊢;clear ho hall hl hJ2 hS;go_simp;exact hK _ rfl
   | 13,ho=>
    cases ho;have fg:aq.tmps.getD 26 undef= .bool false:=hJ2.v hall 8 26 .guard;refine wpOp_on rfl rfl rfl rfl fg ?_;have f10:_=Value.int .i64 (bx+bs):=hJ2.v hall 10 28;have f12:_=Value.int .i64 (wa):=hJ2.v hall 12 30;have hK:=hJ2.gO hS 13 31;generalize InvQ _ _ _ _ _ _=K at hK⊢;clear ho hall hl hJ2 hS;go_simp;exact hK _ rfl
   | 14,ho=>
    cases ho;refine wpOp_of rfl rfl ?_;have f8:_=Value.bool false:=hJ2.v hall 8 26;have f13:_=Value.bool (decide (bx+bs<wa)):=hJ2.v hall 13 31;rw[d2.out] at f13;have hK:=hJ2.gO hS 14 32;generalize InvQ _ _ _ _ _ _=K at hK⊢;clear ho hall hl hJ2 hS;go_simp;exact hK _ rfl
   | 15,ho=>
    cases ho;refine wpOp_of rfl rfl ?_;have f14:_=Value.bool false:=hJ2.v hall 14 32;have hK:=hJ2.gO hS 15 33;generalize InvQ _ _ _ _ _ _=K at hK⊢;clear ho hall hl hJ2 hS;go_simp;exact hK _ rfl
   | 16,ho=>
    cases ho;have fg:aq.tmps.getD 33 undef= .bool false:=hJ2.v hall 15 33 .guard;refine wpOp_on rfl rfl rfl rfl fg ?_;have hK:=hJ2.gO hS 16 34;generalize InvQ _ _ _ _ _ _=K at hK⊢;clear ho hall hl hJ2 hS;go_simp;exact hK _ rfl
   | 17,ho=>
    cases ho;have fg:aq.tmps.getD 33 undef= .bool false:=hJ2.v hall 15 33 .guard;refine wpOp_on rfl rfl rfl rfl fg ?_;have f16:_=Value.pointer (some ⟨Hb,1,none⟩):=hJ2.v hall 16 34;have hK:=hJ2.gO hS 17 35;generalize InvQ _ _ _ _ _ _=K at hK⊢;clear ho hall hl hJ2 hS;go_simp;exact hK _ rfl
   | 18,ho=>
    cases ho;have fg:aq.tmps.getD 33 undef= .bool false:=hJ2.v hall 15 33 .guard;refine wpOp_on rfl rfl rfl rfl fg ?_;have hK:=hJ2.gO hS 18 36;generalize InvQ _ _ _ _ _ _=K at hK⊢;clear ho hall hl hJ2 hS;go_simp;exact hK _ rfl
   | 19,ho=>
    cases ho;have fg:aq.tmps.getD 33 undef= .bool false:=hJ2.v hall 15 33 .guard;refine wpOp_on rfl rfl rfl rfl fg ?_;have f18:_=Value.pointer (some ⟨Be,0,none⟩):=hJ2.v hall 18 36;have hK:=hJ2.gO hS 19 37;generalize InvQ _ _ _ _ _ _=K at hK⊢;clear ho hall hl hJ2 hS;go_simp;exact hK _ rfl
   | 20,ho=>
    cases ho;have fg:aq.tmps.getD 33 undef= .bool false:=hJ2.v hall 15 33 .guard;refine wpOp_on rfl rfl rfl rfl fg ?_;have f19:_=Value.pointer (some ⟨Be,0,none⟩):=hJ2.v hall 19 37;have hK:=hJ2.gO hS 20 38;generalize InvQ _ _ _ _ _ _=K at hK⊢;clear ho hall hl hJ2 hS;go_simp;exact hK _ rfl
   | 21,ho=>
    cases ho;have fg:aq.tmps.getD 33 undef= .bool false:=hJ2.v hall 15 33 .guard;refine wpOp_on rfl rfl rfl rfl fg ?_;have f20:_=Value.pointer (some ⟨Be,0,none⟩):=hJ2.v hall 20 38;have hK:=hJ2.gO hS 21 39;generalize InvQ _ _ _ _ _ _=K at hK⊢;clear ho hall hl hJ2 hS;go_simp;exact hK _ rfl
   | 22,ho=>
    cases ho;have fg:aq.tmps.getD 33 undef= .bool false:=hJ2.v hall 15 33 .guard;refine wpOp_on rfl rfl rfl rfl fg ?_;have f21:_=Value.pointer (some ⟨Be,1,none⟩):=hJ2.v hall 21 39;have hK:=hJ2.gO hS 22 40;generalize InvQ _ _ _ _ _ _=K at hK⊢;clear ho hall hl hJ2 hS;go_simp;exact hK _ rfl
   | 23,ho=>
    cases ho;have fg:aq.tmps.getD 33 undef= .bool false:=hJ2.v hall 15 33 .guard;refine wpOp_on rfl rfl rfl rfl fg ?_;have f17:_=Value.int .i64 (wd):=hJ2.v hall 17 35;have f22:_=Value.int .i64 (bY):=hJ2.v hall 22 40;have hK:=hJ2.gO hS 23 41;generalize InvQ _ _ _ _ _ _=K at hK⊢;clear ho hall hl hJ2 hS;go_simp;exact hK _ rfl
   | 24,ho=>
    cases ho;refine wpOp_of rfl rfl ?_;have f15:_=Value.bool false:=hJ2.v hall 15 33;have f23:_=Value.bool (decide (wd<bY)):=hJ2.v hall 23 41;rw[d3.out] at f23;have hK:=hJ2.gO hS 24 42;generalize InvQ _ _ _ _ _ _=K at hK⊢;clear ho hall hl hJ2 hS;go_simp;exact hK _ rfl
   | 25,ho=>
    cases ho;refine wpOp_of rfl rfl ?_;have f24:_=Value.bool true:=hJ2.v hall 24 42;have hK:=hJ2.gO hS 25 43;generalize InvQ _ _ _ _ _ _=K at hK⊢;clear ho hall hl hJ2 hS;go_simp;exact hK _ rfl
   | 26,ho=>
    cases ho;have fg:aq.tmps.getD 43 undef= .bool true:=hJ2.v hall 25 43 .guard;refine wpOp_off rfl rfl rfl rfl fg ?_;exact hJ2.put hS 26 44 rfl (by omega) z5 (fun _ _ h=>h) undef rfl
   | 27,ho=>
    cases ho;have fg:aq.tmps.getD 43 undef= .bool true:=hJ2.v hall 25 43 .guard;refine wpOp_off rfl rfl rfl rfl fg ?_;exact hJ2.put hS 27 45 rfl (by omega) z5 (fun _ _ h=>h) undef rfl
   | 28,ho=>
    cases ho;have fg:aq.tmps.getD 43 undef= .bool true:=hJ2.v hall 25 43 .guard;refine wpOp_off rfl rfl rfl rfl fg ?_;exact hJ2.put hS 28 46 rfl (by omega) z5 (fun _ _ h=>h) undef rfl
   | 29,ho=>
    cases ho;have fg:aq.tmps.getD 43 undef= .bool true:=hJ2.v hall 25 43 .guard;refine wpOp_off rfl rfl rfl rfl fg ?_;exact hJ2.put hS 29 47 rfl (by omega) z5 (fun _ _ h=>h) undef rfl
   | 30,ho=>
    cases ho;have fg:aq.tmps.getD 43 undef= .bool true:=hJ2.v hall 25 43 .guard;refine wpOp_off rfl rfl rfl rfl fg ?_;exact hJ2.put hS 30 48 rfl (by omega) z5 (fun _ _ h=>h) undef rfl
   | 31,ho=>
    cases ho;refine wpOp_of rfl rfl ?_;have f25:_=Value.bool true:=hJ2.v hall 25 43;have f30:_=undef:=hJ2.v hall 30 48;have hK:=hJ2.gO hS 31 49;generalize InvQ _ _ _ _ _ _=K at hK⊢;clear ho hall hl hJ2 hS;go_simp;exact hK _ rfl
   | iq+32,ho=>simp at ho
 · intro lq aq W hJ hr;obtain⟨z1,z2,z3,z4,z5,z6,z7⟩:=hJ;have hl:=listed_of hr [0,1,2,3,4,5,6,7,8,9,10,11,12,13,14,15,16,17,18,19,20,21,22,23,24,25,26,27,28,29,30,31] [] (by simp) (by kernel_rfl) (by rw[z1];decide);exact hQ aq W z2 z3 (fun e he=>z4 e (by simpa using he)) (z6 31 49 (hl 31 (by simp)) rfl) z5
def VvwD (Be Lb Hb Tb:Nat) (bx bY bs wa wb wc wd:Int) (_B:Nat):Nat→Value→World→Prop
 | 0,v,_=>v= .pointer (some ⟨Hb,0,none⟩)
 | 1,v,_=>v= .int .i64 (wc)
 | 2,v,_=>v= .pointer (some ⟨Be,0,none⟩)
 | 3,v,_=>v= .pointer (some ⟨Be,0,none⟩)
 | 4,v,_=>v= .pointer (some ⟨Be,0,none⟩)
 | 5,v,_=>v= .pointer (some ⟨Be,0,none⟩)
 | 6,v,_=>v= .int .i64 (bx)
 | 7,v,_=>v= .bool (decide (wc<bx))
 | 8,v,_=>v= .bool false
 | 9,v,_=>v= .pointer (some ⟨Tb,0,none⟩)
 | 10,v,_=>v= .int .i64 (bx+bs)
 | 11,v,_=>v= .pointer (some ⟨Lb,0,none⟩)
 | 12,v,_=>v= .int .i64 (wa)
 | 13,v,_=>v= .bool (decide (bx+bs<wa))
 | 14,v,_=>v= .bool false
 | 15,v,_=>v= .bool false
 | 16,v,_=>v= .pointer (some ⟨Hb,1,none⟩)
 | 17,v,_=>v= .int .i64 (wd)
 | 18,v,_=>v= .pointer (some ⟨Be,0,none⟩)
 | 19,v,_=>v= .pointer (some ⟨Be,0,none⟩)
 | 20,v,_=>v= .pointer (some ⟨Be,0,none⟩)
 | 21,v,_=>v= .pointer (some ⟨Be,1,none⟩)
 | 22,v,_=>v= .int .i64 (bY)
 | 23,v,_=>v= .bool (decide (wd<bY))
 | 24,v,_=>v= .bool false
 | 25,v,_=>v= .bool false
 | 26,v,_=>v= .pointer (some ⟨Tb,1,none⟩)
 | 27,v,_=>v= .int .i64 (bY+bs)
 | 28,v,_=>v= .pointer (some ⟨Lb,1,none⟩)
 | 29,v,_=>v= .int .i64 (wb)
 | 30,v,_=>v= .bool (decide (bY+bs<wb))
 | 31,v,_=>v= .bool (decide (bY+bs<wb))
 | _,_,_=>True
theorem vwD {Q:Exit→Act→World→Prop} {Be Lb Hb Tb:Nat} {bx bY bs wa wb wc wd:Int} {w0:World} {a0:Act} {idq:Nat} {t0 t1 t2 t3 t4 t5 t6 t7 t8 t9 t10 t11 t12 t13 t14 t15 t16 t17 t18 t19 t20 t21 t22 t23 t24 t25 t26 t27 t28 t29 t30 t31:TypeId} {q0 q1 q2 q3 q4 q5 q6 q7 q8 q9 q10 q11 q12 q13 q14 q15 q16 q17 q18 q19 q20 q21 q22 q23 q24 q25 q26 q27 q28 q29 q30 q31:String}
 (d1:Hid (decide (wc<bx)=false)) (d2:Hid (decide (bx+bs<wa)=false)) (d3:Hid (decide (wd<bY)=false)) (h1:a0.tmps[1]? =some (.pointer (some ⟨Be,0,none⟩))) (h7:a0.tmps[7]? =some (.pointer (some ⟨Lb,0,none⟩))) (h8:a0.tmps[8]? =some (.pointer (some ⟨Hb,0,none⟩))) (h11:a0.tmps[11]? =some (.pointer (some ⟨Tb,0,none⟩))) (k0:w0.cell? ⟨Hb,0,none⟩=some (.int .i64 wc)) (l0:(⟨Hb,0,none⟩:Addr).block<w0.heap.size) (k1:w0.cell? ⟨Hb,1,none⟩=some (.int .i64 wd)) (l1:(⟨Hb,1,none⟩:Addr).block<w0.heap.size) (k2:w0.cell? ⟨Lb,0,none⟩=some (.int .i64 wa)) (l2:(⟨Lb,0,none⟩:Addr).block<w0.heap.size) (k3:w0.cell? ⟨Lb,1,none⟩=some (.int .i64 wb)) (l3:(⟨Lb,1,none⟩:Addr).block<w0.heap.size) (k4:w0.cell? ⟨Tb,0,none⟩=some (.int .i64 (bx+bs))) (l4:(⟨Tb,0,none⟩:Addr).block<w0.heap.size) (k5:w0.cell? ⟨Tb,1,none⟩=some (.int .i64 (bY+bs))) (l5:(⟨Tb,1,none⟩:Addr).block<w0.heap.size) (k6:w0.cell? ⟨Be,0,none⟩=some (.int .i64 bx)) (l6:(⟨Be,0,none⟩:Addr).block<w0.heap.size) (k7:w0.cell? ⟨Be,1,none⟩=some (.int .i64 bY)) (l7:(⟨Be,1,none⟩:Addr).block<w0.heap.size) (hz:a0.tmps.size=87)
 (hQ:∀aq W,aq.tmps.size=a0.tmps.size→aq.defers=a0.defers→(∀e,e∉([18,19,20,21,22,23,24,25,26,27,28,29,30,31,32,33,34,35,36,37,38,39,40,41,42,43,44,45,46,47,48,49]:List Nat)→aq.tmps[e]? =a0.tmps[e]?)→VvwD Be Lb Hb Tb bx bY bs wa wb wc wd w0.heap.size 31 (aq.tmps.getD 49 undef) W→Below w0.heap.size w0 W→Q .normal aq W) :
 (Code.region idq #[⟨some 18,.fieldAddr 29 (.tmp 8) 0,t0,q0,#[],none⟩,
 ⟨some 19,.load 2 (.tmp 18),t1,q1,#[⟨0,.data⟩],none⟩,
 ⟨some 20,.move (.tmp 1),t2,q2,#[],none⟩,
 ⟨some 21,.nilCheck (.tmp 20),t3,q3,#[⟨2,.data⟩],none⟩,
 ⟨some 22,.fieldAddr 83 (.tmp 21) 0,t4,q4,#[⟨3,.data⟩],none⟩,
 ⟨some 23,.fieldAddr 29 (.tmp 22) 0,t5,q5,#[⟨4,.data⟩],none⟩,
 ⟨some 24,.load 2 (.tmp 23),t6,q6,#[⟨5,.data⟩],none⟩,
 ⟨some 25,.binOp .lss 2 (.tmp 19) (.tmp 24) 2,t7,q7,#[⟨1,.data⟩,⟨6,.data⟩],none⟩,
 ⟨some 26,.move (.tmp 25),t8,q8,#[⟨7,.data⟩],none⟩,
 ⟨some 27,.fieldAddr 29 (.tmp 11) 0,t9,q9,#[⟨8,.guard⟩],some (8,false)⟩,
 ⟨some 28,.load 2 (.tmp 27),t10,q10,#[⟨9,.data⟩,⟨8,.guard⟩],some (8,false)⟩,
 ⟨some 29,.fieldAddr 29 (.tmp 7) 0,t11,q11,#[⟨8,.guard⟩],some (8,false)⟩,
 ⟨some 30,.load 2 (.tmp 29),t12,q12,#[⟨11,.data⟩,⟨8,.guard⟩],some (8,false)⟩,
 ⟨some 31,.binOp .lss 2 (.tmp 28) (.tmp 30) 2,t13,q13,#[⟨10,.data⟩,⟨12,.data⟩,⟨8,.guard⟩],some (8,false)⟩,
 ⟨some 32,.pick (.tmp 26) (.const (.bool true)) (.tmp 31),t14,q14,#[⟨8,.data⟩,⟨13,.data⟩],none⟩,
 ⟨some 33,.move (.tmp 32),t15,q15,#[⟨14,.data⟩,⟨8,.chain⟩],none⟩,
 ⟨some 34,.fieldAddr 29 (.tmp 8) 1,t16,q16,#[⟨15,.guard⟩],some (15,false)⟩,
 ⟨some 35,.load 2 (.tmp 34),t17,q17,#[⟨16,.data⟩,⟨15,.guard⟩],some (15,false)⟩,
 ⟨some 36,.move (.tmp 1),t18,q18,#[⟨15,.guard⟩],some (15,false)⟩,
 ⟨some 37,.nilCheck (.tmp 36),t19,q19,#[⟨18,.data⟩,⟨15,.guard⟩],some (15,false)⟩,
 ⟨some 38,.fieldAddr 83 (.tmp 37) 0,t20,q20,#[⟨19,.data⟩,⟨15,.guard⟩],some (15,false)⟩,
 ⟨some 39,.fieldAddr 29 (.tmp 38) 1,t21,q21,#[⟨20,.data⟩,⟨15,.guard⟩],some (15,false)⟩,
 ⟨some 40,.load 2 (.tmp 39),t22,q22,#[⟨21,.data⟩,⟨15,.guard⟩],some (15,false)⟩,
 ⟨some 41,.binOp .lss 2 (.tmp 35) (.tmp 40) 2,t23,q23,#[⟨17,.data⟩,⟨22,.data⟩,⟨15,.guard⟩],some (15,false)⟩,
 ⟨some 42,.pick (.tmp 33) (.const (.bool true)) (.tmp 41),t24,q24,#[⟨15,.data⟩,⟨23,.data⟩],none⟩,
 ⟨some 43,.move (.tmp 42),t25,q25,#[⟨24,.data⟩,⟨15,.chain⟩],none⟩,
 ⟨some 44,.fieldAddr 29 (.tmp 11) 1,t26,q26,#[⟨25,.guard⟩],some (25,false)⟩,
 ⟨some 45,.load 2 (.tmp 44),t27,q27,#[⟨26,.data⟩,⟨25,.guard⟩],some (25,false)⟩,
 ⟨some 46,.fieldAddr 29 (.tmp 7) 1,t28,q28,#[⟨25,.guard⟩],some (25,false)⟩,
 ⟨some 47,.load 2 (.tmp 46),t29,q29,#[⟨28,.data⟩,⟨25,.guard⟩],some (25,false)⟩,
 ⟨some 48,.binOp .lss 2 (.tmp 45) (.tmp 47) 2,t30,q30,#[⟨27,.data⟩,⟨29,.data⟩,⟨25,.guard⟩],some (25,false)⟩,
 ⟨some 49,.pick (.tmp 43) (.const (.bool true)) (.tmp 48),t31,q31,#[⟨25,.data⟩,⟨30,.data⟩],none⟩] true).wp Tryz.prog Q a0 w0:=by
 have hS:distS [some 18,some 19,some 20,some 21,some 22,some 23,some 24,some 25,some 26,some 27,some 28,some 29,some 30,some 31,some 32,some 33,some 34,some 35,some 36,some 37,some 38,some 39,some 40,some 41,some 42,some 43,some 44,some 45,some 46,some 47,some 48,some 49]=true:=rfl;refine wp_region_q (by kernel_rfl) w0.heap.size [some 18,some 19,some 20,some 21,some 22,some 23,some 24,some 25,some 26,some 27,some 28,some 29,some 30,some 31,some 32,some 33,some 34,some 35,some 36,some 37,some 38,some 39,some 40,some 41,some 42,some 43,some 44,some 45,some 46,some 47,some 48,some 49] (VvwD Be Lb Hb Tb bx bY bs wa wb wc wd w0.heap.size) rfl ?_ ?_
 · intro Q lq aq W iq oq hJ2 hl ho hall;have g1:=hJ2.a h1
   have g7:=hJ2.a h7
   have g8:=hJ2.a h8
   have g11:=hJ2.a h11
   have c0:=hJ2.c k0 l0;have c1:=hJ2.c k1 l1;have c2:=hJ2.c k2 l2;have c3:=hJ2.c k3 l3;have c4:=hJ2.c k4 l4;have c5:=hJ2.c k5 l5;have c6:=hJ2.c k6 l6;have c7:=hJ2.c k7 l7
   clear hQ
   match iq,ho with
   | 0,ho=>
    cases ho;refine wpOp_of rfl rfl ?_;have hK:=hJ2.gO hS 0 18;generalize InvQ _ _ _ _ _ _=K at hK⊢;clear ho hall hl hJ2 hS;go_simp;exact hK _ rfl
   | 1,ho=>
    cases ho;refine wpOp_of rfl rfl ?_;have f0:_=Value.pointer (some ⟨Hb,0,none⟩):=hJ2.v hall 0 18;have hK:=hJ2.gO hS 1 19;generalize InvQ _ _ _ _ _ _=K at hK⊢;clear ho hall hl hJ2 hS;go_simp;exact hK _ rfl
   | 2,ho=>
    cases ho;refine wpOp_of rfl rfl ?_;have hK:=hJ2.gO hS 2 20;generalize InvQ _ _ _ _ _ _=K at hK⊢;clear ho hall hl hJ2 hS;go_simp;exact hK _ rfl
   | 3,ho=>
    cases ho;refine wpOp_of rfl rfl ?_;have f2:_=Value.pointer (some ⟨Be,0,none⟩):=hJ2.v hall 2 20;have hK:=hJ2.gO hS 3 21;generalize InvQ _ _ _ _ _ _=K at hK⊢;clear ho hall hl hJ2 hS;go_simp;exact hK _ rfl
   | 4,ho=>
    cases ho;refine wpOp_of rfl rfl ?_;have f3:_=Value.pointer (some ⟨Be,0,none⟩):=hJ2.v hall 3 21;have hK:=hJ2.gO hS 4 22;generalize InvQ _ _ _ _ _ _=K at hK⊢;clear ho hall hl hJ2 hS;go_simp;exact hK _ rfl
   | 5,ho=>
    cases ho;refine wpOp_of rfl rfl ?_;have f4:_=Value.pointer (some ⟨Be,0,none⟩):=hJ2.v hall 4 22;have hK:=hJ2.gO hS 5 23;generalize InvQ _ _ _ _ _ _=K at hK⊢;clear ho hall hl hJ2 hS;go_simp;exact hK _ rfl
   | 6,ho=>
    cases ho;refine wpOp_of rfl rfl ?_;have f5:_=Value.pointer (some ⟨Be,0,none⟩):=hJ2.v hall 5 23;have hK:=hJ2.gO hS 6 24;generalize InvQ _ _ _ _ _ _=K at hK⊢;clear ho hall hl hJ2 hS;go_simp;exact hK _ rfl
   | 7,ho=>
    cases ho;refine wpOp_of rfl rfl ?_;have f1:_=Value.int .i64 (wc):=hJ2.v hall 1 19;have f6:_=Value.int .i64 (bx):=hJ2.v hall 6 24;have hK:=hJ2.gO hS 7 25;generalize InvQ _ _ _ _ _ _=K at hK⊢;clear ho hall hl hJ2 hS;go_simp;exact hK _ rfl
   | 8,ho=>
    cases ho;refine wpOp_of rfl rfl ?_;have f7:_=Value.bool (decide (wc<bx)):=hJ2.v hall 7 25;rw[d1.out] at f7;have hK:=hJ2.gO hS 8 26;generalize InvQ _ _ _ _ _ _=K at hK⊢;clear ho hall hl hJ2 hS;go_simp;exact hK _ rfl
   | 9,ho=>
    cases ho;have fg:aq.tmps.getD 26 undef= .bool false:=hJ2.v hall 8 26 .guard;refine wpOp_on rfl rfl rfl rfl fg ?_;have hK:=hJ2.gO hS 9 27;generalize InvQ _ _ _ _ _ _=K at hK⊢;clear ho hall hl hJ2 hS;go_simp;exact hK _ rfl
   | 10,ho=>
    cases ho;have fg:aq.tmps.getD 26 undef= .bool false:=hJ2.v hall 8 26 .guard;refine wpOp_on rfl rfl rfl rfl fg ?_;have f9:_=Value.pointer (some ⟨Tb,0,none⟩):=hJ2.v hall 9 27;have hK:=hJ2.gO hS 10 28;generalize InvQ _ _ _ _ _ _=K at hK⊢;clear ho hall hl hJ2 hS;go_simp;exact hK _ rfl
   | 11,ho=>
    cases ho;have fg:aq.tmps.getD 26 undef= .bool false:=hJ2.v hall 8 26 .guard;refine wpOp_on rfl rfl rfl rfl fg ?_;have hK:=hJ2.gO hS 11 29;generalize InvQ _ _ _ _ _ _=K at hK⊢;clear ho hall hl hJ2 hS;go_simp;exact hK _ rfl
   | 12,ho=>
    cases ho;have fg:aq.tmps.getD 26 undef= .bool false:=hJ2.v hall 8 26 .guard;refine wpOp_on rfl rfl rfl rfl fg ?_;have f11:_=Value.pointer (some ⟨Lb,0,none⟩):=hJ2.v hall 11 29;have hK:=hJ2.gO hS 12 30;generalize InvQ _ _ _ _ _ _=K at hK⊢;clear ho hall hl hJ2 hS;go_simp;exact hK _ rfl
   | 13,ho=>
    cases ho;have fg:aq.tmps.getD 26 undef= .bool false:=hJ2.v hall 8 26 .guard;refine wpOp_on rfl rfl rfl rfl fg ?_;have f10:_=Value.int .i64 (bx+bs):=hJ2.v hall 10 28;have f12:_=Value.int .i64 (wa):=hJ2.v hall 12 30;have hK:=hJ2.gO hS 13 31;generalize InvQ _ _ _ _ _ _=K at hK⊢;clear ho hall hl hJ2 hS;go_simp;exact hK _ rfl
   | 14,ho=>
    cases ho;refine wpOp_of rfl rfl ?_;have f8:_=Value.bool false:=hJ2.v hall 8 26;have f13:_=Value.bool (decide (bx+bs<wa)):=hJ2.v hall 13 31;rw[d2.out] at f13;have hK:=hJ2.gO hS 14 32;generalize InvQ _ _ _ _ _ _=K at hK⊢;clear ho hall hl hJ2 hS;go_simp;exact hK _ rfl
   | 15,ho=>
    cases ho;refine wpOp_of rfl rfl ?_;have f14:_=Value.bool false:=hJ2.v hall 14 32;have hK:=hJ2.gO hS 15 33;generalize InvQ _ _ _ _ _ _=K at hK⊢;clear ho hall hl hJ2 hS;go_simp;exact hK _ rfl
   | 16,ho=>
    cases ho;have fg:aq.tmps.getD 33 undef= .bool false:=hJ2.v hall 15 33 .guard;refine wpOp_on rfl rfl rfl rfl fg ?_;have hK:=hJ2.gO hS 16 34;generalize InvQ _ _ _ _ _ _=K at hK⊢;clear ho hall hl hJ2 hS;go_simp;exact hK _ rfl
   | 17,ho=>
    cases ho;have fg:aq.tmps.getD 33 undef= .bool false:=hJ2.v hall 15 33 .guard;refine wpOp_on rfl rfl rfl rfl fg ?_;have f16:_=Value.pointer (some ⟨Hb,1,none⟩):=hJ2.v hall 16 34;have hK:=hJ2.gO hS 17 35;generalize InvQ _ _ _ _ _ _=K at hK⊢;clear ho hall hl hJ2 hS;go_simp;exact hK _ rfl
   | 18,ho=>
    cases ho;have fg:aq.tmps.getD 33 undef= .bool false:=hJ2.v hall 15 33 .guard;refine wpOp_on rfl rfl rfl rfl fg ?_;have hK:=hJ2.gO hS 18 36;generalize InvQ _ _ _ _ _ _=K at hK⊢;clear ho hall hl hJ2 hS;go_simp;exact hK _ rfl
   | 19,ho=>
    cases ho;have fg:aq.tmps.getD 33 undef= .bool false:=hJ2.v hall 15 33 .guard;refine wpOp_on rfl rfl rfl rfl fg ?_;have f18:_=Value.pointer (some ⟨Be,0,none⟩):=hJ2.v hall 18 36;have hK:=hJ2.gO hS 19 37;generalize InvQ _ _ _ _ _ _=K at hK⊢;clear ho hall hl hJ2 hS;go_simp;exact hK _ rfl
   | 20,ho=>
    cases ho;have fg:aq.tmps.getD 33 undef= .bool false:=hJ2.v hall 15 33 .guard;refine wpOp_on rfl rfl rfl rfl fg ?_;have f19:_=Value.pointer (some ⟨Be,0,none⟩):=hJ2.v hall 19 37;have hK:=hJ2.gO hS 20 38;generalize InvQ _ _ _ _ _ _=K at hK⊢;clear ho hall hl hJ2 hS;go_simp;exact hK _ rfl
   | 21,ho=>
    cases ho;have fg:aq.tmps.getD 33 undef= .bool false:=hJ2.v hall 15 33 .guard;refine wpOp_on rfl rfl rfl rfl fg ?_;have f20:_=Value.pointer (some ⟨Be,0,none⟩):=hJ2.v hall 20 38;have hK:=hJ2.gO hS 21 39;generalize InvQ _ _ _ _ _ _=K at hK⊢;clear ho hall hl hJ2 hS;go_simp;exact hK _ rfl
   | 22,ho=>
    cases ho;have fg:aq.tmps.getD 33 undef= .bool false:=hJ2.v hall 15 33 .guard;refine wpOp_on rfl rfl rfl rfl fg ?_;have f21:_=Value.pointer (some ⟨Be,1,none⟩):=hJ2.v hall 21 39;have hK:=hJ2.gO hS 22 40;generalize InvQ _ _ _ _ _ _=K at hK⊢;clear ho hall hl hJ2 hS;go_simp;exact hK _ rfl
   | 23,ho=>
    cases ho;have fg:aq.tmps.getD 33 undef= .bool false:=hJ2.v hall 15 33 .guard;refine wpOp_on rfl rfl rfl rfl fg ?_;have f17:_=Value.int .i64 (wd):=hJ2.v hall 17 35;have f22:_=Value.int .i64 (bY):=hJ2.v hall 22 40;have hK:=hJ2.gO hS 23 41;generalize InvQ _ _ _ _ _ _=K at hK⊢;clear ho hall hl hJ2 hS;go_simp;exact hK _ rfl
   | 24,ho=>
    cases ho;refine wpOp_of rfl rfl ?_;have f15:_=Value.bool false:=hJ2.v hall 15 33;have f23:_=Value.bool (decide (wd<bY)):=hJ2.v hall 23 41;rw[d3.out] at f23;have hK:=hJ2.gO hS 24 42;generalize InvQ _ _ _ _ _ _=K at hK⊢;clear ho hall hl hJ2 hS;go_simp;exact hK _ rfl
   | 25,ho=>
    cases ho;refine wpOp_of rfl rfl ?_;have f24:_=Value.bool false:=hJ2.v hall 24 42;have hK:=hJ2.gO hS 25 43;generalize InvQ _ _ _ _ _ _=K at hK⊢;clear ho hall hl hJ2 hS;go_simp;exact hK _ rfl
   | 26,ho=>
    cases ho;have fg:aq.tmps.getD 43 undef= .bool false:=hJ2.v hall 25 43 .guard;refine wpOp_on rfl rfl rfl rfl fg ?_;have hK:=hJ2.gO hS 26 44;generalize InvQ _ _ _ _ _ _=K at hK⊢;clear ho hall hl hJ2 hS;go_simp;exact hK _ rfl
   | 27,ho=>
    cases ho;have fg:aq.tmps.getD 43 undef= .bool false:=hJ2.v hall 25 43 .guard;refine wpOp_on rfl rfl rfl rfl fg ?_;have f26:_=Value.pointer (some ⟨Tb,1,none⟩):=hJ2.v hall 26 44;have hK:=hJ2.gO hS 27 45;generalize InvQ _ _ _ _ _ _=K at hK⊢;clear ho hall hl hJ2 hS;go_simp;exact hK _ rfl
   | 28,ho=>
    cases ho;have fg:aq.tmps.getD 43 undef= .bool false:=hJ2.v hall 25 43 .guard;refine wpOp_on rfl rfl rfl rfl fg ?_;have hK:=hJ2.gO hS 28 46;generalize InvQ _ _ _ _ _ _=K at hK⊢;clear ho hall hl hJ2 hS;go_simp;exact hK _ rfl
   | 29,ho=>
    cases ho;have fg:aq.tmps.getD 43 undef= .bool false:=hJ2.v hall 25 43 .guard;refine wpOp_on rfl rfl rfl rfl fg ?_;have f28:_=Value.pointer (some ⟨Lb,1,none⟩):=hJ2.v hall 28 46;have hK:=hJ2.gO hS 29 47;generalize InvQ _ _ _ _ _ _=K at hK⊢;clear ho hall hl hJ2 hS;go_simp;exact hK _ rfl
   | 30,ho=>
    cases ho;have fg:aq.tmps.getD 43 undef= .bool false:=hJ2.v hall 25 43 .guard;refine wpOp_on rfl rfl rfl rfl fg ?_;have f27:_=Value.int .i64 (bY+bs):=hJ2.v hall 27 45;have f29:_=Value.int .i64 (wb):=hJ2.v hall 29 47;have hK:=hJ2.gO hS 30 48;generalize InvQ _ _ _ _ _ _=K at hK⊢;clear ho hall hl hJ2 hS;go_simp;exact hK _ rfl
   | 31,ho=>
    cases ho;refine wpOp_of rfl rfl ?_;have f25:_=Value.bool false:=hJ2.v hall 25 43;have f30:_=Value.bool (decide (bY+bs<wb)):=hJ2.v hall 30 48;have hK:=hJ2.gO hS 31 49;generalize InvQ _ _ _ _ _ _=K at hK⊢;clear ho hall hl hJ2 hS;go_simp;exact hK _ rfl
   | iq+32,ho=>simp at ho
 · intro lq aq W hJ hr;obtain⟨z1,z2,z3,z4,z5,z6,z7⟩:=hJ;have hl:=listed_of hr [0,1,2,3,4,5,6,7,8,9,10,11,12,13,14,15,16,17,18,19,20,21,22,23,24,25,26,27,28,29,30,31] [] (by simp) (by kernel_rfl) (by rw[z1];decide);exact hQ aq W z2 z3 (fun e he=>z4 e (by simpa using he)) (z6 31 49 (hl 31 (by simp)) rfl) z5
end Go.Proofs.YthelolpogdcmhaaGreat
