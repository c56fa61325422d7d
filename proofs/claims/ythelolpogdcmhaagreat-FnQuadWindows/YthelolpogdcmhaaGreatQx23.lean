/- Part 23 of the walks that the proof leans on. -/
import Derived.Test.YthelolpogdcmhaaGreatQx22
import Derived.Test.YthelolpogdcmhaaGreatQx2
import Derived.Maps.AppendAt
import Derived.Test.YthelolpogdcmhaaGreatQx1
import Derived.Shelf.SortM.Plain
import Derived.Shelf.SortM.SortNone
import Derived.Test.YthelolpogdcmhaaGreatQx21
import Derived.Shelf.SlicesE.Compact
set_option maxRecDepth 100000
set_option maxHeartbeats 16000000
namespace Go.Proofs.YthelolpogdcmhaaGreat
open Go.RowKit
def RowTo (v v' :Value) (w w' :World):Prop:=w.grownBy w' v.ownBlock∧∀k,v'.ownBlock=some k→v.ownBlock=some k∨w.heap.size≤k
theorem RowTo.refl (v:Value) (w:World):RowTo v v w w:=⟨⟨rfl,rfl,rfl,Nat.le_refl _,fun _ _ _=>rfl⟩,fun _ h=> .inl h⟩
theorem RowTo.trans {v v1 v2:Value} {w w1 w2:World} (h:RowTo v v1 w w1) (k:RowTo v1 v2 w1 w2):RowTo v v2 w w2:=by
 obtain⟨h1,h2⟩:=h;obtain⟨k1,k2⟩:=k;have hs:=h1.size;refine⟨⟨k1.os.trans h1.os,k1.tape.trans h1.tape,k1.output.trans h1.output,Nat.le_trans h1.size k1.size,fun b hb hn=>(k1.block b (Nat.lt_of_lt_of_le hb h1.size) (fun e=>?_)).trans (h1.block b hb hn)⟩,fun b hb=>?_⟩
 · rcases h2 b e.symm with h | h
   · exact hn h.symm
   · omega
 · rcases k2 b hb with h | h
   · exact h2 b h
   · exact .inr (by omega)
theorem RowTo.step {v v1:Value} {w w1 w2:World} (h:RowTo v v1 w w1) (hB:Below w1.heap.size w1 w2):RowTo v v1 w w2:=
 h.trans ⟨⟨hB.os,hB.tape,hB.output,hB.size,fun b hb _=>hB.block b hb⟩,fun _ h=> .inl h⟩
theorem RowTo.blk {v v1:Value} {w w1:World} {g:Nat} {vs:List Value} (h:RowTo v v1 w w1) (B:Blk w g vs) (hn:v.ownBlock≠some g):Blk w1 g vs:=B.keep h.1.size (h.1.block g B.lt (fun e=>hn e.symm))
theorem RowTo.own {v v1:Value} {w w1:World} {g:Nat} (h:RowTo v v1 w w1) (hn:v.ownBlock≠some g) (hg:g<w.heap.size):v1.ownBlock≠some g:=fun e=>by
 rcases h.2 g e with h | h
 · exact hn h
 · omega
theorem RowTo.below {v v1:Value} {w0 w w1:World} {B:Nat} (h:RowTo v v1 w w1) (hB:Below B w0 w) (hv:∀k,v.ownBlock=some k→B≤k) (hs:B≤w.heap.size):Below B w0 w1:=hB.grown h.1 hs hv
def WithP (w0:World) (v:Value) (L:List Int) (w:World) (r:Ending) (w' :World):Prop:=∃v',r= .returned v' ∧w'.ownsRow w0.heap.size 2 1 v' L.length (L.map (Value.int .i64))∧RowTo v v' w w'
theorem wnT_len (Q:QD) (p q u v:Int):∀(t:QT) (x y s:Int),(wnT Q p q u v t x y s).length≤Q.m*nlT t
 | .leaf _,x,y,s=>by
  unfold wnT
  split
  · simp
  · refine Nat.le_trans (List.length_filter_le _ _) (Nat.le_trans (List.length_filter_le _ _) ?_);rw[List.length_range];exact Nat.le_of_eq (Nat.mul_one _).symm
 | .node K,x,y,s=>by
  unfold wnT;have h0:=wnT_len Q p q u v (K 0) (kX x (s / 2) 0) (kY y (s / 2) 0) (s / 2);have h1:=wnT_len Q p q u v (K 1) (kX x (s / 2) 1) (kY y (s / 2) 1) (s / 2);have h2:=wnT_len Q p q u v (K 2) (kX x (s / 2) 2) (kY y (s / 2) 2) (s / 2);have h3:=wnT_len Q p q u v (K 3) (kX x (s / 2) 3) (kY y (s / 2) 3) (s / 2)
  split
  · simp
  · show(wnK _ 4).length≤Q.m*(nlT (K 0)+nlT (K 1)+nlT (K 2)+nlT (K 3));simp only[wnK,List.length_append,List.length_nil,Nat.mul_add]
    omega
theorem ItIn.rowTo {Q:QD} {v v1:Value} {w w1:World} {ao:Option Addr} {l:List Nat} (h:RowTo v v1 w w1) (hS:ItIn Q w ao l) (hn:∀A o sp,ao=some ⟨A,o,sp⟩→v.ownBlock≠some A):ItIn Q w1 ao l:=fun j i hj=>by
 obtain⟨A,o,e,hA,c0,c1,c2,c3,c4⟩:=hS j i hj;have hb:∀k,w1.cell? ⟨A,k,none⟩=w.cell? ⟨A,k,none⟩:=fun k=>World.cell?_of_block (w:=w) (a:=⟨A,k,none⟩) (h.1.block A hA (fun e2=>hn A o none e e2.symm));exact⟨A,o,e,Nat.lt_of_lt_of_le hA h.1.size,(hb _).trans c0,(hb _).trans c1,(hb _).trans c2,(hb _).trans c3,(hb _).trans c4⟩
theorem fw_more (Q:QD) (l:List Nat) (p q u v:Int) {c i:Nat} (h:l[c]? =some i):(l.take (c+1)).filter (hitW Q p q u v)=(l.take c).filter (hitW Q p q u v) ++(if hitW Q p q u v i=true then[i] else[]):=by
 rw[List.take_add_one,h,List.filter_append]
 congr 1
 simp only[Option.toList_some,List.filter_cons,List.filter_nil]
theorem vwE {Q:Exit→Act→World→Prop} {Be Lb Hb Tb:Nat} {bx bY bs wa wb wc wd:Int} {w0:World} {a0:Act} {idq:Nat} {t0 t1 t2 t3 t4 t5 t6 t7 t8 t9 t10 t11 t12 t13 t14 t15 t16 t17 t18 t19 t20 t21 t22 t23 t24 t25 t26 t27 t28 t29 t30 t31:TypeId} {q0 q1 q2 q3 q4 q5 q6 q7 q8 q9 q10 q11 q12 q13 q14 q15 q16 q17 q18 q19 q20 q21 q22 q23 q24 q25 q26 q27 q28 q29 q30 q31:String}
 (h1:a0.tmps[1]? =some (.pointer (some ⟨Be,0,none⟩))) (h7:a0.tmps[7]? =some (.pointer (some ⟨Lb,0,none⟩))) (h8:a0.tmps[8]? =some (.pointer (some ⟨Hb,0,none⟩))) (h11:a0.tmps[11]? =some (.pointer (some ⟨Tb,0,none⟩))) (k0:w0.cell? ⟨Hb,0,none⟩=some (.int .i64 wc)) (l0:(⟨Hb,0,none⟩:Addr).block<w0.heap.size) (k1:w0.cell? ⟨Hb,1,none⟩=some (.int .i64 wd)) (l1:(⟨Hb,1,none⟩:Addr).block<w0.heap.size) (k2:w0.cell? ⟨Lb,0,none⟩=some (.int .i64 wa)) (l2:(⟨Lb,0,none⟩:Addr).block<w0.heap.size) (k3:w0.cell? ⟨Lb,1,none⟩=some (.int .i64 wb)) (l3:(⟨Lb,1,none⟩:Addr).block<w0.heap.size) (k4:w0.cell? ⟨Tb,0,none⟩=some (.int .i64 (bx+bs))) (l4:(⟨Tb,0,none⟩:Addr).block<w0.heap.size) (k5:w0.cell? ⟨Tb,1,none⟩=some (.int .i64 (bY+bs))) (l5:(⟨Tb,1,none⟩:Addr).block<w0.heap.size) (k6:w0.cell? ⟨Be,0,none⟩=some (.int .i64 bx)) (l6:(⟨Be,0,none⟩:Addr).block<w0.heap.size) (k7:w0.cell? ⟨Be,1,none⟩=some (.int .i64 bY)) (l7:(⟨Be,1,none⟩:Addr).block<w0.heap.size) (hz:a0.tmps.size=87)
 (hQ:∀aq W,aq.tmps.size=a0.tmps.size→aq.defers=a0.defers→(∀e,e∉([18,19,20,21,22,23,24,25,26,27,28,29,30,31,32,33,34,35,36,37,38,39,40,41,42,43,44,45,46,47,48,49]:List Nat)→aq.tmps[e]? =a0.tmps[e]?)→aq.tmps.getD 49 undef= .bool (besB bx bY bs wa wb wc wd)→Below w0.heap.size w0 W→Q .normal aq W) :
 (Code.region idq #[⟨some 18,.fieldAddr 29 (.tmp 8) 0,t0,q0,#[],none⟩,
 ⟨some 19,.load 2 (.tmp 18),t1,q1,#[⟨0,.data⟩],none⟩,
 ⟨some 20,.move (.tmp 1),t2,q2,#[],none⟩,
 ⟨some 21,.nilCheck (.tmp 20),t3,q3,#[⟨2,.data⟩],none⟩,
 ⟨some 22,.fieldAddr 83 (.tmp 21) 0,t4,q4,#[⟨3,.data⟩],none⟩,
 ⟨some 23,.fieldAddr 29 (.tmp 22) 0,t5,q5,#[⟨4,.data⟩],none⟩,
 ⟨some 24,.load 2 (.tmp 23),t6,q6,#[⟨5,.data⟩],none⟩,
 ⟨some 25,.binOp .lss 2 (.tmp 19) (.tmp 24) 2,t7,q7,#[⟨1,.data⟩,⟨6,.data⟩],none⟩,
 ⟨some 26,.move (.tmp 25),t8,q8,#[⟨7,.data⟩],none⟩,
 ⟨some 27,.fieldAddr 29 (.tmp 11) 0,t9,q9,#[⟨8,.guard⟩],some (8,false)⟩,
 ⟨some 28,.load 2 (.tmp 27),t10,q10,#[⟨9,.data⟩,⟨8,.guard⟩],some (8,false)⟩,
 ⟨some 29,.fieldAddr 29 (.tmp 7) 0,t11,q11,#[⟨8,.guard⟩],some (8,false)⟩,
 ⟨some 30,.load 2 (.tmp 29),t12,q12,#[⟨11,.data⟩,⟨8,.guard⟩],some (8,false)⟩,
 ⟨some 31,.binOp .lss 2 (.tmp 28) (.tmp 30) 2,t13,q13,#[⟨10,.data⟩,⟨12,.data⟩,⟨8,.guard⟩],some (8,false)⟩,
 ⟨some 32,.pick (.tmp 26) (.const (.bool true)) (.tmp 31),t14,q14,#[⟨8,.data⟩,⟨13,.data⟩],none⟩,
 ⟨some 33,.move (.tmp 32),t15,q15,#[⟨14,.data⟩,⟨8,.chain⟩],none⟩,
 ⟨some 34,.fieldAddr 29 (.tmp 8) 1,t16,q16,#[⟨15,.guard⟩],some (15,false)⟩,
 ⟨some 35,.load 2 (.tmp 34),t17,q17,#[⟨16,.data⟩,⟨15,.guard⟩],some (15,false)⟩,
 ⟨some 36,.move (.tmp 1),t18,q18,#[⟨15,.guard⟩],some (15,false)⟩,
 ⟨some 37,.nilCheck (.tmp 36),t19,q19,#[⟨18,.data⟩,⟨15,.guard⟩],some (15,false)⟩,
 ⟨some 38,.fieldAddr 83 (.tmp 37) 0,t20,q20,#[⟨19,.data⟩,⟨15,.guard⟩],some (15,false)⟩,
 ⟨some 39,.fieldAddr 29 (.tmp 38) 1,t21,q21,#[⟨20,.data⟩,⟨15,.guard⟩],some (15,false)⟩,
 ⟨some 40,.load 2 (.tmp 39),t22,q22,#[⟨21,.data⟩,⟨15,.guard⟩],some (15,false)⟩,
 ⟨some 41,.binOp .lss 2 (.tmp 35) (.tmp 40) 2,t23,q23,#[⟨17,.data⟩,⟨22,.data⟩,⟨15,.guard⟩],some (15,false)⟩,
 ⟨some 42,.pick (.tmp 33) (.const (.bool true)) (.tmp 41),t24,q24,#[⟨15,.data⟩,⟨23,.data⟩],none⟩,
 ⟨some 43,.move (.tmp 42),t25,q25,#[⟨24,.data⟩,⟨15,.chain⟩],none⟩,
 ⟨some 44,.fieldAddr 29 (.tmp 11) 1,t26,q26,#[⟨25,.guard⟩],some (25,false)⟩,
 ⟨some 45,.load 2 (.tmp 44),t27,q27,#[⟨26,.data⟩,⟨25,.guard⟩],some (25,false)⟩,
 ⟨some 46,.fieldAddr 29 (.tmp 7) 1,t28,q28,#[⟨25,.guard⟩],some (25,false)⟩,
 ⟨some 47,.load 2 (.tmp 46),t29,q29,#[⟨28,.data⟩,⟨25,.guard⟩],some (25,false)⟩,
 ⟨some 48,.binOp .lss 2 (.tmp 45) (.tmp 47) 2,t30,q30,#[⟨27,.data⟩,⟨29,.data⟩,⟨25,.guard⟩],some (25,false)⟩,
 ⟨some 49,.pick (.tmp 43) (.const (.bool true)) (.tmp 48),t31,q31,#[⟨25,.data⟩,⟨30,.data⟩],none⟩] true).wp Tryz.prog Q a0 w0:=by
 by_cases e1:wc<bx
 · exact vwA (bY:=bY) (bs:=bs) (wa:=wa) (wb:=wb) (wd:=wd) (decide_eq_true e1) h1 h7 h8 h11 k0 l0 k1 l1 k2 l2 k3 l3 k4 l4 k5 l5 k6 l6 k7 l7 hz (fun aq W z0 z1 z2 z3 z4=>hQ aq W z0 z1 z2 ((show aq.tmps.getD 49 undef= .bool true from z3).trans (by congr 1;symm;unfold besB;exact decide_eq_true (by omega))) z4)
 · by_cases e2:bx+bs<wa
   · exact vwB (bY:=bY) (wb:=wb) (wd:=wd) (decide_eq_false e1) (decide_eq_true e2) h1 h7 h8 h11 k0 l0 k1 l1 k2 l2 k3 l3 k4 l4 k5 l5 k6 l6 k7 l7 hz (fun aq W z0 z1 z2 z3 z4=>hQ aq W z0 z1 z2 ((show aq.tmps.getD 49 undef= .bool true from z3).trans (by congr 1;symm;unfold besB;exact decide_eq_true (by omega))) z4)
   · by_cases e3:wd<bY
     · exact vwC (wb:=wb) (decide_eq_false e1) (decide_eq_false e2) (decide_eq_true e3) h1 h7 h8 h11 k0 l0 k1 l1 k2 l2 k3 l3 k4 l4 k5 l5 k6 l6 k7 l7 hz (fun aq W z0 z1 z2 z3 z4=>hQ aq W z0 z1 z2 ((show aq.tmps.getD 49 undef= .bool true from z3).trans (by congr 1;symm;unfold besB;exact decide_eq_true (by omega))) z4)
     · exact vwD (decide_eq_false e1) (decide_eq_false e2) (decide_eq_false e3) h1 h7 h8 h11 k0 l0 k1 l1 k2 l2 k3 l3 k4 l4 k5 l5 k6 l6 k7 l7 hz (fun aq W z0 z1 z2 z3 z4=>hQ aq W z0 z1 z2 ((show aq.tmps.getD 49 undef= .bool (decide (bY+bs<wb)) from z3).trans (by congr 1;unfold besB;exact decide_eq_decide.2 (by omega))) z4)
theorem within_any (Q:QD) (gq ic:Nat) (io:Option Addr) (m d:Int) (pv:Value) (wa wb wc wd:Int) (hm:Q.m≤40) (hr:riseI Q) (h6:Its6 Q (List.range Q.m)) (ia:In6 wa) (ib:In6 wb) (ic6:In6 wc) (id6:In6 wd) (w0:World) (BQ:Blk w0 gq [.int .i64 m,.int .i64 d,.slice io Q.m ic,pv]) (hS:ItIn Q w0 io (List.range Q.m)) (t:QT):∀(ok:Nat→Prop) (x y s lv:Int) (g:Nat) (L:List Int) (v:Value) (w:World),Sq x y s→rtT Q t x y s=true→PTr ok w0 t x y s lv g→L.length+Q.m*nlT t≤4000000→Below w0.heap.size w0 w→w.ownsRow w0.heap.size 2 1 v L.length (L.map (Value.int .i64))→Calls Tryz.prog 18 #[.pointer (some ⟨gq,0,none⟩),.pointer (some ⟨g,0,none⟩),Sp wa wb,Sp wc wd,v] w (WithP w0 v (L ++idL Q (wnT Q wa wb wc wd t x y s)) w):=by
 obtain⟨i0,hi,hz0,hz1,hz2⟩:=info_parts Tryz.infoNo;have HSS:Hid (∀W,Below w0.heap.size w0 W→ItIn Q W io (List.range Q.m)):=fun W h=>hS.step h;clear hS
 induction t with
 | leaf l =>
  intro ok x y s lv g L v w hq hrt hP hlen HB HO;obtain⟨hokg,iv,B00,hI⟩:=hP;have hll:l=idL Q (flQ Q (List.range Q.m) x y s):=of_decide_eq_true hrt;obtain⟨il,hil⟩:∃il,flQ Q (List.range Q.m) x y s=il:=⟨_,rfl⟩;have HIQ:Hid (flQ Q (List.range Q.m) x y s=il):=hil;have HIL:Hid ((∀i∈il,i<Q.m)∧il.length≤40):=by
   refine⟨fun i h=>?_,?_⟩
   · rw[←hil] at h;exact List.mem_range.1 (List.mem_filter.1 h).1
   · rw[←hil];exact Nat.le_trans (List.length_filter_le _ _) (by rw[List.length_range];exact hm)
  rw[hil] at hll;rw[hll] at hI;have HII:Hid (∀W,Below w0.heap.size w0 W→IdV ok W iv (idL Q il)):=fun W h=>hI.step h;clear hI hil hll hrt;obtain⟨ao,cap,rfl⟩:=ownQ_slice HO;have hvw:=HO.lt;have B0:=B00.below HB B00.lt;have hg0:=B00.lt;have hw0:=HB.size;have H1:Below w.heap.size w ((w.alloc (.cells #[.int .i64 wa,.int .i64 wb] 29)).alloc (.cells #[.int .i64 wc,.int .i64 wd] 29)):=((Below.refl _ w).alloc (Nat.le_refl _) _).alloc (by simp) _;have BL:=(Blk.new w [.int .i64 wa,.int .i64 wb] 29 rfl).alloc (.cells #[.int .i64 wc,.int .i64 wd] 29);have BH:=Blk.new (w.alloc (.cells #[.int .i64 wa,.int .i64 wb] 29)) [.int .i64 wc,.int .i64 wd] 29 rfl;simp only[World.size_alloc] at BH;replace B0:=B0.step H1
  go_enter Tryz.func18,Tryz.ntmps18
  go_upto_region 1 with fail;generalize ((w.alloc (.cells #[.int .i64 wa,.int .i64 wb] 29)).alloc (.cells #[.int .i64 wc,.int .i64 wd] 29))=W1 at *;go_wp2_with fail;refine(high_any g x y s lv _ _ hq W1 B0).mono ?_;rintro r w1 ⟨rfl,hB1⟩;replace B0:=B0.step hB1;replace BL:=BL.step hB1;replace BH:=BH.step hB1;replace H1:=H1.trans (hB1.mono H1.size);clear hB1;have BT:=Blk.new w1 [.int .i64 (x+s),.int .i64 (y+s)] 29 rfl;have hT1:=(Below.refl w1.heap.size w1).alloc (Nat.le_refl _) (.cells #[.int .i64 (x+s),.int .i64 (y+s)] 29);replace B0:=B0.step hT1;replace BL:=BL.step hT1;replace BH:=BH.step hT1;replace H1:=H1.trans (hT1.mono H1.size);clear hT1;go_upto_region 2 with fail;change Blk (w1.alloc (.cells #[.int .i64 (x+s),.int .i64 (y+s)] 29)) w1.heap.size [.int .i64 (x+s),.int .i64 (y+s)] at BT;generalize (w1.alloc (.cells #[.int .i64 (x+s),.int .i64 (y+s)] 29))=W2 at *;refine vwE (Be:=g) (Lb:=w.heap.size) (Hb:=w.heap.size+1) (Tb:=w1.heap.size) (bx:=x) (bY:=y) (bs:=s) (wa:=wa) (wb:=wb) (wc:=wc) (wd:=wd) rfl rfl rfl rfl (BH.c 0 rfl) BH.lt (BH.c 1 rfl) BH.lt (BL.c 0 rfl) BL.lt (BL.c 1 rfl) BL.lt (BT.c 0 rfl) BT.lt (BT.c 1 rfl) BT.lt (B0.c 0 rfl) B0.lt (B0.c 1 rfl) B0.lt rfl ?_;rintro⟨tm,df⟩ Wz hz hdf hoff h49 hBz;simp only at hz hdf hoff h49;subst hdf;have htm:=tmps_fold [18,19,20,21,22,23,24,25,26,27,28,29,30,31,32,33,34,35,36,37,38,39,40,41,42,43,44,45,46,47,48,49] tm _ hz hoff;simp only[List.foldl,List.setIfInBounds_toArray,List.set_cons_zero,List.set_cons_succ,h49] at htm;clear hz hoff;generalize tm.getD 18 undef=pz0,tm.getD 19 undef=pz1,tm.getD 20 undef=pz2,tm.getD 21 undef=pz3,tm.getD 22 undef=pz4,tm.getD 23 undef=pz5,tm.getD 24 undef=pz6,tm.getD 25 undef=pz7,tm.getD 26 undef=pz8,tm.getD 27 undef=pz9,tm.getD 28 undef=pz10,tm.getD 29 undef=pz11,tm.getD 30 undef=pz12,tm.getD 31 undef=pz13,tm.getD 32 undef=pz14,tm.getD 33 undef=pz15,tm.getD 34 undef=pz16,tm.getD 35 undef=pz17,tm.getD 36 undef=pz18,tm.getD 37 undef=pz19,tm.getD 38 undef=pz20,tm.getD 39 undef=pz21,tm.getD 40 undef=pz22,tm.getD 41 undef=pz23,tm.getD 42 undef=pz24,tm.getD 43 undef=pz25,tm.getD 44 undef=pz26,tm.getD 45 undef=pz27,tm.getD 46 undef=pz28,tm.getD 47 undef=pz29,tm.getD 48 undef=pz30 at htm;clear h49;subst htm;replace B0:=B0.step hBz;replace BL:=BL.step hBz;replace BH:=BH.step hBz;replace H1:=H1.trans (hBz.mono H1.size);clear hBz BT;have hH1s:=H1.size;obtain⟨be,hbe⟩:∃be,besB x y s wa wb wc wd=be:=⟨_,rfl⟩;rw[hbe];cases be with
  | true=>
   have HE:Hid (wnT Q wa wb wc wd (.leaf l) x y s=[]):=by show _=_;rw[wnT,if_pos hbe]
   have HON:=ownA_step HO H1;have HRN:=(RowTo.refl (.slice ao L.length cap) w).step H1;clear B0 BL BH H1 HO;go_wp2;go_ret;refine⟨_,rfl,?_,HRN⟩;rw[HE.out];show World.ownsRow _ _ _ _ _ (L ++[]).length ((L ++[]).map _);rw[List.append_nil];exact HON
  | false =>
   have HE:Hid (wnT Q wa wb wc wd (.leaf l) x y s=il.filter (hitW Q wa wb wc wd)):=by show _=_;rw[wnT,if_neg (by rw[hbe];decide),HIQ.out]
   have HL1:Hid (L.length≤4000000):=by show _≤_;omega
   have k5:=B0.c 5 rfl;have HON:=ownA_step HO H1;clear HO;go_wp2_with fail
   go_loopw [4,56] (fun o i wr=>i= .int .i64 0∧wr.ownsRow w0.heap.size 2 1 o L.length (L.map (Value.int .i64))∧RowTo (.slice ao L.length cap) o Wz wr) (fun _ _ _=>0)
   case atStart=>exact⟨rfl,HON,RowTo.refl _ _⟩
   case round=>
    clear HON k5;obtain⟨rfl,HO1,HRz⟩:=hrel;obtain⟨vo,rfl⟩:∃vo,vo=u4:=⟨u4,rfl⟩;obtain⟨wo,rfl⟩:∃wo,wo=wr:=⟨wr,rfl⟩;have hsz1:=HRz.1.size;have hlt1:=HO1.lt;have B0r:=HRz.blk B0 (fun e=>by have:=(hvw g e).1;omega);have BLr:=HRz.blk BL (fun e=>by have:=(hvw _ e).2;omega);have BHr:=HRz.blk BH (fun e=>by have:=(hvw _ e).2;omega);have HBr:Below w0.heap.size w0 wo:=HRz.below (HB.trans (H1.mono hw0)) (fun k e=>(hvw k e).1) (by omega);have CH:=held_any Q gq g ic io m d pv x y s lv _ _ il ok (by omega) hr HIL.out.1 (by have:=HIL.out.2;omega) wo (BQ.below HBr BQ.lt) B0r (HII.out wo HBr) (HSS.out wo HBr);have HRw:Hid (RowTo (.slice ao L.length cap) vo w wo):=((RowTo.refl _ w).step H1).trans HRz;have hNL:vo.ownBlock≠some w.heap.size:=HRz.own (fun e=>by have:=(hvw _ e).2;omega) BL.lt;have hNH:vo.ownBlock≠some (w.heap.size+1):=HRz.own (fun e=>by have:=(hvw _ e).2;omega) BH.lt;clear B0 BL BH B0r HRz;go_wp2_with fail;refine CH.mono ?_;rintro r w5 ⟨v5,rfl,HV,hB5⟩;have HV5:=HV.lt;obtain⟨io5,ic5,rfl,hI5⟩:=ItIn.of HV;have HIO:Hid (∀A o sp,io5=some ⟨A,o,sp⟩→vo.ownBlock≠some A):=fun A o sp e h=>by
     have h1:=(HV5 A (by subst e;rfl)).1;have h2:=(hlt1 A h).2
     omega
    have hb5s:=hB5.size;have HO5:=ownA_step HO1 hB5;replace BLr:=BLr.step hB5;replace BHr:=BHr.step hB5;have HR5:Hid (RowTo (.slice ao L.length cap) vo w w5):=HRw.out.step hB5;have HI5:Hid (ItIn Q w5 io5 il):=hI5;obtain⟨n,hn⟩:∃n,il.length=n:=⟨_,rfl⟩;have HN:Hid (il.length=n):=hn;have hnb:n≤40:=by rw[←hn];exact HIL.out.2
    have h0w5:w0.heap.size≤w5.heap.size:=by omega
    rw[hn];have hnI:(n:Int)≤40:=by omega
    have HLE:Hid (∀c,(L ++idL Q ((il.take c).filter (hitW Q wa wb wc wd))).length≤4000040):=fun c=>by
     have h:=HIL.out.2;have h2:((il.take c).filter (hitW Q wa wb wc wd)).length≤40:=Nat.le_trans (List.length_filter_le _ _) (by rw[List.length_take];omega);have h3:=HL1.out;unfold idL at h3⊢;simp only[List.length_append,List.length_map] at h3⊢
     omega
    clear CH hB5 HO1 hI5 HV HV5 hn HRw HBr hlt1;go_wp2_with fail
    go_loopw [4,71] (fun o i wz=>∃c:Nat,c≤n∧i= .int .i64 c∧wz.ownsRow w0.heap.size 2 1 o (L ++idL Q ((il.take c).filter (hitW Q wa wb wc wd))).length ((L ++idL Q ((il.take c).filter (hitW Q wa wb wc wd))).map (Value.int .i64))∧RowTo vo o w5 wz) (fun _ i _=>n-(intOf i).toNat)
    case atStart=>exact⟨0,by omega,rfl,by simpa [idL] using HO5,RowTo.refl _ _⟩
    case round=>
     clear HO5;obtain⟨c,hc,rfl,HO6,HR6⟩:=hrel;have hsz6:=HR6.1.size;have BLz:=HR6.blk BLr hNL;have BHz:=HR6.blk BHr hNH;clear BLr BHr
     by_cases hcn:c<n
     · have hcI:(c:Int)<n:=by omega
       obtain⟨i,hi2⟩:∃i,il[c]? =some i:=⟨_,List.getElem?_eq_getElem (by have:=HN.out;omega)⟩;have him:i<Q.m:=HIL.out.1 i (List.mem_of_getElem? hi2);obtain⟨A5,off5,hio,hA5,q0,q1,q2,q3,q4⟩:=(HI5.out.rowTo HR6 HIO.out) c i hi2;subst hio;obtain⟨sa6,sb6,sc6,sd6⟩:=h6 i (List.mem_range.2 him);have MB:=meetsBox_any (Q.S i).1 (Q.S i).2.1 (Q.S i).2.2.1 (Q.S i).2.2.2 wa wb wc wd sa6 sb6 sc6 sd6 ia ib ic6 id6;change ∀w,Calls _ _ _ w (BoolP (hitW Q wa wb wc wd i) w) at MB;obtain⟨bh,hbh⟩:∃b,hitW Q wa wb wc wd i=b:=⟨_,rfl⟩;have HFM:Hid ((il.take (c+1)).filter (hitW Q wa wb wc wd)=(il.take c).filter (hitW Q wa wb wc wd) ++(if bh=true then[i] else[])):=by rw[←hbh];exact fw_more Q il wa wb wc wd hi2
       rw[hbh] at MB;have hB7:=(Below.refl wr.heap.size wr).alloc (Nat.le_refl _) (.cells #[.int .i64 (Q.I i),.int .i64 (Q.S i).1,.int .i64 (Q.S i).2.1,.int .i64 (Q.S i).2.2.1,.int .i64 (Q.S i).2.2.2] 40);have BI:Blk (wr.alloc (.cells #[.int .i64 (Q.I i),.int .i64 (Q.S i).1,.int .i64 (Q.S i).2.1,.int .i64 (Q.S i).2.2.1,.int .i64 (Q.S i).2.2.2] 40)) wr.heap.size [.int .i64 (Q.I i),.int .i64 (Q.S i).1,.int .i64 (Q.S i).2.1,.int .i64 (Q.S i).2.2.1,.int .i64 (Q.S i).2.2.2]:=Blk.new wr [.int .i64 (Q.I i),.int .i64 (Q.S i).1,.int .i64 (Q.S i).2.1,.int .i64 (Q.S i).2.2.1,.int .i64 (Q.S i).2.2.2] 40 rfl;replace BLz:=BLz.step hB7;replace BHz:=BHz.step hB7;have HO7:=ownA_step HO6 hB7;have HR7:=HR6.step hB7;have hs7:=hB7.size;go_upto_region 12 with fail;clear q0 q1 q2 q3 q4 HO6 HR6 hB7;generalize (wr.alloc (.cells #[.int .i64 (Q.I i),.int .i64 (Q.S i).1,.int .i64 (Q.S i).2.1,.int .i64 (Q.S i).2.2.1,.int .i64 (Q.S i).2.2.2] 40))=w7 at *;have m0:=BI.c 0 rfl;have m1:=BI.c 1 rfl;have m2:=BI.c 2 rfl;have m3:=BI.c 3 rfl;have m4:=BI.c 4 rfl;have n0:=BLz.c 0 rfl;have n1:=BLz.c 1 rfl;have n2:=BHz.c 0 rfl;have n3:=BHz.c 1 rfl;go_wp2_with fail;refine(MB _).mono ?_;rintro r w8 ⟨rfl,hB8⟩;replace BI:=BI.step hB8;replace HO7:=ownA_step HO7 hB8;replace HR7:=HR7.step hB8;have hs8:=hB8.size;clear hB8 MB m0 m1 m2 m3 m4 n0 n1 n2 n3 BLz BHz;cases bh with
       | false=>
        rw[if_neg (by decide),List.append_nil] at HFM;clear BI;go_wp2;go_roundw
        case rel=>exact⟨c+1,by omega,by go_num,by rw[HFM.out];exact HO7,HR7⟩
        case measure=>simp[intOf];omega
       | true=>
        rw[if_pos rfl] at HFM;have hle:=HLE.out c;have m0:=BI.c 0 rfl
        go_wp2_with (at_builtin;go_loud (refine wpList_append_own_at _ rfl _ _ 32 rfl w0.heap.size 2 i0 (.int .i64 0) 1 8 Tryz.underlying32 hi hz0 hz1 hz2 rfl (by decide) _ _ _ rfl (ownA_step HO7 ((Below.refl _ _).alloc (Nat.le_refl _) _)) ⟨w8.heap.size,0,none⟩ 1 1 [.int .i64 (Q.I i)] rfl rfl (cell_one_new _ _ _) (one_cell _ _) (by unfold maxLen;omega) (by omega) (by simp;omega) ?_))
        intro v9 w9 hown9 hgrow9 _ hob9;have HR9:RowTo vo v9 w5 w9:=(HR7.step ((Below.refl _ _).alloc (Nat.le_refl _) _)).trans ⟨hgrow9,fun k hk=>by
         rcases hob9 with e | e
         · exact .inl (by rw[←e];exact hk)
         · rw[e] at hk;cases hk;exact .inr (by simp)⟩
        have HN9:Hid (w9.ownsRow w0.heap.size 2 1 v9 (L ++idL Q ((il.take (c+1)).filter (hitW Q wa wb wc wd))).length ((L ++idL Q ((il.take (c+1)).filter (hitW Q wa wb wc wd))).map (Value.int .i64))):=by
         have e1:L ++idL Q ((il.take (c+1)).filter (hitW Q wa wb wc wd))=(L ++idL Q ((il.take c).filter (hitW Q wa wb wc wd))) ++[Q.I i]:=by
          rw[HFM.out]
          simp[idL]
         show World.ownsRow _ _ _ _ _ _ _;rw[e1]
         simpa [Nat.add_assoc] using hown9
        clear HO7 HR7 hown9 hgrow9 m0 BI hob9;go_wp2;go_roundw
        case rel=>exact⟨c+1,by omega,by go_num,HN9.out,HR9⟩
        case measure=>simp[intOf];omega
     · obtain rfl:c=n:=by omega
       have HOF:Hid (wr.ownsRow w0.heap.size 2 1 u4 (L ++idL Q (il.filter (hitW Q wa wb wc wd))).length ((L ++idL Q (il.filter (hitW Q wa wb wc wd))).map (Value.int .i64))):=by
        rw[List.take_of_length_le (by have:=HN.out;omega)] at HO6;exact HO6
       have HRF:Hid (RowTo (.slice ao L.length cap) u4 w wr):=HR5.out.trans HR6;clear HO6 HR6 BLz BHz;go_wp2;go_ret;refine⟨_,rfl,?_,HRF.out⟩;have h:=HOF.out;rw[HE.out];exact h
 | node K ih=>
  intro ok x y s lv g L v w hq hrt hP hlen HB HO;obtain⟨hokg,A,kc,gs,B00,hA,hoA,hk⟩:=hP;have HK:Hid (∀k,k<4→w0.cell? ⟨A,k,none⟩=some (.pointer (some ⟨gs k,0,none⟩))∧PTr ok w0 (K k) (kX x (s / 2) k) (kY y (s / 2) k) (s / 2) (lv+1) (gs k)):=hk;have HRT:Hid (∀k,k<4→rtT Q (K k) (kX x (s / 2) k) (kY y (s / 2) k) (s / 2)=true):=fun k hk4=>(List.all_eq_true.1 hrt) k (List.mem_range.2 hk4);obtain⟨il,hil⟩:∃il:List Nat,il=[]:=⟨_,rfl⟩;have HIL:Hid ((∀i∈il,i<Q.m)∧il.length≤40):=by rw[hil];exact⟨fun i h=>absurd h (by simp),by simp⟩
  have HII:Hid (∀W,Below w0.heap.size w0 W→IdV ok W (.slice none 0 0) (idL Q il)):=fun W _=>by
   rw[hil];exact⟨none,0,rfl,fun i hi=>absurd hi (by simp[idL]),fun _=>rfl,fun A o sp e=>by cases e⟩
  have HNI:Hid (idL Q (il.filter (hitW Q wa wb wc wd))=[]):=by show _=_;rw[hil];rfl
  obtain⟨F,hF⟩:∃F:Nat→List Nat,F=fun k=>wnT Q wa wb wc wd (K k) (kX x (s / 2) k) (kY y (s / 2) k) (s / 2):=⟨_,rfl⟩;have HFK:Hid (∀k,wnT Q wa wb wc wd (K k) (kX x (s / 2) k) (kY y (s / 2) k) (s / 2)=F k):=fun k=>by rw[hF]
  have HLL:Hid ((∀k,k<4→(L ++idL Q (wnK F k)).length+Q.m*nlT (K k)≤4000000)∧(L ++idL Q (wnK F 4)).length≤4000000):=by
   have h0:=wnT_len Q wa wb wc wd (K 0) (kX x (s / 2) 0) (kY y (s / 2) 0) (s / 2);have h1:=wnT_len Q wa wb wc wd (K 1) (kX x (s / 2) 1) (kY y (s / 2) 1) (s / 2);have h2:=wnT_len Q wa wb wc wd (K 2) (kX x (s / 2) 2) (kY y (s / 2) 2) (s / 2);have h3:=wnT_len Q wa wb wc wd (K 3) (kX x (s / 2) 3) (kY y (s / 2) 3) (s / 2);rw[HFK.out] at h0 h1 h2 h3;have hln:L.length+Q.m*(nlT (K 0)+nlT (K 1)+nlT (K 2)+nlT (K 3))≤4000000:=hlen;simp only[Nat.mul_add] at hln;refine⟨fun k hk4=>?_,?_⟩
   · rcases(show k=0∨k=1∨k=2∨k=3 by omega) with e | e | e | e<;>subst e<;>simp only[wnK,idL,List.length_append,List.length_map,List.length_nil]<;>omega
   · simp only[wnK,idL,List.length_append,List.length_map,List.length_nil]
     omega
  have HEE:Hid (besB x y s wa wb wc wd=false→wnT Q wa wb wc wd (.node K) x y s=wnK F 4):=fun h=>by rw[wnT,if_neg (by rw[h];decide),hF]
  clear hk hrt hil hlen hF;obtain⟨ao,cap,rfl⟩:=ownQ_slice HO;have hvw:=HO.lt;have B0:=B00.below HB B00.lt;have hg0:=B00.lt;have hw0:=HB.size;have H1:Below w.heap.size w ((w.alloc (.cells #[.int .i64 wa,.int .i64 wb] 29)).alloc (.cells #[.int .i64 wc,.int .i64 wd] 29)):=((Below.refl _ w).alloc (Nat.le_refl _) _).alloc (by simp) _;have BL:=(Blk.new w [.int .i64 wa,.int .i64 wb] 29 rfl).alloc (.cells #[.int .i64 wc,.int .i64 wd] 29);have BH:=Blk.new (w.alloc (.cells #[.int .i64 wa,.int .i64 wb] 29)) [.int .i64 wc,.int .i64 wd] 29 rfl;simp only[World.size_alloc] at BH;replace B0:=B0.step H1
  go_enter Tryz.func18,Tryz.ntmps18
  go_upto_region 1 with fail;generalize ((w.alloc (.cells #[.int .i64 wa,.int .i64 wb] 29)).alloc (.cells #[.int .i64 wc,.int .i64 wd] 29))=W1 at *;go_wp2_with fail;refine(high_any g x y s lv _ _ hq W1 B0).mono ?_;rintro r w1 ⟨rfl,hB1⟩;replace B0:=B0.step hB1;replace BL:=BL.step hB1;replace BH:=BH.step hB1;replace H1:=H1.trans (hB1.mono H1.size);clear hB1;have BT:=Blk.new w1 [.int .i64 (x+s),.int .i64 (y+s)] 29 rfl;have hT1:=(Below.refl w1.heap.size w1).alloc (Nat.le_refl _) (.cells #[.int .i64 (x+s),.int .i64 (y+s)] 29);replace B0:=B0.step hT1;replace BL:=BL.step hT1;replace BH:=BH.step hT1;replace H1:=H1.trans (hT1.mono H1.size);clear hT1;go_upto_region 2 with fail;change Blk (w1.alloc (.cells #[.int .i64 (x+s),.int .i64 (y+s)] 29)) w1.heap.size [.int .i64 (x+s),.int .i64 (y+s)] at BT;generalize (w1.alloc (.cells #[.int .i64 (x+s),.int .i64 (y+s)] 29))=W2 at *;refine vwE (Be:=g) (Lb:=w.heap.size) (Hb:=w.heap.size+1) (Tb:=w1.heap.size) (bx:=x) (bY:=y) (bs:=s) (wa:=wa) (wb:=wb) (wc:=wc) (wd:=wd) rfl rfl rfl rfl (BH.c 0 rfl) BH.lt (BH.c 1 rfl) BH.lt (BL.c 0 rfl) BL.lt (BL.c 1 rfl) BL.lt (BT.c 0 rfl) BT.lt (BT.c 1 rfl) BT.lt (B0.c 0 rfl) B0.lt (B0.c 1 rfl) B0.lt rfl ?_;rintro⟨tm,df⟩ Wz hz hdf hoff h49 hBz;simp only at hz hdf hoff h49;subst hdf;have htm:=tmps_fold [18,19,20,21,22,23,24,25,26,27,28,29,30,31,32,33,34,35,36,37,38,39,40,41,42,43,44,45,46,47,48,49] tm _ hz hoff;simp only[List.foldl,List.setIfInBounds_toArray,List.set_cons_zero,List.set_cons_succ,h49] at htm;clear hz hoff;generalize tm.getD 18 undef=pz0,tm.getD 19 undef=pz1,tm.getD 20 undef=pz2,tm.getD 21 undef=pz3,tm.getD 22 undef=pz4,tm.getD 23 undef=pz5,tm.getD 24 undef=pz6,tm.getD 25 undef=pz7,tm.getD 26 undef=pz8,tm.getD 27 undef=pz9,tm.getD 28 undef=pz10,tm.getD 29 undef=pz11,tm.getD 30 undef=pz12,tm.getD 31 undef=pz13,tm.getD 32 undef=pz14,tm.getD 33 undef=pz15,tm.getD 34 undef=pz16,tm.getD 35 undef=pz17,tm.getD 36 undef=pz18,tm.getD 37 undef=pz19,tm.getD 38 undef=pz20,tm.getD 39 undef=pz21,tm.getD 40 undef=pz22,tm.getD 41 undef=pz23,tm.getD 42 undef=pz24,tm.getD 43 undef=pz25,tm.getD 44 undef=pz26,tm.getD 45 undef=pz27,tm.getD 46 undef=pz28,tm.getD 47 undef=pz29,tm.getD 48 undef=pz30 at htm;clear h49;subst htm;replace B0:=B0.step hBz;replace BL:=BL.step hBz;replace BH:=BH.step hBz;replace H1:=H1.trans (hBz.mono H1.size);clear hBz BT;have hH1s:=H1.size;obtain⟨be,hbe⟩:∃be,besB x y s wa wb wc wd=be:=⟨_,rfl⟩;rw[hbe];cases be with
  | true=>
   have HE:Hid (wnT Q wa wb wc wd (.node K) x y s=[]):=by show _=_;rw[wnT,if_pos hbe]
   have HON:=ownA_step HO H1;have HRN:=(RowTo.refl (.slice ao L.length cap) w).step H1;clear B0 BL BH H1 HO;go_wp2;go_ret;refine⟨_,rfl,?_,HRN⟩;rw[HE.out];show World.ownsRow _ _ _ _ _ (L ++[]).length ((L ++[]).map _);rw[List.append_nil];exact HON
  | false =>
   have HE:Hid (wnT Q wa wb wc wd (.node K) x y s=wnK F 4):=HEE.out hbe;have HL1:Hid ((L ++idL Q (wnK F 4)).length≤4000000):=HLL.out.2;have k5:=B0.c 5 rfl;have HON:=ownA_step HO H1;clear HO;go_wp2_with fail
   go_loopw [4,56] (fun o i wr=>∃k:Nat,k≤4∧i= .int .i64 k∧wr.ownsRow w0.heap.size 2 1 o (L ++idL Q (wnK F k)).length ((L ++idL Q (wnK F k)).map (Value.int .i64))∧RowTo (.slice ao L.length cap) o Wz wr) (fun _ i _=>4-(intOf i).toNat)
   case atStart=>exact⟨0,by omega,rfl,by simpa [wnK,idL] using HON,RowTo.refl _ _⟩
   case round=>
    clear HON k5;obtain⟨k,hk,rfl,HO1,HRz⟩:=hrel
    by_cases hk4:k<4
    · have hkI:(k:Int)<4:=by omega
      obtain⟨ck,hPk⟩:=HK.out k hk4;have hszr:=HRz.1.size;have HBr:Below w0.heap.size w0 wr:=HRz.below (HB.trans (H1.mono hw0)) (fun k e=>(hvw k e).1) (by omega);have C:=ih k ok (kX x (s / 2) k) (kY y (s / 2) k) (s / 2) (lv+1) (gs k) (L ++idL Q (wnK F k)) u4 wr (hq.kid hk4) (HRT.out k hk4) hPk (HLL.out.1 k hk4) HBr HO1;rw[HFK.out k] at C;have cw:=(HBr.cell (p:=⟨A,k,none⟩) hA).trans ck;have BLr:=HRz.blk BL (fun e=>by have:=(hvw _ e).2;omega);have BHr:=HRz.blk BH (fun e=>by have:=(hvw _ e).2;omega);have n0:=BLr.c 0 rfl;have n1:=BLr.c 1 rfl;have n2:=BHr.c 0 rfl;have n3:=BHr.c 1 rfl;clear HO1 HBr BLr BHr ck hPk;go_wp2_with fail;refine C.mono ?_;rintro r w3 ⟨v3,rfl,HO3,HR3⟩;have HR9:=HRz.trans HR3;have HN9:Hid (w3.ownsRow w0.heap.size 2 1 v3 (L ++idL Q (wnK F (k+1))).length ((L ++idL Q (wnK F (k+1))).map (Value.int .i64))):=by
       have e1:L ++idL Q (wnK F (k+1))=L ++idL Q (wnK F k) ++idL Q (F k):=by simp[wnK,idL]
       show World.ownsRow _ _ _ _ _ _ _;rw[e1];exact HO3
      clear C HO3 HR3 HRz cw n0 n1 n2 n3;go_wp2;go_roundw
      case rel=>exact⟨k+1,by omega,by go_num,HN9.out,HR9⟩
      case measure=>simp[intOf];omega
    · obtain rfl:k=4:=by omega
      obtain⟨vo,rfl⟩:∃vo,vo=u4:=⟨u4,rfl⟩;obtain⟨wo,rfl⟩:∃wo,wo=wr:=⟨wr,rfl⟩;have hsz1:=HRz.1.size;have hlt1:=HO1.lt;have B0r:=HRz.blk B0 (fun e=>by have:=(hvw g e).1;omega);have BLr:=HRz.blk BL (fun e=>by have:=(hvw _ e).2;omega);have BHr:=HRz.blk BH (fun e=>by have:=(hvw _ e).2;omega);have HBr:Below w0.heap.size w0 wo:=HRz.below (HB.trans (H1.mono hw0)) (fun k e=>(hvw k e).1) (by omega);have CH:=held_any Q gq g ic io m d pv x y s lv _ _ il ok (by omega) hr HIL.out.1 (by have:=HIL.out.2;omega) wo (BQ.below HBr BQ.lt) B0r (HII.out wo HBr) (HSS.out wo HBr);have HRw:Hid (RowTo (.slice ao L.length cap) vo w wo):=((RowTo.refl _ w).step H1).trans HRz;have hNL:vo.ownBlock≠some w.heap.size:=HRz.own (fun e=>by have:=(hvw _ e).2;omega) BL.lt;have hNH:vo.ownBlock≠some (w.heap.size+1):=HRz.own (fun e=>by have:=(hvw _ e).2;omega) BH.lt;clear B0 BL BH B0r HRz;go_wp2_with fail;refine CH.mono ?_;rintro r w5 ⟨v5,rfl,HV,hB5⟩;have HV5:=HV.lt;obtain⟨io5,ic5,rfl,hI5⟩:=ItIn.of HV;have HIO:Hid (∀A o sp,io5=some ⟨A,o,sp⟩→vo.ownBlock≠some A):=fun A o sp e h=>by
       have h1:=(HV5 A (by subst e;rfl)).1;have h2:=(hlt1 A h).2
       omega
      have hb5s:=hB5.size;have HO5:=ownA_step HO1 hB5;replace BLr:=BLr.step hB5;replace BHr:=BHr.step hB5;have HR5:Hid (RowTo (.slice ao L.length cap) vo w w5):=HRw.out.step hB5;have HI5:Hid (ItIn Q w5 io5 il):=hI5;obtain⟨n,hn⟩:∃n,il.length=n:=⟨_,rfl⟩;have HN:Hid (il.length=n):=hn;have hnb:n≤40:=by rw[←hn];exact HIL.out.2
      have h0w5:w0.heap.size≤w5.heap.size:=by omega
      rw[hn];have hnI:(n:Int)≤40:=by omega
      have HLE:Hid (∀c,((L ++idL Q (wnK F 4)) ++idL Q ((il.take c).filter (hitW Q wa wb wc wd))).length≤4000040):=fun c=>by
       have h:=HIL.out.2;have h2:((il.take c).filter (hitW Q wa wb wc wd)).length≤40:=Nat.le_trans (List.length_filter_le _ _) (by rw[List.length_take];omega);have h3:=HL1.out;unfold idL at h3⊢;simp only[List.length_append,List.length_map] at h3⊢
       omega
      clear CH hB5 HO1 hI5 HV HV5 hn HRw HBr hlt1;go_wp2_with fail
      go_loopw [4,71] (fun o i wz=>∃c:Nat,c≤n∧i= .int .i64 c∧wz.ownsRow w0.heap.size 2 1 o ((L ++idL Q (wnK F 4)) ++idL Q ((il.take c).filter (hitW Q wa wb wc wd))).length (((L ++idL Q (wnK F 4)) ++idL Q ((il.take c).filter (hitW Q wa wb wc wd))).map (Value.int .i64))∧RowTo vo o w5 wz) (fun _ i _=>n-(intOf i).toNat)
      case atStart=>exact⟨0,by omega,rfl,by simpa [idL] using HO5,RowTo.refl _ _⟩
      case round=>
       clear HO5;obtain⟨c,hc,rfl,HO6,HR6⟩:=hrel;have hsz6:=HR6.1.size;have BLz:=HR6.blk BLr hNL;have BHz:=HR6.blk BHr hNH;clear BLr BHr
       by_cases hcn:c<n
       · have hcI:(c:Int)<n:=by omega
         obtain⟨i,hi2⟩:∃i,il[c]? =some i:=⟨_,List.getElem?_eq_getElem (by have:=HN.out;omega)⟩;have him:i<Q.m:=HIL.out.1 i (List.mem_of_getElem? hi2);obtain⟨A5,off5,hio,hA5,q0,q1,q2,q3,q4⟩:=(HI5.out.rowTo HR6 HIO.out) c i hi2;subst hio;obtain⟨sa6,sb6,sc6,sd6⟩:=h6 i (List.mem_range.2 him);have MB:=meetsBox_any (Q.S i).1 (Q.S i).2.1 (Q.S i).2.2.1 (Q.S i).2.2.2 wa wb wc wd sa6 sb6 sc6 sd6 ia ib ic6 id6;change ∀w,Calls _ _ _ w (BoolP (hitW Q wa wb wc wd i) w) at MB;obtain⟨bh,hbh⟩:∃b,hitW Q wa wb wc wd i=b:=⟨_,rfl⟩;have HFM:Hid ((il.take (c+1)).filter (hitW Q wa wb wc wd)=(il.take c).filter (hitW Q wa wb wc wd) ++(if bh=true then[i] else[])):=by rw[←hbh];exact fw_more Q il wa wb wc wd hi2
         rw[hbh] at MB;have hB7:=(Below.refl wr.heap.size wr).alloc (Nat.le_refl _) (.cells #[.int .i64 (Q.I i),.int .i64 (Q.S i).1,.int .i64 (Q.S i).2.1,.int .i64 (Q.S i).2.2.1,.int .i64 (Q.S i).2.2.2] 40);have BI:Blk (wr.alloc (.cells #[.int .i64 (Q.I i),.int .i64 (Q.S i).1,.int .i64 (Q.S i).2.1,.int .i64 (Q.S i).2.2.1,.int .i64 (Q.S i).2.2.2] 40)) wr.heap.size [.int .i64 (Q.I i),.int .i64 (Q.S i).1,.int .i64 (Q.S i).2.1,.int .i64 (Q.S i).2.2.1,.int .i64 (Q.S i).2.2.2]:=Blk.new wr [.int .i64 (Q.I i),.int .i64 (Q.S i).1,.int .i64 (Q.S i).2.1,.int .i64 (Q.S i).2.2.1,.int .i64 (Q.S i).2.2.2] 40 rfl;replace BLz:=BLz.step hB7;replace BHz:=BHz.step hB7;have HO7:=ownA_step HO6 hB7;have HR7:=HR6.step hB7;have hs7:=hB7.size;go_upto_region 12 with fail;clear q0 q1 q2 q3 q4 HO6 HR6 hB7;generalize (wr.alloc (.cells #[.int .i64 (Q.I i),.int .i64 (Q.S i).1,.int .i64 (Q.S i).2.1,.int .i64 (Q.S i).2.2.1,.int .i64 (Q.S i).2.2.2] 40))=w7 at *;have m0:=BI.c 0 rfl;have m1:=BI.c 1 rfl;have m2:=BI.c 2 rfl;have m3:=BI.c 3 rfl;have m4:=BI.c 4 rfl;have n0:=BLz.c 0 rfl;have n1:=BLz.c 1 rfl;have n2:=BHz.c 0 rfl;have n3:=BHz.c 1 rfl;go_wp2_with fail;refine(MB _).mono ?_;rintro r w8 ⟨rfl,hB8⟩;replace BI:=BI.step hB8;replace HO7:=ownA_step HO7 hB8;replace HR7:=HR7.step hB8;have hs8:=hB8.size;clear hB8 MB m0 m1 m2 m3 m4 n0 n1 n2 n3 BLz BHz;cases bh with
         | false=>
          rw[if_neg (by decide),List.append_nil] at HFM;clear BI;go_wp2;go_roundw
          case rel=>exact⟨c+1,by omega,by go_num,by rw[HFM.out];exact HO7,HR7⟩
          case measure=>simp[intOf];omega
         | true=>
          rw[if_pos rfl] at HFM;have hle:=HLE.out c;have m0:=BI.c 0 rfl
          go_wp2_with (at_builtin;go_loud (refine wpList_append_own_at _ rfl _ _ 32 rfl w0.heap.size 2 i0 (.int .i64 0) 1 8 Tryz.underlying32 hi hz0 hz1 hz2 rfl (by decide) _ _ _ rfl (ownA_step HO7 ((Below.refl _ _).alloc (Nat.le_refl _) _)) ⟨w8.heap.size,0,none⟩ 1 1 [.int .i64 (Q.I i)] rfl rfl (cell_one_new _ _ _) (one_cell _ _) (by unfold maxLen;omega) (by omega) (by simp;omega) ?_))
          intro v9 w9 hown9 hgrow9 _ hob9;have HR9:RowTo vo v9 w5 w9:=(HR7.step ((Below.refl _ _).alloc (Nat.le_refl _) _)).trans ⟨hgrow9,fun k hk=>by
           rcases hob9 with e | e
           · exact .inl (by rw[←e];exact hk)
           · rw[e] at hk;cases hk;exact .inr (by simp)⟩
          have HN9:Hid (w9.ownsRow w0.heap.size 2 1 v9 ((L ++idL Q (wnK F 4)) ++idL Q ((il.take (c+1)).filter (hitW Q wa wb wc wd))).length (((L ++idL Q (wnK F 4)) ++idL Q ((il.take (c+1)).filter (hitW Q wa wb wc wd))).map (Value.int .i64))):=by
           have e1:(L ++idL Q (wnK F 4)) ++idL Q ((il.take (c+1)).filter (hitW Q wa wb wc wd))=((L ++idL Q (wnK F 4)) ++idL Q ((il.take c).filter (hitW Q wa wb wc wd))) ++[Q.I i]:=by
            rw[HFM.out]
            simp[idL]
           show World.ownsRow _ _ _ _ _ _ _;rw[e1]
           simpa [Nat.add_assoc] using hown9
          clear HO7 HR7 hown9 hgrow9 m0 BI hob9;go_wp2;go_roundw
          case rel=>exact⟨c+1,by omega,by go_num,HN9.out,HR9⟩
          case measure=>simp[intOf];omega
       · obtain rfl:c=n:=by omega
         have HOF:Hid (wr.ownsRow w0.heap.size 2 1 u4 ((L ++idL Q (wnK F 4)) ++idL Q (il.filter (hitW Q wa wb wc wd))).length (((L ++idL Q (wnK F 4)) ++idL Q (il.filter (hitW Q wa wb wc wd))).map (Value.int .i64))):=by
          rw[List.take_of_length_le (by have:=HN.out;omega)] at HO6;exact HO6
         have HRF:Hid (RowTo (.slice ao L.length cap) u4 w wr):=HR5.out.trans HR6;clear HO6 HR6 BLz BHz;go_wp2;go_ret;refine⟨_,rfl,?_,HRF.out⟩;have h:=HOF.out;rw[HE.out];rw[HNI.out,List.append_nil] at h;exact h
open Go.RowKit Go.Shelf
def srtF:Nat→Nat
 | 5=>19
 | 7=>43
 | 8=>44
 | 10=>69
 | 11=>70
 | 12=>71
 | 13=>72
 | 14=>73
 | 15=>74
 | 16=>75
 | 17=>76
 | 18=>77
 | 19=>78
 | 20=>79
 | 30=>95
 | 31=>96
 | 32=>97
 | 33=>98
 | 34=>99
 | 35=>100
 | 40=>105
 | n=>n
def srtT:Nat→Nat
 | 0=>0
 | 3=>3
 | 4=>4
 | 5=>5
 | 9=>9
 | 22=>32
 | 23=>32
 | 25=>2
 | 32=>87
 | 35=>112
 | 36=>113
 | 41=>97
 | 44=>119
 | 46=>121
 | 53=>134
 | 57=>137
 | 63=>141
 | 64=>142
 | n=>n
theorem srtLays:SlLaysM.n5 Tryz.prog ⟨srtF,srtT,fun _=>0⟩ where
 mixed:=by kernel_rfl
 f5:=⟨Tryz.f19.name,by kernel_rfl,Tryz.func19.trans (congrArg some (by kernel_rfl))⟩
 f7:=⟨Tryz.f43.name,by kernel_rfl,Tryz.func43.trans (congrArg some (by kernel_rfl))⟩
 f8:=Tryz.func44.trans (congrArg some (by kernel_rfl))
 f10:=⟨Tryz.f69.name,by kernel_rfl,Tryz.func69.trans (congrArg some (by kernel_rfl))⟩
 f11:=⟨Tryz.f70.name,by kernel_rfl,Tryz.func70.trans (congrArg some (by kernel_rfl))⟩
 f12:=⟨Tryz.f71.name,by kernel_rfl,Tryz.func71.trans (congrArg some (by kernel_rfl))⟩
 f13:=⟨Tryz.f72.name,by kernel_rfl,Tryz.func72.trans (congrArg some (by kernel_rfl))⟩
 f14:=⟨Tryz.f73.name,by kernel_rfl,Tryz.func73.trans (congrArg some (by kernel_rfl))⟩
 f15:=⟨Tryz.f74.name,by kernel_rfl,Tryz.func74.trans (congrArg some (by kernel_rfl))⟩
 f16:=⟨Tryz.f75.name,by kernel_rfl,Tryz.func75.trans (congrArg some (by kernel_rfl))⟩
 f17:=⟨Tryz.f76.name,by kernel_rfl,Tryz.func76.trans (congrArg some (by kernel_rfl))⟩
 f18:=⟨Tryz.f77.name,by kernel_rfl,Tryz.func77.trans (congrArg some (by kernel_rfl))⟩
 f19:=Tryz.func78.trans (congrArg some (by kernel_rfl))
 f20:=Tryz.func79.trans (congrArg some (by kernel_rfl))
 f30:=⟨Tryz.f95.name,by kernel_rfl,Tryz.func95.trans (congrArg some (by kernel_rfl))⟩
 f31:=Tryz.func96.trans (congrArg some (by kernel_rfl))
 f32:=Tryz.func97.trans (congrArg some (by kernel_rfl))
 f33:=⟨Tryz.f98.name,by kernel_rfl,Tryz.func98.trans (congrArg some (by kernel_rfl))⟩
 f34:=⟨Tryz.f99.name,by kernel_rfl,Tryz.func99.trans (congrArg some (by kernel_rfl))⟩
 f35:=⟨Tryz.f100.name,by kernel_rfl,Tryz.func100.trans (congrArg some (by kernel_rfl))⟩
 f40:=⟨Tryz.f105.name,by kernel_rfl,Tryz.func105.trans (congrArg some (by kernel_rfl))⟩
 t0:=by kernel_rfl
 a0:=fun w=>by kernel_rfl
 z0:=fun w=>by kernel_rfl
 v0:=fun w=>by kernel_rfl
 t3:=by kernel_rfl
 a3:=fun w=>by kernel_rfl
 z3:=fun w=>by kernel_rfl
 v3:=fun w=>by kernel_rfl
 t4:=by kernel_rfl
 a4:=fun w=>by kernel_rfl
 z4:=fun w=>by kernel_rfl
 v4:=fun w=>by kernel_rfl
 t5:=by kernel_rfl
 a5:=fun w=>by kernel_rfl
 z5:=fun w=>by kernel_rfl
 v5:=fun w=>by kernel_rfl
 t9:=by kernel_rfl
 a9:=fun w=>by kernel_rfl
 z9:=fun w=>by kernel_rfl
 v9:=fun w=>by kernel_rfl
 t22:=by kernel_rfl
 a22:=fun w=>by kernel_rfl
 z22:=fun w=>by kernel_rfl
 v22:=fun w=>by kernel_rfl
 t23:=by kernel_rfl
 a23:=fun w=>by kernel_rfl
 z23:=fun w=>by kernel_rfl
 v23:=fun w=>by kernel_rfl
 t25:=by kernel_rfl
 a25:=fun w=>by kernel_rfl
 z25:=fun w=>by kernel_rfl
 v25:=fun w=>by kernel_rfl
 t32:=by kernel_rfl
 a32:=fun w=>by kernel_rfl
 z32:=fun w=>by kernel_rfl
 v32:=fun w=>by kernel_rfl
 t35:=by kernel_rfl
 a35:=fun w=>by kernel_rfl
 z35:=fun w=>by kernel_rfl
 v35:=fun w=>by kernel_rfl
 t36:=by kernel_rfl
 a36:=fun w=>by kernel_rfl
 z36:=fun w=>by kernel_rfl
 v36:=fun w=>by kernel_rfl
 t41:=by kernel_rfl
 a41:=fun w=>by kernel_rfl
 z41:=fun w=>by kernel_rfl
 v41:=fun w=>by kernel_rfl
 t44:=by kernel_rfl
 a44:=fun w=>by kernel_rfl
 z44:=fun w=>by kernel_rfl
 v44:=fun w=>by kernel_rfl
 t46:=by kernel_rfl
 a46:=fun w=>by kernel_rfl
 z46:=fun w=>by kernel_rfl
 v46:=fun w=>by kernel_rfl
 t53:=by kernel_rfl
 a53:=fun w=>by kernel_rfl
 z53:=fun w=>by kernel_rfl
 v53:=fun w=>by kernel_rfl
 t57:=by kernel_rfl
 a57:=fun w=>by kernel_rfl
 z57:=fun w=>by kernel_rfl
 v57:=fun w=>by kernel_rfl
 t63:=by kernel_rfl
 a63:=fun w=>by kernel_rfl
 z63:=fun w=>by kernel_rfl
 v63:=fun w=>by kernel_rfl
 t64:=by kernel_rfl
 a64:=fun w=>by kernel_rfl
 z64:=fun w=>by kernel_rfl
 v64:=fun w=>by kernel_rfl
open Go.RowKit Go.Shelf Go.Lib Go.Sort
def cmpT:Nat→Nat
 | 0=>0
 | 3=>3
 | 4=>4
 | 22=>32
 | 23=>2
 | n=>n
theorem cmpLays:SlLaysE.n43 Tryz.prog ⟨fun _=>20,cmpT,fun _=>0⟩ where
 mixed:=by kernel_rfl
 f43:=⟨Tryz.f20.name,by kernel_rfl,Tryz.func20.trans (congrArg some (by kernel_rfl))⟩
 t0:=by kernel_rfl
 a0:=fun w=>by kernel_rfl
 z0:=fun w=>by kernel_rfl
 v0:=fun w=>by kernel_rfl
 t3:=by kernel_rfl
 a3:=fun w=>by kernel_rfl
 z3:=fun w=>by kernel_rfl
 v3:=fun w=>by kernel_rfl
 t4:=by kernel_rfl
 a4:=fun w=>by kernel_rfl
 z4:=fun w=>by kernel_rfl
 v4:=fun w=>by kernel_rfl
 t22:=by kernel_rfl
 a22:=fun w=>by kernel_rfl
 z22:=fun w=>by kernel_rfl
 v22:=fun w=>by kernel_rfl
 a23:=fun w=>by kernel_rfl
 z23:=fun w=>by kernel_rfl
abbrev encN:Int→Value:=Value.int .i64
theorem own_putRow {w:World} {b g n cap k q:Nat} {T:TypeId} {xs:List Value} {ds:List Int} (hO:w.ownsRow b T 1 (.slice (some ⟨g,0,none⟩) n cap) n xs) (hd:ds.length=n) (hk:k≤n):(putRow encN (Sort.ahead w q) g 0 ds.toArray).ownsRow b T 1 (.slice (some ⟨g,0,none⟩) k cap) k ((ds.take k).map encN):=by
 rcases hO.2 with ⟨h,_⟩ | ⟨g',cap',cur,h,hg,hc,h1,h2,h3,_⟩
 · cases h
 · cases h;refine⟨by simp;omega,.inr ⟨g,cap,putCells encN 0 ds.toArray cur,rfl,hg,?_,by omega,h2,by simp[putCells,h3],?_⟩⟩
   · show((Sort.ahead w q).heap.modify g _)[g]? =_;rw[Array.getElem?_modify,if_pos rfl];show Option.map _ w.heap[g]? =_;rw[hc]
     rfl
   · refine List.ext_getElem? fun i=>?_
     rcases Nat.lt_or_ge i k with hi | hi
     · rw[List.getElem?_take_of_lt (by omega),Array.getElem?_toList];have hic:i<cur.size:=by rw[h3];omega
       have hid:i<ds.length:=by omega
       simp only[putCells,Array.getElem?_mapIdx,Array.getElem?_eq_getElem hic,Option.map_some];rw[if_pos ⟨Nat.zero_le _,by simp;omega⟩,List.getElem?_map,List.getElem?_take_of_lt hi,List.getElem?_eq_getElem hid]
       simp[hid]
     · rw[List.getElem?_eq_none (by rw[List.length_take];omega),List.getElem?_eq_none (by rw[List.length_map,List.length_take];omega)]
theorem below_putRow {B q g:Nat} {w0 w:World} {ds:Array Int} (hB:Below B w0 w) (hg:B≤g):Below B w0 (putRow encN (Sort.ahead w q) g 0 ds):=by
 refine hB.trans ⟨rfl,rfl,rfl,by simp,fun k hk=>?_⟩;show((Sort.ahead w q).heap.modify g _)[k]? =_;rw[Array.getElem?_modify,if_neg (by omega)]
 rfl
theorem below_growS {B:Nat} {w0 w:World} {os:Array Obj} (hB:Below B w0 w) (h:B≤w.heap.size):Below B w0 (grow w os):=
 hB.trans ⟨rfl,rfl,rfl,by simp,fun _ hk=>heap_grow_old w os (by omega)⟩
theorem own_growS {w:World} {b n:Nat} {T:TypeId} {v:Value} {xs:List Value} {os:Array Obj} (hO:w.ownsRow b T 1 v n xs):(grow w os).ownsRow b T 1 v n xs:=ownQ_heap hO (fun k hk=>heap_grow_old w os (hO.lt k hk).2)
theorem holds_own {w:World} {b g n cap:Nat} {T:TypeId} {ds:List Int} (hO:w.ownsRow b T 1 (.slice (some ⟨g,0,none⟩) n cap) n (ds.map encN)):Holds encN w g 0 ds.toArray:=fun j hj=>by
 have hj2:j<ds.length:=by simpa using hj
 have h:=ownQ_cell hO (i:=j) (v:=encN ds[j]) (by rw[List.getElem?_map,List.getElem?_eq_getElem hj2];rfl);rw[Nat.zero_add];exact⟨by rw[h.1];simp[hj2],h.2⟩
def SortP (b:Nat) (v:Value) (L:List Int) (w0:World) (r:Ending) (w' :World):Prop:=
 r= .returned (.tuple #[])∧∃zs:List Int,zs.Pairwise (· ≤·)∧(∀z,z∈zs↔z∈L)∧zs.length=L.length∧w'.ownsRow b 2 1 v zs.length (zs.map encN)∧Below b w0 w'
theorem sort64_any (b:Nat) (v:Value) (L:List Int) (w0 w:World) (hn:L.length≤4000000) (hO:w.ownsRow b 2 1 v L.length (L.map encN)) (hB:Below b w0 w) (hb:b≤w.heap.size):Calls Tryz.prog 19 #[v] w (SortP b v L w0):=by
 rcases hO.2 with ⟨h1,h2⟩ | ⟨g,cap,cur,h1,hg,hc,h3,h4,h5,h6⟩
 · subst h1;have hl:L=[]:=List.eq_nil_of_length_eq_zero h2;subst hl;refine(AnyM.slices_Sort_int_none srtLays none 0 w).mono ?_;rintro r w' ⟨rfl,rfl⟩;exact⟨rfl,[],List.Pairwise.nil,fun _=>Iff.rfl,rfl,hO,hB⟩
 · subst h1;have hgl:=(hO.lt g rfl).2;refine(AnyM.slices_Sort_int srtLays g 0 cap L w (holds_own hO) hgl (by omega)).mono ?_;rintro r w' ⟨rfl,n,os,rfl⟩;have hp:=List.mergeSort_perm L (fun x y=>decide (x≤y));have hs:=List.pairwise_mergeSort (le:=fun x y:Int=>decide (x≤y)) (fun a b c h1 h2=>by simp only[decide_eq_true_eq] at *;omega) (fun a b=>by simp only[Bool.or_eq_true,decide_eq_true_eq];omega) L;have hln:=List.length_mergeSort (le:=fun x y:Int=>decide (x≤y)) L;have hw:w.ownsRow b 2 1 (.slice (some ⟨g,0,none⟩) (L.mergeSort fun x y=>decide (x≤y)).length cap) (L.mergeSort fun x y=>decide (x≤y)).length (L.map encN):=by rw[hln];exact hO
   have hO2:=own_putRow (q:=n) hw rfl (Nat.le_refl _);rw[List.take_length,hln] at hO2;refine⟨rfl,_,hs.imp (fun h=>of_decide_eq_true h),fun z=>hp.mem_iff,hln,?_,below_growS (below_putRow hB hg) (by simp;omega)⟩;rw[hln];exact own_growS hO2
theorem get_bang {zs:List Int} {j:Nat} (h:j<zs.length):zs.toArray[j]! =zs[j]:=by simp[h]
theorem once_up {zs:List Int} (hz:zs.Pairwise (· ≤·)):∀m,m≤zs.length→incL (compactUpTo zs.toArray m)∧∀z,z∈compactUpTo zs.toArray m↔∃j,j<m∧z=zs.toArray[j]!
 | 0,_=>⟨by unfold compactUpTo;exact List.Pairwise.nil,fun z=>by simp[compactUpTo]⟩
 | m + 1, hm=>by
  obtain⟨h1,h2⟩:=once_up hz m (by omega);have hup:∀i j,i≤j→j<zs.length→zs.toArray[i]!≤zs.toArray[j]! :=fun i j hij hj=>by
   rw[get_bang (by omega),get_bang hj]
   rcases Nat.lt_or_ge i j with h | h
   · exact List.pairwise_iff_getElem.1 hz i j (by omega) hj h
   · obtain rfl:i=j:=by omega
     exact Int.le_refl _
  rw[compactUpTo_succ]
  by_cases hk:keeps zs.toArray m=true
  · rw [if_pos hk];refine⟨List.pairwise_append.2 ⟨h1,by simp,fun a ha c hc=>?_⟩,fun z=>?_⟩
    · obtain rfl:c=zs.toArray[m]! :=by simpa using hc
      obtain⟨j,hj,rfl⟩:=(h2 a).1 ha;have e1:=hup j (m-1) (by omega) (by omega);have e2:=hup (m-1) m (by omega) (by omega);have e3:zs.toArray[m]!≠zs.toArray[m-1]! :=by
       unfold keeps at hk
       rcases of_decide_eq_true hk with e | e
       · omega
       · exact e
      omega
    · rw[List.mem_append,h2]
      constructor
      · rintro(⟨j,hj,e⟩ | e)
        · exact⟨j,by omega,e⟩
        · exact⟨m,by omega,by simpa using e⟩
      · rintro⟨j,hj,e⟩
        rcases Nat.lt_or_ge j m with h | h
        · exact .inl ⟨j,h,e⟩
        · obtain rfl:j=m:=by omega
          exact .inr (by simp[e])
  · rw[if_neg hk,List.append_nil];refine⟨h1,fun z=>?_⟩;rw[h2]
    constructor
    · rintro⟨j,hj,e⟩;exact⟨j,by omega,e⟩
    · rintro⟨j,hj,e⟩
      rcases Nat.lt_or_ge j m with h | h
      · exact⟨j,h,e⟩
      · obtain rfl:j=m:=by omega
        have hne:¬(j=0∨zs.toArray[j]!≠zs.toArray[j-1]!):=fun h=>hk (decide_eq_true h);exact⟨j-1,by omega,by rw[e];exact Classical.not_not.1 (fun h=>hne (.inr h))⟩
def CompP (b:Nat) (L:List Int) (w0:World) (r:Ending) (w' :World):Prop:=
 ∃(v:Value) (cs:List Int),r= .returned v∧incL cs∧(∀z,z∈cs↔z∈L)∧w'.ownsRow b 2 1 v cs.length (cs.map encN)∧Below b w0 w'
theorem comp64_any (b:Nat) (v:Value) (L:List Int) (w0 w:World) (hn:L.length≤4000000) (hs:L.Pairwise (· ≤·)) (hO:w.ownsRow b 2 1 v L.length (L.map encN)) (hB:Below b w0 w):Calls Tryz.prog 20 #[v] w (CompP b L w0):=by
 rcases hO.2 with ⟨h1,h2⟩ | ⟨g,cap,cur,h1,hg,hc,h3,h4,h5,h6⟩
 · subst h1;have hl:L=[]:=List.eq_nil_of_length_eq_zero h2;subst hl
   go_enter Tryz.func20,Tryz.ntmps20
   go_wp2;go_ret;exact⟨_,[],rfl,List.Pairwise.nil,fun _=>Iff.rfl,hO,hB⟩
 · subst h1;have hh:=holds_own hO;have hC:=AnyE.slices_Compact cmpLays encN (fun _=>rfl) (EqlAt.intD _ _ _) (NeqAt.intD _ _ _) 0 (fun w=>by kernel_rfl) g 0 cap L.toArray w hh (by simp;omega) (by simpa using h3);have e0:L.toArray.size=L.length:=by simp
   rw[e0] at hC;refine hC.mono ?_;rintro r w' ⟨rfl,q,rfl⟩;obtain⟨h7,h8⟩:=once_up hs L.length (Nat.le_refl _);have hle:(compactUpTo L.toArray L.length).length≤L.length:=by
    unfold compactUpTo;rw[List.length_map];exact Nat.le_trans (List.length_filter_le _ _) (by simp)
   generalize hcs:compactUpTo L.toArray L.length=cs at *;have hO2:=own_putRow (q:=q) (k:=cs.length) (ds:=cs ++List.replicate (L.length-cs.length) 0) hO (by simp;omega) hle;rw[List.take_append_of_le_length (Nat.le_refl _),List.take_length] at hO2;refine⟨_,cs,rfl,h7,fun z=>?_,hO2,below_putRow hB hg⟩;rw[h8,List.mem_iff_getElem]
   constructor
   · rintro⟨j,hj,e⟩;exact⟨j,hj,by rw[e,get_bang hj]⟩
   · rintro⟨j,hj,e⟩;exact⟨j,hj,by rw[get_bang hj,e]⟩
end Go.Proofs.YthelolpogdcmhaaGreat
