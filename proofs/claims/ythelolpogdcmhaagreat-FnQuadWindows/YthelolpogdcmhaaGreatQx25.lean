/- Part 25 of the walks that the proof leans on. -/
import Derived.Test.YthelolpogdcmhaaGreatQx24
import Derived.Test.YthelolpogdcmhaaGreatQx2
import Derived.Lib.MinMax
import Derived.Test.YthelolpogdcmhaaGreatQx1
import Derived.Test.YthelolpogdcmhaaGreatQx20
set_option maxRecDepth 100000
set_option maxHeartbeats 16000000
namespace Go.Proofs.YthelolpogdcmhaaGreat
open Go.RowKit
def Sm (z:Int):Prop:=-6≤z∧z<7
theorem Sm.min {x y:Int} (h:Sm x) (h' :Sm y):Sm (Min.min x y):=by unfold Sm at *;omega
theorem Sm.max {x y:Int} (h:Sm x) (h' :Sm y):Sm (Max.max x y):=by unfold Sm at *;omega
def VbxA (_R0 _R1 _A4 _A5:Nat) (x y r s:Int) (_B:Nat):Nat→Value→World→Prop
 | 0,v,_=>v= .agg #[.int .i64 x,.int .i64 y]
 | 1,v,_=>v= .agg #[.int .i64 r,.int .i64 s]
 | _,_,_=>True
theorem VbxA.same {R0 R1 A4 A5:Nat} {x y r s:Int} {B j:Nat} {v:Value} {W W2:World} (h:VbxA R0 R1 A4 A5 x y r s B j v W):VbxA R0 R1 A4 A5 x y r s B j v W2:=by
 unfold VbxA at *
 split<;>simp only at h<;>first | exact h | trivial
def SbxA (R0 R1 A4 A5:Nat) (x y r s:Int) (W:World):Prop:=Blk W A4 [.int .i64 x,.int .i64 y]∧Blk W A5 [.int .i64 r,.int .i64 s]∧(∃p q:Int,Sm p∧Sm q∧Blk W R0 [.int .i64 p,.int .i64 q])∧∃p q:Int,Sm p∧Sm q∧Blk W R1 [.int .i64 p,.int .i64 q]
def JbxA (R0 R1 A4 A5:Nat) (x y r s:Int) (w0:World) (a0:Act) (lz:Array Bool) (az:Act) (W:World):Prop:=InvQ (R0) [some 12,some 13,none,none] (VbxA R0 R1 A4 A5 x y r s (R0)) w0 a0 lz az W∧SbxA R0 R1 A4 A5 x y r s W
theorem bxA {Q:Exit→Act→World→Prop} {R0 R1 A4 A5:Nat} {x y r s:Int} {w0:World} {a0:Act} {idq:Nat} {t0 t1 t2 t3:TypeId} {q0 q1 q2 q3:String}
 (n01:R0<R1) (n40:R1<A4) (n50:R1<A5) (hx:Sm x) (hy:Sm y) (hr:Sm r) (hs' :Sm s) (h4:a0.tmps[4]? =some (.pointer (some ⟨A4,0,none⟩))) (h5:a0.tmps[5]? =some (.pointer (some ⟨A5,0,none⟩))) (h2:a0.tmps[2]? =some (.pointer (some ⟨R0,0,none⟩))) (h3:a0.tmps[3]? =some (.pointer (some ⟨R1,0,none⟩))) (hz:a0.tmps.size=36) (hs0:SbxA R0 R1 A4 A5 x y r s w0.drew)
 (hQ:∀aq W,aq.tmps.size=a0.tmps.size→aq.defers=a0.defers→(∀e,e∉([12,13]:List Nat)→aq.tmps[e]? =a0.tmps[e]?)→Below (R0) w0 W→SbxA R0 R1 A4 A5 x y r s W→Q .normal aq W) :
 (Code.region idq #[⟨some 12,.load 29 (.tmp 4),t0,q0,#[],none⟩,
 ⟨some 13,.load 29 (.tmp 5),t1,q1,#[⟨2,.gcOnly .lateStores⟩],none⟩,
 ⟨none,.store 29 (.tmp 2) (.tmp 12),t2,q2,#[⟨0,.data⟩,⟨0,.phase⟩,⟨1,.textOnly .lateStores⟩],none⟩,
 ⟨none,.store 29 (.tmp 3) (.tmp 13),t3,q3,#[⟨1,.data⟩,⟨2,.chain⟩,⟨0,.phase⟩,⟨1,.phase⟩,⟨2,.phase⟩],none⟩] true).wp Tryz.prog Q a0 w0:=by
 have hS:distS [some 12,some 13,none,none]=true:=rfl;refine wp_region_inv (by kernel_rfl) (JbxA R0 R1 A4 A5 x y r s w0 a0) ⟨⟨rfl,rfl,rfl,fun _ _=>rfl,(Below.refl _ w0).drew,fun j d hj=>?_,fun j hj=>?_⟩,hs0⟩ ?_ ?_
 · exfalso
   rw[Array.getD_eq_getD_getElem?,Array.getElem?_replicate] at hj
   split at hj<;>simp at hj
 · exfalso
   rw[Array.getD_eq_getD_getElem?,Array.getElem?_replicate] at hj
   split at hj<;>simp at hj
 · intro lq aq W iq oq ⟨hJ2,hs⟩ hl ho hall;have z5:=hJ2.b;obtain⟨xa,xb,⟨pa,qa,ipa,iqa,xc⟩,pb,qb,ipb,iqb,xd⟩:=hs;have ca0:=xa.c 0 rfl;have ca1:=xa.c 1 rfl;have cb0:=xb.c 0 rfl;have cb1:=xb.c 1 rfl;have rc0:=xc.c 0 rfl;have sc0:=xc.f 0 rfl;have rc1:=xc.c 1 rfl;have sc1:=xc.f 1 rfl;have rlc:=xc.lt;have rd0:=xd.c 0 rfl;have sd0:=xd.f 0 rfl;have rd1:=xd.c 1 rfl;have sd1:=xd.f 1 rfl;have rld:=xd.lt;have hs:SbxA R0 R1 A4 A5 x y r s W:=⟨xa,xb,⟨pa,qa,ipa,iqa,xc⟩,pb,qb,ipb,iqb,xd⟩;have g4:=hJ2.a h4
   have g5:=hJ2.a h5
   have g2:=hJ2.a h2
   have g3:=hJ2.a h3
   have HK:=fun i d h1 h2 v W2 hW hT hv hs=>show JbxA R0 R1 A4 A5 x y r s w0 a0 (lq.setIfInBounds i true) (aq.put (some d) v) W2 from⟨hJ2.put hS i d h1 h2 hW hT v hv,hs⟩
   have HW:=fun i h1 W2 hW hT hv hs=>show JbxA R0 R1 A4 A5 x y r s w0 a0 (lq.setIfInBounds i true) aq W2 from⟨hJ2.world i h1 (W' :=W2) hW hT hv,hs⟩
   generalize JbxA R0 R1 A4 A5 x y r s w0 a0=JJ at HK HW⊢
   clear hQ
   match iq,ho with
   | 0,ho=>
    cases ho;refine wpOp_of rfl rfl ?_;have hK:=HK 0 12 rfl (by omega);generalize JJ _=K at hK⊢;clear ho hall hl HK HW hJ2 hS;go_simp;exact hK _ _ z5 (fun _ _ h=>h) rfl hs
   | 1,ho=>
    cases ho;refine wpOp_of rfl rfl ?_;have hK:=HK 1 13 rfl (by omega);generalize JJ _=K at hK⊢;clear ho hall hl HK HW hJ2 hS;go_simp;exact hK _ _ z5 (fun _ _ h=>h) rfl hs
   | 2,ho=>
    cases ho;refine wpOp_of rfl rfl ?_;have f0:_=Value.agg #[.int .i64 x,.int .i64 y]:=hJ2.v hall 0 12;have hK:=HW 2 rfl;generalize JJ _=K at hK⊢;clear ho hall hl HK HW hJ2 hS;have nb:Blk ((W.setCell ⟨R0,0,none⟩ (.int .i64 x)).setCell ⟨R0,1,none⟩ (.int .i64 y)) R0 [.int .i64 x,.int .i64 y]:=(xc.setI 0 (by simp) _).setI 1 (by simp) _;have ns:SbxA R0 R1 A4 A5 x y r s ((W.setCell ⟨R0,0,none⟩ (.int .i64 x)).setCell ⟨R0,1,none⟩ (.int .i64 y)):=⟨(xa.setO (p:=⟨R0,0,none⟩) (by show _≠R0;omega) _).setO (p:=⟨R0,1,none⟩) (by show _≠R0;omega) _,(xb.setO (p:=⟨R0,0,none⟩) (by show _≠R0;omega) _).setO (p:=⟨R0,1,none⟩) (by show _≠R0;omega) _,⟨_,_,hx,hy,nb⟩,pb,qb,ipb,iqb,(xd.setO (p:=⟨R0,0,none⟩) (by show _≠R0;omega) _).setO (p:=⟨R0,1,none⟩) (by show _≠R0;omega) _⟩;have nB:Below R0 w0 ((W.setCell ⟨R0,0,none⟩ (.int .i64 x)).setCell ⟨R0,1,none⟩ (.int .i64 y)):=(z5.setCell (p:=⟨R0,0,none⟩) (Nat.le_refl _) _).setCell (p:=⟨R0,1,none⟩) (Nat.le_refl _) _;clear xa xb xc xd nb;go_simp;exact hK _ nB (fun _ _ h=>VbxA.same h) trivial ns
   | 3,ho=>
    cases ho;refine wpOp_of rfl rfl ?_;have f1:_=Value.agg #[.int .i64 r,.int .i64 s]:=hJ2.v hall 1 13;have hK:=HW 3 rfl;generalize JJ _=K at hK⊢;clear ho hall hl HK HW hJ2 hS;have nb:Blk ((W.setCell ⟨R1,0,none⟩ (.int .i64 r)).setCell ⟨R1,1,none⟩ (.int .i64 s)) R1 [.int .i64 r,.int .i64 s]:=(xd.setI 0 (by simp) _).setI 1 (by simp) _;have ns:SbxA R0 R1 A4 A5 x y r s ((W.setCell ⟨R1,0,none⟩ (.int .i64 r)).setCell ⟨R1,1,none⟩ (.int .i64 s)):=⟨(xa.setO (p:=⟨R1,0,none⟩) (by show _≠R1;omega) _).setO (p:=⟨R1,1,none⟩) (by show _≠R1;omega) _,(xb.setO (p:=⟨R1,0,none⟩) (by show _≠R1;omega) _).setO (p:=⟨R1,1,none⟩) (by show _≠R1;omega) _,⟨pa,qa,ipa,iqa,(xc.setO (p:=⟨R1,0,none⟩) (by show _≠R1;omega) _).setO (p:=⟨R1,1,none⟩) (by show _≠R1;omega) _⟩,_,_,hr,hs',nb⟩;have nB:Below R0 w0 ((W.setCell ⟨R1,0,none⟩ (.int .i64 r)).setCell ⟨R1,1,none⟩ (.int .i64 s)):=(z5.setCell (p:=⟨R1,0,none⟩) (Nat.le_of_lt n01) _).setCell (p:=⟨R1,1,none⟩) (Nat.le_of_lt n01) _;clear xa xb xc xd nb;go_simp;exact hK _ nB (fun _ _ h=>VbxA.same h) trivial ns
   | iq+4,ho=>simp at ho
 · intro lq aq W ⟨hJ,hs⟩ hr;obtain⟨z1,z2,z3,z4,z5,z6,z7⟩:=hJ;exact hQ aq W z2 z3 (fun e he=>z4 e (by simpa using he)) z5 hs
def VbxB (_R0 _R1 A4 A5:Nat) (x y r s:Int) (_B:Nat):Nat→Value→World→Prop
 | 0,v,_=>v= .pointer (some ⟨A4,0,none⟩)
 | 1,v,_=>v= .int .i64 x
 | 2,v,_=>v= .pointer (some ⟨A5,0,none⟩)
 | 3,v,_=>v= .int .i64 r
 | 4,v,_=>v= .int .i64 (min x r)
 | 5,v,_=>v= .pointer (some ⟨A4,1,none⟩)
 | 6,v,_=>v= .int .i64 y
 | 7,v,_=>v= .pointer (some ⟨A5,1,none⟩)
 | 8,v,_=>v= .int .i64 s
 | 9,v,_=>v= .int .i64 (min y s)
 | 10,v,_=>v= .agg #[.int .i64 (min x r),.int .i64 (min y s)]
 | 11,v,_=>v= .pointer (some ⟨A4,0,none⟩)
 | 12,v,_=>v= .int .i64 x
 | 13,v,_=>v= .pointer (some ⟨A5,0,none⟩)
 | 14,v,_=>v= .int .i64 r
 | 15,v,_=>v= .int .i64 (max x r)
 | 16,v,_=>v= .pointer (some ⟨A4,1,none⟩)
 | 17,v,_=>v= .int .i64 y
 | 18,v,_=>v= .pointer (some ⟨A5,1,none⟩)
 | 19,v,_=>v= .int .i64 s
 | 20,v,_=>v= .int .i64 (max y s)
 | 21,v,_=>v= .agg #[.int .i64 (max x r),.int .i64 (max y s)]
 | _,_,_=>True
theorem VbxB.same {R0 R1 A4 A5:Nat} {x y r s:Int} {B j:Nat} {v:Value} {W W2:World} (h:VbxB R0 R1 A4 A5 x y r s B j v W):VbxB R0 R1 A4 A5 x y r s B j v W2:=by
 unfold VbxB at *
 split<;>simp only at h<;>first | exact h | trivial
def SbxB (R0 R1 A4 A5:Nat) (x y r s:Int) (W:World):Prop:=Blk W A4 [.int .i64 x,.int .i64 y]∧Blk W A5 [.int .i64 r,.int .i64 s]∧(∃p q:Int,Sm p∧Sm q∧Blk W R0 [.int .i64 p,.int .i64 q])∧∃p q:Int,Sm p∧Sm q∧Blk W R1 [.int .i64 p,.int .i64 q]
def JbxB (R0 R1 A4 A5:Nat) (x y r s:Int) (w0:World) (a0:Act) (lz:Array Bool) (az:Act) (W:World):Prop:=InvQ (R0) [some 14,some 15,some 16,some 17,some 18,some 19,some 20,some 21,some 22,some 23,some 24,some 25,some 26,some 27,some 28,some 29,some 30,some 31,some 32,some 33,some 34,some 35,none,none] (VbxB R0 R1 A4 A5 x y r s (R0)) w0 a0 lz az W∧SbxB R0 R1 A4 A5 x y r s W
theorem bxB {Q:Exit→Act→World→Prop} {R0 R1 A4 A5:Nat} {x y r s:Int} {w0:World} {a0:Act} {idq:Nat} {t0 t1 t2 t3 t4 t5 t6 t7 t8 t9 t10 t11 t12 t13 t14 t15 t16 t17 t18 t19 t20 t21 t22 t23:TypeId} {q0 q1 q2 q3 q4 q5 q6 q7 q8 q9 q10 q11 q12 q13 q14 q15 q16 q17 q18 q19 q20 q21 q22 q23:String}
 (n01:R0<R1) (n40:R1<A4) (n50:R1<A5) (hx:Sm x) (hy:Sm y) (hr:Sm r) (hs' :Sm s) (h4:a0.tmps[4]? =some (.pointer (some ⟨A4,0,none⟩))) (h5:a0.tmps[5]? =some (.pointer (some ⟨A5,0,none⟩))) (h2:a0.tmps[2]? =some (.pointer (some ⟨R0,0,none⟩))) (h3:a0.tmps[3]? =some (.pointer (some ⟨R1,0,none⟩))) (hz:a0.tmps.size=36) (hs0:SbxB R0 R1 A4 A5 x y r s w0.drew)
 (hQ:∀aq W,aq.tmps.size=a0.tmps.size→aq.defers=a0.defers→(∀e,e∉([14,15,16,17,18,19,20,21,22,23,24,25,26,27,28,29,30,31,32,33,34,35]:List Nat)→aq.tmps[e]? =a0.tmps[e]?)→Below (R0) w0 W→SbxB R0 R1 A4 A5 x y r s W→Q .normal aq W) :
 (Code.region idq #[⟨some 14,.fieldAddr 29 (.tmp 4) 0,t0,q0,#[],none⟩,
 ⟨some 15,.load 2 (.tmp 14),t1,q1,#[⟨0,.data⟩],none⟩,
 ⟨some 16,.fieldAddr 29 (.tmp 5) 0,t2,q2,#[],none⟩,
 ⟨some 17,.load 2 (.tmp 16),t3,q3,#[⟨2,.data⟩],none⟩,
 ⟨some 18,.call {callee:= .builtin .min,args:=#[.tmp 15,.tmp 17],argTypes:=#[2,2]},t4,q4,#[⟨1,.data⟩,⟨3,.data⟩],none⟩,
 ⟨some 19,.fieldAddr 29 (.tmp 4) 1,t5,q5,#[],none⟩,
 ⟨some 20,.load 2 (.tmp 19),t6,q6,#[⟨5,.data⟩],none⟩,
 ⟨some 21,.fieldAddr 29 (.tmp 5) 1,t7,q7,#[],none⟩,
 ⟨some 22,.load 2 (.tmp 21),t8,q8,#[⟨7,.data⟩],none⟩,
 ⟨some 23,.call {callee:= .builtin .min,args:=#[.tmp 20,.tmp 22],argTypes:=#[2,2]},t9,q9,#[⟨6,.data⟩,⟨8,.data⟩],none⟩,
 ⟨some 24,.build 29 #[(0,.tmp 18),(1,.tmp 23)],t10,q10,#[⟨4,.data⟩,⟨9,.data⟩],none⟩,
 ⟨some 25,.fieldAddr 29 (.tmp 4) 0,t11,q11,#[],none⟩,
 ⟨some 26,.load 2 (.tmp 25),t12,q12,#[⟨11,.data⟩],none⟩,
 ⟨some 27,.fieldAddr 29 (.tmp 5) 0,t13,q13,#[],none⟩,
 ⟨some 28,.load 2 (.tmp 27),t14,q14,#[⟨13,.data⟩],none⟩,
 ⟨some 29,.call {callee:= .builtin .max,args:=#[.tmp 26,.tmp 28],argTypes:=#[2,2]},t15,q15,#[⟨12,.data⟩,⟨14,.data⟩],none⟩,
 ⟨some 30,.fieldAddr 29 (.tmp 4) 1,t16,q16,#[],none⟩,
 ⟨some 31,.load 2 (.tmp 30),t17,q17,#[⟨16,.data⟩],none⟩,
 ⟨some 32,.fieldAddr 29 (.tmp 5) 1,t18,q18,#[],none⟩,
 ⟨some 33,.load 2 (.tmp 32),t19,q19,#[⟨18,.data⟩],none⟩,
 ⟨some 34,.call {callee:= .builtin .max,args:=#[.tmp 31,.tmp 33],argTypes:=#[2,2]},t20,q20,#[⟨17,.data⟩,⟨19,.data⟩],none⟩,
 ⟨some 35,.build 29 #[(0,.tmp 29),(1,.tmp 34)],t21,q21,#[⟨15,.data⟩,⟨20,.data⟩,⟨22,.gcOnly .lateStores⟩],none⟩,
 ⟨none,.store 29 (.tmp 2) (.tmp 24),t22,q22,#[⟨10,.data⟩,⟨0,.phase⟩,⟨1,.phase⟩,⟨2,.phase⟩,⟨3,.phase⟩,⟨4,.phase⟩,⟨5,.phase⟩,⟨6,.phase⟩,⟨7,.phase⟩,⟨8,.phase⟩,⟨9,.phase⟩,⟨10,.phase⟩,⟨11,.textOnly .lateStores⟩,⟨12,.textOnly .lateStores⟩,⟨13,.textOnly .lateStores⟩,⟨14,.textOnly .lateStores⟩,⟨15,.textOnly .lateStoresUnsure⟩,⟨16,.textOnly .lateStores⟩,⟨17,.textOnly .lateStores⟩,⟨18,.textOnly .lateStores⟩,⟨19,.textOnly .lateStores⟩,⟨20,.textOnly .lateStoresUnsure⟩,⟨21,.textOnly .lateStores⟩],none⟩,
 ⟨none,.store 29 (.tmp 3) (.tmp 35),t23,q23,#[⟨21,.data⟩,⟨22,.chain⟩,⟨0,.phase⟩,⟨1,.phase⟩,⟨2,.phase⟩,⟨3,.phase⟩,⟨4,.phase⟩,⟨5,.phase⟩,⟨6,.phase⟩,⟨7,.phase⟩,⟨8,.phase⟩,⟨9,.phase⟩,⟨10,.phase⟩,⟨11,.phase⟩,⟨12,.phase⟩,⟨13,.phase⟩,⟨14,.phase⟩,⟨15,.phase⟩,⟨16,.phase⟩,⟨17,.phase⟩,⟨18,.phase⟩,⟨19,.phase⟩,⟨20,.phase⟩,⟨21,.phase⟩,⟨22,.phase⟩],none⟩] true).wp Tryz.prog Q a0 w0:=by
 have hS:distS [some 14,some 15,some 16,some 17,some 18,some 19,some 20,some 21,some 22,some 23,some 24,some 25,some 26,some 27,some 28,some 29,some 30,some 31,some 32,some 33,some 34,some 35,none,none]=true:=rfl;refine wp_region_inv (by kernel_rfl) (JbxB R0 R1 A4 A5 x y r s w0 a0) ⟨⟨rfl,rfl,rfl,fun _ _=>rfl,(Below.refl _ w0).drew,fun j d hj=>?_,fun j hj=>?_⟩,hs0⟩ ?_ ?_
 · exfalso
   rw[Array.getD_eq_getD_getElem?,Array.getElem?_replicate] at hj
   split at hj<;>simp at hj
 · exfalso
   rw[Array.getD_eq_getD_getElem?,Array.getElem?_replicate] at hj
   split at hj<;>simp at hj
 · intro lq aq W iq oq ⟨hJ2,hs⟩ hl ho hall;have z5:=hJ2.b;obtain⟨xa,xb,⟨pa,qa,ipa,iqa,xc⟩,pb,qb,ipb,iqb,xd⟩:=hs;have ca0:=xa.c 0 rfl;have ca1:=xa.c 1 rfl;have cb0:=xb.c 0 rfl;have cb1:=xb.c 1 rfl;have rc0:=xc.c 0 rfl;have sc0:=xc.f 0 rfl;have rc1:=xc.c 1 rfl;have sc1:=xc.f 1 rfl;have rlc:=xc.lt;have rd0:=xd.c 0 rfl;have sd0:=xd.f 0 rfl;have rd1:=xd.c 1 rfl;have sd1:=xd.f 1 rfl;have rld:=xd.lt;have hs:SbxB R0 R1 A4 A5 x y r s W:=⟨xa,xb,⟨pa,qa,ipa,iqa,xc⟩,pb,qb,ipb,iqb,xd⟩;have g4:=hJ2.a h4
   have g5:=hJ2.a h5
   have g2:=hJ2.a h2
   have g3:=hJ2.a h3
   have HK:=fun i d h1 h2 v W2 hW hT hv hs=>show JbxB R0 R1 A4 A5 x y r s w0 a0 (lq.setIfInBounds i true) (aq.put (some d) v) W2 from⟨hJ2.put hS i d h1 h2 hW hT v hv,hs⟩
   have HW:=fun i h1 W2 hW hT hv hs=>show JbxB R0 R1 A4 A5 x y r s w0 a0 (lq.setIfInBounds i true) aq W2 from⟨hJ2.world i h1 (W' :=W2) hW hT hv,hs⟩
   generalize JbxB R0 R1 A4 A5 x y r s w0 a0=JJ at HK HW⊢
   clear hQ
   match iq,ho with
   | 0,ho=>
    cases ho;refine wpOp_of rfl rfl ?_;have hK:=HK 0 14 rfl (by omega);generalize JJ _=K at hK⊢;clear ho hall hl HK HW hJ2 hS;go_simp;exact hK _ _ z5 (fun _ _ h=>h) rfl hs
   | 1,ho=>
    cases ho;refine wpOp_of rfl rfl ?_;have f0:_=Value.pointer (some ⟨A4,0,none⟩):=hJ2.v hall 0 14;have hK:=HK 1 15 rfl (by omega);generalize JJ _=K at hK⊢;clear ho hall hl HK HW hJ2 hS;go_simp;exact hK _ _ z5 (fun _ _ h=>h) rfl hs
   | 2,ho=>
    cases ho;refine wpOp_of rfl rfl ?_;have hK:=HK 2 16 rfl (by omega);generalize JJ _=K at hK⊢;clear ho hall hl HK HW hJ2 hS;go_simp;exact hK _ _ z5 (fun _ _ h=>h) rfl hs
   | 3,ho=>
    cases ho;refine wpOp_of rfl rfl ?_;have f2:_=Value.pointer (some ⟨A5,0,none⟩):=hJ2.v hall 2 16;have hK:=HK 3 17 rfl (by omega);generalize JJ _=K at hK⊢;clear ho hall hl HK HW hJ2 hS;go_simp;exact hK _ _ z5 (fun _ _ h=>h) rfl hs
   | 4,ho=>
    cases ho;refine wpOp_of rfl rfl ?_;have f1:_=Value.int .i64 x:=hJ2.v hall 1 15;have f3:_=Value.int .i64 r:=hJ2.v hall 3 17;have hK:=HK 4 18 rfl (by omega);generalize JJ _=K at hK⊢;clear ho hall hl HK HW hJ2 hS;go_simp;exact hK _ _ z5 (fun _ _ h=>h) rfl hs
   | 5,ho=>
    cases ho;refine wpOp_of rfl rfl ?_;have hK:=HK 5 19 rfl (by omega);generalize JJ _=K at hK⊢;clear ho hall hl HK HW hJ2 hS;go_simp;exact hK _ _ z5 (fun _ _ h=>h) rfl hs
   | 6,ho=>
    cases ho;refine wpOp_of rfl rfl ?_;have f5:_=Value.pointer (some ⟨A4,1,none⟩):=hJ2.v hall 5 19;have hK:=HK 6 20 rfl (by omega);generalize JJ _=K at hK⊢;clear ho hall hl HK HW hJ2 hS;go_simp;exact hK _ _ z5 (fun _ _ h=>h) rfl hs
   | 7,ho=>
    cases ho;refine wpOp_of rfl rfl ?_;have hK:=HK 7 21 rfl (by omega);generalize JJ _=K at hK⊢;clear ho hall hl HK HW hJ2 hS;go_simp;exact hK _ _ z5 (fun _ _ h=>h) rfl hs
   | 8,ho=>
    cases ho;refine wpOp_of rfl rfl ?_;have f7:_=Value.pointer (some ⟨A5,1,none⟩):=hJ2.v hall 7 21;have hK:=HK 8 22 rfl (by omega);generalize JJ _=K at hK⊢;clear ho hall hl HK HW hJ2 hS;go_simp;exact hK _ _ z5 (fun _ _ h=>h) rfl hs
   | 9,ho=>
    cases ho;refine wpOp_of rfl rfl ?_;have f6:_=Value.int .i64 y:=hJ2.v hall 6 20;have f8:_=Value.int .i64 s:=hJ2.v hall 8 22;have hK:=HK 9 23 rfl (by omega);generalize JJ _=K at hK⊢;clear ho hall hl HK HW hJ2 hS;go_simp;exact hK _ _ z5 (fun _ _ h=>h) rfl hs
   | 10,ho=>
    cases ho;refine wpOp_of rfl rfl ?_;have f4:_=Value.int .i64 (min x r):=hJ2.v hall 4 18;have f9:_=Value.int .i64 (min y s):=hJ2.v hall 9 23;rw[Array.getD_eq_getD_getElem?] at f4 f9;have hK:=HK 10 24 rfl (by omega);generalize JJ _=K at hK⊢;clear ho hall hl HK HW hJ2 hS;go_simp;exact hK _ _ z5 (fun _ _ h=>h) rfl hs
   | 11,ho=>
    cases ho;refine wpOp_of rfl rfl ?_;have hK:=HK 11 25 rfl (by omega);generalize JJ _=K at hK⊢;clear ho hall hl HK HW hJ2 hS;go_simp;exact hK _ _ z5 (fun _ _ h=>h) rfl hs
   | 12,ho=>
    cases ho;refine wpOp_of rfl rfl ?_;have f11:_=Value.pointer (some ⟨A4,0,none⟩):=hJ2.v hall 11 25;have hK:=HK 12 26 rfl (by omega);generalize JJ _=K at hK⊢;clear ho hall hl HK HW hJ2 hS;go_simp;exact hK _ _ z5 (fun _ _ h=>h) rfl hs
   | 13,ho=>
    cases ho;refine wpOp_of rfl rfl ?_;have hK:=HK 13 27 rfl (by omega);generalize JJ _=K at hK⊢;clear ho hall hl HK HW hJ2 hS;go_simp;exact hK _ _ z5 (fun _ _ h=>h) rfl hs
   | 14,ho=>
    cases ho;refine wpOp_of rfl rfl ?_;have f13:_=Value.pointer (some ⟨A5,0,none⟩):=hJ2.v hall 13 27;have hK:=HK 14 28 rfl (by omega);generalize JJ _=K at hK⊢;clear ho hall hl HK HW hJ2 hS;go_simp;exact hK _ _ z5 (fun _ _ h=>h) rfl hs
   | 15,ho=>
    cases ho;refine wpOp_of rfl rfl ?_;have f12:_=Value.int .i64 x:=hJ2.v hall 12 26;have f14:_=Value.int .i64 r:=hJ2.v hall 14 28;have hK:=HK 15 29 rfl (by omega);generalize JJ _=K at hK⊢;clear ho hall hl HK HW hJ2 hS;go_simp;exact hK _ _ z5 (fun _ _ h=>h) rfl hs
   | 16,ho=>
    cases ho;refine wpOp_of rfl rfl ?_;have hK:=HK 16 30 rfl (by omega);generalize JJ _=K at hK⊢;clear ho hall hl HK HW hJ2 hS;go_simp;exact hK _ _ z5 (fun _ _ h=>h) rfl hs
   | 17,ho=>
    cases ho;refine wpOp_of rfl rfl ?_;have f16:_=Value.pointer (some ⟨A4,1,none⟩):=hJ2.v hall 16 30;have hK:=HK 17 31 rfl (by omega);generalize JJ _=K at hK⊢;clear ho hall hl HK HW hJ2 hS;go_simp;exact hK _ _ z5 (fun _ _ h=>h) rfl hs
   | 18,ho=>
    cases ho;refine wpOp_of rfl rfl ?_;have hK:=HK 18 32 rfl (by omega);generalize JJ _=K at hK⊢;clear ho hall hl HK HW hJ2 hS;go_simp;exact hK _ _ z5 (fun _ _ h=>h) rfl hs
   | 19,ho=>
    cases ho;refine wpOp_of rfl rfl ?_;have f18:_=Value.pointer (some ⟨A5,1,none⟩):=hJ2.v hall 18 32;have hK:=HK 19 33 rfl (by omega);generalize JJ _=K at hK⊢;clear ho hall hl HK HW hJ2 hS;go_simp;exact hK _ _ z5 (fun _ _ h=>h) rfl hs
   | 20,ho=>
    cases ho;refine wpOp_of rfl rfl ?_;have f17:_=Value.int .i64 y:=hJ2.v hall 17 31;have f19:_=Value.int .i64 s:=hJ2.v hall 19 33;have hK:=HK 20 34 rfl (by omega);generalize JJ _=K at hK⊢;clear ho hall hl HK HW hJ2 hS;go_simp;exact hK _ _ z5 (fun _ _ h=>h) rfl hs
   | 21,ho=>
    cases ho;refine wpOp_of rfl rfl ?_;have f15:_=Value.int .i64 (max x r):=hJ2.v hall 15 29;have f20:_=Value.int .i64 (max y s):=hJ2.v hall 20 34;rw[Array.getD_eq_getD_getElem?] at f15 f20;have hK:=HK 21 35 rfl (by omega);generalize JJ _=K at hK⊢;clear ho hall hl HK HW hJ2 hS;go_simp;exact hK _ _ z5 (fun _ _ h=>h) rfl hs
   | 22,ho=>
    cases ho;refine wpOp_of rfl rfl ?_;have f10:_=Value.agg #[.int .i64 (min x r),.int .i64 (min y s)]:=hJ2.v hall 10 24;have hK:=HW 22 rfl;generalize JJ _=K at hK⊢;clear ho hall hl HK HW hJ2 hS;have nb:Blk ((W.setCell ⟨R0,0,none⟩ (.int .i64 (min x r))).setCell ⟨R0,1,none⟩ (.int .i64 (min y s))) R0 [.int .i64 (min x r),.int .i64 (min y s)]:=(xc.setI 0 (by simp) _).setI 1 (by simp) _;have ns:SbxB R0 R1 A4 A5 x y r s ((W.setCell ⟨R0,0,none⟩ (.int .i64 (min x r))).setCell ⟨R0,1,none⟩ (.int .i64 (min y s))):=⟨(xa.setO (p:=⟨R0,0,none⟩) (by show _≠R0;omega) _).setO (p:=⟨R0,1,none⟩) (by show _≠R0;omega) _,(xb.setO (p:=⟨R0,0,none⟩) (by show _≠R0;omega) _).setO (p:=⟨R0,1,none⟩) (by show _≠R0;omega) _,⟨_,_,hx.min hr,hy.min hs',nb⟩,pb,qb,ipb,iqb,(xd.setO (p:=⟨R0,0,none⟩) (by show _≠R0;omega) _).setO (p:=⟨R0,1,none⟩) (by show _≠R0;omega) _⟩;have nB:Below R0 w0 ((W.setCell ⟨R0,0,none⟩ (.int .i64 (min x r))).setCell ⟨R0,1,none⟩ (.int .i64 (min y s))):=(z5.setCell (p:=⟨R0,0,none⟩) (Nat.le_refl _) _).setCell (p:=⟨R0,1,none⟩) (Nat.le_refl _) _;clear xa xb xc xd nb;go_simp;exact hK _ nB (fun _ _ h=>VbxB.same h) trivial ns
   | 23,ho=>
    cases ho;refine wpOp_of rfl rfl ?_;have f21:_=Value.agg #[.int .i64 (max x r),.int .i64 (max y s)]:=hJ2.v hall 21 35;have hK:=HW 23 rfl;generalize JJ _=K at hK⊢;clear ho hall hl HK HW hJ2 hS;have nb:Blk ((W.setCell ⟨R1,0,none⟩ (.int .i64 (max x r))).setCell ⟨R1,1,none⟩ (.int .i64 (max y s))) R1 [.int .i64 (max x r),.int .i64 (max y s)]:=(xd.setI 0 (by simp) _).setI 1 (by simp) _;have ns:SbxB R0 R1 A4 A5 x y r s ((W.setCell ⟨R1,0,none⟩ (.int .i64 (max x r))).setCell ⟨R1,1,none⟩ (.int .i64 (max y s))):=⟨(xa.setO (p:=⟨R1,0,none⟩) (by show _≠R1;omega) _).setO (p:=⟨R1,1,none⟩) (by show _≠R1;omega) _,(xb.setO (p:=⟨R1,0,none⟩) (by show _≠R1;omega) _).setO (p:=⟨R1,1,none⟩) (by show _≠R1;omega) _,⟨pa,qa,ipa,iqa,(xc.setO (p:=⟨R1,0,none⟩) (by show _≠R1;omega) _).setO (p:=⟨R1,1,none⟩) (by show _≠R1;omega) _⟩,_,_,hx.max hr,hy.max hs',nb⟩;have nB:Below R0 w0 ((W.setCell ⟨R1,0,none⟩ (.int .i64 (max x r))).setCell ⟨R1,1,none⟩ (.int .i64 (max y s))):=(z5.setCell (p:=⟨R1,0,none⟩) (Nat.le_of_lt n01) _).setCell (p:=⟨R1,1,none⟩) (Nat.le_of_lt n01) _;clear xa xb xc xd nb;go_simp;exact hK _ nB (fun _ _ h=>VbxB.same h) trivial ns
   | iq+24,ho=>simp at ho
 · intro lq aq W ⟨hJ,hs⟩ hr;obtain⟨z1,z2,z3,z4,z5,z6,z7⟩:=hJ;exact hQ aq W z2 z3 (fun e he=>z4 e (by simpa using he)) z5 hs
def BoxP (g:Nat) (ao:Option Addr) (n cap:Nat) (cs:List Int) (w:World) (e:Ending) (w' :World):Prop:=∃p q u v:Int,e= .returned (.tuple #[.agg #[.int .i64 p,.int .i64 q],.agg #[.int .i64 u,.int .i64 v]])∧Sm p∧Sm q∧Sm u∧Sm v∧Rdr w' g ao n cap cs∧Kept g w w'
theorem sm_zero:Sm 0:=⟨by decide,by decide⟩
theorem box_any (g:Nat) (ao:Option Addr) (n cap:Nat) (cs:List Int) (w:World) (R:Rdr w g ao n cap cs) :
 Calls Tryz.prog 13 #[.pointer (some ⟨g,0,none⟩)] w (BoxP g ao n cap cs w):=by
 have hg:=R.lt;have B0:=(Blk.new w [.int .i64 0,.int .i64 0] 29 rfl).alloc (.cells #[.int .i64 0,.int .i64 0] 29);have B1:=Blk.new (w.alloc (.cells #[.int .i64 0,.int .i64 0] 29)) [.int .i64 0,.int .i64 0] 29 (g:=w.heap.size+1) (by simp);rw[show([.int .i64 0,.int .i64 0]:List Value).toArray=#[.int .i64 0,.int .i64 0] from rfl] at B0 B1;replace R:=(R.alloc (.cells #[.int .i64 0,.int .i64 0] 29)).alloc (.cells #[.int .i64 0,.int .i64 0] 29);have K:=((Kept.refl g w).alloc (.cells #[.int .i64 0,.int .i64 0] 29)).alloc (.cells #[.int .i64 0,.int .i64 0] 29);have h0:w.heap.size≠g:=by omega
 have h1:w.heap.size+1≠g:=by omega
 go_enter Tryz.func13,Tryz.ntmps13
 go_wp2_with fail;refine(spot_any g ao n cap cs _ R).mono ?_;rintro e w1 ⟨_,rfl,⟨x,y,rfl,x0,x1,y0,y1⟩,R1,K1⟩;replace K:=K.trans K1;replace B0:=B0.kept K1 h0;replace B1:=B1.kept K1 h1;clear R K1;have R:=R1;clear R1;have gl1:=R.lt;have bl1:=B1.lt;have X4:=Blk.new w1 [.int .i64 x,.int .i64 y] 29 rfl;rw[show([.int .i64 x,.int .i64 y]:List Value).toArray=#[.int .i64 x,.int .i64 y] from rfl] at X4;replace R:=R.alloc (.cells #[.int .i64 x,.int .i64 y] 29);replace K:=K.alloc (.cells #[.int .i64 x,.int .i64 y] 29);replace B0:=B0.alloc (.cells #[.int .i64 x,.int .i64 y] 29);replace B1:=B1.alloc (.cells #[.int .i64 x,.int .i64 y] 29);have h4:w1.heap.size≠g:=by omega
 go_wp2_with fail;refine(spot_any g ao n cap cs _ R).mono ?_;rintro e w2 ⟨_,rfl,⟨r,s,rfl,r0,r1,s0,s1⟩,R1,K1⟩;replace K:=K.trans K1;replace B0:=B0.kept K1 h0;replace B1:=B1.kept K1 h1;replace X4:=X4.kept K1 h4;clear R K1;have R:=R1;clear R1;have gl2:=R.lt;have bl2:=B1.lt;have X5:=Blk.new w2 [.int .i64 r,.int .i64 s] 29 rfl;rw[show([.int .i64 r,.int .i64 s]:List Value).toArray=#[.int .i64 r,.int .i64 s] from rfl] at X5;replace R:=R.alloc (.cells #[.int .i64 r,.int .i64 s] 29);replace K:=K.alloc (.cells #[.int .i64 r,.int .i64 s] 29);replace B0:=B0.alloc (.cells #[.int .i64 r,.int .i64 s] 29);replace B1:=B1.alloc (.cells #[.int .i64 r,.int .i64 s] 29);replace X4:=X4.alloc (.cells #[.int .i64 r,.int .i64 s] 29);have h5:w2.heap.size≠g:=by omega
 go_wp2_with fail;refine(once_any 16 (by decide) (by decide) g ao n cap cs _ R).mono ?_;rintro e w3 ⟨_,rfl,⟨t,rfl⟩,R1,K1⟩;replace K:=K.trans K1;replace B0:=B0.kept K1 h0;replace B1:=B1.kept K1 h1;replace X4:=X4.kept K1 h4;replace X5:=X5.kept K1 h5;clear R K1;have R:=R1;clear R1;cases t
 · go_upto_region 5 with fail;refine bxB (R0:=w.heap.size) (R1:=w.heap.size+1) (A4:=w1.heap.size) (A5:=w2.heap.size) (x:=x) (y:=y) (r:=r) (s:=s) (by omega) (by omega) (by omega) ⟨x0,x1⟩ ⟨y0,y1⟩ ⟨r0,r1⟩ ⟨s0,s1⟩ rfl rfl rfl rfl rfl ⟨X4.drew,X5.drew,⟨0,0,sm_zero,sm_zero,B0.drew⟩,0,0,sm_zero,sm_zero,B1.drew⟩ ?_;rintro⟨tm,df⟩ Wz hz hdf hoff hBz ⟨_,_,⟨p,q,hp,hq,F0⟩,u,v,hu,hv,F1⟩;simp only at hz hdf hoff;subst hdf;have htm:=tmps_fold [14,15,16,17,18,19,20,21,22,23,24,25,26,27,28,29,30,31,32,33,34,35] tm _ hz hoff;simp only[List.foldl,List.setIfInBounds_toArray,List.set_cons_zero,List.set_cons_succ] at htm;clear hz hoff;generalize tm.getD 14 undef=sl0,tm.getD 15 undef=sl1,tm.getD 16 undef=sl2,tm.getD 17 undef=sl3,tm.getD 18 undef=sl4,tm.getD 19 undef=sl5,tm.getD 20 undef=sl6,tm.getD 21 undef=sl7,tm.getD 22 undef=sl8,tm.getD 23 undef=sl9,tm.getD 24 undef=sl10,tm.getD 25 undef=sl11,tm.getD 26 undef=sl12,tm.getD 27 undef=sl13,tm.getD 28 undef=sl14,tm.getD 29 undef=sl15,tm.getD 30 undef=sl16,tm.getD 31 undef=sl17,tm.getD 32 undef=sl18,tm.getD 33 undef=sl19,tm.getD 34 undef=sl20,tm.getD 35 undef=sl21 at htm;subst htm;have R2:=rdr_below R hBz (by omega);have K2:=kept_below K hBz (by omega) (Nat.le_refl _);obtain⟨o0,o1⟩:=F0.cs2;obtain⟨o2,o3⟩:=F1.cs2;clear R K B0 B1 X4 X5 F0 F1 hBz;go_wp2;refine bodyPost_ret (v:= .tuple #[.agg #[.int .i64 p,.int .i64 q],.agg #[.int .i64 u,.int .i64 v]]) (by simp[results,Tryz.results13,go_sem,o0,o1,o2,o3]) rfl ?_;exact⟨p,q,u,v,rfl,hp,hq,hu,hv,R2,K2⟩
 · go_upto_region 4 with fail;refine bxA (R0:=w.heap.size) (R1:=w.heap.size+1) (A4:=w1.heap.size) (A5:=w2.heap.size) (x:=x) (y:=y) (r:=r) (s:=s) (by omega) (by omega) (by omega) ⟨x0,x1⟩ ⟨y0,y1⟩ ⟨r0,r1⟩ ⟨s0,s1⟩ rfl rfl rfl rfl rfl ⟨X4.drew,X5.drew,⟨0,0,sm_zero,sm_zero,B0.drew⟩,0,0,sm_zero,sm_zero,B1.drew⟩ ?_;rintro⟨tm,df⟩ Wz hz hdf hoff hBz ⟨_,_,⟨p,q,hp,hq,F0⟩,u,v,hu,hv,F1⟩;simp only at hz hdf hoff;subst hdf;have htm:=tmps_fold [12,13] tm _ hz hoff;simp only[List.foldl,List.setIfInBounds_toArray,List.set_cons_zero,List.set_cons_succ] at htm;clear hz hoff;generalize tm.getD 12 undef=sl0,tm.getD 13 undef=sl1 at htm;subst htm;have R2:=rdr_below R hBz (by omega);have K2:=kept_below K hBz (by omega) (Nat.le_refl _);obtain⟨o0,o1⟩:=F0.cs2;obtain⟨o2,o3⟩:=F1.cs2;clear R K B0 B1 X4 X5 F0 F1 hBz;go_wp2;refine bodyPost_ret (v:= .tuple #[.agg #[.int .i64 p,.int .i64 q],.agg #[.int .i64 u,.int .i64 v]]) (by simp[results,Tryz.results13,go_sem,o0,o1,o2,o3]) rfl ?_;exact⟨p,q,u,v,rfl,hp,hq,hu,hv,R2,K2⟩
theorem set2_blk {W:World} {g:Nat} {u0 u1:Value} (B:Blk W g [u0,u1]) (v0 v1:Value):Blk ((W.setCell ⟨g,0,none⟩ v0).setCell ⟨g,1,none⟩ v1) g [v0,v1]:=(B.setI 0 (by simp) v0).setI 1 (by simp) v1
structure Dw2 (P7 P8:Nat) (W:World):Prop where
 lo:∃a b:Int,Blk W P7 [.int .i64 a,.int .i64 b]
 hi:∃a b:Int,Blk W P8 [.int .i64 a,.int .i64 b]
 fix:P7<P8
theorem Dw2.st7 {P7 P8:Nat} {W:World} (h:Dw2 P7 P8 W) (za zb:Int):Dw2 P7 P8 ((W.setCell ⟨P7,0,none⟩ (.int .i64 za)).setCell ⟨P7,1,none⟩ (.int .i64 zb)):=by
 have hf:=h.fix;obtain⟨a,b,B⟩:=h.lo;obtain⟨c,d,D⟩:=h.hi;exact⟨⟨za,zb,set2_blk B _ _⟩,⟨c,d,((D.setO (p:=⟨P7,0,none⟩) (by show P8≠P7;omega) _).setO (p:=⟨P7,1,none⟩) (by show P8≠P7;omega) _)⟩,hf⟩
theorem Dw2.st8 {P7 P8:Nat} {W:World} (h:Dw2 P7 P8 W) (za zb:Int):Dw2 P7 P8 ((W.setCell ⟨P8,0,none⟩ (.int .i64 za)).setCell ⟨P8,1,none⟩ (.int .i64 zb)):=by
 have hf:=h.fix;obtain⟨a,b,B⟩:=h.lo;obtain⟨c,d,D⟩:=h.hi;exact⟨⟨a,b,((B.setO (p:=⟨P8,0,none⟩) (by show P7≠P8;omega) _).setO (p:=⟨P8,1,none⟩) (by show P7≠P8;omega) _)⟩,⟨za,zb,set2_blk D _ _⟩,hf⟩
structure Dw3 (P2 P3 P4 P6 P7 P8:Nat) (m1 d1:Int) (io1 bo1:Option Addr) (n1 ic1 N1 bc1:Nat) (W:World):Prop where
 tree:Blk W P6 [.int .i64 m1,.int .i64 d1,.slice io1 n1 ic1,.slice bo1 N1 bc1]
 tq:TqP 42 (fun b=>P4<b∧b≠P6∧b≠P7∧b≠P8) (.agg #[.int .i64 m1,.int .i64 d1,.slice io1 n1 ic1,.slice bo1 N1 bc1]) W
 res:∃(m d:Int) (io bo:Option Addr) (n ic N bc:Nat),Blk W P2 [.int .i64 m,.int .i64 d,.slice io n ic,.slice bo N bc]∧TqP 42 (fun b=>P4<b∧b≠P6∧b≠P7∧b≠P8) (.agg #[.int .i64 m,.int .i64 d,.slice io n ic,.slice bo N bc]) W
 r3:∃a b:Int,Blk W P3 [.int .i64 a,.int .i64 b]
 r4:∃a b:Int,Blk W P4 [.int .i64 a,.int .i64 b]
 lo:∃a b:Int,Blk W P7 [.int .i64 a,.int .i64 b]
 hi:∃a b:Int,Blk W P8 [.int .i64 a,.int .i64 b]
 fix:P2<P3∧P3<P4∧P4<P6∧P6<P7∧P7<P8
theorem Dw3.st2 {P2 P3 P4 P6 P7 P8:Nat} {m1 d1:Int} {io1 bo1:Option Addr} {n1 ic1 N1 bc1:Nat} {W:World} (h:Dw3 P2 P3 P4 P6 P7 P8 m1 d1 io1 bo1 n1 ic1 N1 bc1 W):Dw3 P2 P3 P4 P6 P7 P8 m1 d1 io1 bo1 n1 ic1 N1 bc1 ((((W.setCell ⟨P2,0,none⟩ (.int .i64 m1)).setCell ⟨P2,1,none⟩ (.int .i64 d1)).setCell ⟨P2,2,none⟩ (.slice io1 n1 ic1)).setCell ⟨P2,3,none⟩ (.slice bo1 N1 bc1)):=by
 have hf:=h.fix;obtain⟨m,d,io,bo,n',ic,N,bc,B,T⟩:=h.res;obtain⟨a3,b3,B3⟩:=h.r3;obtain⟨a4,b4,B4⟩:=h.r4;obtain⟨a7,b7,B7⟩:=h.lo;obtain⟨a8,b8,B8⟩:=h.hi;have hT:TqP 42 (fun b=>P4<b∧b≠P6∧b≠P7∧b≠P8) (.agg #[.int .i64 m1,.int .i64 d1,.slice io1 n1 ic1,.slice bo1 N1 bc1]) ((((W.setCell ⟨P2,0,none⟩ (.int .i64 m1)).setCell ⟨P2,1,none⟩ (.int .i64 d1)).setCell ⟨P2,2,none⟩ (.slice io1 n1 ic1)).setCell ⟨P2,3,none⟩ (.slice bo1 N1 bc1)):=h.tq.keep (by simp[World.setCell]) (fun b hb _=>set4_heap (by omega));exact⟨((((h.tree.setO (p:=⟨P2,0,none⟩) (by show P6≠P2;omega) _).setO (p:=⟨P2,1,none⟩) (by show P6≠P2;omega) _).setO (p:=⟨P2,2,none⟩) (by show P6≠P2;omega) _).setO (p:=⟨P2,3,none⟩) (by show P6≠P2;omega) _),hT,⟨_,_,_,_,_,_,_,_,(set4_blk B _ _ _ _).out,hT⟩,⟨a3,b3,((((B3.setO (p:=⟨P2,0,none⟩) (by show P3≠P2;omega) _).setO (p:=⟨P2,1,none⟩) (by show P3≠P2;omega) _).setO (p:=⟨P2,2,none⟩) (by show P3≠P2;omega) _).setO (p:=⟨P2,3,none⟩) (by show P3≠P2;omega) _)⟩,⟨a4,b4,((((B4.setO (p:=⟨P2,0,none⟩) (by show P4≠P2;omega) _).setO (p:=⟨P2,1,none⟩) (by show P4≠P2;omega) _).setO (p:=⟨P2,2,none⟩) (by show P4≠P2;omega) _).setO (p:=⟨P2,3,none⟩) (by show P4≠P2;omega) _)⟩,⟨a7,b7,((((B7.setO (p:=⟨P2,0,none⟩) (by show P7≠P2;omega) _).setO (p:=⟨P2,1,none⟩) (by show P7≠P2;omega) _).setO (p:=⟨P2,2,none⟩) (by show P7≠P2;omega) _).setO (p:=⟨P2,3,none⟩) (by show P7≠P2;omega) _)⟩,⟨a8,b8,((((B8.setO (p:=⟨P2,0,none⟩) (by show P8≠P2;omega) _).setO (p:=⟨P2,1,none⟩) (by show P8≠P2;omega) _).setO (p:=⟨P2,2,none⟩) (by show P8≠P2;omega) _).setO (p:=⟨P2,3,none⟩) (by show P8≠P2;omega) _)⟩,hf⟩
theorem Dw3.st3 {P2 P3 P4 P6 P7 P8:Nat} {m1 d1:Int} {io1 bo1:Option Addr} {n1 ic1 N1 bc1:Nat} {W:World} (h:Dw3 P2 P3 P4 P6 P7 P8 m1 d1 io1 bo1 n1 ic1 N1 bc1 W) (za zb:Int):Dw3 P2 P3 P4 P6 P7 P8 m1 d1 io1 bo1 n1 ic1 N1 bc1 ((W.setCell ⟨P3,0,none⟩ (.int .i64 za)).setCell ⟨P3,1,none⟩ (.int .i64 zb)):=by
 have hf:=h.fix;obtain⟨m,d,io,bo,n',ic,N,bc,B,T⟩:=h.res;obtain⟨a3,b3,B3⟩:=h.r3;obtain⟨a4,b4,B4⟩:=h.r4;obtain⟨a7,b7,B7⟩:=h.lo;obtain⟨a8,b8,B8⟩:=h.hi;exact⟨((h.tree.setO (p:=⟨P3,0,none⟩) (by show P6≠P3;omega) _).setO (p:=⟨P3,1,none⟩) (by show P6≠P3;omega) _),h.tq.keep (by simp[World.setCell]) (fun b hb _=>(Below.heap_setCell _ _ _ _ (by show b≠P3;omega)).trans (Below.heap_setCell _ _ _ _ (by show b≠P3;omega))),⟨m,d,io,bo,n',ic,N,bc,((B.setO (p:=⟨P3,0,none⟩) (by show P2≠P3;omega) _).setO (p:=⟨P3,1,none⟩) (by show P2≠P3;omega) _),T.keep (by simp[World.setCell]) (fun b hb _=>(Below.heap_setCell _ _ _ _ (by show b≠P3;omega)).trans (Below.heap_setCell _ _ _ _ (by show b≠P3;omega)))⟩,⟨za,zb,set2_blk B3 _ _⟩,⟨a4,b4,((B4.setO (p:=⟨P3,0,none⟩) (by show P4≠P3;omega) _).setO (p:=⟨P3,1,none⟩) (by show P4≠P3;omega) _)⟩,⟨a7,b7,((B7.setO (p:=⟨P3,0,none⟩) (by show P7≠P3;omega) _).setO (p:=⟨P3,1,none⟩) (by show P7≠P3;omega) _)⟩,⟨a8,b8,((B8.setO (p:=⟨P3,0,none⟩) (by show P8≠P3;omega) _).setO (p:=⟨P3,1,none⟩) (by show P8≠P3;omega) _)⟩,hf⟩
theorem Dw3.st4 {P2 P3 P4 P6 P7 P8:Nat} {m1 d1:Int} {io1 bo1:Option Addr} {n1 ic1 N1 bc1:Nat} {W:World} (h:Dw3 P2 P3 P4 P6 P7 P8 m1 d1 io1 bo1 n1 ic1 N1 bc1 W) (za zb:Int):Dw3 P2 P3 P4 P6 P7 P8 m1 d1 io1 bo1 n1 ic1 N1 bc1 ((W.setCell ⟨P4,0,none⟩ (.int .i64 za)).setCell ⟨P4,1,none⟩ (.int .i64 zb)):=by
 have hf:=h.fix;obtain⟨m,d,io,bo,n',ic,N,bc,B,T⟩:=h.res;obtain⟨a3,b3,B3⟩:=h.r3;obtain⟨a4,b4,B4⟩:=h.r4;obtain⟨a7,b7,B7⟩:=h.lo;obtain⟨a8,b8,B8⟩:=h.hi;exact⟨((h.tree.setO (p:=⟨P4,0,none⟩) (by show P6≠P4;omega) _).setO (p:=⟨P4,1,none⟩) (by show P6≠P4;omega) _),h.tq.keep (by simp[World.setCell]) (fun b hb _=>(Below.heap_setCell _ _ _ _ (by show b≠P4;omega)).trans (Below.heap_setCell _ _ _ _ (by show b≠P4;omega))),⟨m,d,io,bo,n',ic,N,bc,((B.setO (p:=⟨P4,0,none⟩) (by show P2≠P4;omega) _).setO (p:=⟨P4,1,none⟩) (by show P2≠P4;omega) _),T.keep (by simp[World.setCell]) (fun b hb _=>(Below.heap_setCell _ _ _ _ (by show b≠P4;omega)).trans (Below.heap_setCell _ _ _ _ (by show b≠P4;omega)))⟩,⟨a3,b3,((B3.setO (p:=⟨P4,0,none⟩) (by show P3≠P4;omega) _).setO (p:=⟨P4,1,none⟩) (by show P3≠P4;omega) _)⟩,⟨za,zb,set2_blk B4 _ _⟩,⟨a7,b7,((B7.setO (p:=⟨P4,0,none⟩) (by show P7≠P4;omega) _).setO (p:=⟨P4,1,none⟩) (by show P7≠P4;omega) _)⟩,⟨a8,b8,((B8.setO (p:=⟨P4,0,none⟩) (by show P8≠P4;omega) _).setO (p:=⟨P4,1,none⟩) (by show P8≠P4;omega) _)⟩,hf⟩
def VqxF (P7 P8:Nat) (kk:Int) (_B:Nat):Nat→Value→World→Prop
 | 0,v,_=>v= .int .i64 kk
 | 1,v,_=>v= .pointer (some ⟨P7,0,none⟩)
 | 2,v,_=>∃z:Int,v= .int .i64 z
 | 3,v,_=>∃z:Int,v= .int .i64 z
 | 4,v,_=>v= .int .i64 kk
 | 5,v,_=>v= .pointer (some ⟨P7,1,none⟩)
 | 6,v,_=>∃z:Int,v= .int .i64 z
 | 7,v,_=>∃z:Int,v= .int .i64 z
 | 8,v,_=>∃a b:Int,v= .agg #[.int .i64 a,.int .i64 b]
 | 9,v,_=>v= .int .i64 kk
 | 10,v,_=>v= .pointer (some ⟨P8,0,none⟩)
 | 11,v,_=>∃z:Int,v= .int .i64 z
 | 12,v,_=>∃z:Int,v= .int .i64 z
 | 13,v,_=>v= .int .i64 kk
 | 14,v,_=>v= .pointer (some ⟨P8,1,none⟩)
 | 15,v,_=>∃z:Int,v= .int .i64 z
 | 16,v,_=>∃z:Int,v= .int .i64 z
 | 17,v,_=>∃a b:Int,v= .agg #[.int .i64 a,.int .i64 b]
 | _,_,_=>True
theorem VqxF.same {P7 P8:Nat} {kk:Int} {B j:Nat} {v:Value} {W W2:World} (h:VqxF P7 P8 kk B j v W):VqxF P7 P8 kk B j v W2:=by
 unfold VqxF at *
 split<;>simp only at h<;>first | exact h | trivial
def SqxF (P7 P8:Nat) (_kk:Int) (W:World):Prop:=Dw2 P7 P8 W
def JqxF (P7 P8:Nat) (kk:Int) (w0:World) (a0:Act) (lz:Array Bool) (az:Act) (W:World):Prop:=InvQ (P7) [some 26,some 27,some 28,some 29,some 30,some 31,some 32,some 33,some 34,some 35,some 36,some 37,some 38,some 39,some 40,some 41,some 42,some 43,none,none] (VqxF P7 P8 kk (P7)) w0 a0 lz az W∧SqxF P7 P8 kk W
theorem qxF {Q:Exit→Act→World→Prop} {P7 P8:Nat} {kk:Int} {w0:World} {a0:Act} {idq:Nat} {t0 t1 t2 t3 t4 t5 t6 t7 t8 t9 t10 t11 t12 t13 t14 t15 t16 t17 t18 t19:TypeId} {q0 q1 q2 q3 q4 q5 q6 q7 q8 q9 q10 q11 q12 q13 q14 q15 q16 q17 q18 q19:String}
 (h9:a0.tmps[9]? =some (.int .i64 kk)) (h7:a0.tmps[7]? =some (.pointer (some ⟨P7,0,none⟩))) (h8:a0.tmps[8]? =some (.pointer (some ⟨P8,0,none⟩))) (hz:a0.tmps.size=47) (hs0:SqxF P7 P8 kk w0.drew)
 (hQ:∀aq W,aq.tmps.size=a0.tmps.size→aq.defers=a0.defers→(∀e,e∉([26,27,28,29,30,31,32,33,34,35,36,37,38,39,40,41,42,43]:List Nat)→aq.tmps[e]? =a0.tmps[e]?)→Below (P7) w0 W→SqxF P7 P8 kk W→Q .normal aq W) :
 (Code.region idq #[⟨some 26,.move (.tmp 9),t0,q0,#[],none⟩,
 ⟨some 27,.fieldAddr 29 (.tmp 7) 0,t1,q1,#[],none⟩,
 ⟨some 28,.load 2 (.tmp 27),t2,q2,#[⟨1,.data⟩],none⟩,
 ⟨some 29,.binOp .mul 2 (.tmp 26) (.tmp 28) 2,t3,q3,#[⟨0,.data⟩,⟨2,.data⟩],none⟩,
 ⟨some 30,.move (.tmp 9),t4,q4,#[],none⟩,
 ⟨some 31,.fieldAddr 29 (.tmp 7) 1,t5,q5,#[],none⟩,
 ⟨some 32,.load 2 (.tmp 31),t6,q6,#[⟨5,.data⟩],none⟩,
 ⟨some 33,.binOp .mul 2 (.tmp 30) (.tmp 32) 2,t7,q7,#[⟨4,.data⟩,⟨6,.data⟩],none⟩,
 ⟨some 34,.build 29 #[(0,.tmp 29),(1,.tmp 33)],t8,q8,#[⟨3,.data⟩,⟨7,.data⟩],none⟩,
 ⟨some 35,.move (.tmp 9),t9,q9,#[⟨18,.gcOnly .lateStores⟩],none⟩,
 ⟨some 36,.fieldAddr 29 (.tmp 8) 0,t10,q10,#[⟨18,.gcOnly .lateStores⟩],none⟩,
 ⟨some 37,.load 2 (.tmp 36),t11,q11,#[⟨10,.data⟩,⟨18,.gcOnly .lateStores⟩],none⟩,
 ⟨some 38,.binOp .mul 2 (.tmp 35) (.tmp 37) 2,t12,q12,#[⟨9,.data⟩,⟨11,.data⟩,⟨18,.gcOnly .lateStores⟩],none⟩,
 ⟨some 39,.move (.tmp 9),t13,q13,#[⟨18,.gcOnly .lateStores⟩],none⟩,
 ⟨some 40,.fieldAddr 29 (.tmp 8) 1,t14,q14,#[⟨18,.gcOnly .lateStores⟩],none⟩,
 ⟨some 41,.load 2 (.tmp 40),t15,q15,#[⟨14,.data⟩,⟨18,.gcOnly .lateStores⟩],none⟩,
 ⟨some 42,.binOp .mul 2 (.tmp 39) (.tmp 41) 2,t16,q16,#[⟨13,.data⟩,⟨15,.data⟩,⟨18,.gcOnly .lateStores⟩],none⟩,
 ⟨some 43,.build 29 #[(0,.tmp 38),(1,.tmp 42)],t17,q17,#[⟨12,.data⟩,⟨16,.data⟩,⟨18,.gcOnly .lateStores⟩],none⟩,
 ⟨none,.store 29 (.tmp 7) (.tmp 34),t18,q18,#[⟨8,.data⟩,⟨0,.phase⟩,⟨1,.phase⟩,⟨2,.phase⟩,⟨3,.phase⟩,⟨4,.phase⟩,⟨5,.phase⟩,⟨6,.phase⟩,⟨7,.phase⟩,⟨8,.phase⟩,⟨9,.textOnly .lateStores⟩,⟨10,.textOnly .lateStores⟩,⟨11,.textOnly .lateStores⟩,⟨12,.textOnly .lateStores⟩,⟨13,.textOnly .lateStores⟩,⟨14,.textOnly .lateStores⟩,⟨15,.textOnly .lateStores⟩,⟨16,.textOnly .lateStores⟩,⟨17,.textOnly .lateStores⟩],none⟩,
 ⟨none,.store 29 (.tmp 8) (.tmp 43),t19,q19,#[⟨17,.data⟩,⟨18,.chain⟩,⟨0,.phase⟩,⟨1,.phase⟩,⟨2,.phase⟩,⟨3,.phase⟩,⟨4,.phase⟩,⟨5,.phase⟩,⟨6,.phase⟩,⟨7,.phase⟩,⟨8,.phase⟩,⟨9,.phase⟩,⟨10,.phase⟩,⟨11,.phase⟩,⟨12,.phase⟩,⟨13,.phase⟩,⟨14,.phase⟩,⟨15,.phase⟩,⟨16,.phase⟩,⟨17,.phase⟩,⟨18,.phase⟩],none⟩] true).wp Tryz.prog Q a0 w0:=by
 have hS:distS [some 26,some 27,some 28,some 29,some 30,some 31,some 32,some 33,some 34,some 35,some 36,some 37,some 38,some 39,some 40,some 41,some 42,some 43,none,none]=true:=rfl;refine wp_region_inv (by kernel_rfl) (JqxF P7 P8 kk w0 a0) ⟨⟨rfl,rfl,rfl,fun _ _=>rfl,(Below.refl _ w0).drew,fun j d hj=>?_,fun j hj=>?_⟩,hs0⟩ ?_ ?_
 · exfalso
   rw[Array.getD_eq_getD_getElem?,Array.getElem?_replicate] at hj
   split at hj<;>simp at hj
 · exfalso
   rw[Array.getD_eq_getD_getElem?,Array.getElem?_replicate] at hj
   split at hj<;>simp at hj
 · intro lq aq W iq oq ⟨hJ2,hs⟩ hl ho hall;have z5:=hJ2.b;have g9:=hJ2.a h9
   have g7:=hJ2.a h7
   have g8:=hJ2.a h8
   have HK:=fun i d h1 h2 v W2 hW hT hv hs=>show JqxF P7 P8 kk w0 a0 (lq.setIfInBounds i true) (aq.put (some d) v) W2 from⟨hJ2.put hS i d h1 h2 hW hT v hv,hs⟩
   have HW:=fun i h1 W2 hW hT hv hs=>show JqxF P7 P8 kk w0 a0 (lq.setIfInBounds i true) aq W2 from⟨hJ2.world i h1 (W' :=W2) hW hT hv,hs⟩
   generalize JqxF P7 P8 kk w0 a0=JJ at HK HW⊢
   clear hQ
   match iq,ho with
   | 0,ho=>
    cases ho;refine wpOp_of rfl rfl ?_;have hK:=HK 0 26 rfl (by omega);generalize JJ _=K at hK⊢;clear ho hall hl HK HW hJ2 hS;go_simp;exact hK _ _ z5 (fun _ _ h=>h) rfl hs
   | 1,ho=>
    cases ho;refine wpOp_of rfl rfl ?_;have hK:=HK 1 27 rfl (by omega);generalize JJ _=K at hK⊢;clear ho hall hl HK HW hJ2 hS;go_simp;exact hK _ _ z5 (fun _ _ h=>h) rfl hs
   | 2,ho=>
    cases ho;refine wpOp_of rfl rfl ?_;have f1:_=Value.pointer (some ⟨P7,0,none⟩):=hJ2.v hall 1 27;have hK:=HK 2 28 rfl (by omega);generalize JJ _=K at hK⊢;clear ho hall hl HK HW hJ2 hS;obtain⟨a9,b9,xb⟩:=hs.lo;have rc0:=xb.c 0 rfl;clear xb;go_simp;exact hK _ _ z5 (fun _ _ h=>h) ⟨_,rfl⟩ hs
   | 3,ho=>
    cases ho;refine wpOp_of rfl rfl ?_;have f0:_=Value.int .i64 kk:=hJ2.v hall 0 26;have f2:∃z:Int,(aq.tmps.getD 28 undef)= .int .i64 z:=hJ2.v hall 2 28;obtain⟨y2q,e2⟩:=f2;have hK:=HK 3 29 rfl (by omega);generalize JJ _=K at hK⊢;clear ho hall hl HK HW hJ2 hS;go_simp;exact hK _ _ z5 (fun _ _ h=>h) ⟨_,rfl⟩ hs
   | 4,ho=>
    cases ho;refine wpOp_of rfl rfl ?_;have hK:=HK 4 30 rfl (by omega);generalize JJ _=K at hK⊢;clear ho hall hl HK HW hJ2 hS;go_simp;exact hK _ _ z5 (fun _ _ h=>h) rfl hs
   | 5,ho=>
    cases ho;refine wpOp_of rfl rfl ?_;have hK:=HK 5 31 rfl (by omega);generalize JJ _=K at hK⊢;clear ho hall hl HK HW hJ2 hS;go_simp;exact hK _ _ z5 (fun _ _ h=>h) rfl hs
   | 6,ho=>
    cases ho;refine wpOp_of rfl rfl ?_;have f5:_=Value.pointer (some ⟨P7,1,none⟩):=hJ2.v hall 5 31;have hK:=HK 6 32 rfl (by omega);generalize JJ _=K at hK⊢;clear ho hall hl HK HW hJ2 hS;obtain⟨a9,b9,xb⟩:=hs.lo;have rc0:=xb.c 1 rfl;clear xb;go_simp;exact hK _ _ z5 (fun _ _ h=>h) ⟨_,rfl⟩ hs
   | 7,ho=>
    cases ho;refine wpOp_of rfl rfl ?_;have f4:_=Value.int .i64 kk:=hJ2.v hall 4 30;have f6:∃z:Int,(aq.tmps.getD 32 undef)= .int .i64 z:=hJ2.v hall 6 32;obtain⟨z6q,e6⟩:=f6;have hK:=HK 7 33 rfl (by omega);generalize JJ _=K at hK⊢;clear ho hall hl HK HW hJ2 hS;go_simp;exact hK _ _ z5 (fun _ _ h=>h) ⟨_,rfl⟩ hs
   | 8,ho=>
    cases ho;refine wpOp_of rfl rfl ?_;have f3:∃z:Int,(aq.tmps.getD 29 undef)= .int .i64 z:=hJ2.v hall 3 29;obtain⟨y3q,e3⟩:=f3;have f7:∃z:Int,(aq.tmps.getD 33 undef)= .int .i64 z:=hJ2.v hall 7 33;obtain⟨z7q,e7⟩:=f7;rw[Array.getD_eq_getD_getElem?] at e3 e7;have hK:=HK 8 34 rfl (by omega);generalize JJ _=K at hK⊢;clear ho hall hl HK HW hJ2 hS;go_simp;exact hK _ _ z5 (fun _ _ h=>h) ⟨_,_,rfl⟩ hs
   | 9,ho=>
    cases ho;refine wpOp_of rfl rfl ?_;have hK:=HK 9 35 rfl (by omega);generalize JJ _=K at hK⊢;clear ho hall hl HK HW hJ2 hS;go_simp;exact hK _ _ z5 (fun _ _ h=>h) rfl hs
   | 10,ho=>
    cases ho;refine wpOp_of rfl rfl ?_;have hK:=HK 10 36 rfl (by omega);generalize JJ _=K at hK⊢;clear ho hall hl HK HW hJ2 hS;go_simp;exact hK _ _ z5 (fun _ _ h=>h) rfl hs
   | 11,ho=>
    cases ho;refine wpOp_of rfl rfl ?_;have f10:_=Value.pointer (some ⟨P8,0,none⟩):=hJ2.v hall 10 36;have hK:=HK 11 37 rfl (by omega);generalize JJ _=K at hK⊢;clear ho hall hl HK HW hJ2 hS;obtain⟨a9,b9,xb⟩:=hs.hi;have rc0:=xb.c 0 rfl;clear xb;go_simp;exact hK _ _ z5 (fun _ _ h=>h) ⟨_,rfl⟩ hs
   | 12,ho=>
    cases ho;refine wpOp_of rfl rfl ?_;have f9:_=Value.int .i64 kk:=hJ2.v hall 9 35;have f11:∃z:Int,(aq.tmps.getD 37 undef)= .int .i64 z:=hJ2.v hall 11 37;obtain⟨y11q,e11⟩:=f11;have hK:=HK 12 38 rfl (by omega);generalize JJ _=K at hK⊢;clear ho hall hl HK HW hJ2 hS;go_simp;exact hK _ _ z5 (fun _ _ h=>h) ⟨_,rfl⟩ hs
   | 13,ho=>
    cases ho;refine wpOp_of rfl rfl ?_;have hK:=HK 13 39 rfl (by omega);generalize JJ _=K at hK⊢;clear ho hall hl HK HW hJ2 hS;go_simp;exact hK _ _ z5 (fun _ _ h=>h) rfl hs
   | 14,ho=>
    cases ho;refine wpOp_of rfl rfl ?_;have hK:=HK 14 40 rfl (by omega);generalize JJ _=K at hK⊢;clear ho hall hl HK HW hJ2 hS;go_simp;exact hK _ _ z5 (fun _ _ h=>h) rfl hs
   | 15,ho=>
    cases ho;refine wpOp_of rfl rfl ?_;have f14:_=Value.pointer (some ⟨P8,1,none⟩):=hJ2.v hall 14 40;have hK:=HK 15 41 rfl (by omega);generalize JJ _=K at hK⊢;clear ho hall hl HK HW hJ2 hS;obtain⟨a9,b9,xb⟩:=hs.hi;have rc0:=xb.c 1 rfl;clear xb;go_simp;exact hK _ _ z5 (fun _ _ h=>h) ⟨_,rfl⟩ hs
   | 16,ho=>
    cases ho;refine wpOp_of rfl rfl ?_;have f13:_=Value.int .i64 kk:=hJ2.v hall 13 39;have f15:∃z:Int,(aq.tmps.getD 41 undef)= .int .i64 z:=hJ2.v hall 15 41;obtain⟨y15q,e15⟩:=f15;have hK:=HK 16 42 rfl (by omega);generalize JJ _=K at hK⊢;clear ho hall hl HK HW hJ2 hS;go_simp;exact hK _ _ z5 (fun _ _ h=>h) ⟨_,rfl⟩ hs
   | 17,ho=>
    cases ho;refine wpOp_of rfl rfl ?_;have f12:∃z:Int,(aq.tmps.getD 38 undef)= .int .i64 z:=hJ2.v hall 12 38;obtain⟨y12q,e12⟩:=f12;have f16:∃z:Int,(aq.tmps.getD 42 undef)= .int .i64 z:=hJ2.v hall 16 42;obtain⟨y16q,e16⟩:=f16;rw[Array.getD_eq_getD_getElem?] at e12 e16;have hK:=HK 17 43 rfl (by omega);generalize JJ _=K at hK⊢;clear ho hall hl HK HW hJ2 hS;go_simp;exact hK _ _ z5 (fun _ _ h=>h) ⟨_,_,rfl⟩ hs
   | 18,ho=>
    cases ho;refine wpOp_of rfl rfl ?_;have f8:∃a b:Int,(aq.tmps.getD 34 undef)= .agg #[.int .i64 a,.int .i64 b]:=hJ2.v hall 8 34;obtain⟨za,zb,e8⟩:=f8;have hK:=HW 18 rfl;generalize JJ _=K at hK⊢;clear ho hall hl HK HW hJ2 hS;have ns:=hs.st7 za zb;have hfx:=hs.fix;have nB:Below P7 w0 ((W.setCell ⟨P7,0,none⟩ (.int .i64 za)).setCell ⟨P7,1,none⟩ (.int .i64 zb)):=((z5.setCell (p:=⟨P7,0,none⟩) (Nat.le_refl _) _).setCell (p:=⟨P7,1,none⟩) (Nat.le_refl _) _);obtain⟨a9,b9,xb⟩:=hs.lo;have rc0:=xb.c 0 rfl;have rc1:=xb.c 1 rfl;have rf0:=xb.f 0 rfl;have rf1:=xb.f 1 rfl;clear xb hs;go_simp;exact hK _ nB (fun _ _ h=>VqxF.same h) trivial ns
   | 19,ho=>
    cases ho;refine wpOp_of rfl rfl ?_;have f17:∃a b:Int,(aq.tmps.getD 43 undef)= .agg #[.int .i64 a,.int .i64 b]:=hJ2.v hall 17 43;obtain⟨za,zb,e17⟩:=f17;have hK:=HW 19 rfl;generalize JJ _=K at hK⊢;clear ho hall hl HK HW hJ2 hS;have ns:=hs.st8 za zb;have hfx:=hs.fix;have nB:Below P7 w0 ((W.setCell ⟨P8,0,none⟩ (.int .i64 za)).setCell ⟨P8,1,none⟩ (.int .i64 zb)):=((z5.setCell (p:=⟨P8,0,none⟩) (Nat.le_of_lt hfx) _).setCell (p:=⟨P8,1,none⟩) (Nat.le_of_lt hfx) _);obtain⟨a9,b9,xb⟩:=hs.hi;have rc0:=xb.c 0 rfl;have rc1:=xb.c 1 rfl;have rf0:=xb.f 0 rfl;have rf1:=xb.f 1 rfl;clear xb hs;go_simp;exact hK _ nB (fun _ _ h=>VqxF.same h) trivial ns
   | iq+20,ho=>simp at ho
 · intro lq aq W ⟨hJ,hs⟩ hr;obtain⟨z1,z2,z3,z4,z5,z6,z7⟩:=hJ;exact hQ aq W z2 z3 (fun e he=>z4 e (by simpa using he)) z5 hs
def VqxG (_P2 _P3 _P4 _P6 _P7 _P8:Nat) (m1 d1:Int) (io1 bo1:Option Addr) (n1 ic1 N1 bc1:Nat) (_B:Nat):Nat→Value→World→Prop
 | 0,v,_=>v= .agg #[.int .i64 m1,.int .i64 d1,.slice io1 n1 ic1,.slice bo1 N1 bc1]
 | 1,v,_=>∃a b:Int,v= .agg #[.int .i64 a,.int .i64 b]
 | 2,v,_=>∃a b:Int,v= .agg #[.int .i64 a,.int .i64 b]
 | _,_,_=>True
theorem VqxG.same {P2 P3 P4 P6 P7 P8:Nat} {m1 d1:Int} {io1 bo1:Option Addr} {n1 ic1 N1 bc1:Nat} {B j:Nat} {v:Value} {W W2:World} (h:VqxG P2 P3 P4 P6 P7 P8 m1 d1 io1 bo1 n1 ic1 N1 bc1 B j v W):VqxG P2 P3 P4 P6 P7 P8 m1 d1 io1 bo1 n1 ic1 N1 bc1 B j v W2:=by
 unfold VqxG at *
 split<;>simp only at h<;>first | exact h | trivial
def SqxG (P2 P3 P4 P6 P7 P8:Nat) (m1 d1:Int) (io1 bo1:Option Addr) (n1 ic1 N1 bc1:Nat) (W:World):Prop:=Dw3 P2 P3 P4 P6 P7 P8 m1 d1 io1 bo1 n1 ic1 N1 bc1 W
def JqxG (P2 P3 P4 P6 P7 P8:Nat) (m1 d1:Int) (io1 bo1:Option Addr) (n1 ic1 N1 bc1:Nat) (w0:World) (a0:Act) (lz:Array Bool) (az:Act) (W:World):Prop:=InvQ (P2) [some 44,some 45,some 46,none,none,none] (VqxG P2 P3 P4 P6 P7 P8 m1 d1 io1 bo1 n1 ic1 N1 bc1 (P2)) w0 a0 lz az W∧SqxG P2 P3 P4 P6 P7 P8 m1 d1 io1 bo1 n1 ic1 N1 bc1 W
theorem qxG {Q:Exit→Act→World→Prop} {P2 P3 P4 P6 P7 P8:Nat} {m1 d1:Int} {io1 bo1:Option Addr} {n1 ic1 N1 bc1:Nat} {w0:World} {a0:Act} {idq:Nat} {t0 t1 t2 t3 t4 t5:TypeId} {q0 q1 q2 q3 q4 q5:String}
 (h6:a0.tmps[6]? =some (.pointer (some ⟨P6,0,none⟩))) (h7:a0.tmps[7]? =some (.pointer (some ⟨P7,0,none⟩))) (h8:a0.tmps[8]? =some (.pointer (some ⟨P8,0,none⟩))) (h2:a0.tmps[2]? =some (.pointer (some ⟨P2,0,none⟩))) (h3:a0.tmps[3]? =some (.pointer (some ⟨P3,0,none⟩))) (h4:a0.tmps[4]? =some (.pointer (some ⟨P4,0,none⟩))) (hz:a0.tmps.size=47) (hs0:SqxG P2 P3 P4 P6 P7 P8 m1 d1 io1 bo1 n1 ic1 N1 bc1 w0.drew)
 (hQ:∀aq W,aq.tmps.size=a0.tmps.size→aq.defers=a0.defers→(∀e,e∉([44,45,46]:List Nat)→aq.tmps[e]? =a0.tmps[e]?)→Below (P2) w0 W→SqxG P2 P3 P4 P6 P7 P8 m1 d1 io1 bo1 n1 ic1 N1 bc1 W→Q .normal aq W) :
 (Code.region idq #[⟨some 44,.load 27 (.tmp 6),t0,q0,#[],none⟩,
 ⟨some 45,.load 29 (.tmp 7),t1,q1,#[⟨3,.gcOnly .lateStores⟩],none⟩,
 ⟨some 46,.load 29 (.tmp 8),t2,q2,#[⟨4,.gcOnly .lateStores⟩],none⟩,
 ⟨none,.store 27 (.tmp 2) (.tmp 44),t3,q3,#[⟨0,.data⟩,⟨0,.phase⟩,⟨1,.textOnly .lateStores⟩,⟨2,.textOnly .lateStores⟩],none⟩,
 ⟨none,.store 29 (.tmp 3) (.tmp 45),t4,q4,#[⟨1,.data⟩,⟨3,.chain⟩,⟨0,.phase⟩,⟨1,.phase⟩,⟨2,.textOnly .lateStores⟩,⟨3,.phase⟩],none⟩,
 ⟨none,.store 29 (.tmp 4) (.tmp 46),t5,q5,#[⟨2,.data⟩,⟨4,.chain⟩,⟨0,.phase⟩,⟨1,.phase⟩,⟨2,.phase⟩,⟨3,.phase⟩,⟨4,.phase⟩],none⟩] true).wp Tryz.prog Q a0 w0:=by
 have hS:distS [some 44,some 45,some 46,none,none,none]=true:=rfl;refine wp_region_inv (by kernel_rfl) (JqxG P2 P3 P4 P6 P7 P8 m1 d1 io1 bo1 n1 ic1 N1 bc1 w0 a0) ⟨⟨rfl,rfl,rfl,fun _ _=>rfl,(Below.refl _ w0).drew,fun j d hj=>?_,fun j hj=>?_⟩,hs0⟩ ?_ ?_
 · exfalso
   rw[Array.getD_eq_getD_getElem?,Array.getElem?_replicate] at hj
   split at hj<;>simp at hj
 · exfalso
   rw[Array.getD_eq_getD_getElem?,Array.getElem?_replicate] at hj
   split at hj<;>simp at hj
 · intro lq aq W iq oq ⟨hJ2,hs⟩ hl ho hall;have z5:=hJ2.b;have g6:=hJ2.a h6
   have g7:=hJ2.a h7
   have g8:=hJ2.a h8
   have g2:=hJ2.a h2
   have g3:=hJ2.a h3
   have g4:=hJ2.a h4
   have HK:=fun i d h1 h2 v W2 hW hT hv hs=>show JqxG P2 P3 P4 P6 P7 P8 m1 d1 io1 bo1 n1 ic1 N1 bc1 w0 a0 (lq.setIfInBounds i true) (aq.put (some d) v) W2 from⟨hJ2.put hS i d h1 h2 hW hT v hv,hs⟩
   have HW:=fun i h1 W2 hW hT hv hs=>show JqxG P2 P3 P4 P6 P7 P8 m1 d1 io1 bo1 n1 ic1 N1 bc1 w0 a0 (lq.setIfInBounds i true) aq W2 from⟨hJ2.world i h1 (W' :=W2) hW hT hv,hs⟩
   generalize JqxG P2 P3 P4 P6 P7 P8 m1 d1 io1 bo1 n1 ic1 N1 bc1 w0 a0=JJ at HK HW⊢
   clear hQ
   match iq,ho with
   | 0,ho=>
    cases ho;refine wpOp_of rfl rfl ?_;have hK:=HK 0 44 rfl (by omega);generalize JJ _=K at hK⊢;clear ho hall hl HK HW hJ2 hS;have ca0:=hs.tree.c 0 rfl;have ca1:=hs.tree.c 1 rfl;have ca2:=hs.tree.c 2 rfl;have ca3:=hs.tree.c 3 rfl;go_simp;exact hK _ _ z5 (fun _ _ h=>h) rfl hs
   | 1,ho=>
    cases ho;refine wpOp_of rfl rfl ?_;have hK:=HK 1 45 rfl (by omega);generalize JJ _=K at hK⊢;clear ho hall hl HK HW hJ2 hS;obtain⟨a9,b9,xb⟩:=hs.lo;have rc0:=xb.c 0 rfl;have rc1:=xb.c 1 rfl;clear xb;go_simp;exact hK _ _ z5 (fun _ _ h=>h) ⟨_,_,rfl⟩ hs
   | 2,ho=>
    cases ho;refine wpOp_of rfl rfl ?_;have hK:=HK 2 46 rfl (by omega);generalize JJ _=K at hK⊢;clear ho hall hl HK HW hJ2 hS;obtain⟨a9,b9,xb⟩:=hs.hi;have rc0:=xb.c 0 rfl;have rc1:=xb.c 1 rfl;clear xb;go_simp;exact hK _ _ z5 (fun _ _ h=>h) ⟨_,_,rfl⟩ hs
   | 3,ho=>
    cases ho;refine wpOp_of rfl rfl ?_;have f0:_=Value.agg #[.int .i64 m1,.int .i64 d1,.slice io1 n1 ic1,.slice bo1 N1 bc1]:=hJ2.v hall 0 44;have hK:=HW 3 rfl;generalize JJ _=K at hK⊢;clear ho hall hl HK HW hJ2 hS;have ns:=hs.st2;have hfx:=hs.fix;have nB:Below P2 w0 ((((W.setCell ⟨P2,0,none⟩ (.int .i64 m1)).setCell ⟨P2,1,none⟩ (.int .i64 d1)).setCell ⟨P2,2,none⟩ (.slice io1 n1 ic1)).setCell ⟨P2,3,none⟩ (.slice bo1 N1 bc1)):=((((z5.setCell (p:=⟨P2,0,none⟩) (Nat.le_refl _) _).setCell (p:=⟨P2,1,none⟩) (Nat.le_refl _) _).setCell (p:=⟨P2,2,none⟩) (Nat.le_refl _) _).setCell (p:=⟨P2,3,none⟩) (Nat.le_refl _) _);obtain⟨m9,d9,io9,bo9,n9,ic9,N9,bc9,xb,_⟩:=hs.res;have rc0:=xb.c 0 rfl;have rc1:=xb.c 1 rfl;have rc2:=xb.c 2 rfl;have rc3:=xb.c 3 rfl;have rf0:=xb.f 0 rfl;have rf1:=xb.f 1 rfl;have rf2:=xb.f 2 rfl;have rf3:=xb.f 3 rfl;clear xb hs;go_simp;exact hK _ nB (fun _ _ h=>VqxG.same h) trivial ns
   | 4,ho=>
    cases ho;refine wpOp_of rfl rfl ?_;have f1:∃a b:Int,(aq.tmps.getD 45 undef)= .agg #[.int .i64 a,.int .i64 b]:=hJ2.v hall 1 45;obtain⟨za,zb,e1⟩:=f1;have hK:=HW 4 rfl;generalize JJ _=K at hK⊢;clear ho hall hl HK HW hJ2 hS;have ns:=hs.st3 za zb;have hfx:=hs.fix;have nB:Below P2 w0 ((W.setCell ⟨P3,0,none⟩ (.int .i64 za)).setCell ⟨P3,1,none⟩ (.int .i64 zb)):=((z5.setCell (p:=⟨P3,0,none⟩) (by show P2≤P3;omega) _).setCell (p:=⟨P3,1,none⟩) (by show P2≤P3;omega) _);obtain⟨a9,b9,xb⟩:=hs.r3;have rc0:=xb.c 0 rfl;have rc1:=xb.c 1 rfl;have rf0:=xb.f 0 rfl;have rf1:=xb.f 1 rfl;clear xb hs;go_simp;exact hK _ nB (fun _ _ h=>VqxG.same h) trivial ns
   | 5,ho=>
    cases ho;refine wpOp_of rfl rfl ?_;have f2:∃a b:Int,(aq.tmps.getD 46 undef)= .agg #[.int .i64 a,.int .i64 b]:=hJ2.v hall 2 46;obtain⟨za,zb,e2⟩:=f2;have hK:=HW 5 rfl;generalize JJ _=K at hK⊢;clear ho hall hl HK HW hJ2 hS;have ns:=hs.st4 za zb;have hfx:=hs.fix;have nB:Below P2 w0 ((W.setCell ⟨P4,0,none⟩ (.int .i64 za)).setCell ⟨P4,1,none⟩ (.int .i64 zb)):=((z5.setCell (p:=⟨P4,0,none⟩) (by show P2≤P4;omega) _).setCell (p:=⟨P4,1,none⟩) (by show P2≤P4;omega) _);obtain⟨a9,b9,xb⟩:=hs.r4;have rc0:=xb.c 0 rfl;have rc1:=xb.c 1 rfl;have rf0:=xb.f 0 rfl;have rf1:=xb.f 1 rfl;clear xb hs;go_simp;exact hK _ nB (fun _ _ h=>VqxG.same h) trivial ns
   | iq+6,ho=>simp at ho
 · intro lq aq W ⟨hJ,hs⟩ hr;obtain⟨z1,z2,z3,z4,z5,z6,z7⟩:=hJ;exact hQ aq W z2 z3 (fun e he=>z4 e (by simpa using he)) z5 hs
end Go.Proofs.YthelolpogdcmhaaGreat
