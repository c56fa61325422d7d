/- Part 19 of the walks that the proof leans on. -/
import Derived.Test.YtbogliojkabbjaaGreatEr13
import Derived.Test.YtbogliojkabbjaaGreatEr8
import Derived.Test.YtbogliojkabbjaaGreatEr12
import Derived.Shelf.Spec.SlicesInsertGrow
import Derived.Test.YtbogliojkabbjaaGreatEr18
set_option maxRecDepth 100000
set_option maxHeartbeats 16000000
namespace Go.Proofs.YtbogliojkabbjaaGreat
open Go.RowKit
theorem orderEvent_det (x y z u vv t:Int) (eo:Option Addr) (m mc:Nat) (hp:ptB x y z=true) (hpu:ptB u vv t=true) (w:World):Calls Tryz.prog 22 #[.agg #[.int .u64 (ww3 x),.int .u64 (ww2 x),.int .u64 (ww1 x),.int .u64 (ww0 x),.int .u64 (ww3 y),.int .u64 (ww2 y),.int .u64 (ww1 y),.int .u64 (ww0 y),.int .u64 (ww3 z),.int .u64 (ww2 z),.int .u64 (ww1 z),.int .u64 (ww0 z),.slice eo m mc],PV u vv t] w (VP (.int .i64 (ordI x y z u vv t)) w):=by
 obtain⟨-,sx,sy,sz⟩:=ptB_small hp;obtain⟨-,su,sv,st⟩:=ptB_small hpu;have C:=order_det x y z u vv t sx sy sz su sv st;have B0:Blk ((w.alloc (.cells #[.int .u64 (ww3 x),.int .u64 (ww2 x),.int .u64 (ww1 x),.int .u64 (ww0 x),.int .u64 (ww3 y),.int .u64 (ww2 y),.int .u64 (ww1 y),.int .u64 (ww0 y),.int .u64 (ww3 z),.int .u64 (ww2 z),.int .u64 (ww1 z),.int .u64 (ww0 z),.slice eo m mc] 37)).alloc (.cells #[.int .u64 (ww3 u),.int .u64 (ww2 u),.int .u64 (ww1 u),.int .u64 (ww0 u),.int .u64 (ww3 vv),.int .u64 (ww2 vv),.int .u64 (ww1 vv),.int .u64 (ww0 vv),.int .u64 (ww3 t),.int .u64 (ww2 t),.int .u64 (ww1 t),.int .u64 (ww0 t)] 29)) w.heap.size [.int .u64 (ww3 x),.int .u64 (ww2 x),.int .u64 (ww1 x),.int .u64 (ww0 x),.int .u64 (ww3 y),.int .u64 (ww2 y),.int .u64 (ww1 y),.int .u64 (ww0 y),.int .u64 (ww3 z),.int .u64 (ww2 z),.int .u64 (ww1 z),.int .u64 (ww0 z),.slice eo m mc]:=(Blk.new w [.int .u64 (ww3 x),.int .u64 (ww2 x),.int .u64 (ww1 x),.int .u64 (ww0 x),.int .u64 (ww3 y),.int .u64 (ww2 y),.int .u64 (ww1 y),.int .u64 (ww0 y),.int .u64 (ww3 z),.int .u64 (ww2 z),.int .u64 (ww1 z),.int .u64 (ww0 z),.slice eo m mc] 37 rfl).alloc _;have B1:Blk ((w.alloc (.cells #[.int .u64 (ww3 x),.int .u64 (ww2 x),.int .u64 (ww1 x),.int .u64 (ww0 x),.int .u64 (ww3 y),.int .u64 (ww2 y),.int .u64 (ww1 y),.int .u64 (ww0 y),.int .u64 (ww3 z),.int .u64 (ww2 z),.int .u64 (ww1 z),.int .u64 (ww0 z),.slice eo m mc] 37)).alloc (.cells #[.int .u64 (ww3 u),.int .u64 (ww2 u),.int .u64 (ww1 u),.int .u64 (ww0 u),.int .u64 (ww3 vv),.int .u64 (ww2 vv),.int .u64 (ww1 vv),.int .u64 (ww0 vv),.int .u64 (ww3 t),.int .u64 (ww2 t),.int .u64 (ww1 t),.int .u64 (ww0 t)] 29)) (w.heap.size+1) [.int .u64 (ww3 u),.int .u64 (ww2 u),.int .u64 (ww1 u),.int .u64 (ww0 u),.int .u64 (ww3 vv),.int .u64 (ww2 vv),.int .u64 (ww1 vv),.int .u64 (ww0 vv),.int .u64 (ww3 t),.int .u64 (ww2 t),.int .u64 (ww1 t),.int .u64 (ww0 t)]:=Blk.new (w.alloc (.cells #[.int .u64 (ww3 x),.int .u64 (ww2 x),.int .u64 (ww1 x),.int .u64 (ww0 x),.int .u64 (ww3 y),.int .u64 (ww2 y),.int .u64 (ww1 y),.int .u64 (ww0 y),.int .u64 (ww3 z),.int .u64 (ww2 z),.int .u64 (ww1 z),.int .u64 (ww0 z),.slice eo m mc] 37)) [.int .u64 (ww3 u),.int .u64 (ww2 u),.int .u64 (ww1 u),.int .u64 (ww0 u),.int .u64 (ww3 vv),.int .u64 (ww2 vv),.int .u64 (ww1 vv),.int .u64 (ww0 vv),.int .u64 (ww3 t),.int .u64 (ww2 t),.int .u64 (ww1 t),.int .u64 (ww0 t)] 29 (g:=w.heap.size+1) (by simp);have HB:Below w.heap.size w ((w.alloc (.cells #[.int .u64 (ww3 x),.int .u64 (ww2 x),.int .u64 (ww1 x),.int .u64 (ww0 x),.int .u64 (ww3 y),.int .u64 (ww2 y),.int .u64 (ww1 y),.int .u64 (ww0 y),.int .u64 (ww3 z),.int .u64 (ww2 z),.int .u64 (ww1 z),.int .u64 (ww0 z),.slice eo m mc] 37)).alloc (.cells #[.int .u64 (ww3 u),.int .u64 (ww2 u),.int .u64 (ww1 u),.int .u64 (ww0 u),.int .u64 (ww3 vv),.int .u64 (ww2 vv),.int .u64 (ww1 vv),.int .u64 (ww0 vv),.int .u64 (ww3 t),.int .u64 (ww2 t),.int .u64 (ww1 t),.int .u64 (ww0 t)] 29)):=((Below.refl _ w).alloc (Nat.le_refl _) _).alloc (by simp) _
 go_enter Tryz.func22,Tryz.ntmps22
 go_upto_region 1 with fail;generalize ((w.alloc (.cells #[.int .u64 (ww3 x),.int .u64 (ww2 x),.int .u64 (ww1 x),.int .u64 (ww0 x),.int .u64 (ww3 y),.int .u64 (ww2 y),.int .u64 (ww1 y),.int .u64 (ww0 y),.int .u64 (ww3 z),.int .u64 (ww2 z),.int .u64 (ww1 z),.int .u64 (ww0 z),.slice eo m mc] 37)).alloc (.cells #[.int .u64 (ww3 u),.int .u64 (ww2 u),.int .u64 (ww1 u),.int .u64 (ww0 u),.int .u64 (ww3 vv),.int .u64 (ww2 vv),.int .u64 (ww1 vv),.int .u64 (ww0 vv),.int .u64 (ww3 t),.int .u64 (ww2 t),.int .u64 (ww1 t),.int .u64 (ww0 t)] 29))=W1 at *;have m0:=B0.c 0 rfl;have m1:=B0.c 1 rfl;have m2:=B0.c 2 rfl;have m3:=B0.c 3 rfl;have m4:=B0.c 4 rfl;have m5:=B0.c 5 rfl;have m6:=B0.c 6 rfl;have m7:=B0.c 7 rfl;have m8:=B0.c 8 rfl;have m9:=B0.c 9 rfl;have m10:=B0.c 10 rfl;have m11:=B0.c 11 rfl;have n0:=B1.c 0 rfl;have n1:=B1.c 1 rfl;have n2:=B1.c 2 rfl;have n3:=B1.c 3 rfl;have n4:=B1.c 4 rfl;have n5:=B1.c 5 rfl;have n6:=B1.c 6 rfl;have n7:=B1.c 7 rfl;have n8:=B1.c 8 rfl;have n9:=B1.c 9 rfl;have n10:=B1.c 10 rfl;have n11:=B1.c 11 rfl;clear B0 B1 sx sy sz su sv st hp hpu;go_wp2_with fail;refine(C _).mono ?_;rintro r w1 ⟨rfl,hB⟩;have HB2:=HB.trans (hB.mono HB.size);clear C hB HB m0 n0 m1 n1 m2 n2 m3 n3 m4 n4 m5 n5 m6 n6 m7 n7 m8 n8 m9 n9 m10 n10 m11 n11;go_wp2;go_ret;exact⟨rfl,HB2⟩
def Vbs5 (n cap A off c m mc:Nat) (eo:Option Addr) (x y z u vv t:Int) (_B:Nat):Nat→Value→World→Prop
 | 0,v,_=>v= .func (.func 22) #[] #[]
 | 1,v,_=>v= .slice (some ⟨A,off,none⟩) n cap
 | 2,v,_=>v= .int .i64 (c:Int)
 | 3,v,_=>v= .pointer (some ⟨A,off+c*13,none⟩)
 | 4,v,_=>v= .agg #[.int .u64 (ww3 x),.int .u64 (ww2 x),.int .u64 (ww1 x),.int .u64 (ww0 x),.int .u64 (ww3 y),.int .u64 (ww2 y),.int .u64 (ww1 y),.int .u64 (ww0 y),.int .u64 (ww3 z),.int .u64 (ww2 z),.int .u64 (ww1 z),.int .u64 (ww0 z),.slice eo m mc]
 | 5,v,_=>v=PV u vv t
 | 6,v,_=>v= .int .i64 (ordI x y z u vv t)
 | 7,v,_=>v= .bool (decide (ordI x y z u vv t<0))
 | _,_,_=>True
theorem Vbs5.mono {n cap A off c m mc:Nat} {eo:Option Addr} {x y z u vv t:Int} {B j:Nat} {v:Value} {W W2:World} (_hB:Below W.heap.size W W2) (h:Vbs5 n cap A off c m mc eo x y z u vv t B j v W):Vbs5 n cap A off c m mc eo x y z u vv t B j v W2:=by
 unfold Vbs5 at *
 split<;>simp only at h<;>first | exact h | trivial
theorem bs5 {Q:Exit→Act→World→Prop} {n cap A off c m mc:Nat} {eo:Option Addr} {x y z u vv t:Int} {P:Nat} {w0:World} {a0:Act} {idq:Nat} {t0 t1 t2 t3 t4 t5 t6 t7:TypeId} {q0 q1 q2 q3 q4 q5 q6 q7:String}
 (hc:c<n) (hn:n≤200) (hp:ptB x y z=true) (hpu:ptB u vv t=true) (h0:a0.tmps[0]? =some (.slice (some ⟨A,off,none⟩) n cap)) (h2:a0.tmps[2]? =some (.func (.func 22) #[] #[])) (h4:a0.tmps[4]? =some (.pointer (some ⟨P,0,none⟩))) (h11:a0.tmps[11]? =some (.int .i64 (c:Int))) (k0:w0.cell? ⟨A,off+c*13,none⟩=some (.int .u64 (ww3 x))) (l0:(⟨A,off+c*13,none⟩:Addr).block<w0.heap.size) (k1:w0.cell? ⟨A,off+c*13+1,none⟩=some (.int .u64 (ww2 x))) (l1:(⟨A,off+c*13+1,none⟩:Addr).block<w0.heap.size) (k2:w0.cell? ⟨A,off+c*13+2,none⟩=some (.int .u64 (ww1 x))) (l2:(⟨A,off+c*13+2,none⟩:Addr).block<w0.heap.size) (k3:w0.cell? ⟨A,off+c*13+3,none⟩=some (.int .u64 (ww0 x))) (l3:(⟨A,off+c*13+3,none⟩:Addr).block<w0.heap.size) (k4:w0.cell? ⟨A,off+c*13+4,none⟩=some (.int .u64 (ww3 y))) (l4:(⟨A,off+c*13+4,none⟩:Addr).block<w0.heap.size) (k5:w0.cell? ⟨A,off+c*13+5,none⟩=some (.int .u64 (ww2 y))) (l5:(⟨A,off+c*13+5,none⟩:Addr).block<w0.heap.size) (k6:w0.cell? ⟨A,off+c*13+6,none⟩=some (.int .u64 (ww1 y))) (l6:(⟨A,off+c*13+6,none⟩:Addr).block<w0.heap.size) (k7:w0.cell? ⟨A,off+c*13+7,none⟩=some (.int .u64 (ww0 y))) (l7:(⟨A,off+c*13+7,none⟩:Addr).block<w0.heap.size) (k8:w0.cell? ⟨A,off+c*13+8,none⟩=some (.int .u64 (ww3 z))) (l8:(⟨A,off+c*13+8,none⟩:Addr).block<w0.heap.size) (k9:w0.cell? ⟨A,off+c*13+9,none⟩=some (.int .u64 (ww2 z))) (l9:(⟨A,off+c*13+9,none⟩:Addr).block<w0.heap.size) (k10:w0.cell? ⟨A,off+c*13+10,none⟩=some (.int .u64 (ww1 z))) (l10:(⟨A,off+c*13+10,none⟩:Addr).block<w0.heap.size) (k11:w0.cell? ⟨A,off+c*13+11,none⟩=some (.int .u64 (ww0 z))) (l11:(⟨A,off+c*13+11,none⟩:Addr).block<w0.heap.size) (k12:w0.cell? ⟨A,off+c*13+12,none⟩=some (.slice eo m mc)) (l12:(⟨A,off+c*13+12,none⟩:Addr).block<w0.heap.size) (k13:w0.cell? ⟨P,0,none⟩=some (.int .u64 (ww3 u))) (l13:(⟨P,0,none⟩:Addr).block<w0.heap.size) (k14:w0.cell? ⟨P,1,none⟩=some (.int .u64 (ww2 u))) (l14:(⟨P,1,none⟩:Addr).block<w0.heap.size) (k15:w0.cell? ⟨P,2,none⟩=some (.int .u64 (ww1 u))) (l15:(⟨P,2,none⟩:Addr).block<w0.heap.size) (k16:w0.cell? ⟨P,3,none⟩=some (.int .u64 (ww0 u))) (l16:(⟨P,3,none⟩:Addr).block<w0.heap.size) (k17:w0.cell? ⟨P,4,none⟩=some (.int .u64 (ww3 vv))) (l17:(⟨P,4,none⟩:Addr).block<w0.heap.size) (k18:w0.cell? ⟨P,5,none⟩=some (.int .u64 (ww2 vv))) (l18:(⟨P,5,none⟩:Addr).block<w0.heap.size) (k19:w0.cell? ⟨P,6,none⟩=some (.int .u64 (ww1 vv))) (l19:(⟨P,6,none⟩:Addr).block<w0.heap.size) (k20:w0.cell? ⟨P,7,none⟩=some (.int .u64 (ww0 vv))) (l20:(⟨P,7,none⟩:Addr).block<w0.heap.size) (k21:w0.cell? ⟨P,8,none⟩=some (.int .u64 (ww3 t))) (l21:(⟨P,8,none⟩:Addr).block<w0.heap.size) (k22:w0.cell? ⟨P,9,none⟩=some (.int .u64 (ww2 t))) (l22:(⟨P,9,none⟩:Addr).block<w0.heap.size) (k23:w0.cell? ⟨P,10,none⟩=some (.int .u64 (ww1 t))) (l23:(⟨P,10,none⟩:Addr).block<w0.heap.size) (k24:w0.cell? ⟨P,11,none⟩=some (.int .u64 (ww0 t))) (l24:(⟨P,11,none⟩:Addr).block<w0.heap.size) (hz:a0.tmps.size=49)
 (hQ:∀aq W,aq.tmps.size=a0.tmps.size→aq.defers=a0.defers→(∀e,e∉([24,25,26,27,28,29,30,31]:List Nat)→aq.tmps[e]? =a0.tmps[e]?)→Vbs5 n cap A off c m mc eo x y z u vv t w0.heap.size 7 (aq.tmps.getD 31 undef) W→Below w0.heap.size w0 W→Q .normal aq W) :
 (Code.region idq #[⟨some 24,.move (.tmp 2),t0,q0,#[],none⟩,
 ⟨some 25,.move (.tmp 0),t1,q1,#[],none⟩,
 ⟨some 26,.move (.tmp 11),t2,q2,#[],none⟩,
 ⟨some 27,.indexAddr 24 (.tmp 25) (.tmp 26),t3,q3,#[⟨1,.data⟩,⟨2,.data⟩],none⟩,
 ⟨some 28,.load 37 (.tmp 27),t4,q4,#[⟨3,.data⟩],none⟩,
 ⟨some 29,.load 29 (.tmp 4),t5,q5,#[],none⟩,
 ⟨some 30,.call {callee:= .value (.tmp 24),args:=#[.tmp 28,.tmp 29],argTypes:=#[37,29]},t6,q6,#[⟨0,.data⟩,⟨4,.data⟩,⟨5,.data⟩],none⟩,
 ⟨some 31,.binOp .lss 3 (.tmp 30) (.const (.int .i64 0)) 3,t7,q7,#[⟨6,.data⟩],none⟩] true).wp Tryz.prog Q a0 w0:=by
 have hS:distS [some 24,some 25,some 26,some 27,some 28,some 29,some 30,some 31]=true:=rfl;refine wp_region_q (by kernel_rfl) w0.heap.size [some 24,some 25,some 26,some 27,some 28,some 29,some 30,some 31] (Vbs5 n cap A off c m mc eo x y z u vv t w0.heap.size) rfl ?_ ?_
 · intro Q lq aq W iq oq hJ2 hl ho hall;have z5:=hJ2.b;have g0:=hJ2.a h0
   have g2:=hJ2.a h2
   have g4:=hJ2.a h4
   have g11:=hJ2.a h11
   have c0:=hJ2.c k0 l0;have c1:=hJ2.c k1 l1;have c2:=hJ2.c k2 l2;have c3:=hJ2.c k3 l3;have c4:=hJ2.c k4 l4;have c5:=hJ2.c k5 l5;have c6:=hJ2.c k6 l6;have c7:=hJ2.c k7 l7;have c8:=hJ2.c k8 l8;have c9:=hJ2.c k9 l9;have c10:=hJ2.c k10 l10;have c11:=hJ2.c k11 l11;have c12:=hJ2.c k12 l12;have c13:=hJ2.c k13 l13;have c14:=hJ2.c k14 l14;have c15:=hJ2.c k15 l15;have c16:=hJ2.c k16 l16;have c17:=hJ2.c k17 l17;have c18:=hJ2.c k18 l18;have c19:=hJ2.c k19 l19;have c20:=hJ2.c k20 l20;have c21:=hJ2.c k21 l21;have c22:=hJ2.c k22 l22;have c23:=hJ2.c k23 l23;have c24:=hJ2.c k24 l24
   clear hQ
   match iq,ho with
   | 0,ho=>
    cases ho;refine wpOp_of rfl rfl ?_;have hK:=hJ2.gO hS 0 24;generalize InvQ _ _ _ _ _ _=K at hK⊢;clear ho hall hl hJ2 hS;go_simp;exact hK _ rfl
   | 1,ho=>
    cases ho;refine wpOp_of rfl rfl ?_;have hK:=hJ2.gO hS 1 25;generalize InvQ _ _ _ _ _ _=K at hK⊢;clear ho hall hl hJ2 hS;go_simp;exact hK _ rfl
   | 2,ho=>
    cases ho;refine wpOp_of rfl rfl ?_;have hK:=hJ2.gO hS 2 26;generalize InvQ _ _ _ _ _ _=K at hK⊢;clear ho hall hl hJ2 hS;go_simp;exact hK _ rfl
   | 3,ho=>
    cases ho;refine wpOp_of rfl rfl ?_;have f1:_=Value.slice (some ⟨A,off,none⟩) n cap:=hJ2.v hall 1 25;have f2:_=Value.int .i64 (c:Int):=hJ2.v hall 2 26;have hcI:(c:Int)<n:=by omega
    have hnI:(n:Int)≤200:=by omega
    have hK:=hJ2.gO hS 3 27;generalize InvQ _ _ _ _ _ _=K at hK⊢;clear ho hall hl hJ2 hS;go_simp;exact hK _ rfl
   | 4,ho=>
    cases ho;refine wpOp_of rfl rfl ?_;have f3:_=Value.pointer (some ⟨A,off+c*13,none⟩):=hJ2.v hall 3 27;have hK:=hJ2.gO hS 4 28;generalize InvQ _ _ _ _ _ _=K at hK⊢;clear ho hall hl hJ2 hS;go_simp;exact hK _ rfl
   | 5,ho=>
    cases ho;refine wpOp_of rfl rfl ?_;have hK:=hJ2.gO hS 5 29;generalize InvQ _ _ _ _ _ _=K at hK⊢;clear ho hall hl hJ2 hS;go_simp;exact hK _ rfl
   | 6,ho=>
    cases ho;refine wpOp_of rfl rfl ?_;have f0:_=Value.func (.func 22) #[] #[]:=hJ2.v hall 0 24;have f4:_=Value.agg #[.int .u64 (ww3 x),.int .u64 (ww2 x),.int .u64 (ww1 x),.int .u64 (ww0 x),.int .u64 (ww3 y),.int .u64 (ww2 y),.int .u64 (ww1 y),.int .u64 (ww0 y),.int .u64 (ww3 z),.int .u64 (ww2 z),.int .u64 (ww1 z),.int .u64 (ww0 z),.slice eo m mc]:=hJ2.v hall 4 28;have f5:_=PV u vv t:=hJ2.v hall 5 29;have hK:=hJ2.go hS 6 30;generalize InvQ _ _ _ _ _ _=K at hK⊢;clear ho hall hl hJ2 hS;go_simp;refine(orderEvent_det x y z u vv t eo m mc hp hpu W).mono ?_;rintro e v1 ⟨rfl,hBv⟩;exact hK _ _ (z5.trans (hBv.mono z5.size)) (fun j v h=>h.mono hBv) rfl
   | 7,ho=>
    cases ho;refine wpOp_of rfl rfl ?_;have f6:_=Value.int .i64 (ordI x y z u vv t):=hJ2.v hall 6 30;have hK:=hJ2.gO hS 7 31;generalize InvQ _ _ _ _ _ _=K at hK⊢;clear ho hall hl hJ2 hS;go_simp;exact hK _ rfl
   | iq+8,ho=>simp at ho
 · intro lq aq W hJ hr;obtain⟨z1,z2,z3,z4,z5,z6,z7⟩:=hJ;have hl:=listed_of hr [0,1,2,3,4,5,6,7] [] (by simp) (by kernel_rfl) (by rw[z1];decide);exact hQ aq W z2 z3 (fun e he=>z4 e (by simpa using he)) (z6 7 31 (hl 7 (by simp)) rfl) z5
def Vbs8 (n cap A off c m mc:Nat) (eo:Option Addr) (x y z u vv t:Int) (_B:Nat):Nat→Value→World→Prop
 | 0,v,_=>v= .int .i64 (c:Int)
 | 1,v,_=>v= .int .i64 (c:Int)
 | 2,v,_=>v= .int .i64 (n:Int)
 | 3,v,_=>v= .bool true
 | 4,v,_=>v= .bool true
 | 5,v,_=>v= .func (.func 22) #[] #[]
 | 6,v,_=>v= .slice (some ⟨A,off,none⟩) n cap
 | 7,v,_=>v= .int .i64 (c:Int)
 | 8,v,_=>v= .pointer (some ⟨A,off+c*13,none⟩)
 | 9,v,_=>v= .agg #[.int .u64 (ww3 x),.int .u64 (ww2 x),.int .u64 (ww1 x),.int .u64 (ww0 x),.int .u64 (ww3 y),.int .u64 (ww2 y),.int .u64 (ww1 y),.int .u64 (ww0 y),.int .u64 (ww3 z),.int .u64 (ww2 z),.int .u64 (ww1 z),.int .u64 (ww0 z),.slice eo m mc]
 | 10,v,_=>v=PV u vv t
 | 11,v,_=>v= .int .i64 (ordI x y z u vv t)
 | 12,v,_=>v= .bool (decide (ordI x y z u vv t=0))
 | 13,v,_=>v= .bool (decide (ordI x y z u vv t=0))
 | 14,v,_=>v= .int .i64 (c:Int)
 | 15,v,_=>v= .bool (decide (ordI x y z u vv t=0))
 | _,_,_=>True
theorem Vbs8.mono {n cap A off c m mc:Nat} {eo:Option Addr} {x y z u vv t:Int} {B j:Nat} {v:Value} {W W2:World} (_hB:Below W.heap.size W W2) (h:Vbs8 n cap A off c m mc eo x y z u vv t B j v W):Vbs8 n cap A off c m mc eo x y z u vv t B j v W2:=by
 unfold Vbs8 at *
 split<;>simp only at h<;>first | exact h | trivial
theorem bs8 {Q:Exit→Act→World→Prop} {n cap A off c m mc:Nat} {eo:Option Addr} {x y z u vv t:Int} {P:Nat} {w0:World} {a0:Act} {idq:Nat} {t0 t1 t2 t3 t4 t5 t6 t7 t8 t9 t10 t11 t12 t13 t14 t15:TypeId} {q0 q1 q2 q3 q4 q5 q6 q7 q8 q9 q10 q11 q12 q13 q14 q15:String}
 (hc:c<n) (hn:n≤200) (hp:ptB x y z=true) (hpu:ptB u vv t=true) (h0:a0.tmps[0]? =some (.slice (some ⟨A,off,none⟩) n cap)) (h2:a0.tmps[2]? =some (.func (.func 22) #[] #[])) (h4:a0.tmps[4]? =some (.pointer (some ⟨P,0,none⟩))) (h9:a0.tmps[9]? =some (.int .i64 (c:Int))) (h8:a0.tmps[8]? =some (.int .i64 (n:Int))) (k0:w0.cell? ⟨A,off+c*13,none⟩=some (.int .u64 (ww3 x))) (l0:(⟨A,off+c*13,none⟩:Addr).block<w0.heap.size) (k1:w0.cell? ⟨A,off+c*13+1,none⟩=some (.int .u64 (ww2 x))) (l1:(⟨A,off+c*13+1,none⟩:Addr).block<w0.heap.size) (k2:w0.cell? ⟨A,off+c*13+2,none⟩=some (.int .u64 (ww1 x))) (l2:(⟨A,off+c*13+2,none⟩:Addr).block<w0.heap.size) (k3:w0.cell? ⟨A,off+c*13+3,none⟩=some (.int .u64 (ww0 x))) (l3:(⟨A,off+c*13+3,none⟩:Addr).block<w0.heap.size) (k4:w0.cell? ⟨A,off+c*13+4,none⟩=some (.int .u64 (ww3 y))) (l4:(⟨A,off+c*13+4,none⟩:Addr).block<w0.heap.size) (k5:w0.cell? ⟨A,off+c*13+5,none⟩=some (.int .u64 (ww2 y))) (l5:(⟨A,off+c*13+5,none⟩:Addr).block<w0.heap.size) (k6:w0.cell? ⟨A,off+c*13+6,none⟩=some (.int .u64 (ww1 y))) (l6:(⟨A,off+c*13+6,none⟩:Addr).block<w0.heap.size) (k7:w0.cell? ⟨A,off+c*13+7,none⟩=some (.int .u64 (ww0 y))) (l7:(⟨A,off+c*13+7,none⟩:Addr).block<w0.heap.size) (k8:w0.cell? ⟨A,off+c*13+8,none⟩=some (.int .u64 (ww3 z))) (l8:(⟨A,off+c*13+8,none⟩:Addr).block<w0.heap.size) (k9:w0.cell? ⟨A,off+c*13+9,none⟩=some (.int .u64 (ww2 z))) (l9:(⟨A,off+c*13+9,none⟩:Addr).block<w0.heap.size) (k10:w0.cell? ⟨A,off+c*13+10,none⟩=some (.int .u64 (ww1 z))) (l10:(⟨A,off+c*13+10,none⟩:Addr).block<w0.heap.size) (k11:w0.cell? ⟨A,off+c*13+11,none⟩=some (.int .u64 (ww0 z))) (l11:(⟨A,off+c*13+11,none⟩:Addr).block<w0.heap.size) (k12:w0.cell? ⟨A,off+c*13+12,none⟩=some (.slice eo m mc)) (l12:(⟨A,off+c*13+12,none⟩:Addr).block<w0.heap.size) (k13:w0.cell? ⟨P,0,none⟩=some (.int .u64 (ww3 u))) (l13:(⟨P,0,none⟩:Addr).block<w0.heap.size) (k14:w0.cell? ⟨P,1,none⟩=some (.int .u64 (ww2 u))) (l14:(⟨P,1,none⟩:Addr).block<w0.heap.size) (k15:w0.cell? ⟨P,2,none⟩=some (.int .u64 (ww1 u))) (l15:(⟨P,2,none⟩:Addr).block<w0.heap.size) (k16:w0.cell? ⟨P,3,none⟩=some (.int .u64 (ww0 u))) (l16:(⟨P,3,none⟩:Addr).block<w0.heap.size) (k17:w0.cell? ⟨P,4,none⟩=some (.int .u64 (ww3 vv))) (l17:(⟨P,4,none⟩:Addr).block<w0.heap.size) (k18:w0.cell? ⟨P,5,none⟩=some (.int .u64 (ww2 vv))) (l18:(⟨P,5,none⟩:Addr).block<w0.heap.size) (k19:w0.cell? ⟨P,6,none⟩=some (.int .u64 (ww1 vv))) (l19:(⟨P,6,none⟩:Addr).block<w0.heap.size) (k20:w0.cell? ⟨P,7,none⟩=some (.int .u64 (ww0 vv))) (l20:(⟨P,7,none⟩:Addr).block<w0.heap.size) (k21:w0.cell? ⟨P,8,none⟩=some (.int .u64 (ww3 t))) (l21:(⟨P,8,none⟩:Addr).block<w0.heap.size) (k22:w0.cell? ⟨P,9,none⟩=some (.int .u64 (ww2 t))) (l22:(⟨P,9,none⟩:Addr).block<w0.heap.size) (k23:w0.cell? ⟨P,10,none⟩=some (.int .u64 (ww1 t))) (l23:(⟨P,10,none⟩:Addr).block<w0.heap.size) (k24:w0.cell? ⟨P,11,none⟩=some (.int .u64 (ww0 t))) (l24:(⟨P,11,none⟩:Addr).block<w0.heap.size) (hz:a0.tmps.size=49)
 (hQ:∀aq W,aq.tmps.size=a0.tmps.size→aq.defers=a0.defers→(∀e,e∉([35,36,37,38,39,40,41,42,43,44,45,46,47,48,6,7]:List Nat)→aq.tmps[e]? =a0.tmps[e]?)→Vbs8 n cap A off c m mc eo x y z u vv t w0.heap.size 14 (aq.tmps.getD 6 undef) W→Vbs8 n cap A off c m mc eo x y z u vv t w0.heap.size 15 (aq.tmps.getD 7 undef) W→Below w0.heap.size w0 W→Q .normal aq W) :
 (Code.region idq #[⟨some 35,.move (.tmp 9),t0,q0,#[],none⟩,
 ⟨some 36,.move (.tmp 9),t1,q1,#[],none⟩,
 ⟨some 37,.move (.tmp 8),t2,q2,#[],none⟩,
 ⟨some 38,.binOp .lss 3 (.tmp 36) (.tmp 37) 3,t3,q3,#[⟨1,.data⟩,⟨2,.data⟩],none⟩,
 ⟨some 39,.move (.tmp 38),t4,q4,#[⟨3,.data⟩],none⟩,
 ⟨some 40,.move (.tmp 2),t5,q5,#[⟨4,.guard⟩],some (4,true)⟩,
 ⟨some 41,.move (.tmp 0),t6,q6,#[⟨4,.guard⟩],some (4,true)⟩,
 ⟨some 42,.move (.tmp 9),t7,q7,#[⟨4,.guard⟩],some (4,true)⟩,
 ⟨some 43,.indexAddr 24 (.tmp 41) (.tmp 42),t8,q8,#[⟨6,.data⟩,⟨7,.data⟩,⟨4,.guard⟩],some (4,true)⟩,
 ⟨some 44,.load 37 (.tmp 43),t9,q9,#[⟨8,.data⟩,⟨4,.guard⟩],some (4,true)⟩,
 ⟨some 45,.load 29 (.tmp 4),t10,q10,#[⟨4,.guard⟩],some (4,true)⟩,
 ⟨some 46,.call {callee:= .value (.tmp 40),args:=#[.tmp 44,.tmp 45],argTypes:=#[37,29]},t11,q11,#[⟨5,.data⟩,⟨9,.data⟩,⟨10,.data⟩,⟨4,.chain⟩,⟨4,.guard⟩],some (4,true)⟩,
 ⟨some 47,.binOp .eql 3 (.tmp 46) (.const (.int .i64 0)) 3,t12,q12,#[⟨11,.data⟩,⟨4,.guard⟩,⟨14,.gcOnly .lateStores⟩],some (4,true)⟩,
 ⟨some 48,.pick (.tmp 39) (.tmp 47) (.const (.bool false)),t13,q13,#[⟨4,.data⟩,⟨12,.data⟩,⟨14,.gcOnly .lateStores⟩],none⟩,
 ⟨some 6,.assign (.tmp 35),t14,q14,#[⟨0,.data⟩,⟨11,.chain⟩,⟨0,.phase⟩,⟨1,.textOnly .lateStores⟩,⟨2,.textOnly .lateStores⟩,⟨3,.textOnly .lateStores⟩,⟨4,.textOnly .lateStores⟩,⟨5,.textOnly .lateStores⟩,⟨6,.textOnly .lateStores⟩,⟨7,.textOnly .lateStores⟩,⟨8,.textOnly .lateStores⟩,⟨9,.textOnly .lateStores⟩,⟨10,.textOnly .lateStores⟩,⟨11,.textOnly .lateStoresUnsure⟩,⟨12,.textOnly .lateStores⟩,⟨13,.textOnly .lateStores⟩],none⟩,
 ⟨some 7,.assign (.tmp 48),t15,q15,#[⟨13,.data⟩,⟨14,.chain⟩,⟨0,.phase⟩,⟨1,.phase⟩,⟨2,.phase⟩,⟨3,.phase⟩,⟨4,.phase⟩,⟨5,.phase⟩,⟨6,.phase⟩,⟨7,.phase⟩,⟨8,.phase⟩,⟨9,.phase⟩,⟨10,.phase⟩,⟨11,.phase⟩,⟨12,.phase⟩,⟨13,.phase⟩,⟨14,.phase⟩],none⟩] true).wp Tryz.prog Q a0 w0:=by
 have hS:distS [some 35,some 36,some 37,some 38,some 39,some 40,some 41,some 42,some 43,some 44,some 45,some 46,some 47,some 48,some 6,some 7]=true:=rfl;refine wp_region_q (by kernel_rfl) w0.heap.size [some 35,some 36,some 37,some 38,some 39,some 40,some 41,some 42,some 43,some 44,some 45,some 46,some 47,some 48,some 6,some 7] (Vbs8 n cap A off c m mc eo x y z u vv t w0.heap.size) rfl ?_ ?_
 · intro Q lq aq W iq oq hJ2 hl ho hall;have z5:=hJ2.b;have g0:=hJ2.a h0
   have g2:=hJ2.a h2
   have g4:=hJ2.a h4
   have g9:=hJ2.a h9
   have g8:=hJ2.a h8
   have c0:=hJ2.c k0 l0;have c1:=hJ2.c k1 l1;have c2:=hJ2.c k2 l2;have c3:=hJ2.c k3 l3;have c4:=hJ2.c k4 l4;have c5:=hJ2.c k5 l5;have c6:=hJ2.c k6 l6;have c7:=hJ2.c k7 l7;have c8:=hJ2.c k8 l8;have c9:=hJ2.c k9 l9;have c10:=hJ2.c k10 l10;have c11:=hJ2.c k11 l11;have c12:=hJ2.c k12 l12;have c13:=hJ2.c k13 l13;have c14:=hJ2.c k14 l14;have c15:=hJ2.c k15 l15;have c16:=hJ2.c k16 l16;have c17:=hJ2.c k17 l17;have c18:=hJ2.c k18 l18;have c19:=hJ2.c k19 l19;have c20:=hJ2.c k20 l20;have c21:=hJ2.c k21 l21;have c22:=hJ2.c k22 l22;have c23:=hJ2.c k23 l23;have c24:=hJ2.c k24 l24
   clear hQ
   match iq,ho with
   | 0,ho=>
    cases ho;refine wpOp_of rfl rfl ?_;have hK:=hJ2.gO hS 0 35;generalize InvQ _ _ _ _ _ _=K at hK⊢;clear ho hall hl hJ2 hS;go_simp;exact hK _ rfl
   | 1,ho=>
    cases ho;refine wpOp_of rfl rfl ?_;have hK:=hJ2.gO hS 1 36;generalize InvQ _ _ _ _ _ _=K at hK⊢;clear ho hall hl hJ2 hS;go_simp;exact hK _ rfl
   | 2,ho=>
    cases ho;refine wpOp_of rfl rfl ?_;have hK:=hJ2.gO hS 2 37;generalize InvQ _ _ _ _ _ _=K at hK⊢;clear ho hall hl hJ2 hS;go_simp;exact hK _ rfl
   | 3,ho=>
    cases ho;refine wpOp_of rfl rfl ?_;have f1:_=Value.int .i64 (c:Int):=hJ2.v hall 1 36;have f2:_=Value.int .i64 (n:Int):=hJ2.v hall 2 37;have hcI:(c:Int)<n:=by omega
    have hnI:(n:Int)≤200:=by omega
    have hK:=hJ2.gO hS 3 38;generalize InvQ _ _ _ _ _ _=K at hK⊢;clear ho hall hl hJ2 hS;go_simp;exact hK _ rfl
   | 4,ho=>
    cases ho;refine wpOp_of rfl rfl ?_;have f3:_=Value.bool true:=hJ2.v hall 3 38;have hK:=hJ2.gO hS 4 39;generalize InvQ _ _ _ _ _ _=K at hK⊢;clear ho hall hl hJ2 hS;go_simp;exact hK _ rfl
   | 5,ho=>
    cases ho;have fg:aq.tmps.getD 39 undef= .bool true:=hJ2.v hall 4 39 .guard;refine wpOp_on rfl rfl rfl rfl fg ?_;have hK:=hJ2.gO hS 5 40;generalize InvQ _ _ _ _ _ _=K at hK⊢;clear ho hall hl hJ2 hS;go_simp;exact hK _ rfl
   | 6,ho=>
    cases ho;have fg:aq.tmps.getD 39 undef= .bool true:=hJ2.v hall 4 39 .guard;refine wpOp_on rfl rfl rfl rfl fg ?_;have hK:=hJ2.gO hS 6 41;generalize InvQ _ _ _ _ _ _=K at hK⊢;clear ho hall hl hJ2 hS;go_simp;exact hK _ rfl
   | 7,ho=>
    cases ho;have fg:aq.tmps.getD 39 undef= .bool true:=hJ2.v hall 4 39 .guard;refine wpOp_on rfl rfl rfl rfl fg ?_;have hK:=hJ2.gO hS 7 42;generalize InvQ _ _ _ _ _ _=K at hK⊢;clear ho hall hl hJ2 hS;go_simp;exact hK _ rfl
   | 8,ho=>
    cases ho;have fg:aq.tmps.getD 39 undef= .bool true:=hJ2.v hall 4 39 .guard;refine wpOp_on rfl rfl rfl rfl fg ?_;have f6:_=Value.slice (some ⟨A,off,none⟩) n cap:=hJ2.v hall 6 41;have f7:_=Value.int .i64 (c:Int):=hJ2.v hall 7 42;have hcI:(c:Int)<n:=by omega
    have hnI:(n:Int)≤200:=by omega
    have hK:=hJ2.gO hS 8 43;generalize InvQ _ _ _ _ _ _=K at hK⊢;clear ho hall hl hJ2 hS;go_simp;exact hK _ rfl
   | 9,ho=>
    cases ho;have fg:aq.tmps.getD 39 undef= .bool true:=hJ2.v hall 4 39 .guard;refine wpOp_on rfl rfl rfl rfl fg ?_;have f8:_=Value.pointer (some ⟨A,off+c*13,none⟩):=hJ2.v hall 8 43;have hK:=hJ2.gO hS 9 44;generalize InvQ _ _ _ _ _ _=K at hK⊢;clear ho hall hl hJ2 hS;go_simp;exact hK _ rfl
   | 10,ho=>
    cases ho;have fg:aq.tmps.getD 39 undef= .bool true:=hJ2.v hall 4 39 .guard;refine wpOp_on rfl rfl rfl rfl fg ?_;have hK:=hJ2.gO hS 10 45;generalize InvQ _ _ _ _ _ _=K at hK⊢;clear ho hall hl hJ2 hS;go_simp;exact hK _ rfl
   | 11,ho=>
    cases ho;have fg:aq.tmps.getD 39 undef= .bool true:=hJ2.v hall 4 39 .guard;refine wpOp_on rfl rfl rfl rfl fg ?_;have f5:_=Value.func (.func 22) #[] #[]:=hJ2.v hall 5 40;have f9:_=Value.agg #[.int .u64 (ww3 x),.int .u64 (ww2 x),.int .u64 (ww1 x),.int .u64 (ww0 x),.int .u64 (ww3 y),.int .u64 (ww2 y),.int .u64 (ww1 y),.int .u64 (ww0 y),.int .u64 (ww3 z),.int .u64 (ww2 z),.int .u64 (ww1 z),.int .u64 (ww0 z),.slice eo m mc]:=hJ2.v hall 9 44;have f10:_=PV u vv t:=hJ2.v hall 10 45;have hK:=hJ2.go hS 11 46;generalize InvQ _ _ _ _ _ _=K at hK⊢;clear ho hall hl hJ2 hS;go_simp;refine(orderEvent_det x y z u vv t eo m mc hp hpu W).mono ?_;rintro e v1 ⟨rfl,hBv⟩;exact hK _ _ (z5.trans (hBv.mono z5.size)) (fun j v h=>h.mono hBv) rfl
   | 12,ho=>
    cases ho;have fg:aq.tmps.getD 39 undef= .bool true:=hJ2.v hall 4 39 .guard;refine wpOp_on rfl rfl rfl rfl fg ?_;have f11:_=Value.int .i64 (ordI x y z u vv t):=hJ2.v hall 11 46;have hK:=hJ2.go hS 12 47;generalize InvQ _ _ _ _ _ _=K at hK⊢;clear ho hall hl hJ2 hS;go_simp;exact hK _ _ z5 (fun _ _ h=>h) (by show _=_;first | rfl | simp)
   | 13,ho=>
    cases ho;refine wpOp_of rfl rfl ?_;have f4:_=Value.bool true:=hJ2.v hall 4 39;have f12:_=Value.bool (decide (ordI x y z u vv t=0)):=hJ2.v hall 12 47;have hK:=hJ2.gO hS 13 48;generalize InvQ _ _ _ _ _ _=K at hK⊢;clear ho hall hl hJ2 hS;go_simp;exact hK _ rfl
   | 14,ho=>
    cases ho;refine wpOp_of rfl rfl ?_;have f0:_=Value.int .i64 (c:Int):=hJ2.v hall 0 35;have hK:=hJ2.gO hS 14 6;generalize InvQ _ _ _ _ _ _=K at hK⊢;clear ho hall hl hJ2 hS;go_simp;exact hK _ rfl
   | 15,ho=>
    cases ho;refine wpOp_of rfl rfl ?_;have f13:_=Value.bool (decide (ordI x y z u vv t=0)):=hJ2.v hall 13 48;have hK:=hJ2.gO hS 15 7;generalize InvQ _ _ _ _ _ _=K at hK⊢;clear ho hall hl hJ2 hS;go_simp;exact hK _ rfl
   | iq+16,ho=>simp at ho
 · intro lq aq W hJ hr;obtain⟨z1,z2,z3,z4,z5,z6,z7⟩:=hJ;have hl:=listed_of hr [0,1,2,3,4,5,6,7,8,9,10,11,14,12,13,15] [] (by simp) (by kernel_rfl) (by rw[z1];decide);exact hQ aq W z2 z3 (fun e he=>z4 e (by simpa using he)) (z6 14 6 (hl 14 (by simp)) rfl) (z6 15 7 (hl 15 (by simp)) rfl) z5
def Vbs8n (n:Nat) (_B:Nat):Nat→Value→World→Prop
 | 0,v,_=>v= .int .i64 (n:Int)
 | 1,v,_=>v= .int .i64 (n:Int)
 | 2,v,_=>v= .int .i64 (n:Int)
 | 3,v,_=>v= .bool false
 | 4,v,_=>v= .bool false
 | 5,v,_=>v=undef
 | 6,v,_=>v=undef
 | 7,v,_=>v=undef
 | 8,v,_=>v=undef
 | 9,v,_=>v=undef
 | 10,v,_=>v=undef
 | 11,v,_=>v=undef
 | 12,v,_=>v=undef
 | 13,v,_=>v= .bool false
 | 14,v,_=>v= .int .i64 (n:Int)
 | 15,v,_=>v= .bool false
 | _,_,_=>True
theorem bs8n {Q:Exit→Act→World→Prop} {n:Nat} {w0:World} {a0:Act} {idq:Nat} {t0 t1 t2 t3 t4 t5 t6 t7 t8 t9 t10 t11 t12 t13 t14 t15:TypeId} {q0 q1 q2 q3 q4 q5 q6 q7 q8 q9 q10 q11 q12 q13 q14 q15:String}
 (h9:a0.tmps[9]? =some (.int .i64 (n:Int))) (h8:a0.tmps[8]? =some (.int .i64 (n:Int))) (hz:a0.tmps.size=49)
 (hQ:∀aq W,aq.tmps.size=a0.tmps.size→aq.defers=a0.defers→(∀e,e∉([35,36,37,38,39,40,41,42,43,44,45,46,47,48,6,7]:List Nat)→aq.tmps[e]? =a0.tmps[e]?)→Vbs8n n w0.heap.size 14 (aq.tmps.getD 6 undef) W→Vbs8n n w0.heap.size 15 (aq.tmps.getD 7 undef) W→Below w0.heap.size w0 W→Q .normal aq W) :
 (Code.region idq #[⟨some 35,.move (.tmp 9),t0,q0,#[],none⟩,
 ⟨some 36,.move (.tmp 9),t1,q1,#[],none⟩,
 ⟨some 37,.move (.tmp 8),t2,q2,#[],none⟩,
 ⟨some 38,.binOp .lss 3 (.tmp 36) (.tmp 37) 3,t3,q3,#[⟨1,.data⟩,⟨2,.data⟩],none⟩,
 ⟨some 39,.move (.tmp 38),t4,q4,#[⟨3,.data⟩],none⟩,
 ⟨some 40,.move (.tmp 2),t5,q5,#[⟨4,.guard⟩],some (4,true)⟩,
 ⟨some 41,.move (.tmp 0),t6,q6,#[⟨4,.guard⟩],some (4,true)⟩,
 ⟨some 42,.move (.tmp 9),t7,q7,#[⟨4,.guard⟩],some (4,true)⟩,
 ⟨some 43,.indexAddr 24 (.tmp 41) (.tmp 42),t8,q8,#[⟨6,.data⟩,⟨7,.data⟩,⟨4,.guard⟩],some (4,true)⟩,
 ⟨some 44,.load 37 (.tmp 43),t9,q9,#[⟨8,.data⟩,⟨4,.guard⟩],some (4,true)⟩,
 ⟨some 45,.load 29 (.tmp 4),t10,q10,#[⟨4,.guard⟩],some (4,true)⟩,
 ⟨some 46,.call {callee:= .value (.tmp 40),args:=#[.tmp 44,.tmp 45],argTypes:=#[37,29]},t11,q11,#[⟨5,.data⟩,⟨9,.data⟩,⟨10,.data⟩,⟨4,.chain⟩,⟨4,.guard⟩],some (4,true)⟩,
 ⟨some 47,.binOp .eql 3 (.tmp 46) (.const (.int .i64 0)) 3,t12,q12,#[⟨11,.data⟩,⟨4,.guard⟩,⟨14,.gcOnly .lateStores⟩],some (4,true)⟩,
 ⟨some 48,.pick (.tmp 39) (.tmp 47) (.const (.bool false)),t13,q13,#[⟨4,.data⟩,⟨12,.data⟩,⟨14,.gcOnly .lateStores⟩],none⟩,
 ⟨some 6,.assign (.tmp 35),t14,q14,#[⟨0,.data⟩,⟨11,.chain⟩,⟨0,.phase⟩,⟨1,.textOnly .lateStores⟩,⟨2,.textOnly .lateStores⟩,⟨3,.textOnly .lateStores⟩,⟨4,.textOnly .lateStores⟩,⟨5,.textOnly .lateStores⟩,⟨6,.textOnly .lateStores⟩,⟨7,.textOnly .lateStores⟩,⟨8,.textOnly .lateStores⟩,⟨9,.textOnly .lateStores⟩,⟨10,.textOnly .lateStores⟩,⟨11,.textOnly .lateStoresUnsure⟩,⟨12,.textOnly .lateStores⟩,⟨13,.textOnly .lateStores⟩],none⟩,
 ⟨some 7,.assign (.tmp 48),t15,q15,#[⟨13,.data⟩,⟨14,.chain⟩,⟨0,.phase⟩,⟨1,.phase⟩,⟨2,.phase⟩,⟨3,.phase⟩,⟨4,.phase⟩,⟨5,.phase⟩,⟨6,.phase⟩,⟨7,.phase⟩,⟨8,.phase⟩,⟨9,.phase⟩,⟨10,.phase⟩,⟨11,.phase⟩,⟨12,.phase⟩,⟨13,.phase⟩,⟨14,.phase⟩],none⟩] true).wp Tryz.prog Q a0 w0:=by
 have hS:distS [some 35,some 36,some 37,some 38,some 39,some 40,some 41,some 42,some 43,some 44,some 45,some 46,some 47,some 48,some 6,some 7]=true:=rfl;refine wp_region_q (by kernel_rfl) w0.heap.size [some 35,some 36,some 37,some 38,some 39,some 40,some 41,some 42,some 43,some 44,some 45,some 46,some 47,some 48,some 6,some 7] (Vbs8n n w0.heap.size) rfl ?_ ?_
 · intro Q lq aq W iq oq hJ2 hl ho hall;have z5:=hJ2.b;have g9:=hJ2.a h9
   have g8:=hJ2.a h8
   clear hQ
   match iq,ho with
   | 0,ho=>
    cases ho;refine wpOp_of rfl rfl ?_;have hK:=hJ2.gO hS 0 35;generalize InvQ _ _ _ _ _ _=K at hK⊢;clear ho hall hl hJ2 hS;go_simp;exact hK _ rfl
   | 1,ho=>
    cases ho;refine wpOp_of rfl rfl ?_;have hK:=hJ2.gO hS 1 36;generalize InvQ _ _ _ _ _ _=K at hK⊢;clear ho hall hl hJ2 hS;go_simp;exact hK _ rfl
   | 2,ho=>
    cases ho;refine wpOp_of rfl rfl ?_;have hK:=hJ2.gO hS 2 37;generalize InvQ _ _ _ _ _ _=K at hK⊢;clear ho hall hl hJ2 hS;go_simp;exact hK _ rfl
   | 3,ho=>
    cases ho;refine wpOp_of rfl rfl ?_;have f1:_=Value.int .i64 (n:Int):=hJ2.v hall 1 36;have f2:_=Value.int .i64 (n:Int):=hJ2.v hall 2 37;have hK:=hJ2.go hS 3 38;generalize InvQ _ _ _ _ _ _=K at hK⊢;clear ho hall hl hJ2 hS;go_simp;exact hK _ _ z5 (fun _ _ h=>h) (by show _=_;first | rfl | simp)
   | 4,ho=>
    cases ho;refine wpOp_of rfl rfl ?_;have f3:_=Value.bool false:=hJ2.v hall 3 38;have hK:=hJ2.gO hS 4 39;generalize InvQ _ _ _ _ _ _=K at hK⊢;clear ho hall hl hJ2 hS;go_simp;exact hK _ rfl
   | 5,ho=>
    cases ho;have fg:aq.tmps.getD 39 undef= .bool false:=hJ2.v hall 4 39 .guard;refine wpOp_off rfl rfl rfl rfl fg ?_;exact hJ2.put hS 5 40 rfl (by omega) z5 (fun _ _ h=>h) undef rfl
   | 6,ho=>
    cases ho;have fg:aq.tmps.getD 39 undef= .bool false:=hJ2.v hall 4 39 .guard;refine wpOp_off rfl rfl rfl rfl fg ?_;exact hJ2.put hS 6 41 rfl (by omega) z5 (fun _ _ h=>h) undef rfl
   | 7,ho=>
    cases ho;have fg:aq.tmps.getD 39 undef= .bool false:=hJ2.v hall 4 39 .guard;refine wpOp_off rfl rfl rfl rfl fg ?_;exact hJ2.put hS 7 42 rfl (by omega) z5 (fun _ _ h=>h) undef rfl
   | 8,ho=>
    cases ho;have fg:aq.tmps.getD 39 undef= .bool false:=hJ2.v hall 4 39 .guard;refine wpOp_off rfl rfl rfl rfl fg ?_;exact hJ2.put hS 8 43 rfl (by omega) z5 (fun _ _ h=>h) undef rfl
   | 9,ho=>
    cases ho;have fg:aq.tmps.getD 39 undef= .bool false:=hJ2.v hall 4 39 .guard;refine wpOp_off rfl rfl rfl rfl fg ?_;exact hJ2.put hS 9 44 rfl (by omega) z5 (fun _ _ h=>h) undef rfl
   | 10,ho=>
    cases ho;have fg:aq.tmps.getD 39 undef= .bool false:=hJ2.v hall 4 39 .guard;refine wpOp_off rfl rfl rfl rfl fg ?_;exact hJ2.put hS 10 45 rfl (by omega) z5 (fun _ _ h=>h) undef rfl
   | 11,ho=>
    cases ho;have fg:aq.tmps.getD 39 undef= .bool false:=hJ2.v hall 4 39 .guard;refine wpOp_off rfl rfl rfl rfl fg ?_;exact hJ2.put hS 11 46 rfl (by omega) z5 (fun _ _ h=>h) undef rfl
   | 12,ho=>
    cases ho;have fg:aq.tmps.getD 39 undef= .bool false:=hJ2.v hall 4 39 .guard;refine wpOp_off rfl rfl rfl rfl fg ?_;exact hJ2.put hS 12 47 rfl (by omega) z5 (fun _ _ h=>h) undef rfl
   | 13,ho=>
    cases ho;refine wpOp_of rfl rfl ?_;have f4:_=Value.bool false:=hJ2.v hall 4 39;have f12:_=undef:=hJ2.v hall 12 47;have hK:=hJ2.gO hS 13 48;generalize InvQ _ _ _ _ _ _=K at hK⊢;clear ho hall hl hJ2 hS;go_simp;exact hK _ rfl
   | 14,ho=>
    cases ho;refine wpOp_of rfl rfl ?_;have f0:_=Value.int .i64 (n:Int):=hJ2.v hall 0 35;have hK:=hJ2.gO hS 14 6;generalize InvQ _ _ _ _ _ _=K at hK⊢;clear ho hall hl hJ2 hS;go_simp;exact hK _ rfl
   | 15,ho=>
    cases ho;refine wpOp_of rfl rfl ?_;have f13:_=Value.bool false:=hJ2.v hall 13 48;have hK:=hJ2.gO hS 15 7;generalize InvQ _ _ _ _ _ _=K at hK⊢;clear ho hall hl hJ2 hS;go_simp;exact hK _ rfl
   | iq+16,ho=>simp at ho
 · intro lq aq W hJ hr;obtain⟨z1,z2,z3,z4,z5,z6,z7⟩:=hJ;have hl:=listed_of hr [0,1,2,3,4,5,6,7,8,9,10,11,14,12,13,15] [] (by simp) (by kernel_rfl) (by rw[z1];decide);exact hQ aq W z2 z3 (fun e he=>z4 e (by simpa using he)) (z6 14 6 (hl 14 (by simp)) rfl) (z6 15 7 (hl 15 (by simp)) rfl) z5
theorem bsf_any (ao:Option Addr) (n cap:Nat) (q:Nat→Int×Int×Int) (S:Nat→Option Addr×Nat) (L:Nat→Nat) (E:Nat→Nat→Int) (p:Int×Int×Int) (j:Nat) (th:Bool) (hn:n≤200) (hq:∀i,i<n→ptB (q i).1 (q i).2.1 (q i).2.2=true) (hp:ptB p.1 p.2.1 p.2.2=true) (hP:PutAt n q p j th) (w:World) (hS:EvIn w ao n q S L E):Calls Tryz.prog 21 #[.slice ao n cap,PV p.1 p.2.1 p.2.2,.func (.func 22) #[] #[]] w (VP (.tuple #[.int .i64 (j:Int),.bool th]) w):=by
 have HS:Hid (EvIn w ao n q S L E):=hS;have HP:Hid (PutAt n q p j th):=hP;have HQ:Hid (∀i,i<n→ptB (q i).1 (q i).2.1 (q i).2.2=true):=hq;have hj:=hP.le;clear hS hP hq;have hnI:(n:Int)≤200:=by omega
 have B0:Blk (w.alloc (.cells #[.int .u64 (ww3 p.1),.int .u64 (ww2 p.1),.int .u64 (ww1 p.1),.int .u64 (ww0 p.1),.int .u64 (ww3 p.2.1),.int .u64 (ww2 p.2.1),.int .u64 (ww1 p.2.1),.int .u64 (ww0 p.2.1),.int .u64 (ww3 p.2.2),.int .u64 (ww2 p.2.2),.int .u64 (ww1 p.2.2),.int .u64 (ww0 p.2.2)] 29)) w.heap.size [.int .u64 (ww3 p.1),.int .u64 (ww2 p.1),.int .u64 (ww1 p.1),.int .u64 (ww0 p.1),.int .u64 (ww3 p.2.1),.int .u64 (ww2 p.2.1),.int .u64 (ww1 p.2.1),.int .u64 (ww0 p.2.1),.int .u64 (ww3 p.2.2),.int .u64 (ww2 p.2.2),.int .u64 (ww1 p.2.2),.int .u64 (ww0 p.2.2)]:=Blk.new w [.int .u64 (ww3 p.1),.int .u64 (ww2 p.1),.int .u64 (ww1 p.1),.int .u64 (ww0 p.1),.int .u64 (ww3 p.2.1),.int .u64 (ww2 p.2.1),.int .u64 (ww1 p.2.1),.int .u64 (ww0 p.2.1),.int .u64 (ww3 p.2.2),.int .u64 (ww2 p.2.2),.int .u64 (ww1 p.2.2),.int .u64 (ww0 p.2.2)] 29 rfl;have HB0:Below w.heap.size w (w.alloc (.cells #[.int .u64 (ww3 p.1),.int .u64 (ww2 p.1),.int .u64 (ww1 p.1),.int .u64 (ww0 p.1),.int .u64 (ww3 p.2.1),.int .u64 (ww2 p.2.1),.int .u64 (ww1 p.2.1),.int .u64 (ww0 p.2.1),.int .u64 (ww3 p.2.2),.int .u64 (ww2 p.2.2),.int .u64 (ww1 p.2.2),.int .u64 (ww0 p.2.2)] 29)):=(Below.refl _ w).alloc (Nat.le_refl _) _
 go_enter Tryz.func21,Tryz.ntmps21
 go_wp2_with fail
 go_loopw [9,10] (fun a b wr=>∃l r:Nat,a= .int .i64 l∧b= .int .i64 r∧l≤j∧j≤r∧r≤n∧Blk wr w.heap.size [.int .u64 (ww3 p.1),.int .u64 (ww2 p.1),.int .u64 (ww1 p.1),.int .u64 (ww0 p.1),.int .u64 (ww3 p.2.1),.int .u64 (ww2 p.2.1),.int .u64 (ww1 p.2.1),.int .u64 (ww0 p.2.1),.int .u64 (ww3 p.2.2),.int .u64 (ww2 p.2.2),.int .u64 (ww1 p.2.2),.int .u64 (ww0 p.2.2)]∧Below w.heap.size w wr) (fun a b _=>(intOf b).toNat-(intOf a).toNat)
 case atStart=>exact⟨0,n,rfl,rfl,by omega,hj,by omega,B0,HB0⟩
 case round=>
  clear B0 HB0;obtain⟨l,r,rfl,rfl,hl,hr,hrm,BR,HB⟩:=hrel;have hPl:w.heap.size<wr.heap.size:=BR.lt
  by_cases hlr:l<r
  · have hlI:(l:Int)<r:=by omega
    have hrI:(r:Int)≤200:=by omega
    obtain⟨hf,hh0⟩:∃h:Nat,h=(l+r) / 2:=⟨_,rfl⟩;have hhI:((l:Int)+(r:Int)) / 2=(hf:Int):=by omega
    have hh:l≤hf∧hf<r:=by omega
    clear hh0;obtain⟨A,off,rfl,hA,q0,q1,q2,q3,q4,q5,q6,q7,q8,q9,q10,q11,q12,_⟩:=HS.out.step HB hf (by omega);go_upto_region 5 with fail;refine bs5 (n:=n) (cap:=cap) (A:=A) (off:=off) (c:=hf) (m:=L hf) (mc:=(S hf).2) (P:=w.heap.size) (eo:=(S hf).1) (x:=(q hf).1) (y:=(q hf).2.1) (z:=(q hf).2.2) (u:=p.1) (vv:=p.2.1) (t:=p.2.2) (by omega) (by omega) (HQ.out hf (by omega)) hp rfl rfl rfl rfl q0 hA q1 hA q2 hA q3 hA q4 hA q5 hA q6 hA q7 hA q8 hA q9 hA q10 hA q11 hA q12 hA (BR.c 0 rfl) hPl (BR.c 1 rfl) hPl (BR.c 2 rfl) hPl (BR.c 3 rfl) hPl (BR.c 4 rfl) hPl (BR.c 5 rfl) hPl (BR.c 6 rfl) hPl (BR.c 7 rfl) hPl (BR.c 8 rfl) hPl (BR.c 9 rfl) hPl (BR.c 10 rfl) hPl (BR.c 11 rfl) hPl rfl ?_;rintro⟨tm,df⟩ Wz hz hdf hoff hx hBz;simp only at hz hdf hoff hx;change tm.getD 31 undef= .bool (decide (ordP (q hf) p<0)) at hx;subst hdf;have htm:=tmps_fold [24,25,26,27,28,29,30,31] tm _ hz hoff;simp only[List.foldl,List.setIfInBounds_toArray,List.set_cons_zero,List.set_cons_succ,hx] at htm;clear hz hoff;generalize tm.getD 24 undef=u0,tm.getD 25 undef=u1,tm.getD 26 undef=u2,tm.getD 27 undef=u3,tm.getD 28 undef=u4,tm.getD 29 undef=u5,tm.getD 30 undef=u6 at htm;clear hx;subst htm;replace HB:=HB.trans (hBz.mono HB.size);replace BR:=BR.step hBz;clear hBz hA q0 q1 q2 q3 q4 q5 q6 q7 q8 q9 q10 q11 q12
    by_cases hx:ordP (q hf) p<0
    · have hd:decide (ordP (q hf) p<0)=true:=decide_eq_true hx;have hfj:Hid (hf<j):=Nat.lt_of_not_le fun hle=>by have:=HP.out.hi hf hle (by omega);omega
      rw[hd];clear hd hx;go_wp2;go_roundw
      case rel=>exact⟨hf+1,r,by go_num,rfl,hfj.out,hr,hrm,BR,HB⟩
      case measure=>simp[intOf];omega
    · have hd:decide (ordP (q hf) p<0)=false:=decide_eq_false hx;have hfj:Hid (j≤hf):=Nat.le_of_not_lt fun hlt=>hx (HP.out.lo hf hlt);rw[hd];clear hd hx;go_wp2;go_roundw
      case rel=>exact⟨l,hf,rfl,rfl,hl,hfj.out,by omega,BR,HB⟩
      case measure=>simp[intOf];omega
  · obtain rfl:l=j:=by omega
    obtain rfl:r=l:=by omega
    by_cases hlm:r<n
    · have hlI:(r:Int)<n:=by omega
      obtain⟨A,off,rfl,hA,q0,q1,q2,q3,q4,q5,q6,q7,q8,q9,q10,q11,q12,_⟩:=HS.out.step HB r hlm;have hth:Hid (decide (ordP (q r) p=0)=th):=by
       show _=_;cases th with
       | true=>
        have e:=(HP.out.t1 rfl).2;exact decide_eq_true ((ord_zero (HQ.out r hlm) hp).2 ⟨by rw[e],by rw[e],by rw[e]⟩)
       | false=>exact decide_eq_false (by have:=(HP.out.t0 rfl hlm).1;omega)
      go_upto_region 8 with fail;refine bs8 (n:=n) (cap:=cap) (A:=A) (off:=off) (c:=r) (m:=L r) (mc:=(S r).2) (P:=w.heap.size) (eo:=(S r).1) (x:=(q r).1) (y:=(q r).2.1) (z:=(q r).2.2) (u:=p.1) (vv:=p.2.1) (t:=p.2.2) hlm hn (HQ.out r hlm) hp rfl rfl rfl rfl rfl q0 hA q1 hA q2 hA q3 hA q4 hA q5 hA q6 hA q7 hA q8 hA q9 hA q10 hA q11 hA q12 hA (BR.c 0 rfl) hPl (BR.c 1 rfl) hPl (BR.c 2 rfl) hPl (BR.c 3 rfl) hPl (BR.c 4 rfl) hPl (BR.c 5 rfl) hPl (BR.c 6 rfl) hPl (BR.c 7 rfl) hPl (BR.c 8 rfl) hPl (BR.c 9 rfl) hPl (BR.c 10 rfl) hPl (BR.c 11 rfl) hPl rfl ?_;rintro⟨tm,df⟩ Wz hz hdf hoff h6 h7 hBz;simp only at hz hdf hoff h6 h7;change tm.getD 6 undef= .int .i64 (r:Int) at h6;change tm.getD 7 undef= .bool (decide (ordP (q r) p=0)) at h7;rw[hth.out] at h7;subst hdf;have htm:=tmps_fold [35,36,37,38,39,40,41,42,43,44,45,46,47,48,6,7] tm _ hz hoff;simp only[List.foldl,List.setIfInBounds_toArray,List.set_cons_zero,List.set_cons_succ,h6,h7] at htm;clear hz hoff;generalize tm.getD 35 undef=u0,tm.getD 36 undef=u1,tm.getD 37 undef=u2,tm.getD 38 undef=u3,tm.getD 39 undef=u4,tm.getD 40 undef=u5,tm.getD 41 undef=u6,tm.getD 42 undef=u7,tm.getD 43 undef=u8,tm.getD 44 undef=u9,tm.getD 45 undef=u10,tm.getD 46 undef=u11,tm.getD 47 undef=u12,tm.getD 48 undef=u13 at htm;clear h6 h7;subst htm;replace HB:=HB.trans (hBz.mono HB.size);clear hBz hA q0 q1 q2 q3 q4 q5 q6 q7 q8 q9 q10 q11 q12;go_wp2;refine bodyPost_ret (v:= .tuple #[.int .i64 (r:Int),.bool th]) (by simp[results,Tryz.results21,go_sem]) rfl ?_;exact⟨rfl,HB⟩
    · obtain rfl:r=n:=by omega
      have htf:th=false:=by cases th with | false=>rfl | true=>have:=(HP.out.t1 rfl).1;omega
      subst htf;go_upto_region 8 with fail;refine bs8n (n:=r) rfl rfl rfl ?_;rintro⟨tm,df⟩ Wz hz hdf hoff h6 h7 hBz;simp only at hz hdf hoff h6 h7;change tm.getD 6 undef= .int .i64 (r:Int) at h6;change tm.getD 7 undef= .bool false at h7;subst hdf;have htm:=tmps_fold [35,36,37,38,39,40,41,42,43,44,45,46,47,48,6,7] tm _ hz hoff;simp only[List.foldl,List.setIfInBounds_toArray,List.set_cons_zero,List.set_cons_succ,h6,h7] at htm;clear hz hoff;generalize tm.getD 35 undef=u0,tm.getD 36 undef=u1,tm.getD 37 undef=u2,tm.getD 38 undef=u3,tm.getD 39 undef=u4,tm.getD 40 undef=u5,tm.getD 41 undef=u6,tm.getD 42 undef=u7,tm.getD 43 undef=u8,tm.getD 44 undef=u9,tm.getD 45 undef=u10,tm.getD 46 undef=u11,tm.getD 47 undef=u12,tm.getD 48 undef=u13 at htm;clear h6 h7;subst htm;replace HB:=HB.trans (hBz.mono HB.size);clear hBz;go_wp2;refine bodyPost_ret (v:= .tuple #[.int .i64 (r:Int),.bool false]) (by simp[results,Tryz.results21,go_sem]) rfl ?_;exact⟨rfl,HB⟩
theorem cmpNaN_any (a:Int) (w:World):Calls Tryz.prog 78 #[.int .i64 a] w (VP (.bool false) w):=by
 go_enter Tryz.func78,Tryz.ntmps78
 go_wp2;go_ret;exact⟨rfl,Below.refl _ _⟩
theorem slNaN_any (a:Int) (w:World):Calls Tryz.prog 51 #[.int .i64 a] w (VP (.bool false) w):=by
 go_enter Tryz.func51,Tryz.ntmps51
 go_wp2;go_ret;exact⟨rfl,Below.refl _ _⟩
theorem cmpLess_any (a b:Int) (w:World):Calls Tryz.prog 50 #[.int .i64 a,.int .i64 b] w (VP (.bool (decide (a<b))) w):=by
 go_enter Tryz.func50,Tryz.ntmps50
 go_wp2_with fail;refine(cmpNaN_any a _).mono ?_;rintro r w1 ⟨rfl,hB⟩;go_wp2;go_ret;exact⟨rfl,hB⟩
theorem binSearch_any (ao:Option Addr) (m cap j:Nat) (e:Nat→Int) (x:Int) (tw:Bool) (hm:m≤1048576) (hj:j≤m) (hlo:∀i,i<j→e i<x) (htw:tw=true→j<m∧e j=x) (hnt:tw=false→j<m→x<e j) (hhi:∀i,j<i→i<m→x<e i) (w:World) (hS:NoIn w ao m e):Calls Tryz.prog 25 #[.slice ao m cap,.int .i64 x] w (VP (.tuple #[.int .i64 (j:Int),.bool tw]) w):=by
 have HS:Hid (NoIn w ao m e):=hS;have HX:Hid ((∀i,i<j→e i<x)∧(tw=true→j<m∧e j=x)∧(tw=false→j<m→x<e j)∧(∀i,j<i→i<m→x<e i)):=⟨hlo,htw,hnt,hhi⟩;clear hS hlo htw hnt hhi;have hmI:(m:Int)≤1048576:=by omega
 go_enter Tryz.func25,Tryz.ntmps25
 go_wp2_with fail
 go_loopw [7,8] (fun a b wr=>∃l r:Nat,a= .int .i64 l∧b= .int .i64 r∧l≤j∧j≤r∧r≤m∧Below w.heap.size w wr) (fun a b _=>(intOf b).toNat-(intOf a).toNat)
 case atStart=>exact⟨0,m,rfl,rfl,by omega,hj,by omega,Below.refl _ _⟩
 case round=>
  obtain⟨l,r,rfl,rfl,hl,hr,hrm,HB⟩:=hrel
  by_cases hlr:l<r
  · have hlI:(l:Int)<r:=by omega
    have hrI:(r:Int)≤1048576:=by omega
    obtain⟨hf,hh0⟩:∃h:Nat,h=(l+r) / 2:=⟨_,rfl⟩;have hhI:((l:Int)+(r:Int)) / 2=(hf:Int):=by omega
    have hh:l≤hf∧hf<r:=by omega
    clear hh0;obtain⟨A,off,rfl,hA,hcell⟩:=HS.out.step HB hf (by omega);have hhm:(hf:Int)<m:=by omega
    have hh2:(hf:Int)≤1048576:=by omega
    go_wp2_with fail;refine(cmpLess_any (e hf) x _).mono ?_;rintro q w1 ⟨rfl,hB⟩;replace HB:=HB.trans (hB.mono HB.size);clear hB hcell
    by_cases hx:e hf<x
    · have hd:decide (e hf<x)=true:=decide_eq_true hx;have hfj:Hid (hf<j):=by
       refine Nat.lt_of_not_le fun hle=>?_
       rcases Nat.eq_or_lt_of_le hle with he | he
       · subst he;cases tw with
         | true=>have:=(HX.out.2.1 rfl).2;omega
         | false=>have:=HX.out.2.2.1 rfl (by omega);omega
       · have:=HX.out.2.2.2 hf he (by omega);omega
      rw[hd];clear hd hx;go_wp2;go_roundw
      case rel=>exact⟨hf+1,r,by go_num,rfl,hfj.out,hr,hrm,HB⟩
      case measure=>simp[intOf];omega
    · have hd:decide (e hf<x)=false:=decide_eq_false hx;have hfj:Hid (j≤hf):=by
       refine Nat.le_of_not_lt fun hlt=>?_;exact hx (HX.out.1 hf hlt)
      rw[hd];clear hd hx;go_wp2;go_roundw
      case rel=>exact⟨l,hf,rfl,rfl,hl,hfj.out,by omega,HB⟩
      case measure=>simp[intOf];omega
  · obtain rfl:l=j:=by omega
    obtain rfl:r=l:=by omega
    by_cases hlm:r<m
    · have hlI:(r:Int)<m:=by omega
      obtain⟨A,off,rfl,hA,hcell⟩:=HS.out.step HB r hlm;cases tw with
      | true=>
       have hx:e r=x:=(HX.out.2.1 rfl).2;subst hx;go_wp2;refine bodyPost_ret (v:= .tuple #[.int .i64 (r:Int),.bool true]) (by simp[results,Tryz.results25,go_sem]) rfl ?_;exact⟨rfl,HB⟩
      | false=>
       have hx:x<e r:=HX.out.2.2.1 rfl hlm;have hne:¬(e r=x):=by omega
       go_wp2_with fail;refine(slNaN_any (e r) _).mono ?_;rintro q w1 ⟨rfl,hB⟩;replace HB:=HB.trans (hB.mono HB.size);go_wp2;refine bodyPost_ret (v:= .tuple #[.int .i64 (r:Int),.bool false]) (by simp[results,Tryz.results25,go_sem,hne]) rfl ?_;exact⟨rfl,HB⟩
    · obtain rfl:r=m:=by omega
      have htf:tw=false:=by cases tw with | false=>rfl | true=>have:=(HX.out.2.1 rfl).1;omega
      subst htf;go_wp2;refine bodyPost_ret (v:= .tuple #[.int .i64 (r:Int),.bool false]) (by simp[results,Tryz.results25,go_sem]) rfl ?_;exact⟨rfl,HB⟩
def InsP (base:Nat) (T:TypeId) (k:Nat) (v:Value) (n i:Nat) (xs vs:List Value) (w:World) (e:Ending) (w' :World):Prop:=
 ∃v',e= .returned v' ∧w'.ownsRow base T k v' (n+1) (xs.take (i*k) ++vs ++xs.drop (i*k))∧w.grownBy w' v.ownBlock∧(v'.ownBlock=v.ownBlock∨v'.ownBlock=some w.heap.size)
theorem ins_list {k n c i:Nat} {cur xs vs:List Value} (hct:cur.take (n*k)=xs) (hvl:vs.length=k) (hcl:cur.length=c*k) (hi:i<n) (hc:n+1≤c) :
 ((((cur.take ((i+1)*k) ++xs.drop (i*k) ++cur.drop ((i+1)*k+(xs.drop (i*k)).length)).toArray.toList.take (i*k) ++vs ++(cur.take ((i+1)*k) ++xs.drop (i*k) ++cur.drop ((i+1)*k+(xs.drop (i*k)).length)).toArray.toList.drop (i*k+vs.length)).toArray.toList).take ((n+1)*k))=xs.take (i*k) ++vs ++xs.drop (i*k):=by
 have m1:(i+1)*k=i*k+k:=Nat.succ_mul i k;have m2:(n+1)*k=n*k+k:=Nat.succ_mul n k;have m3:i*k+k≤n*k:=by rw[←m1];exact Nat.mul_le_mul_right k hi
 have m4:n*k+k≤c*k:=by rw[←m2];exact Nat.mul_le_mul_right k hc
 have hxl:xs.length=n*k:=by rw[←hct,List.length_take];omega
 have hdl:(xs.drop (i*k)).length=n*k-i*k:=by rw[List.length_drop,hxl]
 simp only[hdl,hvl,m1,m2];have e1:(cur.take (i*k+k) ++xs.drop (i*k) ++cur.drop (i*k+k+(n*k-i*k))).take (i*k)=xs.take (i*k):=by
  rw[List.append_assoc,List.take_append_of_le_length (by rw[List.length_take];omega),List.take_take,←hct,List.take_take]
  congr 1
  omega
 have e2:(cur.take (i*k+k) ++xs.drop (i*k) ++cur.drop (i*k+k+(n*k-i*k))).drop (i*k+k)=xs.drop (i*k) ++cur.drop (i*k+k+(n*k-i*k)):=by
  rw[List.append_assoc,List.drop_append_of_le_length (by rw[List.length_take];omega),List.drop_of_length_le (by rw[List.length_take];omega),List.nil_append]
 rw[e1,e2,←List.append_assoc,List.take_append_of_le_length (by rw[List.length_append,List.length_append,hdl,hvl,List.length_take,hxl];omega),List.take_of_length_le (by rw[List.length_append,List.length_append,hdl,hvl,List.length_take,hxl];omega)]
theorem ins_list2 {k n i:Nat} {row xs vs:List Value} (hrt:row.take (i*k)=xs.take (i*k)) (hvl:vs.length=k) (hxl:xs.length=n*k) (hi:i<n) :
 (((row.take (i*k) ++vs ++row.drop (i*k+vs.length)).toArray.toList.take ((i+1)*k) ++xs.drop (i*k) ++(row.take (i*k) ++vs ++row.drop (i*k+vs.length)).toArray.toList.drop ((i+1)*k+(xs.drop (i*k)).length)).toArray.toList).take ((n+1)*k)=xs.take (i*k) ++vs ++xs.drop (i*k):=by
 have m1:(i+1)*k=i*k+k:=Nat.succ_mul i k;have m2:(n+1)*k=n*k+k:=Nat.succ_mul n k;have m3:i*k+k≤n*k:=by rw[←m1];exact Nat.mul_le_mul_right k hi
 have hdl:(xs.drop (i*k)).length=n*k-i*k:=by rw[List.length_drop,hxl]
 have htl:(xs.take (i*k)).length=i*k:=by rw[List.length_take,hxl];omega
 simp only[hdl,hvl,m1,m2,hrt];have e1:(xs.take (i*k) ++vs ++row.drop (i*k+k)).take (i*k+k)=xs.take (i*k) ++vs:=by
  rw[List.take_append_of_le_length (by rw[List.length_append,htl,hvl];omega),List.take_of_length_le (by rw[List.length_append,htl,hvl];omega)]
 rw[e1,List.take_append_of_le_length (by rw[List.length_append,List.length_append,hdl,htl,hvl];omega),List.take_of_length_le (by rw[List.length_append,List.length_append,hdl,htl,hvl];omega)]
open Go.Lib in
theorem copy_rowK {P:Program} (w:World) (dT sT ty elem:TypeId) (k g o dLen dCap:Nat) (a:Addr) (sLen sCap:Nat) (cur:Array Value) (t:TypeId) (cs:List Value)
 (hu:P.underlying dT=some (.slice elem)) (hs:(P.info? elem).map (·.size)=some k)
 (hg:w.heap[g]? =some (.cells cur t (0,0))) (hn:cs.length=Nat.min sLen dLen*k)
 (hsrc:∀j v,cs[j]? =some v→w.cell? (a.add j)=some v) (hfit:o+cs.length≤cur.size) (h1:∀v∈cs,v.oneCell' =true) :
 (Builtin.copy_ #[dT,sT] ty #[.slice (some ⟨g,o,none⟩) dLen dCap,.slice (some a) sLen sCap]).run P w =
  .ok (goInt (Nat.min sLen dLen)) (w.setRow g (cur.toList.take o ++cs ++cur.toList.drop (o+cs.length)).toArray):=by
 have hl:=run_loadCells_list (P:=P) w a cs hsrc;have hst:=run_storeCells_at P g o t cs 0 cur w hg (by simpa using hfit) h1;cases hq:P.info? elem with
 | none=>simp[hq] at hs
 | some i=>
  have hi:i.size=k:=by simpa [hq] using hs
  simp[Builtin.copy_,run_underlying hu,Builtin.lenOf,Builtin.firstCells,sizeOf,typeInfo,hq,hi,←hn,hl,hst]
open Go.Lib in
theorem insENo_any (base n vb:Nat) (v:Value) (xs vs:List Value) (w:World) (hn:n≤1048576) (hb:base≤w.heap.size) (hO:w.ownsRow base 2 1 v n xs) (hv:w.heap[vb]? =some (.cells vs.toArray 2 (0,0))) (hvl:vs.length=1) (h1v:∀v∈vs,v.oneCell' =true):Calls Tryz.prog 26 #[v,.int .i64 (n:Int),.slice (some ⟨vb,0,none⟩) 1 1] w (InsP base 2 1 v n n xs vs w):=by
 obtain⟨i0,hi0,hz0,hzs,hzb⟩:=info_parts Tryz.infoNo;have hxl:=hO.1;have hvw:∀j v,vs[j]? =some v→w.cell? ⟨vb,0+j,none⟩=some v:=fun j v hj=>by
  rw[Nat.zero_add]
  simp[World.cell?,hv,hj]
 have hnI:(n:Int)≤1048576:=by omega
 rcases hO.2 with ⟨rfl,rfl⟩ | ⟨b,c,cur,rfl,_,_,hnc,_,_⟩
 · clear hnI hv
   go_enter Tryz.func26,Tryz.ntmps26
   go_wp2_with (at_builtin;refine wpList_append_own_at _ rfl _ _ 35 rfl base 2 i0 (.int .i64 0) 1 8 Tryz.underlying35 hi0 hz0 hzs hzb rfl (by decide) _ _ _ rfl hO ⟨vb,0,none⟩ 1 1 vs rfl (by rw[hvl]) (fun j v hj=>by rw[Addr.add_lit];exact hvw j v hj) h1v (by unfold maxLen;omega) (by omega) (by omega) ?_)
   all_goals
    intro v' w' hown hgrow _ hob;go_wp2;go_ret;refine⟨v',rfl,?_,hgrow,hob⟩;rw[show xs.take (0*1)=xs from List.take_of_length_le (by omega),show xs.drop (0*1)=[] from List.drop_of_length_le (by omega),List.append_nil];exact hown
 · clear hv
   go_enter Tryz.func26,Tryz.ntmps26
   go_wp2_with (at_builtin;refine wpList_append_own_at _ rfl _ _ 35 rfl base 2 i0 (.int .i64 0) 1 8 Tryz.underlying35 hi0 hz0 hzs hzb rfl (by decide) _ _ _ rfl hO ⟨vb,0,none⟩ 1 1 vs rfl (by rw[hvl]) (fun j v hj=>by rw[Addr.add_lit];exact hvw j v hj) h1v (by unfold maxLen;omega) (by omega) (by omega) ?_)
   all_goals
    intro v' w' hown hgrow _ hob;go_wp2;go_ret;refine⟨v',rfl,?_,hgrow,hob⟩;rw[show xs.take (n*1)=xs from List.take_of_length_le (by omega),show xs.drop (n*1)=[] from List.drop_of_length_le (by omega),List.append_nil];exact hown
open Go.Lib in
theorem insNo_any (base b n c i vb:Nat) (xs vs:List Value) (w:World) (hi:i<n) (hn:n≤1048576) (hO:w.ownsRow base 2 1 (.slice (some ⟨b,0,none⟩) n c) n xs) (hv:w.heap[vb]? =some (.cells vs.toArray 2 (0,0))) (hvl:vs.length=1) (hvb:vb≠b) (h1v:∀v∈vs,v.oneCell' =true) (h1x:∀v∈xs,v.oneCell' =true):Calls Tryz.prog 26 #[.slice (some ⟨b,0,none⟩) n c,.int .i64 (i:Int),.slice (some ⟨vb,0,none⟩) 1 1] w (InsP base 2 1 (.slice (some ⟨b,0,none⟩) n c) n i xs vs w):=by
 obtain⟨i0,hi0,hz0,hzs,hzb⟩:=info_parts Tryz.infoNo;obtain⟨hxl,hcase⟩:=hO
 rcases hcase with ⟨e,_⟩ | ⟨g,cap,cur,e,hbg,hg,hnc,hcm,hcs,hct⟩
 · cases e
 cases e;have hvw:∀j v,vs[j]? =some v→w.cell? ⟨vb,0+j,none⟩=some v:=fun j v hj=>by
  rw[Nat.zero_add]
  simp[World.cell?,hv,hj]
 have hbw:b<w.heap.size:=(Array.getElem?_eq_some_iff.1 hg).1;have hvw2:vb<w.heap.size:=(Array.getElem?_eq_some_iff.1 hv).1;have hz2:¬((i:Int)=(n:Int)):=by omega
 have hltI:(i:Int)<(n:Int):=by omega
 have hnI:(n:Int)≤1048576:=by omega
 have hsz:(Tryz.prog.info? 2).map (·.size)=some 1:=by rw[hi0];simp[hzs]
 have hxc:∀j v,xs[j]? =some v→w.cell? ⟨b,j,none⟩=some v:=fun j v hj=>by
  rw[←hct] at hj;rw[List.getElem?_take] at hj
  split at hj
  · simp[World.cell?,hg];simpa using hj
  · cases hj
 by_cases hroom:n+1≤c
 · have hroomI:(n:Int)+1≤(c:Int):=by omega
   have hc63:c≤9223372036854775807:=by have:=hcm;unfold maxLen at this;omega
   have hci:¬(c=i):=by omega
   have hci1:¬(c=i+1):=by omega
   have hov:∀(A:Addr) lb cb,A.block=b→(callFunc 52 #[.slice (some ⟨vb,0,none⟩) 1 1,.slice (some A) lb cb]).run Tryz.prog w= .ok (.value (.bool false)) w:=fun A lb cb hA=>by
    rw[run_callFunc_extern Tryz.func52 (by kernel_rfl) (by kernel_rfl) (by kernel_rfl) (e:=Extern.SlicesOverlaps.overlaps #[35,35] #[4]) (by kernel_rfl),
     Lib.run_overlaps_apart w 35 4 2 Tryz.underlying35 1 Tryz.sizeOf2 ⟨vb,0,none⟩ A 1 1 lb cb (by rw[hA];exact hvb) 2 2 1 (c*1) (by simp[World.shape?,hv,hvl]) (by rw[hA];simp[World.shape?,hg,hcs]) (by omega) (by simp[World.frozen?,hv]) (by simp[World.frozen?,hv])]
    rfl
   have hov1:=fun lb cb=>hov ⟨b,i+1,none⟩ lb cb rfl;clear hov
   go_enter Tryz.func26,Tryz.ntmps26
   obtain⟨C1,hC1⟩:∃C1:Array Value,C1=(cur.toList.take (i+1) ++xs.drop (i) ++cur.toList.drop (i+1+(xs.drop (i)).length)).toArray:=⟨_,rfl⟩;have hdl:(xs.drop (i)).length=(n-i)*1:=by rw[List.length_drop,hxl];omega
   have hcp1:∀ty dc sc,(Builtin.copy_ #[35,35] ty #[.slice (some ⟨b,i+1,none⟩) (n-i) dc,.slice (some ⟨b,i,none⟩) (n+1-i) sc]).run Tryz.prog w.drew= .ok (goInt (Nat.min (n+1-i) (n-i))) (w.drew.setRow b C1):=fun ty dc sc=>by
    rw[hC1];exact copy_rowK w.drew 35 35 ty 2 1 b (i+1) (n-i) dc ⟨b,i,none⟩ (n+1-i) sc cur 2 (xs.drop (i)) Tryz.underlying35 hsz hg (by rw[hdl,show Nat.min (n+1-i) (n-i)=n-i from Nat.min_eq_right (by omega)])
     (fun j v hj=>by rw[Addr.add_lit];exact hxc _ v (by rwa [List.getElem?_drop] at hj)) (by rw[hdl,hcs];omega) (fun v hv=>h1x v (List.mem_of_mem_drop hv))
   have hC1s:C1.size=c*1:=by rw[hC1];simp[hxl,hcs];omega
   obtain⟨C2,hC2⟩:∃C2:Array Value,C2=(C1.toList.take (i) ++vs ++C1.toList.drop (i+vs.length)).toArray:=⟨_,rfl⟩;have hcp2:∀(W:World),W.heap=(w.setRow b C1).heap→∀ty dc,(Builtin.copy_ #[35,35] ty #[.slice (some ⟨b,i,none⟩) (n+1-i) dc,.slice (some ⟨vb,0,none⟩) 1 1]).run Tryz.prog W= .ok (goInt (Nat.min 1 (n+1-i))) (W.setRow b C2):=fun W hW ty dc=>by
    rw[hC2];exact copy_rowK W 35 35 ty 2 1 b (i) (n+1-i) dc ⟨vb,0,none⟩ 1 1 C1 2 vs Tryz.underlying35 hsz (by rw[hW];exact setRow_heap w b cur C1 _ _ hg) (by rw[hvl,show Nat.min 1 (n+1-i)=1 from Nat.min_eq_left (by omega)])
     (fun j v hj=>by
      rw[Addr.add_lit];have:=hvw j v hj;rw[←this];exact World.cell?_of_block (w:=w) (a:=⟨vb,0+j,none⟩) (by show W.heap[vb]? =_;rw[hW];exact setRow_other w b vb C1 hvb)) (by rw[hvl,hC1s];omega) h1v
   have HF:Hid (C2.toList.take ((n+1)*1)=xs.take (i*1) ++vs ++xs.drop (i*1)∧C2.size=c*1):=by
    refine⟨?_,?_⟩
    · rw[hC2,hC1];have h:=ins_list (k:=1) (n:=n) (c:=c) (i:=i) (cur:=cur.toList) (xs:=xs) (vs:=vs) hct hvl (by simpa using hcs) (by omega) hroom
      first | exact h | (simp only[Nat.mul_one] at h⊢;exact h)
    · rw[hC2]
      simp[hvl,hC1s]
      omega
   clear hC1 hC2 hxc hvw hct;have mixed:Tryz.prog.follows Departure.mixedOrders=true:=by kernel_rfl
   have hw1:IntKind.i64.wrap ((i:Int)+1)=(i:Int)+1:=by rw[IntKind.wrap_i64];omega
   have hb1:(0:Int)≤(i:Int)+1:=by omega
   have htn:((i:Int)+1).toNat=i+1:=by omega
   have hb3:(i:Int)+1≤(n:Int)+1:=by omega
   have hb5:(i:Int)≤(n:Int)+1:=by omega
   go_wp2_with (simp only[hov1])
   go_region_law_o (refine step_copy_runI rfl _ _ 35 35 rfl (.slice (some ⟨b,i+1,none⟩) (n-i) (c-(i+1))) (.slice (some ⟨b,i,none⟩) (n+1-i) (c-i)) (by simp[Act.eval,Act.put]) (by simp[Act.eval,Act.put]) (hcp1 _ _ _) ?_)
   have hcp3:=hcp2 (w.drew.setRow b C1) rfl;clear hcp2 hcp1;go_wp2;go_ret;have e1:(w.drew.setRow b C1).heap[b]? =some (.cells C1 2 (0,0)):=setRow_heap w.drew b cur C1 _ _ hg;refine⟨_,rfl,⟨?_,.inr ⟨b,c,C2,rfl,hbg,setRow_heap _ b C1 C2 _ _ e1,hroom,hcm,HF.out.2,HF.out.1⟩⟩,⟨rfl,rfl,rfl,by simp,fun k hk hne=>?_⟩,.inl rfl⟩
   · rw[List.length_append,List.length_append,List.length_take,List.length_drop,hxl,hvl]
     omega
   · have hkb:k≠b:=fun e=>hne (congrArg some e);rw[setRow_other _ b k C2 hkb,setRow_other _ b k C1 hkb]
     rfl
 · obtain⟨G,hG⟩:∃G,G=grownCap w (n+1) c 2:=⟨_,rfl⟩;obtain⟨ROW,hROW⟩:∃ROW:Array Value,ROW=(xs.take (i)).toArray ++Builtin.zeroCells (.int .i64 0:Value).cells (n+1-i) ++Builtin.zeroCells (.int .i64 0:Value).cells (G-(n+1)):=⟨_,rfl⟩;have hGn:n+1≤G:=by rw[hG];exact grownCap_ge w _ _ _
   have hGm:G≤maxLen:=by rw[hG];exact grownCap_le_maxLen w (n+1) c 2 (by unfold maxLen;omega)
   have hRl:ROW.size=G*1:=by
    rw[hROW]
    simp[Builtin.zeroCells,Value.cells,hxl]
    omega
   have hRt:ROW.toList.take (i)=xs.take (i):=by
    rw[hROW];simp only[Array.toList_append,List.append_assoc];rw[List.take_append_of_le_length (by simp[hxl];omega),List.take_of_length_le (by simp[hxl];omega)]
   have hold:(Builtin.firstCells i0.size i (.slice (some ⟨b,0,none⟩) i c)).run Tryz.prog w.drew= .ok (xs.take (i)).toArray w.drew:=by
    rw[hzs];exact run_firstCells_some w.drew 1 i ⟨b,0,none⟩ i c (xs.take (i)) (by rw[List.length_take,hxl];omega) (fun j v hj=>by
     rw[Addr.add_lit,Nat.zero_add];rw[List.getElem?_take] at hj
     split at hj
     · exact hxc j v hj
     · cases hj)
   have hrz:∀ty,(Builtin.append_ #[35,3] ty #[.slice (some ⟨b,0,none⟩) i c,.int .i64 ((n:Int)+1-(i:Int))]).run Tryz.prog w= .ok (.slice (some ⟨w.heap.size,0,none⟩) (n+1) G) (w.drew.alloc (.cells ROW 2)):=fun ty=>by
    have h:=Lib.run_append_grow_zeros w 35 3 ty 2 i0 _ .i64 .i64 Tryz.underlying35 Tryz.underlying3 hi0 hz0 (some ⟨b,0,none⟩) i c (xs.take (i)) hold (n+1-i) (by omega) (by omega) (by omega) (by omega) (by rw[hzb];omega) (by rw[hzb,show i+(n+1-i)=n+1 by omega];exact growslice_fits (by omega) (by omega));rw[show i+(n+1-i)=n+1 by omega,←hG,←hROW] at h;rw[show(n:Int)+1-(i:Int)=((n+1-i:Nat):Int) by omega];exact h
   obtain⟨R1,hR1⟩:∃R1:Array Value,R1=(ROW.toList.take (i) ++vs ++ROW.toList.drop (i+vs.length)).toArray:=⟨_,rfl⟩;have hR1s:R1.size=G*1:=by rw[hR1];simp[hvl,hRl];omega
   obtain⟨R2,hR2⟩:∃R2:Array Value,R2=(R1.toList.take (i+1) ++xs.drop (i) ++R1.toList.drop (i+1+(xs.drop (i)).length)).toArray:=⟨_,rfl⟩;have hdl:(xs.drop (i)).length=(n-i)*1:=by rw[List.length_drop,hxl];omega
   have hR2s:R2.size=G*1:=by rw[hR2];simp[hxl,hR1s];omega
   have hNw:w.heap.size≠vb:=by omega
   have hNb:w.heap.size≠b:=by omega
   have a1:(w.alloc (.cells ROW 2)).heap[w.heap.size]? =some (.cells ROW 2 (0,0)):=heap_alloc_new w _;have hcpA:∀(W:World),W.heap=(w.alloc (.cells ROW 2)).heap→∀ty dc,(Builtin.copy_ #[35,35] ty #[.slice (some ⟨w.heap.size,i,none⟩) (n+1-i) dc,.slice (some ⟨vb,0,none⟩) 1 1]).run Tryz.prog W= .ok (goInt (Nat.min 1 (n+1-i))) (W.setRow w.heap.size R1):=fun W hW ty dc=>by
    rw[hR1];exact copy_rowK W 35 35 ty 2 1 w.heap.size (i) (n+1-i) dc ⟨vb,0,none⟩ 1 1 ROW 2 vs Tryz.underlying35 hsz (by rw[hW];exact a1) (by rw[hvl,show Nat.min 1 (n+1-i)=1 from Nat.min_eq_left (by omega)])
     (fun j v hj=>by
      rw[Addr.add_lit];have:=hvw j v hj;rw[←this];exact World.cell?_of_block (w:=w) (a:=⟨vb,0+j,none⟩) (by show W.heap[vb]? =_;rw[hW];exact Below.heap_alloc _ _ _ hvw2)) (by rw[hvl,hRl];omega) h1v
   have hcpB:∀(W:World),W.heap=((w.alloc (.cells ROW 2)).setRow w.heap.size R1).heap→∀ty dc sc,(Builtin.copy_ #[35,35] ty #[.slice (some ⟨w.heap.size,i+1,none⟩) (n-i) dc,.slice (some ⟨b,i,none⟩) (n-i) sc]).run Tryz.prog W= .ok (goInt (Nat.min (n-i) (n-i))) (W.setRow w.heap.size R2):=fun W hW ty dc sc=>by
    rw[hR2];exact copy_rowK W 35 35 ty 2 1 w.heap.size (i+1) (n-i) dc ⟨b,i,none⟩ (n-i) sc R1 2 (xs.drop (i)) Tryz.underlying35 hsz (by rw[hW];exact setRow_heap _ w.heap.size ROW R1 _ _ a1) (by rw[hdl,show Nat.min (n-i) (n-i)=n-i from Nat.min_self _])
     (fun j v hj=>by
      rw[Addr.add_lit];have:=hxc (i+j) v (by rwa [List.getElem?_drop] at hj);rw[←this];exact World.cell?_of_block (w:=w) (a:=⟨b,i+j,none⟩) (by show W.heap[b]? =_;rw[hW,setRow_other _ _ _ _ (Ne.symm hNb)];exact Below.heap_alloc _ _ _ hbw)) (by rw[hdl,hR1s];omega) (fun v hv=>h1x v (List.mem_of_mem_drop hv))
   have HF:Hid (R2.toList.take ((n+1)*1)=xs.take (i*1) ++vs ++xs.drop (i*1)):=by
    show _=_;rw[hR2,hR1];have h:=ins_list2 (k:=1) (n:=n) (i:=i) (row:=ROW.toList) (xs:=xs) (vs:=vs) (by first | exact hRt | (simp only[Nat.mul_one];exact hRt)) hvl hxl (by omega)
    first | exact h | (simp only[Nat.mul_one] at h⊢;exact h)
   have hcI:(c:Int)<(n:Int)+1:=by omega
   have hci:¬(c=i):=by omega
   have hGi:¬(G=i):=by omega
   have hGi1:¬(G=i+1):=by omega
   have mixed:Tryz.prog.follows Departure.mixedOrders=true:=by kernel_rfl
   have hw1:IntKind.i64.wrap ((i:Int)+1)=(i:Int)+1:=by rw[IntKind.wrap_i64];omega
   have hb1:(0:Int)≤(i:Int)+1:=by omega
   have htn:((i:Int)+1).toNat=i+1:=by omega
   have hb3:(i:Int)+1≤(n:Int)+1:=by omega
   have hb5:(i:Int)≤(n:Int)+1:=by omega
   have hb6:(i:Int)≤(n:Int):=by omega
   have hG63:G≤9223372036854775807:=by have:=hGm;unfold maxLen at this;omega
   have hA:=hcpA (w.alloc (.cells ROW 2)).drew rfl;have hB:=hcpB ((w.alloc (.cells ROW 2)).drew.setRow w.heap.size R1).drew rfl;clear hROW hG hR1 hR2 hRt hold hxc hvw hct a1 hcpA hcpB
   go_enter Tryz.func26,Tryz.ntmps26
   go_wp2_with (at_builtin;refine Lib.wpList_append_run _ rfl _ _ _ _ rfl _ _ rfl rfl _ _ (hrz _) ?_)
   go_region_law_o (refine step_copy_runI rfl _ _ 35 35 rfl (.slice (some ⟨w.heap.size,i+1,none⟩) (n-i) (G-(i+1))) (.slice (some ⟨b,i,none⟩) (n-i) (c-i)) (by simp[Act.eval,Act.put]) (by simp[Act.eval,Act.put]) (hB _ _ _) ?_)
   go_wp2;go_ret;have e0:(w.alloc (.cells ROW 2)).drew.heap[w.heap.size]? =some (.cells ROW 2 (0,0)):=heap_alloc_new w _;have e1:((w.alloc (.cells ROW 2)).drew.setRow w.heap.size R1).drew.heap[w.heap.size]? =some (.cells R1 2 (0,0)):=setRow_heap (w.alloc (.cells ROW 2)).drew w.heap.size ROW R1 _ _ e0;refine⟨_,rfl,⟨?_,.inr ⟨w.heap.size,G,R2,rfl,by omega,setRow_heap _ w.heap.size R1 R2 _ _ e1,hGn,hGm,hR2s,HF.out⟩⟩,⟨rfl,rfl,rfl,by simp,fun k hk hne=>?_⟩,.inr rfl⟩
   · rw[List.length_append,List.length_append,List.length_take,List.length_drop,hxl,hvl]
     omega
   · rw[setRow_other _ w.heap.size k R2 (by omega)];show((w.alloc (.cells ROW 2)).drew.setRow w.heap.size R1).heap[k]? =_;rw[setRow_other _ w.heap.size k R1 (by omega)];exact Below.heap_alloc w _ _ hk
end Go.Proofs.YtbogliojkabbjaaGreat
