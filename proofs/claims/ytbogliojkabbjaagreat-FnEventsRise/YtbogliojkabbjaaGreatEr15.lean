/- Part 15 of the walks that the proof leans on. -/
import Derived.Test.YtbogliojkabbjaaGreatEr10
import Derived.Test.YtbogliojkabbjaaGreatEr8
import Derived.Test.YtbogliojkabbjaaGreatEr13
import Derived.Test.YtbogliojkabbjaaGreatEr14
set_option maxRecDepth 100000
set_option maxHeartbeats 16000000
namespace Go.Proofs.YtbogliojkabbjaaGreat
open Go.RowKit
def Vsp5 (n cap A off c:Nat) (x y z u vv t:Int) (_B:Nat):Nat→Value→World→Prop
 | 0,v,_=>v= .int .i64 (c:Int)
 | 1,v,_=>v= .slice (some ⟨A,off,none⟩) n cap
 | 2,v,_=>v= .int .i64 (n:Int)
 | 3,v,_=>v= .bool true
 | 4,v,_=>v= .bool true
 | 5,v,_=>v= .slice (some ⟨A,off,none⟩) n cap
 | 6,v,_=>v= .int .i64 (c:Int)
 | 7,v,_=>v= .pointer (some ⟨A,off+c*13,none⟩)
 | 8,v,_=>v= .pointer (some ⟨A,off+c*13,none⟩)
 | 9,v,_=>v=PV x y z
 | 10,v,W=>L3E x y z v W
 | 11,v,_=>v=PV u vv t
 | 12,v,W=>L3E u vv t v W
 | 13,v,_=>v= .int .i64 (ordI x y z u vv t)
 | 14,v,_=>v= .bool (decide (ordI x y z u vv t<0))
 | 15,v,_=>v= .bool (decide (ordI x y z u vv t<0))
 | _,_,_=>True
theorem Vsp5.mono {n cap A off c:Nat} {x y z u vv t:Int} {B j:Nat} {v:Value} {W W2:World} (hB:Below W.heap.size W W2) (h:Vsp5 n cap A off c x y z u vv t B j v W):Vsp5 n cap A off c x y z u vv t B j v W2:=by
 unfold Vsp5 at *
 split<;>simp only at h<;>first | exact h | exact h.step hB | trivial
theorem sp5 {Q:Exit→Act→World→Prop} {n cap A off c:Nat} {x y z u vv t:Int} {P:Nat} {w0:World} {a0:Act} {idq:Nat} {t0 t1 t2 t3 t4 t5 t6 t7 t8 t9 t10 t11 t12 t13 t14 t15:TypeId} {q0 q1 q2 q3 q4 q5 q6 q7 q8 q9 q10 q11 q12 q13 q14 q15:String}
 (hc:c<n) (hn:n≤200) (ta:told x=true) (tb:told y=true) (tc:told z=true) (ua:told u=true) (ub:told vv=true) (uc:told t=true) (h4:a0.tmps[4]? =some (.pointer (some ⟨P,0,none⟩))) (h8:a0.tmps[8]? =some (.slice (some ⟨A,off,none⟩) n cap)) (h9:a0.tmps[9]? =some (.int .i64 (c:Int))) (k0:w0.cell? ⟨A,off+c*13,none⟩=some (.int .u64 (ww3 x))) (l0:(⟨A,off+c*13,none⟩:Addr).block<w0.heap.size) (k1:w0.cell? ⟨A,off+c*13+1,none⟩=some (.int .u64 (ww2 x))) (l1:(⟨A,off+c*13+1,none⟩:Addr).block<w0.heap.size) (k2:w0.cell? ⟨A,off+c*13+2,none⟩=some (.int .u64 (ww1 x))) (l2:(⟨A,off+c*13+2,none⟩:Addr).block<w0.heap.size) (k3:w0.cell? ⟨A,off+c*13+3,none⟩=some (.int .u64 (ww0 x))) (l3:(⟨A,off+c*13+3,none⟩:Addr).block<w0.heap.size) (k4:w0.cell? ⟨A,off+c*13+4,none⟩=some (.int .u64 (ww3 y))) (l4:(⟨A,off+c*13+4,none⟩:Addr).block<w0.heap.size) (k5:w0.cell? ⟨A,off+c*13+5,none⟩=some (.int .u64 (ww2 y))) (l5:(⟨A,off+c*13+5,none⟩:Addr).block<w0.heap.size) (k6:w0.cell? ⟨A,off+c*13+6,none⟩=some (.int .u64 (ww1 y))) (l6:(⟨A,off+c*13+6,none⟩:Addr).block<w0.heap.size) (k7:w0.cell? ⟨A,off+c*13+7,none⟩=some (.int .u64 (ww0 y))) (l7:(⟨A,off+c*13+7,none⟩:Addr).block<w0.heap.size) (k8:w0.cell? ⟨A,off+c*13+8,none⟩=some (.int .u64 (ww3 z))) (l8:(⟨A,off+c*13+8,none⟩:Addr).block<w0.heap.size) (k9:w0.cell? ⟨A,off+c*13+9,none⟩=some (.int .u64 (ww2 z))) (l9:(⟨A,off+c*13+9,none⟩:Addr).block<w0.heap.size) (k10:w0.cell? ⟨A,off+c*13+10,none⟩=some (.int .u64 (ww1 z))) (l10:(⟨A,off+c*13+10,none⟩:Addr).block<w0.heap.size) (k11:w0.cell? ⟨A,off+c*13+11,none⟩=some (.int .u64 (ww0 z))) (l11:(⟨A,off+c*13+11,none⟩:Addr).block<w0.heap.size) (k12:w0.cell? ⟨P,0,none⟩=some (.int .u64 (ww3 u))) (l12:(⟨P,0,none⟩:Addr).block<w0.heap.size) (k13:w0.cell? ⟨P,1,none⟩=some (.int .u64 (ww2 u))) (l13:(⟨P,1,none⟩:Addr).block<w0.heap.size) (k14:w0.cell? ⟨P,2,none⟩=some (.int .u64 (ww1 u))) (l14:(⟨P,2,none⟩:Addr).block<w0.heap.size) (k15:w0.cell? ⟨P,3,none⟩=some (.int .u64 (ww0 u))) (l15:(⟨P,3,none⟩:Addr).block<w0.heap.size) (k16:w0.cell? ⟨P,4,none⟩=some (.int .u64 (ww3 vv))) (l16:(⟨P,4,none⟩:Addr).block<w0.heap.size) (k17:w0.cell? ⟨P,5,none⟩=some (.int .u64 (ww2 vv))) (l17:(⟨P,5,none⟩:Addr).block<w0.heap.size) (k18:w0.cell? ⟨P,6,none⟩=some (.int .u64 (ww1 vv))) (l18:(⟨P,6,none⟩:Addr).block<w0.heap.size) (k19:w0.cell? ⟨P,7,none⟩=some (.int .u64 (ww0 vv))) (l19:(⟨P,7,none⟩:Addr).block<w0.heap.size) (k20:w0.cell? ⟨P,8,none⟩=some (.int .u64 (ww3 t))) (l20:(⟨P,8,none⟩:Addr).block<w0.heap.size) (k21:w0.cell? ⟨P,9,none⟩=some (.int .u64 (ww2 t))) (l21:(⟨P,9,none⟩:Addr).block<w0.heap.size) (k22:w0.cell? ⟨P,10,none⟩=some (.int .u64 (ww1 t))) (l22:(⟨P,10,none⟩:Addr).block<w0.heap.size) (k23:w0.cell? ⟨P,11,none⟩=some (.int .u64 (ww0 t))) (l23:(⟨P,11,none⟩:Addr).block<w0.heap.size) (hz:a0.tmps.size=89)
 (hQ:∀aq W,aq.tmps.size=a0.tmps.size→aq.defers=a0.defers→(∀e,e∉([26,27,28,29,30,31,32,33,34,35,36,37,38,39,40,41]:List Nat)→aq.tmps[e]? =a0.tmps[e]?)→Vsp5 n cap A off c x y z u vv t w0.heap.size 15 (aq.tmps.getD 41 undef) W→Below w0.heap.size w0 W→Q .normal aq W) :
 (Code.region idq #[⟨some 26,.move (.tmp 9),t0,q0,#[],none⟩,
 ⟨some 27,.move (.tmp 8),t1,q1,#[],none⟩,
 ⟨some 28,.call {callee:= .builtin .len,args:=#[.tmp 27],argTypes:=#[24]},t2,q2,#[⟨1,.data⟩],none⟩,
 ⟨some 29,.binOp .lss 3 (.tmp 26) (.tmp 28) 3,t3,q3,#[⟨0,.data⟩,⟨2,.data⟩],none⟩,
 ⟨some 30,.move (.tmp 29),t4,q4,#[⟨3,.data⟩],none⟩,
 ⟨some 31,.move (.tmp 8),t5,q5,#[⟨4,.guard⟩],some (4,true)⟩,
 ⟨some 32,.move (.tmp 9),t6,q6,#[⟨4,.guard⟩],some (4,true)⟩,
 ⟨some 33,.indexAddr 24 (.tmp 31) (.tmp 32),t7,q7,#[⟨5,.data⟩,⟨6,.data⟩,⟨4,.guard⟩],some (4,true)⟩,
 ⟨some 34,.fieldAddr 37 (.tmp 33) 0,t8,q8,#[⟨7,.data⟩,⟨4,.guard⟩],some (4,true)⟩,
 ⟨some 35,.load 29 (.tmp 34),t9,q9,#[⟨8,.data⟩,⟨4,.guard⟩],some (4,true)⟩,
 ⟨some 36,.call {callee:= .value (.func 32),args:=#[.tmp 35],argTypes:=#[29]},t10,q10,#[⟨9,.data⟩,⟨4,.chain⟩,⟨4,.guard⟩],some (4,true)⟩,
 ⟨some 37,.load 29 (.tmp 4),t11,q11,#[⟨4,.guard⟩],some (4,true)⟩,
 ⟨some 38,.call {callee:= .value (.func 32),args:=#[.tmp 37],argTypes:=#[29]},t12,q12,#[⟨11,.data⟩,⟨10,.chain⟩,⟨4,.guard⟩],some (4,true)⟩,
 ⟨some 39,.call {callee:= .value (.func 31),args:=#[.tmp 36,.tmp 38],argTypes:=#[66,66]},t13,q13,#[⟨10,.data⟩,⟨12,.data⟩,⟨12,.chain⟩,⟨4,.guard⟩],some (4,true)⟩,
 ⟨some 40,.binOp .lss 2 (.tmp 39) (.const (.int .i64 0)) 2,t14,q14,#[⟨13,.data⟩,⟨4,.guard⟩],some (4,true)⟩,
 ⟨some 41,.pick (.tmp 30) (.tmp 40) (.const (.bool false)),t15,q15,#[⟨4,.data⟩,⟨14,.data⟩],none⟩] true).wp Tryz.prog Q a0 w0:=by
 have hS:distS [some 26,some 27,some 28,some 29,some 30,some 31,some 32,some 33,some 34,some 35,some 36,some 37,some 38,some 39,some 40,some 41]=true:=rfl;refine wp_region_q (by kernel_rfl) w0.heap.size [some 26,some 27,some 28,some 29,some 30,some 31,some 32,some 33,some 34,some 35,some 36,some 37,some 38,some 39,some 40,some 41] (Vsp5 n cap A off c x y z u vv t w0.heap.size) rfl ?_ ?_
 · intro Q lq aq W iq oq hJ2 hl ho hall;have z5:=hJ2.b;have g4:=hJ2.a h4
   have g8:=hJ2.a h8
   have g9:=hJ2.a h9
   have c0:=hJ2.c k0 l0;have c1:=hJ2.c k1 l1;have c2:=hJ2.c k2 l2;have c3:=hJ2.c k3 l3;have c4:=hJ2.c k4 l4;have c5:=hJ2.c k5 l5;have c6:=hJ2.c k6 l6;have c7:=hJ2.c k7 l7;have c8:=hJ2.c k8 l8;have c9:=hJ2.c k9 l9;have c10:=hJ2.c k10 l10;have c11:=hJ2.c k11 l11;have c12:=hJ2.c k12 l12;have c13:=hJ2.c k13 l13;have c14:=hJ2.c k14 l14;have c15:=hJ2.c k15 l15;have c16:=hJ2.c k16 l16;have c17:=hJ2.c k17 l17;have c18:=hJ2.c k18 l18;have c19:=hJ2.c k19 l19;have c20:=hJ2.c k20 l20;have c21:=hJ2.c k21 l21;have c22:=hJ2.c k22 l22;have c23:=hJ2.c k23 l23
   clear hQ
   match iq,ho with
   | 0,ho=>
    cases ho;refine wpOp_of rfl rfl ?_;have hK:=hJ2.gO hS 0 26;generalize InvQ _ _ _ _ _ _=K at hK⊢;clear ho hall hl hJ2 hS;go_simp;exact hK _ rfl
   | 1,ho=>
    cases ho;refine wpOp_of rfl rfl ?_;have hK:=hJ2.gO hS 1 27;generalize InvQ _ _ _ _ _ _=K at hK⊢;clear ho hall hl hJ2 hS;go_simp;exact hK _ rfl
   | 2,ho=>
    cases ho;refine wpOp_of rfl rfl ?_;have f1:_=Value.slice (some ⟨A,off,none⟩) n cap:=hJ2.v hall 1 27;have hK:=hJ2.gO hS 2 28;generalize InvQ _ _ _ _ _ _=K at hK⊢;clear ho hall hl hJ2 hS;go_simp;exact hK _ rfl
   | 3,ho=>
    cases ho;refine wpOp_of rfl rfl ?_;have f0:_=Value.int .i64 (c:Int):=hJ2.v hall 0 26;have f2:_=Value.int .i64 (n:Int):=hJ2.v hall 2 28;have hcI:(c:Int)<n:=by omega
    have hnI:(n:Int)≤200:=by omega
    have hK:=hJ2.gO hS 3 29;generalize InvQ _ _ _ _ _ _=K at hK⊢;clear ho hall hl hJ2 hS;go_simp;exact hK _ rfl
   | 4,ho=>
    cases ho;refine wpOp_of rfl rfl ?_;have f3:_=Value.bool true:=hJ2.v hall 3 29;have hK:=hJ2.gO hS 4 30;generalize InvQ _ _ _ _ _ _=K at hK⊢;clear ho hall hl hJ2 hS;go_simp;exact hK _ rfl
   | 5,ho=>
    cases ho;have fg:aq.tmps.getD 30 undef= .bool true:=hJ2.v hall 4 30 .guard;refine wpOp_on rfl rfl rfl rfl fg ?_;have hK:=hJ2.gO hS 5 31;generalize InvQ _ _ _ _ _ _=K at hK⊢;clear ho hall hl hJ2 hS;go_simp;exact hK _ rfl
   | 6,ho=>
    cases ho;have fg:aq.tmps.getD 30 undef= .bool true:=hJ2.v hall 4 30 .guard;refine wpOp_on rfl rfl rfl rfl fg ?_;have hK:=hJ2.gO hS 6 32;generalize InvQ _ _ _ _ _ _=K at hK⊢;clear ho hall hl hJ2 hS;go_simp;exact hK _ rfl
   | 7,ho=>
    cases ho;have fg:aq.tmps.getD 30 undef= .bool true:=hJ2.v hall 4 30 .guard;refine wpOp_on rfl rfl rfl rfl fg ?_;have f5:_=Value.slice (some ⟨A,off,none⟩) n cap:=hJ2.v hall 5 31;have f6:_=Value.int .i64 (c:Int):=hJ2.v hall 6 32;have hcI:(c:Int)<n:=by omega
    have hnI:(n:Int)≤200:=by omega
    have hK:=hJ2.gO hS 7 33;generalize InvQ _ _ _ _ _ _=K at hK⊢;clear ho hall hl hJ2 hS;go_simp;exact hK _ rfl
   | 8,ho=>
    cases ho;have fg:aq.tmps.getD 30 undef= .bool true:=hJ2.v hall 4 30 .guard;refine wpOp_on rfl rfl rfl rfl fg ?_;have f7:_=Value.pointer (some ⟨A,off+c*13,none⟩):=hJ2.v hall 7 33;have hK:=hJ2.gO hS 8 34;generalize InvQ _ _ _ _ _ _=K at hK⊢;clear ho hall hl hJ2 hS;go_simp;exact hK _ rfl
   | 9,ho=>
    cases ho;have fg:aq.tmps.getD 30 undef= .bool true:=hJ2.v hall 4 30 .guard;refine wpOp_on rfl rfl rfl rfl fg ?_;have f8:_=Value.pointer (some ⟨A,off+c*13,none⟩):=hJ2.v hall 8 34;have hK:=hJ2.gO hS 9 35;generalize InvQ _ _ _ _ _ _=K at hK⊢;clear ho hall hl hJ2 hS;go_simp;exact hK _ rfl
   | 10,ho=>
    cases ho;have fg:aq.tmps.getD 30 undef= .bool true:=hJ2.v hall 4 30 .guard;refine wpOp_on rfl rfl rfl rfl fg ?_;have f9:_=PV x y z:=hJ2.v hall 9 35;have hK:=hJ2.go hS 10 36;generalize InvQ _ _ _ _ _ _=K at hK⊢;clear ho hall hl hJ2 hS;go_simp;refine(l3Of_det x y z ta tb tc W).mono ?_;rintro e v1 ⟨s1,o1,n1,m1,e1,s2,o2,n2,m2,e2,s3,o3,n3,m3,e3,rfl,N1,N2,N3,hBv⟩;exact hK _ _ (z5.trans (hBv.mono z5.size)) (fun j v h=>h.mono hBv) ⟨_,_,_,_,_,_,_,_,_,_,_,_,_,_,_,rfl,N1,N2,N3⟩
   | 11,ho=>
    cases ho;have fg:aq.tmps.getD 30 undef= .bool true:=hJ2.v hall 4 30 .guard;refine wpOp_on rfl rfl rfl rfl fg ?_;have hK:=hJ2.gO hS 11 37;generalize InvQ _ _ _ _ _ _=K at hK⊢;clear ho hall hl hJ2 hS;go_simp;exact hK _ rfl
   | 12,ho=>
    cases ho;have fg:aq.tmps.getD 30 undef= .bool true:=hJ2.v hall 4 30 .guard;refine wpOp_on rfl rfl rfl rfl fg ?_;have f11:_=PV u vv t:=hJ2.v hall 11 37;have hK:=hJ2.go hS 12 38;generalize InvQ _ _ _ _ _ _=K at hK⊢;clear ho hall hl hJ2 hS;go_simp;refine(l3Of_det u vv t ua ub uc W).mono ?_;rintro e v1 ⟨s1,o1,n1,m1,e1,s2,o2,n2,m2,e2,s3,o3,n3,m3,e3,rfl,N1,N2,N3,hBv⟩;exact hK _ _ (z5.trans (hBv.mono z5.size)) (fun j v h=>h.mono hBv) ⟨_,_,_,_,_,_,_,_,_,_,_,_,_,_,_,rfl,N1,N2,N3⟩
   | 13,ho=>
    cases ho;have fg:aq.tmps.getD 30 undef= .bool true:=hJ2.v hall 4 30 .guard;refine wpOp_on rfl rfl rfl rfl fg ?_;have f10:L3E x y z (aq.tmps.getD 36 undef) W:=hJ2.v hall 10 36;obtain⟨as1,ao1,an1,ac1,ad1,as2,ao2,an2,ac2,ad2,as3,ao3,an3,ac3,ad3,ae,A1,A2,A3⟩:=f10;have f12:L3E u vv t (aq.tmps.getD 38 undef) W:=hJ2.v hall 12 38;obtain⟨bs1,bo1,bn1,bc1,bd1,bs2,bo2,bn2,bc2,bd2,bs3,bo3,bn3,bc3,bd3,be,B1,B2,B3⟩:=f12;have hK:=hJ2.go hS 13 39;generalize InvQ _ _ _ _ _ _=K at hK⊢;clear ho hall hl hJ2 hS;go_simp;refine(l3Cmp_any as1 as2 as3 ao1 ao2 ao3 an1 ac1 an2 ac2 an3 ac3 bs1 bs2 bs3 bo1 bo2 bo3 bn1 bc1 bn2 bc2 bn3 bc3 ad1 ad2 ad3 bd1 bd2 bd3 x y z u vv t 8 (by omega) W A1 A2 A3 B1 B2 B3).mono ?_;rintro e v1 ⟨rfl,hBv⟩;exact hK _ _ (z5.trans (hBv.mono z5.size)) (fun j v h=>h.mono hBv) rfl
   | 14,ho=>
    cases ho;have fg:aq.tmps.getD 30 undef= .bool true:=hJ2.v hall 4 30 .guard;refine wpOp_on rfl rfl rfl rfl fg ?_;have f13:_=Value.int .i64 (ordI x y z u vv t):=hJ2.v hall 13 39;have hK:=hJ2.gO hS 14 40;generalize InvQ _ _ _ _ _ _=K at hK⊢;clear ho hall hl hJ2 hS;go_simp;exact hK _ rfl
   | 15,ho=>
    cases ho;refine wpOp_of rfl rfl ?_;have f4:_=Value.bool true:=hJ2.v hall 4 30;have f14:_=Value.bool (decide (ordI x y z u vv t<0)):=hJ2.v hall 14 40;have hK:=hJ2.gO hS 15 41;generalize InvQ _ _ _ _ _ _=K at hK⊢;clear ho hall hl hJ2 hS;go_simp;exact hK _ rfl
   | iq+16,ho=>simp at ho
 · intro lq aq W hJ hr;obtain⟨z1,z2,z3,z4,z5,z6,z7⟩:=hJ;have hl:=listed_of hr [0,1,2,3,4,5,6,7,8,9,10,11,12,13,14,15] [] (by simp) (by kernel_rfl) (by rw[z1];decide);exact hQ aq W z2 z3 (fun e he=>z4 e (by simpa using he)) (z6 15 41 (hl 15 (by simp)) rfl) z5
def Vsp5n (n cap:Nat) (ao:Option Addr) (_B:Nat):Nat→Value→World→Prop
 | 0,v,_=>v= .int .i64 (n:Int)
 | 1,v,_=>v= .slice ao n cap
 | 2,v,_=>v= .int .i64 (n:Int)
 | 3,v,_=>v= .bool false
 | 4,v,_=>v= .bool false
 | 5,v,_=>v=undef
 | 6,v,_=>v=undef
 | 7,v,_=>v=undef
 | 8,v,_=>v=undef
 | 9,v,_=>v=undef
 | 10,v,_=>v=undef
 | 11,v,_=>v=undef
 | 12,v,_=>v=undef
 | 13,v,_=>v=undef
 | 14,v,_=>v=undef
 | 15,v,_=>v= .bool false
 | _,_,_=>True
theorem sp5n {Q:Exit→Act→World→Prop} {n cap:Nat} {ao:Option Addr} {w0:World} {a0:Act} {idq:Nat} {t0 t1 t2 t3 t4 t5 t6 t7 t8 t9 t10 t11 t12 t13 t14 t15:TypeId} {q0 q1 q2 q3 q4 q5 q6 q7 q8 q9 q10 q11 q12 q13 q14 q15:String}
 (h8:a0.tmps[8]? =some (.slice ao n cap)) (h9:a0.tmps[9]? =some (.int .i64 (n:Int))) (hz:a0.tmps.size=89)
 (hQ:∀aq W,aq.tmps.size=a0.tmps.size→aq.defers=a0.defers→(∀e,e∉([26,27,28,29,30,31,32,33,34,35,36,37,38,39,40,41]:List Nat)→aq.tmps[e]? =a0.tmps[e]?)→Vsp5n n cap ao w0.heap.size 15 (aq.tmps.getD 41 undef) W→Below w0.heap.size w0 W→Q .normal aq W) :
 (Code.region idq #[⟨some 26,.move (.tmp 9),t0,q0,#[],none⟩,
 ⟨some 27,.move (.tmp 8),t1,q1,#[],none⟩,
 ⟨some 28,.call {callee:= .builtin .len,args:=#[.tmp 27],argTypes:=#[24]},t2,q2,#[⟨1,.data⟩],none⟩,
 ⟨some 29,.binOp .lss 3 (.tmp 26) (.tmp 28) 3,t3,q3,#[⟨0,.data⟩,⟨2,.data⟩],none⟩,
 ⟨some 30,.move (.tmp 29),t4,q4,#[⟨3,.data⟩],none⟩,
 ⟨some 31,.move (.tmp 8),t5,q5,#[⟨4,.guard⟩],some (4,true)⟩,
 ⟨some 32,.move (.tmp 9),t6,q6,#[⟨4,.guard⟩],some (4,true)⟩,
 ⟨some 33,.indexAddr 24 (.tmp 31) (.tmp 32),t7,q7,#[⟨5,.data⟩,⟨6,.data⟩,⟨4,.guard⟩],some (4,true)⟩,
 ⟨some 34,.fieldAddr 37 (.tmp 33) 0,t8,q8,#[⟨7,.data⟩,⟨4,.guard⟩],some (4,true)⟩,
 ⟨some 35,.load 29 (.tmp 34),t9,q9,#[⟨8,.data⟩,⟨4,.guard⟩],some (4,true)⟩,
 ⟨some 36,.call {callee:= .value (.func 32),args:=#[.tmp 35],argTypes:=#[29]},t10,q10,#[⟨9,.data⟩,⟨4,.chain⟩,⟨4,.guard⟩],some (4,true)⟩,
 ⟨some 37,.load 29 (.tmp 4),t11,q11,#[⟨4,.guard⟩],some (4,true)⟩,
 ⟨some 38,.call {callee:= .value (.func 32),args:=#[.tmp 37],argTypes:=#[29]},t12,q12,#[⟨11,.data⟩,⟨10,.chain⟩,⟨4,.guard⟩],some (4,true)⟩,
 ⟨some 39,.call {callee:= .value (.func 31),args:=#[.tmp 36,.tmp 38],argTypes:=#[66,66]},t13,q13,#[⟨10,.data⟩,⟨12,.data⟩,⟨12,.chain⟩,⟨4,.guard⟩],some (4,true)⟩,
 ⟨some 40,.binOp .lss 2 (.tmp 39) (.const (.int .i64 0)) 2,t14,q14,#[⟨13,.data⟩,⟨4,.guard⟩],some (4,true)⟩,
 ⟨some 41,.pick (.tmp 30) (.tmp 40) (.const (.bool false)),t15,q15,#[⟨4,.data⟩,⟨14,.data⟩],none⟩] true).wp Tryz.prog Q a0 w0:=by
 have hS:distS [some 26,some 27,some 28,some 29,some 30,some 31,some 32,some 33,some 34,some 35,some 36,some 37,some 38,some 39,some 40,some 41]=true:=rfl;refine wp_region_q (by kernel_rfl) w0.heap.size [some 26,some 27,some 28,some 29,some 30,some 31,some 32,some 33,some 34,some 35,some 36,some 37,some 38,some 39,some 40,some 41] (Vsp5n n cap ao w0.heap.size) rfl ?_ ?_
 · intro Q lq aq W iq oq hJ2 hl ho hall;have z5:=hJ2.b;have g8:=hJ2.a h8
   have g9:=hJ2.a h9
   clear hQ
   match iq,ho with
   | 0,ho=>
    cases ho;refine wpOp_of rfl rfl ?_;have hK:=hJ2.gO hS 0 26;generalize InvQ _ _ _ _ _ _=K at hK⊢;clear ho hall hl hJ2 hS;go_simp;exact hK _ rfl
   | 1,ho=>
    cases ho;refine wpOp_of rfl rfl ?_;have hK:=hJ2.gO hS 1 27;generalize InvQ _ _ _ _ _ _=K at hK⊢;clear ho hall hl hJ2 hS;go_simp;exact hK _ rfl
   | 2,ho=>
    cases ho;refine wpOp_of rfl rfl ?_;have f1:_=Value.slice ao n cap:=hJ2.v hall 1 27;have hK:=hJ2.gO hS 2 28;generalize InvQ _ _ _ _ _ _=K at hK⊢;clear ho hall hl hJ2 hS;go_simp;exact hK _ rfl
   | 3,ho=>
    cases ho;refine wpOp_of rfl rfl ?_;have f0:_=Value.int .i64 (n:Int):=hJ2.v hall 0 26;have f2:_=Value.int .i64 (n:Int):=hJ2.v hall 2 28;have hK:=hJ2.go hS 3 29;generalize InvQ _ _ _ _ _ _=K at hK⊢;clear ho hall hl hJ2 hS;go_simp;exact hK _ _ z5 (fun _ _ h=>h) (by show _=_;first | rfl | simp)
   | 4,ho=>
    cases ho;refine wpOp_of rfl rfl ?_;have f3:_=Value.bool false:=hJ2.v hall 3 29;have hK:=hJ2.gO hS 4 30;generalize InvQ _ _ _ _ _ _=K at hK⊢;clear ho hall hl hJ2 hS;go_simp;exact hK _ rfl
   | 5,ho=>
    cases ho;have fg:aq.tmps.getD 30 undef= .bool false:=hJ2.v hall 4 30 .guard;refine wpOp_off rfl rfl rfl rfl fg ?_;exact hJ2.put hS 5 31 rfl (by omega) z5 (fun _ _ h=>h) undef rfl
   | 6,ho=>
    cases ho;have fg:aq.tmps.getD 30 undef= .bool false:=hJ2.v hall 4 30 .guard;refine wpOp_off rfl rfl rfl rfl fg ?_;exact hJ2.put hS 6 32 rfl (by omega) z5 (fun _ _ h=>h) undef rfl
   | 7,ho=>
    cases ho;have fg:aq.tmps.getD 30 undef= .bool false:=hJ2.v hall 4 30 .guard;refine wpOp_off rfl rfl rfl rfl fg ?_;exact hJ2.put hS 7 33 rfl (by omega) z5 (fun _ _ h=>h) undef rfl
   | 8,ho=>
    cases ho;have fg:aq.tmps.getD 30 undef= .bool false:=hJ2.v hall 4 30 .guard;refine wpOp_off rfl rfl rfl rfl fg ?_;exact hJ2.put hS 8 34 rfl (by omega) z5 (fun _ _ h=>h) undef rfl
   | 9,ho=>
    cases ho;have fg:aq.tmps.getD 30 undef= .bool false:=hJ2.v hall 4 30 .guard;refine wpOp_off rfl rfl rfl rfl fg ?_;exact hJ2.put hS 9 35 rfl (by omega) z5 (fun _ _ h=>h) undef rfl
   | 10,ho=>
    cases ho;have fg:aq.tmps.getD 30 undef= .bool false:=hJ2.v hall 4 30 .guard;refine wpOp_off rfl rfl rfl rfl fg ?_;exact hJ2.put hS 10 36 rfl (by omega) z5 (fun _ _ h=>h) undef rfl
   | 11,ho=>
    cases ho;have fg:aq.tmps.getD 30 undef= .bool false:=hJ2.v hall 4 30 .guard;refine wpOp_off rfl rfl rfl rfl fg ?_;exact hJ2.put hS 11 37 rfl (by omega) z5 (fun _ _ h=>h) undef rfl
   | 12,ho=>
    cases ho;have fg:aq.tmps.getD 30 undef= .bool false:=hJ2.v hall 4 30 .guard;refine wpOp_off rfl rfl rfl rfl fg ?_;exact hJ2.put hS 12 38 rfl (by omega) z5 (fun _ _ h=>h) undef rfl
   | 13,ho=>
    cases ho;have fg:aq.tmps.getD 30 undef= .bool false:=hJ2.v hall 4 30 .guard;refine wpOp_off rfl rfl rfl rfl fg ?_;exact hJ2.put hS 13 39 rfl (by omega) z5 (fun _ _ h=>h) undef rfl
   | 14,ho=>
    cases ho;have fg:aq.tmps.getD 30 undef= .bool false:=hJ2.v hall 4 30 .guard;refine wpOp_off rfl rfl rfl rfl fg ?_;exact hJ2.put hS 14 40 rfl (by omega) z5 (fun _ _ h=>h) undef rfl
   | 15,ho=>
    cases ho;refine wpOp_of rfl rfl ?_;have f4:_=Value.bool false:=hJ2.v hall 4 30;have f14:_=undef:=hJ2.v hall 14 40;have hK:=hJ2.gO hS 15 41;generalize InvQ _ _ _ _ _ _=K at hK⊢;clear ho hall hl hJ2 hS;go_simp;exact hK _ rfl
   | iq+16,ho=>simp at ho
 · intro lq aq W hJ hr;obtain⟨z1,z2,z3,z4,z5,z6,z7⟩:=hJ;have hl:=listed_of hr [0,1,2,3,4,5,6,7,8,9,10,11,12,13,14,15] [] (by simp) (by kernel_rfl) (by rw[z1];decide);exact hQ aq W z2 z3 (fun e he=>z4 e (by simpa using he)) (z6 15 41 (hl 15 (by simp)) rfl) z5
def Vsp7 (n cap A off c:Nat) (x y z u vv t:Int) (be:Bool) (_B:Nat):Nat→Value→World→Prop
 | 0,v,_=>v= .int .i64 (c:Int)
 | 1,v,_=>v= .slice (some ⟨A,off,none⟩) n cap
 | 2,v,_=>v= .int .i64 (n:Int)
 | 3,v,_=>v= .bool true
 | 4,v,_=>v= .bool true
 | 5,v,_=>v= .slice (some ⟨A,off,none⟩) n cap
 | 6,v,_=>v= .int .i64 (c:Int)
 | 7,v,_=>v= .pointer (some ⟨A,off+c*13,none⟩)
 | 8,v,_=>v= .pointer (some ⟨A,off+c*13,none⟩)
 | 9,v,_=>v=PV x y z
 | 10,v,_=>v=PV u vv t
 | 11,v,_=>v= .bool be
 | 12,v,_=>v= .bool be
 | _,_,_=>True
theorem sp7 {Q:Exit→Act→World→Prop} {n cap A off c:Nat} {x y z u vv t:Int} {be:Bool} {P:Nat} {w0:World} {a0:Act} {idq:Nat} {t0 t1 t2 t3 t4 t5 t6 t7 t8 t9 t10 t11 t12:TypeId} {q0 q1 q2 q3 q4 q5 q6 q7 q8 q9 q10 q11 q12:String}
 (hc:c<n) (hn:n≤200) (hE:∀w,(Op.equalIn 10000 29 (PV x y z) (PV u vv t)).run Tryz.prog w= .ok be w) (h4:a0.tmps[4]? =some (.pointer (some ⟨P,0,none⟩))) (h8:a0.tmps[8]? =some (.slice (some ⟨A,off,none⟩) n cap)) (h9:a0.tmps[9]? =some (.int .i64 (c:Int))) (k0:w0.cell? ⟨A,off+c*13,none⟩=some (.int .u64 (ww3 x))) (l0:(⟨A,off+c*13,none⟩:Addr).block<w0.heap.size) (k1:w0.cell? ⟨A,off+c*13+1,none⟩=some (.int .u64 (ww2 x))) (l1:(⟨A,off+c*13+1,none⟩:Addr).block<w0.heap.size) (k2:w0.cell? ⟨A,off+c*13+2,none⟩=some (.int .u64 (ww1 x))) (l2:(⟨A,off+c*13+2,none⟩:Addr).block<w0.heap.size) (k3:w0.cell? ⟨A,off+c*13+3,none⟩=some (.int .u64 (ww0 x))) (l3:(⟨A,off+c*13+3,none⟩:Addr).block<w0.heap.size) (k4:w0.cell? ⟨A,off+c*13+4,none⟩=some (.int .u64 (ww3 y))) (l4:(⟨A,off+c*13+4,none⟩:Addr).block<w0.heap.size) (k5:w0.cell? ⟨A,off+c*13+5,none⟩=some (.int .u64 (ww2 y))) (l5:(⟨A,off+c*13+5,none⟩:Addr).block<w0.heap.size) (k6:w0.cell? ⟨A,off+c*13+6,none⟩=some (.int .u64 (ww1 y))) (l6:(⟨A,off+c*13+6,none⟩:Addr).block<w0.heap.size) (k7:w0.cell? ⟨A,off+c*13+7,none⟩=some (.int .u64 (ww0 y))) (l7:(⟨A,off+c*13+7,none⟩:Addr).block<w0.heap.size) (k8:w0.cell? ⟨A,off+c*13+8,none⟩=some (.int .u64 (ww3 z))) (l8:(⟨A,off+c*13+8,none⟩:Addr).block<w0.heap.size) (k9:w0.cell? ⟨A,off+c*13+9,none⟩=some (.int .u64 (ww2 z))) (l9:(⟨A,off+c*13+9,none⟩:Addr).block<w0.heap.size) (k10:w0.cell? ⟨A,off+c*13+10,none⟩=some (.int .u64 (ww1 z))) (l10:(⟨A,off+c*13+10,none⟩:Addr).block<w0.heap.size) (k11:w0.cell? ⟨A,off+c*13+11,none⟩=some (.int .u64 (ww0 z))) (l11:(⟨A,off+c*13+11,none⟩:Addr).block<w0.heap.size) (k12:w0.cell? ⟨P,0,none⟩=some (.int .u64 (ww3 u))) (l12:(⟨P,0,none⟩:Addr).block<w0.heap.size) (k13:w0.cell? ⟨P,1,none⟩=some (.int .u64 (ww2 u))) (l13:(⟨P,1,none⟩:Addr).block<w0.heap.size) (k14:w0.cell? ⟨P,2,none⟩=some (.int .u64 (ww1 u))) (l14:(⟨P,2,none⟩:Addr).block<w0.heap.size) (k15:w0.cell? ⟨P,3,none⟩=some (.int .u64 (ww0 u))) (l15:(⟨P,3,none⟩:Addr).block<w0.heap.size) (k16:w0.cell? ⟨P,4,none⟩=some (.int .u64 (ww3 vv))) (l16:(⟨P,4,none⟩:Addr).block<w0.heap.size) (k17:w0.cell? ⟨P,5,none⟩=some (.int .u64 (ww2 vv))) (l17:(⟨P,5,none⟩:Addr).block<w0.heap.size) (k18:w0.cell? ⟨P,6,none⟩=some (.int .u64 (ww1 vv))) (l18:(⟨P,6,none⟩:Addr).block<w0.heap.size) (k19:w0.cell? ⟨P,7,none⟩=some (.int .u64 (ww0 vv))) (l19:(⟨P,7,none⟩:Addr).block<w0.heap.size) (k20:w0.cell? ⟨P,8,none⟩=some (.int .u64 (ww3 t))) (l20:(⟨P,8,none⟩:Addr).block<w0.heap.size) (k21:w0.cell? ⟨P,9,none⟩=some (.int .u64 (ww2 t))) (l21:(⟨P,9,none⟩:Addr).block<w0.heap.size) (k22:w0.cell? ⟨P,10,none⟩=some (.int .u64 (ww1 t))) (l22:(⟨P,10,none⟩:Addr).block<w0.heap.size) (k23:w0.cell? ⟨P,11,none⟩=some (.int .u64 (ww0 t))) (l23:(⟨P,11,none⟩:Addr).block<w0.heap.size) (hz:a0.tmps.size=89)
 (hQ:∀aq W,aq.tmps.size=a0.tmps.size→aq.defers=a0.defers→(∀e,e∉([44,45,46,47,48,49,50,51,52,53,54,55,56]:List Nat)→aq.tmps[e]? =a0.tmps[e]?)→Vsp7 n cap A off c x y z u vv t be w0.heap.size 12 (aq.tmps.getD 56 undef) W→Below w0.heap.size w0 W→Q .normal aq W) :
 (Code.region idq #[⟨some 44,.move (.tmp 9),t0,q0,#[],none⟩,
 ⟨some 45,.move (.tmp 8),t1,q1,#[],none⟩,
 ⟨some 46,.call {callee:= .builtin .len,args:=#[.tmp 45],argTypes:=#[24]},t2,q2,#[⟨1,.data⟩],none⟩,
 ⟨some 47,.binOp .lss 3 (.tmp 44) (.tmp 46) 3,t3,q3,#[⟨0,.data⟩,⟨2,.data⟩],none⟩,
 ⟨some 48,.move (.tmp 47),t4,q4,#[⟨3,.data⟩],none⟩,
 ⟨some 49,.move (.tmp 8),t5,q5,#[⟨4,.guard⟩],some (4,true)⟩,
 ⟨some 50,.move (.tmp 9),t6,q6,#[⟨4,.guard⟩],some (4,true)⟩,
 ⟨some 51,.indexAddr 24 (.tmp 49) (.tmp 50),t7,q7,#[⟨5,.data⟩,⟨6,.data⟩,⟨4,.guard⟩],some (4,true)⟩,
 ⟨some 52,.fieldAddr 37 (.tmp 51) 0,t8,q8,#[⟨7,.data⟩,⟨4,.guard⟩],some (4,true)⟩,
 ⟨some 53,.load 29 (.tmp 52),t9,q9,#[⟨8,.data⟩,⟨4,.guard⟩],some (4,true)⟩,
 ⟨some 54,.load 29 (.tmp 4),t10,q10,#[⟨4,.guard⟩],some (4,true)⟩,
 ⟨some 55,.binOp .eql 29 (.tmp 53) (.tmp 54) 29,t11,q11,#[⟨9,.data⟩,⟨10,.data⟩,⟨4,.guard⟩],some (4,true)⟩,
 ⟨some 56,.pick (.tmp 48) (.tmp 55) (.const (.bool false)),t12,q12,#[⟨4,.data⟩,⟨11,.data⟩],none⟩] true).wp Tryz.prog Q a0 w0:=by
 have hS:distS [some 44,some 45,some 46,some 47,some 48,some 49,some 50,some 51,some 52,some 53,some 54,some 55,some 56]=true:=rfl;refine wp_region_q (by kernel_rfl) w0.heap.size [some 44,some 45,some 46,some 47,some 48,some 49,some 50,some 51,some 52,some 53,some 54,some 55,some 56] (Vsp7 n cap A off c x y z u vv t be w0.heap.size) rfl ?_ ?_
 · intro Q lq aq W iq oq hJ2 hl ho hall;have g4:=hJ2.a h4
   have g8:=hJ2.a h8
   have g9:=hJ2.a h9
   have c0:=hJ2.c k0 l0;have c1:=hJ2.c k1 l1;have c2:=hJ2.c k2 l2;have c3:=hJ2.c k3 l3;have c4:=hJ2.c k4 l4;have c5:=hJ2.c k5 l5;have c6:=hJ2.c k6 l6;have c7:=hJ2.c k7 l7;have c8:=hJ2.c k8 l8;have c9:=hJ2.c k9 l9;have c10:=hJ2.c k10 l10;have c11:=hJ2.c k11 l11;have c12:=hJ2.c k12 l12;have c13:=hJ2.c k13 l13;have c14:=hJ2.c k14 l14;have c15:=hJ2.c k15 l15;have c16:=hJ2.c k16 l16;have c17:=hJ2.c k17 l17;have c18:=hJ2.c k18 l18;have c19:=hJ2.c k19 l19;have c20:=hJ2.c k20 l20;have c21:=hJ2.c k21 l21;have c22:=hJ2.c k22 l22;have c23:=hJ2.c k23 l23
   clear hQ
   match iq,ho with
   | 0,ho=>
    cases ho;refine wpOp_of rfl rfl ?_;have hK:=hJ2.gO hS 0 44;generalize InvQ _ _ _ _ _ _=K at hK⊢;clear ho hall hl hJ2 hS;go_simp;exact hK _ rfl
   | 1,ho=>
    cases ho;refine wpOp_of rfl rfl ?_;have hK:=hJ2.gO hS 1 45;generalize InvQ _ _ _ _ _ _=K at hK⊢;clear ho hall hl hJ2 hS;go_simp;exact hK _ rfl
   | 2,ho=>
    cases ho;refine wpOp_of rfl rfl ?_;have f1:_=Value.slice (some ⟨A,off,none⟩) n cap:=hJ2.v hall 1 45;have hK:=hJ2.gO hS 2 46;generalize InvQ _ _ _ _ _ _=K at hK⊢;clear ho hall hl hJ2 hS;go_simp;exact hK _ rfl
   | 3,ho=>
    cases ho;refine wpOp_of rfl rfl ?_;have f0:_=Value.int .i64 (c:Int):=hJ2.v hall 0 44;have f2:_=Value.int .i64 (n:Int):=hJ2.v hall 2 46;have hcI:(c:Int)<n:=by omega
    have hnI:(n:Int)≤200:=by omega
    have hK:=hJ2.gO hS 3 47;generalize InvQ _ _ _ _ _ _=K at hK⊢;clear ho hall hl hJ2 hS;go_simp;exact hK _ rfl
   | 4,ho=>
    cases ho;refine wpOp_of rfl rfl ?_;have f3:_=Value.bool true:=hJ2.v hall 3 47;have hK:=hJ2.gO hS 4 48;generalize InvQ _ _ _ _ _ _=K at hK⊢;clear ho hall hl hJ2 hS;go_simp;exact hK _ rfl
   | 5,ho=>
    cases ho;have fg:aq.tmps.getD 48 undef= .bool true:=hJ2.v hall 4 48 .guard;refine wpOp_on rfl rfl rfl rfl fg ?_;have hK:=hJ2.gO hS 5 49;generalize InvQ _ _ _ _ _ _=K at hK⊢;clear ho hall hl hJ2 hS;go_simp;exact hK _ rfl
   | 6,ho=>
    cases ho;have fg:aq.tmps.getD 48 undef= .bool true:=hJ2.v hall 4 48 .guard;refine wpOp_on rfl rfl rfl rfl fg ?_;have hK:=hJ2.gO hS 6 50;generalize InvQ _ _ _ _ _ _=K at hK⊢;clear ho hall hl hJ2 hS;go_simp;exact hK _ rfl
   | 7,ho=>
    cases ho;have fg:aq.tmps.getD 48 undef= .bool true:=hJ2.v hall 4 48 .guard;refine wpOp_on rfl rfl rfl rfl fg ?_;have f5:_=Value.slice (some ⟨A,off,none⟩) n cap:=hJ2.v hall 5 49;have f6:_=Value.int .i64 (c:Int):=hJ2.v hall 6 50;have hcI:(c:Int)<n:=by omega
    have hnI:(n:Int)≤200:=by omega
    have hK:=hJ2.gO hS 7 51;generalize InvQ _ _ _ _ _ _=K at hK⊢;clear ho hall hl hJ2 hS;go_simp;exact hK _ rfl
   | 8,ho=>
    cases ho;have fg:aq.tmps.getD 48 undef= .bool true:=hJ2.v hall 4 48 .guard;refine wpOp_on rfl rfl rfl rfl fg ?_;have f7:_=Value.pointer (some ⟨A,off+c*13,none⟩):=hJ2.v hall 7 51;have hK:=hJ2.gO hS 8 52;generalize InvQ _ _ _ _ _ _=K at hK⊢;clear ho hall hl hJ2 hS;go_simp;exact hK _ rfl
   | 9,ho=>
    cases ho;have fg:aq.tmps.getD 48 undef= .bool true:=hJ2.v hall 4 48 .guard;refine wpOp_on rfl rfl rfl rfl fg ?_;have f8:_=Value.pointer (some ⟨A,off+c*13,none⟩):=hJ2.v hall 8 52;have hK:=hJ2.gO hS 9 53;generalize InvQ _ _ _ _ _ _=K at hK⊢;clear ho hall hl hJ2 hS;go_simp;exact hK _ rfl
   | 10,ho=>
    cases ho;have fg:aq.tmps.getD 48 undef= .bool true:=hJ2.v hall 4 48 .guard;refine wpOp_on rfl rfl rfl rfl fg ?_;have hK:=hJ2.gO hS 10 54;generalize InvQ _ _ _ _ _ _=K at hK⊢;clear ho hall hl hJ2 hS;go_simp;exact hK _ rfl
   | 11,ho=>
    cases ho;have fg:aq.tmps.getD 48 undef= .bool true:=hJ2.v hall 4 48 .guard;refine wpOp_on rfl rfl rfl rfl fg ?_;have f9:_=PV x y z:=hJ2.v hall 9 53;have f10:_=PV u vv t:=hJ2.v hall 10 54;have hK:=hJ2.gO hS 11 55;generalize InvQ _ _ _ _ _ _=K at hK⊢;clear ho hall hl hJ2 hS;go_simp;exact hK _ rfl
   | 12,ho=>
    cases ho;refine wpOp_of rfl rfl ?_;have f4:_=Value.bool true:=hJ2.v hall 4 48;have f11:_=Value.bool be:=hJ2.v hall 11 55;have hK:=hJ2.gO hS 12 56;generalize InvQ _ _ _ _ _ _=K at hK⊢;clear ho hall hl hJ2 hS;go_simp;exact hK _ rfl
   | iq+13,ho=>simp at ho
 · intro lq aq W hJ hr;obtain⟨z1,z2,z3,z4,z5,z6,z7⟩:=hJ;have hl:=listed_of hr [0,1,2,3,4,5,6,7,8,9,10,11,12] [] (by simp) (by kernel_rfl) (by rw[z1];decide);exact hQ aq W z2 z3 (fun e he=>z4 e (by simpa using he)) (z6 12 56 (hl 12 (by simp)) rfl) z5
def Vsp7n (n cap:Nat) (ao:Option Addr) (_B:Nat):Nat→Value→World→Prop
 | 0,v,_=>v= .int .i64 (n:Int)
 | 1,v,_=>v= .slice ao n cap
 | 2,v,_=>v= .int .i64 (n:Int)
 | 3,v,_=>v= .bool false
 | 4,v,_=>v= .bool false
 | 5,v,_=>v=undef
 | 6,v,_=>v=undef
 | 7,v,_=>v=undef
 | 8,v,_=>v=undef
 | 9,v,_=>v=undef
 | 10,v,_=>v=undef
 | 11,v,_=>v=undef
 | 12,v,_=>v= .bool false
 | _,_,_=>True
theorem sp7n {Q:Exit→Act→World→Prop} {n cap:Nat} {ao:Option Addr} {w0:World} {a0:Act} {idq:Nat} {t0 t1 t2 t3 t4 t5 t6 t7 t8 t9 t10 t11 t12:TypeId} {q0 q1 q2 q3 q4 q5 q6 q7 q8 q9 q10 q11 q12:String}
 (h8:a0.tmps[8]? =some (.slice ao n cap)) (h9:a0.tmps[9]? =some (.int .i64 (n:Int))) (hz:a0.tmps.size=89)
 (hQ:∀aq W,aq.tmps.size=a0.tmps.size→aq.defers=a0.defers→(∀e,e∉([44,45,46,47,48,49,50,51,52,53,54,55,56]:List Nat)→aq.tmps[e]? =a0.tmps[e]?)→Vsp7n n cap ao w0.heap.size 12 (aq.tmps.getD 56 undef) W→Below w0.heap.size w0 W→Q .normal aq W) :
 (Code.region idq #[⟨some 44,.move (.tmp 9),t0,q0,#[],none⟩,
 ⟨some 45,.move (.tmp 8),t1,q1,#[],none⟩,
 ⟨some 46,.call {callee:= .builtin .len,args:=#[.tmp 45],argTypes:=#[24]},t2,q2,#[⟨1,.data⟩],none⟩,
 ⟨some 47,.binOp .lss 3 (.tmp 44) (.tmp 46) 3,t3,q3,#[⟨0,.data⟩,⟨2,.data⟩],none⟩,
 ⟨some 48,.move (.tmp 47),t4,q4,#[⟨3,.data⟩],none⟩,
 ⟨some 49,.move (.tmp 8),t5,q5,#[⟨4,.guard⟩],some (4,true)⟩,
 ⟨some 50,.move (.tmp 9),t6,q6,#[⟨4,.guard⟩],some (4,true)⟩,
 ⟨some 51,.indexAddr 24 (.tmp 49) (.tmp 50),t7,q7,#[⟨5,.data⟩,⟨6,.data⟩,⟨4,.guard⟩],some (4,true)⟩,
 ⟨some 52,.fieldAddr 37 (.tmp 51) 0,t8,q8,#[⟨7,.data⟩,⟨4,.guard⟩],some (4,true)⟩,
 ⟨some 53,.load 29 (.tmp 52),t9,q9,#[⟨8,.data⟩,⟨4,.guard⟩],some (4,true)⟩,
 ⟨some 54,.load 29 (.tmp 4),t10,q10,#[⟨4,.guard⟩],some (4,true)⟩,
 ⟨some 55,.binOp .eql 29 (.tmp 53) (.tmp 54) 29,t11,q11,#[⟨9,.data⟩,⟨10,.data⟩,⟨4,.guard⟩],some (4,true)⟩,
 ⟨some 56,.pick (.tmp 48) (.tmp 55) (.const (.bool false)),t12,q12,#[⟨4,.data⟩,⟨11,.data⟩],none⟩] true).wp Tryz.prog Q a0 w0:=by
 have hS:distS [some 44,some 45,some 46,some 47,some 48,some 49,some 50,some 51,some 52,some 53,some 54,some 55,some 56]=true:=rfl;refine wp_region_q (by kernel_rfl) w0.heap.size [some 44,some 45,some 46,some 47,some 48,some 49,some 50,some 51,some 52,some 53,some 54,some 55,some 56] (Vsp7n n cap ao w0.heap.size) rfl ?_ ?_
 · intro Q lq aq W iq oq hJ2 hl ho hall;have z5:=hJ2.b;have g8:=hJ2.a h8
   have g9:=hJ2.a h9
   clear hQ
   match iq,ho with
   | 0,ho=>
    cases ho;refine wpOp_of rfl rfl ?_;have hK:=hJ2.gO hS 0 44;generalize InvQ _ _ _ _ _ _=K at hK⊢;clear ho hall hl hJ2 hS;go_simp;exact hK _ rfl
   | 1,ho=>
    cases ho;refine wpOp_of rfl rfl ?_;have hK:=hJ2.gO hS 1 45;generalize InvQ _ _ _ _ _ _=K at hK⊢;clear ho hall hl hJ2 hS;go_simp;exact hK _ rfl
   | 2,ho=>
    cases ho;refine wpOp_of rfl rfl ?_;have f1:_=Value.slice ao n cap:=hJ2.v hall 1 45;have hK:=hJ2.gO hS 2 46;generalize InvQ _ _ _ _ _ _=K at hK⊢;clear ho hall hl hJ2 hS;go_simp;exact hK _ rfl
   | 3,ho=>
    cases ho;refine wpOp_of rfl rfl ?_;have f0:_=Value.int .i64 (n:Int):=hJ2.v hall 0 44;have f2:_=Value.int .i64 (n:Int):=hJ2.v hall 2 46;have hK:=hJ2.go hS 3 47;generalize InvQ _ _ _ _ _ _=K at hK⊢;clear ho hall hl hJ2 hS;go_simp;exact hK _ _ z5 (fun _ _ h=>h) (by show _=_;first | rfl | simp)
   | 4,ho=>
    cases ho;refine wpOp_of rfl rfl ?_;have f3:_=Value.bool false:=hJ2.v hall 3 47;have hK:=hJ2.gO hS 4 48;generalize InvQ _ _ _ _ _ _=K at hK⊢;clear ho hall hl hJ2 hS;go_simp;exact hK _ rfl
   | 5,ho=>
    cases ho;have fg:aq.tmps.getD 48 undef= .bool false:=hJ2.v hall 4 48 .guard;refine wpOp_off rfl rfl rfl rfl fg ?_;exact hJ2.put hS 5 49 rfl (by omega) z5 (fun _ _ h=>h) undef rfl
   | 6,ho=>
    cases ho;have fg:aq.tmps.getD 48 undef= .bool false:=hJ2.v hall 4 48 .guard;refine wpOp_off rfl rfl rfl rfl fg ?_;exact hJ2.put hS 6 50 rfl (by omega) z5 (fun _ _ h=>h) undef rfl
   | 7,ho=>
    cases ho;have fg:aq.tmps.getD 48 undef= .bool false:=hJ2.v hall 4 48 .guard;refine wpOp_off rfl rfl rfl rfl fg ?_;exact hJ2.put hS 7 51 rfl (by omega) z5 (fun _ _ h=>h) undef rfl
   | 8,ho=>
    cases ho;have fg:aq.tmps.getD 48 undef= .bool false:=hJ2.v hall 4 48 .guard;refine wpOp_off rfl rfl rfl rfl fg ?_;exact hJ2.put hS 8 52 rfl (by omega) z5 (fun _ _ h=>h) undef rfl
   | 9,ho=>
    cases ho;have fg:aq.tmps.getD 48 undef= .bool false:=hJ2.v hall 4 48 .guard;refine wpOp_off rfl rfl rfl rfl fg ?_;exact hJ2.put hS 9 53 rfl (by omega) z5 (fun _ _ h=>h) undef rfl
   | 10,ho=>
    cases ho;have fg:aq.tmps.getD 48 undef= .bool false:=hJ2.v hall 4 48 .guard;refine wpOp_off rfl rfl rfl rfl fg ?_;exact hJ2.put hS 10 54 rfl (by omega) z5 (fun _ _ h=>h) undef rfl
   | 11,ho=>
    cases ho;have fg:aq.tmps.getD 48 undef= .bool false:=hJ2.v hall 4 48 .guard;refine wpOp_off rfl rfl rfl rfl fg ?_;exact hJ2.put hS 11 55 rfl (by omega) z5 (fun _ _ h=>h) undef rfl
   | 12,ho=>
    cases ho;refine wpOp_of rfl rfl ?_;have f4:_=Value.bool false:=hJ2.v hall 4 48;have f11:_=undef:=hJ2.v hall 11 55;have hK:=hJ2.gO hS 12 56;generalize InvQ _ _ _ _ _ _=K at hK⊢;clear ho hall hl hJ2 hS;go_simp;exact hK _ rfl
   | iq+13,ho=>simp at ho
 · intro lq aq W hJ hr;obtain⟨z1,z2,z3,z4,z5,z6,z7⟩:=hJ;have hl:=listed_of hr [0,1,2,3,4,5,6,7,8,9,10,11,12] [] (by simp) (by kernel_rfl) (by rw[z1];decide);exact hQ aq W z2 z3 (fun e he=>z4 e (by simpa using he)) (z6 12 56 (hl 12 (by simp)) rfl) z5
theorem l7CopyS_any (ao:Option Addr) (n cap:Nat) (q:Nat→Int×Int×Int) (S:Nat→Option Addr×Nat) (L:Nat→Nat) (E:Nat→Nat→Int) (hn:n≤1048576) (hL:∀i,i<n→0<L i∧L i≤1048576) (w:World) (hS:EvIn w ao n q S L E):Calls Tryz.prog 30 #[.slice ao n cap] w (fun r w' =>∃g gc s,r= .returned (.slice (some ⟨g,0,none⟩) n gc)∧n≤gc∧EvOwn w' w.heap.size (.slice (some ⟨g,0,none⟩) n gc) n (wq q) s L E∧Below w.heap.size w w'):=by
 rcases Nat.eq_zero_or_pos n with h0 | h0
 · subst h0;clear hS hL;have HM:=EvOwn.made w w.heap.size (Nat.le_refl _) (wq q) (fun _=> .slice none 0 0) L E;have HB0:Below w.heap.size w (w.alloc (.cells #[] 37)):=(Below.refl _ w).alloc (Nat.le_refl _) _
   go_enter Tryz.func30,Tryz.ntmps30
   go_wp2_with fail
   go_loopw [3,4] (fun o i wr=>o= .slice (some ⟨w.heap.size,0,none⟩) 0 0∧i= .int .i64 0∧wr=(w.alloc (.cells #[] 37))) (fun _ _ _=>0)
   case atStart=>exact⟨rfl,rfl,rfl⟩
   case round=>
    obtain⟨rfl,rfl,rfl⟩:=hrel;go_wp2;go_ret;exact⟨_,0,_,rfl,Nat.le_refl _,HM,HB0⟩
 · refine(l7Copy_any ao n cap q S L E hn hL w hS).mono ?_;rintro r w' ⟨v,s,rfl,h,hB⟩;obtain⟨g,gc,rfl,_,_,hc,_⟩:=ownN_form h.own h0;exact⟨g,gc,s,rfl,hc,h,hB⟩
theorem specPut_any (ao:Option Addr) (n cap:Nat) (q:Nat→Int×Int×Int) (S:Nat→Option Addr×Nat) (L:Nat→Nat) (E:Nat→Nat→Int) (p:Int×Int×Int) (x:Int) (w:World) (hS:EvIn w ao n q S L E) (hn:n≤1048576) (hT:∀i,i<n→told (q i).1=true∧told (q i).2.1=true∧told (q i).2.2=true) (hL:∀i,i<n→L i≤1048576) (hp:told p.1=true∧told p.2.1=true∧told p.2.2=true) (ok:Bool) (N:Nat) (Q:Nat→Int×Int×Int) (L' :Nat→Nat) (E' :Nat→Nat→Int) (hR:PutTo n q L E p x ok N Q L' E'):Calls Tryz.prog 7 #[.slice ao n cap,PV p.1 p.2.1 p.2.2,.int .i64 x] w (fun r w' =>∃v s,r= .returned (.tuple #[v,.bool ok])∧EvRow w' w.heap.size w'.heap.size v N (wq Q) s L' E' ∧Below w.heap.size w w'):=by
 have B0:Blk (w.alloc (.cells #[.int .u64 (ww3 p.1),.int .u64 (ww2 p.1),.int .u64 (ww1 p.1),.int .u64 (ww0 p.1),.int .u64 (ww3 p.2.1),.int .u64 (ww2 p.2.1),.int .u64 (ww1 p.2.1),.int .u64 (ww0 p.2.1),.int .u64 (ww3 p.2.2),.int .u64 (ww2 p.2.2),.int .u64 (ww1 p.2.2),.int .u64 (ww0 p.2.2)] 29)) w.heap.size [.int .u64 (ww3 p.1),.int .u64 (ww2 p.1),.int .u64 (ww1 p.1),.int .u64 (ww0 p.1),.int .u64 (ww3 p.2.1),.int .u64 (ww2 p.2.1),.int .u64 (ww1 p.2.1),.int .u64 (ww0 p.2.1),.int .u64 (ww3 p.2.2),.int .u64 (ww2 p.2.2),.int .u64 (ww1 p.2.2),.int .u64 (ww0 p.2.2)]:=Blk.new w [.int .u64 (ww3 p.1),.int .u64 (ww2 p.1),.int .u64 (ww1 p.1),.int .u64 (ww0 p.1),.int .u64 (ww3 p.2.1),.int .u64 (ww2 p.2.1),.int .u64 (ww1 p.2.1),.int .u64 (ww0 p.2.1),.int .u64 (ww3 p.2.2),.int .u64 (ww2 p.2.2),.int .u64 (ww1 p.2.2),.int .u64 (ww0 p.2.2)] 29 rfl;have HB:Below w.heap.size w (w.alloc (.cells #[.int .u64 (ww3 p.1),.int .u64 (ww2 p.1),.int .u64 (ww1 p.1),.int .u64 (ww0 p.1),.int .u64 (ww3 p.2.1),.int .u64 (ww2 p.2.1),.int .u64 (ww1 p.2.1),.int .u64 (ww0 p.2.1),.int .u64 (ww3 p.2.2),.int .u64 (ww2 p.2.2),.int .u64 (ww1 p.2.2),.int .u64 (ww0 p.2.2)] 29)):=(Below.refl _ w).alloc (Nat.le_refl _) _;have hS1:=hS.step HB;have CE:=specEventsOk_any ao n cap q S L E (w.alloc (.cells #[.int .u64 (ww3 p.1),.int .u64 (ww2 p.1),.int .u64 (ww1 p.1),.int .u64 (ww0 p.1),.int .u64 (ww3 p.2.1),.int .u64 (ww2 p.2.1),.int .u64 (ww1 p.2.1),.int .u64 (ww0 p.2.1),.int .u64 (ww3 p.2.2),.int .u64 (ww2 p.2.2),.int .u64 (ww1 p.2.2),.int .u64 (ww0 p.2.2)] 29)) hS1 hT hL;have CP:=specPointOk_det p.1 p.2.1 p.2.2 hp.1 hp.2.1 hp.2.2;have CI:=fun w=>l1In_any x 0 39 (decide (0≤x∧x≤39)) rfl w
 rcases hR with ⟨hno,rfl,rfl,rfl,rfl,rfl⟩ | ⟨h1,h2,h3,j,th,hP,hR⟩
 · have hb1:∃b1,evB n q L E=b1:=⟨_,rfl⟩;obtain⟨b1,hb1⟩:=hb1;obtain⟨b2,hb2⟩:∃b2,ptB p.1 p.2.1 p.2.2=b2:=⟨_,rfl⟩;obtain⟨b3,hb3⟩:∃b3,decide (0≤x∧x≤39)=b3:=⟨_,rfl⟩;rw[hb1,hb2,hb3] at hno;rw[hb1] at CE;rw[hb2] at CP;rw[hb3] at CI;clear hb1 hb2 hb3 hS hT hL hp;cases b1 with
   | false=>
    go_enter Tryz.func7,Tryz.ntmps7
    go_wp2_with fail;refine CE.mono ?_;rintro r w1 ⟨rfl,hB1⟩;replace B0:=B0.step hB1;replace HB:=HB.trans (hB1.mono HB.size);clear CE hB1 hS1;go_wp2;refine bodyPost_ret (v:= .tuple #[.slice none 0 0,.bool false]) (by simp[results,Tryz.results7,go_sem]) rfl ?_;exact⟨.slice none 0 0,fun _=> .slice none 0 0,rfl,.inl ⟨rfl,rfl⟩,HB⟩
   | true=>
    cases b2 with
    | false=>
     go_enter Tryz.func7,Tryz.ntmps7
     go_wp2_with fail;refine CE.mono ?_;rintro r w1 ⟨rfl,hB1⟩;replace B0:=B0.step hB1;replace HB:=HB.trans (hB1.mono HB.size);clear CE hB1 hS1;have m0:=B0.c 0 rfl;have m1:=B0.c 1 rfl;have m2:=B0.c 2 rfl;have m3:=B0.c 3 rfl;have m4:=B0.c 4 rfl;have m5:=B0.c 5 rfl;have m6:=B0.c 6 rfl;have m7:=B0.c 7 rfl;have m8:=B0.c 8 rfl;have m9:=B0.c 9 rfl;have m10:=B0.c 10 rfl;have m11:=B0.c 11 rfl;go_wp2_with fail;refine(CP _).mono ?_;rintro r w2 ⟨rfl,hB1⟩;replace B0:=B0.step hB1;replace HB:=HB.trans (hB1.mono HB.size);clear hB1;clear m0 m1 m2 m3 m4 m5 m6 m7 m8 m9 m10 m11;go_wp2;refine bodyPost_ret (v:= .tuple #[.slice none 0 0,.bool false]) (by simp[results,Tryz.results7,go_sem]) rfl ?_;exact⟨.slice none 0 0,fun _=> .slice none 0 0,rfl,.inl ⟨rfl,rfl⟩,HB⟩
    | true=>
     cases b3 with
     | false=>
      go_enter Tryz.func7,Tryz.ntmps7
      go_wp2_with fail;refine CE.mono ?_;rintro r w1 ⟨rfl,hB1⟩;replace B0:=B0.step hB1;replace HB:=HB.trans (hB1.mono HB.size);clear CE hB1 hS1;have m0:=B0.c 0 rfl;have m1:=B0.c 1 rfl;have m2:=B0.c 2 rfl;have m3:=B0.c 3 rfl;have m4:=B0.c 4 rfl;have m5:=B0.c 5 rfl;have m6:=B0.c 6 rfl;have m7:=B0.c 7 rfl;have m8:=B0.c 8 rfl;have m9:=B0.c 9 rfl;have m10:=B0.c 10 rfl;have m11:=B0.c 11 rfl;go_wp2_with fail;refine(CP _).mono ?_;rintro r w2 ⟨rfl,hB1⟩;replace B0:=B0.step hB1;replace HB:=HB.trans (hB1.mono HB.size);clear hB1;clear m0 m1 m2 m3 m4 m5 m6 m7 m8 m9 m10 m11;go_wp2_with fail;refine(CI _).mono ?_;rintro r w3 ⟨rfl,hB1⟩;replace B0:=B0.step hB1;replace HB:=HB.trans (hB1.mono HB.size);clear hB1;go_wp2;refine bodyPost_ret (v:= .tuple #[.slice none 0 0,.bool false]) (by simp[results,Tryz.results7,go_sem]) rfl ?_;exact⟨.slice none 0 0,fun _=> .slice none 0 0,rfl,.inl ⟨rfl,rfl⟩,HB⟩
     | true=>cases hno
 · obtain ⟨hn2,hL0⟩:=evB_pos h1;have CC:=fun w h=>l7CopyS_any ao n cap q S L E hn (fun i hi=>⟨hL0 i hi,hL i hi⟩) w h;have HS:Hid (EvIn w ao n q S L E):=hS;have HP:Hid (PutAt n q p j th):=hP;have HT:Hid (∀i,i<n→told (q i).1=true∧told (q i).2.1=true∧told (q i).2.2=true):=hT;have HR:Hid _:=hR;have hj:=hP.le;have hnI:(n:Int)≤200:=by omega
   have hjI:(j:Int)≤n:=by omega
   rw[h1] at CE;rw[h2] at CP;rw[decide_eq_true h3] at CI;have HX:Hid _:=And.intro h1 (And.intro h2 h3);have HLL:Hid (∀i,i<n→L i≤1048576):=hL;clear hS hT hL hP hR h1 h2 h3 hL0
   go_enter Tryz.func7,Tryz.ntmps7
   go_wp2_with fail;refine CE.mono ?_;rintro r w1 ⟨rfl,hB1⟩;replace B0:=B0.step hB1;replace HB:=HB.trans (hB1.mono HB.size);clear CE hB1 hS1;have m0:=B0.c 0 rfl;have m1:=B0.c 1 rfl;have m2:=B0.c 2 rfl;have m3:=B0.c 3 rfl;have m4:=B0.c 4 rfl;have m5:=B0.c 5 rfl;have m6:=B0.c 6 rfl;have m7:=B0.c 7 rfl;have m8:=B0.c 8 rfl;have m9:=B0.c 9 rfl;have m10:=B0.c 10 rfl;have m11:=B0.c 11 rfl;go_wp2_with fail;refine(CP _).mono ?_;rintro r w2 ⟨rfl,hB1⟩;replace B0:=B0.step hB1;replace HB:=HB.trans (hB1.mono HB.size);clear hB1;clear m0 m1 m2 m3 m4 m5 m6 m7 m8 m9 m10 m11;go_wp2_with fail;refine(CI _).mono ?_;rintro r w3 ⟨rfl,hB1⟩;replace B0:=B0.step hB1;replace HB:=HB.trans (hB1.mono HB.size);clear hB1;go_wp2_with fail;refine(CC _ (HS.out.step HB)).mono ?_;rintro r w4 ⟨g,gc,s,rfl,hgc,HO,hB1⟩;replace B0:=B0.step hB1;have hb0:w.heap.size≤w3.heap.size:=HB.size;replace HB:=HB.trans (hB1.mono HB.size);clear hB1 CC CP CI HS;obtain⟨_,_,e0,HI⟩:=HO.row.in;cases e0;have HI:Hid (EvIn w4 (some ⟨g,0,none⟩) n q (fun i=>sOf (s i)) L E):=HI;have HO:Hid _:=HO;go_wp2_with fail
   go_loopw [9] (fun k wr=>∃c:Nat,c≤j∧k= .int .i64 c∧Below w4.heap.size w4 wr) (fun k _=>j-(intOf k).toNat)
   case atStart=>exact⟨0,by omega,rfl,Below.refl _ _⟩
   case round=>
    obtain⟨c,hc,rfl,HBr⟩:=hrel;have BR:=B0.step HBr;have hPl:w.heap.size<wr.heap.size:=BR.lt;have hcI:(c:Int)≤n:=by omega
    go_upto_region 5 with fail
    go_cut [41] (fun zv wx=>zv= .bool (decide (c<j))∧Below wr.heap.size wr wx)
    case first=>
     by_cases hcn:c<n
     · obtain⟨A,off,e,hA,q0,q1,q2,q3,q4,q5,q6,q7,q8,q9,q10,q11,q12,_⟩:=HI.out.step HBr c hcn;cases e;have hv:Hid (decide (ordP (q c) p<0)=decide (c<j)):=decide_eq_decide.2 ⟨fun h=>Nat.lt_of_not_le fun hle=>by have:=HP.out.hi c hle hcn;omega,fun h=>HP.out.lo c h⟩;obtain⟨t1,t2,t3⟩:=HT.out c hcn;refine sp5 (n:=n) (cap:=gc) (A:=g) (off:=0) (c:=c) (P:=w.heap.size) (x:=(q c).1) (y:=(q c).2.1) (z:=(q c).2.2) (u:=p.1) (vv:=p.2.1) (t:=p.2.2) hcn hn2 t1 t2 t3 hp.1 hp.2.1 hp.2.2 rfl rfl rfl q0 hA q1 hA q2 hA q3 hA q4 hA q5 hA q6 hA q7 hA q8 hA q9 hA q10 hA q11 hA (BR.c 0 rfl) hPl (BR.c 1 rfl) hPl (BR.c 2 rfl) hPl (BR.c 3 rfl) hPl (BR.c 4 rfl) hPl (BR.c 5 rfl) hPl (BR.c 6 rfl) hPl (BR.c 7 rfl) hPl (BR.c 8 rfl) hPl (BR.c 9 rfl) hPl (BR.c 10 rfl) hPl (BR.c 11 rfl) hPl rfl ?_;rintro⟨tm,df⟩ Wz hz hdf hoff hx hBz;simp only at hz hdf hoff hx;change tm.getD 41 undef= .bool (decide (ordP (q c) p<0)) at hx;subst hdf;have htm:=tmps_fold [26,27,28,29,30,31,32,33,34,35,36,37,38,39,40,41] tm _ hz hoff;simp only[List.foldl,List.setIfInBounds_toArray,List.set_cons_zero,List.set_cons_succ,hx] at htm;clear hz hoff;generalize tm.getD 26 undef=u0,tm.getD 27 undef=u1,tm.getD 28 undef=u2,tm.getD 29 undef=u3,tm.getD 30 undef=u4,tm.getD 31 undef=u5,tm.getD 32 undef=u6,tm.getD 33 undef=u7,tm.getD 34 undef=u8,tm.getD 35 undef=u9,tm.getD 36 undef=u10,tm.getD 37 undef=u11,tm.getD 38 undef=u12,tm.getD 39 undef=u13,tm.getD 40 undef=u14 at htm;clear hx;subst htm;go_wp2_with fail;go_meet;exact⟨congrArg Value.bool hv.out,hBz⟩
     · obtain rfl:c=n:=by omega
       refine sp5n (n:=c) (cap:=gc) (ao:=some ⟨g,0,none⟩) rfl rfl rfl ?_;rintro⟨tm,df⟩ Wz hz hdf hoff hx hBz;simp only at hz hdf hoff hx;change tm.getD 41 undef= .bool false at hx;subst hdf;have htm:=tmps_fold [26,27,28,29,30,31,32,33,34,35,36,37,38,39,40,41] tm _ hz hoff;simp only[List.foldl,List.setIfInBounds_toArray,List.set_cons_zero,List.set_cons_succ,hx] at htm;clear hz hoff;generalize tm.getD 26 undef=u0,tm.getD 27 undef=u1,tm.getD 28 undef=u2,tm.getD 29 undef=u3,tm.getD 30 undef=u4,tm.getD 31 undef=u5,tm.getD 32 undef=u6,tm.getD 33 undef=u7,tm.getD 34 undef=u8,tm.getD 35 undef=u9,tm.getD 36 undef=u10,tm.getD 37 undef=u11,tm.getD 38 undef=u12,tm.getD 39 undef=u13,tm.getD 40 undef=u14 at htm;clear hx;subst htm;go_wp2_with fail;go_meet;exact⟨congrArg Value.bool (decide_eq_false (by omega)).symm,hBz⟩
    case rest=>
     obtain⟨hq2,hBc⟩:=hcut;subst hq2;have HBN:=HBr.trans (hBc.mono HBr.size);clear HBr hBc BR hPl
     by_cases hcj:c<j
     · rw[decide_eq_true hcj];have hcI2:(c:Int)<n:=by omega
       go_wp2;go_roundw
       case rel=>exact⟨c+1,by omega,by go_num,HBN⟩
       case measure=>simp[intOf];omega
     · obtain rfl:c=j:=by omega
       rw[decide_eq_false hcj];clear hcj hc;have BR:=B0.step HBN;have hPl:w.heap.size<wc.heap.size:=BR.lt;go_upto_region 7 with fail
       go_cut [56] (fun zv wx=>zv= .bool th∧Below wc.heap.size wc wx)
       case first=>
        by_cases hcn:c<n
        · obtain⟨A,off,e,hA,q0,q1,q2,q3,q4,q5,q6,q7,q8,q9,q10,q11,q12,_⟩:=HI.out.step HBN c hcn;cases e;obtain⟨t1,t2,t3⟩:=HT.out c hcn;have EQ:∀w,(Op.equalIn 10000 29 (PV (q c).1 (q c).2.1 (q c).2.2) (PV p.1 p.2.1 p.2.2)).run Tryz.prog w= .ok th w:=fun w=>by
           rw[eqPV _ _ _ _ _ _ t1 t2 t3 hp.1 hp.2.1 hp.2.2]
           congr 1
           cases th with
           | true=>
            have e:=(HP.out.t1 rfl).2;rw[e]
            simp
           | false=>
            have e:=(HP.out.t0 rfl hcn).2;refine Bool.eq_false_iff.2 fun hh=>e ?_;simp only[Bool.and_eq_true,decide_eq_true_eq] at hh;exact Prod.ext hh.1.1 (Prod.ext hh.1.2 hh.2)
          refine sp7 (n:=n) (cap:=gc) (A:=g) (off:=0) (c:=c) (P:=w.heap.size) (x:=(q c).1) (y:=(q c).2.1) (z:=(q c).2.2) (u:=p.1) (vv:=p.2.1) (t:=p.2.2) (be:=th) hcn hn2 EQ rfl rfl rfl q0 hA q1 hA q2 hA q3 hA q4 hA q5 hA q6 hA q7 hA q8 hA q9 hA q10 hA q11 hA (BR.c 0 rfl) hPl (BR.c 1 rfl) hPl (BR.c 2 rfl) hPl (BR.c 3 rfl) hPl (BR.c 4 rfl) hPl (BR.c 5 rfl) hPl (BR.c 6 rfl) hPl (BR.c 7 rfl) hPl (BR.c 8 rfl) hPl (BR.c 9 rfl) hPl (BR.c 10 rfl) hPl (BR.c 11 rfl) hPl rfl ?_;rintro⟨tm,df⟩ Wz hz hdf hoff hx hBz;simp only at hz hdf hoff hx;change tm.getD 56 undef= .bool th at hx;subst hdf;have htm:=tmps_fold [44,45,46,47,48,49,50,51,52,53,54,55,56] tm _ hz hoff;simp only[List.foldl,List.setIfInBounds_toArray,List.set_cons_zero,List.set_cons_succ,hx] at htm;clear hz hoff;generalize tm.getD 44 undef=u0,tm.getD 45 undef=u1,tm.getD 46 undef=u2,tm.getD 47 undef=u3,tm.getD 48 undef=u4,tm.getD 49 undef=u5,tm.getD 50 undef=u6,tm.getD 51 undef=u7,tm.getD 52 undef=u8,tm.getD 53 undef=u9,tm.getD 54 undef=u10,tm.getD 55 undef=u11 at htm;clear hx;subst htm;go_wp2_with fail;go_meet;exact⟨rfl,hBz⟩
        · obtain rfl:c=n:=by omega
          have hth:th=false:=by cases th with | false=>rfl | true=>have:=(HP.out.t1 rfl).1;omega
          subst hth;refine sp7n (n:=c) (cap:=gc) (ao:=some ⟨g,0,none⟩) rfl rfl rfl ?_;rintro⟨tm,df⟩ Wz hz hdf hoff hx hBz;simp only at hz hdf hoff hx;change tm.getD 56 undef= .bool false at hx;subst hdf;have htm:=tmps_fold [44,45,46,47,48,49,50,51,52,53,54,55,56] tm _ hz hoff;simp only[List.foldl,List.setIfInBounds_toArray,List.set_cons_zero,List.set_cons_succ,hx] at htm;clear hz hoff;generalize tm.getD 44 undef=u0,tm.getD 45 undef=u1,tm.getD 46 undef=u2,tm.getD 47 undef=u3,tm.getD 48 undef=u4,tm.getD 49 undef=u5,tm.getD 50 undef=u6,tm.getD 51 undef=u7,tm.getD 52 undef=u8,tm.getD 53 undef=u9,tm.getD 54 undef=u10,tm.getD 55 undef=u11 at htm;clear hx;subst htm;go_wp2_with fail;go_meet;exact⟨rfl,hBz⟩
       case rest=>
        rename_i hcut
        obtain⟨hq2,hBc⟩:=hcut;subst hq2
        rename World=>w5
        replace HBN:=HBN.trans (hBc.mono HBN.size);clear hBc BR hPl;have HO5:=HO.out.step HBN;have HB5:=HB.trans (HBN.mono HB.size);have B5:=B0.step HBN;clear HBN HI HO B0 HT
        rcases HR.out with ⟨rfl,h200,rfl,rfl,rfl,rfl,rfl⟩ | ⟨rfl,hlt,rfl,rfl,rfl,rfl,rfl⟩ | ⟨rfl,jn,tw,hN,rfl,rfl,rfl,rfl,rfl⟩
        · have hn3:(200:Int)≤n:=by omega
          replace HB:=HB5;clear HB5 HO5 B5 HX HLL HP HR;go_wp2;refine bodyPost_ret (v:= .tuple #[.slice none 0 0,.bool false]) (by simp[results,Tryz.results7,go_sem]) rfl ?_;exact⟨.slice none 0 0,fun _=> .slice none 0 0,rfl,.inl ⟨rfl,rfl⟩,HB⟩
        · have hn3:(n:Int)<200:=by omega
          obtain⟨i0,hi0,hz0,hz1,hz2⟩:=info_ev;have h1e:=evCs_one HO5;have HM:(w5.alloc (.cells #[] 37)).ownsRow w5.heap.size 37 13 (.slice (some ⟨w5.heap.size,0,none⟩) 0 0) 0 []:=World.ownsRow_made w5 #[] 0 (Nat.le_refl _) (by decide) rfl;have H6:Below w5.heap.size w5 (w5.alloc (.cells #[] 37)):=(Below.refl _ _).alloc (Nat.le_refl _) _;have hown6:=ownA_step HO5.own H6;have hcg:(c:Int)≤gc:=by omega
          have hcn:(c:Int)≤n:=by omega
          go_wp2_with (at_builtin;refine wpList_append_own_at _ rfl _ _ 24 rfl w5.heap.size 37 i0 (.agg #[.int .u64 0,.int .u64 0,.int .u64 0,.int .u64 0,.int .u64 0,.int .u64 0,.int .u64 0,.int .u64 0,.int .u64 0,.int .u64 0,.int .u64 0,.int .u64 0,.slice none 0 0]) 13 120 Tryz.underlying24 hi0 hz0 hz1 hz2 rfl (by decide) _ _ _ rfl HM ⟨g,0,none⟩ c gc ((evCs n (wq q) s).take (c*13)) rfl (by rw[List.length_take,evCs_len];omega) (fun j u hj=>hown6.cells rfl j u (take_get hj)) (fun u hu=>h1e u (List.mem_of_mem_take hu)) (by unfold maxLen;omega) (by omega) (by simp) ?_)
          intro v1 w6 hown1 hgrow1 _ hob1;have HB6:=H6.grown hgrow1 (by simp) (fun k hk=>(HM.lt k hk).1);have hs6:=HB6.size;clear HM H6 hown6 hgrow1 hob1;have B0:=B5.step HB6;clear B5;have m0:=B0.c 0 rfl;have m1:=B0.c 1 rfl;have m2:=B0.c 2 rfl;have m3:=B0.c 3 rfl;have m4:=B0.c 4 rfl;have m5:=B0.c 5 rfl;have m6:=B0.c 6 rfl;have m7:=B0.c 7 rfl;have m8:=B0.c 8 rfl;have m9:=B0.c 9 rfl;have m10:=B0.c 10 rfl;have m11:=B0.c 11 rfl;have HWA:Below w6.heap.size w6 (w6.alloc (.cells #[.int .i64 x] 2)):=(Below.refl _ _).alloc (Nat.le_refl _) _;have HWE:Below w6.heap.size w6 ((w6.alloc (.cells #[.int .i64 x] 2)).alloc (.cells #[.int .u64 (ww3 p.1),.int .u64 (ww2 p.1),.int .u64 (ww1 p.1),.int .u64 (ww0 p.1),.int .u64 (ww3 p.2.1),.int .u64 (ww2 p.2.1),.int .u64 (ww1 p.2.1),.int .u64 (ww0 p.2.1),.int .u64 (ww3 p.2.2),.int .u64 (ww2 p.2.2),.int .u64 (ww1 p.2.2),.int .u64 (ww0 p.2.2),(.slice (some ⟨w6.heap.size,0,none⟩) 1 1)] 37)):=HWA.alloc (by simp) _;have hsE:((w6.alloc (.cells #[.int .i64 x] 2)).alloc (.cells #[.int .u64 (ww3 p.1),.int .u64 (ww2 p.1),.int .u64 (ww1 p.1),.int .u64 (ww0 p.1),.int .u64 (ww3 p.2.1),.int .u64 (ww2 p.2.1),.int .u64 (ww1 p.2.1),.int .u64 (ww0 p.2.1),.int .u64 (ww3 p.2.2),.int .u64 (ww2 p.2.2),.int .u64 (ww1 p.2.2),.int .u64 (ww0 p.2.2),(.slice (some ⟨w6.heap.size,0,none⟩) 1 1)] 37)).heap.size=w6.heap.size+2:=by simp
          have hown1E:=ownA_step hown1 HWE
          go_wp2_with (at_builtin;refine wpList_append_own_at _ rfl _ _ 24 rfl w5.heap.size 37 i0 (.agg #[.int .u64 0,.int .u64 0,.int .u64 0,.int .u64 0,.int .u64 0,.int .u64 0,.int .u64 0,.int .u64 0,.int .u64 0,.int .u64 0,.int .u64 0,.int .u64 0,.slice none 0 0]) 13 120 Tryz.underlying24 hi0 hz0 hz1 hz2 rfl (by decide) _ _ _ rfl hown1E ⟨w6.heap.size+1,0,none⟩ 1 1 (ev13 p (.slice (some ⟨w6.heap.size,0,none⟩) 1 1)) rfl rfl (by have h:=ev13_new (w6.alloc (.cells #[.int .i64 x] 2)) p (.slice (some ⟨w6.heap.size,0,none⟩) 1 1) 37;rw[show(w6.alloc (.cells #[.int .i64 x] 2)).heap.size=w6.heap.size+1 by simp] at h;exact h) (ev13_one _ _ _ _) (by unfold maxLen;omega) (by omega) (by rw[hsE];omega) ?_)
          intro v2 w7 hown2 hgrow2 _ hob2;have HU:((w6.alloc (.cells #[.int .i64 x] 2)).alloc (.cells #[.int .u64 (ww3 p.1),.int .u64 (ww2 p.1),.int .u64 (ww1 p.1),.int .u64 (ww0 p.1),.int .u64 (ww3 p.2.1),.int .u64 (ww2 p.2.1),.int .u64 (ww1 p.2.1),.int .u64 (ww0 p.2.1),.int .u64 (ww3 p.2.2),.int .u64 (ww2 p.2.2),.int .u64 (ww1 p.2.2),.int .u64 (ww0 p.2.2),(.slice (some ⟨w6.heap.size,0,none⟩) 1 1)] 37)).ownsRow w3.heap.size 2 1 (.slice (some ⟨w6.heap.size,0,none⟩) 1 1) 1 (noL 1 (fun _=>x)):=ownA_step (own_one w6 x (by have:=HO5.own.lt g rfl;omega)) ((Below.refl _ _).alloc (Nat.le_refl _) _);have hv1:∀k,v1.ownBlock=some k→k<w6.heap.size:=fun k hk=>(hown1.lt k hk).2;replace HU:=HU.kept hgrow2 (.inr fun e=>by have:=hv1 w6.heap.size e.symm;omega);have HB7:=(HB6.trans (HWE.mono hs6)).grown hgrow2 (by rw[hsE];omega) (fun k hk=>(hown1.lt k hk).1);have hs7:w6.heap.size+2≤w7.heap.size:=by rw[←hsE];exact hgrow2.size
          have hv2:∀k,v2.ownBlock=some k→k≠w6.heap.size:=fun k hk e=>by
           rcases hob2 with h | h
           · rw[h] at hk;have:=hv1 k hk;omega
           · rw[h] at hk;cases hk;omega
          have hown7:=ownA_step HO5.own HB7;clear hown1 hown1E hgrow2 hob2 HWA HWE hsE HB6 B0;clear m0 m1 m2 m3 m4 m5 m6 m7 m8 m9 m10 m11
          by_cases hgc2:gc=c
          · obtain rfl:n=c:=by omega
            obtain rfl:gc=n:=by omega
            go_wp2_with (at_builtin;refine wpList_append_own_at _ rfl _ _ 24 rfl w5.heap.size 37 i0 (.agg #[.int .u64 0,.int .u64 0,.int .u64 0,.int .u64 0,.int .u64 0,.int .u64 0,.int .u64 0,.int .u64 0,.int .u64 0,.int .u64 0,.int .u64 0,.int .u64 0,.slice none 0 0]) 13 120 Tryz.underlying24 hi0 hz0 hz1 hz2 rfl (by decide) _ _ _ rfl hown2 ⟨g,0,none⟩ 0 0 [] rfl rfl (fun j u hj=>by cases hj) (fun u hu=>by cases hu) (by unfold maxLen;omega) (by omega) (by omega) ?_)
            intro v3 w8 hown3 hgrow3 _ hob3;replace HU:=HU.kept hgrow3 (.inr fun e=>hv2 _ e.symm rfl);have HB8:=HB7.grown hgrow3 (by omega) (fun k hk=>(hown2.lt k hk).1);have HBF:=HB5.trans (HB8.mono HB5.size);replace hown3:w8.ownsRow w5.heap.size 37 13 v3 (gc+1) ((evCs gc (wq q) s).take (gc*13) ++ev13 p (.slice (some ⟨w6.heap.size,0,none⟩) 1 1) ++(evCs gc (wq q) s).drop (gc*13)):=by rw[show(evCs gc (wq q) s).drop (gc*13)=[] from List.drop_of_length_le (by rw[evCs_len];omega)];simpa using hown3
            have hF:=HO5.ins_ (j:=gc) (p:=p) (by omega) HU (fun i hi=>ownA_step (HO5.ins i hi) HB8) (ownN_mono hown3 (by have:=HO5.own.lt g rfl;omega)) (fun i hi k hk e=>by have h1:=(HO5.ins i hi).lt k hk;have h2:=(hown3.lt k e).1;omega) (fun k hk=>by
             obtain rfl:w6.heap.size=k:=Option.some.inj hk;refine⟨fun e=>?_,fun i hi e=>by have h1:=(HO5.ins i hi).lt w6.heap.size e;omega⟩
             rcases hob3 with h | h
             · rw[h] at e;exact hv2 _ e rfl
             · rw[h] at e;have:=Option.some.inj e;omega)
            clear HO5 hown2 hown3 hgrow3 hob3 HB7 HB8 HU hown7;go_wp2;refine bodyPost_ret (v:= .tuple #[v3,.bool true]) (by simp[results,Tryz.results7,go_sem]) rfl ?_;exact⟨v3,_,rfl,hF.row.mono hb0 (Nat.le_refl _),HBF⟩
          · have hgc3:¬(gc=c):=hgc2
            go_wp2_with (at_builtin;refine wpList_append_own_at _ rfl _ _ 24 rfl w5.heap.size 37 i0 (.agg #[.int .u64 0,.int .u64 0,.int .u64 0,.int .u64 0,.int .u64 0,.int .u64 0,.int .u64 0,.int .u64 0,.int .u64 0,.int .u64 0,.int .u64 0,.int .u64 0,.slice none 0 0]) 13 120 Tryz.underlying24 hi0 hz0 hz1 hz2 rfl (by decide) _ _ _ rfl hown2 ⟨g,c*13,none⟩ (n-c) (gc-c) ((evCs n (wq q) s).drop (c*13)) rfl (by rw[List.length_drop,evCs_len];omega) (fun j u hj=>by rw[Addr.add_lit];have h:=hown7.cells rfl (c*13+j) u (by rwa [List.getElem?_drop] at hj);rwa [Addr.add_lit,Nat.zero_add] at h) (fun u hu=>h1e u (List.mem_of_mem_drop hu)) (by unfold maxLen;omega) (by omega) (by omega) ?_)
            intro v3 w8 hown3 hgrow3 _ hob3;replace HU:=HU.kept hgrow3 (.inr fun e=>hv2 _ e.symm rfl);have HB8:=HB7.grown hgrow3 (by omega) (fun k hk=>(hown2.lt k hk).1);have HBF:=HB5.trans (HB8.mono HB5.size);rw[show c+1+(n-c)=n+1 by omega,←List.append_assoc] at hown3;have hF:=HO5.ins_ (j:=c) (p:=p) (by omega) HU (fun i hi=>ownA_step (HO5.ins i hi) HB8) (ownN_mono hown3 (by have:=HO5.own.lt g rfl;omega)) (fun i hi k hk e=>by have h1:=(HO5.ins i hi).lt k hk;have h2:=(hown3.lt k e).1;omega) (fun k hk=>by
             obtain rfl:w6.heap.size=k:=Option.some.inj hk;refine⟨fun e=>?_,fun i hi e=>by have h1:=(HO5.ins i hi).lt w6.heap.size e;omega⟩
             rcases hob3 with h | h
             · rw[h] at e;exact hv2 _ e rfl
             · rw[h] at e;have:=Option.some.inj e;omega)
            clear HO5 hown2 hown3 hgrow3 hob3 HB7 HB8 HU hown7;go_wp2;refine bodyPost_ret (v:= .tuple #[v3,.bool true]) (by simp[results,Tryz.results7,go_sem]) rfl ?_;exact⟨v3,_,rfl,hF.row.mono hb0 (Nat.le_refl _),HBF⟩
        · have hcn:=(HP.out.t1 rfl).1;obtain⟨so,sc,hsc,hNI⟩:=(NoRow.of (HO5.ins c hcn)).in;have hcI3:(c:Int)<n:=by omega
          have hbk:=(ownE_blk HO5.own).c (c*13+12) (evCs_at (by omega));rw[evC_12,hsc] at hbk;have hLc:=HLL.out c hcn;go_wp2_with fail;refine(l7With_any so (L c) sc jn (E c) x tw hLc hN.le hN.lo hN.t1 hN.t0 hN.hi _ hNI).mono ?_;rintro r w6 ⟨u,rfl,hU,hB6⟩;obtain⟨uo,uc,rfl⟩:=ownE_slice hU;have HO6:=HO5.step hB6;have hbk6:=(ownE_blk HO6.own).c (c*13+12) (evCs_at (by omega));have hfk6:=(ownE_blk HO6.own).f (c*13+12) (evCs_at (by omega));have hg0:=(HO5.own.lt g rfl).1;have HBF:=(HB5.trans (hB6.mono HB5.size)).setCell (p:=⟨g,c*13+12,none⟩) (by show _≤g;omega) (.slice uo (inM (L c) tw) uc);have hF:=HO5.put_ hcn (ownN_mono hU (by have:=HO5.own.lt g rfl;omega)) (fun k hk _=>hB6.block k hk) (fun k hk=> .inr (hU.lt k hk).1);clear HO5 HO6 hU hB6 HB5 hbk hNI;go_wp2;refine bodyPost_ret (v:= .tuple #[.slice (some ⟨g,0,none⟩) n gc,.bool true]) (by simp[results,Tryz.results7,go_sem]) rfl ?_;exact⟨_,_,rfl,hF.row.mono hb0 (Nat.le_refl _),HBF⟩
end Go.Proofs.YtbogliojkabbjaaGreat
