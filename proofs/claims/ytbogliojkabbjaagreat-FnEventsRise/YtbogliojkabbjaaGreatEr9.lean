/- Part 9 of the walks that the proof leans on. -/
import Derived.Test.YtbogliojkabbjaaGreatEr8
set_option maxRecDepth 100000
set_option maxHeartbeats 16000000
namespace Go.Proofs.YtbogliojkabbjaaGreat
open Go.RowKit
def L3E (x y z:Int) (v:Value) (W:World):Prop:=
 ∃(s1:Bool) (o1:Option Addr) (n1 c1:Nat) (d1:List Int) (s2:Bool) (o2:Option Addr) (n2 c2:Nat) (d2:List Int) (s3:Bool) (o3:Option Addr) (n3 c3:Nat) (d3:List Int),v= .agg #[.bool s1,.slice o1 n1 c1,.bool s2,.slice o2 n2 c2,.bool s3,.slice o3 n3 c3]∧IsNum W s1 o1 n1 c1 d1 x 8∧IsNum W s2 o2 n2 c2 d2 y 8∧IsNum W s3 o3 n3 c3 d3 z 8
theorem L3E.step {x y z:Int} {v:Value} {W W2:World} (h:L3E x y z v W) (hB:Below W.heap.size W W2):L3E x y z v W2:=by
 obtain⟨s1,o1,n1,c1,d1,s2,o2,n2,c2,d2,s3,o3,n3,c3,d3,e,N1,N2,N3⟩:=h;exact⟨s1,o1,n1,c1,d1,s2,o2,n2,c2,d2,s3,o3,n3,c3,d3,e,N1.below hB,N2.below hB,N3.below hB⟩
def VevM_A (n cap A off c:Nat) (x y z:Int) (_B:Nat):Nat→Value→World→Prop
 | 0,v,_=>v= .slice (some ⟨A,off,none⟩) n cap
 | 1,v,_=>v= .int .i64 (c:Int)
 | 2,v,_=>v= .pointer (some ⟨A,off+c*13,none⟩)
 | 3,v,_=>v= .pointer (some ⟨A,off+c*13,none⟩)
 | 4,v,_=>v=PV x y z
 | 5,v,_=>v= .bool (ptB x y z)
 | 6,v,_=>v= .bool true
 | 7,v,_=>v= .bool true
 | 8,v,_=>v=undef
 | 9,v,_=>v=undef
 | 10,v,_=>v=undef
 | 11,v,_=>v=undef
 | 12,v,_=>v=undef
 | 13,v,_=>v=undef
 | 14,v,_=>v=undef
 | 15,v,_=>v= .bool true
 | 16,v,_=>v= .bool true
 | 17,v,_=>v=undef
 | 18,v,_=>v=undef
 | 19,v,_=>v=undef
 | 20,v,_=>v=undef
 | 21,v,_=>v=undef
 | 22,v,_=>v=undef
 | 23,v,_=>v=undef
 | 24,v,_=>v=undef
 | 25,v,_=>v=undef
 | 26,v,_=>v=undef
 | 27,v,_=>v=undef
 | 28,v,_=>v=undef
 | 29,v,_=>v=undef
 | 30,v,_=>v=undef
 | 31,v,_=>v=undef
 | 32,v,_=>v=undef
 | 33,v,_=>v=undef
 | 34,v,_=>v=undef
 | 35,v,_=>v=undef
 | 36,v,_=>v= .bool true
 | _,_,_=>True
theorem VevM_A.mono {n cap A off c:Nat} {x y z:Int} {B j:Nat} {v:Value} {W W2:World} (_hB:Below W.heap.size W W2) (h:VevM_A n cap A off c x y z B j v W):VevM_A n cap A off c x y z B j v W2:=by
 unfold VevM_A at *
 split<;>simp only at h<;>first | exact h | trivial
theorem evM_A {Q:Exit→Act→World→Prop} {n cap A off c:Nat} {x y z:Int} {m mc:Nat} {eo:Option Addr} {w0:World} {a0:Act} {idq:Nat} {t0 t1 t2 t3 t4 t5 t6 t7 t8 t9 t10 t11 t12 t13 t14 t15 t16 t17 t18 t19 t20 t21 t22 t23 t24 t25 t26 t27 t28 t29 t30 t31 t32 t33 t34 t35 t36:TypeId} {q0 q1 q2 q3 q4 q5 q6 q7 q8 q9 q10 q11 q12 q13 q14 q15 q16 q17 q18 q19 q20 q21 q22 q23 q24 q25 q26 q27 q28 q29 q30 q31 q32 q33 q34 q35 q36:String}
 (hc:c<n) (hn:n≤200) (ta:told x=true) (tb:told y=true) (tc:told z=true) (hp:ptB x y z=false) (h0:a0.tmps[0]? =some (.slice (some ⟨A,off,none⟩) n cap)) (h3:a0.tmps[3]? =some (.int .i64 (c:Int))) (k0:w0.cell? ⟨A,off+c*13,none⟩=some (.int .u64 (ww3 x))) (l0:(⟨A,off+c*13,none⟩:Addr).block<w0.heap.size) (k1:w0.cell? ⟨A,off+c*13+1,none⟩=some (.int .u64 (ww2 x))) (l1:(⟨A,off+c*13+1,none⟩:Addr).block<w0.heap.size) (k2:w0.cell? ⟨A,off+c*13+2,none⟩=some (.int .u64 (ww1 x))) (l2:(⟨A,off+c*13+2,none⟩:Addr).block<w0.heap.size) (k3:w0.cell? ⟨A,off+c*13+3,none⟩=some (.int .u64 (ww0 x))) (l3:(⟨A,off+c*13+3,none⟩:Addr).block<w0.heap.size) (k4:w0.cell? ⟨A,off+c*13+4,none⟩=some (.int .u64 (ww3 y))) (l4:(⟨A,off+c*13+4,none⟩:Addr).block<w0.heap.size) (k5:w0.cell? ⟨A,off+c*13+5,none⟩=some (.int .u64 (ww2 y))) (l5:(⟨A,off+c*13+5,none⟩:Addr).block<w0.heap.size) (k6:w0.cell? ⟨A,off+c*13+6,none⟩=some (.int .u64 (ww1 y))) (l6:(⟨A,off+c*13+6,none⟩:Addr).block<w0.heap.size) (k7:w0.cell? ⟨A,off+c*13+7,none⟩=some (.int .u64 (ww0 y))) (l7:(⟨A,off+c*13+7,none⟩:Addr).block<w0.heap.size) (k8:w0.cell? ⟨A,off+c*13+8,none⟩=some (.int .u64 (ww3 z))) (l8:(⟨A,off+c*13+8,none⟩:Addr).block<w0.heap.size) (k9:w0.cell? ⟨A,off+c*13+9,none⟩=some (.int .u64 (ww2 z))) (l9:(⟨A,off+c*13+9,none⟩:Addr).block<w0.heap.size) (k10:w0.cell? ⟨A,off+c*13+10,none⟩=some (.int .u64 (ww1 z))) (l10:(⟨A,off+c*13+10,none⟩:Addr).block<w0.heap.size) (k11:w0.cell? ⟨A,off+c*13+11,none⟩=some (.int .u64 (ww0 z))) (l11:(⟨A,off+c*13+11,none⟩:Addr).block<w0.heap.size) (k12:w0.cell? ⟨A,off+c*13+12,none⟩=some (.slice eo m mc)) (l12:(⟨A,off+c*13+12,none⟩:Addr).block<w0.heap.size) (hz:a0.tmps.size=95)
 (hQ:∀aq W,aq.tmps.size=a0.tmps.size→aq.defers=a0.defers→(∀e,e∉([14,15,16,17,18,19,20,21,22,23,24,25,26,27,28,29,30,31,32,33,34,35,36,37,38,39,40,41,42,43,44,45,46,47,48,49,50]:List Nat)→aq.tmps[e]? =a0.tmps[e]?)→VevM_A n cap A off c x y z w0.heap.size 36 (aq.tmps.getD 50 undef) W→Below w0.heap.size w0 W→Q .normal aq W) :
 (Code.region idq #[⟨some 14,.move (.tmp 0),t0,q0,#[],none⟩,
 ⟨some 15,.move (.tmp 3),t1,q1,#[],none⟩,
 ⟨some 16,.indexAddr 24 (.tmp 14) (.tmp 15),t2,q2,#[⟨0,.data⟩,⟨1,.data⟩],none⟩,
 ⟨some 17,.fieldAddr 37 (.tmp 16) 0,t3,q3,#[⟨2,.data⟩],none⟩,
 ⟨some 18,.load 29 (.tmp 17),t4,q4,#[⟨3,.data⟩],none⟩,
 ⟨some 19,.call {callee:= .value (.func 28),args:=#[.tmp 18],argTypes:=#[29]},t5,q5,#[⟨4,.data⟩],none⟩,
 ⟨some 20,.unOp .not 4 (.tmp 19),t6,q6,#[⟨5,.data⟩],none⟩,
 ⟨some 21,.move (.tmp 20),t7,q7,#[⟨6,.data⟩,⟨5,.chain⟩],none⟩,
 ⟨some 22,.move (.tmp 0),t8,q8,#[⟨7,.guard⟩],some (7,false)⟩,
 ⟨some 23,.move (.tmp 3),t9,q9,#[⟨7,.guard⟩],some (7,false)⟩,
 ⟨some 24,.indexAddr 24 (.tmp 22) (.tmp 23),t10,q10,#[⟨8,.data⟩,⟨9,.data⟩,⟨7,.guard⟩],some (7,false)⟩,
 ⟨some 25,.fieldAddr 37 (.tmp 24) 1,t11,q11,#[⟨10,.data⟩,⟨7,.guard⟩],some (7,false)⟩,
 ⟨some 26,.load 35 (.tmp 25),t12,q12,#[⟨11,.data⟩,⟨7,.guard⟩],some (7,false)⟩,
 ⟨some 27,.call {callee:= .builtin .len,args:=#[.tmp 26],argTypes:=#[35]},t13,q13,#[⟨12,.data⟩,⟨7,.guard⟩],some (7,false)⟩,
 ⟨some 28,.binOp .lss 3 (.tmp 27) (.const (.int .i64 1)) 3,t14,q14,#[⟨13,.data⟩,⟨7,.guard⟩],some (7,false)⟩,
 ⟨some 29,.pick (.tmp 21) (.const (.bool true)) (.tmp 28),t15,q15,#[⟨7,.data⟩,⟨14,.data⟩],none⟩,
 ⟨some 30,.move (.tmp 29),t16,q16,#[⟨15,.data⟩,⟨7,.chain⟩],none⟩,
 ⟨some 31,.move (.tmp 3),t17,q17,#[⟨16,.guard⟩],some (16,false)⟩,
 ⟨some 32,.binOp .gtr 3 (.tmp 31) (.const (.int .i64 0)) 3,t18,q18,#[⟨17,.data⟩,⟨16,.guard⟩],some (16,false)⟩,
 ⟨some 33,.move (.tmp 32),t19,q19,#[⟨18,.data⟩,⟨16,.chain⟩,⟨16,.guard⟩],some (16,false)⟩,
 ⟨some 34,.move (.tmp 0),t20,q20,#[⟨19,.guard⟩],some (19,true)⟩,
 ⟨some 35,.move (.tmp 3),t21,q21,#[⟨19,.guard⟩],some (19,true)⟩,
 ⟨some 36,.binOp .sub 3 (.tmp 35) (.const (.int .i64 1)) 3,t22,q22,#[⟨21,.data⟩,⟨19,.guard⟩],some (19,true)⟩,
 ⟨some 37,.indexAddr 24 (.tmp 34) (.tmp 36),t23,q23,#[⟨20,.data⟩,⟨22,.data⟩,⟨19,.guard⟩],some (19,true)⟩,
 ⟨some 38,.fieldAddr 37 (.tmp 37) 0,t24,q24,#[⟨23,.data⟩,⟨19,.guard⟩],some (19,true)⟩,
 ⟨some 39,.load 29 (.tmp 38),t25,q25,#[⟨24,.data⟩,⟨19,.guard⟩],some (19,true)⟩,
 ⟨some 40,.call {callee:= .value (.func 32),args:=#[.tmp 39],argTypes:=#[29]},t26,q26,#[⟨25,.data⟩,⟨19,.chain⟩,⟨19,.guard⟩],some (19,true)⟩,
 ⟨some 41,.move (.tmp 0),t27,q27,#[⟨19,.guard⟩],some (19,true)⟩,
 ⟨some 42,.move (.tmp 3),t28,q28,#[⟨19,.guard⟩],some (19,true)⟩,
 ⟨some 43,.indexAddr 24 (.tmp 41) (.tmp 42),t29,q29,#[⟨27,.data⟩,⟨28,.data⟩,⟨19,.guard⟩],some (19,true)⟩,
 ⟨some 44,.fieldAddr 37 (.tmp 43) 0,t30,q30,#[⟨29,.data⟩,⟨19,.guard⟩],some (19,true)⟩,
 ⟨some 45,.load 29 (.tmp 44),t31,q31,#[⟨30,.data⟩,⟨19,.guard⟩],some (19,true)⟩,
 ⟨some 46,.call {callee:= .value (.func 32),args:=#[.tmp 45],argTypes:=#[29]},t32,q32,#[⟨31,.data⟩,⟨26,.chain⟩,⟨19,.guard⟩],some (19,true)⟩,
 ⟨some 47,.call {callee:= .value (.func 31),args:=#[.tmp 40,.tmp 46],argTypes:=#[66,66]},t33,q33,#[⟨26,.data⟩,⟨32,.data⟩,⟨32,.chain⟩,⟨19,.guard⟩],some (19,true)⟩,
 ⟨some 48,.binOp .geq 2 (.tmp 47) (.const (.int .i64 0)) 2,t34,q34,#[⟨33,.data⟩,⟨19,.guard⟩],some (19,true)⟩,
 ⟨some 49,.pick (.tmp 33) (.tmp 48) (.const (.bool false)),t35,q35,#[⟨19,.data⟩,⟨34,.data⟩,⟨16,.guard⟩],some (16,false)⟩,
 ⟨some 50,.pick (.tmp 30) (.const (.bool true)) (.tmp 49),t36,q36,#[⟨16,.data⟩,⟨35,.data⟩],none⟩] true).wp Tryz.prog Q a0 w0:=by
 have hS:distS [some 14,some 15,some 16,some 17,some 18,some 19,some 20,some 21,some 22,some 23,some 24,some 25,some 26,some 27,some 28,some 29,some 30,some 31,some 32,some 33,some 34,some 35,some 36,some 37,some 38,some 39,some 40,some 41,some 42,some 43,some 44,some 45,some 46,some 47,some 48,some 49,some 50]=true:=rfl;refine wp_region_q (by kernel_rfl) w0.heap.size [some 14,some 15,some 16,some 17,some 18,some 19,some 20,some 21,some 22,some 23,some 24,some 25,some 26,some 27,some 28,some 29,some 30,some 31,some 32,some 33,some 34,some 35,some 36,some 37,some 38,some 39,some 40,some 41,some 42,some 43,some 44,some 45,some 46,some 47,some 48,some 49,some 50] (VevM_A n cap A off c x y z w0.heap.size) rfl ?_ ?_
 · intro Q lq aq W iq oq hJ2 hl ho hall;have z5:=hJ2.b;have g0:=hJ2.a h0
   have g3:=hJ2.a h3
   have c0:=hJ2.c k0 l0;have c1:=hJ2.c k1 l1;have c2:=hJ2.c k2 l2;have c3:=hJ2.c k3 l3;have c4:=hJ2.c k4 l4;have c5:=hJ2.c k5 l5;have c6:=hJ2.c k6 l6;have c7:=hJ2.c k7 l7;have c8:=hJ2.c k8 l8;have c9:=hJ2.c k9 l9;have c10:=hJ2.c k10 l10;have c11:=hJ2.c k11 l11;have c12:=hJ2.c k12 l12
   clear hQ
   match iq,ho with
   | 0,ho=>
    cases ho;refine wpOp_of rfl rfl ?_;have hK:=hJ2.gO hS 0 14;generalize InvQ _ _ _ _ _ _=K at hK⊢;clear ho hall hl hJ2 hS;go_simp;exact hK _ rfl
   | 1,ho=>
    cases ho;refine wpOp_of rfl rfl ?_;have hK:=hJ2.gO hS 1 15;generalize InvQ _ _ _ _ _ _=K at hK⊢;clear ho hall hl hJ2 hS;go_simp;exact hK _ rfl
   | 2,ho=>
    cases ho;refine wpOp_of rfl rfl ?_;have f0:_=Value.slice (some ⟨A,off,none⟩) n cap:=hJ2.v hall 0 14;have f1:_=Value.int .i64 (c:Int):=hJ2.v hall 1 15;have hcI:(c:Int)<n:=by omega
    have hnI:(n:Int)≤200:=by omega
    have hK:=hJ2.gO hS 2 16;generalize InvQ _ _ _ _ _ _=K at hK⊢;clear ho hall hl hJ2 hS;go_simp;exact hK _ rfl
   | 3,ho=>
    cases ho;refine wpOp_of rfl rfl ?_;have f2:_=Value.pointer (some ⟨A,off+c*13,none⟩):=hJ2.v hall 2 16;have hK:=hJ2.gO hS 3 17;generalize InvQ _ _ _ _ _ _=K at hK⊢;clear ho hall hl hJ2 hS;go_simp;exact hK _ rfl
   | 4,ho=>
    cases ho;refine wpOp_of rfl rfl ?_;have f3:_=Value.pointer (some ⟨A,off+c*13,none⟩):=hJ2.v hall 3 17;have hK:=hJ2.gO hS 4 18;generalize InvQ _ _ _ _ _ _=K at hK⊢;clear ho hall hl hJ2 hS;go_simp;exact hK _ rfl
   | 5,ho=>
    cases ho;refine wpOp_of rfl rfl ?_;have f4:_=PV x y z:=hJ2.v hall 4 18;have hK:=hJ2.go hS 5 19;generalize InvQ _ _ _ _ _ _=K at hK⊢;clear ho hall hl hJ2 hS;go_simp;refine(specPointOk_det x y z ta tb tc W).mono ?_;rintro e v1 ⟨rfl,hBv⟩;exact hK _ _ (z5.trans (hBv.mono z5.size)) (fun j v h=>h.mono hBv) rfl
   | 6,ho=>
    cases ho;refine wpOp_of rfl rfl ?_;have f5:_=Value.bool (ptB x y z):=hJ2.v hall 5 19;rw[hp] at f5;have hK:=hJ2.gO hS 6 20;generalize InvQ _ _ _ _ _ _=K at hK⊢;clear ho hall hl hJ2 hS;go_simp;exact hK _ rfl
   | 7,ho=>
    cases ho;refine wpOp_of rfl rfl ?_;have f6:_=Value.bool true:=hJ2.v hall 6 20;have hK:=hJ2.gO hS 7 21;generalize InvQ _ _ _ _ _ _=K at hK⊢;clear ho hall hl hJ2 hS;go_simp;exact hK _ rfl
   | 8,ho=>
    cases ho;have fg:aq.tmps.getD 21 undef= .bool true:=hJ2.v hall 7 21 .guard;refine wpOp_off rfl rfl rfl rfl fg ?_;exact hJ2.put hS 8 22 rfl (by omega) z5 (fun _ _ h=>h) undef rfl
   | 9,ho=>
    cases ho;have fg:aq.tmps.getD 21 undef= .bool true:=hJ2.v hall 7 21 .guard;refine wpOp_off rfl rfl rfl rfl fg ?_;exact hJ2.put hS 9 23 rfl (by omega) z5 (fun _ _ h=>h) undef rfl
   | 10,ho=>
    cases ho;have fg:aq.tmps.getD 21 undef= .bool true:=hJ2.v hall 7 21 .guard;refine wpOp_off rfl rfl rfl rfl fg ?_;exact hJ2.put hS 10 24 rfl (by omega) z5 (fun _ _ h=>h) undef rfl
   | 11,ho=>
    cases ho;have fg:aq.tmps.getD 21 undef= .bool true:=hJ2.v hall 7 21 .guard;refine wpOp_off rfl rfl rfl rfl fg ?_;exact hJ2.put hS 11 25 rfl (by omega) z5 (fun _ _ h=>h) undef rfl
   | 12,ho=>
    cases ho;have fg:aq.tmps.getD 21 undef= .bool true:=hJ2.v hall 7 21 .guard;refine wpOp_off rfl rfl rfl rfl fg ?_;exact hJ2.put hS 12 26 rfl (by omega) z5 (fun _ _ h=>h) undef rfl
   | 13,ho=>
    cases ho;have fg:aq.tmps.getD 21 undef= .bool true:=hJ2.v hall 7 21 .guard;refine wpOp_off rfl rfl rfl rfl fg ?_;exact hJ2.put hS 13 27 rfl (by omega) z5 (fun _ _ h=>h) undef rfl
   | 14,ho=>
    cases ho;have fg:aq.tmps.getD 21 undef= .bool true:=hJ2.v hall 7 21 .guard;refine wpOp_off rfl rfl rfl rfl fg ?_;exact hJ2.put hS 14 28 rfl (by omega) z5 (fun _ _ h=>h) undef rfl
   | 15,ho=>
    cases ho;refine wpOp_of rfl rfl ?_;have f7:_=Value.bool true:=hJ2.v hall 7 21;have f14:_=undef:=hJ2.v hall 14 28;have hK:=hJ2.gO hS 15 29;generalize InvQ _ _ _ _ _ _=K at hK⊢;clear ho hall hl hJ2 hS;go_simp;exact hK _ rfl
   | 16,ho=>
    cases ho;refine wpOp_of rfl rfl ?_;have f15:_=Value.bool true:=hJ2.v hall 15 29;have hK:=hJ2.gO hS 16 30;generalize InvQ _ _ _ _ _ _=K at hK⊢;clear ho hall hl hJ2 hS;go_simp;exact hK _ rfl
   | 17,ho=>
    cases ho;have fg:aq.tmps.getD 30 undef= .bool true:=hJ2.v hall 16 30 .guard;refine wpOp_off rfl rfl rfl rfl fg ?_;exact hJ2.put hS 17 31 rfl (by omega) z5 (fun _ _ h=>h) undef rfl
   | 18,ho=>
    cases ho;have fg:aq.tmps.getD 30 undef= .bool true:=hJ2.v hall 16 30 .guard;refine wpOp_off rfl rfl rfl rfl fg ?_;exact hJ2.put hS 18 32 rfl (by omega) z5 (fun _ _ h=>h) undef rfl
   | 19,ho=>
    cases ho;have fg:aq.tmps.getD 30 undef= .bool true:=hJ2.v hall 16 30 .guard;refine wpOp_off rfl rfl rfl rfl fg ?_;exact hJ2.put hS 19 33 rfl (by omega) z5 (fun _ _ h=>h) undef rfl
   | 20,ho=>
    cases ho;have fg:aq.tmps.getD 33 undef=undef:=hJ2.v hall 19 33 .guard;refine wpOp_offu rfl rfl rfl rfl fg ?_;exact hJ2.put hS 20 34 rfl (by omega) z5 (fun _ _ h=>h) undef rfl
   | 21,ho=>
    cases ho;have fg:aq.tmps.getD 33 undef=undef:=hJ2.v hall 19 33 .guard;refine wpOp_offu rfl rfl rfl rfl fg ?_;exact hJ2.put hS 21 35 rfl (by omega) z5 (fun _ _ h=>h) undef rfl
   | 22,ho=>
    cases ho;have fg:aq.tmps.getD 33 undef=undef:=hJ2.v hall 19 33 .guard;refine wpOp_offu rfl rfl rfl rfl fg ?_;exact hJ2.put hS 22 36 rfl (by omega) z5 (fun _ _ h=>h) undef rfl
   | 23,ho=>
    cases ho;have fg:aq.tmps.getD 33 undef=undef:=hJ2.v hall 19 33 .guard;refine wpOp_offu rfl rfl rfl rfl fg ?_;exact hJ2.put hS 23 37 rfl (by omega) z5 (fun _ _ h=>h) undef rfl
   | 24,ho=>
    cases ho;have fg:aq.tmps.getD 33 undef=undef:=hJ2.v hall 19 33 .guard;refine wpOp_offu rfl rfl rfl rfl fg ?_;exact hJ2.put hS 24 38 rfl (by omega) z5 (fun _ _ h=>h) undef rfl
   | 25,ho=>
    cases ho;have fg:aq.tmps.getD 33 undef=undef:=hJ2.v hall 19 33 .guard;refine wpOp_offu rfl rfl rfl rfl fg ?_;exact hJ2.put hS 25 39 rfl (by omega) z5 (fun _ _ h=>h) undef rfl
   | 26,ho=>
    cases ho;have fg:aq.tmps.getD 33 undef=undef:=hJ2.v hall 19 33 .guard;refine wpOp_offu rfl rfl rfl rfl fg ?_;exact hJ2.put hS 26 40 rfl (by omega) z5 (fun _ _ h=>h) undef rfl
   | 27,ho=>
    cases ho;have fg:aq.tmps.getD 33 undef=undef:=hJ2.v hall 19 33 .guard;refine wpOp_offu rfl rfl rfl rfl fg ?_;exact hJ2.put hS 27 41 rfl (by omega) z5 (fun _ _ h=>h) undef rfl
   | 28,ho=>
    cases ho;have fg:aq.tmps.getD 33 undef=undef:=hJ2.v hall 19 33 .guard;refine wpOp_offu rfl rfl rfl rfl fg ?_;exact hJ2.put hS 28 42 rfl (by omega) z5 (fun _ _ h=>h) undef rfl
   | 29,ho=>
    cases ho;have fg:aq.tmps.getD 33 undef=undef:=hJ2.v hall 19 33 .guard;refine wpOp_offu rfl rfl rfl rfl fg ?_;exact hJ2.put hS 29 43 rfl (by omega) z5 (fun _ _ h=>h) undef rfl
   | 30,ho=>
    cases ho;have fg:aq.tmps.getD 33 undef=undef:=hJ2.v hall 19 33 .guard;refine wpOp_offu rfl rfl rfl rfl fg ?_;exact hJ2.put hS 30 44 rfl (by omega) z5 (fun _ _ h=>h) undef rfl
   | 31,ho=>
    cases ho;have fg:aq.tmps.getD 33 undef=undef:=hJ2.v hall 19 33 .guard;refine wpOp_offu rfl rfl rfl rfl fg ?_;exact hJ2.put hS 31 45 rfl (by omega) z5 (fun _ _ h=>h) undef rfl
   | 32,ho=>
    cases ho;have fg:aq.tmps.getD 33 undef=undef:=hJ2.v hall 19 33 .guard;refine wpOp_offu rfl rfl rfl rfl fg ?_;exact hJ2.put hS 32 46 rfl (by omega) z5 (fun _ _ h=>h) undef rfl
   | 33,ho=>
    cases ho;have fg:aq.tmps.getD 33 undef=undef:=hJ2.v hall 19 33 .guard;refine wpOp_offu rfl rfl rfl rfl fg ?_;exact hJ2.put hS 33 47 rfl (by omega) z5 (fun _ _ h=>h) undef rfl
   | 34,ho=>
    cases ho;have fg:aq.tmps.getD 33 undef=undef:=hJ2.v hall 19 33 .guard;refine wpOp_offu rfl rfl rfl rfl fg ?_;exact hJ2.put hS 34 48 rfl (by omega) z5 (fun _ _ h=>h) undef rfl
   | 35,ho=>
    cases ho;have fg:aq.tmps.getD 30 undef= .bool true:=hJ2.v hall 16 30 .guard;refine wpOp_off rfl rfl rfl rfl fg ?_;exact hJ2.put hS 35 49 rfl (by omega) z5 (fun _ _ h=>h) undef rfl
   | 36,ho=>
    cases ho;refine wpOp_of rfl rfl ?_;have f16:_=Value.bool true:=hJ2.v hall 16 30;have f35:_=undef:=hJ2.v hall 35 49;have hK:=hJ2.gO hS 36 50;generalize InvQ _ _ _ _ _ _=K at hK⊢;clear ho hall hl hJ2 hS;go_simp;exact hK _ rfl
   | iq+37,ho=>simp at ho
 · intro lq aq W hJ hr;obtain⟨z1,z2,z3,z4,z5,z6,z7⟩:=hJ;have hl:=listed_of hr [0,1,2,3,4,5,6,7,8,9,10,11,12,13,14,15,16,17,18,19,20,21,22,23,24,25,26,27,28,29,30,31,32,33,34,35,36] [] (by simp) (by kernel_rfl) (by rw[z1];decide);exact hQ aq W z2 z3 (fun e he=>z4 e (by simpa using he)) (z6 36 50 (hl 36 (by simp)) rfl) z5
def VevM_B (n cap A off c m mc:Nat) (eo:Option Addr) (x y z:Int) (_B:Nat):Nat→Value→World→Prop
 | 0,v,_=>v= .slice (some ⟨A,off,none⟩) n cap
 | 1,v,_=>v= .int .i64 (c:Int)
 | 2,v,_=>v= .pointer (some ⟨A,off+c*13,none⟩)
 | 3,v,_=>v= .pointer (some ⟨A,off+c*13,none⟩)
 | 4,v,_=>v=PV x y z
 | 5,v,_=>v= .bool (ptB x y z)
 | 6,v,_=>v= .bool false
 | 7,v,_=>v= .bool false
 | 8,v,_=>v= .slice (some ⟨A,off,none⟩) n cap
 | 9,v,_=>v= .int .i64 (c:Int)
 | 10,v,_=>v= .pointer (some ⟨A,off+c*13,none⟩)
 | 11,v,_=>v= .pointer (some ⟨A,off+c*13+12,none⟩)
 | 12,v,_=>v= .slice eo m mc
 | 13,v,_=>v= .int .i64 (m:Int)
 | 14,v,_=>v= .bool true
 | 15,v,_=>v= .bool true
 | 16,v,_=>v= .bool true
 | 17,v,_=>v=undef
 | 18,v,_=>v=undef
 | 19,v,_=>v=undef
 | 20,v,_=>v=undef
 | 21,v,_=>v=undef
 | 22,v,_=>v=undef
 | 23,v,_=>v=undef
 | 24,v,_=>v=undef
 | 25,v,_=>v=undef
 | 26,v,_=>v=undef
 | 27,v,_=>v=undef
 | 28,v,_=>v=undef
 | 29,v,_=>v=undef
 | 30,v,_=>v=undef
 | 31,v,_=>v=undef
 | 32,v,_=>v=undef
 | 33,v,_=>v=undef
 | 34,v,_=>v=undef
 | 35,v,_=>v=undef
 | 36,v,_=>v= .bool true
 | _,_,_=>True
theorem VevM_B.mono {n cap A off c m mc:Nat} {eo:Option Addr} {x y z:Int} {B j:Nat} {v:Value} {W W2:World} (_hB:Below W.heap.size W W2) (h:VevM_B n cap A off c m mc eo x y z B j v W):VevM_B n cap A off c m mc eo x y z B j v W2:=by
 unfold VevM_B at *
 split<;>simp only at h<;>first | exact h | trivial
theorem evM_B {Q:Exit→Act→World→Prop} {n cap A off c m mc:Nat} {eo:Option Addr} {x y z:Int} {w0:World} {a0:Act} {idq:Nat} {t0 t1 t2 t3 t4 t5 t6 t7 t8 t9 t10 t11 t12 t13 t14 t15 t16 t17 t18 t19 t20 t21 t22 t23 t24 t25 t26 t27 t28 t29 t30 t31 t32 t33 t34 t35 t36:TypeId} {q0 q1 q2 q3 q4 q5 q6 q7 q8 q9 q10 q11 q12 q13 q14 q15 q16 q17 q18 q19 q20 q21 q22 q23 q24 q25 q26 q27 q28 q29 q30 q31 q32 q33 q34 q35 q36:String}
 (hc:c<n) (hn:n≤200) (ta:told x=true) (tb:told y=true) (tc:told z=true) (hp:ptB x y z=true) (hm:m<1) (h0:a0.tmps[0]? =some (.slice (some ⟨A,off,none⟩) n cap)) (h3:a0.tmps[3]? =some (.int .i64 (c:Int))) (k0:w0.cell? ⟨A,off+c*13,none⟩=some (.int .u64 (ww3 x))) (l0:(⟨A,off+c*13,none⟩:Addr).block<w0.heap.size) (k1:w0.cell? ⟨A,off+c*13+1,none⟩=some (.int .u64 (ww2 x))) (l1:(⟨A,off+c*13+1,none⟩:Addr).block<w0.heap.size) (k2:w0.cell? ⟨A,off+c*13+2,none⟩=some (.int .u64 (ww1 x))) (l2:(⟨A,off+c*13+2,none⟩:Addr).block<w0.heap.size) (k3:w0.cell? ⟨A,off+c*13+3,none⟩=some (.int .u64 (ww0 x))) (l3:(⟨A,off+c*13+3,none⟩:Addr).block<w0.heap.size) (k4:w0.cell? ⟨A,off+c*13+4,none⟩=some (.int .u64 (ww3 y))) (l4:(⟨A,off+c*13+4,none⟩:Addr).block<w0.heap.size) (k5:w0.cell? ⟨A,off+c*13+5,none⟩=some (.int .u64 (ww2 y))) (l5:(⟨A,off+c*13+5,none⟩:Addr).block<w0.heap.size) (k6:w0.cell? ⟨A,off+c*13+6,none⟩=some (.int .u64 (ww1 y))) (l6:(⟨A,off+c*13+6,none⟩:Addr).block<w0.heap.size) (k7:w0.cell? ⟨A,off+c*13+7,none⟩=some (.int .u64 (ww0 y))) (l7:(⟨A,off+c*13+7,none⟩:Addr).block<w0.heap.size) (k8:w0.cell? ⟨A,off+c*13+8,none⟩=some (.int .u64 (ww3 z))) (l8:(⟨A,off+c*13+8,none⟩:Addr).block<w0.heap.size) (k9:w0.cell? ⟨A,off+c*13+9,none⟩=some (.int .u64 (ww2 z))) (l9:(⟨A,off+c*13+9,none⟩:Addr).block<w0.heap.size) (k10:w0.cell? ⟨A,off+c*13+10,none⟩=some (.int .u64 (ww1 z))) (l10:(⟨A,off+c*13+10,none⟩:Addr).block<w0.heap.size) (k11:w0.cell? ⟨A,off+c*13+11,none⟩=some (.int .u64 (ww0 z))) (l11:(⟨A,off+c*13+11,none⟩:Addr).block<w0.heap.size) (k12:w0.cell? ⟨A,off+c*13+12,none⟩=some (.slice eo m mc)) (l12:(⟨A,off+c*13+12,none⟩:Addr).block<w0.heap.size) (hz:a0.tmps.size=95)
 (hQ:∀aq W,aq.tmps.size=a0.tmps.size→aq.defers=a0.defers→(∀e,e∉([14,15,16,17,18,19,20,21,22,23,24,25,26,27,28,29,30,31,32,33,34,35,36,37,38,39,40,41,42,43,44,45,46,47,48,49,50]:List Nat)→aq.tmps[e]? =a0.tmps[e]?)→VevM_B n cap A off c m mc eo x y z w0.heap.size 36 (aq.tmps.getD 50 undef) W→Below w0.heap.size w0 W→Q .normal aq W) :
 (Code.region idq #[⟨some 14,.move (.tmp 0),t0,q0,#[],none⟩,
 ⟨some 15,.move (.tmp 3),t1,q1,#[],none⟩,
 ⟨some 16,.indexAddr 24 (.tmp 14) (.tmp 15),t2,q2,#[⟨0,.data⟩,⟨1,.data⟩],none⟩,
 ⟨some 17,.fieldAddr 37 (.tmp 16) 0,t3,q3,#[⟨2,.data⟩],none⟩,
 ⟨some 18,.load 29 (.tmp 17),t4,q4,#[⟨3,.data⟩],none⟩,
 ⟨some 19,.call {callee:= .value (.func 28),args:=#[.tmp 18],argTypes:=#[29]},t5,q5,#[⟨4,.data⟩],none⟩,
 ⟨some 20,.unOp .not 4 (.tmp 19),t6,q6,#[⟨5,.data⟩],none⟩,
 ⟨some 21,.move (.tmp 20),t7,q7,#[⟨6,.data⟩,⟨5,.chain⟩],none⟩,
 ⟨some 22,.move (.tmp 0),t8,q8,#[⟨7,.guard⟩],some (7,false)⟩,
 ⟨some 23,.move (.tmp 3),t9,q9,#[⟨7,.guard⟩],some (7,false)⟩,
 ⟨some 24,.indexAddr 24 (.tmp 22) (.tmp 23),t10,q10,#[⟨8,.data⟩,⟨9,.data⟩,⟨7,.guard⟩],some (7,false)⟩,
 ⟨some 25,.fieldAddr 37 (.tmp 24) 1,t11,q11,#[⟨10,.data⟩,⟨7,.guard⟩],some (7,false)⟩,
 ⟨some 26,.load 35 (.tmp 25),t12,q12,#[⟨11,.data⟩,⟨7,.guard⟩],some (7,false)⟩,
 ⟨some 27,.call {callee:= .builtin .len,args:=#[.tmp 26],argTypes:=#[35]},t13,q13,#[⟨12,.data⟩,⟨7,.guard⟩],some (7,false)⟩,
 ⟨some 28,.binOp .lss 3 (.tmp 27) (.const (.int .i64 1)) 3,t14,q14,#[⟨13,.data⟩,⟨7,.guard⟩],some (7,false)⟩,
 ⟨some 29,.pick (.tmp 21) (.const (.bool true)) (.tmp 28),t15,q15,#[⟨7,.data⟩,⟨14,.data⟩],none⟩,
 ⟨some 30,.move (.tmp 29),t16,q16,#[⟨15,.data⟩,⟨7,.chain⟩],none⟩,
 ⟨some 31,.move (.tmp 3),t17,q17,#[⟨16,.guard⟩],some (16,false)⟩,
 ⟨some 32,.binOp .gtr 3 (.tmp 31) (.const (.int .i64 0)) 3,t18,q18,#[⟨17,.data⟩,⟨16,.guard⟩],some (16,false)⟩,
 ⟨some 33,.move (.tmp 32),t19,q19,#[⟨18,.data⟩,⟨16,.chain⟩,⟨16,.guard⟩],some (16,false)⟩,
 ⟨some 34,.move (.tmp 0),t20,q20,#[⟨19,.guard⟩],some (19,true)⟩,
 ⟨some 35,.move (.tmp 3),t21,q21,#[⟨19,.guard⟩],some (19,true)⟩,
 ⟨some 36,.binOp .sub 3 (.tmp 35) (.const (.int .i64 1)) 3,t22,q22,#[⟨21,.data⟩,⟨19,.guard⟩],some (19,true)⟩,
 ⟨some 37,.indexAddr 24 (.tmp 34) (.tmp 36),t23,q23,#[⟨20,.data⟩,⟨22,.data⟩,⟨19,.guard⟩],some (19,true)⟩,
 ⟨some 38,.fieldAddr 37 (.tmp 37) 0,t24,q24,#[⟨23,.data⟩,⟨19,.guard⟩],some (19,true)⟩,
 ⟨some 39,.load 29 (.tmp 38),t25,q25,#[⟨24,.data⟩,⟨19,.guard⟩],some (19,true)⟩,
 ⟨some 40,.call {callee:= .value (.func 32),args:=#[.tmp 39],argTypes:=#[29]},t26,q26,#[⟨25,.data⟩,⟨19,.chain⟩,⟨19,.guard⟩],some (19,true)⟩,
 ⟨some 41,.move (.tmp 0),t27,q27,#[⟨19,.guard⟩],some (19,true)⟩,
 ⟨some 42,.move (.tmp 3),t28,q28,#[⟨19,.guard⟩],some (19,true)⟩,
 ⟨some 43,.indexAddr 24 (.tmp 41) (.tmp 42),t29,q29,#[⟨27,.data⟩,⟨28,.data⟩,⟨19,.guard⟩],some (19,true)⟩,
 ⟨some 44,.fieldAddr 37 (.tmp 43) 0,t30,q30,#[⟨29,.data⟩,⟨19,.guard⟩],some (19,true)⟩,
 ⟨some 45,.load 29 (.tmp 44),t31,q31,#[⟨30,.data⟩,⟨19,.guard⟩],some (19,true)⟩,
 ⟨some 46,.call {callee:= .value (.func 32),args:=#[.tmp 45],argTypes:=#[29]},t32,q32,#[⟨31,.data⟩,⟨26,.chain⟩,⟨19,.guard⟩],some (19,true)⟩,
 ⟨some 47,.call {callee:= .value (.func 31),args:=#[.tmp 40,.tmp 46],argTypes:=#[66,66]},t33,q33,#[⟨26,.data⟩,⟨32,.data⟩,⟨32,.chain⟩,⟨19,.guard⟩],some (19,true)⟩,
 ⟨some 48,.binOp .geq 2 (.tmp 47) (.const (.int .i64 0)) 2,t34,q34,#[⟨33,.data⟩,⟨19,.guard⟩],some (19,true)⟩,
 ⟨some 49,.pick (.tmp 33) (.tmp 48) (.const (.bool false)),t35,q35,#[⟨19,.data⟩,⟨34,.data⟩,⟨16,.guard⟩],some (16,false)⟩,
 ⟨some 50,.pick (.tmp 30) (.const (.bool true)) (.tmp 49),t36,q36,#[⟨16,.data⟩,⟨35,.data⟩],none⟩] true).wp Tryz.prog Q a0 w0:=by
 have hS:distS [some 14,some 15,some 16,some 17,some 18,some 19,some 20,some 21,some 22,some 23,some 24,some 25,some 26,some 27,some 28,some 29,some 30,some 31,some 32,some 33,some 34,some 35,some 36,some 37,some 38,some 39,some 40,some 41,some 42,some 43,some 44,some 45,some 46,some 47,some 48,some 49,some 50]=true:=rfl;refine wp_region_q (by kernel_rfl) w0.heap.size [some 14,some 15,some 16,some 17,some 18,some 19,some 20,some 21,some 22,some 23,some 24,some 25,some 26,some 27,some 28,some 29,some 30,some 31,some 32,some 33,some 34,some 35,some 36,some 37,some 38,some 39,some 40,some 41,some 42,some 43,some 44,some 45,some 46,some 47,some 48,some 49,some 50] (VevM_B n cap A off c m mc eo x y z w0.heap.size) rfl ?_ ?_
 · intro Q lq aq W iq oq hJ2 hl ho hall;have z5:=hJ2.b;have g0:=hJ2.a h0
   have g3:=hJ2.a h3
   have c0:=hJ2.c k0 l0;have c1:=hJ2.c k1 l1;have c2:=hJ2.c k2 l2;have c3:=hJ2.c k3 l3;have c4:=hJ2.c k4 l4;have c5:=hJ2.c k5 l5;have c6:=hJ2.c k6 l6;have c7:=hJ2.c k7 l7;have c8:=hJ2.c k8 l8;have c9:=hJ2.c k9 l9;have c10:=hJ2.c k10 l10;have c11:=hJ2.c k11 l11;have c12:=hJ2.c k12 l12
   clear hQ
   match iq,ho with
   | 0,ho=>
    cases ho;refine wpOp_of rfl rfl ?_;have hK:=hJ2.gO hS 0 14;generalize InvQ _ _ _ _ _ _=K at hK⊢;clear ho hall hl hJ2 hS;go_simp;exact hK _ rfl
   | 1,ho=>
    cases ho;refine wpOp_of rfl rfl ?_;have hK:=hJ2.gO hS 1 15;generalize InvQ _ _ _ _ _ _=K at hK⊢;clear ho hall hl hJ2 hS;go_simp;exact hK _ rfl
   | 2,ho=>
    cases ho;refine wpOp_of rfl rfl ?_;have f0:_=Value.slice (some ⟨A,off,none⟩) n cap:=hJ2.v hall 0 14;have f1:_=Value.int .i64 (c:Int):=hJ2.v hall 1 15;have hcI:(c:Int)<n:=by omega
    have hnI:(n:Int)≤200:=by omega
    have hK:=hJ2.gO hS 2 16;generalize InvQ _ _ _ _ _ _=K at hK⊢;clear ho hall hl hJ2 hS;go_simp;exact hK _ rfl
   | 3,ho=>
    cases ho;refine wpOp_of rfl rfl ?_;have f2:_=Value.pointer (some ⟨A,off+c*13,none⟩):=hJ2.v hall 2 16;have hK:=hJ2.gO hS 3 17;generalize InvQ _ _ _ _ _ _=K at hK⊢;clear ho hall hl hJ2 hS;go_simp;exact hK _ rfl
   | 4,ho=>
    cases ho;refine wpOp_of rfl rfl ?_;have f3:_=Value.pointer (some ⟨A,off+c*13,none⟩):=hJ2.v hall 3 17;have hK:=hJ2.gO hS 4 18;generalize InvQ _ _ _ _ _ _=K at hK⊢;clear ho hall hl hJ2 hS;go_simp;exact hK _ rfl
   | 5,ho=>
    cases ho;refine wpOp_of rfl rfl ?_;have f4:_=PV x y z:=hJ2.v hall 4 18;have hK:=hJ2.go hS 5 19;generalize InvQ _ _ _ _ _ _=K at hK⊢;clear ho hall hl hJ2 hS;go_simp;refine(specPointOk_det x y z ta tb tc W).mono ?_;rintro e v1 ⟨rfl,hBv⟩;exact hK _ _ (z5.trans (hBv.mono z5.size)) (fun j v h=>h.mono hBv) rfl
   | 6,ho=>
    cases ho;refine wpOp_of rfl rfl ?_;have f5:_=Value.bool (ptB x y z):=hJ2.v hall 5 19;rw[hp] at f5;have hK:=hJ2.gO hS 6 20;generalize InvQ _ _ _ _ _ _=K at hK⊢;clear ho hall hl hJ2 hS;go_simp;exact hK _ rfl
   | 7,ho=>
    cases ho;refine wpOp_of rfl rfl ?_;have f6:_=Value.bool false:=hJ2.v hall 6 20;have hK:=hJ2.gO hS 7 21;generalize InvQ _ _ _ _ _ _=K at hK⊢;clear ho hall hl hJ2 hS;go_simp;exact hK _ rfl
   | 8,ho=>
    cases ho;have fg:aq.tmps.getD 21 undef= .bool false:=hJ2.v hall 7 21 .guard;refine wpOp_on rfl rfl rfl rfl fg ?_;have hK:=hJ2.gO hS 8 22;generalize InvQ _ _ _ _ _ _=K at hK⊢;clear ho hall hl hJ2 hS;go_simp;exact hK _ rfl
   | 9,ho=>
    cases ho;have fg:aq.tmps.getD 21 undef= .bool false:=hJ2.v hall 7 21 .guard;refine wpOp_on rfl rfl rfl rfl fg ?_;have hK:=hJ2.gO hS 9 23;generalize InvQ _ _ _ _ _ _=K at hK⊢;clear ho hall hl hJ2 hS;go_simp;exact hK _ rfl
   | 10,ho=>
    cases ho;have fg:aq.tmps.getD 21 undef= .bool false:=hJ2.v hall 7 21 .guard;refine wpOp_on rfl rfl rfl rfl fg ?_;have f8:_=Value.slice (some ⟨A,off,none⟩) n cap:=hJ2.v hall 8 22;have f9:_=Value.int .i64 (c:Int):=hJ2.v hall 9 23;have hcI:(c:Int)<n:=by omega
    have hnI:(n:Int)≤200:=by omega
    have hK:=hJ2.gO hS 10 24;generalize InvQ _ _ _ _ _ _=K at hK⊢;clear ho hall hl hJ2 hS;go_simp;exact hK _ rfl
   | 11,ho=>
    cases ho;have fg:aq.tmps.getD 21 undef= .bool false:=hJ2.v hall 7 21 .guard;refine wpOp_on rfl rfl rfl rfl fg ?_;have f10:_=Value.pointer (some ⟨A,off+c*13,none⟩):=hJ2.v hall 10 24;have hK:=hJ2.gO hS 11 25;generalize InvQ _ _ _ _ _ _=K at hK⊢;clear ho hall hl hJ2 hS;go_simp;exact hK _ rfl
   | 12,ho=>
    cases ho;have fg:aq.tmps.getD 21 undef= .bool false:=hJ2.v hall 7 21 .guard;refine wpOp_on rfl rfl rfl rfl fg ?_;have f11:_=Value.pointer (some ⟨A,off+c*13+12,none⟩):=hJ2.v hall 11 25;have hK:=hJ2.gO hS 12 26;generalize InvQ _ _ _ _ _ _=K at hK⊢;clear ho hall hl hJ2 hS;go_simp;exact hK _ rfl
   | 13,ho=>
    cases ho;have fg:aq.tmps.getD 21 undef= .bool false:=hJ2.v hall 7 21 .guard;refine wpOp_on rfl rfl rfl rfl fg ?_;have f12:_=Value.slice eo m mc:=hJ2.v hall 12 26;have hK:=hJ2.gO hS 13 27;generalize InvQ _ _ _ _ _ _=K at hK⊢;clear ho hall hl hJ2 hS;go_simp;exact hK _ rfl
   | 14,ho=>
    cases ho;have fg:aq.tmps.getD 21 undef= .bool false:=hJ2.v hall 7 21 .guard;refine wpOp_on rfl rfl rfl rfl fg ?_;have f13:_=Value.int .i64 (m:Int):=hJ2.v hall 13 27;have hgt:(m:Int)<1:=by omega
    have hK:=hJ2.gO hS 14 28;generalize InvQ _ _ _ _ _ _=K at hK⊢;clear ho hall hl hJ2 hS;go_simp;exact hK _ rfl
   | 15,ho=>
    cases ho;refine wpOp_of rfl rfl ?_;have f7:_=Value.bool false:=hJ2.v hall 7 21;have f14:_=Value.bool true:=hJ2.v hall 14 28;have hK:=hJ2.gO hS 15 29;generalize InvQ _ _ _ _ _ _=K at hK⊢;clear ho hall hl hJ2 hS;go_simp;exact hK _ rfl
   | 16,ho=>
    cases ho;refine wpOp_of rfl rfl ?_;have f15:_=Value.bool true:=hJ2.v hall 15 29;have hK:=hJ2.gO hS 16 30;generalize InvQ _ _ _ _ _ _=K at hK⊢;clear ho hall hl hJ2 hS;go_simp;exact hK _ rfl
   | 17,ho=>
    cases ho;have fg:aq.tmps.getD 30 undef= .bool true:=hJ2.v hall 16 30 .guard;refine wpOp_off rfl rfl rfl rfl fg ?_;exact hJ2.put hS 17 31 rfl (by omega) z5 (fun _ _ h=>h) undef rfl
   | 18,ho=>
    cases ho;have fg:aq.tmps.getD 30 undef= .bool true:=hJ2.v hall 16 30 .guard;refine wpOp_off rfl rfl rfl rfl fg ?_;exact hJ2.put hS 18 32 rfl (by omega) z5 (fun _ _ h=>h) undef rfl
   | 19,ho=>
    cases ho;have fg:aq.tmps.getD 30 undef= .bool true:=hJ2.v hall 16 30 .guard;refine wpOp_off rfl rfl rfl rfl fg ?_;exact hJ2.put hS 19 33 rfl (by omega) z5 (fun _ _ h=>h) undef rfl
   | 20,ho=>
    cases ho;have fg:aq.tmps.getD 33 undef=undef:=hJ2.v hall 19 33 .guard;refine wpOp_offu rfl rfl rfl rfl fg ?_;exact hJ2.put hS 20 34 rfl (by omega) z5 (fun _ _ h=>h) undef rfl
   | 21,ho=>
    cases ho;have fg:aq.tmps.getD 33 undef=undef:=hJ2.v hall 19 33 .guard;refine wpOp_offu rfl rfl rfl rfl fg ?_;exact hJ2.put hS 21 35 rfl (by omega) z5 (fun _ _ h=>h) undef rfl
   | 22,ho=>
    cases ho;have fg:aq.tmps.getD 33 undef=undef:=hJ2.v hall 19 33 .guard;refine wpOp_offu rfl rfl rfl rfl fg ?_;exact hJ2.put hS 22 36 rfl (by omega) z5 (fun _ _ h=>h) undef rfl
   | 23,ho=>
    cases ho;have fg:aq.tmps.getD 33 undef=undef:=hJ2.v hall 19 33 .guard;refine wpOp_offu rfl rfl rfl rfl fg ?_;exact hJ2.put hS 23 37 rfl (by omega) z5 (fun _ _ h=>h) undef rfl
   | 24,ho=>
    cases ho;have fg:aq.tmps.getD 33 undef=undef:=hJ2.v hall 19 33 .guard;refine wpOp_offu rfl rfl rfl rfl fg ?_;exact hJ2.put hS 24 38 rfl (by omega) z5 (fun _ _ h=>h) undef rfl
   | 25,ho=>
    cases ho;have fg:aq.tmps.getD 33 undef=undef:=hJ2.v hall 19 33 .guard;refine wpOp_offu rfl rfl rfl rfl fg ?_;exact hJ2.put hS 25 39 rfl (by omega) z5 (fun _ _ h=>h) undef rfl
   | 26,ho=>
    cases ho;have fg:aq.tmps.getD 33 undef=undef:=hJ2.v hall 19 33 .guard;refine wpOp_offu rfl rfl rfl rfl fg ?_;exact hJ2.put hS 26 40 rfl (by omega) z5 (fun _ _ h=>h) undef rfl
   | 27,ho=>
    cases ho;have fg:aq.tmps.getD 33 undef=undef:=hJ2.v hall 19 33 .guard;refine wpOp_offu rfl rfl rfl rfl fg ?_;exact hJ2.put hS 27 41 rfl (by omega) z5 (fun _ _ h=>h) undef rfl
   | 28,ho=>
    cases ho;have fg:aq.tmps.getD 33 undef=undef:=hJ2.v hall 19 33 .guard;refine wpOp_offu rfl rfl rfl rfl fg ?_;exact hJ2.put hS 28 42 rfl (by omega) z5 (fun _ _ h=>h) undef rfl
   | 29,ho=>
    cases ho;have fg:aq.tmps.getD 33 undef=undef:=hJ2.v hall 19 33 .guard;refine wpOp_offu rfl rfl rfl rfl fg ?_;exact hJ2.put hS 29 43 rfl (by omega) z5 (fun _ _ h=>h) undef rfl
   | 30,ho=>
    cases ho;have fg:aq.tmps.getD 33 undef=undef:=hJ2.v hall 19 33 .guard;refine wpOp_offu rfl rfl rfl rfl fg ?_;exact hJ2.put hS 30 44 rfl (by omega) z5 (fun _ _ h=>h) undef rfl
   | 31,ho=>
    cases ho;have fg:aq.tmps.getD 33 undef=undef:=hJ2.v hall 19 33 .guard;refine wpOp_offu rfl rfl rfl rfl fg ?_;exact hJ2.put hS 31 45 rfl (by omega) z5 (fun _ _ h=>h) undef rfl
   | 32,ho=>
    cases ho;have fg:aq.tmps.getD 33 undef=undef:=hJ2.v hall 19 33 .guard;refine wpOp_offu rfl rfl rfl rfl fg ?_;exact hJ2.put hS 32 46 rfl (by omega) z5 (fun _ _ h=>h) undef rfl
   | 33,ho=>
    cases ho;have fg:aq.tmps.getD 33 undef=undef:=hJ2.v hall 19 33 .guard;refine wpOp_offu rfl rfl rfl rfl fg ?_;exact hJ2.put hS 33 47 rfl (by omega) z5 (fun _ _ h=>h) undef rfl
   | 34,ho=>
    cases ho;have fg:aq.tmps.getD 33 undef=undef:=hJ2.v hall 19 33 .guard;refine wpOp_offu rfl rfl rfl rfl fg ?_;exact hJ2.put hS 34 48 rfl (by omega) z5 (fun _ _ h=>h) undef rfl
   | 35,ho=>
    cases ho;have fg:aq.tmps.getD 30 undef= .bool true:=hJ2.v hall 16 30 .guard;refine wpOp_off rfl rfl rfl rfl fg ?_;exact hJ2.put hS 35 49 rfl (by omega) z5 (fun _ _ h=>h) undef rfl
   | 36,ho=>
    cases ho;refine wpOp_of rfl rfl ?_;have f16:_=Value.bool true:=hJ2.v hall 16 30;have f35:_=undef:=hJ2.v hall 35 49;have hK:=hJ2.gO hS 36 50;generalize InvQ _ _ _ _ _ _=K at hK⊢;clear ho hall hl hJ2 hS;go_simp;exact hK _ rfl
   | iq+37,ho=>simp at ho
 · intro lq aq W hJ hr;obtain⟨z1,z2,z3,z4,z5,z6,z7⟩:=hJ;have hl:=listed_of hr [0,1,2,3,4,5,6,7,8,9,10,11,12,13,14,15,16,17,18,19,20,21,22,23,24,25,26,27,28,29,30,31,32,33,34,35,36] [] (by simp) (by kernel_rfl) (by rw[z1];decide);exact hQ aq W z2 z3 (fun e he=>z4 e (by simpa using he)) (z6 36 50 (hl 36 (by simp)) rfl) z5
def VevM_C (n cap A off c m mc:Nat) (eo:Option Addr) (x y z:Int) (_B:Nat):Nat→Value→World→Prop
 | 0,v,_=>v= .slice (some ⟨A,off,none⟩) n cap
 | 1,v,_=>v= .int .i64 (c:Int)
 | 2,v,_=>v= .pointer (some ⟨A,off+c*13,none⟩)
 | 3,v,_=>v= .pointer (some ⟨A,off+c*13,none⟩)
 | 4,v,_=>v=PV x y z
 | 5,v,_=>v= .bool (ptB x y z)
 | 6,v,_=>v= .bool false
 | 7,v,_=>v= .bool false
 | 8,v,_=>v= .slice (some ⟨A,off,none⟩) n cap
 | 9,v,_=>v= .int .i64 (c:Int)
 | 10,v,_=>v= .pointer (some ⟨A,off+c*13,none⟩)
 | 11,v,_=>v= .pointer (some ⟨A,off+c*13+12,none⟩)
 | 12,v,_=>v= .slice eo m mc
 | 13,v,_=>v= .int .i64 (m:Int)
 | 14,v,_=>v= .bool false
 | 15,v,_=>v= .bool false
 | 16,v,_=>v= .bool false
 | 17,v,_=>v= .int .i64 (c:Int)
 | 18,v,_=>v= .bool false
 | 19,v,_=>v= .bool false
 | 20,v,_=>v=undef
 | 21,v,_=>v=undef
 | 22,v,_=>v=undef
 | 23,v,_=>v=undef
 | 24,v,_=>v=undef
 | 25,v,_=>v=undef
 | 26,v,_=>v=undef
 | 27,v,_=>v=undef
 | 28,v,_=>v=undef
 | 29,v,_=>v=undef
 | 30,v,_=>v=undef
 | 31,v,_=>v=undef
 | 32,v,_=>v=undef
 | 33,v,_=>v=undef
 | 34,v,_=>v=undef
 | 35,v,_=>v= .bool false
 | 36,v,_=>v= .bool false
 | _,_,_=>True
theorem VevM_C.mono {n cap A off c m mc:Nat} {eo:Option Addr} {x y z:Int} {B j:Nat} {v:Value} {W W2:World} (_hB:Below W.heap.size W W2) (h:VevM_C n cap A off c m mc eo x y z B j v W):VevM_C n cap A off c m mc eo x y z B j v W2:=by
 unfold VevM_C at *
 split<;>simp only at h<;>first | exact h | trivial
theorem evM_C {Q:Exit→Act→World→Prop} {n cap A off c m mc:Nat} {eo:Option Addr} {x y z:Int} {w0:World} {a0:Act} {idq:Nat} {t0 t1 t2 t3 t4 t5 t6 t7 t8 t9 t10 t11 t12 t13 t14 t15 t16 t17 t18 t19 t20 t21 t22 t23 t24 t25 t26 t27 t28 t29 t30 t31 t32 t33 t34 t35 t36:TypeId} {q0 q1 q2 q3 q4 q5 q6 q7 q8 q9 q10 q11 q12 q13 q14 q15 q16 q17 q18 q19 q20 q21 q22 q23 q24 q25 q26 q27 q28 q29 q30 q31 q32 q33 q34 q35 q36:String}
 (hc:c<n) (hn:n≤200) (ta:told x=true) (tb:told y=true) (tc:told z=true) (hp:ptB x y z=true) (hm:1≤m) (hmb:m≤1048576) (hc0:Hid (c=0)) (h0:a0.tmps[0]? =some (.slice (some ⟨A,off,none⟩) n cap)) (h3:a0.tmps[3]? =some (.int .i64 (c:Int))) (k0:w0.cell? ⟨A,off+c*13,none⟩=some (.int .u64 (ww3 x))) (l0:(⟨A,off+c*13,none⟩:Addr).block<w0.heap.size) (k1:w0.cell? ⟨A,off+c*13+1,none⟩=some (.int .u64 (ww2 x))) (l1:(⟨A,off+c*13+1,none⟩:Addr).block<w0.heap.size) (k2:w0.cell? ⟨A,off+c*13+2,none⟩=some (.int .u64 (ww1 x))) (l2:(⟨A,off+c*13+2,none⟩:Addr).block<w0.heap.size) (k3:w0.cell? ⟨A,off+c*13+3,none⟩=some (.int .u64 (ww0 x))) (l3:(⟨A,off+c*13+3,none⟩:Addr).block<w0.heap.size) (k4:w0.cell? ⟨A,off+c*13+4,none⟩=some (.int .u64 (ww3 y))) (l4:(⟨A,off+c*13+4,none⟩:Addr).block<w0.heap.size) (k5:w0.cell? ⟨A,off+c*13+5,none⟩=some (.int .u64 (ww2 y))) (l5:(⟨A,off+c*13+5,none⟩:Addr).block<w0.heap.size) (k6:w0.cell? ⟨A,off+c*13+6,none⟩=some (.int .u64 (ww1 y))) (l6:(⟨A,off+c*13+6,none⟩:Addr).block<w0.heap.size) (k7:w0.cell? ⟨A,off+c*13+7,none⟩=some (.int .u64 (ww0 y))) (l7:(⟨A,off+c*13+7,none⟩:Addr).block<w0.heap.size) (k8:w0.cell? ⟨A,off+c*13+8,none⟩=some (.int .u64 (ww3 z))) (l8:(⟨A,off+c*13+8,none⟩:Addr).block<w0.heap.size) (k9:w0.cell? ⟨A,off+c*13+9,none⟩=some (.int .u64 (ww2 z))) (l9:(⟨A,off+c*13+9,none⟩:Addr).block<w0.heap.size) (k10:w0.cell? ⟨A,off+c*13+10,none⟩=some (.int .u64 (ww1 z))) (l10:(⟨A,off+c*13+10,none⟩:Addr).block<w0.heap.size) (k11:w0.cell? ⟨A,off+c*13+11,none⟩=some (.int .u64 (ww0 z))) (l11:(⟨A,off+c*13+11,none⟩:Addr).block<w0.heap.size) (k12:w0.cell? ⟨A,off+c*13+12,none⟩=some (.slice eo m mc)) (l12:(⟨A,off+c*13+12,none⟩:Addr).block<w0.heap.size) (hz:a0.tmps.size=95)
 (hQ:∀aq W,aq.tmps.size=a0.tmps.size→aq.defers=a0.defers→(∀e,e∉([14,15,16,17,18,19,20,21,22,23,24,25,26,27,28,29,30,31,32,33,34,35,36,37,38,39,40,41,42,43,44,45,46,47,48,49,50]:List Nat)→aq.tmps[e]? =a0.tmps[e]?)→VevM_C n cap A off c m mc eo x y z w0.heap.size 36 (aq.tmps.getD 50 undef) W→Below w0.heap.size w0 W→Q .normal aq W) :
 (Code.region idq #[⟨some 14,.move (.tmp 0),t0,q0,#[],none⟩,
 ⟨some 15,.move (.tmp 3),t1,q1,#[],none⟩,
 ⟨some 16,.indexAddr 24 (.tmp 14) (.tmp 15),t2,q2,#[⟨0,.data⟩,⟨1,.data⟩],none⟩,
 ⟨some 17,.fieldAddr 37 (.tmp 16) 0,t3,q3,#[⟨2,.data⟩],none⟩,
 ⟨some 18,.load 29 (.tmp 17),t4,q4,#[⟨3,.data⟩],none⟩,
 ⟨some 19,.call {callee:= .value (.func 28),args:=#[.tmp 18],argTypes:=#[29]},t5,q5,#[⟨4,.data⟩],none⟩,
 ⟨some 20,.unOp .not 4 (.tmp 19),t6,q6,#[⟨5,.data⟩],none⟩,
 ⟨some 21,.move (.tmp 20),t7,q7,#[⟨6,.data⟩,⟨5,.chain⟩],none⟩,
 ⟨some 22,.move (.tmp 0),t8,q8,#[⟨7,.guard⟩],some (7,false)⟩,
 ⟨some 23,.move (.tmp 3),t9,q9,#[⟨7,.guard⟩],some (7,false)⟩,
 ⟨some 24,.indexAddr 24 (.tmp 22) (.tmp 23),t10,q10,#[⟨8,.data⟩,⟨9,.data⟩,⟨7,.guard⟩],some (7,false)⟩,
 ⟨some 25,.fieldAddr 37 (.tmp 24) 1,t11,q11,#[⟨10,.data⟩,⟨7,.guard⟩],some (7,false)⟩,
 ⟨some 26,.load 35 (.tmp 25),t12,q12,#[⟨11,.data⟩,⟨7,.guard⟩],some (7,false)⟩,
 ⟨some 27,.call {callee:= .builtin .len,args:=#[.tmp 26],argTypes:=#[35]},t13,q13,#[⟨12,.data⟩,⟨7,.guard⟩],some (7,false)⟩,
 ⟨some 28,.binOp .lss 3 (.tmp 27) (.const (.int .i64 1)) 3,t14,q14,#[⟨13,.data⟩,⟨7,.guard⟩],some (7,false)⟩,
 ⟨some 29,.pick (.tmp 21) (.const (.bool true)) (.tmp 28),t15,q15,#[⟨7,.data⟩,⟨14,.data⟩],none⟩,
 ⟨some 30,.move (.tmp 29),t16,q16,#[⟨15,.data⟩,⟨7,.chain⟩],none⟩,
 ⟨some 31,.move (.tmp 3),t17,q17,#[⟨16,.guard⟩],some (16,false)⟩,
 ⟨some 32,.binOp .gtr 3 (.tmp 31) (.const (.int .i64 0)) 3,t18,q18,#[⟨17,.data⟩,⟨16,.guard⟩],some (16,false)⟩,
 ⟨some 33,.move (.tmp 32),t19,q19,#[⟨18,.data⟩,⟨16,.chain⟩,⟨16,.guard⟩],some (16,false)⟩,
 ⟨some 34,.move (.tmp 0),t20,q20,#[⟨19,.guard⟩],some (19,true)⟩,
 ⟨some 35,.move (.tmp 3),t21,q21,#[⟨19,.guard⟩],some (19,true)⟩,
 ⟨some 36,.binOp .sub 3 (.tmp 35) (.const (.int .i64 1)) 3,t22,q22,#[⟨21,.data⟩,⟨19,.guard⟩],some (19,true)⟩,
 ⟨some 37,.indexAddr 24 (.tmp 34) (.tmp 36),t23,q23,#[⟨20,.data⟩,⟨22,.data⟩,⟨19,.guard⟩],some (19,true)⟩,
 ⟨some 38,.fieldAddr 37 (.tmp 37) 0,t24,q24,#[⟨23,.data⟩,⟨19,.guard⟩],some (19,true)⟩,
 ⟨some 39,.load 29 (.tmp 38),t25,q25,#[⟨24,.data⟩,⟨19,.guard⟩],some (19,true)⟩,
 ⟨some 40,.call {callee:= .value (.func 32),args:=#[.tmp 39],argTypes:=#[29]},t26,q26,#[⟨25,.data⟩,⟨19,.chain⟩,⟨19,.guard⟩],some (19,true)⟩,
 ⟨some 41,.move (.tmp 0),t27,q27,#[⟨19,.guard⟩],some (19,true)⟩,
 ⟨some 42,.move (.tmp 3),t28,q28,#[⟨19,.guard⟩],some (19,true)⟩,
 ⟨some 43,.indexAddr 24 (.tmp 41) (.tmp 42),t29,q29,#[⟨27,.data⟩,⟨28,.data⟩,⟨19,.guard⟩],some (19,true)⟩,
 ⟨some 44,.fieldAddr 37 (.tmp 43) 0,t30,q30,#[⟨29,.data⟩,⟨19,.guard⟩],some (19,true)⟩,
 ⟨some 45,.load 29 (.tmp 44),t31,q31,#[⟨30,.data⟩,⟨19,.guard⟩],some (19,true)⟩,
 ⟨some 46,.call {callee:= .value (.func 32),args:=#[.tmp 45],argTypes:=#[29]},t32,q32,#[⟨31,.data⟩,⟨26,.chain⟩,⟨19,.guard⟩],some (19,true)⟩,
 ⟨some 47,.call {callee:= .value (.func 31),args:=#[.tmp 40,.tmp 46],argTypes:=#[66,66]},t33,q33,#[⟨26,.data⟩,⟨32,.data⟩,⟨32,.chain⟩,⟨19,.guard⟩],some (19,true)⟩,
 ⟨some 48,.binOp .geq 2 (.tmp 47) (.const (.int .i64 0)) 2,t34,q34,#[⟨33,.data⟩,⟨19,.guard⟩],some (19,true)⟩,
 ⟨some 49,.pick (.tmp 33) (.tmp 48) (.const (.bool false)),t35,q35,#[⟨19,.data⟩,⟨34,.data⟩,⟨16,.guard⟩],some (16,false)⟩,
 ⟨some 50,.pick (.tmp 30) (.const (.bool true)) (.tmp 49),t36,q36,#[⟨16,.data⟩,⟨35,.data⟩],none⟩] true).wp Tryz.prog Q a0 w0:=by
 have hS:distS [some 14,some 15,some 16,some 17,some 18,some 19,some 20,some 21,some 22,some 23,some 24,some 25,some 26,some 27,some 28,some 29,some 30,some 31,some 32,some 33,some 34,some 35,some 36,some 37,some 38,some 39,some 40,some 41,some 42,some 43,some 44,some 45,some 46,some 47,some 48,some 49,some 50]=true:=rfl;refine wp_region_q (by kernel_rfl) w0.heap.size [some 14,some 15,some 16,some 17,some 18,some 19,some 20,some 21,some 22,some 23,some 24,some 25,some 26,some 27,some 28,some 29,some 30,some 31,some 32,some 33,some 34,some 35,some 36,some 37,some 38,some 39,some 40,some 41,some 42,some 43,some 44,some 45,some 46,some 47,some 48,some 49,some 50] (VevM_C n cap A off c m mc eo x y z w0.heap.size) rfl ?_ ?_
 · intro Q lq aq W iq oq hJ2 hl ho hall;have z5:=hJ2.b;have g0:=hJ2.a h0
   have g3:=hJ2.a h3
   have c0:=hJ2.c k0 l0;have c1:=hJ2.c k1 l1;have c2:=hJ2.c k2 l2;have c3:=hJ2.c k3 l3;have c4:=hJ2.c k4 l4;have c5:=hJ2.c k5 l5;have c6:=hJ2.c k6 l6;have c7:=hJ2.c k7 l7;have c8:=hJ2.c k8 l8;have c9:=hJ2.c k9 l9;have c10:=hJ2.c k10 l10;have c11:=hJ2.c k11 l11;have c12:=hJ2.c k12 l12
   clear hQ
   match iq,ho with
   | 0,ho=>
    cases ho;refine wpOp_of rfl rfl ?_;have hK:=hJ2.gO hS 0 14;generalize InvQ _ _ _ _ _ _=K at hK⊢;clear ho hall hl hJ2 hS;go_simp;exact hK _ rfl
   | 1,ho=>
    cases ho;refine wpOp_of rfl rfl ?_;have hK:=hJ2.gO hS 1 15;generalize InvQ _ _ _ _ _ _=K at hK⊢;clear ho hall hl hJ2 hS;go_simp;exact hK _ rfl
   | 2,ho=>
    cases ho;refine wpOp_of rfl rfl ?_;have f0:_=Value.slice (some ⟨A,off,none⟩) n cap:=hJ2.v hall 0 14;have f1:_=Value.int .i64 (c:Int):=hJ2.v hall 1 15;have hcI:(c:Int)<n:=by omega
    have hnI:(n:Int)≤200:=by omega
    have hK:=hJ2.gO hS 2 16;generalize InvQ _ _ _ _ _ _=K at hK⊢;clear ho hall hl hJ2 hS;go_simp;exact hK _ rfl
   | 3,ho=>
    cases ho;refine wpOp_of rfl rfl ?_;have f2:_=Value.pointer (some ⟨A,off+c*13,none⟩):=hJ2.v hall 2 16;have hK:=hJ2.gO hS 3 17;generalize InvQ _ _ _ _ _ _=K at hK⊢;clear ho hall hl hJ2 hS;go_simp;exact hK _ rfl
   | 4,ho=>
    cases ho;refine wpOp_of rfl rfl ?_;have f3:_=Value.pointer (some ⟨A,off+c*13,none⟩):=hJ2.v hall 3 17;have hK:=hJ2.gO hS 4 18;generalize InvQ _ _ _ _ _ _=K at hK⊢;clear ho hall hl hJ2 hS;go_simp;exact hK _ rfl
   | 5,ho=>
    cases ho;refine wpOp_of rfl rfl ?_;have f4:_=PV x y z:=hJ2.v hall 4 18;have hK:=hJ2.go hS 5 19;generalize InvQ _ _ _ _ _ _=K at hK⊢;clear ho hall hl hJ2 hS;go_simp;refine(specPointOk_det x y z ta tb tc W).mono ?_;rintro e v1 ⟨rfl,hBv⟩;exact hK _ _ (z5.trans (hBv.mono z5.size)) (fun j v h=>h.mono hBv) rfl
   | 6,ho=>
    cases ho;refine wpOp_of rfl rfl ?_;have f5:_=Value.bool (ptB x y z):=hJ2.v hall 5 19;rw[hp] at f5;have hK:=hJ2.gO hS 6 20;generalize InvQ _ _ _ _ _ _=K at hK⊢;clear ho hall hl hJ2 hS;go_simp;exact hK _ rfl
   | 7,ho=>
    cases ho;refine wpOp_of rfl rfl ?_;have f6:_=Value.bool false:=hJ2.v hall 6 20;have hK:=hJ2.gO hS 7 21;generalize InvQ _ _ _ _ _ _=K at hK⊢;clear ho hall hl hJ2 hS;go_simp;exact hK _ rfl
   | 8,ho=>
    cases ho;have fg:aq.tmps.getD 21 undef= .bool false:=hJ2.v hall 7 21 .guard;refine wpOp_on rfl rfl rfl rfl fg ?_;have hK:=hJ2.gO hS 8 22;generalize InvQ _ _ _ _ _ _=K at hK⊢;clear ho hall hl hJ2 hS;go_simp;exact hK _ rfl
   | 9,ho=>
    cases ho;have fg:aq.tmps.getD 21 undef= .bool false:=hJ2.v hall 7 21 .guard;refine wpOp_on rfl rfl rfl rfl fg ?_;have hK:=hJ2.gO hS 9 23;generalize InvQ _ _ _ _ _ _=K at hK⊢;clear ho hall hl hJ2 hS;go_simp;exact hK _ rfl
   | 10,ho=>
    cases ho;have fg:aq.tmps.getD 21 undef= .bool false:=hJ2.v hall 7 21 .guard;refine wpOp_on rfl rfl rfl rfl fg ?_;have f8:_=Value.slice (some ⟨A,off,none⟩) n cap:=hJ2.v hall 8 22;have f9:_=Value.int .i64 (c:Int):=hJ2.v hall 9 23;have hcI:(c:Int)<n:=by omega
    have hnI:(n:Int)≤200:=by omega
    have hK:=hJ2.gO hS 10 24;generalize InvQ _ _ _ _ _ _=K at hK⊢;clear ho hall hl hJ2 hS;go_simp;exact hK _ rfl
   | 11,ho=>
    cases ho;have fg:aq.tmps.getD 21 undef= .bool false:=hJ2.v hall 7 21 .guard;refine wpOp_on rfl rfl rfl rfl fg ?_;have f10:_=Value.pointer (some ⟨A,off+c*13,none⟩):=hJ2.v hall 10 24;have hK:=hJ2.gO hS 11 25;generalize InvQ _ _ _ _ _ _=K at hK⊢;clear ho hall hl hJ2 hS;go_simp;exact hK _ rfl
   | 12,ho=>
    cases ho;have fg:aq.tmps.getD 21 undef= .bool false:=hJ2.v hall 7 21 .guard;refine wpOp_on rfl rfl rfl rfl fg ?_;have f11:_=Value.pointer (some ⟨A,off+c*13+12,none⟩):=hJ2.v hall 11 25;have hK:=hJ2.gO hS 12 26;generalize InvQ _ _ _ _ _ _=K at hK⊢;clear ho hall hl hJ2 hS;go_simp;exact hK _ rfl
   | 13,ho=>
    cases ho;have fg:aq.tmps.getD 21 undef= .bool false:=hJ2.v hall 7 21 .guard;refine wpOp_on rfl rfl rfl rfl fg ?_;have f12:_=Value.slice eo m mc:=hJ2.v hall 12 26;have hK:=hJ2.gO hS 13 27;generalize InvQ _ _ _ _ _ _=K at hK⊢;clear ho hall hl hJ2 hS;go_simp;exact hK _ rfl
   | 14,ho=>
    cases ho;have fg:aq.tmps.getD 21 undef= .bool false:=hJ2.v hall 7 21 .guard;refine wpOp_on rfl rfl rfl rfl fg ?_;have f13:_=Value.int .i64 (m:Int):=hJ2.v hall 13 27;have hgt:(1:Int)≤m:=by omega
    have hK:=hJ2.go hS 14 28;generalize InvQ _ _ _ _ _ _=K at hK⊢;clear ho hall hl hJ2 hS;go_simp;exact hK _ _ z5 (fun _ _ h=>h) (by show _=_;exact congrArg Value.bool (decide_eq_false (by omega)))
   | 15,ho=>
    cases ho;refine wpOp_of rfl rfl ?_;have f7:_=Value.bool false:=hJ2.v hall 7 21;have f14:_=Value.bool false:=hJ2.v hall 14 28;have hK:=hJ2.gO hS 15 29;generalize InvQ _ _ _ _ _ _=K at hK⊢;clear ho hall hl hJ2 hS;go_simp;exact hK _ rfl
   | 16,ho=>
    cases ho;refine wpOp_of rfl rfl ?_;have f15:_=Value.bool false:=hJ2.v hall 15 29;have hK:=hJ2.gO hS 16 30;generalize InvQ _ _ _ _ _ _=K at hK⊢;clear ho hall hl hJ2 hS;go_simp;exact hK _ rfl
   | 17,ho=>
    cases ho;have fg:aq.tmps.getD 30 undef= .bool false:=hJ2.v hall 16 30 .guard;refine wpOp_on rfl rfl rfl rfl fg ?_;have hK:=hJ2.gO hS 17 31;generalize InvQ _ _ _ _ _ _=K at hK⊢;clear ho hall hl hJ2 hS;go_simp;exact hK _ rfl
   | 18,ho=>
    cases ho;have fg:aq.tmps.getD 30 undef= .bool false:=hJ2.v hall 16 30 .guard;refine wpOp_on rfl rfl rfl rfl fg ?_;have f17:_=Value.int .i64 (c:Int):=hJ2.v hall 17 31;have hgt:(c:Int)≤0:=by have ho:=hc0.out;omega
    have hK:=hJ2.go hS 18 32;generalize InvQ _ _ _ _ _ _=K at hK⊢;clear ho hall hl hJ2 hS;go_simp;exact hK _ _ z5 (fun _ _ h=>h) (by show _=_;exact congrArg Value.bool (decide_eq_false (by omega)))
   | 19,ho=>
    cases ho;have fg:aq.tmps.getD 30 undef= .bool false:=hJ2.v hall 16 30 .guard;refine wpOp_on rfl rfl rfl rfl fg ?_;have f18:_=Value.bool false:=hJ2.v hall 18 32;have hK:=hJ2.gO hS 19 33;generalize InvQ _ _ _ _ _ _=K at hK⊢;clear ho hall hl hJ2 hS;go_simp;exact hK _ rfl
   | 20,ho=>
    cases ho;have fg:aq.tmps.getD 33 undef= .bool false:=hJ2.v hall 19 33 .guard;refine wpOp_off rfl rfl rfl rfl fg ?_;exact hJ2.put hS 20 34 rfl (by omega) z5 (fun _ _ h=>h) undef rfl
   | 21,ho=>
    cases ho;have fg:aq.tmps.getD 33 undef= .bool false:=hJ2.v hall 19 33 .guard;refine wpOp_off rfl rfl rfl rfl fg ?_;exact hJ2.put hS 21 35 rfl (by omega) z5 (fun _ _ h=>h) undef rfl
   | 22,ho=>
    cases ho;have fg:aq.tmps.getD 33 undef= .bool false:=hJ2.v hall 19 33 .guard;refine wpOp_off rfl rfl rfl rfl fg ?_;exact hJ2.put hS 22 36 rfl (by omega) z5 (fun _ _ h=>h) undef rfl
   | 23,ho=>
    cases ho;have fg:aq.tmps.getD 33 undef= .bool false:=hJ2.v hall 19 33 .guard;refine wpOp_off rfl rfl rfl rfl fg ?_;exact hJ2.put hS 23 37 rfl (by omega) z5 (fun _ _ h=>h) undef rfl
   | 24,ho=>
    cases ho;have fg:aq.tmps.getD 33 undef= .bool false:=hJ2.v hall 19 33 .guard;refine wpOp_off rfl rfl rfl rfl fg ?_;exact hJ2.put hS 24 38 rfl (by omega) z5 (fun _ _ h=>h) undef rfl
   | 25,ho=>
    cases ho;have fg:aq.tmps.getD 33 undef= .bool false:=hJ2.v hall 19 33 .guard;refine wpOp_off rfl rfl rfl rfl fg ?_;exact hJ2.put hS 25 39 rfl (by omega) z5 (fun _ _ h=>h) undef rfl
   | 26,ho=>
    cases ho;have fg:aq.tmps.getD 33 undef= .bool false:=hJ2.v hall 19 33 .guard;refine wpOp_off rfl rfl rfl rfl fg ?_;exact hJ2.put hS 26 40 rfl (by omega) z5 (fun _ _ h=>h) undef rfl
   | 27,ho=>
    cases ho;have fg:aq.tmps.getD 33 undef= .bool false:=hJ2.v hall 19 33 .guard;refine wpOp_off rfl rfl rfl rfl fg ?_;exact hJ2.put hS 27 41 rfl (by omega) z5 (fun _ _ h=>h) undef rfl
   | 28,ho=>
    cases ho;have fg:aq.tmps.getD 33 undef= .bool false:=hJ2.v hall 19 33 .guard;refine wpOp_off rfl rfl rfl rfl fg ?_;exact hJ2.put hS 28 42 rfl (by omega) z5 (fun _ _ h=>h) undef rfl
   | 29,ho=>
    cases ho;have fg:aq.tmps.getD 33 undef= .bool false:=hJ2.v hall 19 33 .guard;refine wpOp_off rfl rfl rfl rfl fg ?_;exact hJ2.put hS 29 43 rfl (by omega) z5 (fun _ _ h=>h) undef rfl
   | 30,ho=>
    cases ho;have fg:aq.tmps.getD 33 undef= .bool false:=hJ2.v hall 19 33 .guard;refine wpOp_off rfl rfl rfl rfl fg ?_;exact hJ2.put hS 30 44 rfl (by omega) z5 (fun _ _ h=>h) undef rfl
   | 31,ho=>
    cases ho;have fg:aq.tmps.getD 33 undef= .bool false:=hJ2.v hall 19 33 .guard;refine wpOp_off rfl rfl rfl rfl fg ?_;exact hJ2.put hS 31 45 rfl (by omega) z5 (fun _ _ h=>h) undef rfl
   | 32,ho=>
    cases ho;have fg:aq.tmps.getD 33 undef= .bool false:=hJ2.v hall 19 33 .guard;refine wpOp_off rfl rfl rfl rfl fg ?_;exact hJ2.put hS 32 46 rfl (by omega) z5 (fun _ _ h=>h) undef rfl
   | 33,ho=>
    cases ho;have fg:aq.tmps.getD 33 undef= .bool false:=hJ2.v hall 19 33 .guard;refine wpOp_off rfl rfl rfl rfl fg ?_;exact hJ2.put hS 33 47 rfl (by omega) z5 (fun _ _ h=>h) undef rfl
   | 34,ho=>
    cases ho;have fg:aq.tmps.getD 33 undef= .bool false:=hJ2.v hall 19 33 .guard;refine wpOp_off rfl rfl rfl rfl fg ?_;exact hJ2.put hS 34 48 rfl (by omega) z5 (fun _ _ h=>h) undef rfl
   | 35,ho=>
    cases ho;have fg:aq.tmps.getD 30 undef= .bool false:=hJ2.v hall 16 30 .guard;refine wpOp_on rfl rfl rfl rfl fg ?_;have f19:_=Value.bool false:=hJ2.v hall 19 33;have f34:_=undef:=hJ2.v hall 34 48;have hK:=hJ2.gO hS 35 49;generalize InvQ _ _ _ _ _ _=K at hK⊢;clear ho hall hl hJ2 hS;go_simp;exact hK _ rfl
   | 36,ho=>
    cases ho;refine wpOp_of rfl rfl ?_;have f16:_=Value.bool false:=hJ2.v hall 16 30;have f35:_=Value.bool false:=hJ2.v hall 35 49;have hK:=hJ2.gO hS 36 50;generalize InvQ _ _ _ _ _ _=K at hK⊢;clear ho hall hl hJ2 hS;go_simp;exact hK _ rfl
   | iq+37,ho=>simp at ho
 · intro lq aq W hJ hr;obtain⟨z1,z2,z3,z4,z5,z6,z7⟩:=hJ;have hl:=listed_of hr [0,1,2,3,4,5,6,7,8,9,10,11,12,13,14,15,16,17,18,19,20,21,22,23,24,25,26,27,28,29,30,31,32,33,34,35,36] [] (by simp) (by kernel_rfl) (by rw[z1];decide);exact hQ aq W z2 z3 (fun e he=>z4 e (by simpa using he)) (z6 36 50 (hl 36 (by simp)) rfl) z5
def VevM_D (n cap A off c d m mc:Nat) (eo:Option Addr) (x y z u vv t:Int) (_B:Nat):Nat→Value→World→Prop
 | 0,v,_=>v= .slice (some ⟨A,off,none⟩) n cap
 | 1,v,_=>v= .int .i64 (c:Int)
 | 2,v,_=>v= .pointer (some ⟨A,off+c*13,none⟩)
 | 3,v,_=>v= .pointer (some ⟨A,off+c*13,none⟩)
 | 4,v,_=>v=PV x y z
 | 5,v,_=>v= .bool (ptB x y z)
 | 6,v,_=>v= .bool false
 | 7,v,_=>v= .bool false
 | 8,v,_=>v= .slice (some ⟨A,off,none⟩) n cap
 | 9,v,_=>v= .int .i64 (c:Int)
 | 10,v,_=>v= .pointer (some ⟨A,off+c*13,none⟩)
 | 11,v,_=>v= .pointer (some ⟨A,off+c*13+12,none⟩)
 | 12,v,_=>v= .slice eo m mc
 | 13,v,_=>v= .int .i64 (m:Int)
 | 14,v,_=>v= .bool false
 | 15,v,_=>v= .bool false
 | 16,v,_=>v= .bool false
 | 17,v,_=>v= .int .i64 (c:Int)
 | 18,v,_=>v= .bool true
 | 19,v,_=>v= .bool true
 | 20,v,_=>v= .slice (some ⟨A,off,none⟩) n cap
 | 21,v,_=>v= .int .i64 (c:Int)
 | 22,v,_=>v= .int .i64 (d:Int)
 | 23,v,_=>v= .pointer (some ⟨A,off+d*13,none⟩)
 | 24,v,_=>v= .pointer (some ⟨A,off+d*13,none⟩)
 | 25,v,_=>v=PV u vv t
 | 26,v,W=>L3E u vv t v W
 | 27,v,_=>v= .slice (some ⟨A,off,none⟩) n cap
 | 28,v,_=>v= .int .i64 (c:Int)
 | 29,v,_=>v= .pointer (some ⟨A,off+c*13,none⟩)
 | 30,v,_=>v= .pointer (some ⟨A,off+c*13,none⟩)
 | 31,v,_=>v=PV x y z
 | 32,v,W=>L3E x y z v W
 | 33,v,_=>v= .int .i64 (ordI u vv t x y z)
 | 34,v,_=>v= .bool (decide (0≤ordI u vv t x y z))
 | 35,v,_=>v= .bool (decide (0≤ordI u vv t x y z))
 | 36,v,_=>v= .bool (decide (0≤ordI u vv t x y z))
 | _,_,_=>True
theorem VevM_D.mono {n cap A off c d m mc:Nat} {eo:Option Addr} {x y z u vv t:Int} {B j:Nat} {v:Value} {W W2:World} (hB:Below W.heap.size W W2) (h:VevM_D n cap A off c d m mc eo x y z u vv t B j v W):VevM_D n cap A off c d m mc eo x y z u vv t B j v W2:=by
 unfold VevM_D at *
 split<;>simp only at h<;>first | exact h | exact h.step hB | trivial
theorem evM_D {Q:Exit→Act→World→Prop} {n cap A off c d m mc:Nat} {eo:Option Addr} {x y z u vv t:Int} {w0:World} {a0:Act} {idq:Nat} {t0 t1 t2 t3 t4 t5 t6 t7 t8 t9 t10 t11 t12 t13 t14 t15 t16 t17 t18 t19 t20 t21 t22 t23 t24 t25 t26 t27 t28 t29 t30 t31 t32 t33 t34 t35 t36:TypeId} {q0 q1 q2 q3 q4 q5 q6 q7 q8 q9 q10 q11 q12 q13 q14 q15 q16 q17 q18 q19 q20 q21 q22 q23 q24 q25 q26 q27 q28 q29 q30 q31 q32 q33 q34 q35 q36:String}
 (hc:c<n) (hn:n≤200) (ta:told x=true) (tb:told y=true) (tc:told z=true) (ua:told u=true) (ub:told vv=true) (uc:told t=true) (hp:ptB x y z=true) (hm:1≤m) (hmb:m≤1048576) (hcd:Hid (c=d+1)) (h0:a0.tmps[0]? =some (.slice (some ⟨A,off,none⟩) n cap)) (h3:a0.tmps[3]? =some (.int .i64 (c:Int))) (k0:w0.cell? ⟨A,off+c*13,none⟩=some (.int .u64 (ww3 x))) (l0:(⟨A,off+c*13,none⟩:Addr).block<w0.heap.size) (k1:w0.cell? ⟨A,off+c*13+1,none⟩=some (.int .u64 (ww2 x))) (l1:(⟨A,off+c*13+1,none⟩:Addr).block<w0.heap.size) (k2:w0.cell? ⟨A,off+c*13+2,none⟩=some (.int .u64 (ww1 x))) (l2:(⟨A,off+c*13+2,none⟩:Addr).block<w0.heap.size) (k3:w0.cell? ⟨A,off+c*13+3,none⟩=some (.int .u64 (ww0 x))) (l3:(⟨A,off+c*13+3,none⟩:Addr).block<w0.heap.size) (k4:w0.cell? ⟨A,off+c*13+4,none⟩=some (.int .u64 (ww3 y))) (l4:(⟨A,off+c*13+4,none⟩:Addr).block<w0.heap.size) (k5:w0.cell? ⟨A,off+c*13+5,none⟩=some (.int .u64 (ww2 y))) (l5:(⟨A,off+c*13+5,none⟩:Addr).block<w0.heap.size) (k6:w0.cell? ⟨A,off+c*13+6,none⟩=some (.int .u64 (ww1 y))) (l6:(⟨A,off+c*13+6,none⟩:Addr).block<w0.heap.size) (k7:w0.cell? ⟨A,off+c*13+7,none⟩=some (.int .u64 (ww0 y))) (l7:(⟨A,off+c*13+7,none⟩:Addr).block<w0.heap.size) (k8:w0.cell? ⟨A,off+c*13+8,none⟩=some (.int .u64 (ww3 z))) (l8:(⟨A,off+c*13+8,none⟩:Addr).block<w0.heap.size) (k9:w0.cell? ⟨A,off+c*13+9,none⟩=some (.int .u64 (ww2 z))) (l9:(⟨A,off+c*13+9,none⟩:Addr).block<w0.heap.size) (k10:w0.cell? ⟨A,off+c*13+10,none⟩=some (.int .u64 (ww1 z))) (l10:(⟨A,off+c*13+10,none⟩:Addr).block<w0.heap.size) (k11:w0.cell? ⟨A,off+c*13+11,none⟩=some (.int .u64 (ww0 z))) (l11:(⟨A,off+c*13+11,none⟩:Addr).block<w0.heap.size) (k12:w0.cell? ⟨A,off+c*13+12,none⟩=some (.slice eo m mc)) (l12:(⟨A,off+c*13+12,none⟩:Addr).block<w0.heap.size) (k13:w0.cell? ⟨A,off+d*13,none⟩=some (.int .u64 (ww3 u))) (l13:(⟨A,off+d*13,none⟩:Addr).block<w0.heap.size) (k14:w0.cell? ⟨A,off+d*13+1,none⟩=some (.int .u64 (ww2 u))) (l14:(⟨A,off+d*13+1,none⟩:Addr).block<w0.heap.size) (k15:w0.cell? ⟨A,off+d*13+2,none⟩=some (.int .u64 (ww1 u))) (l15:(⟨A,off+d*13+2,none⟩:Addr).block<w0.heap.size) (k16:w0.cell? ⟨A,off+d*13+3,none⟩=some (.int .u64 (ww0 u))) (l16:(⟨A,off+d*13+3,none⟩:Addr).block<w0.heap.size) (k17:w0.cell? ⟨A,off+d*13+4,none⟩=some (.int .u64 (ww3 vv))) (l17:(⟨A,off+d*13+4,none⟩:Addr).block<w0.heap.size) (k18:w0.cell? ⟨A,off+d*13+5,none⟩=some (.int .u64 (ww2 vv))) (l18:(⟨A,off+d*13+5,none⟩:Addr).block<w0.heap.size) (k19:w0.cell? ⟨A,off+d*13+6,none⟩=some (.int .u64 (ww1 vv))) (l19:(⟨A,off+d*13+6,none⟩:Addr).block<w0.heap.size) (k20:w0.cell? ⟨A,off+d*13+7,none⟩=some (.int .u64 (ww0 vv))) (l20:(⟨A,off+d*13+7,none⟩:Addr).block<w0.heap.size) (k21:w0.cell? ⟨A,off+d*13+8,none⟩=some (.int .u64 (ww3 t))) (l21:(⟨A,off+d*13+8,none⟩:Addr).block<w0.heap.size) (k22:w0.cell? ⟨A,off+d*13+9,none⟩=some (.int .u64 (ww2 t))) (l22:(⟨A,off+d*13+9,none⟩:Addr).block<w0.heap.size) (k23:w0.cell? ⟨A,off+d*13+10,none⟩=some (.int .u64 (ww1 t))) (l23:(⟨A,off+d*13+10,none⟩:Addr).block<w0.heap.size) (k24:w0.cell? ⟨A,off+d*13+11,none⟩=some (.int .u64 (ww0 t))) (l24:(⟨A,off+d*13+11,none⟩:Addr).block<w0.heap.size) (hz:a0.tmps.size=95)
 (hQ:∀aq W,aq.tmps.size=a0.tmps.size→aq.defers=a0.defers→(∀e,e∉([14,15,16,17,18,19,20,21,22,23,24,25,26,27,28,29,30,31,32,33,34,35,36,37,38,39,40,41,42,43,44,45,46,47,48,49,50]:List Nat)→aq.tmps[e]? =a0.tmps[e]?)→VevM_D n cap A off c d m mc eo x y z u vv t w0.heap.size 36 (aq.tmps.getD 50 undef) W→Below w0.heap.size w0 W→Q .normal aq W) :
 (Code.region idq #[⟨some 14,.move (.tmp 0),t0,q0,#[],none⟩,
 ⟨some 15,.move (.tmp 3),t1,q1,#[],none⟩,
 ⟨some 16,.indexAddr 24 (.tmp 14) (.tmp 15),t2,q2,#[⟨0,.data⟩,⟨1,.data⟩],none⟩,
 ⟨some 17,.fieldAddr 37 (.tmp 16) 0,t3,q3,#[⟨2,.data⟩],none⟩,
 ⟨some 18,.load 29 (.tmp 17),t4,q4,#[⟨3,.data⟩],none⟩,
 ⟨some 19,.call {callee:= .value (.func 28),args:=#[.tmp 18],argTypes:=#[29]},t5,q5,#[⟨4,.data⟩],none⟩,
 ⟨some 20,.unOp .not 4 (.tmp 19),t6,q6,#[⟨5,.data⟩],none⟩,
 ⟨some 21,.move (.tmp 20),t7,q7,#[⟨6,.data⟩,⟨5,.chain⟩],none⟩,
 ⟨some 22,.move (.tmp 0),t8,q8,#[⟨7,.guard⟩],some (7,false)⟩,
 ⟨some 23,.move (.tmp 3),t9,q9,#[⟨7,.guard⟩],some (7,false)⟩,
 ⟨some 24,.indexAddr 24 (.tmp 22) (.tmp 23),t10,q10,#[⟨8,.data⟩,⟨9,.data⟩,⟨7,.guard⟩],some (7,false)⟩,
 ⟨some 25,.fieldAddr 37 (.tmp 24) 1,t11,q11,#[⟨10,.data⟩,⟨7,.guard⟩],some (7,false)⟩,
 ⟨some 26,.load 35 (.tmp 25),t12,q12,#[⟨11,.data⟩,⟨7,.guard⟩],some (7,false)⟩,
 ⟨some 27,.call {callee:= .builtin .len,args:=#[.tmp 26],argTypes:=#[35]},t13,q13,#[⟨12,.data⟩,⟨7,.guard⟩],some (7,false)⟩,
 ⟨some 28,.binOp .lss 3 (.tmp 27) (.const (.int .i64 1)) 3,t14,q14,#[⟨13,.data⟩,⟨7,.guard⟩],some (7,false)⟩,
 ⟨some 29,.pick (.tmp 21) (.const (.bool true)) (.tmp 28),t15,q15,#[⟨7,.data⟩,⟨14,.data⟩],none⟩,
 ⟨some 30,.move (.tmp 29),t16,q16,#[⟨15,.data⟩,⟨7,.chain⟩],none⟩,
 ⟨some 31,.move (.tmp 3),t17,q17,#[⟨16,.guard⟩],some (16,false)⟩,
 ⟨some 32,.binOp .gtr 3 (.tmp 31) (.const (.int .i64 0)) 3,t18,q18,#[⟨17,.data⟩,⟨16,.guard⟩],some (16,false)⟩,
 ⟨some 33,.move (.tmp 32),t19,q19,#[⟨18,.data⟩,⟨16,.chain⟩,⟨16,.guard⟩],some (16,false)⟩,
 ⟨some 34,.move (.tmp 0),t20,q20,#[⟨19,.guard⟩],some (19,true)⟩,
 ⟨some 35,.move (.tmp 3),t21,q21,#[⟨19,.guard⟩],some (19,true)⟩,
 ⟨some 36,.binOp .sub 3 (.tmp 35) (.const (.int .i64 1)) 3,t22,q22,#[⟨21,.data⟩,⟨19,.guard⟩],some (19,true)⟩,
 ⟨some 37,.indexAddr 24 (.tmp 34) (.tmp 36),t23,q23,#[⟨20,.data⟩,⟨22,.data⟩,⟨19,.guard⟩],some (19,true)⟩,
 ⟨some 38,.fieldAddr 37 (.tmp 37) 0,t24,q24,#[⟨23,.data⟩,⟨19,.guard⟩],some (19,true)⟩,
 ⟨some 39,.load 29 (.tmp 38),t25,q25,#[⟨24,.data⟩,⟨19,.guard⟩],some (19,true)⟩,
 ⟨some 40,.call {callee:= .value (.func 32),args:=#[.tmp 39],argTypes:=#[29]},t26,q26,#[⟨25,.data⟩,⟨19,.chain⟩,⟨19,.guard⟩],some (19,true)⟩,
 ⟨some 41,.move (.tmp 0),t27,q27,#[⟨19,.guard⟩],some (19,true)⟩,
 ⟨some 42,.move (.tmp 3),t28,q28,#[⟨19,.guard⟩],some (19,true)⟩,
 ⟨some 43,.indexAddr 24 (.tmp 41) (.tmp 42),t29,q29,#[⟨27,.data⟩,⟨28,.data⟩,⟨19,.guard⟩],some (19,true)⟩,
 ⟨some 44,.fieldAddr 37 (.tmp 43) 0,t30,q30,#[⟨29,.data⟩,⟨19,.guard⟩],some (19,true)⟩,
 ⟨some 45,.load 29 (.tmp 44),t31,q31,#[⟨30,.data⟩,⟨19,.guard⟩],some (19,true)⟩,
 ⟨some 46,.call {callee:= .value (.func 32),args:=#[.tmp 45],argTypes:=#[29]},t32,q32,#[⟨31,.data⟩,⟨26,.chain⟩,⟨19,.guard⟩],some (19,true)⟩,
 ⟨some 47,.call {callee:= .value (.func 31),args:=#[.tmp 40,.tmp 46],argTypes:=#[66,66]},t33,q33,#[⟨26,.data⟩,⟨32,.data⟩,⟨32,.chain⟩,⟨19,.guard⟩],some (19,true)⟩,
 ⟨some 48,.binOp .geq 2 (.tmp 47) (.const (.int .i64 0)) 2,t34,q34,#[⟨33,.data⟩,⟨19,.guard⟩],some (19,true)⟩,
 ⟨some 49,.pick (.tmp 33) (.tmp 48) (.const (.bool false)),t35,q35,#[⟨19,.data⟩,⟨34,.data⟩,⟨16,.guard⟩],some (16,false)⟩,
 ⟨some 50,.pick (.tmp 30) (.const (.bool true)) (.tmp 49),t36,q36,#[⟨16,.data⟩,⟨35,.data⟩],none⟩] true).wp Tryz.prog Q a0 w0:=by
 have hS:distS [some 14,some 15,some 16,some 17,some 18,some 19,some 20,some 21,some 22,some 23,some 24,some 25,some 26,some 27,some 28,some 29,some 30,some 31,some 32,some 33,some 34,some 35,some 36,some 37,some 38,some 39,some 40,some 41,some 42,some 43,some 44,some 45,some 46,some 47,some 48,some 49,some 50]=true:=rfl;refine wp_region_q (by kernel_rfl) w0.heap.size [some 14,some 15,some 16,some 17,some 18,some 19,some 20,some 21,some 22,some 23,some 24,some 25,some 26,some 27,some 28,some 29,some 30,some 31,some 32,some 33,some 34,some 35,some 36,some 37,some 38,some 39,some 40,some 41,some 42,some 43,some 44,some 45,some 46,some 47,some 48,some 49,some 50] (VevM_D n cap A off c d m mc eo x y z u vv t w0.heap.size) rfl ?_ ?_
 · intro Q lq aq W iq oq hJ2 hl ho hall;have z5:=hJ2.b;have g0:=hJ2.a h0
   have g3:=hJ2.a h3
   have c0:=hJ2.c k0 l0;have c1:=hJ2.c k1 l1;have c2:=hJ2.c k2 l2;have c3:=hJ2.c k3 l3;have c4:=hJ2.c k4 l4;have c5:=hJ2.c k5 l5;have c6:=hJ2.c k6 l6;have c7:=hJ2.c k7 l7;have c8:=hJ2.c k8 l8;have c9:=hJ2.c k9 l9;have c10:=hJ2.c k10 l10;have c11:=hJ2.c k11 l11;have c12:=hJ2.c k12 l12;have c13:=hJ2.c k13 l13;have c14:=hJ2.c k14 l14;have c15:=hJ2.c k15 l15;have c16:=hJ2.c k16 l16;have c17:=hJ2.c k17 l17;have c18:=hJ2.c k18 l18;have c19:=hJ2.c k19 l19;have c20:=hJ2.c k20 l20;have c21:=hJ2.c k21 l21;have c22:=hJ2.c k22 l22;have c23:=hJ2.c k23 l23;have c24:=hJ2.c k24 l24
   clear hQ
   match iq,ho with
   | 0,ho=>
    cases ho;refine wpOp_of rfl rfl ?_;have hK:=hJ2.gO hS 0 14;generalize InvQ _ _ _ _ _ _=K at hK⊢;clear ho hall hl hJ2 hS;go_simp;exact hK _ rfl
   | 1,ho=>
    cases ho;refine wpOp_of rfl rfl ?_;have hK:=hJ2.gO hS 1 15;generalize InvQ _ _ _ _ _ _=K at hK⊢;clear ho hall hl hJ2 hS;go_simp;exact hK _ rfl
   | 2,ho=>
    cases ho;refine wpOp_of rfl rfl ?_;have f0:_=Value.slice (some ⟨A,off,none⟩) n cap:=hJ2.v hall 0 14;have f1:_=Value.int .i64 (c:Int):=hJ2.v hall 1 15;have hcI:(c:Int)<n:=by omega
    have hnI:(n:Int)≤200:=by omega
    have hK:=hJ2.gO hS 2 16;generalize InvQ _ _ _ _ _ _=K at hK⊢;clear ho hall hl hJ2 hS;go_simp;exact hK _ rfl
   | 3,ho=>
    cases ho;refine wpOp_of rfl rfl ?_;have f2:_=Value.pointer (some ⟨A,off+c*13,none⟩):=hJ2.v hall 2 16;have hK:=hJ2.gO hS 3 17;generalize InvQ _ _ _ _ _ _=K at hK⊢;clear ho hall hl hJ2 hS;go_simp;exact hK _ rfl
   | 4,ho=>
    cases ho;refine wpOp_of rfl rfl ?_;have f3:_=Value.pointer (some ⟨A,off+c*13,none⟩):=hJ2.v hall 3 17;have hK:=hJ2.gO hS 4 18;generalize InvQ _ _ _ _ _ _=K at hK⊢;clear ho hall hl hJ2 hS;go_simp;exact hK _ rfl
   | 5,ho=>
    cases ho;refine wpOp_of rfl rfl ?_;have f4:_=PV x y z:=hJ2.v hall 4 18;have hK:=hJ2.go hS 5 19;generalize InvQ _ _ _ _ _ _=K at hK⊢;clear ho hall hl hJ2 hS;go_simp;refine(specPointOk_det x y z ta tb tc W).mono ?_;rintro e v1 ⟨rfl,hBv⟩;exact hK _ _ (z5.trans (hBv.mono z5.size)) (fun j v h=>h.mono hBv) rfl
   | 6,ho=>
    cases ho;refine wpOp_of rfl rfl ?_;have f5:_=Value.bool (ptB x y z):=hJ2.v hall 5 19;rw[hp] at f5;have hK:=hJ2.gO hS 6 20;generalize InvQ _ _ _ _ _ _=K at hK⊢;clear ho hall hl hJ2 hS;go_simp;exact hK _ rfl
   | 7,ho=>
    cases ho;refine wpOp_of rfl rfl ?_;have f6:_=Value.bool false:=hJ2.v hall 6 20;have hK:=hJ2.gO hS 7 21;generalize InvQ _ _ _ _ _ _=K at hK⊢;clear ho hall hl hJ2 hS;go_simp;exact hK _ rfl
   | 8,ho=>
    cases ho;have fg:aq.tmps.getD 21 undef= .bool false:=hJ2.v hall 7 21 .guard;refine wpOp_on rfl rfl rfl rfl fg ?_;have hK:=hJ2.gO hS 8 22;generalize InvQ _ _ _ _ _ _=K at hK⊢;clear ho hall hl hJ2 hS;go_simp;exact hK _ rfl
   | 9,ho=>
    cases ho;have fg:aq.tmps.getD 21 undef= .bool false:=hJ2.v hall 7 21 .guard;refine wpOp_on rfl rfl rfl rfl fg ?_;have hK:=hJ2.gO hS 9 23;generalize InvQ _ _ _ _ _ _=K at hK⊢;clear ho hall hl hJ2 hS;go_simp;exact hK _ rfl
   | 10,ho=>
    cases ho;have fg:aq.tmps.getD 21 undef= .bool false:=hJ2.v hall 7 21 .guard;refine wpOp_on rfl rfl rfl rfl fg ?_;have f8:_=Value.slice (some ⟨A,off,none⟩) n cap:=hJ2.v hall 8 22;have f9:_=Value.int .i64 (c:Int):=hJ2.v hall 9 23;have hcI:(c:Int)<n:=by omega
    have hnI:(n:Int)≤200:=by omega
    have hK:=hJ2.gO hS 10 24;generalize InvQ _ _ _ _ _ _=K at hK⊢;clear ho hall hl hJ2 hS;go_simp;exact hK _ rfl
   | 11,ho=>
    cases ho;have fg:aq.tmps.getD 21 undef= .bool false:=hJ2.v hall 7 21 .guard;refine wpOp_on rfl rfl rfl rfl fg ?_;have f10:_=Value.pointer (some ⟨A,off+c*13,none⟩):=hJ2.v hall 10 24;have hK:=hJ2.gO hS 11 25;generalize InvQ _ _ _ _ _ _=K at hK⊢;clear ho hall hl hJ2 hS;go_simp;exact hK _ rfl
   | 12,ho=>
    cases ho;have fg:aq.tmps.getD 21 undef= .bool false:=hJ2.v hall 7 21 .guard;refine wpOp_on rfl rfl rfl rfl fg ?_;have f11:_=Value.pointer (some ⟨A,off+c*13+12,none⟩):=hJ2.v hall 11 25;have hK:=hJ2.gO hS 12 26;generalize InvQ _ _ _ _ _ _=K at hK⊢;clear ho hall hl hJ2 hS;go_simp;exact hK _ rfl
   | 13,ho=>
    cases ho;have fg:aq.tmps.getD 21 undef= .bool false:=hJ2.v hall 7 21 .guard;refine wpOp_on rfl rfl rfl rfl fg ?_;have f12:_=Value.slice eo m mc:=hJ2.v hall 12 26;have hK:=hJ2.gO hS 13 27;generalize InvQ _ _ _ _ _ _=K at hK⊢;clear ho hall hl hJ2 hS;go_simp;exact hK _ rfl
   | 14,ho=>
    cases ho;have fg:aq.tmps.getD 21 undef= .bool false:=hJ2.v hall 7 21 .guard;refine wpOp_on rfl rfl rfl rfl fg ?_;have f13:_=Value.int .i64 (m:Int):=hJ2.v hall 13 27;have hgt:(1:Int)≤m:=by omega
    have hK:=hJ2.go hS 14 28;generalize InvQ _ _ _ _ _ _=K at hK⊢;clear ho hall hl hJ2 hS;go_simp;exact hK _ _ z5 (fun _ _ h=>h) (by show _=_;exact congrArg Value.bool (decide_eq_false (by omega)))
   | 15,ho=>
    cases ho;refine wpOp_of rfl rfl ?_;have f7:_=Value.bool false:=hJ2.v hall 7 21;have f14:_=Value.bool false:=hJ2.v hall 14 28;have hK:=hJ2.gO hS 15 29;generalize InvQ _ _ _ _ _ _=K at hK⊢;clear ho hall hl hJ2 hS;go_simp;exact hK _ rfl
   | 16,ho=>
    cases ho;refine wpOp_of rfl rfl ?_;have f15:_=Value.bool false:=hJ2.v hall 15 29;have hK:=hJ2.gO hS 16 30;generalize InvQ _ _ _ _ _ _=K at hK⊢;clear ho hall hl hJ2 hS;go_simp;exact hK _ rfl
   | 17,ho=>
    cases ho;have fg:aq.tmps.getD 30 undef= .bool false:=hJ2.v hall 16 30 .guard;refine wpOp_on rfl rfl rfl rfl fg ?_;have hK:=hJ2.gO hS 17 31;generalize InvQ _ _ _ _ _ _=K at hK⊢;clear ho hall hl hJ2 hS;go_simp;exact hK _ rfl
   | 18,ho=>
    cases ho;have fg:aq.tmps.getD 30 undef= .bool false:=hJ2.v hall 16 30 .guard;refine wpOp_on rfl rfl rfl rfl fg ?_;have f17:_=Value.int .i64 (c:Int):=hJ2.v hall 17 31;have hgt:(0:Int)<c:=by have ho:=hcd.out;omega
    have hK:=hJ2.go hS 18 32;generalize InvQ _ _ _ _ _ _=K at hK⊢;clear ho hall hl hJ2 hS;go_simp;exact hK _ _ z5 (fun _ _ h=>h) (by show _=_;exact congrArg Value.bool (decide_eq_true (by omega)))
   | 19,ho=>
    cases ho;have fg:aq.tmps.getD 30 undef= .bool false:=hJ2.v hall 16 30 .guard;refine wpOp_on rfl rfl rfl rfl fg ?_;have f18:_=Value.bool true:=hJ2.v hall 18 32;have hK:=hJ2.gO hS 19 33;generalize InvQ _ _ _ _ _ _=K at hK⊢;clear ho hall hl hJ2 hS;go_simp;exact hK _ rfl
   | 20,ho=>
    cases ho;have fg:aq.tmps.getD 33 undef= .bool true:=hJ2.v hall 19 33 .guard;refine wpOp_on rfl rfl rfl rfl fg ?_;have hK:=hJ2.gO hS 20 34;generalize InvQ _ _ _ _ _ _=K at hK⊢;clear ho hall hl hJ2 hS;go_simp;exact hK _ rfl
   | 21,ho=>
    cases ho;have fg:aq.tmps.getD 33 undef= .bool true:=hJ2.v hall 19 33 .guard;refine wpOp_on rfl rfl rfl rfl fg ?_;have hK:=hJ2.gO hS 21 35;generalize InvQ _ _ _ _ _ _=K at hK⊢;clear ho hall hl hJ2 hS;go_simp;exact hK _ rfl
   | 22,ho=>
    cases ho;have fg:aq.tmps.getD 33 undef= .bool true:=hJ2.v hall 19 33 .guard;refine wpOp_on rfl rfl rfl rfl fg ?_;have f21:_=Value.int .i64 (c:Int):=hJ2.v hall 21 35;have hcI:(c:Int)<n:=by omega
    have hnI:(n:Int)≤200:=by omega
    have hcz:(c:Int)=d+1:=by have ho:=hcd.out;omega
    have hwd:IntKind.i64.wrap (d:Int)=d:=by have ho:=hcd.out;rw[IntKind.wrap_i64];omega
    have hK:=hJ2.go hS 22 36;generalize InvQ _ _ _ _ _ _=K at hK⊢;clear ho hall hl hJ2 hS;go_simp;exact hK _ _ z5 (fun _ _ h=>h) (by show _=_;first | rfl | go_num)
   | 23,ho=>
    cases ho;have fg:aq.tmps.getD 33 undef= .bool true:=hJ2.v hall 19 33 .guard;refine wpOp_on rfl rfl rfl rfl fg ?_;have f20:_=Value.slice (some ⟨A,off,none⟩) n cap:=hJ2.v hall 20 34;have f22:_=Value.int .i64 (d:Int):=hJ2.v hall 22 36;have hdI:(d:Int)<n:=by have ho:=hcd.out;omega
    have hnI:(n:Int)≤200:=by omega
    have hK:=hJ2.gO hS 23 37;generalize InvQ _ _ _ _ _ _=K at hK⊢;clear ho hall hl hJ2 hS;go_simp;exact hK _ rfl
   | 24,ho=>
    cases ho;have fg:aq.tmps.getD 33 undef= .bool true:=hJ2.v hall 19 33 .guard;refine wpOp_on rfl rfl rfl rfl fg ?_;have f23:_=Value.pointer (some ⟨A,off+d*13,none⟩):=hJ2.v hall 23 37;have hK:=hJ2.gO hS 24 38;generalize InvQ _ _ _ _ _ _=K at hK⊢;clear ho hall hl hJ2 hS;go_simp;exact hK _ rfl
   | 25,ho=>
    cases ho;have fg:aq.tmps.getD 33 undef= .bool true:=hJ2.v hall 19 33 .guard;refine wpOp_on rfl rfl rfl rfl fg ?_;have f24:_=Value.pointer (some ⟨A,off+d*13,none⟩):=hJ2.v hall 24 38;have hK:=hJ2.gO hS 25 39;generalize InvQ _ _ _ _ _ _=K at hK⊢;clear ho hall hl hJ2 hS;go_simp;exact hK _ rfl
   | 26,ho=>
    cases ho;have fg:aq.tmps.getD 33 undef= .bool true:=hJ2.v hall 19 33 .guard;refine wpOp_on rfl rfl rfl rfl fg ?_;have f25:_=PV u vv t:=hJ2.v hall 25 39;have hK:=hJ2.go hS 26 40;generalize InvQ _ _ _ _ _ _=K at hK⊢;clear ho hall hl hJ2 hS;go_simp;refine(l3Of_det u vv t ua ub uc W).mono ?_;rintro e v1 ⟨s1,o1,n1,m1,e1,s2,o2,n2,m2,e2,s3,o3,n3,m3,e3,rfl,N1,N2,N3,hBv⟩;exact hK _ _ (z5.trans (hBv.mono z5.size)) (fun j v h=>h.mono hBv) ⟨_,_,_,_,_,_,_,_,_,_,_,_,_,_,_,rfl,N1,N2,N3⟩
   | 27,ho=>
    cases ho;have fg:aq.tmps.getD 33 undef= .bool true:=hJ2.v hall 19 33 .guard;refine wpOp_on rfl rfl rfl rfl fg ?_;have hK:=hJ2.gO hS 27 41;generalize InvQ _ _ _ _ _ _=K at hK⊢;clear ho hall hl hJ2 hS;go_simp;exact hK _ rfl
   | 28,ho=>
    cases ho;have fg:aq.tmps.getD 33 undef= .bool true:=hJ2.v hall 19 33 .guard;refine wpOp_on rfl rfl rfl rfl fg ?_;have hK:=hJ2.gO hS 28 42;generalize InvQ _ _ _ _ _ _=K at hK⊢;clear ho hall hl hJ2 hS;go_simp;exact hK _ rfl
   | 29,ho=>
    cases ho;have fg:aq.tmps.getD 33 undef= .bool true:=hJ2.v hall 19 33 .guard;refine wpOp_on rfl rfl rfl rfl fg ?_;have f27:_=Value.slice (some ⟨A,off,none⟩) n cap:=hJ2.v hall 27 41;have f28:_=Value.int .i64 (c:Int):=hJ2.v hall 28 42;have hcI:(c:Int)<n:=by omega
    have hnI:(n:Int)≤200:=by omega
    have hK:=hJ2.gO hS 29 43;generalize InvQ _ _ _ _ _ _=K at hK⊢;clear ho hall hl hJ2 hS;go_simp;exact hK _ rfl
   | 30,ho=>
    cases ho;have fg:aq.tmps.getD 33 undef= .bool true:=hJ2.v hall 19 33 .guard;refine wpOp_on rfl rfl rfl rfl fg ?_;have f29:_=Value.pointer (some ⟨A,off+c*13,none⟩):=hJ2.v hall 29 43;have hK:=hJ2.gO hS 30 44;generalize InvQ _ _ _ _ _ _=K at hK⊢;clear ho hall hl hJ2 hS;go_simp;exact hK _ rfl
   | 31,ho=>
    cases ho;have fg:aq.tmps.getD 33 undef= .bool true:=hJ2.v hall 19 33 .guard;refine wpOp_on rfl rfl rfl rfl fg ?_;have f30:_=Value.pointer (some ⟨A,off+c*13,none⟩):=hJ2.v hall 30 44;have hK:=hJ2.gO hS 31 45;generalize InvQ _ _ _ _ _ _=K at hK⊢;clear ho hall hl hJ2 hS;go_simp;exact hK _ rfl
   | 32,ho=>
    cases ho;have fg:aq.tmps.getD 33 undef= .bool true:=hJ2.v hall 19 33 .guard;refine wpOp_on rfl rfl rfl rfl fg ?_;have f31:_=PV x y z:=hJ2.v hall 31 45;have hK:=hJ2.go hS 32 46;generalize InvQ _ _ _ _ _ _=K at hK⊢;clear ho hall hl hJ2 hS;go_simp;refine(l3Of_det x y z ta tb tc W).mono ?_;rintro e v1 ⟨s1,o1,n1,m1,e1,s2,o2,n2,m2,e2,s3,o3,n3,m3,e3,rfl,N1,N2,N3,hBv⟩;exact hK _ _ (z5.trans (hBv.mono z5.size)) (fun j v h=>h.mono hBv) ⟨_,_,_,_,_,_,_,_,_,_,_,_,_,_,_,rfl,N1,N2,N3⟩
   | 33,ho=>
    cases ho;have fg:aq.tmps.getD 33 undef= .bool true:=hJ2.v hall 19 33 .guard;refine wpOp_on rfl rfl rfl rfl fg ?_;have f26:L3E u vv t (aq.tmps.getD 40 undef) W:=hJ2.v hall 26 40;obtain⟨as1,ao1,an1,ac1,ad1,as2,ao2,an2,ac2,ad2,as3,ao3,an3,ac3,ad3,ae,A1,A2,A3⟩:=f26;have f32:L3E x y z (aq.tmps.getD 46 undef) W:=hJ2.v hall 32 46;obtain⟨bs1,bo1,bn1,bc1,bd1,bs2,bo2,bn2,bc2,bd2,bs3,bo3,bn3,bc3,bd3,be,B1,B2,B3⟩:=f32;have hK:=hJ2.go hS 33 47;generalize InvQ _ _ _ _ _ _=K at hK⊢;clear ho hall hl hJ2 hS;go_simp;refine(l3Cmp_any as1 as2 as3 ao1 ao2 ao3 an1 ac1 an2 ac2 an3 ac3 bs1 bs2 bs3 bo1 bo2 bo3 bn1 bc1 bn2 bc2 bn3 bc3 ad1 ad2 ad3 bd1 bd2 bd3 u vv t x y z 8 (by omega) W A1 A2 A3 B1 B2 B3).mono ?_;rintro e v1 ⟨rfl,hBv⟩;exact hK _ _ (z5.trans (hBv.mono z5.size)) (fun j v h=>h.mono hBv) rfl
   | 34,ho=>
    cases ho;have fg:aq.tmps.getD 33 undef= .bool true:=hJ2.v hall 19 33 .guard;refine wpOp_on rfl rfl rfl rfl fg ?_;have f33:_=Value.int .i64 (ordI u vv t x y z):=hJ2.v hall 33 47;have hK:=hJ2.go hS 34 48;generalize InvQ _ _ _ _ _ _=K at hK⊢;clear ho hall hl hJ2 hS;go_simp;exact hK _ _ z5 (fun _ _ h=>h) (by show _=_;first | rfl | simp)
   | 35,ho=>
    cases ho;have fg:aq.tmps.getD 30 undef= .bool false:=hJ2.v hall 16 30 .guard;refine wpOp_on rfl rfl rfl rfl fg ?_;have f19:_=Value.bool true:=hJ2.v hall 19 33;have f34:_=Value.bool (decide (0≤ordI u vv t x y z)):=hJ2.v hall 34 48;have hK:=hJ2.gO hS 35 49;generalize InvQ _ _ _ _ _ _=K at hK⊢;clear ho hall hl hJ2 hS;go_simp;exact hK _ rfl
   | 36,ho=>
    cases ho;refine wpOp_of rfl rfl ?_;have f16:_=Value.bool false:=hJ2.v hall 16 30;have f35:_=Value.bool (decide (0≤ordI u vv t x y z)):=hJ2.v hall 35 49;have hK:=hJ2.gO hS 36 50;generalize InvQ _ _ _ _ _ _=K at hK⊢;clear ho hall hl hJ2 hS;go_simp;exact hK _ rfl
   | iq+37,ho=>simp at ho
 · intro lq aq W hJ hr;obtain⟨z1,z2,z3,z4,z5,z6,z7⟩:=hJ;have hl:=listed_of hr [0,1,2,3,4,5,6,7,8,9,10,11,12,13,14,15,16,17,18,19,20,21,22,23,24,25,26,27,28,29,30,31,32,33,34,35,36] [] (by simp) (by kernel_rfl) (by rw[z1];decide);exact hQ aq W z2 z3 (fun e he=>z4 e (by simpa using he)) (z6 36 50 (hl 36 (by simp)) rfl) z5
end Go.Proofs.YtbogliojkabbjaaGreat
