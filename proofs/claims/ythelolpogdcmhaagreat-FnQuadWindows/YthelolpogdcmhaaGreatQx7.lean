/- Part 7 of the walks that the proof leans on. -/
import Derived.Test.YthelolpogdcmhaaGreatQx6
set_option maxRecDepth 100000
set_option maxHeartbeats 16000000
namespace Go.Proofs.YthelolpogdcmhaaGreat
open Go.RowKit
theorem isItem_any (x:Int) (w:World):Calls Tryz.prog 55 #[.int .i64 x] w (VP (.bool (decide (1≤x∧x≤1000))) w):=by
 by_cases h1:1≤x
 · by_cases h2:x≤1000
   · rw[decide_eq_true (show 1≤x∧x≤1000 from⟨h1,h2⟩)]
     go_enter Tryz.func55,Tryz.ntmps55
     go_wp2;go_ret;exact⟨rfl,Below.refl _ _⟩
   · rw[decide_eq_false (show ¬(1≤x∧x≤1000) from fun h=>h2 h.2)]
     go_enter Tryz.func55,Tryz.ntmps55
     go_wp2;go_ret;exact⟨rfl,Below.refl _ _⟩
 · rw[decide_eq_false (show ¬(1≤x∧x≤1000) from fun h=>h1 h.1)];have h3:x<1:=by omega
   go_enter Tryz.func55,Tryz.ntmps55
   go_wp2;go_ret;exact⟨rfl,Below.refl _ _⟩
def VriA (Be:Nat) (id:Int) (_B:Nat):Nat→Value→World→Prop
 | 0,v,_=>v= .pointer (some ⟨Be,0,none⟩)
 | 1,v,_=>v= .int .i64 id
 | 2,v,_=>v= .bool (decide (1≤id∧id≤1000))
 | 3,v,_=>v= .bool true
 | 4,v,_=>v= .bool true
 | 5,v,_=>v=undef
 | 6,v,_=>v=undef
 | 7,v,_=>v=undef
 | 8,v,_=>v=undef
 | 9,v,_=>v= .bool true
 | 10,v,_=>v= .bool true
 | 11,v,_=>v=undef
 | 12,v,_=>v=undef
 | 13,v,_=>v=undef
 | 14,v,_=>v=undef
 | 15,v,_=>v=undef
 | 16,v,_=>v=undef
 | 17,v,_=>v=undef
 | 18,v,_=>v=undef
 | 19,v,_=>v=undef
 | 20,v,_=>v=undef
 | 21,v,_=>v=undef
 | 22,v,_=>v=undef
 | 23,v,_=>v=undef
 | 24,v,_=>v= .bool true
 | _,_,_=>True
theorem VriA.mono {Be:Nat} {id:Int} {B j:Nat} {v:Value} {W W2:World} (_hB:Below W.heap.size W W2) (h:VriA Be id B j v W):VriA Be id B j v W2:=by
 unfold VriA at *
 split<;>simp only at h<;>first | exact h | trivial
theorem riA {Q:Exit→Act→World→Prop} {Be:Nat} {id:Int} {k_:Nat} {a bb c d:Int} {w0:World} {a0:Act} {idq:Nat} {t0 t1 t2 t3 t4 t5 t6 t7 t8 t9 t10 t11 t12 t13 t14 t15 t16 t17 t18 t19 t20 t21 t22 t23 t24:TypeId} {q0 q1 q2 q3 q4 q5 q6 q7 q8 q9 q10 q11 q12 q13 q14 q15 q16 q17 q18 q19 q20 q21 q22 q23 q24:String}
 (h1:decide (1≤id∧id≤1000)=false) (h3:a0.tmps[3]? =some (.int .i64 (k_:Int))) (h4:a0.tmps[4]? =some (.pointer (some ⟨Be,0,none⟩))) (k0:w0.cell? ⟨Be,0,none⟩=some (.int .i64 id)) (l0:(⟨Be,0,none⟩:Addr).block<w0.heap.size) (k1:w0.cell? ⟨Be,1,none⟩=some (.int .i64 a)) (l1:(⟨Be,1,none⟩:Addr).block<w0.heap.size) (k2:w0.cell? ⟨Be,2,none⟩=some (.int .i64 bb)) (l2:(⟨Be,2,none⟩:Addr).block<w0.heap.size) (k3:w0.cell? ⟨Be,3,none⟩=some (.int .i64 c)) (l3:(⟨Be,3,none⟩:Addr).block<w0.heap.size) (k4:w0.cell? ⟨Be,4,none⟩=some (.int .i64 d)) (l4:(⟨Be,4,none⟩:Addr).block<w0.heap.size) (hz:a0.tmps.size=41)
 (hQ:∀aq W,aq.tmps.size=a0.tmps.size→aq.defers=a0.defers→(∀e,e∉([15,16,17,18,19,20,21,22,23,24,25,26,27,28,29,30,31,32,33,34,35,36,37,38,39]:List Nat)→aq.tmps[e]? =a0.tmps[e]?)→VriA Be id w0.heap.size 24 (aq.tmps.getD 39 undef) W→Below w0.heap.size w0 W→Q .normal aq W) :
 (Code.region idq #[⟨some 15,.fieldAddr 40 (.tmp 4) 0,t0,q0,#[],none⟩,
 ⟨some 16,.load 2 (.tmp 15),t1,q1,#[⟨0,.data⟩],none⟩,
 ⟨some 17,.call {callee:= .value (.func 55),args:=#[.tmp 16],argTypes:=#[2]},t2,q2,#[⟨1,.data⟩],none⟩,
 ⟨some 18,.unOp .not 4 (.tmp 17),t3,q3,#[⟨2,.data⟩],none⟩,
 ⟨some 19,.move (.tmp 18),t4,q4,#[⟨3,.data⟩,⟨2,.chain⟩],none⟩,
 ⟨some 20,.fieldAddr 40 (.tmp 4) 1,t5,q5,#[⟨4,.guard⟩],some (4,false)⟩,
 ⟨some 21,.load 38 (.tmp 20),t6,q6,#[⟨5,.data⟩,⟨4,.guard⟩],some (4,false)⟩,
 ⟨some 22,.call {callee:= .value (.func 24),args:=#[.tmp 21],argTypes:=#[38]},t7,q7,#[⟨6,.data⟩,⟨4,.chain⟩,⟨4,.guard⟩],some (4,false)⟩,
 ⟨some 23,.unOp .not 4 (.tmp 22),t8,q8,#[⟨7,.data⟩,⟨4,.guard⟩],some (4,false)⟩,
 ⟨some 24,.pick (.tmp 19) (.const (.bool true)) (.tmp 23),t9,q9,#[⟨4,.data⟩,⟨8,.data⟩],none⟩,
 ⟨some 25,.move (.tmp 24),t10,q10,#[⟨9,.data⟩,⟨7,.chain⟩],none⟩,
 ⟨some 26,.move (.tmp 3),t11,q11,#[⟨10,.guard⟩],some (10,false)⟩,
 ⟨some 27,.binOp .gtr 3 (.tmp 26) (.const (.int .i64 0)) 3,t12,q12,#[⟨11,.data⟩,⟨10,.guard⟩],some (10,false)⟩,
 ⟨some 28,.move (.tmp 27),t13,q13,#[⟨12,.data⟩,⟨10,.chain⟩,⟨10,.guard⟩],some (10,false)⟩,
 ⟨some 29,.move (.tmp 0),t14,q14,#[⟨13,.guard⟩],some (13,true)⟩,
 ⟨some 30,.move (.tmp 3),t15,q15,#[⟨13,.guard⟩],some (13,true)⟩,
 ⟨some 31,.binOp .sub 3 (.tmp 30) (.const (.int .i64 1)) 3,t16,q16,#[⟨15,.data⟩,⟨13,.guard⟩],some (13,true)⟩,
 ⟨some 32,.indexAddr 24 (.tmp 29) (.tmp 31),t17,q17,#[⟨14,.data⟩,⟨16,.data⟩,⟨13,.guard⟩],some (13,true)⟩,
 ⟨some 33,.fieldAddr 40 (.tmp 32) 0,t18,q18,#[⟨17,.data⟩,⟨13,.guard⟩],some (13,true)⟩,
 ⟨some 34,.load 2 (.tmp 33),t19,q19,#[⟨18,.data⟩,⟨13,.guard⟩],some (13,true)⟩,
 ⟨some 35,.fieldAddr 40 (.tmp 4) 0,t20,q20,#[⟨13,.guard⟩],some (13,true)⟩,
 ⟨some 36,.load 2 (.tmp 35),t21,q21,#[⟨20,.data⟩,⟨13,.guard⟩],some (13,true)⟩,
 ⟨some 37,.binOp .geq 2 (.tmp 34) (.tmp 36) 2,t22,q22,#[⟨19,.data⟩,⟨21,.data⟩,⟨13,.guard⟩],some (13,true)⟩,
 ⟨some 38,.pick (.tmp 28) (.tmp 37) (.const (.bool false)),t23,q23,#[⟨13,.data⟩,⟨22,.data⟩,⟨10,.guard⟩],some (10,false)⟩,
 ⟨some 39,.pick (.tmp 25) (.const (.bool true)) (.tmp 38),t24,q24,#[⟨10,.data⟩,⟨23,.data⟩],none⟩] true).wp Tryz.prog Q a0 w0:=by
 have hS:distS [some 15,some 16,some 17,some 18,some 19,some 20,some 21,some 22,some 23,some 24,some 25,some 26,some 27,some 28,some 29,some 30,some 31,some 32,some 33,some 34,some 35,some 36,some 37,some 38,some 39]=true:=rfl;refine wp_region_q (by kernel_rfl) w0.heap.size [some 15,some 16,some 17,some 18,some 19,some 20,some 21,some 22,some 23,some 24,some 25,some 26,some 27,some 28,some 29,some 30,some 31,some 32,some 33,some 34,some 35,some 36,some 37,some 38,some 39] (VriA Be id w0.heap.size) rfl ?_ ?_
 · intro Q lq aq W iq oq hJ2 hl ho hall;have z5:=hJ2.b;have g3:=hJ2.a h3
   have g4:=hJ2.a h4
   have c0:=hJ2.c k0 l0;have c1:=hJ2.c k1 l1;have c2:=hJ2.c k2 l2;have c3:=hJ2.c k3 l3;have c4:=hJ2.c k4 l4
   clear hQ
   match iq,ho with
   | 0,ho=>
    cases ho;refine wpOp_of rfl rfl ?_;have hK:=hJ2.gO hS 0 15;generalize InvQ _ _ _ _ _ _=K at hK⊢;clear ho hall hl hJ2 hS;go_simp;exact hK _ rfl
   | 1,ho=>
    cases ho;refine wpOp_of rfl rfl ?_;have f0:_=Value.pointer (some ⟨Be,0,none⟩):=hJ2.v hall 0 15;have hK:=hJ2.gO hS 1 16;generalize InvQ _ _ _ _ _ _=K at hK⊢;clear ho hall hl hJ2 hS;go_simp;exact hK _ rfl
   | 2,ho=>
    cases ho;refine wpOp_of rfl rfl ?_;have f1:_=Value.int .i64 id:=hJ2.v hall 1 16;have hK:=hJ2.go hS 2 17;generalize InvQ _ _ _ _ _ _=K at hK⊢;clear ho hall hl hJ2 hS;go_simp;refine(isItem_any id W).mono ?_;rintro e v1 ⟨rfl,hBv⟩;exact hK _ _ (z5.trans (hBv.mono z5.size)) (fun j v h=>h.mono hBv) rfl
   | 3,ho=>
    cases ho;refine wpOp_of rfl rfl ?_;have f2:_=Value.bool (decide (1≤id∧id≤1000)):=hJ2.v hall 2 17;rw[h1] at f2;have hK:=hJ2.gO hS 3 18;generalize InvQ _ _ _ _ _ _=K at hK⊢;clear ho hall hl hJ2 hS;go_simp;exact hK _ rfl
   | 4,ho=>
    cases ho;refine wpOp_of rfl rfl ?_;have f3:_=Value.bool true:=hJ2.v hall 3 18;have hK:=hJ2.gO hS 4 19;generalize InvQ _ _ _ _ _ _=K at hK⊢;clear ho hall hl hJ2 hS;go_simp;exact hK _ rfl
   | 5,ho=>
    cases ho;have fg:aq.tmps.getD 19 undef= .bool true:=hJ2.v hall 4 19 .guard;refine wpOp_off rfl rfl rfl rfl fg ?_;exact hJ2.put hS 5 20 rfl (by omega) z5 (fun _ _ h=>h) undef rfl
   | 6,ho=>
    cases ho;have fg:aq.tmps.getD 19 undef= .bool true:=hJ2.v hall 4 19 .guard;refine wpOp_off rfl rfl rfl rfl fg ?_;exact hJ2.put hS 6 21 rfl (by omega) z5 (fun _ _ h=>h) undef rfl
   | 7,ho=>
    cases ho;have fg:aq.tmps.getD 19 undef= .bool true:=hJ2.v hall 4 19 .guard;refine wpOp_off rfl rfl rfl rfl fg ?_;exact hJ2.put hS 7 22 rfl (by omega) z5 (fun _ _ h=>h) undef rfl
   | 8,ho=>
    cases ho;have fg:aq.tmps.getD 19 undef= .bool true:=hJ2.v hall 4 19 .guard;refine wpOp_off rfl rfl rfl rfl fg ?_;exact hJ2.put hS 8 23 rfl (by omega) z5 (fun _ _ h=>h) undef rfl
   | 9,ho=>
    cases ho;refine wpOp_of rfl rfl ?_;have f4:_=Value.bool true:=hJ2.v hall 4 19;have f8:_=undef:=hJ2.v hall 8 23;have hK:=hJ2.gO hS 9 24;generalize InvQ _ _ _ _ _ _=K at hK⊢;clear ho hall hl hJ2 hS;go_simp;exact hK _ rfl
   | 10,ho=>
    cases ho;refine wpOp_of rfl rfl ?_;have f9:_=Value.bool true:=hJ2.v hall 9 24;have hK:=hJ2.gO hS 10 25;generalize InvQ _ _ _ _ _ _=K at hK⊢;clear ho hall hl hJ2 hS;go_simp;exact hK _ rfl
   | 11,ho=>
    cases ho;have fg:aq.tmps.getD 25 undef= .bool true:=hJ2.v hall 10 25 .guard;refine wpOp_off rfl rfl rfl rfl fg ?_;exact hJ2.put hS 11 26 rfl (by omega) z5 (fun _ _ h=>h) undef rfl
   | 12,ho=>
    cases ho;have fg:aq.tmps.getD 25 undef= .bool true:=hJ2.v hall 10 25 .guard;refine wpOp_off rfl rfl rfl rfl fg ?_;exact hJ2.put hS 12 27 rfl (by omega) z5 (fun _ _ h=>h) undef rfl
   | 13,ho=>
    cases ho;have fg:aq.tmps.getD 25 undef= .bool true:=hJ2.v hall 10 25 .guard;refine wpOp_off rfl rfl rfl rfl fg ?_;exact hJ2.put hS 13 28 rfl (by omega) z5 (fun _ _ h=>h) undef rfl
   | 14,ho=>
    cases ho;have fg:aq.tmps.getD 28 undef=undef:=hJ2.v hall 13 28 .guard;refine wpOp_offu rfl rfl rfl rfl fg ?_;exact hJ2.put hS 14 29 rfl (by omega) z5 (fun _ _ h=>h) undef rfl
   | 15,ho=>
    cases ho;have fg:aq.tmps.getD 28 undef=undef:=hJ2.v hall 13 28 .guard;refine wpOp_offu rfl rfl rfl rfl fg ?_;exact hJ2.put hS 15 30 rfl (by omega) z5 (fun _ _ h=>h) undef rfl
   | 16,ho=>
    cases ho;have fg:aq.tmps.getD 28 undef=undef:=hJ2.v hall 13 28 .guard;refine wpOp_offu rfl rfl rfl rfl fg ?_;exact hJ2.put hS 16 31 rfl (by omega) z5 (fun _ _ h=>h) undef rfl
   | 17,ho=>
    cases ho;have fg:aq.tmps.getD 28 undef=undef:=hJ2.v hall 13 28 .guard;refine wpOp_offu rfl rfl rfl rfl fg ?_;exact hJ2.put hS 17 32 rfl (by omega) z5 (fun _ _ h=>h) undef rfl
   | 18,ho=>
    cases ho;have fg:aq.tmps.getD 28 undef=undef:=hJ2.v hall 13 28 .guard;refine wpOp_offu rfl rfl rfl rfl fg ?_;exact hJ2.put hS 18 33 rfl (by omega) z5 (fun _ _ h=>h) undef rfl
   | 19,ho=>
    cases ho;have fg:aq.tmps.getD 28 undef=undef:=hJ2.v hall 13 28 .guard;refine wpOp_offu rfl rfl rfl rfl fg ?_;exact hJ2.put hS 19 34 rfl (by omega) z5 (fun _ _ h=>h) undef rfl
   | 20,ho=>
    cases ho;have fg:aq.tmps.getD 28 undef=undef:=hJ2.v hall 13 28 .guard;refine wpOp_offu rfl rfl rfl rfl fg ?_;exact hJ2.put hS 20 35 rfl (by omega) z5 (fun _ _ h=>h) undef rfl
   | 21,ho=>
    cases ho;have fg:aq.tmps.getD 28 undef=undef:=hJ2.v hall 13 28 .guard;refine wpOp_offu rfl rfl rfl rfl fg ?_;exact hJ2.put hS 21 36 rfl (by omega) z5 (fun _ _ h=>h) undef rfl
   | 22,ho=>
    cases ho;have fg:aq.tmps.getD 28 undef=undef:=hJ2.v hall 13 28 .guard;refine wpOp_offu rfl rfl rfl rfl fg ?_;exact hJ2.put hS 22 37 rfl (by omega) z5 (fun _ _ h=>h) undef rfl
   | 23,ho=>
    cases ho;have fg:aq.tmps.getD 25 undef= .bool true:=hJ2.v hall 10 25 .guard;refine wpOp_off rfl rfl rfl rfl fg ?_;exact hJ2.put hS 23 38 rfl (by omega) z5 (fun _ _ h=>h) undef rfl
   | 24,ho=>
    cases ho;refine wpOp_of rfl rfl ?_;have f10:_=Value.bool true:=hJ2.v hall 10 25;have f23:_=undef:=hJ2.v hall 23 38;have hK:=hJ2.gO hS 24 39;generalize InvQ _ _ _ _ _ _=K at hK⊢;clear ho hall hl hJ2 hS;go_simp;exact hK _ rfl
   | iq+25,ho=>simp at ho
 · intro lq aq W hJ hr;obtain⟨z1,z2,z3,z4,z5,z6,z7⟩:=hJ;have hl:=listed_of hr [0,1,2,3,4,5,6,7,8,9,10,11,12,13,14,15,16,17,18,19,20,21,22,23,24] [] (by simp) (by kernel_rfl) (by rw[z1];decide);exact hQ aq W z2 z3 (fun e he=>z4 e (by simpa using he)) (z6 24 39 (hl 24 (by simp)) rfl) z5
def VriB (Be:Nat) (id a bb c d:Int) (_B:Nat):Nat→Value→World→Prop
 | 0,v,_=>v= .pointer (some ⟨Be,0,none⟩)
 | 1,v,_=>v= .int .i64 id
 | 2,v,_=>v= .bool (decide (1≤id∧id≤1000))
 | 3,v,_=>v= .bool false
 | 4,v,_=>v= .bool false
 | 5,v,_=>v= .pointer (some ⟨Be,1,none⟩)
 | 6,v,_=>v=Sg a bb c d
 | 7,v,_=>v= .bool (segOk a bb c d)
 | 8,v,_=>v= .bool true
 | 9,v,_=>v= .bool true
 | 10,v,_=>v= .bool true
 | 11,v,_=>v=undef
 | 12,v,_=>v=undef
 | 13,v,_=>v=undef
 | 14,v,_=>v=undef
 | 15,v,_=>v=undef
 | 16,v,_=>v=undef
 | 17,v,_=>v=undef
 | 18,v,_=>v=undef
 | 19,v,_=>v=undef
 | 20,v,_=>v=undef
 | 21,v,_=>v=undef
 | 22,v,_=>v=undef
 | 23,v,_=>v=undef
 | 24,v,_=>v= .bool true
 | _,_,_=>True
theorem VriB.mono {Be:Nat} {id a bb c d:Int} {B j:Nat} {v:Value} {W W2:World} (_hB:Below W.heap.size W W2) (h:VriB Be id a bb c d B j v W):VriB Be id a bb c d B j v W2:=by
 unfold VriB at *
 split<;>simp only at h<;>first | exact h | trivial
theorem riB {Q:Exit→Act→World→Prop} {Be:Nat} {id a bb c d:Int} {k_:Nat} {w0:World} {a0:Act} {idq:Nat} {t0 t1 t2 t3 t4 t5 t6 t7 t8 t9 t10 t11 t12 t13 t14 t15 t16 t17 t18 t19 t20 t21 t22 t23 t24:TypeId} {q0 q1 q2 q3 q4 q5 q6 q7 q8 q9 q10 q11 q12 q13 q14 q15 q16 q17 q18 q19 q20 q21 q22 q23 q24:String}
 (h1:decide (1≤id∧id≤1000)=true) (h2:segOk a bb c d=false) (h3:a0.tmps[3]? =some (.int .i64 (k_:Int))) (h4:a0.tmps[4]? =some (.pointer (some ⟨Be,0,none⟩))) (k0:w0.cell? ⟨Be,0,none⟩=some (.int .i64 id)) (l0:(⟨Be,0,none⟩:Addr).block<w0.heap.size) (k1:w0.cell? ⟨Be,1,none⟩=some (.int .i64 a)) (l1:(⟨Be,1,none⟩:Addr).block<w0.heap.size) (k2:w0.cell? ⟨Be,2,none⟩=some (.int .i64 bb)) (l2:(⟨Be,2,none⟩:Addr).block<w0.heap.size) (k3:w0.cell? ⟨Be,3,none⟩=some (.int .i64 c)) (l3:(⟨Be,3,none⟩:Addr).block<w0.heap.size) (k4:w0.cell? ⟨Be,4,none⟩=some (.int .i64 d)) (l4:(⟨Be,4,none⟩:Addr).block<w0.heap.size) (hz:a0.tmps.size=41)
 (hQ:∀aq W,aq.tmps.size=a0.tmps.size→aq.defers=a0.defers→(∀e,e∉([15,16,17,18,19,20,21,22,23,24,25,26,27,28,29,30,31,32,33,34,35,36,37,38,39]:List Nat)→aq.tmps[e]? =a0.tmps[e]?)→VriB Be id a bb c d w0.heap.size 24 (aq.tmps.getD 39 undef) W→Below w0.heap.size w0 W→Q .normal aq W) :
 (Code.region idq #[⟨some 15,.fieldAddr 40 (.tmp 4) 0,t0,q0,#[],none⟩,
 ⟨some 16,.load 2 (.tmp 15),t1,q1,#[⟨0,.data⟩],none⟩,
 ⟨some 17,.call {callee:= .value (.func 55),args:=#[.tmp 16],argTypes:=#[2]},t2,q2,#[⟨1,.data⟩],none⟩,
 ⟨some 18,.unOp .not 4 (.tmp 17),t3,q3,#[⟨2,.data⟩],none⟩,
 ⟨some 19,.move (.tmp 18),t4,q4,#[⟨3,.data⟩,⟨2,.chain⟩],none⟩,
 ⟨some 20,.fieldAddr 40 (.tmp 4) 1,t5,q5,#[⟨4,.guard⟩],some (4,false)⟩,
 ⟨some 21,.load 38 (.tmp 20),t6,q6,#[⟨5,.data⟩,⟨4,.guard⟩],some (4,false)⟩,
 ⟨some 22,.call {callee:= .value (.func 24),args:=#[.tmp 21],argTypes:=#[38]},t7,q7,#[⟨6,.data⟩,⟨4,.chain⟩,⟨4,.guard⟩],some (4,false)⟩,
 ⟨some 23,.unOp .not 4 (.tmp 22),t8,q8,#[⟨7,.data⟩,⟨4,.guard⟩],some (4,false)⟩,
 ⟨some 24,.pick (.tmp 19) (.const (.bool true)) (.tmp 23),t9,q9,#[⟨4,.data⟩,⟨8,.data⟩],none⟩,
 ⟨some 25,.move (.tmp 24),t10,q10,#[⟨9,.data⟩,⟨7,.chain⟩],none⟩,
 ⟨some 26,.move (.tmp 3),t11,q11,#[⟨10,.guard⟩],some (10,false)⟩,
 ⟨some 27,.binOp .gtr 3 (.tmp 26) (.const (.int .i64 0)) 3,t12,q12,#[⟨11,.data⟩,⟨10,.guard⟩],some (10,false)⟩,
 ⟨some 28,.move (.tmp 27),t13,q13,#[⟨12,.data⟩,⟨10,.chain⟩,⟨10,.guard⟩],some (10,false)⟩,
 ⟨some 29,.move (.tmp 0),t14,q14,#[⟨13,.guard⟩],some (13,true)⟩,
 ⟨some 30,.move (.tmp 3),t15,q15,#[⟨13,.guard⟩],some (13,true)⟩,
 ⟨some 31,.binOp .sub 3 (.tmp 30) (.const (.int .i64 1)) 3,t16,q16,#[⟨15,.data⟩,⟨13,.guard⟩],some (13,true)⟩,
 ⟨some 32,.indexAddr 24 (.tmp 29) (.tmp 31),t17,q17,#[⟨14,.data⟩,⟨16,.data⟩,⟨13,.guard⟩],some (13,true)⟩,
 ⟨some 33,.fieldAddr 40 (.tmp 32) 0,t18,q18,#[⟨17,.data⟩,⟨13,.guard⟩],some (13,true)⟩,
 ⟨some 34,.load 2 (.tmp 33),t19,q19,#[⟨18,.data⟩,⟨13,.guard⟩],some (13,true)⟩,
 ⟨some 35,.fieldAddr 40 (.tmp 4) 0,t20,q20,#[⟨13,.guard⟩],some (13,true)⟩,
 ⟨some 36,.load 2 (.tmp 35),t21,q21,#[⟨20,.data⟩,⟨13,.guard⟩],some (13,true)⟩,
 ⟨some 37,.binOp .geq 2 (.tmp 34) (.tmp 36) 2,t22,q22,#[⟨19,.data⟩,⟨21,.data⟩,⟨13,.guard⟩],some (13,true)⟩,
 ⟨some 38,.pick (.tmp 28) (.tmp 37) (.const (.bool false)),t23,q23,#[⟨13,.data⟩,⟨22,.data⟩,⟨10,.guard⟩],some (10,false)⟩,
 ⟨some 39,.pick (.tmp 25) (.const (.bool true)) (.tmp 38),t24,q24,#[⟨10,.data⟩,⟨23,.data⟩],none⟩] true).wp Tryz.prog Q a0 w0:=by
 have hS:distS [some 15,some 16,some 17,some 18,some 19,some 20,some 21,some 22,some 23,some 24,some 25,some 26,some 27,some 28,some 29,some 30,some 31,some 32,some 33,some 34,some 35,some 36,some 37,some 38,some 39]=true:=rfl;refine wp_region_q (by kernel_rfl) w0.heap.size [some 15,some 16,some 17,some 18,some 19,some 20,some 21,some 22,some 23,some 24,some 25,some 26,some 27,some 28,some 29,some 30,some 31,some 32,some 33,some 34,some 35,some 36,some 37,some 38,some 39] (VriB Be id a bb c d w0.heap.size) rfl ?_ ?_
 · intro Q lq aq W iq oq hJ2 hl ho hall;have z5:=hJ2.b;have g3:=hJ2.a h3
   have g4:=hJ2.a h4
   have c0:=hJ2.c k0 l0;have c1:=hJ2.c k1 l1;have c2:=hJ2.c k2 l2;have c3:=hJ2.c k3 l3;have c4:=hJ2.c k4 l4
   clear hQ
   match iq,ho with
   | 0,ho=>
    cases ho;refine wpOp_of rfl rfl ?_;have hK:=hJ2.gO hS 0 15;generalize InvQ _ _ _ _ _ _=K at hK⊢;clear ho hall hl hJ2 hS;go_simp;exact hK _ rfl
   | 1,ho=>
    cases ho;refine wpOp_of rfl rfl ?_;have f0:_=Value.pointer (some ⟨Be,0,none⟩):=hJ2.v hall 0 15;have hK:=hJ2.gO hS 1 16;generalize InvQ _ _ _ _ _ _=K at hK⊢;clear ho hall hl hJ2 hS;go_simp;exact hK _ rfl
   | 2,ho=>
    cases ho;refine wpOp_of rfl rfl ?_;have f1:_=Value.int .i64 id:=hJ2.v hall 1 16;have hK:=hJ2.go hS 2 17;generalize InvQ _ _ _ _ _ _=K at hK⊢;clear ho hall hl hJ2 hS;go_simp;refine(isItem_any id W).mono ?_;rintro e v1 ⟨rfl,hBv⟩;exact hK _ _ (z5.trans (hBv.mono z5.size)) (fun j v h=>h.mono hBv) rfl
   | 3,ho=>
    cases ho;refine wpOp_of rfl rfl ?_;have f2:_=Value.bool (decide (1≤id∧id≤1000)):=hJ2.v hall 2 17;rw[h1] at f2;have hK:=hJ2.gO hS 3 18;generalize InvQ _ _ _ _ _ _=K at hK⊢;clear ho hall hl hJ2 hS;go_simp;exact hK _ rfl
   | 4,ho=>
    cases ho;refine wpOp_of rfl rfl ?_;have f3:_=Value.bool false:=hJ2.v hall 3 18;have hK:=hJ2.gO hS 4 19;generalize InvQ _ _ _ _ _ _=K at hK⊢;clear ho hall hl hJ2 hS;go_simp;exact hK _ rfl
   | 5,ho=>
    cases ho;have fg:aq.tmps.getD 19 undef= .bool false:=hJ2.v hall 4 19 .guard;refine wpOp_on rfl rfl rfl rfl fg ?_;have hK:=hJ2.gO hS 5 20;generalize InvQ _ _ _ _ _ _=K at hK⊢;clear ho hall hl hJ2 hS;go_simp;exact hK _ rfl
   | 6,ho=>
    cases ho;have fg:aq.tmps.getD 19 undef= .bool false:=hJ2.v hall 4 19 .guard;refine wpOp_on rfl rfl rfl rfl fg ?_;have f5:_=Value.pointer (some ⟨Be,1,none⟩):=hJ2.v hall 5 20;have hK:=hJ2.gO hS 6 21;generalize InvQ _ _ _ _ _ _=K at hK⊢;clear ho hall hl hJ2 hS;go_simp;exact hK _ rfl
   | 7,ho=>
    cases ho;have fg:aq.tmps.getD 19 undef= .bool false:=hJ2.v hall 4 19 .guard;refine wpOp_on rfl rfl rfl rfl fg ?_;have f6:_=Sg a bb c d:=hJ2.v hall 6 21;have hK:=hJ2.go hS 7 22;generalize InvQ _ _ _ _ _ _=K at hK⊢;clear ho hall hl hJ2 hS;go_simp;refine(implSegOk_any a bb c d _ rfl W).mono ?_;rintro e v1 ⟨rfl,hBv⟩;exact hK _ _ (z5.trans (hBv.mono z5.size)) (fun j v h=>h.mono hBv) rfl
   | 8,ho=>
    cases ho;have fg:aq.tmps.getD 19 undef= .bool false:=hJ2.v hall 4 19 .guard;refine wpOp_on rfl rfl rfl rfl fg ?_;have f7:_=Value.bool (segOk a bb c d):=hJ2.v hall 7 22;rw[h2] at f7;have hK:=hJ2.gO hS 8 23;generalize InvQ _ _ _ _ _ _=K at hK⊢;clear ho hall hl hJ2 hS;go_simp;exact hK _ rfl
   | 9,ho=>
    cases ho;refine wpOp_of rfl rfl ?_;have f4:_=Value.bool false:=hJ2.v hall 4 19;have f8:_=Value.bool true:=hJ2.v hall 8 23;have hK:=hJ2.gO hS 9 24;generalize InvQ _ _ _ _ _ _=K at hK⊢;clear ho hall hl hJ2 hS;go_simp;exact hK _ rfl
   | 10,ho=>
    cases ho;refine wpOp_of rfl rfl ?_;have f9:_=Value.bool true:=hJ2.v hall 9 24;have hK:=hJ2.gO hS 10 25;generalize InvQ _ _ _ _ _ _=K at hK⊢;clear ho hall hl hJ2 hS;go_simp;exact hK _ rfl
   | 11,ho=>
    cases ho;have fg:aq.tmps.getD 25 undef= .bool true:=hJ2.v hall 10 25 .guard;refine wpOp_off rfl rfl rfl rfl fg ?_;exact hJ2.put hS 11 26 rfl (by omega) z5 (fun _ _ h=>h) undef rfl
   | 12,ho=>
    cases ho;have fg:aq.tmps.getD 25 undef= .bool true:=hJ2.v hall 10 25 .guard;refine wpOp_off rfl rfl rfl rfl fg ?_;exact hJ2.put hS 12 27 rfl (by omega) z5 (fun _ _ h=>h) undef rfl
   | 13,ho=>
    cases ho;have fg:aq.tmps.getD 25 undef= .bool true:=hJ2.v hall 10 25 .guard;refine wpOp_off rfl rfl rfl rfl fg ?_;exact hJ2.put hS 13 28 rfl (by omega) z5 (fun _ _ h=>h) undef rfl
   | 14,ho=>
    cases ho;have fg:aq.tmps.getD 28 undef=undef:=hJ2.v hall 13 28 .guard;refine wpOp_offu rfl rfl rfl rfl fg ?_;exact hJ2.put hS 14 29 rfl (by omega) z5 (fun _ _ h=>h) undef rfl
   | 15,ho=>
    cases ho;have fg:aq.tmps.getD 28 undef=undef:=hJ2.v hall 13 28 .guard;refine wpOp_offu rfl rfl rfl rfl fg ?_;exact hJ2.put hS 15 30 rfl (by omega) z5 (fun _ _ h=>h) undef rfl
   | 16,ho=>
    cases ho;have fg:aq.tmps.getD 28 undef=undef:=hJ2.v hall 13 28 .guard;refine wpOp_offu rfl rfl rfl rfl fg ?_;exact hJ2.put hS 16 31 rfl (by omega) z5 (fun _ _ h=>h) undef rfl
   | 17,ho=>
    cases ho;have fg:aq.tmps.getD 28 undef=undef:=hJ2.v hall 13 28 .guard;refine wpOp_offu rfl rfl rfl rfl fg ?_;exact hJ2.put hS 17 32 rfl (by omega) z5 (fun _ _ h=>h) undef rfl
   | 18,ho=>
    cases ho;have fg:aq.tmps.getD 28 undef=undef:=hJ2.v hall 13 28 .guard;refine wpOp_offu rfl rfl rfl rfl fg ?_;exact hJ2.put hS 18 33 rfl (by omega) z5 (fun _ _ h=>h) undef rfl
   | 19,ho=>
    cases ho;have fg:aq.tmps.getD 28 undef=undef:=hJ2.v hall 13 28 .guard;refine wpOp_offu rfl rfl rfl rfl fg ?_;exact hJ2.put hS 19 34 rfl (by omega) z5 (fun _ _ h=>h) undef rfl
   | 20,ho=>
    cases ho;have fg:aq.tmps.getD 28 undef=undef:=hJ2.v hall 13 28 .guard;refine wpOp_offu rfl rfl rfl rfl fg ?_;exact hJ2.put hS 20 35 rfl (by omega) z5 (fun _ _ h=>h) undef rfl
   | 21,ho=>
    cases ho;have fg:aq.tmps.getD 28 undef=undef:=hJ2.v hall 13 28 .guard;refine wpOp_offu rfl rfl rfl rfl fg ?_;exact hJ2.put hS 21 36 rfl (by omega) z5 (fun _ _ h=>h) undef rfl
   | 22,ho=>
    cases ho;have fg:aq.tmps.getD 28 undef=undef:=hJ2.v hall 13 28 .guard;refine wpOp_offu rfl rfl rfl rfl fg ?_;exact hJ2.put hS 22 37 rfl (by omega) z5 (fun _ _ h=>h) undef rfl
   | 23,ho=>
    cases ho;have fg:aq.tmps.getD 25 undef= .bool true:=hJ2.v hall 10 25 .guard;refine wpOp_off rfl rfl rfl rfl fg ?_;exact hJ2.put hS 23 38 rfl (by omega) z5 (fun _ _ h=>h) undef rfl
   | 24,ho=>
    cases ho;refine wpOp_of rfl rfl ?_;have f10:_=Value.bool true:=hJ2.v hall 10 25;have f23:_=undef:=hJ2.v hall 23 38;have hK:=hJ2.gO hS 24 39;generalize InvQ _ _ _ _ _ _=K at hK⊢;clear ho hall hl hJ2 hS;go_simp;exact hK _ rfl
   | iq+25,ho=>simp at ho
 · intro lq aq W hJ hr;obtain⟨z1,z2,z3,z4,z5,z6,z7⟩:=hJ;have hl:=listed_of hr [0,1,2,3,4,5,6,7,8,9,10,11,12,13,14,15,16,17,18,19,20,21,22,23,24] [] (by simp) (by kernel_rfl) (by rw[z1];decide);exact hQ aq W z2 z3 (fun e he=>z4 e (by simpa using he)) (z6 24 39 (hl 24 (by simp)) rfl) z5
def VriC (Be k_:Nat) (id a bb c d:Int) (_B:Nat):Nat→Value→World→Prop
 | 0,v,_=>v= .pointer (some ⟨Be,0,none⟩)
 | 1,v,_=>v= .int .i64 id
 | 2,v,_=>v= .bool (decide (1≤id∧id≤1000))
 | 3,v,_=>v= .bool false
 | 4,v,_=>v= .bool false
 | 5,v,_=>v= .pointer (some ⟨Be,1,none⟩)
 | 6,v,_=>v=Sg a bb c d
 | 7,v,_=>v= .bool (segOk a bb c d)
 | 8,v,_=>v= .bool false
 | 9,v,_=>v= .bool false
 | 10,v,_=>v= .bool false
 | 11,v,_=>v= .int .i64 (k_:Int)
 | 12,v,_=>v= .bool false
 | 13,v,_=>v= .bool false
 | 14,v,_=>v=undef
 | 15,v,_=>v=undef
 | 16,v,_=>v=undef
 | 17,v,_=>v=undef
 | 18,v,_=>v=undef
 | 19,v,_=>v=undef
 | 20,v,_=>v=undef
 | 21,v,_=>v=undef
 | 22,v,_=>v=undef
 | 23,v,_=>v= .bool false
 | 24,v,_=>v= .bool false
 | _,_,_=>True
theorem VriC.mono {Be k_:Nat} {id a bb c d:Int} {B j:Nat} {v:Value} {W W2:World} (_hB:Below W.heap.size W W2) (h:VriC Be k_ id a bb c d B j v W):VriC Be k_ id a bb c d B j v W2:=by
 unfold VriC at *
 split<;>simp only at h<;>first | exact h | trivial
theorem riC {Q:Exit→Act→World→Prop} {Be k_:Nat} {id a bb c d:Int} {w0:World} {a0:Act} {idq:Nat} {t0 t1 t2 t3 t4 t5 t6 t7 t8 t9 t10 t11 t12 t13 t14 t15 t16 t17 t18 t19 t20 t21 t22 t23 t24:TypeId} {q0 q1 q2 q3 q4 q5 q6 q7 q8 q9 q10 q11 q12 q13 q14 q15 q16 q17 q18 q19 q20 q21 q22 q23 q24:String}
 (h1:decide (1≤id∧id≤1000)=true) (h2:segOk a bb c d=true) (hk0:Hid (k_=0)) (h3:a0.tmps[3]? =some (.int .i64 (k_:Int))) (h4:a0.tmps[4]? =some (.pointer (some ⟨Be,0,none⟩))) (k0:w0.cell? ⟨Be,0,none⟩=some (.int .i64 id)) (l0:(⟨Be,0,none⟩:Addr).block<w0.heap.size) (k1:w0.cell? ⟨Be,1,none⟩=some (.int .i64 a)) (l1:(⟨Be,1,none⟩:Addr).block<w0.heap.size) (k2:w0.cell? ⟨Be,2,none⟩=some (.int .i64 bb)) (l2:(⟨Be,2,none⟩:Addr).block<w0.heap.size) (k3:w0.cell? ⟨Be,3,none⟩=some (.int .i64 c)) (l3:(⟨Be,3,none⟩:Addr).block<w0.heap.size) (k4:w0.cell? ⟨Be,4,none⟩=some (.int .i64 d)) (l4:(⟨Be,4,none⟩:Addr).block<w0.heap.size) (hz:a0.tmps.size=41)
 (hQ:∀aq W,aq.tmps.size=a0.tmps.size→aq.defers=a0.defers→(∀e,e∉([15,16,17,18,19,20,21,22,23,24,25,26,27,28,29,30,31,32,33,34,35,36,37,38,39]:List Nat)→aq.tmps[e]? =a0.tmps[e]?)→VriC Be k_ id a bb c d w0.heap.size 24 (aq.tmps.getD 39 undef) W→Below w0.heap.size w0 W→Q .normal aq W) :
 (Code.region idq #[⟨some 15,.fieldAddr 40 (.tmp 4) 0,t0,q0,#[],none⟩,
 ⟨some 16,.load 2 (.tmp 15),t1,q1,#[⟨0,.data⟩],none⟩,
 ⟨some 17,.call {callee:= .value (.func 55),args:=#[.tmp 16],argTypes:=#[2]},t2,q2,#[⟨1,.data⟩],none⟩,
 ⟨some 18,.unOp .not 4 (.tmp 17),t3,q3,#[⟨2,.data⟩],none⟩,
 ⟨some 19,.move (.tmp 18),t4,q4,#[⟨3,.data⟩,⟨2,.chain⟩],none⟩,
 ⟨some 20,.fieldAddr 40 (.tmp 4) 1,t5,q5,#[⟨4,.guard⟩],some (4,false)⟩,
 ⟨some 21,.load 38 (.tmp 20),t6,q6,#[⟨5,.data⟩,⟨4,.guard⟩],some (4,false)⟩,
 ⟨some 22,.call {callee:= .value (.func 24),args:=#[.tmp 21],argTypes:=#[38]},t7,q7,#[⟨6,.data⟩,⟨4,.chain⟩,⟨4,.guard⟩],some (4,false)⟩,
 ⟨some 23,.unOp .not 4 (.tmp 22),t8,q8,#[⟨7,.data⟩,⟨4,.guard⟩],some (4,false)⟩,
 ⟨some 24,.pick (.tmp 19) (.const (.bool true)) (.tmp 23),t9,q9,#[⟨4,.data⟩,⟨8,.data⟩],none⟩,
 ⟨some 25,.move (.tmp 24),t10,q10,#[⟨9,.data⟩,⟨7,.chain⟩],none⟩,
 ⟨some 26,.move (.tmp 3),t11,q11,#[⟨10,.guard⟩],some (10,false)⟩,
 ⟨some 27,.binOp .gtr 3 (.tmp 26) (.const (.int .i64 0)) 3,t12,q12,#[⟨11,.data⟩,⟨10,.guard⟩],some (10,false)⟩,
 ⟨some 28,.move (.tmp 27),t13,q13,#[⟨12,.data⟩,⟨10,.chain⟩,⟨10,.guard⟩],some (10,false)⟩,
 ⟨some 29,.move (.tmp 0),t14,q14,#[⟨13,.guard⟩],some (13,true)⟩,
 ⟨some 30,.move (.tmp 3),t15,q15,#[⟨13,.guard⟩],some (13,true)⟩,
 ⟨some 31,.binOp .sub 3 (.tmp 30) (.const (.int .i64 1)) 3,t16,q16,#[⟨15,.data⟩,⟨13,.guard⟩],some (13,true)⟩,
 ⟨some 32,.indexAddr 24 (.tmp 29) (.tmp 31),t17,q17,#[⟨14,.data⟩,⟨16,.data⟩,⟨13,.guard⟩],some (13,true)⟩,
 ⟨some 33,.fieldAddr 40 (.tmp 32) 0,t18,q18,#[⟨17,.data⟩,⟨13,.guard⟩],some (13,true)⟩,
 ⟨some 34,.load 2 (.tmp 33),t19,q19,#[⟨18,.data⟩,⟨13,.guard⟩],some (13,true)⟩,
 ⟨some 35,.fieldAddr 40 (.tmp 4) 0,t20,q20,#[⟨13,.guard⟩],some (13,true)⟩,
 ⟨some 36,.load 2 (.tmp 35),t21,q21,#[⟨20,.data⟩,⟨13,.guard⟩],some (13,true)⟩,
 ⟨some 37,.binOp .geq 2 (.tmp 34) (.tmp 36) 2,t22,q22,#[⟨19,.data⟩,⟨21,.data⟩,⟨13,.guard⟩],some (13,true)⟩,
 ⟨some 38,.pick (.tmp 28) (.tmp 37) (.const (.bool false)),t23,q23,#[⟨13,.data⟩,⟨22,.data⟩,⟨10,.guard⟩],some (10,false)⟩,
 ⟨some 39,.pick (.tmp 25) (.const (.bool true)) (.tmp 38),t24,q24,#[⟨10,.data⟩,⟨23,.data⟩],none⟩] true).wp Tryz.prog Q a0 w0:=by
 have hS:distS [some 15,some 16,some 17,some 18,some 19,some 20,some 21,some 22,some 23,some 24,some 25,some 26,some 27,some 28,some 29,some 30,some 31,some 32,some 33,some 34,some 35,some 36,some 37,some 38,some 39]=true:=rfl;refine wp_region_q (by kernel_rfl) w0.heap.size [some 15,some 16,some 17,some 18,some 19,some 20,some 21,some 22,some 23,some 24,some 25,some 26,some 27,some 28,some 29,some 30,some 31,some 32,some 33,some 34,some 35,some 36,some 37,some 38,some 39] (VriC Be k_ id a bb c d w0.heap.size) rfl ?_ ?_
 · intro Q lq aq W iq oq hJ2 hl ho hall;have z5:=hJ2.b;have g3:=hJ2.a h3
   have g4:=hJ2.a h4
   have c0:=hJ2.c k0 l0;have c1:=hJ2.c k1 l1;have c2:=hJ2.c k2 l2;have c3:=hJ2.c k3 l3;have c4:=hJ2.c k4 l4
   clear hQ
   match iq,ho with
   | 0,ho=>
    cases ho;refine wpOp_of rfl rfl ?_;have hK:=hJ2.gO hS 0 15;generalize InvQ _ _ _ _ _ _=K at hK⊢;clear ho hall hl hJ2 hS;go_simp;exact hK _ rfl
   | 1,ho=>
    cases ho;refine wpOp_of rfl rfl ?_;have f0:_=Value.pointer (some ⟨Be,0,none⟩):=hJ2.v hall 0 15;have hK:=hJ2.gO hS 1 16;generalize InvQ _ _ _ _ _ _=K at hK⊢;clear ho hall hl hJ2 hS;go_simp;exact hK _ rfl
   | 2,ho=>
    cases ho;refine wpOp_of rfl rfl ?_;have f1:_=Value.int .i64 id:=hJ2.v hall 1 16;have hK:=hJ2.go hS 2 17;generalize InvQ _ _ _ _ _ _=K at hK⊢;clear ho hall hl hJ2 hS;go_simp;refine(isItem_any id W).mono ?_;rintro e v1 ⟨rfl,hBv⟩;exact hK _ _ (z5.trans (hBv.mono z5.size)) (fun j v h=>h.mono hBv) rfl
   | 3,ho=>
    cases ho;refine wpOp_of rfl rfl ?_;have f2:_=Value.bool (decide (1≤id∧id≤1000)):=hJ2.v hall 2 17;rw[h1] at f2;have hK:=hJ2.gO hS 3 18;generalize InvQ _ _ _ _ _ _=K at hK⊢;clear ho hall hl hJ2 hS;go_simp;exact hK _ rfl
   | 4,ho=>
    cases ho;refine wpOp_of rfl rfl ?_;have f3:_=Value.bool false:=hJ2.v hall 3 18;have hK:=hJ2.gO hS 4 19;generalize InvQ _ _ _ _ _ _=K at hK⊢;clear ho hall hl hJ2 hS;go_simp;exact hK _ rfl
   | 5,ho=>
    cases ho;have fg:aq.tmps.getD 19 undef= .bool false:=hJ2.v hall 4 19 .guard;refine wpOp_on rfl rfl rfl rfl fg ?_;have hK:=hJ2.gO hS 5 20;generalize InvQ _ _ _ _ _ _=K at hK⊢;clear ho hall hl hJ2 hS;go_simp;exact hK _ rfl
   | 6,ho=>
    cases ho;have fg:aq.tmps.getD 19 undef= .bool false:=hJ2.v hall 4 19 .guard;refine wpOp_on rfl rfl rfl rfl fg ?_;have f5:_=Value.pointer (some ⟨Be,1,none⟩):=hJ2.v hall 5 20;have hK:=hJ2.gO hS 6 21;generalize InvQ _ _ _ _ _ _=K at hK⊢;clear ho hall hl hJ2 hS;go_simp;exact hK _ rfl
   | 7,ho=>
    cases ho;have fg:aq.tmps.getD 19 undef= .bool false:=hJ2.v hall 4 19 .guard;refine wpOp_on rfl rfl rfl rfl fg ?_;have f6:_=Sg a bb c d:=hJ2.v hall 6 21;have hK:=hJ2.go hS 7 22;generalize InvQ _ _ _ _ _ _=K at hK⊢;clear ho hall hl hJ2 hS;go_simp;refine(implSegOk_any a bb c d _ rfl W).mono ?_;rintro e v1 ⟨rfl,hBv⟩;exact hK _ _ (z5.trans (hBv.mono z5.size)) (fun j v h=>h.mono hBv) rfl
   | 8,ho=>
    cases ho;have fg:aq.tmps.getD 19 undef= .bool false:=hJ2.v hall 4 19 .guard;refine wpOp_on rfl rfl rfl rfl fg ?_;have f7:_=Value.bool (segOk a bb c d):=hJ2.v hall 7 22;rw[h2] at f7;have hK:=hJ2.gO hS 8 23;generalize InvQ _ _ _ _ _ _=K at hK⊢;clear ho hall hl hJ2 hS;go_simp;exact hK _ rfl
   | 9,ho=>
    cases ho;refine wpOp_of rfl rfl ?_;have f4:_=Value.bool false:=hJ2.v hall 4 19;have f8:_=Value.bool false:=hJ2.v hall 8 23;have hK:=hJ2.gO hS 9 24;generalize InvQ _ _ _ _ _ _=K at hK⊢;clear ho hall hl hJ2 hS;go_simp;exact hK _ rfl
   | 10,ho=>
    cases ho;refine wpOp_of rfl rfl ?_;have f9:_=Value.bool false:=hJ2.v hall 9 24;have hK:=hJ2.gO hS 10 25;generalize InvQ _ _ _ _ _ _=K at hK⊢;clear ho hall hl hJ2 hS;go_simp;exact hK _ rfl
   | 11,ho=>
    cases ho;have fg:aq.tmps.getD 25 undef= .bool false:=hJ2.v hall 10 25 .guard;refine wpOp_on rfl rfl rfl rfl fg ?_;have hK:=hJ2.gO hS 11 26;generalize InvQ _ _ _ _ _ _=K at hK⊢;clear ho hall hl hJ2 hS;go_simp;exact hK _ rfl
   | 12,ho=>
    cases ho;have fg:aq.tmps.getD 25 undef= .bool false:=hJ2.v hall 10 25 .guard;refine wpOp_on rfl rfl rfl rfl fg ?_;have f11:_=Value.int .i64 (k_:Int):=hJ2.v hall 11 26;have hgt:(k_:Int)≤0:=by have ho:=hk0.out;omega
    have hK:=hJ2.go hS 12 27;generalize InvQ _ _ _ _ _ _=K at hK⊢;clear ho hall hl hJ2 hS;go_simp;exact hK _ _ z5 (fun _ _ h=>h) (by show _=_;exact congrArg Value.bool (decide_eq_false (by omega)))
   | 13,ho=>
    cases ho;have fg:aq.tmps.getD 25 undef= .bool false:=hJ2.v hall 10 25 .guard;refine wpOp_on rfl rfl rfl rfl fg ?_;have f12:_=Value.bool false:=hJ2.v hall 12 27;have hK:=hJ2.gO hS 13 28;generalize InvQ _ _ _ _ _ _=K at hK⊢;clear ho hall hl hJ2 hS;go_simp;exact hK _ rfl
   | 14,ho=>
    cases ho;have fg:aq.tmps.getD 28 undef= .bool false:=hJ2.v hall 13 28 .guard;refine wpOp_off rfl rfl rfl rfl fg ?_;exact hJ2.put hS 14 29 rfl (by omega) z5 (fun _ _ h=>h) undef rfl
   | 15,ho=>
    cases ho;have fg:aq.tmps.getD 28 undef= .bool false:=hJ2.v hall 13 28 .guard;refine wpOp_off rfl rfl rfl rfl fg ?_;exact hJ2.put hS 15 30 rfl (by omega) z5 (fun _ _ h=>h) undef rfl
   | 16,ho=>
    cases ho;have fg:aq.tmps.getD 28 undef= .bool false:=hJ2.v hall 13 28 .guard;refine wpOp_off rfl rfl rfl rfl fg ?_;exact hJ2.put hS 16 31 rfl (by omega) z5 (fun _ _ h=>h) undef rfl
   | 17,ho=>
    cases ho;have fg:aq.tmps.getD 28 undef= .bool false:=hJ2.v hall 13 28 .guard;refine wpOp_off rfl rfl rfl rfl fg ?_;exact hJ2.put hS 17 32 rfl (by omega) z5 (fun _ _ h=>h) undef rfl
   | 18,ho=>
    cases ho;have fg:aq.tmps.getD 28 undef= .bool false:=hJ2.v hall 13 28 .guard;refine wpOp_off rfl rfl rfl rfl fg ?_;exact hJ2.put hS 18 33 rfl (by omega) z5 (fun _ _ h=>h) undef rfl
   | 19,ho=>
    cases ho;have fg:aq.tmps.getD 28 undef= .bool false:=hJ2.v hall 13 28 .guard;refine wpOp_off rfl rfl rfl rfl fg ?_;exact hJ2.put hS 19 34 rfl (by omega) z5 (fun _ _ h=>h) undef rfl
   | 20,ho=>
    cases ho;have fg:aq.tmps.getD 28 undef= .bool false:=hJ2.v hall 13 28 .guard;refine wpOp_off rfl rfl rfl rfl fg ?_;exact hJ2.put hS 20 35 rfl (by omega) z5 (fun _ _ h=>h) undef rfl
   | 21,ho=>
    cases ho;have fg:aq.tmps.getD 28 undef= .bool false:=hJ2.v hall 13 28 .guard;refine wpOp_off rfl rfl rfl rfl fg ?_;exact hJ2.put hS 21 36 rfl (by omega) z5 (fun _ _ h=>h) undef rfl
   | 22,ho=>
    cases ho;have fg:aq.tmps.getD 28 undef= .bool false:=hJ2.v hall 13 28 .guard;refine wpOp_off rfl rfl rfl rfl fg ?_;exact hJ2.put hS 22 37 rfl (by omega) z5 (fun _ _ h=>h) undef rfl
   | 23,ho=>
    cases ho;have fg:aq.tmps.getD 25 undef= .bool false:=hJ2.v hall 10 25 .guard;refine wpOp_on rfl rfl rfl rfl fg ?_;have f13:_=Value.bool false:=hJ2.v hall 13 28;have f22:_=undef:=hJ2.v hall 22 37;have hK:=hJ2.gO hS 23 38;generalize InvQ _ _ _ _ _ _=K at hK⊢;clear ho hall hl hJ2 hS;go_simp;exact hK _ rfl
   | 24,ho=>
    cases ho;refine wpOp_of rfl rfl ?_;have f10:_=Value.bool false:=hJ2.v hall 10 25;have f23:_=Value.bool false:=hJ2.v hall 23 38;have hK:=hJ2.gO hS 24 39;generalize InvQ _ _ _ _ _ _=K at hK⊢;clear ho hall hl hJ2 hS;go_simp;exact hK _ rfl
   | iq+25,ho=>simp at ho
 · intro lq aq W hJ hr;obtain⟨z1,z2,z3,z4,z5,z6,z7⟩:=hJ;have hl:=listed_of hr [0,1,2,3,4,5,6,7,8,9,10,11,12,13,14,15,16,17,18,19,20,21,22,23,24] [] (by simp) (by kernel_rfl) (by rw[z1];decide);exact hQ aq W z2 z3 (fun e he=>z4 e (by simpa using he)) (z6 24 39 (hl 24 (by simp)) rfl) z5
def VriD (A off n cap Be k_ jj:Nat) (id ie a bb c d:Int) (_B:Nat):Nat→Value→World→Prop
 | 0,v,_=>v= .pointer (some ⟨Be,0,none⟩)
 | 1,v,_=>v= .int .i64 id
 | 2,v,_=>v= .bool (decide (1≤id∧id≤1000))
 | 3,v,_=>v= .bool false
 | 4,v,_=>v= .bool false
 | 5,v,_=>v= .pointer (some ⟨Be,1,none⟩)
 | 6,v,_=>v=Sg a bb c d
 | 7,v,_=>v= .bool (segOk a bb c d)
 | 8,v,_=>v= .bool false
 | 9,v,_=>v= .bool false
 | 10,v,_=>v= .bool false
 | 11,v,_=>v= .int .i64 (k_:Int)
 | 12,v,_=>v= .bool true
 | 13,v,_=>v= .bool true
 | 14,v,_=>v= .slice (some ⟨A,off,none⟩) n cap
 | 15,v,_=>v= .int .i64 (k_:Int)
 | 16,v,_=>v= .int .i64 (jj:Int)
 | 17,v,_=>v= .pointer (some ⟨A,off+jj*5,none⟩)
 | 18,v,_=>v= .pointer (some ⟨A,off+jj*5,none⟩)
 | 19,v,_=>v= .int .i64 ie
 | 20,v,_=>v= .pointer (some ⟨Be,0,none⟩)
 | 21,v,_=>v= .int .i64 id
 | 22,v,_=>v= .bool (decide (id≤ie))
 | 23,v,_=>v= .bool (decide (id≤ie))
 | 24,v,_=>v= .bool (decide (id≤ie))
 | _,_,_=>True
theorem VriD.mono {A off n cap Be k_ jj:Nat} {id ie a bb c d:Int} {B j:Nat} {v:Value} {W W2:World} (_hB:Below W.heap.size W W2) (h:VriD A off n cap Be k_ jj id ie a bb c d B j v W):VriD A off n cap Be k_ jj id ie a bb c d B j v W2:=by
 unfold VriD at *
 split<;>simp only at h<;>first | exact h | trivial
theorem riD {Q:Exit→Act→World→Prop} {A off n cap Be k_ jj:Nat} {id ie a bb c d:Int} {w0:World} {a0:Act} {idq:Nat} {t0 t1 t2 t3 t4 t5 t6 t7 t8 t9 t10 t11 t12 t13 t14 t15 t16 t17 t18 t19 t20 t21 t22 t23 t24:TypeId} {q0 q1 q2 q3 q4 q5 q6 q7 q8 q9 q10 q11 q12 q13 q14 q15 q16 q17 q18 q19 q20 q21 q22 q23 q24:String}
 (h1:decide (1≤id∧id≤1000)=true) (h2:segOk a bb c d=true) (hkj:Hid (k_=jj+1)) (hkn:k_<n) (hn:n≤40) (h0:a0.tmps[0]? =some (.slice (some ⟨A,off,none⟩) n cap)) (h3:a0.tmps[3]? =some (.int .i64 (k_:Int))) (h4:a0.tmps[4]? =some (.pointer (some ⟨Be,0,none⟩))) (k0:w0.cell? ⟨Be,0,none⟩=some (.int .i64 id)) (l0:(⟨Be,0,none⟩:Addr).block<w0.heap.size) (k1:w0.cell? ⟨Be,1,none⟩=some (.int .i64 a)) (l1:(⟨Be,1,none⟩:Addr).block<w0.heap.size) (k2:w0.cell? ⟨Be,2,none⟩=some (.int .i64 bb)) (l2:(⟨Be,2,none⟩:Addr).block<w0.heap.size) (k3:w0.cell? ⟨Be,3,none⟩=some (.int .i64 c)) (l3:(⟨Be,3,none⟩:Addr).block<w0.heap.size) (k4:w0.cell? ⟨Be,4,none⟩=some (.int .i64 d)) (l4:(⟨Be,4,none⟩:Addr).block<w0.heap.size) (k5:w0.cell? ⟨A,off+jj*5,none⟩=some (.int .i64 ie)) (l5:(⟨A,off+jj*5,none⟩:Addr).block<w0.heap.size) (hz:a0.tmps.size=41)
 (hQ:∀aq W,aq.tmps.size=a0.tmps.size→aq.defers=a0.defers→(∀e,e∉([15,16,17,18,19,20,21,22,23,24,25,26,27,28,29,30,31,32,33,34,35,36,37,38,39]:List Nat)→aq.tmps[e]? =a0.tmps[e]?)→VriD A off n cap Be k_ jj id ie a bb c d w0.heap.size 24 (aq.tmps.getD 39 undef) W→Below w0.heap.size w0 W→Q .normal aq W) :
 (Code.region idq #[⟨some 15,.fieldAddr 40 (.tmp 4) 0,t0,q0,#[],none⟩,
 ⟨some 16,.load 2 (.tmp 15),t1,q1,#[⟨0,.data⟩],none⟩,
 ⟨some 17,.call {callee:= .value (.func 55),args:=#[.tmp 16],argTypes:=#[2]},t2,q2,#[⟨1,.data⟩],none⟩,
 ⟨some 18,.unOp .not 4 (.tmp 17),t3,q3,#[⟨2,.data⟩],none⟩,
 ⟨some 19,.move (.tmp 18),t4,q4,#[⟨3,.data⟩,⟨2,.chain⟩],none⟩,
 ⟨some 20,.fieldAddr 40 (.tmp 4) 1,t5,q5,#[⟨4,.guard⟩],some (4,false)⟩,
 ⟨some 21,.load 38 (.tmp 20),t6,q6,#[⟨5,.data⟩,⟨4,.guard⟩],some (4,false)⟩,
 ⟨some 22,.call {callee:= .value (.func 24),args:=#[.tmp 21],argTypes:=#[38]},t7,q7,#[⟨6,.data⟩,⟨4,.chain⟩,⟨4,.guard⟩],some (4,false)⟩,
 ⟨some 23,.unOp .not 4 (.tmp 22),t8,q8,#[⟨7,.data⟩,⟨4,.guard⟩],some (4,false)⟩,
 ⟨some 24,.pick (.tmp 19) (.const (.bool true)) (.tmp 23),t9,q9,#[⟨4,.data⟩,⟨8,.data⟩],none⟩,
 ⟨some 25,.move (.tmp 24),t10,q10,#[⟨9,.data⟩,⟨7,.chain⟩],none⟩,
 ⟨some 26,.move (.tmp 3),t11,q11,#[⟨10,.guard⟩],some (10,false)⟩,
 ⟨some 27,.binOp .gtr 3 (.tmp 26) (.const (.int .i64 0)) 3,t12,q12,#[⟨11,.data⟩,⟨10,.guard⟩],some (10,false)⟩,
 ⟨some 28,.move (.tmp 27),t13,q13,#[⟨12,.data⟩,⟨10,.chain⟩,⟨10,.guard⟩],some (10,false)⟩,
 ⟨some 29,.move (.tmp 0),t14,q14,#[⟨13,.guard⟩],some (13,true)⟩,
 ⟨some 30,.move (.tmp 3),t15,q15,#[⟨13,.guard⟩],some (13,true)⟩,
 ⟨some 31,.binOp .sub 3 (.tmp 30) (.const (.int .i64 1)) 3,t16,q16,#[⟨15,.data⟩,⟨13,.guard⟩],some (13,true)⟩,
 ⟨some 32,.indexAddr 24 (.tmp 29) (.tmp 31),t17,q17,#[⟨14,.data⟩,⟨16,.data⟩,⟨13,.guard⟩],some (13,true)⟩,
 ⟨some 33,.fieldAddr 40 (.tmp 32) 0,t18,q18,#[⟨17,.data⟩,⟨13,.guard⟩],some (13,true)⟩,
 ⟨some 34,.load 2 (.tmp 33),t19,q19,#[⟨18,.data⟩,⟨13,.guard⟩],some (13,true)⟩,
 ⟨some 35,.fieldAddr 40 (.tmp 4) 0,t20,q20,#[⟨13,.guard⟩],some (13,true)⟩,
 ⟨some 36,.load 2 (.tmp 35),t21,q21,#[⟨20,.data⟩,⟨13,.guard⟩],some (13,true)⟩,
 ⟨some 37,.binOp .geq 2 (.tmp 34) (.tmp 36) 2,t22,q22,#[⟨19,.data⟩,⟨21,.data⟩,⟨13,.guard⟩],some (13,true)⟩,
 ⟨some 38,.pick (.tmp 28) (.tmp 37) (.const (.bool false)),t23,q23,#[⟨13,.data⟩,⟨22,.data⟩,⟨10,.guard⟩],some (10,false)⟩,
 ⟨some 39,.pick (.tmp 25) (.const (.bool true)) (.tmp 38),t24,q24,#[⟨10,.data⟩,⟨23,.data⟩],none⟩] true).wp Tryz.prog Q a0 w0:=by
 have hS:distS [some 15,some 16,some 17,some 18,some 19,some 20,some 21,some 22,some 23,some 24,some 25,some 26,some 27,some 28,some 29,some 30,some 31,some 32,some 33,some 34,some 35,some 36,some 37,some 38,some 39]=true:=rfl;refine wp_region_q (by kernel_rfl) w0.heap.size [some 15,some 16,some 17,some 18,some 19,some 20,some 21,some 22,some 23,some 24,some 25,some 26,some 27,some 28,some 29,some 30,some 31,some 32,some 33,some 34,some 35,some 36,some 37,some 38,some 39] (VriD A off n cap Be k_ jj id ie a bb c d w0.heap.size) rfl ?_ ?_
 · intro Q lq aq W iq oq hJ2 hl ho hall;have z5:=hJ2.b;have g0:=hJ2.a h0
   have g3:=hJ2.a h3
   have g4:=hJ2.a h4
   have c0:=hJ2.c k0 l0;have c1:=hJ2.c k1 l1;have c2:=hJ2.c k2 l2;have c3:=hJ2.c k3 l3;have c4:=hJ2.c k4 l4;have c5:=hJ2.c k5 l5
   clear hQ
   match iq,ho with
   | 0,ho=>
    cases ho;refine wpOp_of rfl rfl ?_;have hK:=hJ2.gO hS 0 15;generalize InvQ _ _ _ _ _ _=K at hK⊢;clear ho hall hl hJ2 hS;go_simp;exact hK _ rfl
   | 1,ho=>
    cases ho;refine wpOp_of rfl rfl ?_;have f0:_=Value.pointer (some ⟨Be,0,none⟩):=hJ2.v hall 0 15;have hK:=hJ2.gO hS 1 16;generalize InvQ _ _ _ _ _ _=K at hK⊢;clear ho hall hl hJ2 hS;go_simp;exact hK _ rfl
   | 2,ho=>
    cases ho;refine wpOp_of rfl rfl ?_;have f1:_=Value.int .i64 id:=hJ2.v hall 1 16;have hK:=hJ2.go hS 2 17;generalize InvQ _ _ _ _ _ _=K at hK⊢;clear ho hall hl hJ2 hS;go_simp;refine(isItem_any id W).mono ?_;rintro e v1 ⟨rfl,hBv⟩;exact hK _ _ (z5.trans (hBv.mono z5.size)) (fun j v h=>h.mono hBv) rfl
   | 3,ho=>
    cases ho;refine wpOp_of rfl rfl ?_;have f2:_=Value.bool (decide (1≤id∧id≤1000)):=hJ2.v hall 2 17;rw[h1] at f2;have hK:=hJ2.gO hS 3 18;generalize InvQ _ _ _ _ _ _=K at hK⊢;clear ho hall hl hJ2 hS;go_simp;exact hK _ rfl
   | 4,ho=>
    cases ho;refine wpOp_of rfl rfl ?_;have f3:_=Value.bool false:=hJ2.v hall 3 18;have hK:=hJ2.gO hS 4 19;generalize InvQ _ _ _ _ _ _=K at hK⊢;clear ho hall hl hJ2 hS;go_simp;exact hK _ rfl
   | 5,ho=>
    cases ho;have fg:aq.tmps.getD 19 undef= .bool false:=hJ2.v hall 4 19 .guard;refine wpOp_on rfl rfl rfl rfl fg ?_;have hK:=hJ2.gO hS 5 20;generalize InvQ _ _ _ _ _ _=K at hK⊢;clear ho hall hl hJ2 hS;go_simp;exact hK _ rfl
   | 6,ho=>
    cases ho;have fg:aq.tmps.getD 19 undef= .bool false:=hJ2.v hall 4 19 .guard;refine wpOp_on rfl rfl rfl rfl fg ?_;have f5:_=Value.pointer (some ⟨Be,1,none⟩):=hJ2.v hall 5 20;have hK:=hJ2.gO hS 6 21;generalize InvQ _ _ _ _ _ _=K at hK⊢;clear ho hall hl hJ2 hS;go_simp;exact hK _ rfl
   | 7,ho=>
    cases ho;have fg:aq.tmps.getD 19 undef= .bool false:=hJ2.v hall 4 19 .guard;refine wpOp_on rfl rfl rfl rfl fg ?_;have f6:_=Sg a bb c d:=hJ2.v hall 6 21;have hK:=hJ2.go hS 7 22;generalize InvQ _ _ _ _ _ _=K at hK⊢;clear ho hall hl hJ2 hS;go_simp;refine(implSegOk_any a bb c d _ rfl W).mono ?_;rintro e v1 ⟨rfl,hBv⟩;exact hK _ _ (z5.trans (hBv.mono z5.size)) (fun j v h=>h.mono hBv) rfl
   | 8,ho=>
    cases ho;have fg:aq.tmps.getD 19 undef= .bool false:=hJ2.v hall 4 19 .guard;refine wpOp_on rfl rfl rfl rfl fg ?_;have f7:_=Value.bool (segOk a bb c d):=hJ2.v hall 7 22;rw[h2] at f7;have hK:=hJ2.gO hS 8 23;generalize InvQ _ _ _ _ _ _=K at hK⊢;clear ho hall hl hJ2 hS;go_simp;exact hK _ rfl
   | 9,ho=>
    cases ho;refine wpOp_of rfl rfl ?_;have f4:_=Value.bool false:=hJ2.v hall 4 19;have f8:_=Value.bool false:=hJ2.v hall 8 23;have hK:=hJ2.gO hS 9 24;generalize InvQ _ _ _ _ _ _=K at hK⊢;clear ho hall hl hJ2 hS;go_simp;exact hK _ rfl
   | 10,ho=>
    cases ho;refine wpOp_of rfl rfl ?_;have f9:_=Value.bool false:=hJ2.v hall 9 24;have hK:=hJ2.gO hS 10 25;generalize InvQ _ _ _ _ _ _=K at hK⊢;clear ho hall hl hJ2 hS;go_simp;exact hK _ rfl
   | 11,ho=>
    cases ho;have fg:aq.tmps.getD 25 undef= .bool false:=hJ2.v hall 10 25 .guard;refine wpOp_on rfl rfl rfl rfl fg ?_;have hK:=hJ2.gO hS 11 26;generalize InvQ _ _ _ _ _ _=K at hK⊢;clear ho hall hl hJ2 hS;go_simp;exact hK _ rfl
   | 12,ho=>
    cases ho;have fg:aq.tmps.getD 25 undef= .bool false:=hJ2.v hall 10 25 .guard;refine wpOp_on rfl rfl rfl rfl fg ?_;have f11:_=Value.int .i64 (k_:Int):=hJ2.v hall 11 26;have hgt:(0:Int)<k_:=by have ho:=hkj.out;omega
    have hK:=hJ2.go hS 12 27;generalize InvQ _ _ _ _ _ _=K at hK⊢;clear ho hall hl hJ2 hS;go_simp;exact hK _ _ z5 (fun _ _ h=>h) (by show _=_;exact congrArg Value.bool (decide_eq_true (by omega)))
   | 13,ho=>
    cases ho;have fg:aq.tmps.getD 25 undef= .bool false:=hJ2.v hall 10 25 .guard;refine wpOp_on rfl rfl rfl rfl fg ?_;have f12:_=Value.bool true:=hJ2.v hall 12 27;have hK:=hJ2.gO hS 13 28;generalize InvQ _ _ _ _ _ _=K at hK⊢;clear ho hall hl hJ2 hS;go_simp;exact hK _ rfl
   | 14,ho=>
    cases ho;have fg:aq.tmps.getD 28 undef= .bool true:=hJ2.v hall 13 28 .guard;refine wpOp_on rfl rfl rfl rfl fg ?_;have hK:=hJ2.gO hS 14 29;generalize InvQ _ _ _ _ _ _=K at hK⊢;clear ho hall hl hJ2 hS;go_simp;exact hK _ rfl
   | 15,ho=>
    cases ho;have fg:aq.tmps.getD 28 undef= .bool true:=hJ2.v hall 13 28 .guard;refine wpOp_on rfl rfl rfl rfl fg ?_;have hK:=hJ2.gO hS 15 30;generalize InvQ _ _ _ _ _ _=K at hK⊢;clear ho hall hl hJ2 hS;go_simp;exact hK _ rfl
   | 16,ho=>
    cases ho;have fg:aq.tmps.getD 28 undef= .bool true:=hJ2.v hall 13 28 .guard;refine wpOp_on rfl rfl rfl rfl fg ?_;have f15:_=Value.int .i64 (k_:Int):=hJ2.v hall 15 30;have hkz:(k_:Int)=jj+1:=by have ho:=hkj.out;omega
    have hnI:(n:Int)≤40:=by omega
    have hwd:IntKind.i64.wrap (jj:Int)=jj:=by have ho:=hkj.out;rw[IntKind.wrap_i64];omega
    have hK:=hJ2.go hS 16 31;generalize InvQ _ _ _ _ _ _=K at hK⊢;clear ho hall hl hJ2 hS;go_simp;exact hK _ _ z5 (fun _ _ h=>h) (by show _=_;first | rfl | go_num)
   | 17,ho=>
    cases ho;have fg:aq.tmps.getD 28 undef= .bool true:=hJ2.v hall 13 28 .guard;refine wpOp_on rfl rfl rfl rfl fg ?_;have f14:_=Value.slice (some ⟨A,off,none⟩) n cap:=hJ2.v hall 14 29;have f16:_=Value.int .i64 (jj:Int):=hJ2.v hall 16 31;have hjI:(jj:Int)<n:=by have ho:=hkj.out;omega
    have hnI:(n:Int)≤40:=by omega
    have hK:=hJ2.gO hS 17 32;generalize InvQ _ _ _ _ _ _=K at hK⊢;clear ho hall hl hJ2 hS;go_simp;exact hK _ rfl
   | 18,ho=>
    cases ho;have fg:aq.tmps.getD 28 undef= .bool true:=hJ2.v hall 13 28 .guard;refine wpOp_on rfl rfl rfl rfl fg ?_;have f17:_=Value.pointer (some ⟨A,off+jj*5,none⟩):=hJ2.v hall 17 32;have hK:=hJ2.gO hS 18 33;generalize InvQ _ _ _ _ _ _=K at hK⊢;clear ho hall hl hJ2 hS;go_simp;exact hK _ rfl
   | 19,ho=>
    cases ho;have fg:aq.tmps.getD 28 undef= .bool true:=hJ2.v hall 13 28 .guard;refine wpOp_on rfl rfl rfl rfl fg ?_;have f18:_=Value.pointer (some ⟨A,off+jj*5,none⟩):=hJ2.v hall 18 33;have hK:=hJ2.gO hS 19 34;generalize InvQ _ _ _ _ _ _=K at hK⊢;clear ho hall hl hJ2 hS;go_simp;exact hK _ rfl
   | 20,ho=>
    cases ho;have fg:aq.tmps.getD 28 undef= .bool true:=hJ2.v hall 13 28 .guard;refine wpOp_on rfl rfl rfl rfl fg ?_;have hK:=hJ2.gO hS 20 35;generalize InvQ _ _ _ _ _ _=K at hK⊢;clear ho hall hl hJ2 hS;go_simp;exact hK _ rfl
   | 21,ho=>
    cases ho;have fg:aq.tmps.getD 28 undef= .bool true:=hJ2.v hall 13 28 .guard;refine wpOp_on rfl rfl rfl rfl fg ?_;have f20:_=Value.pointer (some ⟨Be,0,none⟩):=hJ2.v hall 20 35;have hK:=hJ2.gO hS 21 36;generalize InvQ _ _ _ _ _ _=K at hK⊢;clear ho hall hl hJ2 hS;go_simp;exact hK _ rfl
   | 22,ho=>
    cases ho;have fg:aq.tmps.getD 28 undef= .bool true:=hJ2.v hall 13 28 .guard;refine wpOp_on rfl rfl rfl rfl fg ?_;have f19:_=Value.int .i64 ie:=hJ2.v hall 19 34;have f21:_=Value.int .i64 id:=hJ2.v hall 21 36;have hK:=hJ2.go hS 22 37;generalize InvQ _ _ _ _ _ _=K at hK⊢;clear ho hall hl hJ2 hS;go_simp;exact hK _ _ z5 (fun _ _ h=>h) (by show _=_;first | rfl | simp)
   | 23,ho=>
    cases ho;have fg:aq.tmps.getD 25 undef= .bool false:=hJ2.v hall 10 25 .guard;refine wpOp_on rfl rfl rfl rfl fg ?_;have f13:_=Value.bool true:=hJ2.v hall 13 28;have f22:_=Value.bool (decide (id≤ie)):=hJ2.v hall 22 37;have hK:=hJ2.gO hS 23 38;generalize InvQ _ _ _ _ _ _=K at hK⊢;clear ho hall hl hJ2 hS;go_simp;exact hK _ rfl
   | 24,ho=>
    cases ho;refine wpOp_of rfl rfl ?_;have f10:_=Value.bool false:=hJ2.v hall 10 25;have f23:_=Value.bool (decide (id≤ie)):=hJ2.v hall 23 38;have hK:=hJ2.gO hS 24 39;generalize InvQ _ _ _ _ _ _=K at hK⊢;clear ho hall hl hJ2 hS;go_simp;exact hK _ rfl
   | iq+25,ho=>simp at ho
 · intro lq aq W hJ hr;obtain⟨z1,z2,z3,z4,z5,z6,z7⟩:=hJ;have hl:=listed_of hr [0,1,2,3,4,5,6,7,8,9,10,11,12,13,14,15,16,17,18,19,20,21,22,23,24] [] (by simp) (by kernel_rfl) (by rw[z1];decide);exact hQ aq W z2 z3 (fun e he=>z4 e (by simpa using he)) (z6 24 39 (hl 24 (by simp)) rfl) z5
def itB (Q:QD) (i:Nat):Bool:=decide ((1≤Q.I i∧Q.I i≤1000)∧segOk (Q.S i).1 (Q.S i).2.1 (Q.S i).2.2.1 (Q.S i).2.2.2=true∧(0<i→Q.I (i-1)<Q.I i))
def itsB (Q:QD):Bool:=decide (Q.m≤40∧∀i,i<Q.m→itB Q i=true)
theorem rightItems_any (Q:QD) (ao:Option Addr) (cap:Nat) (w:World) (hS:ItIn Q w ao (List.range Q.m)):Calls Tryz.prog 36 #[.slice ao Q.m cap] w (VP (.bool (itsB Q)) w):=by
 obtain⟨n,hn⟩:∃n,Q.m=n:=⟨_,rfl⟩;have HN:Hid (Q.m=n):=hn;have HS:Hid (ItIn Q w ao (List.range n)):=by rw[←hn];exact hS
 rw[hn];clear hS hn
 by_cases h40:40<n
 · have HO:Hid (itsB Q=false):=decide_eq_false (fun h=>by have:=h.1;rw[HN.out] at this;omega);have h40I:(40:Int)<n:=by omega
   clear HS
   go_enter Tryz.func36,Tryz.ntmps36
   go_wp2;go_ret;exact⟨by rw[HO.out];rfl,Below.refl _ _⟩
 · have h40I : (n:Int)≤40:=by omega
   have hn40:n≤40:=by omega
   go_enter Tryz.func36,Tryz.ntmps36
   go_wp2_with fail
   go_loopw [10] (fun i wr=>∃c:Nat,c≤n∧i= .int .i64 c∧(∀j,j<c→itB Q j=true)∧Below w.heap.size w wr) (fun i _=>n-(intOf i).toNat)
   case atStart=>exact⟨0,by omega,rfl,fun j hj=>absurd hj (by omega),Below.refl _ _⟩
   case round =>
    obtain⟨c,hc,rfl,hall,HB⟩:=hrel;have HA:Hid (∀j,j<c→itB Q j=true):=hall;clear hall
    by_cases hcn:c<n
    · have hcI :(c:Int)<n:=by omega
      obtain⟨A,off,rfl,hA,q0,q1,q2,q3,q4⟩:=HS.out.step HB c c (by simp[hcn]);have hB1:=(Below.refl wr.heap.size wr).alloc (Nat.le_refl _) (.cells #[.int .i64 (Q.I c),.int .i64 (Q.S c).1,.int .i64 (Q.S c).2.1,.int .i64 (Q.S c).2.2.1,.int .i64 (Q.S c).2.2.2] 40);have B1:Blk (wr.alloc (.cells #[.int .i64 (Q.I c),.int .i64 (Q.S c).1,.int .i64 (Q.S c).2.1,.int .i64 (Q.S c).2.2.1,.int .i64 (Q.S c).2.2.2] 40)) wr.heap.size [.int .i64 (Q.I c),.int .i64 (Q.S c).1,.int .i64 (Q.S c).2.1,.int .i64 (Q.S c).2.2.1,.int .i64 (Q.S c).2.2.2]:=Blk.new wr [.int .i64 (Q.I c),.int .i64 (Q.S c).1,.int .i64 (Q.S c).2.1,.int .i64 (Q.S c).2.2.1,.int .i64 (Q.S c).2.2.2] 40 rfl;have hbl:=B1.lt;go_upto_region 6 with fail;replace HB:=HB.trans (hB1.mono HB.size);have hA1:=Nat.lt_of_lt_of_le hA hB1.size;clear hB1 q0 q1 q2 q3 q4;generalize (wr.alloc (.cells #[.int .i64 (Q.I c),.int .i64 (Q.S c).1,.int .i64 (Q.S c).2.1,.int .i64 (Q.S c).2.2.1,.int .i64 (Q.S c).2.2.2] 40))=W5 at *
      go_cut [39] (fun zv wx=>zv= .bool (!itB Q c)∧Below W5.heap.size W5 wx)
      case first=>
       by_cases h1:1≤Q.I c∧Q.I c≤1000
       · by_cases h2:segOk (Q.S c).1 (Q.S c).2.1 (Q.S c).2.2.1 (Q.S c).2.2.2=true
         · rcases Nat.eq_zero_or_pos c with h0 | h0
           · have hv:Hid (false= !itB Q c):=by show _=_;rw[show itB Q c=true from decide_eq_true ⟨h1,h2,fun h=>by omega⟩];rfl
             refine riC (Be:=wr.heap.size) (id:=Q.I c) (k_:=c) (a:=(Q.S c).1) (bb:=(Q.S c).2.1) (c:=(Q.S c).2.2.1) (d:=(Q.S c).2.2.2) (decide_eq_true h1) h2 h0 rfl rfl (B1.c 0 rfl) hbl (B1.c 1 rfl) hbl (B1.c 2 rfl) hbl (B1.c 3 rfl) hbl (B1.c 4 rfl) hbl rfl ?_;rintro⟨tm,df⟩ Wz hz hdf hoff hx hBz;simp only at hz hdf hoff hx;change tm.getD 39 undef= .bool false at hx;subst hdf;have htm:=tmps_fold [15,16,17,18,19,20,21,22,23,24,25,26,27,28,29,30,31,32,33,34,35,36,37,38,39] tm _ hz hoff;simp only[List.foldl,List.setIfInBounds_toArray,List.set_cons_zero,List.set_cons_succ,hx] at htm;clear hz hoff;generalize tm.getD 15 undef=pz0,tm.getD 16 undef=pz1,tm.getD 17 undef=pz2,tm.getD 18 undef=pz3,tm.getD 19 undef=pz4,tm.getD 20 undef=pz5,tm.getD 21 undef=pz6,tm.getD 22 undef=pz7,tm.getD 23 undef=pz8,tm.getD 24 undef=pz9,tm.getD 25 undef=pz10,tm.getD 26 undef=pz11,tm.getD 27 undef=pz12,tm.getD 28 undef=pz13,tm.getD 29 undef=pz14,tm.getD 30 undef=pz15,tm.getD 31 undef=pz16,tm.getD 32 undef=pz17,tm.getD 33 undef=pz18,tm.getD 34 undef=pz19,tm.getD 35 undef=pz20,tm.getD 36 undef=pz21,tm.getD 37 undef=pz22,tm.getD 38 undef=pz23 at htm;clear hx;subst htm;go_wp2_with fail;go_meet;exact⟨congrArg Value.bool hv.out,hBz⟩
           · obtain⟨e,he⟩:∃e,c=e+1:=⟨c-1,by omega⟩;obtain⟨A',off',hao,hA',r0,_⟩:=HS.out.step HB e e (by rw[List.getElem?_eq_getElem (by rw[List.length_range];omega),List.getElem_range]);obtain⟨rfl,rfl⟩:A=A' ∧off=off' :=by simpa using hao
             have hv:Hid (decide (Q.I c≤Q.I e)= !itB Q c):=by
              show _=_;rw[show itB Q c=decide (Q.I e<Q.I c) from by
               unfold itB;rw[show c-1=e by omega];exact decide_eq_decide.2 ⟨fun h=>h.2.2 h0,fun h=>⟨h1,h2,fun _=>h⟩⟩,←decide_not]
              exact decide_eq_decide.2 (by omega)
             have HD:Hid (c=e+1):=he;clear he;refine riD (A:=A) (off:=off) (n:=n) (cap:=cap) (Be:=wr.heap.size) (id:=Q.I c) (k_:=c) (jj:=e) (ie:=Q.I e) (a:=(Q.S c).1) (bb:=(Q.S c).2.1) (c:=(Q.S c).2.2.1) (d:=(Q.S c).2.2.2) (decide_eq_true h1) h2 HD hcn hn40 rfl rfl rfl (B1.c 0 rfl) hbl (B1.c 1 rfl) hbl (B1.c 2 rfl) hbl (B1.c 3 rfl) hbl (B1.c 4 rfl) hbl r0 hA1 rfl ?_;rintro⟨tm,df⟩ Wz hz hdf hoff hx hBz;simp only at hz hdf hoff hx;change tm.getD 39 undef= .bool (decide (Q.I c≤Q.I e)) at hx;subst hdf;have htm:=tmps_fold [15,16,17,18,19,20,21,22,23,24,25,26,27,28,29,30,31,32,33,34,35,36,37,38,39] tm _ hz hoff;simp only[List.foldl,List.setIfInBounds_toArray,List.set_cons_zero,List.set_cons_succ,hx] at htm;clear hz hoff;generalize tm.getD 15 undef=pz0,tm.getD 16 undef=pz1,tm.getD 17 undef=pz2,tm.getD 18 undef=pz3,tm.getD 19 undef=pz4,tm.getD 20 undef=pz5,tm.getD 21 undef=pz6,tm.getD 22 undef=pz7,tm.getD 23 undef=pz8,tm.getD 24 undef=pz9,tm.getD 25 undef=pz10,tm.getD 26 undef=pz11,tm.getD 27 undef=pz12,tm.getD 28 undef=pz13,tm.getD 29 undef=pz14,tm.getD 30 undef=pz15,tm.getD 31 undef=pz16,tm.getD 32 undef=pz17,tm.getD 33 undef=pz18,tm.getD 34 undef=pz19,tm.getD 35 undef=pz20,tm.getD 36 undef=pz21,tm.getD 37 undef=pz22,tm.getD 38 undef=pz23 at htm;clear hx;subst htm;go_wp2_with fail;go_meet;exact⟨congrArg Value.bool hv.out,hBz⟩
         · have hv:Hid (true= !itB Q c):=by show _=_;rw[show itB Q c=false from decide_eq_false (fun h=>h2 h.2.1)];rfl
           refine riB (Be:=wr.heap.size) (id:=Q.I c) (a:=(Q.S c).1) (bb:=(Q.S c).2.1) (c:=(Q.S c).2.2.1) (d:=(Q.S c).2.2.2) (decide_eq_true h1) (Bool.eq_false_iff.2 h2) rfl rfl (B1.c 0 rfl) hbl (B1.c 1 rfl) hbl (B1.c 2 rfl) hbl (B1.c 3 rfl) hbl (B1.c 4 rfl) hbl rfl ?_;rintro⟨tm,df⟩ Wz hz hdf hoff hx hBz;simp only at hz hdf hoff hx;change tm.getD 39 undef= .bool true at hx;subst hdf;have htm:=tmps_fold [15,16,17,18,19,20,21,22,23,24,25,26,27,28,29,30,31,32,33,34,35,36,37,38,39] tm _ hz hoff;simp only[List.foldl,List.setIfInBounds_toArray,List.set_cons_zero,List.set_cons_succ,hx] at htm;clear hz hoff;generalize tm.getD 15 undef=pz0,tm.getD 16 undef=pz1,tm.getD 17 undef=pz2,tm.getD 18 undef=pz3,tm.getD 19 undef=pz4,tm.getD 20 undef=pz5,tm.getD 21 undef=pz6,tm.getD 22 undef=pz7,tm.getD 23 undef=pz8,tm.getD 24 undef=pz9,tm.getD 25 undef=pz10,tm.getD 26 undef=pz11,tm.getD 27 undef=pz12,tm.getD 28 undef=pz13,tm.getD 29 undef=pz14,tm.getD 30 undef=pz15,tm.getD 31 undef=pz16,tm.getD 32 undef=pz17,tm.getD 33 undef=pz18,tm.getD 34 undef=pz19,tm.getD 35 undef=pz20,tm.getD 36 undef=pz21,tm.getD 37 undef=pz22,tm.getD 38 undef=pz23 at htm;clear hx;subst htm;go_wp2_with fail;go_meet;exact⟨congrArg Value.bool hv.out,hBz⟩
       · have hv:Hid (true= !itB Q c):=by show _=_;rw[show itB Q c=false from decide_eq_false (fun h=>h1 h.1)];rfl
         refine riA (Be:=wr.heap.size) (id:=Q.I c) (decide_eq_false h1) rfl rfl (B1.c 0 rfl) hbl (B1.c 1 rfl) hbl (B1.c 2 rfl) hbl (B1.c 3 rfl) hbl (B1.c 4 rfl) hbl rfl ?_;rintro⟨tm,df⟩ Wz hz hdf hoff hx hBz;simp only at hz hdf hoff hx;change tm.getD 39 undef= .bool true at hx;subst hdf;have htm:=tmps_fold [15,16,17,18,19,20,21,22,23,24,25,26,27,28,29,30,31,32,33,34,35,36,37,38,39] tm _ hz hoff;simp only[List.foldl,List.setIfInBounds_toArray,List.set_cons_zero,List.set_cons_succ,hx] at htm;clear hz hoff;generalize tm.getD 15 undef=pz0,tm.getD 16 undef=pz1,tm.getD 17 undef=pz2,tm.getD 18 undef=pz3,tm.getD 19 undef=pz4,tm.getD 20 undef=pz5,tm.getD 21 undef=pz6,tm.getD 22 undef=pz7,tm.getD 23 undef=pz8,tm.getD 24 undef=pz9,tm.getD 25 undef=pz10,tm.getD 26 undef=pz11,tm.getD 27 undef=pz12,tm.getD 28 undef=pz13,tm.getD 29 undef=pz14,tm.getD 30 undef=pz15,tm.getD 31 undef=pz16,tm.getD 32 undef=pz17,tm.getD 33 undef=pz18,tm.getD 34 undef=pz19,tm.getD 35 undef=pz20,tm.getD 36 undef=pz21,tm.getD 37 undef=pz22,tm.getD 38 undef=pz23 at htm;clear hx;subst htm;go_wp2_with fail;go_meet;exact⟨congrArg Value.bool hv.out,hBz⟩
      case rest=>
       obtain⟨hq2,hBc⟩:=hcut;subst hq2;have HBN:=HB.trans (hBc.mono HB.size);clear hBc HB B1 hbl;cases hz:itB Q c
       · have HO:Hid (itsB Q=false):=decide_eq_false (fun h=>by have:=h.2 c (by rw[HN.out];exact hcn);rw[hz] at this;cases this);clear hz HA HS;go_wp2;go_ret;exact⟨by rw[HO.out];rfl,HBN⟩
       · have HZ:Hid (itB Q c=true):=hz;clear hz;go_wp2;go_roundw
         case rel=>exact⟨c+1,by omega,by go_num,fun j hj=>by
          rcases Nat.lt_or_ge j c with h | h
          · exact HA.out j h
          · obtain rfl:j=c:=by omega
            exact HZ.out,HBN⟩
         case measure=>simp[intOf];omega
    · obtain rfl:c=n:=by omega
      have HO:Hid (itsB Q=true):=decide_eq_true ⟨by rw[HN.out];exact hn40,fun i hi=>HA.out i (by rw[←HN.out];exact hi)⟩;clear HA HS;go_wp2;go_ret;exact⟨by rw[HO.out];rfl,HB⟩
end Go.Proofs.YthelolpogdcmhaaGreat
