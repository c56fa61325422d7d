/- Part 10 of the walks that the proof leans on. -/
import Derived.Test.YtbogliojkabbjaaGreatEr9
set_option maxRecDepth 100000
set_option maxHeartbeats 16000000
namespace Go.Proofs.YtbogliojkabbjaaGreat
open Go.RowKit
def VevN_A (n cap A off c m mc G ob k:Nat) (x:Int) (_B:Nat):Nat→Value→World→Prop
 | 0,v,_=>v= .slice (some ⟨A,off,none⟩) n cap
 | 1,v,_=>v= .int .i64 (c:Int)
 | 2,v,_=>v= .pointer (some ⟨A,off+c*13,none⟩)
 | 3,v,_=>v= .pointer (some ⟨A,off+c*13+12,none⟩)
 | 4,v,_=>v= .slice (some ⟨G,ob,none⟩) m mc
 | 5,v,_=>v= .int .i64 (k:Int)
 | 6,v,_=>v= .pointer (some ⟨G,ob+k,none⟩)
 | 7,v,_=>v= .int .i64 x
 | 8,v,_=>v= .bool false
 | 9,v,_=>v= .bool true
 | 10,v,_=>v= .bool true
 | 11,v,_=>v=undef
 | 12,v,_=>v=undef
 | 13,v,_=>v=undef
 | 14,v,_=>v=undef
 | 15,v,_=>v=undef
 | 16,v,_=>v=undef
 | 17,v,_=>v=undef
 | 18,v,_=>v=undef
 | 19,v,_=>v=undef
 | 20,v,_=>v=undef
 | 21,v,_=>v=undef
 | 22,v,_=>v=undef
 | 23,v,_=>v=undef
 | 24,v,_=>v=undef
 | 25,v,_=>v=undef
 | 26,v,_=>v=undef
 | 27,v,_=>v=undef
 | 28,v,_=>v=undef
 | 29,v,_=>v=undef
 | 30,v,_=>v=undef
 | 31,v,_=>v=undef
 | 32,v,_=>v=undef
 | 33,v,_=>v= .bool true
 | _,_,_=>True
theorem VevN_A.mono {n cap A off c m mc G ob k:Nat} {x:Int} {B j:Nat} {v:Value} {W W2:World} (_hB:Below W.heap.size W W2) (h:VevN_A n cap A off c m mc G ob k x B j v W):VevN_A n cap A off c m mc G ob k x B j v W2:=by
 unfold VevN_A at *
 split<;>simp only at h<;>first | exact h | trivial
theorem evN_A {Q:Exit→Act→World→Prop} {n cap A off c m mc G ob k:Nat} {x:Int} {w0:World} {a0:Act} {idq:Nat} {t0 t1 t2 t3 t4 t5 t6 t7 t8 t9 t10 t11 t12 t13 t14 t15 t16 t17 t18 t19 t20 t21 t22 t23 t24 t25 t26 t27 t28 t29 t30 t31 t32 t33:TypeId} {q0 q1 q2 q3 q4 q5 q6 q7 q8 q9 q10 q11 q12 q13 q14 q15 q16 q17 q18 q19 q20 q21 q22 q23 q24 q25 q26 q27 q28 q29 q30 q31 q32 q33:String}
 (hc:c<n) (hn:n≤200) (hk:k<m) (hm:m≤1048576) (hx:decide (0≤x∧x≤39)=false) (h0:a0.tmps[0]? =some (.slice (some ⟨A,off,none⟩) n cap)) (h3:a0.tmps[3]? =some (.int .i64 (c:Int))) (h4:a0.tmps[4]? =some (.int .i64 (k:Int))) (k0:w0.cell? ⟨A,off+c*13+12,none⟩=some (.slice (some ⟨G,ob,none⟩) m mc)) (l0:(⟨A,off+c*13+12,none⟩:Addr).block<w0.heap.size) (k1:w0.cell? ⟨G,ob+k,none⟩=some (.int .i64 x)) (l1:(⟨G,ob+k,none⟩:Addr).block<w0.heap.size) (hz:a0.tmps.size=95)
 (hQ:∀aq W,aq.tmps.size=a0.tmps.size→aq.defers=a0.defers→(∀e,e∉([61,62,63,64,65,66,67,68,69,70,71,72,73,74,75,76,77,78,79,80,81,82,83,84,85,86,87,88,89,90,91,92,93,94]:List Nat)→aq.tmps[e]? =a0.tmps[e]?)→VevN_A n cap A off c m mc G ob k x w0.heap.size 33 (aq.tmps.getD 94 undef) W→Below w0.heap.size w0 W→Q .normal aq W) :
 (Code.region idq #[⟨some 61,.move (.tmp 0),t0,q0,#[],none⟩,
 ⟨some 62,.move (.tmp 3),t1,q1,#[],none⟩,
 ⟨some 63,.indexAddr 24 (.tmp 61) (.tmp 62),t2,q2,#[⟨0,.data⟩,⟨1,.data⟩],none⟩,
 ⟨some 64,.fieldAddr 37 (.tmp 63) 1,t3,q3,#[⟨2,.data⟩],none⟩,
 ⟨some 65,.load 35 (.tmp 64),t4,q4,#[⟨3,.data⟩],none⟩,
 ⟨some 66,.move (.tmp 4),t5,q5,#[],none⟩,
 ⟨some 67,.indexAddr 35 (.tmp 65) (.tmp 66),t6,q6,#[⟨4,.data⟩,⟨5,.data⟩],none⟩,
 ⟨some 68,.load 2 (.tmp 67),t7,q7,#[⟨6,.data⟩],none⟩,
 ⟨some 69,.call {callee:= .value (.func 29),args:=#[.tmp 68,.const (.int .i64 0),.const (.int .i64 39)],argTypes:=#[2,2,2]},t8,q8,#[⟨7,.data⟩],none⟩,
 ⟨some 70,.unOp .not 4 (.tmp 69),t9,q9,#[⟨8,.data⟩],none⟩,
 ⟨some 71,.move (.tmp 70),t10,q10,#[⟨9,.data⟩,⟨8,.chain⟩],none⟩,
 ⟨some 72,.move (.tmp 4),t11,q11,#[⟨10,.guard⟩],some (10,false)⟩,
 ⟨some 73,.binOp .gtr 3 (.tmp 72) (.const (.int .i64 0)) 3,t12,q12,#[⟨11,.data⟩,⟨10,.guard⟩],some (10,false)⟩,
 ⟨some 74,.move (.tmp 73),t13,q13,#[⟨12,.data⟩,⟨10,.chain⟩,⟨10,.guard⟩],some (10,false)⟩,
 ⟨some 75,.move (.tmp 0),t14,q14,#[⟨13,.guard⟩],some (13,true)⟩,
 ⟨some 76,.move (.tmp 3),t15,q15,#[⟨13,.guard⟩],some (13,true)⟩,
 ⟨some 77,.indexAddr 24 (.tmp 75) (.tmp 76),t16,q16,#[⟨14,.data⟩,⟨15,.data⟩,⟨13,.guard⟩],some (13,true)⟩,
 ⟨some 78,.fieldAddr 37 (.tmp 77) 1,t17,q17,#[⟨16,.data⟩,⟨13,.guard⟩],some (13,true)⟩,
 ⟨some 79,.load 35 (.tmp 78),t18,q18,#[⟨17,.data⟩,⟨13,.guard⟩],some (13,true)⟩,
 ⟨some 80,.move (.tmp 4),t19,q19,#[⟨13,.guard⟩],some (13,true)⟩,
 ⟨some 81,.binOp .sub 3 (.tmp 80) (.const (.int .i64 1)) 3,t20,q20,#[⟨19,.data⟩,⟨13,.guard⟩],some (13,true)⟩,
 ⟨some 82,.indexAddr 35 (.tmp 79) (.tmp 81),t21,q21,#[⟨18,.data⟩,⟨20,.data⟩,⟨13,.guard⟩],some (13,true)⟩,
 ⟨some 83,.load 2 (.tmp 82),t22,q22,#[⟨21,.data⟩,⟨13,.guard⟩],some (13,true)⟩,
 ⟨some 84,.move (.tmp 0),t23,q23,#[⟨13,.guard⟩],some (13,true)⟩,
 ⟨some 85,.move (.tmp 3),t24,q24,#[⟨13,.guard⟩],some (13,true)⟩,
 ⟨some 86,.indexAddr 24 (.tmp 84) (.tmp 85),t25,q25,#[⟨23,.data⟩,⟨24,.data⟩,⟨13,.guard⟩],some (13,true)⟩,
 ⟨some 87,.fieldAddr 37 (.tmp 86) 1,t26,q26,#[⟨25,.data⟩,⟨13,.guard⟩],some (13,true)⟩,
 ⟨some 88,.load 35 (.tmp 87),t27,q27,#[⟨26,.data⟩,⟨13,.guard⟩],some (13,true)⟩,
 ⟨some 89,.move (.tmp 4),t28,q28,#[⟨13,.guard⟩],some (13,true)⟩,
 ⟨some 90,.indexAddr 35 (.tmp 88) (.tmp 89),t29,q29,#[⟨27,.data⟩,⟨28,.data⟩,⟨13,.guard⟩],some (13,true)⟩,
 ⟨some 91,.load 2 (.tmp 90),t30,q30,#[⟨29,.data⟩,⟨13,.guard⟩],some (13,true)⟩,
 ⟨some 92,.binOp .geq 2 (.tmp 83) (.tmp 91) 2,t31,q31,#[⟨22,.data⟩,⟨30,.data⟩,⟨13,.guard⟩],some (13,true)⟩,
 ⟨some 93,.pick (.tmp 74) (.tmp 92) (.const (.bool false)),t32,q32,#[⟨13,.data⟩,⟨31,.data⟩,⟨10,.guard⟩],some (10,false)⟩,
 ⟨some 94,.pick (.tmp 71) (.const (.bool true)) (.tmp 93),t33,q33,#[⟨10,.data⟩,⟨32,.data⟩],none⟩] true).wp Tryz.prog Q a0 w0:=by
 have hS:distS [some 61,some 62,some 63,some 64,some 65,some 66,some 67,some 68,some 69,some 70,some 71,some 72,some 73,some 74,some 75,some 76,some 77,some 78,some 79,some 80,some 81,some 82,some 83,some 84,some 85,some 86,some 87,some 88,some 89,some 90,some 91,some 92,some 93,some 94]=true:=rfl;refine wp_region_q (by kernel_rfl) w0.heap.size [some 61,some 62,some 63,some 64,some 65,some 66,some 67,some 68,some 69,some 70,some 71,some 72,some 73,some 74,some 75,some 76,some 77,some 78,some 79,some 80,some 81,some 82,some 83,some 84,some 85,some 86,some 87,some 88,some 89,some 90,some 91,some 92,some 93,some 94] (VevN_A n cap A off c m mc G ob k x w0.heap.size) rfl ?_ ?_
 · intro Q lq aq W iq oq hJ2 hl ho hall;have z5:=hJ2.b;have g0:=hJ2.a h0
   have g3:=hJ2.a h3
   have g4:=hJ2.a h4
   have c0:=hJ2.c k0 l0;have c1:=hJ2.c k1 l1
   clear hQ
   match iq,ho with
   | 0,ho=>
    cases ho;refine wpOp_of rfl rfl ?_;have hK:=hJ2.gO hS 0 61;generalize InvQ _ _ _ _ _ _=K at hK⊢;clear ho hall hl hJ2 hS;go_simp;exact hK _ rfl
   | 1,ho=>
    cases ho;refine wpOp_of rfl rfl ?_;have hK:=hJ2.gO hS 1 62;generalize InvQ _ _ _ _ _ _=K at hK⊢;clear ho hall hl hJ2 hS;go_simp;exact hK _ rfl
   | 2,ho=>
    cases ho;refine wpOp_of rfl rfl ?_;have f0:_=Value.slice (some ⟨A,off,none⟩) n cap:=hJ2.v hall 0 61;have f1:_=Value.int .i64 (c:Int):=hJ2.v hall 1 62;have hcI:(c:Int)<n:=by omega
    have hnI:(n:Int)≤200:=by omega
    have hK:=hJ2.gO hS 2 63;generalize InvQ _ _ _ _ _ _=K at hK⊢;clear ho hall hl hJ2 hS;go_simp;exact hK _ rfl
   | 3,ho=>
    cases ho;refine wpOp_of rfl rfl ?_;have f2:_=Value.pointer (some ⟨A,off+c*13,none⟩):=hJ2.v hall 2 63;have hK:=hJ2.gO hS 3 64;generalize InvQ _ _ _ _ _ _=K at hK⊢;clear ho hall hl hJ2 hS;go_simp;exact hK _ rfl
   | 4,ho=>
    cases ho;refine wpOp_of rfl rfl ?_;have f3:_=Value.pointer (some ⟨A,off+c*13+12,none⟩):=hJ2.v hall 3 64;have hK:=hJ2.gO hS 4 65;generalize InvQ _ _ _ _ _ _=K at hK⊢;clear ho hall hl hJ2 hS;go_simp;exact hK _ rfl
   | 5,ho=>
    cases ho;refine wpOp_of rfl rfl ?_;have hK:=hJ2.gO hS 5 66;generalize InvQ _ _ _ _ _ _=K at hK⊢;clear ho hall hl hJ2 hS;go_simp;exact hK _ rfl
   | 6,ho=>
    cases ho;refine wpOp_of rfl rfl ?_;have f4:_=Value.slice (some ⟨G,ob,none⟩) m mc:=hJ2.v hall 4 65;have f5:_=Value.int .i64 (k:Int):=hJ2.v hall 5 66;have hkI:(k:Int)<m:=by omega
    have hmI:(m:Int)≤1048576:=by omega
    have hK:=hJ2.gO hS 6 67;generalize InvQ _ _ _ _ _ _=K at hK⊢;clear ho hall hl hJ2 hS;go_simp;exact hK _ rfl
   | 7,ho=>
    cases ho;refine wpOp_of rfl rfl ?_;have f6:_=Value.pointer (some ⟨G,ob+k,none⟩):=hJ2.v hall 6 67;have hK:=hJ2.gO hS 7 68;generalize InvQ _ _ _ _ _ _=K at hK⊢;clear ho hall hl hJ2 hS;go_simp;exact hK _ rfl
   | 8,ho=>
    cases ho;refine wpOp_of rfl rfl ?_;have f7:_=Value.int .i64 x:=hJ2.v hall 7 68;have hK:=hJ2.go hS 8 69;generalize InvQ _ _ _ _ _ _=K at hK⊢;clear ho hall hl hJ2 hS;go_simp;refine(l1In_any x 0 39 false hx W).mono ?_;rintro e v1 ⟨rfl,hBv⟩;exact hK _ _ (z5.trans (hBv.mono z5.size)) (fun j v h=>h.mono hBv) rfl
   | 9,ho=>
    cases ho;refine wpOp_of rfl rfl ?_;have f8:_=Value.bool false:=hJ2.v hall 8 69;have hK:=hJ2.gO hS 9 70;generalize InvQ _ _ _ _ _ _=K at hK⊢;clear ho hall hl hJ2 hS;go_simp;exact hK _ rfl
   | 10,ho=>
    cases ho;refine wpOp_of rfl rfl ?_;have f9:_=Value.bool true:=hJ2.v hall 9 70;have hK:=hJ2.gO hS 10 71;generalize InvQ _ _ _ _ _ _=K at hK⊢;clear ho hall hl hJ2 hS;go_simp;exact hK _ rfl
   | 11,ho=>
    cases ho;have fg:aq.tmps.getD 71 undef= .bool true:=hJ2.v hall 10 71 .guard;refine wpOp_off rfl rfl rfl rfl fg ?_;exact hJ2.put hS 11 72 rfl (by omega) z5 (fun _ _ h=>h) undef rfl
   | 12,ho=>
    cases ho;have fg:aq.tmps.getD 71 undef= .bool true:=hJ2.v hall 10 71 .guard;refine wpOp_off rfl rfl rfl rfl fg ?_;exact hJ2.put hS 12 73 rfl (by omega) z5 (fun _ _ h=>h) undef rfl
   | 13,ho=>
    cases ho;have fg:aq.tmps.getD 71 undef= .bool true:=hJ2.v hall 10 71 .guard;refine wpOp_off rfl rfl rfl rfl fg ?_;exact hJ2.put hS 13 74 rfl (by omega) z5 (fun _ _ h=>h) undef rfl
   | 14,ho=>
    cases ho;have fg:aq.tmps.getD 74 undef=undef:=hJ2.v hall 13 74 .guard;refine wpOp_offu rfl rfl rfl rfl fg ?_;exact hJ2.put hS 14 75 rfl (by omega) z5 (fun _ _ h=>h) undef rfl
   | 15,ho=>
    cases ho;have fg:aq.tmps.getD 74 undef=undef:=hJ2.v hall 13 74 .guard;refine wpOp_offu rfl rfl rfl rfl fg ?_;exact hJ2.put hS 15 76 rfl (by omega) z5 (fun _ _ h=>h) undef rfl
   | 16,ho=>
    cases ho;have fg:aq.tmps.getD 74 undef=undef:=hJ2.v hall 13 74 .guard;refine wpOp_offu rfl rfl rfl rfl fg ?_;exact hJ2.put hS 16 77 rfl (by omega) z5 (fun _ _ h=>h) undef rfl
   | 17,ho=>
    cases ho;have fg:aq.tmps.getD 74 undef=undef:=hJ2.v hall 13 74 .guard;refine wpOp_offu rfl rfl rfl rfl fg ?_;exact hJ2.put hS 17 78 rfl (by omega) z5 (fun _ _ h=>h) undef rfl
   | 18,ho=>
    cases ho;have fg:aq.tmps.getD 74 undef=undef:=hJ2.v hall 13 74 .guard;refine wpOp_offu rfl rfl rfl rfl fg ?_;exact hJ2.put hS 18 79 rfl (by omega) z5 (fun _ _ h=>h) undef rfl
   | 19,ho=>
    cases ho;have fg:aq.tmps.getD 74 undef=undef:=hJ2.v hall 13 74 .guard;refine wpOp_offu rfl rfl rfl rfl fg ?_;exact hJ2.put hS 19 80 rfl (by omega) z5 (fun _ _ h=>h) undef rfl
   | 20,ho=>
    cases ho;have fg:aq.tmps.getD 74 undef=undef:=hJ2.v hall 13 74 .guard;refine wpOp_offu rfl rfl rfl rfl fg ?_;exact hJ2.put hS 20 81 rfl (by omega) z5 (fun _ _ h=>h) undef rfl
   | 21,ho=>
    cases ho;have fg:aq.tmps.getD 74 undef=undef:=hJ2.v hall 13 74 .guard;refine wpOp_offu rfl rfl rfl rfl fg ?_;exact hJ2.put hS 21 82 rfl (by omega) z5 (fun _ _ h=>h) undef rfl
   | 22,ho=>
    cases ho;have fg:aq.tmps.getD 74 undef=undef:=hJ2.v hall 13 74 .guard;refine wpOp_offu rfl rfl rfl rfl fg ?_;exact hJ2.put hS 22 83 rfl (by omega) z5 (fun _ _ h=>h) undef rfl
   | 23,ho=>
    cases ho;have fg:aq.tmps.getD 74 undef=undef:=hJ2.v hall 13 74 .guard;refine wpOp_offu rfl rfl rfl rfl fg ?_;exact hJ2.put hS 23 84 rfl (by omega) z5 (fun _ _ h=>h) undef rfl
   | 24,ho=>
    cases ho;have fg:aq.tmps.getD 74 undef=undef:=hJ2.v hall 13 74 .guard;refine wpOp_offu rfl rfl rfl rfl fg ?_;exact hJ2.put hS 24 85 rfl (by omega) z5 (fun _ _ h=>h) undef rfl
   | 25,ho=>
    cases ho;have fg:aq.tmps.getD 74 undef=undef:=hJ2.v hall 13 74 .guard;refine wpOp_offu rfl rfl rfl rfl fg ?_;exact hJ2.put hS 25 86 rfl (by omega) z5 (fun _ _ h=>h) undef rfl
   | 26,ho=>
    cases ho;have fg:aq.tmps.getD 74 undef=undef:=hJ2.v hall 13 74 .guard;refine wpOp_offu rfl rfl rfl rfl fg ?_;exact hJ2.put hS 26 87 rfl (by omega) z5 (fun _ _ h=>h) undef rfl
   | 27,ho=>
    cases ho;have fg:aq.tmps.getD 74 undef=undef:=hJ2.v hall 13 74 .guard;refine wpOp_offu rfl rfl rfl rfl fg ?_;exact hJ2.put hS 27 88 rfl (by omega) z5 (fun _ _ h=>h) undef rfl
   | 28,ho=>
    cases ho;have fg:aq.tmps.getD 74 undef=undef:=hJ2.v hall 13 74 .guard;refine wpOp_offu rfl rfl rfl rfl fg ?_;exact hJ2.put hS 28 89 rfl (by omega) z5 (fun _ _ h=>h) undef rfl
   | 29,ho=>
    cases ho;have fg:aq.tmps.getD 74 undef=undef:=hJ2.v hall 13 74 .guard;refine wpOp_offu rfl rfl rfl rfl fg ?_;exact hJ2.put hS 29 90 rfl (by omega) z5 (fun _ _ h=>h) undef rfl
   | 30,ho=>
    cases ho;have fg:aq.tmps.getD 74 undef=undef:=hJ2.v hall 13 74 .guard;refine wpOp_offu rfl rfl rfl rfl fg ?_;exact hJ2.put hS 30 91 rfl (by omega) z5 (fun _ _ h=>h) undef rfl
   | 31,ho=>
    cases ho;have fg:aq.tmps.getD 74 undef=undef:=hJ2.v hall 13 74 .guard;refine wpOp_offu rfl rfl rfl rfl fg ?_;exact hJ2.put hS 31 92 rfl (by omega) z5 (fun _ _ h=>h) undef rfl
   | 32,ho=>
    cases ho;have fg:aq.tmps.getD 71 undef= .bool true:=hJ2.v hall 10 71 .guard;refine wpOp_off rfl rfl rfl rfl fg ?_;exact hJ2.put hS 32 93 rfl (by omega) z5 (fun _ _ h=>h) undef rfl
   | 33,ho=>
    cases ho;refine wpOp_of rfl rfl ?_;have f10:_=Value.bool true:=hJ2.v hall 10 71;have f32:_=undef:=hJ2.v hall 32 93;have hK:=hJ2.gO hS 33 94;generalize InvQ _ _ _ _ _ _=K at hK⊢;clear ho hall hl hJ2 hS;go_simp;exact hK _ rfl
   | iq+34,ho=>simp at ho
 · intro lq aq W hJ hr;obtain⟨z1,z2,z3,z4,z5,z6,z7⟩:=hJ;have hl:=listed_of hr [0,1,2,3,4,5,6,7,8,9,10,11,12,13,14,15,16,17,18,19,20,21,22,23,24,25,26,27,28,29,30,31,32,33] [] (by simp) (by kernel_rfl) (by rw[z1];decide);exact hQ aq W z2 z3 (fun e he=>z4 e (by simpa using he)) (z6 33 94 (hl 33 (by simp)) rfl) z5
def VevN_C (n cap A off c m mc G ob k:Nat) (x:Int) (_B:Nat):Nat→Value→World→Prop
 | 0,v,_=>v= .slice (some ⟨A,off,none⟩) n cap
 | 1,v,_=>v= .int .i64 (c:Int)
 | 2,v,_=>v= .pointer (some ⟨A,off+c*13,none⟩)
 | 3,v,_=>v= .pointer (some ⟨A,off+c*13+12,none⟩)
 | 4,v,_=>v= .slice (some ⟨G,ob,none⟩) m mc
 | 5,v,_=>v= .int .i64 (k:Int)
 | 6,v,_=>v= .pointer (some ⟨G,ob+k,none⟩)
 | 7,v,_=>v= .int .i64 x
 | 8,v,_=>v= .bool true
 | 9,v,_=>v= .bool false
 | 10,v,_=>v= .bool false
 | 11,v,_=>v= .int .i64 (k:Int)
 | 12,v,_=>v= .bool false
 | 13,v,_=>v= .bool false
 | 14,v,_=>v=undef
 | 15,v,_=>v=undef
 | 16,v,_=>v=undef
 | 17,v,_=>v=undef
 | 18,v,_=>v=undef
 | 19,v,_=>v=undef
 | 20,v,_=>v=undef
 | 21,v,_=>v=undef
 | 22,v,_=>v=undef
 | 23,v,_=>v=undef
 | 24,v,_=>v=undef
 | 25,v,_=>v=undef
 | 26,v,_=>v=undef
 | 27,v,_=>v=undef
 | 28,v,_=>v=undef
 | 29,v,_=>v=undef
 | 30,v,_=>v=undef
 | 31,v,_=>v=undef
 | 32,v,_=>v= .bool false
 | 33,v,_=>v= .bool false
 | _,_,_=>True
theorem VevN_C.mono {n cap A off c m mc G ob k:Nat} {x:Int} {B j:Nat} {v:Value} {W W2:World} (_hB:Below W.heap.size W W2) (h:VevN_C n cap A off c m mc G ob k x B j v W):VevN_C n cap A off c m mc G ob k x B j v W2:=by
 unfold VevN_C at *
 split<;>simp only at h<;>first | exact h | trivial
theorem evN_C {Q:Exit→Act→World→Prop} {n cap A off c m mc G ob k:Nat} {x:Int} {w0:World} {a0:Act} {idq:Nat} {t0 t1 t2 t3 t4 t5 t6 t7 t8 t9 t10 t11 t12 t13 t14 t15 t16 t17 t18 t19 t20 t21 t22 t23 t24 t25 t26 t27 t28 t29 t30 t31 t32 t33:TypeId} {q0 q1 q2 q3 q4 q5 q6 q7 q8 q9 q10 q11 q12 q13 q14 q15 q16 q17 q18 q19 q20 q21 q22 q23 q24 q25 q26 q27 q28 q29 q30 q31 q32 q33:String}
 (hc:c<n) (hn:n≤200) (hk:k<m) (hm:m≤1048576) (hx:decide (0≤x∧x≤39)=true) (hk0:Hid (k=0)) (h0:a0.tmps[0]? =some (.slice (some ⟨A,off,none⟩) n cap)) (h3:a0.tmps[3]? =some (.int .i64 (c:Int))) (h4:a0.tmps[4]? =some (.int .i64 (k:Int))) (k0:w0.cell? ⟨A,off+c*13+12,none⟩=some (.slice (some ⟨G,ob,none⟩) m mc)) (l0:(⟨A,off+c*13+12,none⟩:Addr).block<w0.heap.size) (k1:w0.cell? ⟨G,ob+k,none⟩=some (.int .i64 x)) (l1:(⟨G,ob+k,none⟩:Addr).block<w0.heap.size) (hz:a0.tmps.size=95)
 (hQ:∀aq W,aq.tmps.size=a0.tmps.size→aq.defers=a0.defers→(∀e,e∉([61,62,63,64,65,66,67,68,69,70,71,72,73,74,75,76,77,78,79,80,81,82,83,84,85,86,87,88,89,90,91,92,93,94]:List Nat)→aq.tmps[e]? =a0.tmps[e]?)→VevN_C n cap A off c m mc G ob k x w0.heap.size 33 (aq.tmps.getD 94 undef) W→Below w0.heap.size w0 W→Q .normal aq W) :
 (Code.region idq #[⟨some 61,.move (.tmp 0),t0,q0,#[],none⟩,
 ⟨some 62,.move (.tmp 3),t1,q1,#[],none⟩,
 ⟨some 63,.indexAddr 24 (.tmp 61) (.tmp 62),t2,q2,#[⟨0,.data⟩,⟨1,.data⟩],none⟩,
 ⟨some 64,.fieldAddr 37 (.tmp 63) 1,t3,q3,#[⟨2,.data⟩],none⟩,
 ⟨some 65,.load 35 (.tmp 64),t4,q4,#[⟨3,.data⟩],none⟩,
 ⟨some 66,.move (.tmp 4),t5,q5,#[],none⟩,
 ⟨some 67,.indexAddr 35 (.tmp 65) (.tmp 66),t6,q6,#[⟨4,.data⟩,⟨5,.data⟩],none⟩,
 ⟨some 68,.load 2 (.tmp 67),t7,q7,#[⟨6,.data⟩],none⟩,
 ⟨some 69,.call {callee:= .value (.func 29),args:=#[.tmp 68,.const (.int .i64 0),.const (.int .i64 39)],argTypes:=#[2,2,2]},t8,q8,#[⟨7,.data⟩],none⟩,
 ⟨some 70,.unOp .not 4 (.tmp 69),t9,q9,#[⟨8,.data⟩],none⟩,
 ⟨some 71,.move (.tmp 70),t10,q10,#[⟨9,.data⟩,⟨8,.chain⟩],none⟩,
 ⟨some 72,.move (.tmp 4),t11,q11,#[⟨10,.guard⟩],some (10,false)⟩,
 ⟨some 73,.binOp .gtr 3 (.tmp 72) (.const (.int .i64 0)) 3,t12,q12,#[⟨11,.data⟩,⟨10,.guard⟩],some (10,false)⟩,
 ⟨some 74,.move (.tmp 73),t13,q13,#[⟨12,.data⟩,⟨10,.chain⟩,⟨10,.guard⟩],some (10,false)⟩,
 ⟨some 75,.move (.tmp 0),t14,q14,#[⟨13,.guard⟩],some (13,true)⟩,
 ⟨some 76,.move (.tmp 3),t15,q15,#[⟨13,.guard⟩],some (13,true)⟩,
 ⟨some 77,.indexAddr 24 (.tmp 75) (.tmp 76),t16,q16,#[⟨14,.data⟩,⟨15,.data⟩,⟨13,.guard⟩],some (13,true)⟩,
 ⟨some 78,.fieldAddr 37 (.tmp 77) 1,t17,q17,#[⟨16,.data⟩,⟨13,.guard⟩],some (13,true)⟩,
 ⟨some 79,.load 35 (.tmp 78),t18,q18,#[⟨17,.data⟩,⟨13,.guard⟩],some (13,true)⟩,
 ⟨some 80,.move (.tmp 4),t19,q19,#[⟨13,.guard⟩],some (13,true)⟩,
 ⟨some 81,.binOp .sub 3 (.tmp 80) (.const (.int .i64 1)) 3,t20,q20,#[⟨19,.data⟩,⟨13,.guard⟩],some (13,true)⟩,
 ⟨some 82,.indexAddr 35 (.tmp 79) (.tmp 81),t21,q21,#[⟨18,.data⟩,⟨20,.data⟩,⟨13,.guard⟩],some (13,true)⟩,
 ⟨some 83,.load 2 (.tmp 82),t22,q22,#[⟨21,.data⟩,⟨13,.guard⟩],some (13,true)⟩,
 ⟨some 84,.move (.tmp 0),t23,q23,#[⟨13,.guard⟩],some (13,true)⟩,
 ⟨some 85,.move (.tmp 3),t24,q24,#[⟨13,.guard⟩],some (13,true)⟩,
 ⟨some 86,.indexAddr 24 (.tmp 84) (.tmp 85),t25,q25,#[⟨23,.data⟩,⟨24,.data⟩,⟨13,.guard⟩],some (13,true)⟩,
 ⟨some 87,.fieldAddr 37 (.tmp 86) 1,t26,q26,#[⟨25,.data⟩,⟨13,.guard⟩],some (13,true)⟩,
 ⟨some 88,.load 35 (.tmp 87),t27,q27,#[⟨26,.data⟩,⟨13,.guard⟩],some (13,true)⟩,
 ⟨some 89,.move (.tmp 4),t28,q28,#[⟨13,.guard⟩],some (13,true)⟩,
 ⟨some 90,.indexAddr 35 (.tmp 88) (.tmp 89),t29,q29,#[⟨27,.data⟩,⟨28,.data⟩,⟨13,.guard⟩],some (13,true)⟩,
 ⟨some 91,.load 2 (.tmp 90),t30,q30,#[⟨29,.data⟩,⟨13,.guard⟩],some (13,true)⟩,
 ⟨some 92,.binOp .geq 2 (.tmp 83) (.tmp 91) 2,t31,q31,#[⟨22,.data⟩,⟨30,.data⟩,⟨13,.guard⟩],some (13,true)⟩,
 ⟨some 93,.pick (.tmp 74) (.tmp 92) (.const (.bool false)),t32,q32,#[⟨13,.data⟩,⟨31,.data⟩,⟨10,.guard⟩],some (10,false)⟩,
 ⟨some 94,.pick (.tmp 71) (.const (.bool true)) (.tmp 93),t33,q33,#[⟨10,.data⟩,⟨32,.data⟩],none⟩] true).wp Tryz.prog Q a0 w0:=by
 have hS:distS [some 61,some 62,some 63,some 64,some 65,some 66,some 67,some 68,some 69,some 70,some 71,some 72,some 73,some 74,some 75,some 76,some 77,some 78,some 79,some 80,some 81,some 82,some 83,some 84,some 85,some 86,some 87,some 88,some 89,some 90,some 91,some 92,some 93,some 94]=true:=rfl;refine wp_region_q (by kernel_rfl) w0.heap.size [some 61,some 62,some 63,some 64,some 65,some 66,some 67,some 68,some 69,some 70,some 71,some 72,some 73,some 74,some 75,some 76,some 77,some 78,some 79,some 80,some 81,some 82,some 83,some 84,some 85,some 86,some 87,some 88,some 89,some 90,some 91,some 92,some 93,some 94] (VevN_C n cap A off c m mc G ob k x w0.heap.size) rfl ?_ ?_
 · intro Q lq aq W iq oq hJ2 hl ho hall;have z5:=hJ2.b;have g0:=hJ2.a h0
   have g3:=hJ2.a h3
   have g4:=hJ2.a h4
   have c0:=hJ2.c k0 l0;have c1:=hJ2.c k1 l1
   clear hQ
   match iq,ho with
   | 0,ho=>
    cases ho;refine wpOp_of rfl rfl ?_;have hK:=hJ2.gO hS 0 61;generalize InvQ _ _ _ _ _ _=K at hK⊢;clear ho hall hl hJ2 hS;go_simp;exact hK _ rfl
   | 1,ho=>
    cases ho;refine wpOp_of rfl rfl ?_;have hK:=hJ2.gO hS 1 62;generalize InvQ _ _ _ _ _ _=K at hK⊢;clear ho hall hl hJ2 hS;go_simp;exact hK _ rfl
   | 2,ho=>
    cases ho;refine wpOp_of rfl rfl ?_;have f0:_=Value.slice (some ⟨A,off,none⟩) n cap:=hJ2.v hall 0 61;have f1:_=Value.int .i64 (c:Int):=hJ2.v hall 1 62;have hcI:(c:Int)<n:=by omega
    have hnI:(n:Int)≤200:=by omega
    have hK:=hJ2.gO hS 2 63;generalize InvQ _ _ _ _ _ _=K at hK⊢;clear ho hall hl hJ2 hS;go_simp;exact hK _ rfl
   | 3,ho=>
    cases ho;refine wpOp_of rfl rfl ?_;have f2:_=Value.pointer (some ⟨A,off+c*13,none⟩):=hJ2.v hall 2 63;have hK:=hJ2.gO hS 3 64;generalize InvQ _ _ _ _ _ _=K at hK⊢;clear ho hall hl hJ2 hS;go_simp;exact hK _ rfl
   | 4,ho=>
    cases ho;refine wpOp_of rfl rfl ?_;have f3:_=Value.pointer (some ⟨A,off+c*13+12,none⟩):=hJ2.v hall 3 64;have hK:=hJ2.gO hS 4 65;generalize InvQ _ _ _ _ _ _=K at hK⊢;clear ho hall hl hJ2 hS;go_simp;exact hK _ rfl
   | 5,ho=>
    cases ho;refine wpOp_of rfl rfl ?_;have hK:=hJ2.gO hS 5 66;generalize InvQ _ _ _ _ _ _=K at hK⊢;clear ho hall hl hJ2 hS;go_simp;exact hK _ rfl
   | 6,ho=>
    cases ho;refine wpOp_of rfl rfl ?_;have f4:_=Value.slice (some ⟨G,ob,none⟩) m mc:=hJ2.v hall 4 65;have f5:_=Value.int .i64 (k:Int):=hJ2.v hall 5 66;have hkI:(k:Int)<m:=by omega
    have hmI:(m:Int)≤1048576:=by omega
    have hK:=hJ2.gO hS 6 67;generalize InvQ _ _ _ _ _ _=K at hK⊢;clear ho hall hl hJ2 hS;go_simp;exact hK _ rfl
   | 7,ho=>
    cases ho;refine wpOp_of rfl rfl ?_;have f6:_=Value.pointer (some ⟨G,ob+k,none⟩):=hJ2.v hall 6 67;have hK:=hJ2.gO hS 7 68;generalize InvQ _ _ _ _ _ _=K at hK⊢;clear ho hall hl hJ2 hS;go_simp;exact hK _ rfl
   | 8,ho=>
    cases ho;refine wpOp_of rfl rfl ?_;have f7:_=Value.int .i64 x:=hJ2.v hall 7 68;have hK:=hJ2.go hS 8 69;generalize InvQ _ _ _ _ _ _=K at hK⊢;clear ho hall hl hJ2 hS;go_simp;refine(l1In_any x 0 39 true hx W).mono ?_;rintro e v1 ⟨rfl,hBv⟩;exact hK _ _ (z5.trans (hBv.mono z5.size)) (fun j v h=>h.mono hBv) rfl
   | 9,ho=>
    cases ho;refine wpOp_of rfl rfl ?_;have f8:_=Value.bool true:=hJ2.v hall 8 69;have hK:=hJ2.gO hS 9 70;generalize InvQ _ _ _ _ _ _=K at hK⊢;clear ho hall hl hJ2 hS;go_simp;exact hK _ rfl
   | 10,ho=>
    cases ho;refine wpOp_of rfl rfl ?_;have f9:_=Value.bool false:=hJ2.v hall 9 70;have hK:=hJ2.gO hS 10 71;generalize InvQ _ _ _ _ _ _=K at hK⊢;clear ho hall hl hJ2 hS;go_simp;exact hK _ rfl
   | 11,ho=>
    cases ho;have fg:aq.tmps.getD 71 undef= .bool false:=hJ2.v hall 10 71 .guard;refine wpOp_on rfl rfl rfl rfl fg ?_;have hK:=hJ2.gO hS 11 72;generalize InvQ _ _ _ _ _ _=K at hK⊢;clear ho hall hl hJ2 hS;go_simp;exact hK _ rfl
   | 12,ho=>
    cases ho;have fg:aq.tmps.getD 71 undef= .bool false:=hJ2.v hall 10 71 .guard;refine wpOp_on rfl rfl rfl rfl fg ?_;have f11:_=Value.int .i64 (k:Int):=hJ2.v hall 11 72;have hgt:(k:Int)≤0:=by have ho:=hk0.out;omega
    have hK:=hJ2.go hS 12 73;generalize InvQ _ _ _ _ _ _=K at hK⊢;clear ho hall hl hJ2 hS;go_simp;exact hK _ _ z5 (fun _ _ h=>h) (by show _=_;exact congrArg Value.bool (decide_eq_false (by omega)))
   | 13,ho=>
    cases ho;have fg:aq.tmps.getD 71 undef= .bool false:=hJ2.v hall 10 71 .guard;refine wpOp_on rfl rfl rfl rfl fg ?_;have f12:_=Value.bool false:=hJ2.v hall 12 73;have hK:=hJ2.gO hS 13 74;generalize InvQ _ _ _ _ _ _=K at hK⊢;clear ho hall hl hJ2 hS;go_simp;exact hK _ rfl
   | 14,ho=>
    cases ho;have fg:aq.tmps.getD 74 undef= .bool false:=hJ2.v hall 13 74 .guard;refine wpOp_off rfl rfl rfl rfl fg ?_;exact hJ2.put hS 14 75 rfl (by omega) z5 (fun _ _ h=>h) undef rfl
   | 15,ho=>
    cases ho;have fg:aq.tmps.getD 74 undef= .bool false:=hJ2.v hall 13 74 .guard;refine wpOp_off rfl rfl rfl rfl fg ?_;exact hJ2.put hS 15 76 rfl (by omega) z5 (fun _ _ h=>h) undef rfl
   | 16,ho=>
    cases ho;have fg:aq.tmps.getD 74 undef= .bool false:=hJ2.v hall 13 74 .guard;refine wpOp_off rfl rfl rfl rfl fg ?_;exact hJ2.put hS 16 77 rfl (by omega) z5 (fun _ _ h=>h) undef rfl
   | 17,ho=>
    cases ho;have fg:aq.tmps.getD 74 undef= .bool false:=hJ2.v hall 13 74 .guard;refine wpOp_off rfl rfl rfl rfl fg ?_;exact hJ2.put hS 17 78 rfl (by omega) z5 (fun _ _ h=>h) undef rfl
   | 18,ho=>
    cases ho;have fg:aq.tmps.getD 74 undef= .bool false:=hJ2.v hall 13 74 .guard;refine wpOp_off rfl rfl rfl rfl fg ?_;exact hJ2.put hS 18 79 rfl (by omega) z5 (fun _ _ h=>h) undef rfl
   | 19,ho=>
    cases ho;have fg:aq.tmps.getD 74 undef= .bool false:=hJ2.v hall 13 74 .guard;refine wpOp_off rfl rfl rfl rfl fg ?_;exact hJ2.put hS 19 80 rfl (by omega) z5 (fun _ _ h=>h) undef rfl
   | 20,ho=>
    cases ho;have fg:aq.tmps.getD 74 undef= .bool false:=hJ2.v hall 13 74 .guard;refine wpOp_off rfl rfl rfl rfl fg ?_;exact hJ2.put hS 20 81 rfl (by omega) z5 (fun _ _ h=>h) undef rfl
   | 21,ho=>
    cases ho;have fg:aq.tmps.getD 74 undef= .bool false:=hJ2.v hall 13 74 .guard;refine wpOp_off rfl rfl rfl rfl fg ?_;exact hJ2.put hS 21 82 rfl (by omega) z5 (fun _ _ h=>h) undef rfl
   | 22,ho=>
    cases ho;have fg:aq.tmps.getD 74 undef= .bool false:=hJ2.v hall 13 74 .guard;refine wpOp_off rfl rfl rfl rfl fg ?_;exact hJ2.put hS 22 83 rfl (by omega) z5 (fun _ _ h=>h) undef rfl
   | 23,ho=>
    cases ho;have fg:aq.tmps.getD 74 undef= .bool false:=hJ2.v hall 13 74 .guard;refine wpOp_off rfl rfl rfl rfl fg ?_;exact hJ2.put hS 23 84 rfl (by omega) z5 (fun _ _ h=>h) undef rfl
   | 24,ho=>
    cases ho;have fg:aq.tmps.getD 74 undef= .bool false:=hJ2.v hall 13 74 .guard;refine wpOp_off rfl rfl rfl rfl fg ?_;exact hJ2.put hS 24 85 rfl (by omega) z5 (fun _ _ h=>h) undef rfl
   | 25,ho=>
    cases ho;have fg:aq.tmps.getD 74 undef= .bool false:=hJ2.v hall 13 74 .guard;refine wpOp_off rfl rfl rfl rfl fg ?_;exact hJ2.put hS 25 86 rfl (by omega) z5 (fun _ _ h=>h) undef rfl
   | 26,ho=>
    cases ho;have fg:aq.tmps.getD 74 undef= .bool false:=hJ2.v hall 13 74 .guard;refine wpOp_off rfl rfl rfl rfl fg ?_;exact hJ2.put hS 26 87 rfl (by omega) z5 (fun _ _ h=>h) undef rfl
   | 27,ho=>
    cases ho;have fg:aq.tmps.getD 74 undef= .bool false:=hJ2.v hall 13 74 .guard;refine wpOp_off rfl rfl rfl rfl fg ?_;exact hJ2.put hS 27 88 rfl (by omega) z5 (fun _ _ h=>h) undef rfl
   | 28,ho=>
    cases ho;have fg:aq.tmps.getD 74 undef= .bool false:=hJ2.v hall 13 74 .guard;refine wpOp_off rfl rfl rfl rfl fg ?_;exact hJ2.put hS 28 89 rfl (by omega) z5 (fun _ _ h=>h) undef rfl
   | 29,ho=>
    cases ho;have fg:aq.tmps.getD 74 undef= .bool false:=hJ2.v hall 13 74 .guard;refine wpOp_off rfl rfl rfl rfl fg ?_;exact hJ2.put hS 29 90 rfl (by omega) z5 (fun _ _ h=>h) undef rfl
   | 30,ho=>
    cases ho;have fg:aq.tmps.getD 74 undef= .bool false:=hJ2.v hall 13 74 .guard;refine wpOp_off rfl rfl rfl rfl fg ?_;exact hJ2.put hS 30 91 rfl (by omega) z5 (fun _ _ h=>h) undef rfl
   | 31,ho=>
    cases ho;have fg:aq.tmps.getD 74 undef= .bool false:=hJ2.v hall 13 74 .guard;refine wpOp_off rfl rfl rfl rfl fg ?_;exact hJ2.put hS 31 92 rfl (by omega) z5 (fun _ _ h=>h) undef rfl
   | 32,ho=>
    cases ho;have fg:aq.tmps.getD 71 undef= .bool false:=hJ2.v hall 10 71 .guard;refine wpOp_on rfl rfl rfl rfl fg ?_;have f13:_=Value.bool false:=hJ2.v hall 13 74;have f31:_=undef:=hJ2.v hall 31 92;have hK:=hJ2.gO hS 32 93;generalize InvQ _ _ _ _ _ _=K at hK⊢;clear ho hall hl hJ2 hS;go_simp;exact hK _ rfl
   | 33,ho=>
    cases ho;refine wpOp_of rfl rfl ?_;have f10:_=Value.bool false:=hJ2.v hall 10 71;have f32:_=Value.bool false:=hJ2.v hall 32 93;have hK:=hJ2.gO hS 33 94;generalize InvQ _ _ _ _ _ _=K at hK⊢;clear ho hall hl hJ2 hS;go_simp;exact hK _ rfl
   | iq+34,ho=>simp at ho
 · intro lq aq W hJ hr;obtain⟨z1,z2,z3,z4,z5,z6,z7⟩:=hJ;have hl:=listed_of hr [0,1,2,3,4,5,6,7,8,9,10,11,12,13,14,15,16,17,18,19,20,21,22,23,24,25,26,27,28,29,30,31,32,33] [] (by simp) (by kernel_rfl) (by rw[z1];decide);exact hQ aq W z2 z3 (fun e he=>z4 e (by simpa using he)) (z6 33 94 (hl 33 (by simp)) rfl) z5
def VevN_D (n cap A off c m mc G ob k jj:Nat) (x y:Int) (_B:Nat):Nat→Value→World→Prop
 | 0,v,_=>v= .slice (some ⟨A,off,none⟩) n cap
 | 1,v,_=>v= .int .i64 (c:Int)
 | 2,v,_=>v= .pointer (some ⟨A,off+c*13,none⟩)
 | 3,v,_=>v= .pointer (some ⟨A,off+c*13+12,none⟩)
 | 4,v,_=>v= .slice (some ⟨G,ob,none⟩) m mc
 | 5,v,_=>v= .int .i64 (k:Int)
 | 6,v,_=>v= .pointer (some ⟨G,ob+k,none⟩)
 | 7,v,_=>v= .int .i64 x
 | 8,v,_=>v= .bool true
 | 9,v,_=>v= .bool false
 | 10,v,_=>v= .bool false
 | 11,v,_=>v= .int .i64 (k:Int)
 | 12,v,_=>v= .bool true
 | 13,v,_=>v= .bool true
 | 14,v,_=>v= .slice (some ⟨A,off,none⟩) n cap
 | 15,v,_=>v= .int .i64 (c:Int)
 | 16,v,_=>v= .pointer (some ⟨A,off+c*13,none⟩)
 | 17,v,_=>v= .pointer (some ⟨A,off+c*13+12,none⟩)
 | 18,v,_=>v= .slice (some ⟨G,ob,none⟩) m mc
 | 19,v,_=>v= .int .i64 (k:Int)
 | 20,v,_=>v= .int .i64 (jj:Int)
 | 21,v,_=>v= .pointer (some ⟨G,ob+jj,none⟩)
 | 22,v,_=>v= .int .i64 y
 | 23,v,_=>v= .slice (some ⟨A,off,none⟩) n cap
 | 24,v,_=>v= .int .i64 (c:Int)
 | 25,v,_=>v= .pointer (some ⟨A,off+c*13,none⟩)
 | 26,v,_=>v= .pointer (some ⟨A,off+c*13+12,none⟩)
 | 27,v,_=>v= .slice (some ⟨G,ob,none⟩) m mc
 | 28,v,_=>v= .int .i64 (k:Int)
 | 29,v,_=>v= .pointer (some ⟨G,ob+k,none⟩)
 | 30,v,_=>v= .int .i64 x
 | 31,v,_=>v= .bool (decide (x≤y))
 | 32,v,_=>v= .bool (decide (x≤y))
 | 33,v,_=>v= .bool (decide (x≤y))
 | _,_,_=>True
theorem VevN_D.mono {n cap A off c m mc G ob k jj:Nat} {x y:Int} {B j:Nat} {v:Value} {W W2:World} (_hB:Below W.heap.size W W2) (h:VevN_D n cap A off c m mc G ob k jj x y B j v W):VevN_D n cap A off c m mc G ob k jj x y B j v W2:=by
 unfold VevN_D at *
 split<;>simp only at h<;>first | exact h | trivial
theorem evN_D {Q:Exit→Act→World→Prop} {n cap A off c m mc G ob k jj:Nat} {x y:Int} {w0:World} {a0:Act} {idq:Nat} {t0 t1 t2 t3 t4 t5 t6 t7 t8 t9 t10 t11 t12 t13 t14 t15 t16 t17 t18 t19 t20 t21 t22 t23 t24 t25 t26 t27 t28 t29 t30 t31 t32 t33:TypeId} {q0 q1 q2 q3 q4 q5 q6 q7 q8 q9 q10 q11 q12 q13 q14 q15 q16 q17 q18 q19 q20 q21 q22 q23 q24 q25 q26 q27 q28 q29 q30 q31 q32 q33:String}
 (hc:c<n) (hn:n≤200) (hk:k<m) (hm:m≤1048576) (hx:decide (0≤x∧x≤39)=true) (hkj:Hid (k=jj+1)) (h0:a0.tmps[0]? =some (.slice (some ⟨A,off,none⟩) n cap)) (h3:a0.tmps[3]? =some (.int .i64 (c:Int))) (h4:a0.tmps[4]? =some (.int .i64 (k:Int))) (k0:w0.cell? ⟨A,off+c*13+12,none⟩=some (.slice (some ⟨G,ob,none⟩) m mc)) (l0:(⟨A,off+c*13+12,none⟩:Addr).block<w0.heap.size) (k1:w0.cell? ⟨G,ob+k,none⟩=some (.int .i64 x)) (l1:(⟨G,ob+k,none⟩:Addr).block<w0.heap.size) (k2:w0.cell? ⟨G,ob+jj,none⟩=some (.int .i64 y)) (l2:(⟨G,ob+jj,none⟩:Addr).block<w0.heap.size) (hz:a0.tmps.size=95)
 (hQ:∀aq W,aq.tmps.size=a0.tmps.size→aq.defers=a0.defers→(∀e,e∉([61,62,63,64,65,66,67,68,69,70,71,72,73,74,75,76,77,78,79,80,81,82,83,84,85,86,87,88,89,90,91,92,93,94]:List Nat)→aq.tmps[e]? =a0.tmps[e]?)→VevN_D n cap A off c m mc G ob k jj x y w0.heap.size 33 (aq.tmps.getD 94 undef) W→Below w0.heap.size w0 W→Q .normal aq W) :
 (Code.region idq #[⟨some 61,.move (.tmp 0),t0,q0,#[],none⟩,
 ⟨some 62,.move (.tmp 3),t1,q1,#[],none⟩,
 ⟨some 63,.indexAddr 24 (.tmp 61) (.tmp 62),t2,q2,#[⟨0,.data⟩,⟨1,.data⟩],none⟩,
 ⟨some 64,.fieldAddr 37 (.tmp 63) 1,t3,q3,#[⟨2,.data⟩],none⟩,
 ⟨some 65,.load 35 (.tmp 64),t4,q4,#[⟨3,.data⟩],none⟩,
 ⟨some 66,.move (.tmp 4),t5,q5,#[],none⟩,
 ⟨some 67,.indexAddr 35 (.tmp 65) (.tmp 66),t6,q6,#[⟨4,.data⟩,⟨5,.data⟩],none⟩,
 ⟨some 68,.load 2 (.tmp 67),t7,q7,#[⟨6,.data⟩],none⟩,
 ⟨some 69,.call {callee:= .value (.func 29),args:=#[.tmp 68,.const (.int .i64 0),.const (.int .i64 39)],argTypes:=#[2,2,2]},t8,q8,#[⟨7,.data⟩],none⟩,
 ⟨some 70,.unOp .not 4 (.tmp 69),t9,q9,#[⟨8,.data⟩],none⟩,
 ⟨some 71,.move (.tmp 70),t10,q10,#[⟨9,.data⟩,⟨8,.chain⟩],none⟩,
 ⟨some 72,.move (.tmp 4),t11,q11,#[⟨10,.guard⟩],some (10,false)⟩,
 ⟨some 73,.binOp .gtr 3 (.tmp 72) (.const (.int .i64 0)) 3,t12,q12,#[⟨11,.data⟩,⟨10,.guard⟩],some (10,false)⟩,
 ⟨some 74,.move (.tmp 73),t13,q13,#[⟨12,.data⟩,⟨10,.chain⟩,⟨10,.guard⟩],some (10,false)⟩,
 ⟨some 75,.move (.tmp 0),t14,q14,#[⟨13,.guard⟩],some (13,true)⟩,
 ⟨some 76,.move (.tmp 3),t15,q15,#[⟨13,.guard⟩],some (13,true)⟩,
 ⟨some 77,.indexAddr 24 (.tmp 75) (.tmp 76),t16,q16,#[⟨14,.data⟩,⟨15,.data⟩,⟨13,.guard⟩],some (13,true)⟩,
 ⟨some 78,.fieldAddr 37 (.tmp 77) 1,t17,q17,#[⟨16,.data⟩,⟨13,.guard⟩],some (13,true)⟩,
 ⟨some 79,.load 35 (.tmp 78),t18,q18,#[⟨17,.data⟩,⟨13,.guard⟩],some (13,true)⟩,
 ⟨some 80,.move (.tmp 4),t19,q19,#[⟨13,.guard⟩],some (13,true)⟩,
 ⟨some 81,.binOp .sub 3 (.tmp 80) (.const (.int .i64 1)) 3,t20,q20,#[⟨19,.data⟩,⟨13,.guard⟩],some (13,true)⟩,
 ⟨some 82,.indexAddr 35 (.tmp 79) (.tmp 81),t21,q21,#[⟨18,.data⟩,⟨20,.data⟩,⟨13,.guard⟩],some (13,true)⟩,
 ⟨some 83,.load 2 (.tmp 82),t22,q22,#[⟨21,.data⟩,⟨13,.guard⟩],some (13,true)⟩,
 ⟨some 84,.move (.tmp 0),t23,q23,#[⟨13,.guard⟩],some (13,true)⟩,
 ⟨some 85,.move (.tmp 3),t24,q24,#[⟨13,.guard⟩],some (13,true)⟩,
 ⟨some 86,.indexAddr 24 (.tmp 84) (.tmp 85),t25,q25,#[⟨23,.data⟩,⟨24,.data⟩,⟨13,.guard⟩],some (13,true)⟩,
 ⟨some 87,.fieldAddr 37 (.tmp 86) 1,t26,q26,#[⟨25,.data⟩,⟨13,.guard⟩],some (13,true)⟩,
 ⟨some 88,.load 35 (.tmp 87),t27,q27,#[⟨26,.data⟩,⟨13,.guard⟩],some (13,true)⟩,
 ⟨some 89,.move (.tmp 4),t28,q28,#[⟨13,.guard⟩],some (13,true)⟩,
 ⟨some 90,.indexAddr 35 (.tmp 88) (.tmp 89),t29,q29,#[⟨27,.data⟩,⟨28,.data⟩,⟨13,.guard⟩],some (13,true)⟩,
 ⟨some 91,.load 2 (.tmp 90),t30,q30,#[⟨29,.data⟩,⟨13,.guard⟩],some (13,true)⟩,
 ⟨some 92,.binOp .geq 2 (.tmp 83) (.tmp 91) 2,t31,q31,#[⟨22,.data⟩,⟨30,.data⟩,⟨13,.guard⟩],some (13,true)⟩,
 ⟨some 93,.pick (.tmp 74) (.tmp 92) (.const (.bool false)),t32,q32,#[⟨13,.data⟩,⟨31,.data⟩,⟨10,.guard⟩],some (10,false)⟩,
 ⟨some 94,.pick (.tmp 71) (.const (.bool true)) (.tmp 93),t33,q33,#[⟨10,.data⟩,⟨32,.data⟩],none⟩] true).wp Tryz.prog Q a0 w0:=by
 have hS:distS [some 61,some 62,some 63,some 64,some 65,some 66,some 67,some 68,some 69,some 70,some 71,some 72,some 73,some 74,some 75,some 76,some 77,some 78,some 79,some 80,some 81,some 82,some 83,some 84,some 85,some 86,some 87,some 88,some 89,some 90,some 91,some 92,some 93,some 94]=true:=rfl;refine wp_region_q (by kernel_rfl) w0.heap.size [some 61,some 62,some 63,some 64,some 65,some 66,some 67,some 68,some 69,some 70,some 71,some 72,some 73,some 74,some 75,some 76,some 77,some 78,some 79,some 80,some 81,some 82,some 83,some 84,some 85,some 86,some 87,some 88,some 89,some 90,some 91,some 92,some 93,some 94] (VevN_D n cap A off c m mc G ob k jj x y w0.heap.size) rfl ?_ ?_
 · intro Q lq aq W iq oq hJ2 hl ho hall;have z5:=hJ2.b;have g0:=hJ2.a h0
   have g3:=hJ2.a h3
   have g4:=hJ2.a h4
   have c0:=hJ2.c k0 l0;have c1:=hJ2.c k1 l1;have c2:=hJ2.c k2 l2
   clear hQ
   match iq,ho with
   | 0,ho=>
    cases ho;refine wpOp_of rfl rfl ?_;have hK:=hJ2.gO hS 0 61;generalize InvQ _ _ _ _ _ _=K at hK⊢;clear ho hall hl hJ2 hS;go_simp;exact hK _ rfl
   | 1,ho=>
    cases ho;refine wpOp_of rfl rfl ?_;have hK:=hJ2.gO hS 1 62;generalize InvQ _ _ _ _ _ _=K at hK⊢;clear ho hall hl hJ2 hS;go_simp;exact hK _ rfl
   | 2,ho=>
    cases ho;refine wpOp_of rfl rfl ?_;have f0:_=Value.slice (some ⟨A,off,none⟩) n cap:=hJ2.v hall 0 61;have f1:_=Value.int .i64 (c:Int):=hJ2.v hall 1 62;have hcI:(c:Int)<n:=by omega
    have hnI:(n:Int)≤200:=by omega
    have hK:=hJ2.gO hS 2 63;generalize InvQ _ _ _ _ _ _=K at hK⊢;clear ho hall hl hJ2 hS;go_simp;exact hK _ rfl
   | 3,ho=>
    cases ho;refine wpOp_of rfl rfl ?_;have f2:_=Value.pointer (some ⟨A,off+c*13,none⟩):=hJ2.v hall 2 63;have hK:=hJ2.gO hS 3 64;generalize InvQ _ _ _ _ _ _=K at hK⊢;clear ho hall hl hJ2 hS;go_simp;exact hK _ rfl
   | 4,ho=>
    cases ho;refine wpOp_of rfl rfl ?_;have f3:_=Value.pointer (some ⟨A,off+c*13+12,none⟩):=hJ2.v hall 3 64;have hK:=hJ2.gO hS 4 65;generalize InvQ _ _ _ _ _ _=K at hK⊢;clear ho hall hl hJ2 hS;go_simp;exact hK _ rfl
   | 5,ho=>
    cases ho;refine wpOp_of rfl rfl ?_;have hK:=hJ2.gO hS 5 66;generalize InvQ _ _ _ _ _ _=K at hK⊢;clear ho hall hl hJ2 hS;go_simp;exact hK _ rfl
   | 6,ho=>
    cases ho;refine wpOp_of rfl rfl ?_;have f4:_=Value.slice (some ⟨G,ob,none⟩) m mc:=hJ2.v hall 4 65;have f5:_=Value.int .i64 (k:Int):=hJ2.v hall 5 66;have hkI:(k:Int)<m:=by omega
    have hmI:(m:Int)≤1048576:=by omega
    have hK:=hJ2.gO hS 6 67;generalize InvQ _ _ _ _ _ _=K at hK⊢;clear ho hall hl hJ2 hS;go_simp;exact hK _ rfl
   | 7,ho=>
    cases ho;refine wpOp_of rfl rfl ?_;have f6:_=Value.pointer (some ⟨G,ob+k,none⟩):=hJ2.v hall 6 67;have hK:=hJ2.gO hS 7 68;generalize InvQ _ _ _ _ _ _=K at hK⊢;clear ho hall hl hJ2 hS;go_simp;exact hK _ rfl
   | 8,ho=>
    cases ho;refine wpOp_of rfl rfl ?_;have f7:_=Value.int .i64 x:=hJ2.v hall 7 68;have hK:=hJ2.go hS 8 69;generalize InvQ _ _ _ _ _ _=K at hK⊢;clear ho hall hl hJ2 hS;go_simp;refine(l1In_any x 0 39 true hx W).mono ?_;rintro e v1 ⟨rfl,hBv⟩;exact hK _ _ (z5.trans (hBv.mono z5.size)) (fun j v h=>h.mono hBv) rfl
   | 9,ho=>
    cases ho;refine wpOp_of rfl rfl ?_;have f8:_=Value.bool true:=hJ2.v hall 8 69;have hK:=hJ2.gO hS 9 70;generalize InvQ _ _ _ _ _ _=K at hK⊢;clear ho hall hl hJ2 hS;go_simp;exact hK _ rfl
   | 10,ho=>
    cases ho;refine wpOp_of rfl rfl ?_;have f9:_=Value.bool false:=hJ2.v hall 9 70;have hK:=hJ2.gO hS 10 71;generalize InvQ _ _ _ _ _ _=K at hK⊢;clear ho hall hl hJ2 hS;go_simp;exact hK _ rfl
   | 11,ho=>
    cases ho;have fg:aq.tmps.getD 71 undef= .bool false:=hJ2.v hall 10 71 .guard;refine wpOp_on rfl rfl rfl rfl fg ?_;have hK:=hJ2.gO hS 11 72;generalize InvQ _ _ _ _ _ _=K at hK⊢;clear ho hall hl hJ2 hS;go_simp;exact hK _ rfl
   | 12,ho=>
    cases ho;have fg:aq.tmps.getD 71 undef= .bool false:=hJ2.v hall 10 71 .guard;refine wpOp_on rfl rfl rfl rfl fg ?_;have f11:_=Value.int .i64 (k:Int):=hJ2.v hall 11 72;have hgt:(0:Int)<k:=by have ho:=hkj.out;omega
    have hK:=hJ2.go hS 12 73;generalize InvQ _ _ _ _ _ _=K at hK⊢;clear ho hall hl hJ2 hS;go_simp;exact hK _ _ z5 (fun _ _ h=>h) (by show _=_;exact congrArg Value.bool (decide_eq_true (by omega)))
   | 13,ho=>
    cases ho;have fg:aq.tmps.getD 71 undef= .bool false:=hJ2.v hall 10 71 .guard;refine wpOp_on rfl rfl rfl rfl fg ?_;have f12:_=Value.bool true:=hJ2.v hall 12 73;have hK:=hJ2.gO hS 13 74;generalize InvQ _ _ _ _ _ _=K at hK⊢;clear ho hall hl hJ2 hS;go_simp;exact hK _ rfl
   | 14,ho=>
    cases ho;have fg:aq.tmps.getD 74 undef= .bool true:=hJ2.v hall 13 74 .guard;refine wpOp_on rfl rfl rfl rfl fg ?_;have hK:=hJ2.gO hS 14 75;generalize InvQ _ _ _ _ _ _=K at hK⊢;clear ho hall hl hJ2 hS;go_simp;exact hK _ rfl
   | 15,ho=>
    cases ho;have fg:aq.tmps.getD 74 undef= .bool true:=hJ2.v hall 13 74 .guard;refine wpOp_on rfl rfl rfl rfl fg ?_;have hK:=hJ2.gO hS 15 76;generalize InvQ _ _ _ _ _ _=K at hK⊢;clear ho hall hl hJ2 hS;go_simp;exact hK _ rfl
   | 16,ho=>
    cases ho;have fg:aq.tmps.getD 74 undef= .bool true:=hJ2.v hall 13 74 .guard;refine wpOp_on rfl rfl rfl rfl fg ?_;have f14:_=Value.slice (some ⟨A,off,none⟩) n cap:=hJ2.v hall 14 75;have f15:_=Value.int .i64 (c:Int):=hJ2.v hall 15 76;have hcI:(c:Int)<n:=by omega
    have hnI:(n:Int)≤200:=by omega
    have hK:=hJ2.gO hS 16 77;generalize InvQ _ _ _ _ _ _=K at hK⊢;clear ho hall hl hJ2 hS;go_simp;exact hK _ rfl
   | 17,ho=>
    cases ho;have fg:aq.tmps.getD 74 undef= .bool true:=hJ2.v hall 13 74 .guard;refine wpOp_on rfl rfl rfl rfl fg ?_;have f16:_=Value.pointer (some ⟨A,off+c*13,none⟩):=hJ2.v hall 16 77;have hK:=hJ2.gO hS 17 78;generalize InvQ _ _ _ _ _ _=K at hK⊢;clear ho hall hl hJ2 hS;go_simp;exact hK _ rfl
   | 18,ho=>
    cases ho;have fg:aq.tmps.getD 74 undef= .bool true:=hJ2.v hall 13 74 .guard;refine wpOp_on rfl rfl rfl rfl fg ?_;have f17:_=Value.pointer (some ⟨A,off+c*13+12,none⟩):=hJ2.v hall 17 78;have hK:=hJ2.gO hS 18 79;generalize InvQ _ _ _ _ _ _=K at hK⊢;clear ho hall hl hJ2 hS;go_simp;exact hK _ rfl
   | 19,ho=>
    cases ho;have fg:aq.tmps.getD 74 undef= .bool true:=hJ2.v hall 13 74 .guard;refine wpOp_on rfl rfl rfl rfl fg ?_;have hK:=hJ2.gO hS 19 80;generalize InvQ _ _ _ _ _ _=K at hK⊢;clear ho hall hl hJ2 hS;go_simp;exact hK _ rfl
   | 20,ho=>
    cases ho;have fg:aq.tmps.getD 74 undef= .bool true:=hJ2.v hall 13 74 .guard;refine wpOp_on rfl rfl rfl rfl fg ?_;have f19:_=Value.int .i64 (k:Int):=hJ2.v hall 19 80;have hkI:(k:Int)<m:=by omega
    have hmI:(m:Int)≤1048576:=by omega
    have hkz:(k:Int)=jj+1:=by have ho:=hkj.out;omega
    have hwd:IntKind.i64.wrap (jj:Int)=jj:=by have ho:=hkj.out;rw[IntKind.wrap_i64];omega
    have hK:=hJ2.go hS 20 81;generalize InvQ _ _ _ _ _ _=K at hK⊢;clear ho hall hl hJ2 hS;go_simp;exact hK _ _ z5 (fun _ _ h=>h) (by show _=_;first | rfl | go_num)
   | 21,ho=>
    cases ho;have fg:aq.tmps.getD 74 undef= .bool true:=hJ2.v hall 13 74 .guard;refine wpOp_on rfl rfl rfl rfl fg ?_;have f18:_=Value.slice (some ⟨G,ob,none⟩) m mc:=hJ2.v hall 18 79;have f20:_=Value.int .i64 (jj:Int):=hJ2.v hall 20 81;have hjI:(jj:Int)<m:=by have ho:=hkj.out;omega
    have hmI:(m:Int)≤1048576:=by omega
    have hK:=hJ2.gO hS 21 82;generalize InvQ _ _ _ _ _ _=K at hK⊢;clear ho hall hl hJ2 hS;go_simp;exact hK _ rfl
   | 22,ho=>
    cases ho;have fg:aq.tmps.getD 74 undef= .bool true:=hJ2.v hall 13 74 .guard;refine wpOp_on rfl rfl rfl rfl fg ?_;have f21:_=Value.pointer (some ⟨G,ob+jj,none⟩):=hJ2.v hall 21 82;have hK:=hJ2.gO hS 22 83;generalize InvQ _ _ _ _ _ _=K at hK⊢;clear ho hall hl hJ2 hS;go_simp;exact hK _ rfl
   | 23,ho=>
    cases ho;have fg:aq.tmps.getD 74 undef= .bool true:=hJ2.v hall 13 74 .guard;refine wpOp_on rfl rfl rfl rfl fg ?_;have hK:=hJ2.gO hS 23 84;generalize InvQ _ _ _ _ _ _=K at hK⊢;clear ho hall hl hJ2 hS;go_simp;exact hK _ rfl
   | 24,ho=>
    cases ho;have fg:aq.tmps.getD 74 undef= .bool true:=hJ2.v hall 13 74 .guard;refine wpOp_on rfl rfl rfl rfl fg ?_;have hK:=hJ2.gO hS 24 85;generalize InvQ _ _ _ _ _ _=K at hK⊢;clear ho hall hl hJ2 hS;go_simp;exact hK _ rfl
   | 25,ho=>
    cases ho;have fg:aq.tmps.getD 74 undef= .bool true:=hJ2.v hall 13 74 .guard;refine wpOp_on rfl rfl rfl rfl fg ?_;have f23:_=Value.slice (some ⟨A,off,none⟩) n cap:=hJ2.v hall 23 84;have f24:_=Value.int .i64 (c:Int):=hJ2.v hall 24 85;have hcI:(c:Int)<n:=by omega
    have hnI:(n:Int)≤200:=by omega
    have hK:=hJ2.gO hS 25 86;generalize InvQ _ _ _ _ _ _=K at hK⊢;clear ho hall hl hJ2 hS;go_simp;exact hK _ rfl
   | 26,ho=>
    cases ho;have fg:aq.tmps.getD 74 undef= .bool true:=hJ2.v hall 13 74 .guard;refine wpOp_on rfl rfl rfl rfl fg ?_;have f25:_=Value.pointer (some ⟨A,off+c*13,none⟩):=hJ2.v hall 25 86;have hK:=hJ2.gO hS 26 87;generalize InvQ _ _ _ _ _ _=K at hK⊢;clear ho hall hl hJ2 hS;go_simp;exact hK _ rfl
   | 27,ho=>
    cases ho;have fg:aq.tmps.getD 74 undef= .bool true:=hJ2.v hall 13 74 .guard;refine wpOp_on rfl rfl rfl rfl fg ?_;have f26:_=Value.pointer (some ⟨A,off+c*13+12,none⟩):=hJ2.v hall 26 87;have hK:=hJ2.gO hS 27 88;generalize InvQ _ _ _ _ _ _=K at hK⊢;clear ho hall hl hJ2 hS;go_simp;exact hK _ rfl
   | 28,ho=>
    cases ho;have fg:aq.tmps.getD 74 undef= .bool true:=hJ2.v hall 13 74 .guard;refine wpOp_on rfl rfl rfl rfl fg ?_;have hK:=hJ2.gO hS 28 89;generalize InvQ _ _ _ _ _ _=K at hK⊢;clear ho hall hl hJ2 hS;go_simp;exact hK _ rfl
   | 29,ho=>
    cases ho;have fg:aq.tmps.getD 74 undef= .bool true:=hJ2.v hall 13 74 .guard;refine wpOp_on rfl rfl rfl rfl fg ?_;have f27:_=Value.slice (some ⟨G,ob,none⟩) m mc:=hJ2.v hall 27 88;have f28:_=Value.int .i64 (k:Int):=hJ2.v hall 28 89;have hkI:(k:Int)<m:=by omega
    have hmI:(m:Int)≤1048576:=by omega
    have hK:=hJ2.gO hS 29 90;generalize InvQ _ _ _ _ _ _=K at hK⊢;clear ho hall hl hJ2 hS;go_simp;exact hK _ rfl
   | 30,ho=>
    cases ho;have fg:aq.tmps.getD 74 undef= .bool true:=hJ2.v hall 13 74 .guard;refine wpOp_on rfl rfl rfl rfl fg ?_;have f29:_=Value.pointer (some ⟨G,ob+k,none⟩):=hJ2.v hall 29 90;have hK:=hJ2.gO hS 30 91;generalize InvQ _ _ _ _ _ _=K at hK⊢;clear ho hall hl hJ2 hS;go_simp;exact hK _ rfl
   | 31,ho=>
    cases ho;have fg:aq.tmps.getD 74 undef= .bool true:=hJ2.v hall 13 74 .guard;refine wpOp_on rfl rfl rfl rfl fg ?_;have f22:_=Value.int .i64 y:=hJ2.v hall 22 83;have f30:_=Value.int .i64 x:=hJ2.v hall 30 91;have hK:=hJ2.go hS 31 92;generalize InvQ _ _ _ _ _ _=K at hK⊢;clear ho hall hl hJ2 hS;go_simp;exact hK _ _ z5 (fun _ _ h=>h) (by show _=_;first | rfl | simp)
   | 32,ho=>
    cases ho;have fg:aq.tmps.getD 71 undef= .bool false:=hJ2.v hall 10 71 .guard;refine wpOp_on rfl rfl rfl rfl fg ?_;have f13:_=Value.bool true:=hJ2.v hall 13 74;have f31:_=Value.bool (decide (x≤y)):=hJ2.v hall 31 92;have hK:=hJ2.gO hS 32 93;generalize InvQ _ _ _ _ _ _=K at hK⊢;clear ho hall hl hJ2 hS;go_simp;exact hK _ rfl
   | 33,ho=>
    cases ho;refine wpOp_of rfl rfl ?_;have f10:_=Value.bool false:=hJ2.v hall 10 71;have f32:_=Value.bool (decide (x≤y)):=hJ2.v hall 32 93;have hK:=hJ2.gO hS 33 94;generalize InvQ _ _ _ _ _ _=K at hK⊢;clear ho hall hl hJ2 hS;go_simp;exact hK _ rfl
   | iq+34,ho=>simp at ho
 · intro lq aq W hJ hr;obtain⟨z1,z2,z3,z4,z5,z6,z7⟩:=hJ;have hl:=listed_of hr [0,1,2,3,4,5,6,7,8,9,10,11,12,13,14,15,16,17,18,19,20,21,22,23,24,25,26,27,28,29,30,31,32,33] [] (by simp) (by kernel_rfl) (by rw[z1];decide);exact hQ aq W z2 z3 (fun e he=>z4 e (by simpa using he)) (z6 33 94 (hl 33 (by simp)) rfl) z5
def VevI_A (Be:Nat) (x y z:Int) (_B:Nat):Nat→Value→World→Prop
 | 0,v,_=>v= .pointer (some ⟨Be,0,none⟩)
 | 1,v,_=>v=PV x y z
 | 2,v,_=>v= .bool (ptB x y z)
 | 3,v,_=>v= .bool true
 | 4,v,_=>v= .bool true
 | 5,v,_=>v=undef
 | 6,v,_=>v=undef
 | 7,v,_=>v=undef
 | 8,v,_=>v=undef
 | 9,v,_=>v= .bool true
 | 10,v,_=>v= .bool true
 | 11,v,_=>v=undef
 | 12,v,_=>v=undef
 | 13,v,_=>v=undef
 | 14,v,_=>v=undef
 | 15,v,_=>v=undef
 | 16,v,_=>v=undef
 | 17,v,_=>v=undef
 | 18,v,_=>v=undef
 | 19,v,_=>v=undef
 | 20,v,_=>v=undef
 | 21,v,_=>v=undef
 | 22,v,_=>v=undef
 | 23,v,_=>v=undef
 | 24,v,_=>v=undef
 | 25,v,_=>v= .bool true
 | _,_,_=>True
theorem VevI_A.mono {Be:Nat} {x y z:Int} {B j:Nat} {v:Value} {W W2:World} (_hB:Below W.heap.size W W2) (h:VevI_A Be x y z B j v W):VevI_A Be x y z B j v W2:=by
 unfold VevI_A at *
 split<;>simp only at h<;>first | exact h | trivial
theorem evI_A {Q:Exit→Act→World→Prop} {Be:Nat} {x y z:Int} {c m mc:Nat} {eo:Option Addr} {w0:World} {a0:Act} {idq:Nat} {t0 t1 t2 t3 t4 t5 t6 t7 t8 t9 t10 t11 t12 t13 t14 t15 t16 t17 t18 t19 t20 t21 t22 t23 t24 t25:TypeId} {q0 q1 q2 q3 q4 q5 q6 q7 q8 q9 q10 q11 q12 q13 q14 q15 q16 q17 q18 q19 q20 q21 q22 q23 q24 q25:String}
 (ta:told x=true) (tb:told y=true) (tc:told z=true) (hp:ptB x y z=false) (h3:a0.tmps[3]? =some (.int .i64 (c:Int))) (h4:a0.tmps[4]? =some (.pointer (some ⟨Be,0,none⟩))) (k0:w0.cell? ⟨Be,0,none⟩=some (.int .u64 (ww3 x))) (l0:(⟨Be,0,none⟩:Addr).block<w0.heap.size) (k1:w0.cell? ⟨Be,1,none⟩=some (.int .u64 (ww2 x))) (l1:(⟨Be,1,none⟩:Addr).block<w0.heap.size) (k2:w0.cell? ⟨Be,2,none⟩=some (.int .u64 (ww1 x))) (l2:(⟨Be,2,none⟩:Addr).block<w0.heap.size) (k3:w0.cell? ⟨Be,3,none⟩=some (.int .u64 (ww0 x))) (l3:(⟨Be,3,none⟩:Addr).block<w0.heap.size) (k4:w0.cell? ⟨Be,4,none⟩=some (.int .u64 (ww3 y))) (l4:(⟨Be,4,none⟩:Addr).block<w0.heap.size) (k5:w0.cell? ⟨Be,5,none⟩=some (.int .u64 (ww2 y))) (l5:(⟨Be,5,none⟩:Addr).block<w0.heap.size) (k6:w0.cell? ⟨Be,6,none⟩=some (.int .u64 (ww1 y))) (l6:(⟨Be,6,none⟩:Addr).block<w0.heap.size) (k7:w0.cell? ⟨Be,7,none⟩=some (.int .u64 (ww0 y))) (l7:(⟨Be,7,none⟩:Addr).block<w0.heap.size) (k8:w0.cell? ⟨Be,8,none⟩=some (.int .u64 (ww3 z))) (l8:(⟨Be,8,none⟩:Addr).block<w0.heap.size) (k9:w0.cell? ⟨Be,9,none⟩=some (.int .u64 (ww2 z))) (l9:(⟨Be,9,none⟩:Addr).block<w0.heap.size) (k10:w0.cell? ⟨Be,10,none⟩=some (.int .u64 (ww1 z))) (l10:(⟨Be,10,none⟩:Addr).block<w0.heap.size) (k11:w0.cell? ⟨Be,11,none⟩=some (.int .u64 (ww0 z))) (l11:(⟨Be,11,none⟩:Addr).block<w0.heap.size) (k12:w0.cell? ⟨Be,12,none⟩=some (.slice eo m mc)) (l12:(⟨Be,12,none⟩:Addr).block<w0.heap.size) (hz:a0.tmps.size=42)
 (hQ:∀aq W,aq.tmps.size=a0.tmps.size→aq.defers=a0.defers→(∀e,e∉([15,16,17,18,19,20,21,22,23,24,25,26,27,28,29,30,31,32,33,34,35,36,37,38,39,40]:List Nat)→aq.tmps[e]? =a0.tmps[e]?)→VevI_A Be x y z w0.heap.size 25 (aq.tmps.getD 40 undef) W→Below w0.heap.size w0 W→Q .normal aq W) :
 (Code.region idq #[⟨some 15,.fieldAddr 37 (.tmp 4) 0,t0,q0,#[],none⟩,
 ⟨some 16,.load 29 (.tmp 15),t1,q1,#[⟨0,.data⟩],none⟩,
 ⟨some 17,.call {callee:= .value (.func 19),args:=#[.tmp 16],argTypes:=#[29]},t2,q2,#[⟨1,.data⟩],none⟩,
 ⟨some 18,.unOp .not 4 (.tmp 17),t3,q3,#[⟨2,.data⟩],none⟩,
 ⟨some 19,.move (.tmp 18),t4,q4,#[⟨3,.data⟩,⟨2,.chain⟩],none⟩,
 ⟨some 20,.fieldAddr 37 (.tmp 4) 1,t5,q5,#[⟨4,.guard⟩],some (4,false)⟩,
 ⟨some 21,.load 35 (.tmp 20),t6,q6,#[⟨5,.data⟩,⟨4,.guard⟩],some (4,false)⟩,
 ⟨some 22,.call {callee:= .value (.func 34),args:=#[.tmp 21],argTypes:=#[35]},t7,q7,#[⟨6,.data⟩,⟨4,.chain⟩,⟨4,.guard⟩],some (4,false)⟩,
 ⟨some 23,.unOp .not 4 (.tmp 22),t8,q8,#[⟨7,.data⟩,⟨4,.guard⟩],some (4,false)⟩,
 ⟨some 24,.pick (.tmp 19) (.const (.bool true)) (.tmp 23),t9,q9,#[⟨4,.data⟩,⟨8,.data⟩],none⟩,
 ⟨some 25,.move (.tmp 24),t10,q10,#[⟨9,.data⟩,⟨7,.chain⟩],none⟩,
 ⟨some 26,.move (.tmp 3),t11,q11,#[⟨10,.guard⟩],some (10,false)⟩,
 ⟨some 27,.binOp .gtr 3 (.tmp 26) (.const (.int .i64 0)) 3,t12,q12,#[⟨11,.data⟩,⟨10,.guard⟩],some (10,false)⟩,
 ⟨some 28,.move (.tmp 27),t13,q13,#[⟨12,.data⟩,⟨10,.chain⟩,⟨10,.guard⟩],some (10,false)⟩,
 ⟨some 29,.move (.tmp 0),t14,q14,#[⟨13,.guard⟩],some (13,true)⟩,
 ⟨some 30,.move (.tmp 3),t15,q15,#[⟨13,.guard⟩],some (13,true)⟩,
 ⟨some 31,.binOp .sub 3 (.tmp 30) (.const (.int .i64 1)) 3,t16,q16,#[⟨15,.data⟩,⟨13,.guard⟩],some (13,true)⟩,
 ⟨some 32,.indexAddr 24 (.tmp 29) (.tmp 31),t17,q17,#[⟨14,.data⟩,⟨16,.data⟩,⟨13,.guard⟩],some (13,true)⟩,
 ⟨some 33,.fieldAddr 37 (.tmp 32) 0,t18,q18,#[⟨17,.data⟩,⟨13,.guard⟩],some (13,true)⟩,
 ⟨some 34,.load 29 (.tmp 33),t19,q19,#[⟨18,.data⟩,⟨13,.guard⟩],some (13,true)⟩,
 ⟨some 35,.fieldAddr 37 (.tmp 4) 0,t20,q20,#[⟨13,.guard⟩],some (13,true)⟩,
 ⟨some 36,.load 29 (.tmp 35),t21,q21,#[⟨20,.data⟩,⟨13,.guard⟩],some (13,true)⟩,
 ⟨some 37,.call {callee:= .value (.func 35),args:=#[.tmp 34,.tmp 36],argTypes:=#[29,29]},t22,q22,#[⟨19,.data⟩,⟨21,.data⟩,⟨13,.chain⟩,⟨13,.guard⟩],some (13,true)⟩,
 ⟨some 38,.binOp .geq 2 (.tmp 37) (.const (.int .i64 0)) 2,t23,q23,#[⟨22,.data⟩,⟨13,.guard⟩],some (13,true)⟩,
 ⟨some 39,.pick (.tmp 28) (.tmp 38) (.const (.bool false)),t24,q24,#[⟨13,.data⟩,⟨23,.data⟩,⟨10,.guard⟩],some (10,false)⟩,
 ⟨some 40,.pick (.tmp 25) (.const (.bool true)) (.tmp 39),t25,q25,#[⟨10,.data⟩,⟨24,.data⟩],none⟩] true).wp Tryz.prog Q a0 w0:=by
 have hS:distS [some 15,some 16,some 17,some 18,some 19,some 20,some 21,some 22,some 23,some 24,some 25,some 26,some 27,some 28,some 29,some 30,some 31,some 32,some 33,some 34,some 35,some 36,some 37,some 38,some 39,some 40]=true:=rfl;refine wp_region_q (by kernel_rfl) w0.heap.size [some 15,some 16,some 17,some 18,some 19,some 20,some 21,some 22,some 23,some 24,some 25,some 26,some 27,some 28,some 29,some 30,some 31,some 32,some 33,some 34,some 35,some 36,some 37,some 38,some 39,some 40] (VevI_A Be x y z w0.heap.size) rfl ?_ ?_
 · intro Q lq aq W iq oq hJ2 hl ho hall;have z5:=hJ2.b;have g3:=hJ2.a h3
   have g4:=hJ2.a h4
   have c0:=hJ2.c k0 l0;have c1:=hJ2.c k1 l1;have c2:=hJ2.c k2 l2;have c3:=hJ2.c k3 l3;have c4:=hJ2.c k4 l4;have c5:=hJ2.c k5 l5;have c6:=hJ2.c k6 l6;have c7:=hJ2.c k7 l7;have c8:=hJ2.c k8 l8;have c9:=hJ2.c k9 l9;have c10:=hJ2.c k10 l10;have c11:=hJ2.c k11 l11;have c12:=hJ2.c k12 l12
   clear hQ
   match iq,ho with
   | 0,ho=>
    cases ho;refine wpOp_of rfl rfl ?_;have hK:=hJ2.gO hS 0 15;generalize InvQ _ _ _ _ _ _=K at hK⊢;clear ho hall hl hJ2 hS;go_simp;exact hK _ rfl
   | 1,ho=>
    cases ho;refine wpOp_of rfl rfl ?_;have f0:_=Value.pointer (some ⟨Be,0,none⟩):=hJ2.v hall 0 15;have hK:=hJ2.gO hS 1 16;generalize InvQ _ _ _ _ _ _=K at hK⊢;clear ho hall hl hJ2 hS;go_simp;exact hK _ rfl
   | 2,ho=>
    cases ho;refine wpOp_of rfl rfl ?_;have f1:_=PV x y z:=hJ2.v hall 1 16;have hK:=hJ2.go hS 2 17;generalize InvQ _ _ _ _ _ _=K at hK⊢;clear ho hall hl hJ2 hS;go_simp;refine(pright_det x y z ta tb tc W).mono ?_;rintro e v1 ⟨rfl,hBv⟩;exact hK _ _ (z5.trans (hBv.mono z5.size)) (fun j v h=>h.mono hBv) rfl
   | 3,ho=>
    cases ho;refine wpOp_of rfl rfl ?_;have f2:_=Value.bool (ptB x y z):=hJ2.v hall 2 17;rw[hp] at f2;have hK:=hJ2.gO hS 3 18;generalize InvQ _ _ _ _ _ _=K at hK⊢;clear ho hall hl hJ2 hS;go_simp;exact hK _ rfl
   | 4,ho=>
    cases ho;refine wpOp_of rfl rfl ?_;have f3:_=Value.bool true:=hJ2.v hall 3 18;have hK:=hJ2.gO hS 4 19;generalize InvQ _ _ _ _ _ _=K at hK⊢;clear ho hall hl hJ2 hS;go_simp;exact hK _ rfl
   | 5,ho=>
    cases ho;have fg:aq.tmps.getD 19 undef= .bool true:=hJ2.v hall 4 19 .guard;refine wpOp_off rfl rfl rfl rfl fg ?_;exact hJ2.put hS 5 20 rfl (by omega) z5 (fun _ _ h=>h) undef rfl
   | 6,ho=>
    cases ho;have fg:aq.tmps.getD 19 undef= .bool true:=hJ2.v hall 4 19 .guard;refine wpOp_off rfl rfl rfl rfl fg ?_;exact hJ2.put hS 6 21 rfl (by omega) z5 (fun _ _ h=>h) undef rfl
   | 7,ho=>
    cases ho;have fg:aq.tmps.getD 19 undef= .bool true:=hJ2.v hall 4 19 .guard;refine wpOp_off rfl rfl rfl rfl fg ?_;exact hJ2.put hS 7 22 rfl (by omega) z5 (fun _ _ h=>h) undef rfl
   | 8,ho=>
    cases ho;have fg:aq.tmps.getD 19 undef= .bool true:=hJ2.v hall 4 19 .guard;refine wpOp_off rfl rfl rfl rfl fg ?_;exact hJ2.put hS 8 23 rfl (by omega) z5 (fun _ _ h=>h) undef rfl
   | 9,ho=>
    cases ho;refine wpOp_of rfl rfl ?_;have f4:_=Value.bool true:=hJ2.v hall 4 19;have f8:_=undef:=hJ2.v hall 8 23;have hK:=hJ2.gO hS 9 24;generalize InvQ _ _ _ _ _ _=K at hK⊢;clear ho hall hl hJ2 hS;go_simp;exact hK _ rfl
   | 10,ho=>
    cases ho;refine wpOp_of rfl rfl ?_;have f9:_=Value.bool true:=hJ2.v hall 9 24;have hK:=hJ2.gO hS 10 25;generalize InvQ _ _ _ _ _ _=K at hK⊢;clear ho hall hl hJ2 hS;go_simp;exact hK _ rfl
   | 11,ho=>
    cases ho;have fg:aq.tmps.getD 25 undef= .bool true:=hJ2.v hall 10 25 .guard;refine wpOp_off rfl rfl rfl rfl fg ?_;exact hJ2.put hS 11 26 rfl (by omega) z5 (fun _ _ h=>h) undef rfl
   | 12,ho=>
    cases ho;have fg:aq.tmps.getD 25 undef= .bool true:=hJ2.v hall 10 25 .guard;refine wpOp_off rfl rfl rfl rfl fg ?_;exact hJ2.put hS 12 27 rfl (by omega) z5 (fun _ _ h=>h) undef rfl
   | 13,ho=>
    cases ho;have fg:aq.tmps.getD 25 undef= .bool true:=hJ2.v hall 10 25 .guard;refine wpOp_off rfl rfl rfl rfl fg ?_;exact hJ2.put hS 13 28 rfl (by omega) z5 (fun _ _ h=>h) undef rfl
   | 14,ho=>
    cases ho;have fg:aq.tmps.getD 28 undef=undef:=hJ2.v hall 13 28 .guard;refine wpOp_offu rfl rfl rfl rfl fg ?_;exact hJ2.put hS 14 29 rfl (by omega) z5 (fun _ _ h=>h) undef rfl
   | 15,ho=>
    cases ho;have fg:aq.tmps.getD 28 undef=undef:=hJ2.v hall 13 28 .guard;refine wpOp_offu rfl rfl rfl rfl fg ?_;exact hJ2.put hS 15 30 rfl (by omega) z5 (fun _ _ h=>h) undef rfl
   | 16,ho=>
    cases ho;have fg:aq.tmps.getD 28 undef=undef:=hJ2.v hall 13 28 .guard;refine wpOp_offu rfl rfl rfl rfl fg ?_;exact hJ2.put hS 16 31 rfl (by omega) z5 (fun _ _ h=>h) undef rfl
   | 17,ho=>
    cases ho;have fg:aq.tmps.getD 28 undef=undef:=hJ2.v hall 13 28 .guard;refine wpOp_offu rfl rfl rfl rfl fg ?_;exact hJ2.put hS 17 32 rfl (by omega) z5 (fun _ _ h=>h) undef rfl
   | 18,ho=>
    cases ho;have fg:aq.tmps.getD 28 undef=undef:=hJ2.v hall 13 28 .guard;refine wpOp_offu rfl rfl rfl rfl fg ?_;exact hJ2.put hS 18 33 rfl (by omega) z5 (fun _ _ h=>h) undef rfl
   | 19,ho=>
    cases ho;have fg:aq.tmps.getD 28 undef=undef:=hJ2.v hall 13 28 .guard;refine wpOp_offu rfl rfl rfl rfl fg ?_;exact hJ2.put hS 19 34 rfl (by omega) z5 (fun _ _ h=>h) undef rfl
   | 20,ho=>
    cases ho;have fg:aq.tmps.getD 28 undef=undef:=hJ2.v hall 13 28 .guard;refine wpOp_offu rfl rfl rfl rfl fg ?_;exact hJ2.put hS 20 35 rfl (by omega) z5 (fun _ _ h=>h) undef rfl
   | 21,ho=>
    cases ho;have fg:aq.tmps.getD 28 undef=undef:=hJ2.v hall 13 28 .guard;refine wpOp_offu rfl rfl rfl rfl fg ?_;exact hJ2.put hS 21 36 rfl (by omega) z5 (fun _ _ h=>h) undef rfl
   | 22,ho=>
    cases ho;have fg:aq.tmps.getD 28 undef=undef:=hJ2.v hall 13 28 .guard;refine wpOp_offu rfl rfl rfl rfl fg ?_;exact hJ2.put hS 22 37 rfl (by omega) z5 (fun _ _ h=>h) undef rfl
   | 23,ho=>
    cases ho;have fg:aq.tmps.getD 28 undef=undef:=hJ2.v hall 13 28 .guard;refine wpOp_offu rfl rfl rfl rfl fg ?_;exact hJ2.put hS 23 38 rfl (by omega) z5 (fun _ _ h=>h) undef rfl
   | 24,ho=>
    cases ho;have fg:aq.tmps.getD 25 undef= .bool true:=hJ2.v hall 10 25 .guard;refine wpOp_off rfl rfl rfl rfl fg ?_;exact hJ2.put hS 24 39 rfl (by omega) z5 (fun _ _ h=>h) undef rfl
   | 25,ho=>
    cases ho;refine wpOp_of rfl rfl ?_;have f10:_=Value.bool true:=hJ2.v hall 10 25;have f24:_=undef:=hJ2.v hall 24 39;have hK:=hJ2.gO hS 25 40;generalize InvQ _ _ _ _ _ _=K at hK⊢;clear ho hall hl hJ2 hS;go_simp;exact hK _ rfl
   | iq+26,ho=>simp at ho
 · intro lq aq W hJ hr;obtain⟨z1,z2,z3,z4,z5,z6,z7⟩:=hJ;have hl:=listed_of hr [0,1,2,3,4,5,6,7,8,9,10,11,12,13,14,15,16,17,18,19,20,21,22,23,24,25] [] (by simp) (by kernel_rfl) (by rw[z1];decide);exact hQ aq W z2 z3 (fun e he=>z4 e (by simpa using he)) (z6 25 40 (hl 25 (by simp)) rfl) z5
def VevI_B (m mc:Nat) (Be:Nat) (eo:Option Addr) (x y z:Int) (_B:Nat):Nat→Value→World→Prop
 | 0,v,_=>v= .pointer (some ⟨Be,0,none⟩)
 | 1,v,_=>v=PV x y z
 | 2,v,_=>v= .bool (ptB x y z)
 | 3,v,_=>v= .bool false
 | 4,v,_=>v= .bool false
 | 5,v,_=>v= .pointer (some ⟨Be,12,none⟩)
 | 6,v,_=>v= .slice eo m mc
 | 7,v,_=>v= .bool false
 | 8,v,_=>v= .bool true
 | 9,v,_=>v= .bool true
 | 10,v,_=>v= .bool true
 | 11,v,_=>v=undef
 | 12,v,_=>v=undef
 | 13,v,_=>v=undef
 | 14,v,_=>v=undef
 | 15,v,_=>v=undef
 | 16,v,_=>v=undef
 | 17,v,_=>v=undef
 | 18,v,_=>v=undef
 | 19,v,_=>v=undef
 | 20,v,_=>v=undef
 | 21,v,_=>v=undef
 | 22,v,_=>v=undef
 | 23,v,_=>v=undef
 | 24,v,_=>v=undef
 | 25,v,_=>v= .bool true
 | _,_,_=>True
theorem VevI_B.mono {m mc:Nat} {Be:Nat} {eo:Option Addr} {x y z:Int} {B j:Nat} {v:Value} {W W2:World} (_hB:Below W.heap.size W W2) (h:VevI_B m mc Be eo x y z B j v W):VevI_B m mc Be eo x y z B j v W2:=by
 unfold VevI_B at *
 split<;>simp only at h<;>first | exact h | trivial
theorem evI_B {Q:Exit→Act→World→Prop} {m mc:Nat} {Be:Nat} {eo:Option Addr} {x y z:Int} {c:Nat} {xs:Nat→Int} {w0:World} {a0:Act} {idq:Nat} {t0 t1 t2 t3 t4 t5 t6 t7 t8 t9 t10 t11 t12 t13 t14 t15 t16 t17 t18 t19 t20 t21 t22 t23 t24 t25:TypeId} {q0 q1 q2 q3 q4 q5 q6 q7 q8 q9 q10 q11 q12 q13 q14 q15 q16 q17 q18 q19 q20 q21 q22 q23 q24 q25:String}
 (ta:told x=true) (tb:told y=true) (tc:told z=true) (hp:ptB x y z=true) (hNo:NoIn w0 eo m xs) (hre:∀W,NoIn W eo m xs→Calls Tryz.prog 34 #[.slice eo m mc] W (VP (.bool false) W)) (h3:a0.tmps[3]? =some (.int .i64 (c:Int))) (h4:a0.tmps[4]? =some (.pointer (some ⟨Be,0,none⟩))) (k0:w0.cell? ⟨Be,0,none⟩=some (.int .u64 (ww3 x))) (l0:(⟨Be,0,none⟩:Addr).block<w0.heap.size) (k1:w0.cell? ⟨Be,1,none⟩=some (.int .u64 (ww2 x))) (l1:(⟨Be,1,none⟩:Addr).block<w0.heap.size) (k2:w0.cell? ⟨Be,2,none⟩=some (.int .u64 (ww1 x))) (l2:(⟨Be,2,none⟩:Addr).block<w0.heap.size) (k3:w0.cell? ⟨Be,3,none⟩=some (.int .u64 (ww0 x))) (l3:(⟨Be,3,none⟩:Addr).block<w0.heap.size) (k4:w0.cell? ⟨Be,4,none⟩=some (.int .u64 (ww3 y))) (l4:(⟨Be,4,none⟩:Addr).block<w0.heap.size) (k5:w0.cell? ⟨Be,5,none⟩=some (.int .u64 (ww2 y))) (l5:(⟨Be,5,none⟩:Addr).block<w0.heap.size) (k6:w0.cell? ⟨Be,6,none⟩=some (.int .u64 (ww1 y))) (l6:(⟨Be,6,none⟩:Addr).block<w0.heap.size) (k7:w0.cell? ⟨Be,7,none⟩=some (.int .u64 (ww0 y))) (l7:(⟨Be,7,none⟩:Addr).block<w0.heap.size) (k8:w0.cell? ⟨Be,8,none⟩=some (.int .u64 (ww3 z))) (l8:(⟨Be,8,none⟩:Addr).block<w0.heap.size) (k9:w0.cell? ⟨Be,9,none⟩=some (.int .u64 (ww2 z))) (l9:(⟨Be,9,none⟩:Addr).block<w0.heap.size) (k10:w0.cell? ⟨Be,10,none⟩=some (.int .u64 (ww1 z))) (l10:(⟨Be,10,none⟩:Addr).block<w0.heap.size) (k11:w0.cell? ⟨Be,11,none⟩=some (.int .u64 (ww0 z))) (l11:(⟨Be,11,none⟩:Addr).block<w0.heap.size) (k12:w0.cell? ⟨Be,12,none⟩=some (.slice eo m mc)) (l12:(⟨Be,12,none⟩:Addr).block<w0.heap.size) (hz:a0.tmps.size=42)
 (hQ:∀aq W,aq.tmps.size=a0.tmps.size→aq.defers=a0.defers→(∀e,e∉([15,16,17,18,19,20,21,22,23,24,25,26,27,28,29,30,31,32,33,34,35,36,37,38,39,40]:List Nat)→aq.tmps[e]? =a0.tmps[e]?)→VevI_B m mc Be eo x y z w0.heap.size 25 (aq.tmps.getD 40 undef) W→Below w0.heap.size w0 W→Q .normal aq W) :
 (Code.region idq #[⟨some 15,.fieldAddr 37 (.tmp 4) 0,t0,q0,#[],none⟩,
 ⟨some 16,.load 29 (.tmp 15),t1,q1,#[⟨0,.data⟩],none⟩,
 ⟨some 17,.call {callee:= .value (.func 19),args:=#[.tmp 16],argTypes:=#[29]},t2,q2,#[⟨1,.data⟩],none⟩,
 ⟨some 18,.unOp .not 4 (.tmp 17),t3,q3,#[⟨2,.data⟩],none⟩,
 ⟨some 19,.move (.tmp 18),t4,q4,#[⟨3,.data⟩,⟨2,.chain⟩],none⟩,
 ⟨some 20,.fieldAddr 37 (.tmp 4) 1,t5,q5,#[⟨4,.guard⟩],some (4,false)⟩,
 ⟨some 21,.load 35 (.tmp 20),t6,q6,#[⟨5,.data⟩,⟨4,.guard⟩],some (4,false)⟩,
 ⟨some 22,.call {callee:= .value (.func 34),args:=#[.tmp 21],argTypes:=#[35]},t7,q7,#[⟨6,.data⟩,⟨4,.chain⟩,⟨4,.guard⟩],some (4,false)⟩,
 ⟨some 23,.unOp .not 4 (.tmp 22),t8,q8,#[⟨7,.data⟩,⟨4,.guard⟩],some (4,false)⟩,
 ⟨some 24,.pick (.tmp 19) (.const (.bool true)) (.tmp 23),t9,q9,#[⟨4,.data⟩,⟨8,.data⟩],none⟩,
 ⟨some 25,.move (.tmp 24),t10,q10,#[⟨9,.data⟩,⟨7,.chain⟩],none⟩,
 ⟨some 26,.move (.tmp 3),t11,q11,#[⟨10,.guard⟩],some (10,false)⟩,
 ⟨some 27,.binOp .gtr 3 (.tmp 26) (.const (.int .i64 0)) 3,t12,q12,#[⟨11,.data⟩,⟨10,.guard⟩],some (10,false)⟩,
 ⟨some 28,.move (.tmp 27),t13,q13,#[⟨12,.data⟩,⟨10,.chain⟩,⟨10,.guard⟩],some (10,false)⟩,
 ⟨some 29,.move (.tmp 0),t14,q14,#[⟨13,.guard⟩],some (13,true)⟩,
 ⟨some 30,.move (.tmp 3),t15,q15,#[⟨13,.guard⟩],some (13,true)⟩,
 ⟨some 31,.binOp .sub 3 (.tmp 30) (.const (.int .i64 1)) 3,t16,q16,#[⟨15,.data⟩,⟨13,.guard⟩],some (13,true)⟩,
 ⟨some 32,.indexAddr 24 (.tmp 29) (.tmp 31),t17,q17,#[⟨14,.data⟩,⟨16,.data⟩,⟨13,.guard⟩],some (13,true)⟩,
 ⟨some 33,.fieldAddr 37 (.tmp 32) 0,t18,q18,#[⟨17,.data⟩,⟨13,.guard⟩],some (13,true)⟩,
 ⟨some 34,.load 29 (.tmp 33),t19,q19,#[⟨18,.data⟩,⟨13,.guard⟩],some (13,true)⟩,
 ⟨some 35,.fieldAddr 37 (.tmp 4) 0,t20,q20,#[⟨13,.guard⟩],some (13,true)⟩,
 ⟨some 36,.load 29 (.tmp 35),t21,q21,#[⟨20,.data⟩,⟨13,.guard⟩],some (13,true)⟩,
 ⟨some 37,.call {callee:= .value (.func 35),args:=#[.tmp 34,.tmp 36],argTypes:=#[29,29]},t22,q22,#[⟨19,.data⟩,⟨21,.data⟩,⟨13,.chain⟩,⟨13,.guard⟩],some (13,true)⟩,
 ⟨some 38,.binOp .geq 2 (.tmp 37) (.const (.int .i64 0)) 2,t23,q23,#[⟨22,.data⟩,⟨13,.guard⟩],some (13,true)⟩,
 ⟨some 39,.pick (.tmp 28) (.tmp 38) (.const (.bool false)),t24,q24,#[⟨13,.data⟩,⟨23,.data⟩,⟨10,.guard⟩],some (10,false)⟩,
 ⟨some 40,.pick (.tmp 25) (.const (.bool true)) (.tmp 39),t25,q25,#[⟨10,.data⟩,⟨24,.data⟩],none⟩] true).wp Tryz.prog Q a0 w0:=by
 have hS:distS [some 15,some 16,some 17,some 18,some 19,some 20,some 21,some 22,some 23,some 24,some 25,some 26,some 27,some 28,some 29,some 30,some 31,some 32,some 33,some 34,some 35,some 36,some 37,some 38,some 39,some 40]=true:=rfl;refine wp_region_q (by kernel_rfl) w0.heap.size [some 15,some 16,some 17,some 18,some 19,some 20,some 21,some 22,some 23,some 24,some 25,some 26,some 27,some 28,some 29,some 30,some 31,some 32,some 33,some 34,some 35,some 36,some 37,some 38,some 39,some 40] (VevI_B m mc Be eo x y z w0.heap.size) rfl ?_ ?_
 · intro Q lq aq W iq oq hJ2 hl ho hall;have z5:=hJ2.b;have g3:=hJ2.a h3
   have g4:=hJ2.a h4
   have c0:=hJ2.c k0 l0;have c1:=hJ2.c k1 l1;have c2:=hJ2.c k2 l2;have c3:=hJ2.c k3 l3;have c4:=hJ2.c k4 l4;have c5:=hJ2.c k5 l5;have c6:=hJ2.c k6 l6;have c7:=hJ2.c k7 l7;have c8:=hJ2.c k8 l8;have c9:=hJ2.c k9 l9;have c10:=hJ2.c k10 l10;have c11:=hJ2.c k11 l11;have c12:=hJ2.c k12 l12
   clear hQ
   match iq,ho with
   | 0,ho=>
    cases ho;refine wpOp_of rfl rfl ?_;have hK:=hJ2.gO hS 0 15;generalize InvQ _ _ _ _ _ _=K at hK⊢;clear ho hall hl hJ2 hS;go_simp;exact hK _ rfl
   | 1,ho=>
    cases ho;refine wpOp_of rfl rfl ?_;have f0:_=Value.pointer (some ⟨Be,0,none⟩):=hJ2.v hall 0 15;have hK:=hJ2.gO hS 1 16;generalize InvQ _ _ _ _ _ _=K at hK⊢;clear ho hall hl hJ2 hS;go_simp;exact hK _ rfl
   | 2,ho=>
    cases ho;refine wpOp_of rfl rfl ?_;have f1:_=PV x y z:=hJ2.v hall 1 16;have hK:=hJ2.go hS 2 17;generalize InvQ _ _ _ _ _ _=K at hK⊢;clear ho hall hl hJ2 hS;go_simp;refine(pright_det x y z ta tb tc W).mono ?_;rintro e v1 ⟨rfl,hBv⟩;exact hK _ _ (z5.trans (hBv.mono z5.size)) (fun j v h=>h.mono hBv) rfl
   | 3,ho=>
    cases ho;refine wpOp_of rfl rfl ?_;have f2:_=Value.bool (ptB x y z):=hJ2.v hall 2 17;rw[hp] at f2;have hK:=hJ2.gO hS 3 18;generalize InvQ _ _ _ _ _ _=K at hK⊢;clear ho hall hl hJ2 hS;go_simp;exact hK _ rfl
   | 4,ho=>
    cases ho;refine wpOp_of rfl rfl ?_;have f3:_=Value.bool false:=hJ2.v hall 3 18;have hK:=hJ2.gO hS 4 19;generalize InvQ _ _ _ _ _ _=K at hK⊢;clear ho hall hl hJ2 hS;go_simp;exact hK _ rfl
   | 5,ho=>
    cases ho;have fg:aq.tmps.getD 19 undef= .bool false:=hJ2.v hall 4 19 .guard;refine wpOp_on rfl rfl rfl rfl fg ?_;have hK:=hJ2.gO hS 5 20;generalize InvQ _ _ _ _ _ _=K at hK⊢;clear ho hall hl hJ2 hS;go_simp;exact hK _ rfl
   | 6,ho=>
    cases ho;have fg:aq.tmps.getD 19 undef= .bool false:=hJ2.v hall 4 19 .guard;refine wpOp_on rfl rfl rfl rfl fg ?_;have f5:_=Value.pointer (some ⟨Be,12,none⟩):=hJ2.v hall 5 20;have hK:=hJ2.gO hS 6 21;generalize InvQ _ _ _ _ _ _=K at hK⊢;clear ho hall hl hJ2 hS;go_simp;exact hK _ rfl
   | 7,ho=>
    cases ho;have fg:aq.tmps.getD 19 undef= .bool false:=hJ2.v hall 4 19 .guard;refine wpOp_on rfl rfl rfl rfl fg ?_;have f6:_=Value.slice eo m mc:=hJ2.v hall 6 21;have hK:=hJ2.go hS 7 22;generalize InvQ _ _ _ _ _ _=K at hK⊢;clear ho hall hl hJ2 hS;go_simp;refine(hre W (hNo.step z5)).mono ?_;rintro e v1 ⟨rfl,hBv⟩;exact hK _ _ (z5.trans (hBv.mono z5.size)) (fun j v h=>h.mono hBv) rfl
   | 8,ho=>
    cases ho;have fg:aq.tmps.getD 19 undef= .bool false:=hJ2.v hall 4 19 .guard;refine wpOp_on rfl rfl rfl rfl fg ?_;have f7:_=Value.bool false:=hJ2.v hall 7 22;have hK:=hJ2.gO hS 8 23;generalize InvQ _ _ _ _ _ _=K at hK⊢;clear ho hall hl hJ2 hS;go_simp;exact hK _ rfl
   | 9,ho=>
    cases ho;refine wpOp_of rfl rfl ?_;have f4:_=Value.bool false:=hJ2.v hall 4 19;have f8:_=Value.bool true:=hJ2.v hall 8 23;have hK:=hJ2.gO hS 9 24;generalize InvQ _ _ _ _ _ _=K at hK⊢;clear ho hall hl hJ2 hS;go_simp;exact hK _ rfl
   | 10,ho=>
    cases ho;refine wpOp_of rfl rfl ?_;have f9:_=Value.bool true:=hJ2.v hall 9 24;have hK:=hJ2.gO hS 10 25;generalize InvQ _ _ _ _ _ _=K at hK⊢;clear ho hall hl hJ2 hS;go_simp;exact hK _ rfl
   | 11,ho=>
    cases ho;have fg:aq.tmps.getD 25 undef= .bool true:=hJ2.v hall 10 25 .guard;refine wpOp_off rfl rfl rfl rfl fg ?_;exact hJ2.put hS 11 26 rfl (by omega) z5 (fun _ _ h=>h) undef rfl
   | 12,ho=>
    cases ho;have fg:aq.tmps.getD 25 undef= .bool true:=hJ2.v hall 10 25 .guard;refine wpOp_off rfl rfl rfl rfl fg ?_;exact hJ2.put hS 12 27 rfl (by omega) z5 (fun _ _ h=>h) undef rfl
   | 13,ho=>
    cases ho;have fg:aq.tmps.getD 25 undef= .bool true:=hJ2.v hall 10 25 .guard;refine wpOp_off rfl rfl rfl rfl fg ?_;exact hJ2.put hS 13 28 rfl (by omega) z5 (fun _ _ h=>h) undef rfl
   | 14,ho=>
    cases ho;have fg:aq.tmps.getD 28 undef=undef:=hJ2.v hall 13 28 .guard;refine wpOp_offu rfl rfl rfl rfl fg ?_;exact hJ2.put hS 14 29 rfl (by omega) z5 (fun _ _ h=>h) undef rfl
   | 15,ho=>
    cases ho;have fg:aq.tmps.getD 28 undef=undef:=hJ2.v hall 13 28 .guard;refine wpOp_offu rfl rfl rfl rfl fg ?_;exact hJ2.put hS 15 30 rfl (by omega) z5 (fun _ _ h=>h) undef rfl
   | 16,ho=>
    cases ho;have fg:aq.tmps.getD 28 undef=undef:=hJ2.v hall 13 28 .guard;refine wpOp_offu rfl rfl rfl rfl fg ?_;exact hJ2.put hS 16 31 rfl (by omega) z5 (fun _ _ h=>h) undef rfl
   | 17,ho=>
    cases ho;have fg:aq.tmps.getD 28 undef=undef:=hJ2.v hall 13 28 .guard;refine wpOp_offu rfl rfl rfl rfl fg ?_;exact hJ2.put hS 17 32 rfl (by omega) z5 (fun _ _ h=>h) undef rfl
   | 18,ho=>
    cases ho;have fg:aq.tmps.getD 28 undef=undef:=hJ2.v hall 13 28 .guard;refine wpOp_offu rfl rfl rfl rfl fg ?_;exact hJ2.put hS 18 33 rfl (by omega) z5 (fun _ _ h=>h) undef rfl
   | 19,ho=>
    cases ho;have fg:aq.tmps.getD 28 undef=undef:=hJ2.v hall 13 28 .guard;refine wpOp_offu rfl rfl rfl rfl fg ?_;exact hJ2.put hS 19 34 rfl (by omega) z5 (fun _ _ h=>h) undef rfl
   | 20,ho=>
    cases ho;have fg:aq.tmps.getD 28 undef=undef:=hJ2.v hall 13 28 .guard;refine wpOp_offu rfl rfl rfl rfl fg ?_;exact hJ2.put hS 20 35 rfl (by omega) z5 (fun _ _ h=>h) undef rfl
   | 21,ho=>
    cases ho;have fg:aq.tmps.getD 28 undef=undef:=hJ2.v hall 13 28 .guard;refine wpOp_offu rfl rfl rfl rfl fg ?_;exact hJ2.put hS 21 36 rfl (by omega) z5 (fun _ _ h=>h) undef rfl
   | 22,ho=>
    cases ho;have fg:aq.tmps.getD 28 undef=undef:=hJ2.v hall 13 28 .guard;refine wpOp_offu rfl rfl rfl rfl fg ?_;exact hJ2.put hS 22 37 rfl (by omega) z5 (fun _ _ h=>h) undef rfl
   | 23,ho=>
    cases ho;have fg:aq.tmps.getD 28 undef=undef:=hJ2.v hall 13 28 .guard;refine wpOp_offu rfl rfl rfl rfl fg ?_;exact hJ2.put hS 23 38 rfl (by omega) z5 (fun _ _ h=>h) undef rfl
   | 24,ho=>
    cases ho;have fg:aq.tmps.getD 25 undef= .bool true:=hJ2.v hall 10 25 .guard;refine wpOp_off rfl rfl rfl rfl fg ?_;exact hJ2.put hS 24 39 rfl (by omega) z5 (fun _ _ h=>h) undef rfl
   | 25,ho=>
    cases ho;refine wpOp_of rfl rfl ?_;have f10:_=Value.bool true:=hJ2.v hall 10 25;have f24:_=undef:=hJ2.v hall 24 39;have hK:=hJ2.gO hS 25 40;generalize InvQ _ _ _ _ _ _=K at hK⊢;clear ho hall hl hJ2 hS;go_simp;exact hK _ rfl
   | iq+26,ho=>simp at ho
 · intro lq aq W hJ hr;obtain⟨z1,z2,z3,z4,z5,z6,z7⟩:=hJ;have hl:=listed_of hr [0,1,2,3,4,5,6,7,8,9,10,11,12,13,14,15,16,17,18,19,20,21,22,23,24,25] [] (by simp) (by kernel_rfl) (by rw[z1];decide);exact hQ aq W z2 z3 (fun e he=>z4 e (by simpa using he)) (z6 25 40 (hl 25 (by simp)) rfl) z5
def VevI_C (m mc c:Nat) (Be:Nat) (eo:Option Addr) (x y z:Int) (_B:Nat):Nat→Value→World→Prop
 | 0,v,_=>v= .pointer (some ⟨Be,0,none⟩)
 | 1,v,_=>v=PV x y z
 | 2,v,_=>v= .bool (ptB x y z)
 | 3,v,_=>v= .bool false
 | 4,v,_=>v= .bool false
 | 5,v,_=>v= .pointer (some ⟨Be,12,none⟩)
 | 6,v,_=>v= .slice eo m mc
 | 7,v,_=>v= .bool true
 | 8,v,_=>v= .bool false
 | 9,v,_=>v= .bool false
 | 10,v,_=>v= .bool false
 | 11,v,_=>v= .int .i64 (c:Int)
 | 12,v,_=>v= .bool false
 | 13,v,_=>v= .bool false
 | 14,v,_=>v=undef
 | 15,v,_=>v=undef
 | 16,v,_=>v=undef
 | 17,v,_=>v=undef
 | 18,v,_=>v=undef
 | 19,v,_=>v=undef
 | 20,v,_=>v=undef
 | 21,v,_=>v=undef
 | 22,v,_=>v=undef
 | 23,v,_=>v=undef
 | 24,v,_=>v= .bool false
 | 25,v,_=>v= .bool false
 | _,_,_=>True
theorem VevI_C.mono {m mc c:Nat} {Be:Nat} {eo:Option Addr} {x y z:Int} {B j:Nat} {v:Value} {W W2:World} (_hB:Below W.heap.size W W2) (h:VevI_C m mc c Be eo x y z B j v W):VevI_C m mc c Be eo x y z B j v W2:=by
 unfold VevI_C at *
 split<;>simp only at h<;>first | exact h | trivial
theorem evI_C {Q:Exit→Act→World→Prop} {m mc c:Nat} {Be:Nat} {eo:Option Addr} {x y z:Int} {xs:Nat→Int} {w0:World} {a0:Act} {idq:Nat} {t0 t1 t2 t3 t4 t5 t6 t7 t8 t9 t10 t11 t12 t13 t14 t15 t16 t17 t18 t19 t20 t21 t22 t23 t24 t25:TypeId} {q0 q1 q2 q3 q4 q5 q6 q7 q8 q9 q10 q11 q12 q13 q14 q15 q16 q17 q18 q19 q20 q21 q22 q23 q24 q25:String}
 (ta:told x=true) (tb:told y=true) (tc:told z=true) (hp:ptB x y z=true) (hNo:NoIn w0 eo m xs) (hre:∀W,NoIn W eo m xs→Calls Tryz.prog 34 #[.slice eo m mc] W (VP (.bool true) W)) (hc0:Hid (c=0)) (h3:a0.tmps[3]? =some (.int .i64 (c:Int))) (h4:a0.tmps[4]? =some (.pointer (some ⟨Be,0,none⟩))) (k0:w0.cell? ⟨Be,0,none⟩=some (.int .u64 (ww3 x))) (l0:(⟨Be,0,none⟩:Addr).block<w0.heap.size) (k1:w0.cell? ⟨Be,1,none⟩=some (.int .u64 (ww2 x))) (l1:(⟨Be,1,none⟩:Addr).block<w0.heap.size) (k2:w0.cell? ⟨Be,2,none⟩=some (.int .u64 (ww1 x))) (l2:(⟨Be,2,none⟩:Addr).block<w0.heap.size) (k3:w0.cell? ⟨Be,3,none⟩=some (.int .u64 (ww0 x))) (l3:(⟨Be,3,none⟩:Addr).block<w0.heap.size) (k4:w0.cell? ⟨Be,4,none⟩=some (.int .u64 (ww3 y))) (l4:(⟨Be,4,none⟩:Addr).block<w0.heap.size) (k5:w0.cell? ⟨Be,5,none⟩=some (.int .u64 (ww2 y))) (l5:(⟨Be,5,none⟩:Addr).block<w0.heap.size) (k6:w0.cell? ⟨Be,6,none⟩=some (.int .u64 (ww1 y))) (l6:(⟨Be,6,none⟩:Addr).block<w0.heap.size) (k7:w0.cell? ⟨Be,7,none⟩=some (.int .u64 (ww0 y))) (l7:(⟨Be,7,none⟩:Addr).block<w0.heap.size) (k8:w0.cell? ⟨Be,8,none⟩=some (.int .u64 (ww3 z))) (l8:(⟨Be,8,none⟩:Addr).block<w0.heap.size) (k9:w0.cell? ⟨Be,9,none⟩=some (.int .u64 (ww2 z))) (l9:(⟨Be,9,none⟩:Addr).block<w0.heap.size) (k10:w0.cell? ⟨Be,10,none⟩=some (.int .u64 (ww1 z))) (l10:(⟨Be,10,none⟩:Addr).block<w0.heap.size) (k11:w0.cell? ⟨Be,11,none⟩=some (.int .u64 (ww0 z))) (l11:(⟨Be,11,none⟩:Addr).block<w0.heap.size) (k12:w0.cell? ⟨Be,12,none⟩=some (.slice eo m mc)) (l12:(⟨Be,12,none⟩:Addr).block<w0.heap.size) (hz:a0.tmps.size=42)
 (hQ:∀aq W,aq.tmps.size=a0.tmps.size→aq.defers=a0.defers→(∀e,e∉([15,16,17,18,19,20,21,22,23,24,25,26,27,28,29,30,31,32,33,34,35,36,37,38,39,40]:List Nat)→aq.tmps[e]? =a0.tmps[e]?)→VevI_C m mc c Be eo x y z w0.heap.size 25 (aq.tmps.getD 40 undef) W→Below w0.heap.size w0 W→Q .normal aq W) :
 (Code.region idq #[⟨some 15,.fieldAddr 37 (.tmp 4) 0,t0,q0,#[],none⟩,
 ⟨some 16,.load 29 (.tmp 15),t1,q1,#[⟨0,.data⟩],none⟩,
 ⟨some 17,.call {callee:= .value (.func 19),args:=#[.tmp 16],argTypes:=#[29]},t2,q2,#[⟨1,.data⟩],none⟩,
 ⟨some 18,.unOp .not 4 (.tmp 17),t3,q3,#[⟨2,.data⟩],none⟩,
 ⟨some 19,.move (.tmp 18),t4,q4,#[⟨3,.data⟩,⟨2,.chain⟩],none⟩,
 ⟨some 20,.fieldAddr 37 (.tmp 4) 1,t5,q5,#[⟨4,.guard⟩],some (4,false)⟩,
 ⟨some 21,.load 35 (.tmp 20),t6,q6,#[⟨5,.data⟩,⟨4,.guard⟩],some (4,false)⟩,
 ⟨some 22,.call {callee:= .value (.func 34),args:=#[.tmp 21],argTypes:=#[35]},t7,q7,#[⟨6,.data⟩,⟨4,.chain⟩,⟨4,.guard⟩],some (4,false)⟩,
 ⟨some 23,.unOp .not 4 (.tmp 22),t8,q8,#[⟨7,.data⟩,⟨4,.guard⟩],some (4,false)⟩,
 ⟨some 24,.pick (.tmp 19) (.const (.bool true)) (.tmp 23),t9,q9,#[⟨4,.data⟩,⟨8,.data⟩],none⟩,
 ⟨some 25,.move (.tmp 24),t10,q10,#[⟨9,.data⟩,⟨7,.chain⟩],none⟩,
 ⟨some 26,.move (.tmp 3),t11,q11,#[⟨10,.guard⟩],some (10,false)⟩,
 ⟨some 27,.binOp .gtr 3 (.tmp 26) (.const (.int .i64 0)) 3,t12,q12,#[⟨11,.data⟩,⟨10,.guard⟩],some (10,false)⟩,
 ⟨some 28,.move (.tmp 27),t13,q13,#[⟨12,.data⟩,⟨10,.chain⟩,⟨10,.guard⟩],some (10,false)⟩,
 ⟨some 29,.move (.tmp 0),t14,q14,#[⟨13,.guard⟩],some (13,true)⟩,
 ⟨some 30,.move (.tmp 3),t15,q15,#[⟨13,.guard⟩],some (13,true)⟩,
 ⟨some 31,.binOp .sub 3 (.tmp 30) (.const (.int .i64 1)) 3,t16,q16,#[⟨15,.data⟩,⟨13,.guard⟩],some (13,true)⟩,
 ⟨some 32,.indexAddr 24 (.tmp 29) (.tmp 31),t17,q17,#[⟨14,.data⟩,⟨16,.data⟩,⟨13,.guard⟩],some (13,true)⟩,
 ⟨some 33,.fieldAddr 37 (.tmp 32) 0,t18,q18,#[⟨17,.data⟩,⟨13,.guard⟩],some (13,true)⟩,
 ⟨some 34,.load 29 (.tmp 33),t19,q19,#[⟨18,.data⟩,⟨13,.guard⟩],some (13,true)⟩,
 ⟨some 35,.fieldAddr 37 (.tmp 4) 0,t20,q20,#[⟨13,.guard⟩],some (13,true)⟩,
 ⟨some 36,.load 29 (.tmp 35),t21,q21,#[⟨20,.data⟩,⟨13,.guard⟩],some (13,true)⟩,
 ⟨some 37,.call {callee:= .value (.func 35),args:=#[.tmp 34,.tmp 36],argTypes:=#[29,29]},t22,q22,#[⟨19,.data⟩,⟨21,.data⟩,⟨13,.chain⟩,⟨13,.guard⟩],some (13,true)⟩,
 ⟨some 38,.binOp .geq 2 (.tmp 37) (.const (.int .i64 0)) 2,t23,q23,#[⟨22,.data⟩,⟨13,.guard⟩],some (13,true)⟩,
 ⟨some 39,.pick (.tmp 28) (.tmp 38) (.const (.bool false)),t24,q24,#[⟨13,.data⟩,⟨23,.data⟩,⟨10,.guard⟩],some (10,false)⟩,
 ⟨some 40,.pick (.tmp 25) (.const (.bool true)) (.tmp 39),t25,q25,#[⟨10,.data⟩,⟨24,.data⟩],none⟩] true).wp Tryz.prog Q a0 w0:=by
 have hS:distS [some 15,some 16,some 17,some 18,some 19,some 20,some 21,some 22,some 23,some 24,some 25,some 26,some 27,some 28,some 29,some 30,some 31,some 32,some 33,some 34,some 35,some 36,some 37,some 38,some 39,some 40]=true:=rfl;refine wp_region_q (by kernel_rfl) w0.heap.size [some 15,some 16,some 17,some 18,some 19,some 20,some 21,some 22,some 23,some 24,some 25,some 26,some 27,some 28,some 29,some 30,some 31,some 32,some 33,some 34,some 35,some 36,some 37,some 38,some 39,some 40] (VevI_C m mc c Be eo x y z w0.heap.size) rfl ?_ ?_
 · intro Q lq aq W iq oq hJ2 hl ho hall;have z5:=hJ2.b;have g3:=hJ2.a h3
   have g4:=hJ2.a h4
   have c0:=hJ2.c k0 l0;have c1:=hJ2.c k1 l1;have c2:=hJ2.c k2 l2;have c3:=hJ2.c k3 l3;have c4:=hJ2.c k4 l4;have c5:=hJ2.c k5 l5;have c6:=hJ2.c k6 l6;have c7:=hJ2.c k7 l7;have c8:=hJ2.c k8 l8;have c9:=hJ2.c k9 l9;have c10:=hJ2.c k10 l10;have c11:=hJ2.c k11 l11;have c12:=hJ2.c k12 l12
   clear hQ
   match iq,ho with
   | 0,ho=>
    cases ho;refine wpOp_of rfl rfl ?_;have hK:=hJ2.gO hS 0 15;generalize InvQ _ _ _ _ _ _=K at hK⊢;clear ho hall hl hJ2 hS;go_simp;exact hK _ rfl
   | 1,ho=>
    cases ho;refine wpOp_of rfl rfl ?_;have f0:_=Value.pointer (some ⟨Be,0,none⟩):=hJ2.v hall 0 15;have hK:=hJ2.gO hS 1 16;generalize InvQ _ _ _ _ _ _=K at hK⊢;clear ho hall hl hJ2 hS;go_simp;exact hK _ rfl
   | 2,ho=>
    cases ho;refine wpOp_of rfl rfl ?_;have f1:_=PV x y z:=hJ2.v hall 1 16;have hK:=hJ2.go hS 2 17;generalize InvQ _ _ _ _ _ _=K at hK⊢;clear ho hall hl hJ2 hS;go_simp;refine(pright_det x y z ta tb tc W).mono ?_;rintro e v1 ⟨rfl,hBv⟩;exact hK _ _ (z5.trans (hBv.mono z5.size)) (fun j v h=>h.mono hBv) rfl
   | 3,ho=>
    cases ho;refine wpOp_of rfl rfl ?_;have f2:_=Value.bool (ptB x y z):=hJ2.v hall 2 17;rw[hp] at f2;have hK:=hJ2.gO hS 3 18;generalize InvQ _ _ _ _ _ _=K at hK⊢;clear ho hall hl hJ2 hS;go_simp;exact hK _ rfl
   | 4,ho=>
    cases ho;refine wpOp_of rfl rfl ?_;have f3:_=Value.bool false:=hJ2.v hall 3 18;have hK:=hJ2.gO hS 4 19;generalize InvQ _ _ _ _ _ _=K at hK⊢;clear ho hall hl hJ2 hS;go_simp;exact hK _ rfl
   | 5,ho=>
    cases ho;have fg:aq.tmps.getD 19 undef= .bool false:=hJ2.v hall 4 19 .guard;refine wpOp_on rfl rfl rfl rfl fg ?_;have hK:=hJ2.gO hS 5 20;generalize InvQ _ _ _ _ _ _=K at hK⊢;clear ho hall hl hJ2 hS;go_simp;exact hK _ rfl
   | 6,ho=>
    cases ho;have fg:aq.tmps.getD 19 undef= .bool false:=hJ2.v hall 4 19 .guard;refine wpOp_on rfl rfl rfl rfl fg ?_;have f5:_=Value.pointer (some ⟨Be,12,none⟩):=hJ2.v hall 5 20;have hK:=hJ2.gO hS 6 21;generalize InvQ _ _ _ _ _ _=K at hK⊢;clear ho hall hl hJ2 hS;go_simp;exact hK _ rfl
   | 7,ho=>
    cases ho;have fg:aq.tmps.getD 19 undef= .bool false:=hJ2.v hall 4 19 .guard;refine wpOp_on rfl rfl rfl rfl fg ?_;have f6:_=Value.slice eo m mc:=hJ2.v hall 6 21;have hK:=hJ2.go hS 7 22;generalize InvQ _ _ _ _ _ _=K at hK⊢;clear ho hall hl hJ2 hS;go_simp;refine(hre W (hNo.step z5)).mono ?_;rintro e v1 ⟨rfl,hBv⟩;exact hK _ _ (z5.trans (hBv.mono z5.size)) (fun j v h=>h.mono hBv) rfl
   | 8,ho=>
    cases ho;have fg:aq.tmps.getD 19 undef= .bool false:=hJ2.v hall 4 19 .guard;refine wpOp_on rfl rfl rfl rfl fg ?_;have f7:_=Value.bool true:=hJ2.v hall 7 22;have hK:=hJ2.gO hS 8 23;generalize InvQ _ _ _ _ _ _=K at hK⊢;clear ho hall hl hJ2 hS;go_simp;exact hK _ rfl
   | 9,ho=>
    cases ho;refine wpOp_of rfl rfl ?_;have f4:_=Value.bool false:=hJ2.v hall 4 19;have f8:_=Value.bool false:=hJ2.v hall 8 23;have hK:=hJ2.gO hS 9 24;generalize InvQ _ _ _ _ _ _=K at hK⊢;clear ho hall hl hJ2 hS;go_simp;exact hK _ rfl
   | 10,ho=>
    cases ho;refine wpOp_of rfl rfl ?_;have f9:_=Value.bool false:=hJ2.v hall 9 24;have hK:=hJ2.gO hS 10 25;generalize InvQ _ _ _ _ _ _=K at hK⊢;clear ho hall hl hJ2 hS;go_simp;exact hK _ rfl
   | 11,ho=>
    cases ho;have fg:aq.tmps.getD 25 undef= .bool false:=hJ2.v hall 10 25 .guard;refine wpOp_on rfl rfl rfl rfl fg ?_;have hK:=hJ2.gO hS 11 26;generalize InvQ _ _ _ _ _ _=K at hK⊢;clear ho hall hl hJ2 hS;go_simp;exact hK _ rfl
   | 12,ho=>
    cases ho;have fg:aq.tmps.getD 25 undef= .bool false:=hJ2.v hall 10 25 .guard;refine wpOp_on rfl rfl rfl rfl fg ?_;have f11:_=Value.int .i64 (c:Int):=hJ2.v hall 11 26;have hgt:(c:Int)≤0:=by have ho:=hc0.out;omega
    have hK:=hJ2.go hS 12 27;generalize InvQ _ _ _ _ _ _=K at hK⊢;clear ho hall hl hJ2 hS;go_simp;exact hK _ _ z5 (fun _ _ h=>h) (by show _=_;exact congrArg Value.bool (decide_eq_false (by omega)))
   | 13,ho=>
    cases ho;have fg:aq.tmps.getD 25 undef= .bool false:=hJ2.v hall 10 25 .guard;refine wpOp_on rfl rfl rfl rfl fg ?_;have f12:_=Value.bool false:=hJ2.v hall 12 27;have hK:=hJ2.gO hS 13 28;generalize InvQ _ _ _ _ _ _=K at hK⊢;clear ho hall hl hJ2 hS;go_simp;exact hK _ rfl
   | 14,ho=>
    cases ho;have fg:aq.tmps.getD 28 undef= .bool false:=hJ2.v hall 13 28 .guard;refine wpOp_off rfl rfl rfl rfl fg ?_;exact hJ2.put hS 14 29 rfl (by omega) z5 (fun _ _ h=>h) undef rfl
   | 15,ho=>
    cases ho;have fg:aq.tmps.getD 28 undef= .bool false:=hJ2.v hall 13 28 .guard;refine wpOp_off rfl rfl rfl rfl fg ?_;exact hJ2.put hS 15 30 rfl (by omega) z5 (fun _ _ h=>h) undef rfl
   | 16,ho=>
    cases ho;have fg:aq.tmps.getD 28 undef= .bool false:=hJ2.v hall 13 28 .guard;refine wpOp_off rfl rfl rfl rfl fg ?_;exact hJ2.put hS 16 31 rfl (by omega) z5 (fun _ _ h=>h) undef rfl
   | 17,ho=>
    cases ho;have fg:aq.tmps.getD 28 undef= .bool false:=hJ2.v hall 13 28 .guard;refine wpOp_off rfl rfl rfl rfl fg ?_;exact hJ2.put hS 17 32 rfl (by omega) z5 (fun _ _ h=>h) undef rfl
   | 18,ho=>
    cases ho;have fg:aq.tmps.getD 28 undef= .bool false:=hJ2.v hall 13 28 .guard;refine wpOp_off rfl rfl rfl rfl fg ?_;exact hJ2.put hS 18 33 rfl (by omega) z5 (fun _ _ h=>h) undef rfl
   | 19,ho=>
    cases ho;have fg:aq.tmps.getD 28 undef= .bool false:=hJ2.v hall 13 28 .guard;refine wpOp_off rfl rfl rfl rfl fg ?_;exact hJ2.put hS 19 34 rfl (by omega) z5 (fun _ _ h=>h) undef rfl
   | 20,ho=>
    cases ho;have fg:aq.tmps.getD 28 undef= .bool false:=hJ2.v hall 13 28 .guard;refine wpOp_off rfl rfl rfl rfl fg ?_;exact hJ2.put hS 20 35 rfl (by omega) z5 (fun _ _ h=>h) undef rfl
   | 21,ho=>
    cases ho;have fg:aq.tmps.getD 28 undef= .bool false:=hJ2.v hall 13 28 .guard;refine wpOp_off rfl rfl rfl rfl fg ?_;exact hJ2.put hS 21 36 rfl (by omega) z5 (fun _ _ h=>h) undef rfl
   | 22,ho=>
    cases ho;have fg:aq.tmps.getD 28 undef= .bool false:=hJ2.v hall 13 28 .guard;refine wpOp_off rfl rfl rfl rfl fg ?_;exact hJ2.put hS 22 37 rfl (by omega) z5 (fun _ _ h=>h) undef rfl
   | 23,ho=>
    cases ho;have fg:aq.tmps.getD 28 undef= .bool false:=hJ2.v hall 13 28 .guard;refine wpOp_off rfl rfl rfl rfl fg ?_;exact hJ2.put hS 23 38 rfl (by omega) z5 (fun _ _ h=>h) undef rfl
   | 24,ho=>
    cases ho;have fg:aq.tmps.getD 25 undef= .bool false:=hJ2.v hall 10 25 .guard;refine wpOp_on rfl rfl rfl rfl fg ?_;have f13:_=Value.bool false:=hJ2.v hall 13 28;have f23:_=undef:=hJ2.v hall 23 38;have hK:=hJ2.gO hS 24 39;generalize InvQ _ _ _ _ _ _=K at hK⊢;clear ho hall hl hJ2 hS;go_simp;exact hK _ rfl
   | 25,ho=>
    cases ho;refine wpOp_of rfl rfl ?_;have f10:_=Value.bool false:=hJ2.v hall 10 25;have f24:_=Value.bool false:=hJ2.v hall 24 39;have hK:=hJ2.gO hS 25 40;generalize InvQ _ _ _ _ _ _=K at hK⊢;clear ho hall hl hJ2 hS;go_simp;exact hK _ rfl
   | iq+26,ho=>simp at ho
 · intro lq aq W hJ hr;obtain⟨z1,z2,z3,z4,z5,z6,z7⟩:=hJ;have hl:=listed_of hr [0,1,2,3,4,5,6,7,8,9,10,11,12,13,14,15,16,17,18,19,20,21,22,23,24,25] [] (by simp) (by kernel_rfl) (by rw[z1];decide);exact hQ aq W z2 z3 (fun e he=>z4 e (by simpa using he)) (z6 25 40 (hl 25 (by simp)) rfl) z5
def VevI_D (n cap A off c d m mc:Nat) (Be:Nat) (eo:Option Addr) (x y z u vv t:Int) (_B:Nat):Nat→Value→World→Prop
 | 0,v,_=>v= .pointer (some ⟨Be,0,none⟩)
 | 1,v,_=>v=PV x y z
 | 2,v,_=>v= .bool (ptB x y z)
 | 3,v,_=>v= .bool false
 | 4,v,_=>v= .bool false
 | 5,v,_=>v= .pointer (some ⟨Be,12,none⟩)
 | 6,v,_=>v= .slice eo m mc
 | 7,v,_=>v= .bool true
 | 8,v,_=>v= .bool false
 | 9,v,_=>v= .bool false
 | 10,v,_=>v= .bool false
 | 11,v,_=>v= .int .i64 (c:Int)
 | 12,v,_=>v= .bool true
 | 13,v,_=>v= .bool true
 | 14,v,_=>v= .slice (some ⟨A,off,none⟩) n cap
 | 15,v,_=>v= .int .i64 (c:Int)
 | 16,v,_=>v= .int .i64 (d:Int)
 | 17,v,_=>v= .pointer (some ⟨A,off+d*13,none⟩)
 | 18,v,_=>v= .pointer (some ⟨A,off+d*13,none⟩)
 | 19,v,_=>v=PV u vv t
 | 20,v,_=>v= .pointer (some ⟨Be,0,none⟩)
 | 21,v,_=>v=PV x y z
 | 22,v,_=>v= .int .i64 (ordI u vv t x y z)
 | 23,v,_=>v= .bool (decide (0≤ordI u vv t x y z))
 | 24,v,_=>v= .bool (decide (0≤ordI u vv t x y z))
 | 25,v,_=>v= .bool (decide (0≤ordI u vv t x y z))
 | _,_,_=>True
theorem VevI_D.mono {n cap A off c d m mc:Nat} {Be:Nat} {eo:Option Addr} {x y z u vv t:Int} {B j:Nat} {v:Value} {W W2:World} (_hB:Below W.heap.size W W2) (h:VevI_D n cap A off c d m mc Be eo x y z u vv t B j v W):VevI_D n cap A off c d m mc Be eo x y z u vv t B j v W2:=by
 unfold VevI_D at *
 split<;>simp only at h<;>first | exact h | trivial
theorem evI_D {Q:Exit→Act→World→Prop} {n cap A off c d m mc:Nat} {Be:Nat} {eo:Option Addr} {x y z u vv t:Int} {xs:Nat→Int} {w0:World} {a0:Act} {idq:Nat} {t0 t1 t2 t3 t4 t5 t6 t7 t8 t9 t10 t11 t12 t13 t14 t15 t16 t17 t18 t19 t20 t21 t22 t23 t24 t25:TypeId} {q0 q1 q2 q3 q4 q5 q6 q7 q8 q9 q10 q11 q12 q13 q14 q15 q16 q17 q18 q19 q20 q21 q22 q23 q24 q25:String}
 (ta:told x=true) (tb:told y=true) (tc:told z=true) (hp:ptB x y z=true) (hpu:ptB u vv t=true) (hNo:NoIn w0 eo m xs) (hre:∀W,NoIn W eo m xs→Calls Tryz.prog 34 #[.slice eo m mc] W (VP (.bool true) W)) (hcd:Hid (c=d+1)) (hc:c<n) (hn:n≤200) (h0:a0.tmps[0]? =some (.slice (some ⟨A,off,none⟩) n cap)) (h3:a0.tmps[3]? =some (.int .i64 (c:Int))) (h4:a0.tmps[4]? =some (.pointer (some ⟨Be,0,none⟩))) (k0:w0.cell? ⟨Be,0,none⟩=some (.int .u64 (ww3 x))) (l0:(⟨Be,0,none⟩:Addr).block<w0.heap.size) (k1:w0.cell? ⟨Be,1,none⟩=some (.int .u64 (ww2 x))) (l1:(⟨Be,1,none⟩:Addr).block<w0.heap.size) (k2:w0.cell? ⟨Be,2,none⟩=some (.int .u64 (ww1 x))) (l2:(⟨Be,2,none⟩:Addr).block<w0.heap.size) (k3:w0.cell? ⟨Be,3,none⟩=some (.int .u64 (ww0 x))) (l3:(⟨Be,3,none⟩:Addr).block<w0.heap.size) (k4:w0.cell? ⟨Be,4,none⟩=some (.int .u64 (ww3 y))) (l4:(⟨Be,4,none⟩:Addr).block<w0.heap.size) (k5:w0.cell? ⟨Be,5,none⟩=some (.int .u64 (ww2 y))) (l5:(⟨Be,5,none⟩:Addr).block<w0.heap.size) (k6:w0.cell? ⟨Be,6,none⟩=some (.int .u64 (ww1 y))) (l6:(⟨Be,6,none⟩:Addr).block<w0.heap.size) (k7:w0.cell? ⟨Be,7,none⟩=some (.int .u64 (ww0 y))) (l7:(⟨Be,7,none⟩:Addr).block<w0.heap.size) (k8:w0.cell? ⟨Be,8,none⟩=some (.int .u64 (ww3 z))) (l8:(⟨Be,8,none⟩:Addr).block<w0.heap.size) (k9:w0.cell? ⟨Be,9,none⟩=some (.int .u64 (ww2 z))) (l9:(⟨Be,9,none⟩:Addr).block<w0.heap.size) (k10:w0.cell? ⟨Be,10,none⟩=some (.int .u64 (ww1 z))) (l10:(⟨Be,10,none⟩:Addr).block<w0.heap.size) (k11:w0.cell? ⟨Be,11,none⟩=some (.int .u64 (ww0 z))) (l11:(⟨Be,11,none⟩:Addr).block<w0.heap.size) (k12:w0.cell? ⟨Be,12,none⟩=some (.slice eo m mc)) (l12:(⟨Be,12,none⟩:Addr).block<w0.heap.size) (k13:w0.cell? ⟨A,off+d*13,none⟩=some (.int .u64 (ww3 u))) (l13:(⟨A,off+d*13,none⟩:Addr).block<w0.heap.size) (k14:w0.cell? ⟨A,off+d*13+1,none⟩=some (.int .u64 (ww2 u))) (l14:(⟨A,off+d*13+1,none⟩:Addr).block<w0.heap.size) (k15:w0.cell? ⟨A,off+d*13+2,none⟩=some (.int .u64 (ww1 u))) (l15:(⟨A,off+d*13+2,none⟩:Addr).block<w0.heap.size) (k16:w0.cell? ⟨A,off+d*13+3,none⟩=some (.int .u64 (ww0 u))) (l16:(⟨A,off+d*13+3,none⟩:Addr).block<w0.heap.size) (k17:w0.cell? ⟨A,off+d*13+4,none⟩=some (.int .u64 (ww3 vv))) (l17:(⟨A,off+d*13+4,none⟩:Addr).block<w0.heap.size) (k18:w0.cell? ⟨A,off+d*13+5,none⟩=some (.int .u64 (ww2 vv))) (l18:(⟨A,off+d*13+5,none⟩:Addr).block<w0.heap.size) (k19:w0.cell? ⟨A,off+d*13+6,none⟩=some (.int .u64 (ww1 vv))) (l19:(⟨A,off+d*13+6,none⟩:Addr).block<w0.heap.size) (k20:w0.cell? ⟨A,off+d*13+7,none⟩=some (.int .u64 (ww0 vv))) (l20:(⟨A,off+d*13+7,none⟩:Addr).block<w0.heap.size) (k21:w0.cell? ⟨A,off+d*13+8,none⟩=some (.int .u64 (ww3 t))) (l21:(⟨A,off+d*13+8,none⟩:Addr).block<w0.heap.size) (k22:w0.cell? ⟨A,off+d*13+9,none⟩=some (.int .u64 (ww2 t))) (l22:(⟨A,off+d*13+9,none⟩:Addr).block<w0.heap.size) (k23:w0.cell? ⟨A,off+d*13+10,none⟩=some (.int .u64 (ww1 t))) (l23:(⟨A,off+d*13+10,none⟩:Addr).block<w0.heap.size) (k24:w0.cell? ⟨A,off+d*13+11,none⟩=some (.int .u64 (ww0 t))) (l24:(⟨A,off+d*13+11,none⟩:Addr).block<w0.heap.size) (hz:a0.tmps.size=42)
 (hQ:∀aq W,aq.tmps.size=a0.tmps.size→aq.defers=a0.defers→(∀e,e∉([15,16,17,18,19,20,21,22,23,24,25,26,27,28,29,30,31,32,33,34,35,36,37,38,39,40]:List Nat)→aq.tmps[e]? =a0.tmps[e]?)→VevI_D n cap A off c d m mc Be eo x y z u vv t w0.heap.size 25 (aq.tmps.getD 40 undef) W→Below w0.heap.size w0 W→Q .normal aq W) :
 (Code.region idq #[⟨some 15,.fieldAddr 37 (.tmp 4) 0,t0,q0,#[],none⟩,
 ⟨some 16,.load 29 (.tmp 15),t1,q1,#[⟨0,.data⟩],none⟩,
 ⟨some 17,.call {callee:= .value (.func 19),args:=#[.tmp 16],argTypes:=#[29]},t2,q2,#[⟨1,.data⟩],none⟩,
 ⟨some 18,.unOp .not 4 (.tmp 17),t3,q3,#[⟨2,.data⟩],none⟩,
 ⟨some 19,.move (.tmp 18),t4,q4,#[⟨3,.data⟩,⟨2,.chain⟩],none⟩,
 ⟨some 20,.fieldAddr 37 (.tmp 4) 1,t5,q5,#[⟨4,.guard⟩],some (4,false)⟩,
 ⟨some 21,.load 35 (.tmp 20),t6,q6,#[⟨5,.data⟩,⟨4,.guard⟩],some (4,false)⟩,
 ⟨some 22,.call {callee:= .value (.func 34),args:=#[.tmp 21],argTypes:=#[35]},t7,q7,#[⟨6,.data⟩,⟨4,.chain⟩,⟨4,.guard⟩],some (4,false)⟩,
 ⟨some 23,.unOp .not 4 (.tmp 22),t8,q8,#[⟨7,.data⟩,⟨4,.guard⟩],some (4,false)⟩,
 ⟨some 24,.pick (.tmp 19) (.const (.bool true)) (.tmp 23),t9,q9,#[⟨4,.data⟩,⟨8,.data⟩],none⟩,
 ⟨some 25,.move (.tmp 24),t10,q10,#[⟨9,.data⟩,⟨7,.chain⟩],none⟩,
 ⟨some 26,.move (.tmp 3),t11,q11,#[⟨10,.guard⟩],some (10,false)⟩,
 ⟨some 27,.binOp .gtr 3 (.tmp 26) (.const (.int .i64 0)) 3,t12,q12,#[⟨11,.data⟩,⟨10,.guard⟩],some (10,false)⟩,
 ⟨some 28,.move (.tmp 27),t13,q13,#[⟨12,.data⟩,⟨10,.chain⟩,⟨10,.guard⟩],some (10,false)⟩,
 ⟨some 29,.move (.tmp 0),t14,q14,#[⟨13,.guard⟩],some (13,true)⟩,
 ⟨some 30,.move (.tmp 3),t15,q15,#[⟨13,.guard⟩],some (13,true)⟩,
 ⟨some 31,.binOp .sub 3 (.tmp 30) (.const (.int .i64 1)) 3,t16,q16,#[⟨15,.data⟩,⟨13,.guard⟩],some (13,true)⟩,
 ⟨some 32,.indexAddr 24 (.tmp 29) (.tmp 31),t17,q17,#[⟨14,.data⟩,⟨16,.data⟩,⟨13,.guard⟩],some (13,true)⟩,
 ⟨some 33,.fieldAddr 37 (.tmp 32) 0,t18,q18,#[⟨17,.data⟩,⟨13,.guard⟩],some (13,true)⟩,
 ⟨some 34,.load 29 (.tmp 33),t19,q19,#[⟨18,.data⟩,⟨13,.guard⟩],some (13,true)⟩,
 ⟨some 35,.fieldAddr 37 (.tmp 4) 0,t20,q20,#[⟨13,.guard⟩],some (13,true)⟩,
 ⟨some 36,.load 29 (.tmp 35),t21,q21,#[⟨20,.data⟩,⟨13,.guard⟩],some (13,true)⟩,
 ⟨some 37,.call {callee:= .value (.func 35),args:=#[.tmp 34,.tmp 36],argTypes:=#[29,29]},t22,q22,#[⟨19,.data⟩,⟨21,.data⟩,⟨13,.chain⟩,⟨13,.guard⟩],some (13,true)⟩,
 ⟨some 38,.binOp .geq 2 (.tmp 37) (.const (.int .i64 0)) 2,t23,q23,#[⟨22,.data⟩,⟨13,.guard⟩],some (13,true)⟩,
 ⟨some 39,.pick (.tmp 28) (.tmp 38) (.const (.bool false)),t24,q24,#[⟨13,.data⟩,⟨23,.data⟩,⟨10,.guard⟩],some (10,false)⟩,
 ⟨some 40,.pick (.tmp 25) (.const (.bool true)) (.tmp 39),t25,q25,#[⟨10,.data⟩,⟨24,.data⟩],none⟩] true).wp Tryz.prog Q a0 w0:=by
 have hS:distS [some 15,some 16,some 17,some 18,some 19,some 20,some 21,some 22,some 23,some 24,some 25,some 26,some 27,some 28,some 29,some 30,some 31,some 32,some 33,some 34,some 35,some 36,some 37,some 38,some 39,some 40]=true:=rfl;refine wp_region_q (by kernel_rfl) w0.heap.size [some 15,some 16,some 17,some 18,some 19,some 20,some 21,some 22,some 23,some 24,some 25,some 26,some 27,some 28,some 29,some 30,some 31,some 32,some 33,some 34,some 35,some 36,some 37,some 38,some 39,some 40] (VevI_D n cap A off c d m mc Be eo x y z u vv t w0.heap.size) rfl ?_ ?_
 · intro Q lq aq W iq oq hJ2 hl ho hall;have z5:=hJ2.b;have g0:=hJ2.a h0
   have g3:=hJ2.a h3
   have g4:=hJ2.a h4
   have c0:=hJ2.c k0 l0;have c1:=hJ2.c k1 l1;have c2:=hJ2.c k2 l2;have c3:=hJ2.c k3 l3;have c4:=hJ2.c k4 l4;have c5:=hJ2.c k5 l5;have c6:=hJ2.c k6 l6;have c7:=hJ2.c k7 l7;have c8:=hJ2.c k8 l8;have c9:=hJ2.c k9 l9;have c10:=hJ2.c k10 l10;have c11:=hJ2.c k11 l11;have c12:=hJ2.c k12 l12;have c13:=hJ2.c k13 l13;have c14:=hJ2.c k14 l14;have c15:=hJ2.c k15 l15;have c16:=hJ2.c k16 l16;have c17:=hJ2.c k17 l17;have c18:=hJ2.c k18 l18;have c19:=hJ2.c k19 l19;have c20:=hJ2.c k20 l20;have c21:=hJ2.c k21 l21;have c22:=hJ2.c k22 l22;have c23:=hJ2.c k23 l23;have c24:=hJ2.c k24 l24
   clear hQ
   match iq,ho with
   | 0,ho=>
    cases ho;refine wpOp_of rfl rfl ?_;have hK:=hJ2.gO hS 0 15;generalize InvQ _ _ _ _ _ _=K at hK⊢;clear ho hall hl hJ2 hS;go_simp;exact hK _ rfl
   | 1,ho=>
    cases ho;refine wpOp_of rfl rfl ?_;have f0:_=Value.pointer (some ⟨Be,0,none⟩):=hJ2.v hall 0 15;have hK:=hJ2.gO hS 1 16;generalize InvQ _ _ _ _ _ _=K at hK⊢;clear ho hall hl hJ2 hS;go_simp;exact hK _ rfl
   | 2,ho=>
    cases ho;refine wpOp_of rfl rfl ?_;have f1:_=PV x y z:=hJ2.v hall 1 16;have hK:=hJ2.go hS 2 17;generalize InvQ _ _ _ _ _ _=K at hK⊢;clear ho hall hl hJ2 hS;go_simp;refine(pright_det x y z ta tb tc W).mono ?_;rintro e v1 ⟨rfl,hBv⟩;exact hK _ _ (z5.trans (hBv.mono z5.size)) (fun j v h=>h.mono hBv) rfl
   | 3,ho=>
    cases ho;refine wpOp_of rfl rfl ?_;have f2:_=Value.bool (ptB x y z):=hJ2.v hall 2 17;rw[hp] at f2;have hK:=hJ2.gO hS 3 18;generalize InvQ _ _ _ _ _ _=K at hK⊢;clear ho hall hl hJ2 hS;go_simp;exact hK _ rfl
   | 4,ho=>
    cases ho;refine wpOp_of rfl rfl ?_;have f3:_=Value.bool false:=hJ2.v hall 3 18;have hK:=hJ2.gO hS 4 19;generalize InvQ _ _ _ _ _ _=K at hK⊢;clear ho hall hl hJ2 hS;go_simp;exact hK _ rfl
   | 5,ho=>
    cases ho;have fg:aq.tmps.getD 19 undef= .bool false:=hJ2.v hall 4 19 .guard;refine wpOp_on rfl rfl rfl rfl fg ?_;have hK:=hJ2.gO hS 5 20;generalize InvQ _ _ _ _ _ _=K at hK⊢;clear ho hall hl hJ2 hS;go_simp;exact hK _ rfl
   | 6,ho=>
    cases ho;have fg:aq.tmps.getD 19 undef= .bool false:=hJ2.v hall 4 19 .guard;refine wpOp_on rfl rfl rfl rfl fg ?_;have f5:_=Value.pointer (some ⟨Be,12,none⟩):=hJ2.v hall 5 20;have hK:=hJ2.gO hS 6 21;generalize InvQ _ _ _ _ _ _=K at hK⊢;clear ho hall hl hJ2 hS;go_simp;exact hK _ rfl
   | 7,ho=>
    cases ho;have fg:aq.tmps.getD 19 undef= .bool false:=hJ2.v hall 4 19 .guard;refine wpOp_on rfl rfl rfl rfl fg ?_;have f6:_=Value.slice eo m mc:=hJ2.v hall 6 21;have hK:=hJ2.go hS 7 22;generalize InvQ _ _ _ _ _ _=K at hK⊢;clear ho hall hl hJ2 hS;go_simp;refine(hre W (hNo.step z5)).mono ?_;rintro e v1 ⟨rfl,hBv⟩;exact hK _ _ (z5.trans (hBv.mono z5.size)) (fun j v h=>h.mono hBv) rfl
   | 8,ho=>
    cases ho;have fg:aq.tmps.getD 19 undef= .bool false:=hJ2.v hall 4 19 .guard;refine wpOp_on rfl rfl rfl rfl fg ?_;have f7:_=Value.bool true:=hJ2.v hall 7 22;have hK:=hJ2.gO hS 8 23;generalize InvQ _ _ _ _ _ _=K at hK⊢;clear ho hall hl hJ2 hS;go_simp;exact hK _ rfl
   | 9,ho=>
    cases ho;refine wpOp_of rfl rfl ?_;have f4:_=Value.bool false:=hJ2.v hall 4 19;have f8:_=Value.bool false:=hJ2.v hall 8 23;have hK:=hJ2.gO hS 9 24;generalize InvQ _ _ _ _ _ _=K at hK⊢;clear ho hall hl hJ2 hS;go_simp;exact hK _ rfl
   | 10,ho=>
    cases ho;refine wpOp_of rfl rfl ?_;have f9:_=Value.bool false:=hJ2.v hall 9 24;have hK:=hJ2.gO hS 10 25;generalize InvQ _ _ _ _ _ _=K at hK⊢;clear ho hall hl hJ2 hS;go_simp;exact hK _ rfl
   | 11,ho=>
    cases ho;have fg:aq.tmps.getD 25 undef= .bool false:=hJ2.v hall 10 25 .guard;refine wpOp_on rfl rfl rfl rfl fg ?_;have hK:=hJ2.gO hS 11 26;generalize InvQ _ _ _ _ _ _=K at hK⊢;clear ho hall hl hJ2 hS;go_simp;exact hK _ rfl
   | 12,ho=>
    cases ho;have fg:aq.tmps.getD 25 undef= .bool false:=hJ2.v hall 10 25 .guard;refine wpOp_on rfl rfl rfl rfl fg ?_;have f11:_=Value.int .i64 (c:Int):=hJ2.v hall 11 26;have hgt:(0:Int)<c:=by have ho:=hcd.out;omega
    have hK:=hJ2.go hS 12 27;generalize InvQ _ _ _ _ _ _=K at hK⊢;clear ho hall hl hJ2 hS;go_simp;exact hK _ _ z5 (fun _ _ h=>h) (by show _=_;exact congrArg Value.bool (decide_eq_true (by omega)))
   | 13,ho=>
    cases ho;have fg:aq.tmps.getD 25 undef= .bool false:=hJ2.v hall 10 25 .guard;refine wpOp_on rfl rfl rfl rfl fg ?_;have f12:_=Value.bool true:=hJ2.v hall 12 27;have hK:=hJ2.gO hS 13 28;generalize InvQ _ _ _ _ _ _=K at hK⊢;clear ho hall hl hJ2 hS;go_simp;exact hK _ rfl
   | 14,ho=>
    cases ho;have fg:aq.tmps.getD 28 undef= .bool true:=hJ2.v hall 13 28 .guard;refine wpOp_on rfl rfl rfl rfl fg ?_;have hK:=hJ2.gO hS 14 29;generalize InvQ _ _ _ _ _ _=K at hK⊢;clear ho hall hl hJ2 hS;go_simp;exact hK _ rfl
   | 15,ho=>
    cases ho;have fg:aq.tmps.getD 28 undef= .bool true:=hJ2.v hall 13 28 .guard;refine wpOp_on rfl rfl rfl rfl fg ?_;have hK:=hJ2.gO hS 15 30;generalize InvQ _ _ _ _ _ _=K at hK⊢;clear ho hall hl hJ2 hS;go_simp;exact hK _ rfl
   | 16,ho=>
    cases ho;have fg:aq.tmps.getD 28 undef= .bool true:=hJ2.v hall 13 28 .guard;refine wpOp_on rfl rfl rfl rfl fg ?_;have f15:_=Value.int .i64 (c:Int):=hJ2.v hall 15 30;have hcI:(c:Int)<n:=by omega
    have hnI:(n:Int)≤200:=by omega
    have hcz:(c:Int)=d+1:=by have ho:=hcd.out;omega
    have hwd:IntKind.i64.wrap (d:Int)=d:=by have ho:=hcd.out;rw[IntKind.wrap_i64];omega
    have hK:=hJ2.go hS 16 31;generalize InvQ _ _ _ _ _ _=K at hK⊢;clear ho hall hl hJ2 hS;go_simp;exact hK _ _ z5 (fun _ _ h=>h) (by show _=_;first | rfl | go_num)
   | 17,ho=>
    cases ho;have fg:aq.tmps.getD 28 undef= .bool true:=hJ2.v hall 13 28 .guard;refine wpOp_on rfl rfl rfl rfl fg ?_;have f14:_=Value.slice (some ⟨A,off,none⟩) n cap:=hJ2.v hall 14 29;have f16:_=Value.int .i64 (d:Int):=hJ2.v hall 16 31;have hdI:(d:Int)<n:=by have ho:=hcd.out;omega
    have hnI:(n:Int)≤200:=by omega
    have hK:=hJ2.gO hS 17 32;generalize InvQ _ _ _ _ _ _=K at hK⊢;clear ho hall hl hJ2 hS;go_simp;exact hK _ rfl
   | 18,ho=>
    cases ho;have fg:aq.tmps.getD 28 undef= .bool true:=hJ2.v hall 13 28 .guard;refine wpOp_on rfl rfl rfl rfl fg ?_;have f17:_=Value.pointer (some ⟨A,off+d*13,none⟩):=hJ2.v hall 17 32;have hK:=hJ2.gO hS 18 33;generalize InvQ _ _ _ _ _ _=K at hK⊢;clear ho hall hl hJ2 hS;go_simp;exact hK _ rfl
   | 19,ho=>
    cases ho;have fg:aq.tmps.getD 28 undef= .bool true:=hJ2.v hall 13 28 .guard;refine wpOp_on rfl rfl rfl rfl fg ?_;have f18:_=Value.pointer (some ⟨A,off+d*13,none⟩):=hJ2.v hall 18 33;have hK:=hJ2.gO hS 19 34;generalize InvQ _ _ _ _ _ _=K at hK⊢;clear ho hall hl hJ2 hS;go_simp;exact hK _ rfl
   | 20,ho=>
    cases ho;have fg:aq.tmps.getD 28 undef= .bool true:=hJ2.v hall 13 28 .guard;refine wpOp_on rfl rfl rfl rfl fg ?_;have hK:=hJ2.gO hS 20 35;generalize InvQ _ _ _ _ _ _=K at hK⊢;clear ho hall hl hJ2 hS;go_simp;exact hK _ rfl
   | 21,ho=>
    cases ho;have fg:aq.tmps.getD 28 undef= .bool true:=hJ2.v hall 13 28 .guard;refine wpOp_on rfl rfl rfl rfl fg ?_;have f20:_=Value.pointer (some ⟨Be,0,none⟩):=hJ2.v hall 20 35;have hK:=hJ2.gO hS 21 36;generalize InvQ _ _ _ _ _ _=K at hK⊢;clear ho hall hl hJ2 hS;go_simp;exact hK _ rfl
   | 22,ho=>
    cases ho;have fg:aq.tmps.getD 28 undef= .bool true:=hJ2.v hall 13 28 .guard;refine wpOp_on rfl rfl rfl rfl fg ?_;have f19:_=PV u vv t:=hJ2.v hall 19 34;have f21:_=PV x y z:=hJ2.v hall 21 36;have hK:=hJ2.go hS 22 37;generalize InvQ _ _ _ _ _ _=K at hK⊢;clear ho hall hl hJ2 hS;obtain⟨-,sx,sy,sz⟩:=ptB_small hp;obtain⟨-,su,sv,st⟩:=ptB_small hpu;go_simp;refine(order_det u vv t x y z su sv st sx sy sz W).mono ?_;rintro e v1 ⟨rfl,hBv⟩;exact hK _ _ (z5.trans (hBv.mono z5.size)) (fun j v h=>h.mono hBv) rfl
   | 23,ho=>
    cases ho;have fg:aq.tmps.getD 28 undef= .bool true:=hJ2.v hall 13 28 .guard;refine wpOp_on rfl rfl rfl rfl fg ?_;have f22:_=Value.int .i64 (ordI u vv t x y z):=hJ2.v hall 22 37;have hK:=hJ2.go hS 23 38;generalize InvQ _ _ _ _ _ _=K at hK⊢;clear ho hall hl hJ2 hS;go_simp;exact hK _ _ z5 (fun _ _ h=>h) (by show _=_;first | rfl | simp)
   | 24,ho=>
    cases ho;have fg:aq.tmps.getD 25 undef= .bool false:=hJ2.v hall 10 25 .guard;refine wpOp_on rfl rfl rfl rfl fg ?_;have f13:_=Value.bool true:=hJ2.v hall 13 28;have f23:_=Value.bool (decide (0≤ordI u vv t x y z)):=hJ2.v hall 23 38;have hK:=hJ2.gO hS 24 39;generalize InvQ _ _ _ _ _ _=K at hK⊢;clear ho hall hl hJ2 hS;go_simp;exact hK _ rfl
   | 25,ho=>
    cases ho;refine wpOp_of rfl rfl ?_;have f10:_=Value.bool false:=hJ2.v hall 10 25;have f24:_=Value.bool (decide (0≤ordI u vv t x y z)):=hJ2.v hall 24 39;have hK:=hJ2.gO hS 25 40;generalize InvQ _ _ _ _ _ _=K at hK⊢;clear ho hall hl hJ2 hS;go_simp;exact hK _ rfl
   | iq+26,ho=>simp at ho
 · intro lq aq W hJ hr;obtain⟨z1,z2,z3,z4,z5,z6,z7⟩:=hJ;have hl:=listed_of hr [0,1,2,3,4,5,6,7,8,9,10,11,12,13,14,15,16,17,18,19,20,21,22,23,24,25] [] (by simp) (by kernel_rfl) (by rw[z1];decide);exact hQ aq W z2 z3 (fun e he=>z4 e (by simpa using he)) (z6 25 40 (hl 25 (by simp)) rfl) z5
end Go.Proofs.YtbogliojkabbjaaGreat
