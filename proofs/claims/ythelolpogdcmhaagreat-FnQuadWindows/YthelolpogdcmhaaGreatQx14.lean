/- Part 14 of the walks that the proof leans on. -/
import Derived.Test.YthelolpogdcmhaaGreatQx11
import Derived.Test.YthelolpogdcmhaaGreatQx7
import Derived.Test.YthelolpogdcmhaaGreatQx13
set_option maxRecDepth 100000
set_option maxHeartbeats 16000000
namespace Go.Proofs.YthelolpogdcmhaaGreat
open Go.RowKit
theorem l1InQ_any (x a b:Int) (w:World):Calls Tryz.prog 46 #[.int .i64 x,.int .i64 a,.int .i64 b] w (VP (.bool (decide (a≤x∧x≤b))) w):=(l1In_any x a b _ rfl w).mono fun _ _ h=>h
theorem specSegQ_any (a b c d:Int) (w:World):Calls Tryz.prog 47 #[Sg a b c d] w (VP (.bool (segOk a b c d)) w):=(specSegOk_any a b c d _ rfl w).mono fun _ _ h=>h
def VrrA (P A off n cap k_:Nat) (id:Int) (_B:Nat):Nat→Value→World→Prop
 | 0,v,_=>v= .pointer (some ⟨P,2,none⟩)
 | 1,v,_=>v= .slice (some ⟨A,off,none⟩) n cap
 | 2,v,_=>v= .int .i64 (k_:Int)
 | 3,v,_=>v= .pointer (some ⟨A,off+k_*5,none⟩)
 | 4,v,_=>v= .pointer (some ⟨A,off+k_*5,none⟩)
 | 5,v,_=>v= .int .i64 id
 | 6,v,_=>v= .bool (decide (1≤id∧id≤1000))
 | 7,v,_=>v= .bool true
 | 8,v,_=>v= .bool true
 | 9,v,_=>v=undef
 | 10,v,_=>v=undef
 | 11,v,_=>v=undef
 | 12,v,_=>v=undef
 | 13,v,_=>v=undef
 | 14,v,_=>v=undef
 | 15,v,_=>v=undef
 | 16,v,_=>v=undef
 | 17,v,_=>v= .bool true
 | 18,v,_=>v= .bool true
 | 19,v,_=>v=undef
 | 20,v,_=>v=undef
 | 21,v,_=>v=undef
 | 22,v,_=>v=undef
 | 23,v,_=>v=undef
 | 24,v,_=>v=undef
 | 25,v,_=>v=undef
 | 26,v,_=>v=undef
 | 27,v,_=>v=undef
 | 28,v,_=>v=undef
 | 29,v,_=>v=undef
 | 30,v,_=>v=undef
 | 31,v,_=>v=undef
 | 32,v,_=>v=undef
 | 33,v,_=>v=undef
 | 34,v,_=>v=undef
 | 35,v,_=>v=undef
 | 36,v,_=>v=undef
 | 37,v,_=>v= .bool true
 | _,_,_=>True
theorem VrrA.mono {P A off n cap k_:Nat} {id:Int} {B j:Nat} {v:Value} {W W2:World} (_hB:Below W.heap.size W W2) (h:VrrA P A off n cap k_ id B j v W):VrrA P A off n cap k_ id B j v W2:=by
 unfold VrrA at *
 split<;>simp only at h<;>first | exact h | trivial
theorem rrA {Q:Exit→Act→World→Prop} {P A off n cap k_:Nat} {id:Int} {a bb c d:Int} {w0:World} {a0:Act} {idq:Nat} {t0 t1 t2 t3 t4 t5 t6 t7 t8 t9 t10 t11 t12 t13 t14 t15 t16 t17 t18 t19 t20 t21 t22 t23 t24 t25 t26 t27 t28 t29 t30 t31 t32 t33 t34 t35 t36 t37:TypeId} {q0 q1 q2 q3 q4 q5 q6 q7 q8 q9 q10 q11 q12 q13 q14 q15 q16 q17 q18 q19 q20 q21 q22 q23 q24 q25 q26 q27 q28 q29 q30 q31 q32 q33 q34 q35 q36 q37:String}
 (hq1:decide (1≤id∧id≤1000)=false) (hkn:k_<n) (hn:n≤40) (h1:a0.tmps[1]? =some (.pointer (some ⟨P,0,none⟩))) (h4:a0.tmps[4]? =some (.int .i64 (k_:Int))) (k0:w0.cell? ⟨P,2,none⟩=some (.slice (some ⟨A,off,none⟩) n cap)) (l0:(⟨P,2,none⟩:Addr).block<w0.heap.size) (k1:w0.cell? ⟨A,off+k_*5,none⟩=some (.int .i64 id)) (l1:(⟨A,off+k_*5,none⟩:Addr).block<w0.heap.size) (k2:w0.cell? ⟨A,off+k_*5+1,none⟩=some (.int .i64 a)) (l2:(⟨A,off+k_*5+1,none⟩:Addr).block<w0.heap.size) (k3:w0.cell? ⟨A,off+k_*5+1+1,none⟩=some (.int .i64 bb)) (l3:(⟨A,off+k_*5+1+1,none⟩:Addr).block<w0.heap.size) (k4:w0.cell? ⟨A,off+k_*5+1+2,none⟩=some (.int .i64 c)) (l4:(⟨A,off+k_*5+1+2,none⟩:Addr).block<w0.heap.size) (k5:w0.cell? ⟨A,off+k_*5+1+3,none⟩=some (.int .i64 d)) (l5:(⟨A,off+k_*5+1+3,none⟩:Addr).block<w0.heap.size) (hz:a0.tmps.size=100)
 (hQ:∀aq W,aq.tmps.size=a0.tmps.size→aq.defers=a0.defers→(∀e,e∉([34,35,36,37,38,39,40,41,42,43,44,45,46,47,48,49,50,51,52,53,54,55,56,57,58,59,60,61,62,63,64,65,66,67,68,69,70,71]:List Nat)→aq.tmps[e]? =a0.tmps[e]?)→VrrA P A off n cap k_ id w0.heap.size 37 (aq.tmps.getD 71 undef) W→Below w0.heap.size w0 W→Q .normal aq W) :
 (Code.region idq #[⟨some 34,.fieldAddr 27 (.tmp 1) 2,t0,q0,#[],none⟩,
 ⟨some 35,.load 24 (.tmp 34),t1,q1,#[⟨0,.data⟩],none⟩,
 ⟨some 36,.move (.tmp 4),t2,q2,#[],none⟩,
 ⟨some 37,.indexAddr 24 (.tmp 35) (.tmp 36),t3,q3,#[⟨1,.data⟩,⟨2,.data⟩],none⟩,
 ⟨some 38,.fieldAddr 40 (.tmp 37) 0,t4,q4,#[⟨3,.data⟩],none⟩,
 ⟨some 39,.load 2 (.tmp 38),t5,q5,#[⟨4,.data⟩],none⟩,
 ⟨some 40,.call {callee:= .value (.func 46),args:=#[.tmp 39,.const (.int .i64 1),.const (.int .i64 1000)],argTypes:=#[2,2,2]},t6,q6,#[⟨5,.data⟩],none⟩,
 ⟨some 41,.unOp .not 4 (.tmp 40),t7,q7,#[⟨6,.data⟩],none⟩,
 ⟨some 42,.move (.tmp 41),t8,q8,#[⟨7,.data⟩,⟨6,.chain⟩],none⟩,
 ⟨some 43,.fieldAddr 27 (.tmp 1) 2,t9,q9,#[⟨8,.guard⟩],some (8,false)⟩,
 ⟨some 44,.load 24 (.tmp 43),t10,q10,#[⟨9,.data⟩,⟨8,.guard⟩],some (8,false)⟩,
 ⟨some 45,.move (.tmp 4),t11,q11,#[⟨8,.guard⟩],some (8,false)⟩,
 ⟨some 46,.indexAddr 24 (.tmp 44) (.tmp 45),t12,q12,#[⟨10,.data⟩,⟨11,.data⟩,⟨8,.guard⟩],some (8,false)⟩,
 ⟨some 47,.fieldAddr 40 (.tmp 46) 1,t13,q13,#[⟨12,.data⟩,⟨8,.guard⟩],some (8,false)⟩,
 ⟨some 48,.load 38 (.tmp 47),t14,q14,#[⟨13,.data⟩,⟨8,.guard⟩],some (8,false)⟩,
 ⟨some 49,.call {callee:= .value (.func 47),args:=#[.tmp 48],argTypes:=#[38]},t15,q15,#[⟨14,.data⟩,⟨8,.chain⟩,⟨8,.guard⟩],some (8,false)⟩,
 ⟨some 50,.unOp .not 4 (.tmp 49),t16,q16,#[⟨15,.data⟩,⟨8,.guard⟩],some (8,false)⟩,
 ⟨some 51,.pick (.tmp 42) (.const (.bool true)) (.tmp 50),t17,q17,#[⟨8,.data⟩,⟨16,.data⟩],none⟩,
 ⟨some 52,.move (.tmp 51),t18,q18,#[⟨17,.data⟩,⟨15,.chain⟩],none⟩,
 ⟨some 53,.move (.tmp 4),t19,q19,#[⟨18,.guard⟩],some (18,false)⟩,
 ⟨some 54,.binOp .gtr 3 (.tmp 53) (.const (.int .i64 0)) 3,t20,q20,#[⟨19,.data⟩,⟨18,.guard⟩],some (18,false)⟩,
 ⟨some 55,.move (.tmp 54),t21,q21,#[⟨20,.data⟩,⟨18,.chain⟩,⟨18,.guard⟩],some (18,false)⟩,
 ⟨some 56,.fieldAddr 27 (.tmp 1) 2,t22,q22,#[⟨21,.guard⟩],some (21,true)⟩,
 ⟨some 57,.load 24 (.tmp 56),t23,q23,#[⟨22,.data⟩,⟨21,.guard⟩],some (21,true)⟩,
 ⟨some 58,.move (.tmp 4),t24,q24,#[⟨21,.guard⟩],some (21,true)⟩,
 ⟨some 59,.binOp .sub 3 (.tmp 58) (.const (.int .i64 1)) 3,t25,q25,#[⟨24,.data⟩,⟨21,.guard⟩],some (21,true)⟩,
 ⟨some 60,.indexAddr 24 (.tmp 57) (.tmp 59),t26,q26,#[⟨23,.data⟩,⟨25,.data⟩,⟨21,.guard⟩],some (21,true)⟩,
 ⟨some 61,.fieldAddr 40 (.tmp 60) 0,t27,q27,#[⟨26,.data⟩,⟨21,.guard⟩],some (21,true)⟩,
 ⟨some 62,.load 2 (.tmp 61),t28,q28,#[⟨27,.data⟩,⟨21,.guard⟩],some (21,true)⟩,
 ⟨some 63,.fieldAddr 27 (.tmp 1) 2,t29,q29,#[⟨21,.guard⟩],some (21,true)⟩,
 ⟨some 64,.load 24 (.tmp 63),t30,q30,#[⟨29,.data⟩,⟨21,.guard⟩],some (21,true)⟩,
 ⟨some 65,.move (.tmp 4),t31,q31,#[⟨21,.guard⟩],some (21,true)⟩,
 ⟨some 66,.indexAddr 24 (.tmp 64) (.tmp 65),t32,q32,#[⟨30,.data⟩,⟨31,.data⟩,⟨21,.guard⟩],some (21,true)⟩,
 ⟨some 67,.fieldAddr 40 (.tmp 66) 0,t33,q33,#[⟨32,.data⟩,⟨21,.guard⟩],some (21,true)⟩,
 ⟨some 68,.load 2 (.tmp 67),t34,q34,#[⟨33,.data⟩,⟨21,.guard⟩],some (21,true)⟩,
 ⟨some 69,.binOp .geq 2 (.tmp 62) (.tmp 68) 2,t35,q35,#[⟨28,.data⟩,⟨34,.data⟩,⟨21,.guard⟩],some (21,true)⟩,
 ⟨some 70,.pick (.tmp 55) (.tmp 69) (.const (.bool false)),t36,q36,#[⟨21,.data⟩,⟨35,.data⟩,⟨18,.guard⟩],some (18,false)⟩,
 ⟨some 71,.pick (.tmp 52) (.const (.bool true)) (.tmp 70),t37,q37,#[⟨18,.data⟩,⟨36,.data⟩],none⟩] true).wp Tryz.prog Q a0 w0:=by
 have hS:distS [some 34,some 35,some 36,some 37,some 38,some 39,some 40,some 41,some 42,some 43,some 44,some 45,some 46,some 47,some 48,some 49,some 50,some 51,some 52,some 53,some 54,some 55,some 56,some 57,some 58,some 59,some 60,some 61,some 62,some 63,some 64,some 65,some 66,some 67,some 68,some 69,some 70,some 71]=true:=rfl;refine wp_region_q (by kernel_rfl) w0.heap.size [some 34,some 35,some 36,some 37,some 38,some 39,some 40,some 41,some 42,some 43,some 44,some 45,some 46,some 47,some 48,some 49,some 50,some 51,some 52,some 53,some 54,some 55,some 56,some 57,some 58,some 59,some 60,some 61,some 62,some 63,some 64,some 65,some 66,some 67,some 68,some 69,some 70,some 71] (VrrA P A off n cap k_ id w0.heap.size) rfl ?_ ?_
 · intro Q lq aq W iq oq hJ2 hl ho hall;have z5:=hJ2.b;have g1:=hJ2.a h1
   have g4:=hJ2.a h4
   have c0:=hJ2.c k0 l0;have c1:=hJ2.c k1 l1;have c2:=hJ2.c k2 l2;have c3:=hJ2.c k3 l3;have c4:=hJ2.c k4 l4;have c5:=hJ2.c k5 l5
   clear hQ
   match iq,ho with
   | 0,ho=>
    cases ho;refine wpOp_of rfl rfl ?_;have hK:=hJ2.gO hS 0 34;generalize InvQ _ _ _ _ _ _=K at hK⊢;clear ho hall hl hJ2 hS;go_simp;exact hK _ rfl
   | 1,ho=>
    cases ho;refine wpOp_of rfl rfl ?_;have f0:_=Value.pointer (some ⟨P,2,none⟩):=hJ2.v hall 0 34;have hK:=hJ2.gO hS 1 35;generalize InvQ _ _ _ _ _ _=K at hK⊢;clear ho hall hl hJ2 hS;go_simp;exact hK _ rfl
   | 2,ho=>
    cases ho;refine wpOp_of rfl rfl ?_;have hK:=hJ2.gO hS 2 36;generalize InvQ _ _ _ _ _ _=K at hK⊢;clear ho hall hl hJ2 hS;go_simp;exact hK _ rfl
   | 3,ho=>
    cases ho;refine wpOp_of rfl rfl ?_;have f1:_=Value.slice (some ⟨A,off,none⟩) n cap:=hJ2.v hall 1 35;have f2:_=Value.int .i64 (k_:Int):=hJ2.v hall 2 36;have hkI0:(k_:Int)<n:=by omega
    have hnI0:(n:Int)≤40:=by omega
    have hK:=hJ2.gO hS 3 37;generalize InvQ _ _ _ _ _ _=K at hK⊢;clear ho hall hl hJ2 hS;go_simp;exact hK _ rfl
   | 4,ho=>
    cases ho;refine wpOp_of rfl rfl ?_;have f3:_=Value.pointer (some ⟨A,off+k_*5,none⟩):=hJ2.v hall 3 37;have hK:=hJ2.gO hS 4 38;generalize InvQ _ _ _ _ _ _=K at hK⊢;clear ho hall hl hJ2 hS;go_simp;exact hK _ rfl
   | 5,ho=>
    cases ho;refine wpOp_of rfl rfl ?_;have f4:_=Value.pointer (some ⟨A,off+k_*5,none⟩):=hJ2.v hall 4 38;have hK:=hJ2.gO hS 5 39;generalize InvQ _ _ _ _ _ _=K at hK⊢;clear ho hall hl hJ2 hS;go_simp;exact hK _ rfl
   | 6,ho=>
    cases ho;refine wpOp_of rfl rfl ?_;have f5:_=Value.int .i64 id:=hJ2.v hall 5 39;have hK:=hJ2.go hS 6 40;generalize InvQ _ _ _ _ _ _=K at hK⊢;clear ho hall hl hJ2 hS;go_simp;refine(l1InQ_any id 1 1000 W).mono ?_;rintro e v1 ⟨rfl,hBv⟩;exact hK _ _ (z5.trans (hBv.mono z5.size)) (fun j v h=>h.mono hBv) rfl
   | 7,ho=>
    cases ho;refine wpOp_of rfl rfl ?_;have f6:_=Value.bool (decide (1≤id∧id≤1000)):=hJ2.v hall 6 40;rw[hq1] at f6;have hK:=hJ2.gO hS 7 41;generalize InvQ _ _ _ _ _ _=K at hK⊢;clear ho hall hl hJ2 hS;go_simp;exact hK _ rfl
   | 8,ho=>
    cases ho;refine wpOp_of rfl rfl ?_;have f7:_=Value.bool true:=hJ2.v hall 7 41;have hK:=hJ2.gO hS 8 42;generalize InvQ _ _ _ _ _ _=K at hK⊢;clear ho hall hl hJ2 hS;go_simp;exact hK _ rfl
   | 9,ho=>
    cases ho;have fg:aq.tmps.getD 42 undef= .bool true:=hJ2.v hall 8 42 .guard;refine wpOp_off rfl rfl rfl rfl fg ?_;exact hJ2.put hS 9 43 rfl (by omega) z5 (fun _ _ h=>h) undef rfl
   | 10,ho=>
    cases ho;have fg:aq.tmps.getD 42 undef= .bool true:=hJ2.v hall 8 42 .guard;refine wpOp_off rfl rfl rfl rfl fg ?_;exact hJ2.put hS 10 44 rfl (by omega) z5 (fun _ _ h=>h) undef rfl
   | 11,ho=>
    cases ho;have fg:aq.tmps.getD 42 undef= .bool true:=hJ2.v hall 8 42 .guard;refine wpOp_off rfl rfl rfl rfl fg ?_;exact hJ2.put hS 11 45 rfl (by omega) z5 (fun _ _ h=>h) undef rfl
   | 12,ho=>
    cases ho;have fg:aq.tmps.getD 42 undef= .bool true:=hJ2.v hall 8 42 .guard;refine wpOp_off rfl rfl rfl rfl fg ?_;exact hJ2.put hS 12 46 rfl (by omega) z5 (fun _ _ h=>h) undef rfl
   | 13,ho=>
    cases ho;have fg:aq.tmps.getD 42 undef= .bool true:=hJ2.v hall 8 42 .guard;refine wpOp_off rfl rfl rfl rfl fg ?_;exact hJ2.put hS 13 47 rfl (by omega) z5 (fun _ _ h=>h) undef rfl
   | 14,ho=>
    cases ho;have fg:aq.tmps.getD 42 undef= .bool true:=hJ2.v hall 8 42 .guard;refine wpOp_off rfl rfl rfl rfl fg ?_;exact hJ2.put hS 14 48 rfl (by omega) z5 (fun _ _ h=>h) undef rfl
   | 15,ho=>
    cases ho;have fg:aq.tmps.getD 42 undef= .bool true:=hJ2.v hall 8 42 .guard;refine wpOp_off rfl rfl rfl rfl fg ?_;exact hJ2.put hS 15 49 rfl (by omega) z5 (fun _ _ h=>h) undef rfl
   | 16,ho=>
    cases ho;have fg:aq.tmps.getD 42 undef= .bool true:=hJ2.v hall 8 42 .guard;refine wpOp_off rfl rfl rfl rfl fg ?_;exact hJ2.put hS 16 50 rfl (by omega) z5 (fun _ _ h=>h) undef rfl
   | 17,ho=>
    cases ho;refine wpOp_of rfl rfl ?_;have f8:_=Value.bool true:=hJ2.v hall 8 42;have f16:_=undef:=hJ2.v hall 16 50;have hK:=hJ2.gO hS 17 51;generalize InvQ _ _ _ _ _ _=K at hK⊢;clear ho hall hl hJ2 hS;go_simp;exact hK _ rfl
   | 18,ho=>
    cases ho;refine wpOp_of rfl rfl ?_;have f17:_=Value.bool true:=hJ2.v hall 17 51;have hK:=hJ2.gO hS 18 52;generalize InvQ _ _ _ _ _ _=K at hK⊢;clear ho hall hl hJ2 hS;go_simp;exact hK _ rfl
   | 19,ho=>
    cases ho;have fg:aq.tmps.getD 52 undef= .bool true:=hJ2.v hall 18 52 .guard;refine wpOp_off rfl rfl rfl rfl fg ?_;exact hJ2.put hS 19 53 rfl (by omega) z5 (fun _ _ h=>h) undef rfl
   | 20,ho=>
    cases ho;have fg:aq.tmps.getD 52 undef= .bool true:=hJ2.v hall 18 52 .guard;refine wpOp_off rfl rfl rfl rfl fg ?_;exact hJ2.put hS 20 54 rfl (by omega) z5 (fun _ _ h=>h) undef rfl
   | 21,ho=>
    cases ho;have fg:aq.tmps.getD 52 undef= .bool true:=hJ2.v hall 18 52 .guard;refine wpOp_off rfl rfl rfl rfl fg ?_;exact hJ2.put hS 21 55 rfl (by omega) z5 (fun _ _ h=>h) undef rfl
   | 22,ho=>
    cases ho;have fg:aq.tmps.getD 55 undef=undef:=hJ2.v hall 21 55 .guard;refine wpOp_offu rfl rfl rfl rfl fg ?_;exact hJ2.put hS 22 56 rfl (by omega) z5 (fun _ _ h=>h) undef rfl
   | 23,ho=>
    cases ho;have fg:aq.tmps.getD 55 undef=undef:=hJ2.v hall 21 55 .guard;refine wpOp_offu rfl rfl rfl rfl fg ?_;exact hJ2.put hS 23 57 rfl (by omega) z5 (fun _ _ h=>h) undef rfl
   | 24,ho=>
    cases ho;have fg:aq.tmps.getD 55 undef=undef:=hJ2.v hall 21 55 .guard;refine wpOp_offu rfl rfl rfl rfl fg ?_;exact hJ2.put hS 24 58 rfl (by omega) z5 (fun _ _ h=>h) undef rfl
   | 25,ho=>
    cases ho;have fg:aq.tmps.getD 55 undef=undef:=hJ2.v hall 21 55 .guard;refine wpOp_offu rfl rfl rfl rfl fg ?_;exact hJ2.put hS 25 59 rfl (by omega) z5 (fun _ _ h=>h) undef rfl
   | 26,ho=>
    cases ho;have fg:aq.tmps.getD 55 undef=undef:=hJ2.v hall 21 55 .guard;refine wpOp_offu rfl rfl rfl rfl fg ?_;exact hJ2.put hS 26 60 rfl (by omega) z5 (fun _ _ h=>h) undef rfl
   | 27,ho=>
    cases ho;have fg:aq.tmps.getD 55 undef=undef:=hJ2.v hall 21 55 .guard;refine wpOp_offu rfl rfl rfl rfl fg ?_;exact hJ2.put hS 27 61 rfl (by omega) z5 (fun _ _ h=>h) undef rfl
   | 28,ho=>
    cases ho;have fg:aq.tmps.getD 55 undef=undef:=hJ2.v hall 21 55 .guard;refine wpOp_offu rfl rfl rfl rfl fg ?_;exact hJ2.put hS 28 62 rfl (by omega) z5 (fun _ _ h=>h) undef rfl
   | 29,ho=>
    cases ho;have fg:aq.tmps.getD 55 undef=undef:=hJ2.v hall 21 55 .guard;refine wpOp_offu rfl rfl rfl rfl fg ?_;exact hJ2.put hS 29 63 rfl (by omega) z5 (fun _ _ h=>h) undef rfl
   | 30,ho=>
    cases ho;have fg:aq.tmps.getD 55 undef=undef:=hJ2.v hall 21 55 .guard;refine wpOp_offu rfl rfl rfl rfl fg ?_;exact hJ2.put hS 30 64 rfl (by omega) z5 (fun _ _ h=>h) undef rfl
   | 31,ho=>
    cases ho;have fg:aq.tmps.getD 55 undef=undef:=hJ2.v hall 21 55 .guard;refine wpOp_offu rfl rfl rfl rfl fg ?_;exact hJ2.put hS 31 65 rfl (by omega) z5 (fun _ _ h=>h) undef rfl
   | 32,ho=>
    cases ho;have fg:aq.tmps.getD 55 undef=undef:=hJ2.v hall 21 55 .guard;refine wpOp_offu rfl rfl rfl rfl fg ?_;exact hJ2.put hS 32 66 rfl (by omega) z5 (fun _ _ h=>h) undef rfl
   | 33,ho=>
    cases ho;have fg:aq.tmps.getD 55 undef=undef:=hJ2.v hall 21 55 .guard;refine wpOp_offu rfl rfl rfl rfl fg ?_;exact hJ2.put hS 33 67 rfl (by omega) z5 (fun _ _ h=>h) undef rfl
   | 34,ho=>
    cases ho;have fg:aq.tmps.getD 55 undef=undef:=hJ2.v hall 21 55 .guard;refine wpOp_offu rfl rfl rfl rfl fg ?_;exact hJ2.put hS 34 68 rfl (by omega) z5 (fun _ _ h=>h) undef rfl
   | 35,ho=>
    cases ho;have fg:aq.tmps.getD 55 undef=undef:=hJ2.v hall 21 55 .guard;refine wpOp_offu rfl rfl rfl rfl fg ?_;exact hJ2.put hS 35 69 rfl (by omega) z5 (fun _ _ h=>h) undef rfl
   | 36,ho=>
    cases ho;have fg:aq.tmps.getD 52 undef= .bool true:=hJ2.v hall 18 52 .guard;refine wpOp_off rfl rfl rfl rfl fg ?_;exact hJ2.put hS 36 70 rfl (by omega) z5 (fun _ _ h=>h) undef rfl
   | 37,ho=>
    cases ho;refine wpOp_of rfl rfl ?_;have f18:_=Value.bool true:=hJ2.v hall 18 52;have f36:_=undef:=hJ2.v hall 36 70;have hK:=hJ2.gO hS 37 71;generalize InvQ _ _ _ _ _ _=K at hK⊢;clear ho hall hl hJ2 hS;go_simp;exact hK _ rfl
   | iq+38,ho=>simp at ho
 · intro lq aq W hJ hr;obtain⟨z1,z2,z3,z4,z5,z6,z7⟩:=hJ;have hl:=listed_of hr [0,1,2,3,4,5,6,7,8,9,10,11,12,13,14,15,16,17,18,19,20,21,22,23,24,25,26,27,28,29,30,31,32,33,34,35,36,37] [] (by simp) (by kernel_rfl) (by rw[z1];decide);exact hQ aq W z2 z3 (fun e he=>z4 e (by simpa using he)) (z6 37 71 (hl 37 (by simp)) rfl) z5
def VrrB (P A off n cap k_:Nat) (id a bb c d:Int) (_B:Nat):Nat→Value→World→Prop
 | 0,v,_=>v= .pointer (some ⟨P,2,none⟩)
 | 1,v,_=>v= .slice (some ⟨A,off,none⟩) n cap
 | 2,v,_=>v= .int .i64 (k_:Int)
 | 3,v,_=>v= .pointer (some ⟨A,off+k_*5,none⟩)
 | 4,v,_=>v= .pointer (some ⟨A,off+k_*5,none⟩)
 | 5,v,_=>v= .int .i64 id
 | 6,v,_=>v= .bool (decide (1≤id∧id≤1000))
 | 7,v,_=>v= .bool false
 | 8,v,_=>v= .bool false
 | 9,v,_=>v= .pointer (some ⟨P,2,none⟩)
 | 10,v,_=>v= .slice (some ⟨A,off,none⟩) n cap
 | 11,v,_=>v= .int .i64 (k_:Int)
 | 12,v,_=>v= .pointer (some ⟨A,off+k_*5,none⟩)
 | 13,v,_=>v= .pointer (some ⟨A,off+k_*5+1,none⟩)
 | 14,v,_=>v=Sg a bb c d
 | 15,v,_=>v= .bool (segOk a bb c d)
 | 16,v,_=>v= .bool true
 | 17,v,_=>v= .bool true
 | 18,v,_=>v= .bool true
 | 19,v,_=>v=undef
 | 20,v,_=>v=undef
 | 21,v,_=>v=undef
 | 22,v,_=>v=undef
 | 23,v,_=>v=undef
 | 24,v,_=>v=undef
 | 25,v,_=>v=undef
 | 26,v,_=>v=undef
 | 27,v,_=>v=undef
 | 28,v,_=>v=undef
 | 29,v,_=>v=undef
 | 30,v,_=>v=undef
 | 31,v,_=>v=undef
 | 32,v,_=>v=undef
 | 33,v,_=>v=undef
 | 34,v,_=>v=undef
 | 35,v,_=>v=undef
 | 36,v,_=>v=undef
 | 37,v,_=>v= .bool true
 | _,_,_=>True
theorem VrrB.mono {P A off n cap k_:Nat} {id a bb c d:Int} {B j:Nat} {v:Value} {W W2:World} (_hB:Below W.heap.size W W2) (h:VrrB P A off n cap k_ id a bb c d B j v W):VrrB P A off n cap k_ id a bb c d B j v W2:=by
 unfold VrrB at *
 split<;>simp only at h<;>first | exact h | trivial
theorem rrB {Q:Exit→Act→World→Prop} {P A off n cap k_:Nat} {id a bb c d:Int} {w0:World} {a0:Act} {idq:Nat} {t0 t1 t2 t3 t4 t5 t6 t7 t8 t9 t10 t11 t12 t13 t14 t15 t16 t17 t18 t19 t20 t21 t22 t23 t24 t25 t26 t27 t28 t29 t30 t31 t32 t33 t34 t35 t36 t37:TypeId} {q0 q1 q2 q3 q4 q5 q6 q7 q8 q9 q10 q11 q12 q13 q14 q15 q16 q17 q18 q19 q20 q21 q22 q23 q24 q25 q26 q27 q28 q29 q30 q31 q32 q33 q34 q35 q36 q37:String}
 (hq1:decide (1≤id∧id≤1000)=true) (hkn:k_<n) (hn:n≤40) (hq2:segOk a bb c d=false) (h1:a0.tmps[1]? =some (.pointer (some ⟨P,0,none⟩))) (h4:a0.tmps[4]? =some (.int .i64 (k_:Int))) (k0:w0.cell? ⟨P,2,none⟩=some (.slice (some ⟨A,off,none⟩) n cap)) (l0:(⟨P,2,none⟩:Addr).block<w0.heap.size) (k1:w0.cell? ⟨A,off+k_*5,none⟩=some (.int .i64 id)) (l1:(⟨A,off+k_*5,none⟩:Addr).block<w0.heap.size) (k2:w0.cell? ⟨A,off+k_*5+1,none⟩=some (.int .i64 a)) (l2:(⟨A,off+k_*5+1,none⟩:Addr).block<w0.heap.size) (k3:w0.cell? ⟨A,off+k_*5+1+1,none⟩=some (.int .i64 bb)) (l3:(⟨A,off+k_*5+1+1,none⟩:Addr).block<w0.heap.size) (k4:w0.cell? ⟨A,off+k_*5+1+2,none⟩=some (.int .i64 c)) (l4:(⟨A,off+k_*5+1+2,none⟩:Addr).block<w0.heap.size) (k5:w0.cell? ⟨A,off+k_*5+1+3,none⟩=some (.int .i64 d)) (l5:(⟨A,off+k_*5+1+3,none⟩:Addr).block<w0.heap.size) (hz:a0.tmps.size=100)
 (hQ:∀aq W,aq.tmps.size=a0.tmps.size→aq.defers=a0.defers→(∀e,e∉([34,35,36,37,38,39,40,41,42,43,44,45,46,47,48,49,50,51,52,53,54,55,56,57,58,59,60,61,62,63,64,65,66,67,68,69,70,71]:List Nat)→aq.tmps[e]? =a0.tmps[e]?)→VrrB P A off n cap k_ id a bb c d w0.heap.size 37 (aq.tmps.getD 71 undef) W→Below w0.heap.size w0 W→Q .normal aq W) :
 (Code.region idq #[⟨some 34,.fieldAddr 27 (.tmp 1) 2,t0,q0,#[],none⟩,
 ⟨some 35,.load 24 (.tmp 34),t1,q1,#[⟨0,.data⟩],none⟩,
 ⟨some 36,.move (.tmp 4),t2,q2,#[],none⟩,
 ⟨some 37,.indexAddr 24 (.tmp 35) (.tmp 36),t3,q3,#[⟨1,.data⟩,⟨2,.data⟩],none⟩,
 ⟨some 38,.fieldAddr 40 (.tmp 37) 0,t4,q4,#[⟨3,.data⟩],none⟩,
 ⟨some 39,.load 2 (.tmp 38),t5,q5,#[⟨4,.data⟩],none⟩,
 ⟨some 40,.call {callee:= .value (.func 46),args:=#[.tmp 39,.const (.int .i64 1),.const (.int .i64 1000)],argTypes:=#[2,2,2]},t6,q6,#[⟨5,.data⟩],none⟩,
 ⟨some 41,.unOp .not 4 (.tmp 40),t7,q7,#[⟨6,.data⟩],none⟩,
 ⟨some 42,.move (.tmp 41),t8,q8,#[⟨7,.data⟩,⟨6,.chain⟩],none⟩,
 ⟨some 43,.fieldAddr 27 (.tmp 1) 2,t9,q9,#[⟨8,.guard⟩],some (8,false)⟩,
 ⟨some 44,.load 24 (.tmp 43),t10,q10,#[⟨9,.data⟩,⟨8,.guard⟩],some (8,false)⟩,
 ⟨some 45,.move (.tmp 4),t11,q11,#[⟨8,.guard⟩],some (8,false)⟩,
 ⟨some 46,.indexAddr 24 (.tmp 44) (.tmp 45),t12,q12,#[⟨10,.data⟩,⟨11,.data⟩,⟨8,.guard⟩],some (8,false)⟩,
 ⟨some 47,.fieldAddr 40 (.tmp 46) 1,t13,q13,#[⟨12,.data⟩,⟨8,.guard⟩],some (8,false)⟩,
 ⟨some 48,.load 38 (.tmp 47),t14,q14,#[⟨13,.data⟩,⟨8,.guard⟩],some (8,false)⟩,
 ⟨some 49,.call {callee:= .value (.func 47),args:=#[.tmp 48],argTypes:=#[38]},t15,q15,#[⟨14,.data⟩,⟨8,.chain⟩,⟨8,.guard⟩],some (8,false)⟩,
 ⟨some 50,.unOp .not 4 (.tmp 49),t16,q16,#[⟨15,.data⟩,⟨8,.guard⟩],some (8,false)⟩,
 ⟨some 51,.pick (.tmp 42) (.const (.bool true)) (.tmp 50),t17,q17,#[⟨8,.data⟩,⟨16,.data⟩],none⟩,
 ⟨some 52,.move (.tmp 51),t18,q18,#[⟨17,.data⟩,⟨15,.chain⟩],none⟩,
 ⟨some 53,.move (.tmp 4),t19,q19,#[⟨18,.guard⟩],some (18,false)⟩,
 ⟨some 54,.binOp .gtr 3 (.tmp 53) (.const (.int .i64 0)) 3,t20,q20,#[⟨19,.data⟩,⟨18,.guard⟩],some (18,false)⟩,
 ⟨some 55,.move (.tmp 54),t21,q21,#[⟨20,.data⟩,⟨18,.chain⟩,⟨18,.guard⟩],some (18,false)⟩,
 ⟨some 56,.fieldAddr 27 (.tmp 1) 2,t22,q22,#[⟨21,.guard⟩],some (21,true)⟩,
 ⟨some 57,.load 24 (.tmp 56),t23,q23,#[⟨22,.data⟩,⟨21,.guard⟩],some (21,true)⟩,
 ⟨some 58,.move (.tmp 4),t24,q24,#[⟨21,.guard⟩],some (21,true)⟩,
 ⟨some 59,.binOp .sub 3 (.tmp 58) (.const (.int .i64 1)) 3,t25,q25,#[⟨24,.data⟩,⟨21,.guard⟩],some (21,true)⟩,
 ⟨some 60,.indexAddr 24 (.tmp 57) (.tmp 59),t26,q26,#[⟨23,.data⟩,⟨25,.data⟩,⟨21,.guard⟩],some (21,true)⟩,
 ⟨some 61,.fieldAddr 40 (.tmp 60) 0,t27,q27,#[⟨26,.data⟩,⟨21,.guard⟩],some (21,true)⟩,
 ⟨some 62,.load 2 (.tmp 61),t28,q28,#[⟨27,.data⟩,⟨21,.guard⟩],some (21,true)⟩,
 ⟨some 63,.fieldAddr 27 (.tmp 1) 2,t29,q29,#[⟨21,.guard⟩],some (21,true)⟩,
 ⟨some 64,.load 24 (.tmp 63),t30,q30,#[⟨29,.data⟩,⟨21,.guard⟩],some (21,true)⟩,
 ⟨some 65,.move (.tmp 4),t31,q31,#[⟨21,.guard⟩],some (21,true)⟩,
 ⟨some 66,.indexAddr 24 (.tmp 64) (.tmp 65),t32,q32,#[⟨30,.data⟩,⟨31,.data⟩,⟨21,.guard⟩],some (21,true)⟩,
 ⟨some 67,.fieldAddr 40 (.tmp 66) 0,t33,q33,#[⟨32,.data⟩,⟨21,.guard⟩],some (21,true)⟩,
 ⟨some 68,.load 2 (.tmp 67),t34,q34,#[⟨33,.data⟩,⟨21,.guard⟩],some (21,true)⟩,
 ⟨some 69,.binOp .geq 2 (.tmp 62) (.tmp 68) 2,t35,q35,#[⟨28,.data⟩,⟨34,.data⟩,⟨21,.guard⟩],some (21,true)⟩,
 ⟨some 70,.pick (.tmp 55) (.tmp 69) (.const (.bool false)),t36,q36,#[⟨21,.data⟩,⟨35,.data⟩,⟨18,.guard⟩],some (18,false)⟩,
 ⟨some 71,.pick (.tmp 52) (.const (.bool true)) (.tmp 70),t37,q37,#[⟨18,.data⟩,⟨36,.data⟩],none⟩] true).wp Tryz.prog Q a0 w0:=by
 have hS:distS [some 34,some 35,some 36,some 37,some 38,some 39,some 40,some 41,some 42,some 43,some 44,some 45,some 46,some 47,some 48,some 49,some 50,some 51,some 52,some 53,some 54,some 55,some 56,some 57,some 58,some 59,some 60,some 61,some 62,some 63,some 64,some 65,some 66,some 67,some 68,some 69,some 70,some 71]=true:=rfl;refine wp_region_q (by kernel_rfl) w0.heap.size [some 34,some 35,some 36,some 37,some 38,some 39,some 40,some 41,some 42,some 43,some 44,some 45,some 46,some 47,some 48,some 49,some 50,some 51,some 52,some 53,some 54,some 55,some 56,some 57,some 58,some 59,some 60,some 61,some 62,some 63,some 64,some 65,some 66,some 67,some 68,some 69,some 70,some 71] (VrrB P A off n cap k_ id a bb c d w0.heap.size) rfl ?_ ?_
 · intro Q lq aq W iq oq hJ2 hl ho hall;have z5:=hJ2.b;have g1:=hJ2.a h1
   have g4:=hJ2.a h4
   have c0:=hJ2.c k0 l0;have c1:=hJ2.c k1 l1;have c2:=hJ2.c k2 l2;have c3:=hJ2.c k3 l3;have c4:=hJ2.c k4 l4;have c5:=hJ2.c k5 l5
   clear hQ
   match iq,ho with
   | 0,ho=>
    cases ho;refine wpOp_of rfl rfl ?_;have hK:=hJ2.gO hS 0 34;generalize InvQ _ _ _ _ _ _=K at hK⊢;clear ho hall hl hJ2 hS;go_simp;exact hK _ rfl
   | 1,ho=>
    cases ho;refine wpOp_of rfl rfl ?_;have f0:_=Value.pointer (some ⟨P,2,none⟩):=hJ2.v hall 0 34;have hK:=hJ2.gO hS 1 35;generalize InvQ _ _ _ _ _ _=K at hK⊢;clear ho hall hl hJ2 hS;go_simp;exact hK _ rfl
   | 2,ho=>
    cases ho;refine wpOp_of rfl rfl ?_;have hK:=hJ2.gO hS 2 36;generalize InvQ _ _ _ _ _ _=K at hK⊢;clear ho hall hl hJ2 hS;go_simp;exact hK _ rfl
   | 3,ho=>
    cases ho;refine wpOp_of rfl rfl ?_;have f1:_=Value.slice (some ⟨A,off,none⟩) n cap:=hJ2.v hall 1 35;have f2:_=Value.int .i64 (k_:Int):=hJ2.v hall 2 36;have hkI0:(k_:Int)<n:=by omega
    have hnI0:(n:Int)≤40:=by omega
    have hK:=hJ2.gO hS 3 37;generalize InvQ _ _ _ _ _ _=K at hK⊢;clear ho hall hl hJ2 hS;go_simp;exact hK _ rfl
   | 4,ho=>
    cases ho;refine wpOp_of rfl rfl ?_;have f3:_=Value.pointer (some ⟨A,off+k_*5,none⟩):=hJ2.v hall 3 37;have hK:=hJ2.gO hS 4 38;generalize InvQ _ _ _ _ _ _=K at hK⊢;clear ho hall hl hJ2 hS;go_simp;exact hK _ rfl
   | 5,ho=>
    cases ho;refine wpOp_of rfl rfl ?_;have f4:_=Value.pointer (some ⟨A,off+k_*5,none⟩):=hJ2.v hall 4 38;have hK:=hJ2.gO hS 5 39;generalize InvQ _ _ _ _ _ _=K at hK⊢;clear ho hall hl hJ2 hS;go_simp;exact hK _ rfl
   | 6,ho=>
    cases ho;refine wpOp_of rfl rfl ?_;have f5:_=Value.int .i64 id:=hJ2.v hall 5 39;have hK:=hJ2.go hS 6 40;generalize InvQ _ _ _ _ _ _=K at hK⊢;clear ho hall hl hJ2 hS;go_simp;refine(l1InQ_any id 1 1000 W).mono ?_;rintro e v1 ⟨rfl,hBv⟩;exact hK _ _ (z5.trans (hBv.mono z5.size)) (fun j v h=>h.mono hBv) rfl
   | 7,ho=>
    cases ho;refine wpOp_of rfl rfl ?_;have f6:_=Value.bool (decide (1≤id∧id≤1000)):=hJ2.v hall 6 40;rw[hq1] at f6;have hK:=hJ2.gO hS 7 41;generalize InvQ _ _ _ _ _ _=K at hK⊢;clear ho hall hl hJ2 hS;go_simp;exact hK _ rfl
   | 8,ho=>
    cases ho;refine wpOp_of rfl rfl ?_;have f7:_=Value.bool false:=hJ2.v hall 7 41;have hK:=hJ2.gO hS 8 42;generalize InvQ _ _ _ _ _ _=K at hK⊢;clear ho hall hl hJ2 hS;go_simp;exact hK _ rfl
   | 9,ho=>
    cases ho;have fg:aq.tmps.getD 42 undef= .bool false:=hJ2.v hall 8 42 .guard;refine wpOp_on rfl rfl rfl rfl fg ?_;have hK:=hJ2.gO hS 9 43;generalize InvQ _ _ _ _ _ _=K at hK⊢;clear ho hall hl hJ2 hS;go_simp;exact hK _ rfl
   | 10,ho=>
    cases ho;have fg:aq.tmps.getD 42 undef= .bool false:=hJ2.v hall 8 42 .guard;refine wpOp_on rfl rfl rfl rfl fg ?_;have f9:_=Value.pointer (some ⟨P,2,none⟩):=hJ2.v hall 9 43;have hK:=hJ2.gO hS 10 44;generalize InvQ _ _ _ _ _ _=K at hK⊢;clear ho hall hl hJ2 hS;go_simp;exact hK _ rfl
   | 11,ho=>
    cases ho;have fg:aq.tmps.getD 42 undef= .bool false:=hJ2.v hall 8 42 .guard;refine wpOp_on rfl rfl rfl rfl fg ?_;have hK:=hJ2.gO hS 11 45;generalize InvQ _ _ _ _ _ _=K at hK⊢;clear ho hall hl hJ2 hS;go_simp;exact hK _ rfl
   | 12,ho=>
    cases ho;have fg:aq.tmps.getD 42 undef= .bool false:=hJ2.v hall 8 42 .guard;refine wpOp_on rfl rfl rfl rfl fg ?_;have f10:_=Value.slice (some ⟨A,off,none⟩) n cap:=hJ2.v hall 10 44;have f11:_=Value.int .i64 (k_:Int):=hJ2.v hall 11 45;have hkI0:(k_:Int)<n:=by omega
    have hnI0:(n:Int)≤40:=by omega
    have hK:=hJ2.gO hS 12 46;generalize InvQ _ _ _ _ _ _=K at hK⊢;clear ho hall hl hJ2 hS;go_simp;exact hK _ rfl
   | 13,ho=>
    cases ho;have fg:aq.tmps.getD 42 undef= .bool false:=hJ2.v hall 8 42 .guard;refine wpOp_on rfl rfl rfl rfl fg ?_;have f12:_=Value.pointer (some ⟨A,off+k_*5,none⟩):=hJ2.v hall 12 46;have hK:=hJ2.gO hS 13 47;generalize InvQ _ _ _ _ _ _=K at hK⊢;clear ho hall hl hJ2 hS;go_simp;exact hK _ rfl
   | 14,ho=>
    cases ho;have fg:aq.tmps.getD 42 undef= .bool false:=hJ2.v hall 8 42 .guard;refine wpOp_on rfl rfl rfl rfl fg ?_;have f13:_=Value.pointer (some ⟨A,off+k_*5+1,none⟩):=hJ2.v hall 13 47;have hK:=hJ2.gO hS 14 48;generalize InvQ _ _ _ _ _ _=K at hK⊢;clear ho hall hl hJ2 hS;go_simp;exact hK _ rfl
   | 15,ho=>
    cases ho;have fg:aq.tmps.getD 42 undef= .bool false:=hJ2.v hall 8 42 .guard;refine wpOp_on rfl rfl rfl rfl fg ?_;have f14:_=Sg a bb c d:=hJ2.v hall 14 48;have hK:=hJ2.go hS 15 49;generalize InvQ _ _ _ _ _ _=K at hK⊢;clear ho hall hl hJ2 hS;go_simp;refine(specSegQ_any a bb c d W).mono ?_;rintro e v1 ⟨rfl,hBv⟩;exact hK _ _ (z5.trans (hBv.mono z5.size)) (fun j v h=>h.mono hBv) rfl
   | 16,ho=>
    cases ho;have fg:aq.tmps.getD 42 undef= .bool false:=hJ2.v hall 8 42 .guard;refine wpOp_on rfl rfl rfl rfl fg ?_;have f15:_=Value.bool (segOk a bb c d):=hJ2.v hall 15 49;rw[hq2] at f15;have hK:=hJ2.gO hS 16 50;generalize InvQ _ _ _ _ _ _=K at hK⊢;clear ho hall hl hJ2 hS;go_simp;exact hK _ rfl
   | 17,ho=>
    cases ho;refine wpOp_of rfl rfl ?_;have f8:_=Value.bool false:=hJ2.v hall 8 42;have f16:_=Value.bool true:=hJ2.v hall 16 50;have hK:=hJ2.gO hS 17 51;generalize InvQ _ _ _ _ _ _=K at hK⊢;clear ho hall hl hJ2 hS;go_simp;exact hK _ rfl
   | 18,ho=>
    cases ho;refine wpOp_of rfl rfl ?_;have f17:_=Value.bool true:=hJ2.v hall 17 51;have hK:=hJ2.gO hS 18 52;generalize InvQ _ _ _ _ _ _=K at hK⊢;clear ho hall hl hJ2 hS;go_simp;exact hK _ rfl
   | 19,ho=>
    cases ho;have fg:aq.tmps.getD 52 undef= .bool true:=hJ2.v hall 18 52 .guard;refine wpOp_off rfl rfl rfl rfl fg ?_;exact hJ2.put hS 19 53 rfl (by omega) z5 (fun _ _ h=>h) undef rfl
   | 20,ho=>
    cases ho;have fg:aq.tmps.getD 52 undef= .bool true:=hJ2.v hall 18 52 .guard;refine wpOp_off rfl rfl rfl rfl fg ?_;exact hJ2.put hS 20 54 rfl (by omega) z5 (fun _ _ h=>h) undef rfl
   | 21,ho=>
    cases ho;have fg:aq.tmps.getD 52 undef= .bool true:=hJ2.v hall 18 52 .guard;refine wpOp_off rfl rfl rfl rfl fg ?_;exact hJ2.put hS 21 55 rfl (by omega) z5 (fun _ _ h=>h) undef rfl
   | 22,ho=>
    cases ho;have fg:aq.tmps.getD 55 undef=undef:=hJ2.v hall 21 55 .guard;refine wpOp_offu rfl rfl rfl rfl fg ?_;exact hJ2.put hS 22 56 rfl (by omega) z5 (fun _ _ h=>h) undef rfl
   | 23,ho=>
    cases ho;have fg:aq.tmps.getD 55 undef=undef:=hJ2.v hall 21 55 .guard;refine wpOp_offu rfl rfl rfl rfl fg ?_;exact hJ2.put hS 23 57 rfl (by omega) z5 (fun _ _ h=>h) undef rfl
   | 24,ho=>
    cases ho;have fg:aq.tmps.getD 55 undef=undef:=hJ2.v hall 21 55 .guard;refine wpOp_offu rfl rfl rfl rfl fg ?_;exact hJ2.put hS 24 58 rfl (by omega) z5 (fun _ _ h=>h) undef rfl
   | 25,ho=>
    cases ho;have fg:aq.tmps.getD 55 undef=undef:=hJ2.v hall 21 55 .guard;refine wpOp_offu rfl rfl rfl rfl fg ?_;exact hJ2.put hS 25 59 rfl (by omega) z5 (fun _ _ h=>h) undef rfl
   | 26,ho=>
    cases ho;have fg:aq.tmps.getD 55 undef=undef:=hJ2.v hall 21 55 .guard;refine wpOp_offu rfl rfl rfl rfl fg ?_;exact hJ2.put hS 26 60 rfl (by omega) z5 (fun _ _ h=>h) undef rfl
   | 27,ho=>
    cases ho;have fg:aq.tmps.getD 55 undef=undef:=hJ2.v hall 21 55 .guard;refine wpOp_offu rfl rfl rfl rfl fg ?_;exact hJ2.put hS 27 61 rfl (by omega) z5 (fun _ _ h=>h) undef rfl
   | 28,ho=>
    cases ho;have fg:aq.tmps.getD 55 undef=undef:=hJ2.v hall 21 55 .guard;refine wpOp_offu rfl rfl rfl rfl fg ?_;exact hJ2.put hS 28 62 rfl (by omega) z5 (fun _ _ h=>h) undef rfl
   | 29,ho=>
    cases ho;have fg:aq.tmps.getD 55 undef=undef:=hJ2.v hall 21 55 .guard;refine wpOp_offu rfl rfl rfl rfl fg ?_;exact hJ2.put hS 29 63 rfl (by omega) z5 (fun _ _ h=>h) undef rfl
   | 30,ho=>
    cases ho;have fg:aq.tmps.getD 55 undef=undef:=hJ2.v hall 21 55 .guard;refine wpOp_offu rfl rfl rfl rfl fg ?_;exact hJ2.put hS 30 64 rfl (by omega) z5 (fun _ _ h=>h) undef rfl
   | 31,ho=>
    cases ho;have fg:aq.tmps.getD 55 undef=undef:=hJ2.v hall 21 55 .guard;refine wpOp_offu rfl rfl rfl rfl fg ?_;exact hJ2.put hS 31 65 rfl (by omega) z5 (fun _ _ h=>h) undef rfl
   | 32,ho=>
    cases ho;have fg:aq.tmps.getD 55 undef=undef:=hJ2.v hall 21 55 .guard;refine wpOp_offu rfl rfl rfl rfl fg ?_;exact hJ2.put hS 32 66 rfl (by omega) z5 (fun _ _ h=>h) undef rfl
   | 33,ho=>
    cases ho;have fg:aq.tmps.getD 55 undef=undef:=hJ2.v hall 21 55 .guard;refine wpOp_offu rfl rfl rfl rfl fg ?_;exact hJ2.put hS 33 67 rfl (by omega) z5 (fun _ _ h=>h) undef rfl
   | 34,ho=>
    cases ho;have fg:aq.tmps.getD 55 undef=undef:=hJ2.v hall 21 55 .guard;refine wpOp_offu rfl rfl rfl rfl fg ?_;exact hJ2.put hS 34 68 rfl (by omega) z5 (fun _ _ h=>h) undef rfl
   | 35,ho=>
    cases ho;have fg:aq.tmps.getD 55 undef=undef:=hJ2.v hall 21 55 .guard;refine wpOp_offu rfl rfl rfl rfl fg ?_;exact hJ2.put hS 35 69 rfl (by omega) z5 (fun _ _ h=>h) undef rfl
   | 36,ho=>
    cases ho;have fg:aq.tmps.getD 52 undef= .bool true:=hJ2.v hall 18 52 .guard;refine wpOp_off rfl rfl rfl rfl fg ?_;exact hJ2.put hS 36 70 rfl (by omega) z5 (fun _ _ h=>h) undef rfl
   | 37,ho=>
    cases ho;refine wpOp_of rfl rfl ?_;have f18:_=Value.bool true:=hJ2.v hall 18 52;have f36:_=undef:=hJ2.v hall 36 70;have hK:=hJ2.gO hS 37 71;generalize InvQ _ _ _ _ _ _=K at hK⊢;clear ho hall hl hJ2 hS;go_simp;exact hK _ rfl
   | iq+38,ho=>simp at ho
 · intro lq aq W hJ hr;obtain⟨z1,z2,z3,z4,z5,z6,z7⟩:=hJ;have hl:=listed_of hr [0,1,2,3,4,5,6,7,8,9,10,11,12,13,14,15,16,17,18,19,20,21,22,23,24,25,26,27,28,29,30,31,32,33,34,35,36,37] [] (by simp) (by kernel_rfl) (by rw[z1];decide);exact hQ aq W z2 z3 (fun e he=>z4 e (by simpa using he)) (z6 37 71 (hl 37 (by simp)) rfl) z5
def VrrC (P A off n cap k_:Nat) (id a bb c d:Int) (_B:Nat):Nat→Value→World→Prop
 | 0,v,_=>v= .pointer (some ⟨P,2,none⟩)
 | 1,v,_=>v= .slice (some ⟨A,off,none⟩) n cap
 | 2,v,_=>v= .int .i64 (k_:Int)
 | 3,v,_=>v= .pointer (some ⟨A,off+k_*5,none⟩)
 | 4,v,_=>v= .pointer (some ⟨A,off+k_*5,none⟩)
 | 5,v,_=>v= .int .i64 id
 | 6,v,_=>v= .bool (decide (1≤id∧id≤1000))
 | 7,v,_=>v= .bool false
 | 8,v,_=>v= .bool false
 | 9,v,_=>v= .pointer (some ⟨P,2,none⟩)
 | 10,v,_=>v= .slice (some ⟨A,off,none⟩) n cap
 | 11,v,_=>v= .int .i64 (k_:Int)
 | 12,v,_=>v= .pointer (some ⟨A,off+k_*5,none⟩)
 | 13,v,_=>v= .pointer (some ⟨A,off+k_*5+1,none⟩)
 | 14,v,_=>v=Sg a bb c d
 | 15,v,_=>v= .bool (segOk a bb c d)
 | 16,v,_=>v= .bool false
 | 17,v,_=>v= .bool false
 | 18,v,_=>v= .bool false
 | 19,v,_=>v= .int .i64 (k_:Int)
 | 20,v,_=>v= .bool false
 | 21,v,_=>v= .bool false
 | 22,v,_=>v=undef
 | 23,v,_=>v=undef
 | 24,v,_=>v=undef
 | 25,v,_=>v=undef
 | 26,v,_=>v=undef
 | 27,v,_=>v=undef
 | 28,v,_=>v=undef
 | 29,v,_=>v=undef
 | 30,v,_=>v=undef
 | 31,v,_=>v=undef
 | 32,v,_=>v=undef
 | 33,v,_=>v=undef
 | 34,v,_=>v=undef
 | 35,v,_=>v=undef
 | 36,v,_=>v= .bool false
 | 37,v,_=>v= .bool false
 | _,_,_=>True
theorem VrrC.mono {P A off n cap k_:Nat} {id a bb c d:Int} {B j:Nat} {v:Value} {W W2:World} (_hB:Below W.heap.size W W2) (h:VrrC P A off n cap k_ id a bb c d B j v W):VrrC P A off n cap k_ id a bb c d B j v W2:=by
 unfold VrrC at *
 split<;>simp only at h<;>first | exact h | trivial
theorem rrC {Q:Exit→Act→World→Prop} {P A off n cap k_:Nat} {id a bb c d:Int} {w0:World} {a0:Act} {idq:Nat} {t0 t1 t2 t3 t4 t5 t6 t7 t8 t9 t10 t11 t12 t13 t14 t15 t16 t17 t18 t19 t20 t21 t22 t23 t24 t25 t26 t27 t28 t29 t30 t31 t32 t33 t34 t35 t36 t37:TypeId} {q0 q1 q2 q3 q4 q5 q6 q7 q8 q9 q10 q11 q12 q13 q14 q15 q16 q17 q18 q19 q20 q21 q22 q23 q24 q25 q26 q27 q28 q29 q30 q31 q32 q33 q34 q35 q36 q37:String}
 (hq1:decide (1≤id∧id≤1000)=true) (hkn:k_<n) (hn:n≤40) (hq2:segOk a bb c d=true) (hk0:Hid (k_=0)) (h1:a0.tmps[1]? =some (.pointer (some ⟨P,0,none⟩))) (h4:a0.tmps[4]? =some (.int .i64 (k_:Int))) (k0:w0.cell? ⟨P,2,none⟩=some (.slice (some ⟨A,off,none⟩) n cap)) (l0:(⟨P,2,none⟩:Addr).block<w0.heap.size) (k1:w0.cell? ⟨A,off+k_*5,none⟩=some (.int .i64 id)) (l1:(⟨A,off+k_*5,none⟩:Addr).block<w0.heap.size) (k2:w0.cell? ⟨A,off+k_*5+1,none⟩=some (.int .i64 a)) (l2:(⟨A,off+k_*5+1,none⟩:Addr).block<w0.heap.size) (k3:w0.cell? ⟨A,off+k_*5+1+1,none⟩=some (.int .i64 bb)) (l3:(⟨A,off+k_*5+1+1,none⟩:Addr).block<w0.heap.size) (k4:w0.cell? ⟨A,off+k_*5+1+2,none⟩=some (.int .i64 c)) (l4:(⟨A,off+k_*5+1+2,none⟩:Addr).block<w0.heap.size) (k5:w0.cell? ⟨A,off+k_*5+1+3,none⟩=some (.int .i64 d)) (l5:(⟨A,off+k_*5+1+3,none⟩:Addr).block<w0.heap.size) (hz:a0.tmps.size=100)
 (hQ:∀aq W,aq.tmps.size=a0.tmps.size→aq.defers=a0.defers→(∀e,e∉([34,35,36,37,38,39,40,41,42,43,44,45,46,47,48,49,50,51,52,53,54,55,56,57,58,59,60,61,62,63,64,65,66,67,68,69,70,71]:List Nat)→aq.tmps[e]? =a0.tmps[e]?)→VrrC P A off n cap k_ id a bb c d w0.heap.size 37 (aq.tmps.getD 71 undef) W→Below w0.heap.size w0 W→Q .normal aq W) :
 (Code.region idq #[⟨some 34,.fieldAddr 27 (.tmp 1) 2,t0,q0,#[],none⟩,
 ⟨some 35,.load 24 (.tmp 34),t1,q1,#[⟨0,.data⟩],none⟩,
 ⟨some 36,.move (.tmp 4),t2,q2,#[],none⟩,
 ⟨some 37,.indexAddr 24 (.tmp 35) (.tmp 36),t3,q3,#[⟨1,.data⟩,⟨2,.data⟩],none⟩,
 ⟨some 38,.fieldAddr 40 (.tmp 37) 0,t4,q4,#[⟨3,.data⟩],none⟩,
 ⟨some 39,.load 2 (.tmp 38),t5,q5,#[⟨4,.data⟩],none⟩,
 ⟨some 40,.call {callee:= .value (.func 46),args:=#[.tmp 39,.const (.int .i64 1),.const (.int .i64 1000)],argTypes:=#[2,2,2]},t6,q6,#[⟨5,.data⟩],none⟩,
 ⟨some 41,.unOp .not 4 (.tmp 40),t7,q7,#[⟨6,.data⟩],none⟩,
 ⟨some 42,.move (.tmp 41),t8,q8,#[⟨7,.data⟩,⟨6,.chain⟩],none⟩,
 ⟨some 43,.fieldAddr 27 (.tmp 1) 2,t9,q9,#[⟨8,.guard⟩],some (8,false)⟩,
 ⟨some 44,.load 24 (.tmp 43),t10,q10,#[⟨9,.data⟩,⟨8,.guard⟩],some (8,false)⟩,
 ⟨some 45,.move (.tmp 4),t11,q11,#[⟨8,.guard⟩],some (8,false)⟩,
 ⟨some 46,.indexAddr 24 (.tmp 44) (.tmp 45),t12,q12,#[⟨10,.data⟩,⟨11,.data⟩,⟨8,.guard⟩],some (8,false)⟩,
 ⟨some 47,.fieldAddr 40 (.tmp 46) 1,t13,q13,#[⟨12,.data⟩,⟨8,.guard⟩],some (8,false)⟩,
 ⟨some 48,.load 38 (.tmp 47),t14,q14,#[⟨13,.data⟩,⟨8,.guard⟩],some (8,false)⟩,
 ⟨some 49,.call {callee:= .value (.func 47),args:=#[.tmp 48],argTypes:=#[38]},t15,q15,#[⟨14,.data⟩,⟨8,.chain⟩,⟨8,.guard⟩],some (8,false)⟩,
 ⟨some 50,.unOp .not 4 (.tmp 49),t16,q16,#[⟨15,.data⟩,⟨8,.guard⟩],some (8,false)⟩,
 ⟨some 51,.pick (.tmp 42) (.const (.bool true)) (.tmp 50),t17,q17,#[⟨8,.data⟩,⟨16,.data⟩],none⟩,
 ⟨some 52,.move (.tmp 51),t18,q18,#[⟨17,.data⟩,⟨15,.chain⟩],none⟩,
 ⟨some 53,.move (.tmp 4),t19,q19,#[⟨18,.guard⟩],some (18,false)⟩,
 ⟨some 54,.binOp .gtr 3 (.tmp 53) (.const (.int .i64 0)) 3,t20,q20,#[⟨19,.data⟩,⟨18,.guard⟩],some (18,false)⟩,
 ⟨some 55,.move (.tmp 54),t21,q21,#[⟨20,.data⟩,⟨18,.chain⟩,⟨18,.guard⟩],some (18,false)⟩,
 ⟨some 56,.fieldAddr 27 (.tmp 1) 2,t22,q22,#[⟨21,.guard⟩],some (21,true)⟩,
 ⟨some 57,.load 24 (.tmp 56),t23,q23,#[⟨22,.data⟩,⟨21,.guard⟩],some (21,true)⟩,
 ⟨some 58,.move (.tmp 4),t24,q24,#[⟨21,.guard⟩],some (21,true)⟩,
 ⟨some 59,.binOp .sub 3 (.tmp 58) (.const (.int .i64 1)) 3,t25,q25,#[⟨24,.data⟩,⟨21,.guard⟩],some (21,true)⟩,
 ⟨some 60,.indexAddr 24 (.tmp 57) (.tmp 59),t26,q26,#[⟨23,.data⟩,⟨25,.data⟩,⟨21,.guard⟩],some (21,true)⟩,
 ⟨some 61,.fieldAddr 40 (.tmp 60) 0,t27,q27,#[⟨26,.data⟩,⟨21,.guard⟩],some (21,true)⟩,
 ⟨some 62,.load 2 (.tmp 61),t28,q28,#[⟨27,.data⟩,⟨21,.guard⟩],some (21,true)⟩,
 ⟨some 63,.fieldAddr 27 (.tmp 1) 2,t29,q29,#[⟨21,.guard⟩],some (21,true)⟩,
 ⟨some 64,.load 24 (.tmp 63),t30,q30,#[⟨29,.data⟩,⟨21,.guard⟩],some (21,true)⟩,
 ⟨some 65,.move (.tmp 4),t31,q31,#[⟨21,.guard⟩],some (21,true)⟩,
 ⟨some 66,.indexAddr 24 (.tmp 64) (.tmp 65),t32,q32,#[⟨30,.data⟩,⟨31,.data⟩,⟨21,.guard⟩],some (21,true)⟩,
 ⟨some 67,.fieldAddr 40 (.tmp 66) 0,t33,q33,#[⟨32,.data⟩,⟨21,.guard⟩],some (21,true)⟩,
 ⟨some 68,.load 2 (.tmp 67),t34,q34,#[⟨33,.data⟩,⟨21,.guard⟩],some (21,true)⟩,
 ⟨some 69,.binOp .geq 2 (.tmp 62) (.tmp 68) 2,t35,q35,#[⟨28,.data⟩,⟨34,.data⟩,⟨21,.guard⟩],some (21,true)⟩,
 ⟨some 70,.pick (.tmp 55) (.tmp 69) (.const (.bool false)),t36,q36,#[⟨21,.data⟩,⟨35,.data⟩,⟨18,.guard⟩],some (18,false)⟩,
 ⟨some 71,.pick (.tmp 52) (.const (.bool true)) (.tmp 70),t37,q37,#[⟨18,.data⟩,⟨36,.data⟩],none⟩] true).wp Tryz.prog Q a0 w0:=by
 have hS:distS [some 34,some 35,some 36,some 37,some 38,some 39,some 40,some 41,some 42,some 43,some 44,some 45,some 46,some 47,some 48,some 49,some 50,some 51,some 52,some 53,some 54,some 55,some 56,some 57,some 58,some 59,some 60,some 61,some 62,some 63,some 64,some 65,some 66,some 67,some 68,some 69,some 70,some 71]=true:=rfl;refine wp_region_q (by kernel_rfl) w0.heap.size [some 34,some 35,some 36,some 37,some 38,some 39,some 40,some 41,some 42,some 43,some 44,some 45,some 46,some 47,some 48,some 49,some 50,some 51,some 52,some 53,some 54,some 55,some 56,some 57,some 58,some 59,some 60,some 61,some 62,some 63,some 64,some 65,some 66,some 67,some 68,some 69,some 70,some 71] (VrrC P A off n cap k_ id a bb c d w0.heap.size) rfl ?_ ?_
 · intro Q lq aq W iq oq hJ2 hl ho hall;have z5:=hJ2.b;have g1:=hJ2.a h1
   have g4:=hJ2.a h4
   have c0:=hJ2.c k0 l0;have c1:=hJ2.c k1 l1;have c2:=hJ2.c k2 l2;have c3:=hJ2.c k3 l3;have c4:=hJ2.c k4 l4;have c5:=hJ2.c k5 l5
   clear hQ
   match iq,ho with
   | 0,ho=>
    cases ho;refine wpOp_of rfl rfl ?_;have hK:=hJ2.gO hS 0 34;generalize InvQ _ _ _ _ _ _=K at hK⊢;clear ho hall hl hJ2 hS;go_simp;exact hK _ rfl
   | 1,ho=>
    cases ho;refine wpOp_of rfl rfl ?_;have f0:_=Value.pointer (some ⟨P,2,none⟩):=hJ2.v hall 0 34;have hK:=hJ2.gO hS 1 35;generalize InvQ _ _ _ _ _ _=K at hK⊢;clear ho hall hl hJ2 hS;go_simp;exact hK _ rfl
   | 2,ho=>
    cases ho;refine wpOp_of rfl rfl ?_;have hK:=hJ2.gO hS 2 36;generalize InvQ _ _ _ _ _ _=K at hK⊢;clear ho hall hl hJ2 hS;go_simp;exact hK _ rfl
   | 3,ho=>
    cases ho;refine wpOp_of rfl rfl ?_;have f1:_=Value.slice (some ⟨A,off,none⟩) n cap:=hJ2.v hall 1 35;have f2:_=Value.int .i64 (k_:Int):=hJ2.v hall 2 36;have hkI0:(k_:Int)<n:=by omega
    have hnI0:(n:Int)≤40:=by omega
    have hK:=hJ2.gO hS 3 37;generalize InvQ _ _ _ _ _ _=K at hK⊢;clear ho hall hl hJ2 hS;go_simp;exact hK _ rfl
   | 4,ho=>
    cases ho;refine wpOp_of rfl rfl ?_;have f3:_=Value.pointer (some ⟨A,off+k_*5,none⟩):=hJ2.v hall 3 37;have hK:=hJ2.gO hS 4 38;generalize InvQ _ _ _ _ _ _=K at hK⊢;clear ho hall hl hJ2 hS;go_simp;exact hK _ rfl
   | 5,ho=>
    cases ho;refine wpOp_of rfl rfl ?_;have f4:_=Value.pointer (some ⟨A,off+k_*5,none⟩):=hJ2.v hall 4 38;have hK:=hJ2.gO hS 5 39;generalize InvQ _ _ _ _ _ _=K at hK⊢;clear ho hall hl hJ2 hS;go_simp;exact hK _ rfl
   | 6,ho=>
    cases ho;refine wpOp_of rfl rfl ?_;have f5:_=Value.int .i64 id:=hJ2.v hall 5 39;have hK:=hJ2.go hS 6 40;generalize InvQ _ _ _ _ _ _=K at hK⊢;clear ho hall hl hJ2 hS;go_simp;refine(l1InQ_any id 1 1000 W).mono ?_;rintro e v1 ⟨rfl,hBv⟩;exact hK _ _ (z5.trans (hBv.mono z5.size)) (fun j v h=>h.mono hBv) rfl
   | 7,ho=>
    cases ho;refine wpOp_of rfl rfl ?_;have f6:_=Value.bool (decide (1≤id∧id≤1000)):=hJ2.v hall 6 40;rw[hq1] at f6;have hK:=hJ2.gO hS 7 41;generalize InvQ _ _ _ _ _ _=K at hK⊢;clear ho hall hl hJ2 hS;go_simp;exact hK _ rfl
   | 8,ho=>
    cases ho;refine wpOp_of rfl rfl ?_;have f7:_=Value.bool false:=hJ2.v hall 7 41;have hK:=hJ2.gO hS 8 42;generalize InvQ _ _ _ _ _ _=K at hK⊢;clear ho hall hl hJ2 hS;go_simp;exact hK _ rfl
   | 9,ho=>
    cases ho;have fg:aq.tmps.getD 42 undef= .bool false:=hJ2.v hall 8 42 .guard;refine wpOp_on rfl rfl rfl rfl fg ?_;have hK:=hJ2.gO hS 9 43;generalize InvQ _ _ _ _ _ _=K at hK⊢;clear ho hall hl hJ2 hS;go_simp;exact hK _ rfl
   | 10,ho=>
    cases ho;have fg:aq.tmps.getD 42 undef= .bool false:=hJ2.v hall 8 42 .guard;refine wpOp_on rfl rfl rfl rfl fg ?_;have f9:_=Value.pointer (some ⟨P,2,none⟩):=hJ2.v hall 9 43;have hK:=hJ2.gO hS 10 44;generalize InvQ _ _ _ _ _ _=K at hK⊢;clear ho hall hl hJ2 hS;go_simp;exact hK _ rfl
   | 11,ho=>
    cases ho;have fg:aq.tmps.getD 42 undef= .bool false:=hJ2.v hall 8 42 .guard;refine wpOp_on rfl rfl rfl rfl fg ?_;have hK:=hJ2.gO hS 11 45;generalize InvQ _ _ _ _ _ _=K at hK⊢;clear ho hall hl hJ2 hS;go_simp;exact hK _ rfl
   | 12,ho=>
    cases ho;have fg:aq.tmps.getD 42 undef= .bool false:=hJ2.v hall 8 42 .guard;refine wpOp_on rfl rfl rfl rfl fg ?_;have f10:_=Value.slice (some ⟨A,off,none⟩) n cap:=hJ2.v hall 10 44;have f11:_=Value.int .i64 (k_:Int):=hJ2.v hall 11 45;have hkI0:(k_:Int)<n:=by omega
    have hnI0:(n:Int)≤40:=by omega
    have hK:=hJ2.gO hS 12 46;generalize InvQ _ _ _ _ _ _=K at hK⊢;clear ho hall hl hJ2 hS;go_simp;exact hK _ rfl
   | 13,ho=>
    cases ho;have fg:aq.tmps.getD 42 undef= .bool false:=hJ2.v hall 8 42 .guard;refine wpOp_on rfl rfl rfl rfl fg ?_;have f12:_=Value.pointer (some ⟨A,off+k_*5,none⟩):=hJ2.v hall 12 46;have hK:=hJ2.gO hS 13 47;generalize InvQ _ _ _ _ _ _=K at hK⊢;clear ho hall hl hJ2 hS;go_simp;exact hK _ rfl
   | 14,ho=>
    cases ho;have fg:aq.tmps.getD 42 undef= .bool false:=hJ2.v hall 8 42 .guard;refine wpOp_on rfl rfl rfl rfl fg ?_;have f13:_=Value.pointer (some ⟨A,off+k_*5+1,none⟩):=hJ2.v hall 13 47;have hK:=hJ2.gO hS 14 48;generalize InvQ _ _ _ _ _ _=K at hK⊢;clear ho hall hl hJ2 hS;go_simp;exact hK _ rfl
   | 15,ho=>
    cases ho;have fg:aq.tmps.getD 42 undef= .bool false:=hJ2.v hall 8 42 .guard;refine wpOp_on rfl rfl rfl rfl fg ?_;have f14:_=Sg a bb c d:=hJ2.v hall 14 48;have hK:=hJ2.go hS 15 49;generalize InvQ _ _ _ _ _ _=K at hK⊢;clear ho hall hl hJ2 hS;go_simp;refine(specSegQ_any a bb c d W).mono ?_;rintro e v1 ⟨rfl,hBv⟩;exact hK _ _ (z5.trans (hBv.mono z5.size)) (fun j v h=>h.mono hBv) rfl
   | 16,ho=>
    cases ho;have fg:aq.tmps.getD 42 undef= .bool false:=hJ2.v hall 8 42 .guard;refine wpOp_on rfl rfl rfl rfl fg ?_;have f15:_=Value.bool (segOk a bb c d):=hJ2.v hall 15 49;rw[hq2] at f15;have hK:=hJ2.gO hS 16 50;generalize InvQ _ _ _ _ _ _=K at hK⊢;clear ho hall hl hJ2 hS;go_simp;exact hK _ rfl
   | 17,ho=>
    cases ho;refine wpOp_of rfl rfl ?_;have f8:_=Value.bool false:=hJ2.v hall 8 42;have f16:_=Value.bool false:=hJ2.v hall 16 50;have hK:=hJ2.gO hS 17 51;generalize InvQ _ _ _ _ _ _=K at hK⊢;clear ho hall hl hJ2 hS;go_simp;exact hK _ rfl
   | 18,ho=>
    cases ho;refine wpOp_of rfl rfl ?_;have f17:_=Value.bool false:=hJ2.v hall 17 51;have hK:=hJ2.gO hS 18 52;generalize InvQ _ _ _ _ _ _=K at hK⊢;clear ho hall hl hJ2 hS;go_simp;exact hK _ rfl
   | 19,ho=>
    cases ho;have fg:aq.tmps.getD 52 undef= .bool false:=hJ2.v hall 18 52 .guard;refine wpOp_on rfl rfl rfl rfl fg ?_;have hK:=hJ2.gO hS 19 53;generalize InvQ _ _ _ _ _ _=K at hK⊢;clear ho hall hl hJ2 hS;go_simp;exact hK _ rfl
   | 20,ho=>
    cases ho;have fg:aq.tmps.getD 52 undef= .bool false:=hJ2.v hall 18 52 .guard;refine wpOp_on rfl rfl rfl rfl fg ?_;have f19:_=Value.int .i64 (k_:Int):=hJ2.v hall 19 53;have hgt:(k_:Int)≤0:=by have ho:=hk0.out;omega
    have hK:=hJ2.go hS 20 54;generalize InvQ _ _ _ _ _ _=K at hK⊢;clear ho hall hl hJ2 hS;go_simp;exact hK _ _ z5 (fun _ _ h=>h) (by show _=_;exact congrArg Value.bool (decide_eq_false (by omega)))
   | 21,ho=>
    cases ho;have fg:aq.tmps.getD 52 undef= .bool false:=hJ2.v hall 18 52 .guard;refine wpOp_on rfl rfl rfl rfl fg ?_;have f20:_=Value.bool false:=hJ2.v hall 20 54;have hK:=hJ2.gO hS 21 55;generalize InvQ _ _ _ _ _ _=K at hK⊢;clear ho hall hl hJ2 hS;go_simp;exact hK _ rfl
   | 22,ho=>
    cases ho;have fg:aq.tmps.getD 55 undef= .bool false:=hJ2.v hall 21 55 .guard;refine wpOp_off rfl rfl rfl rfl fg ?_;exact hJ2.put hS 22 56 rfl (by omega) z5 (fun _ _ h=>h) undef rfl
   | 23,ho=>
    cases ho;have fg:aq.tmps.getD 55 undef= .bool false:=hJ2.v hall 21 55 .guard;refine wpOp_off rfl rfl rfl rfl fg ?_;exact hJ2.put hS 23 57 rfl (by omega) z5 (fun _ _ h=>h) undef rfl
   | 24,ho=>
    cases ho;have fg:aq.tmps.getD 55 undef= .bool false:=hJ2.v hall 21 55 .guard;refine wpOp_off rfl rfl rfl rfl fg ?_;exact hJ2.put hS 24 58 rfl (by omega) z5 (fun _ _ h=>h) undef rfl
   | 25,ho=>
    cases ho;have fg:aq.tmps.getD 55 undef= .bool false:=hJ2.v hall 21 55 .guard;refine wpOp_off rfl rfl rfl rfl fg ?_;exact hJ2.put hS 25 59 rfl (by omega) z5 (fun _ _ h=>h) undef rfl
   | 26,ho=>
    cases ho;have fg:aq.tmps.getD 55 undef= .bool false:=hJ2.v hall 21 55 .guard;refine wpOp_off rfl rfl rfl rfl fg ?_;exact hJ2.put hS 26 60 rfl (by omega) z5 (fun _ _ h=>h) undef rfl
   | 27,ho=>
    cases ho;have fg:aq.tmps.getD 55 undef= .bool false:=hJ2.v hall 21 55 .guard;refine wpOp_off rfl rfl rfl rfl fg ?_;exact hJ2.put hS 27 61 rfl (by omega) z5 (fun _ _ h=>h) undef rfl
   | 28,ho=>
    cases ho;have fg:aq.tmps.getD 55 undef= .bool false:=hJ2.v hall 21 55 .guard;refine wpOp_off rfl rfl rfl rfl fg ?_;exact hJ2.put hS 28 62 rfl (by omega) z5 (fun _ _ h=>h) undef rfl
   | 29,ho=>
    cases ho;have fg:aq.tmps.getD 55 undef= .bool false:=hJ2.v hall 21 55 .guard;refine wpOp_off rfl rfl rfl rfl fg ?_;exact hJ2.put hS 29 63 rfl (by omega) z5 (fun _ _ h=>h) undef rfl
   | 30,ho=>
    cases ho;have fg:aq.tmps.getD 55 undef= .bool false:=hJ2.v hall 21 55 .guard;refine wpOp_off rfl rfl rfl rfl fg ?_;exact hJ2.put hS 30 64 rfl (by omega) z5 (fun _ _ h=>h) undef rfl
   | 31,ho=>
    cases ho;have fg:aq.tmps.getD 55 undef= .bool false:=hJ2.v hall 21 55 .guard;refine wpOp_off rfl rfl rfl rfl fg ?_;exact hJ2.put hS 31 65 rfl (by omega) z5 (fun _ _ h=>h) undef rfl
   | 32,ho=>
    cases ho;have fg:aq.tmps.getD 55 undef= .bool false:=hJ2.v hall 21 55 .guard;refine wpOp_off rfl rfl rfl rfl fg ?_;exact hJ2.put hS 32 66 rfl (by omega) z5 (fun _ _ h=>h) undef rfl
   | 33,ho=>
    cases ho;have fg:aq.tmps.getD 55 undef= .bool false:=hJ2.v hall 21 55 .guard;refine wpOp_off rfl rfl rfl rfl fg ?_;exact hJ2.put hS 33 67 rfl (by omega) z5 (fun _ _ h=>h) undef rfl
   | 34,ho=>
    cases ho;have fg:aq.tmps.getD 55 undef= .bool false:=hJ2.v hall 21 55 .guard;refine wpOp_off rfl rfl rfl rfl fg ?_;exact hJ2.put hS 34 68 rfl (by omega) z5 (fun _ _ h=>h) undef rfl
   | 35,ho=>
    cases ho;have fg:aq.tmps.getD 55 undef= .bool false:=hJ2.v hall 21 55 .guard;refine wpOp_off rfl rfl rfl rfl fg ?_;exact hJ2.put hS 35 69 rfl (by omega) z5 (fun _ _ h=>h) undef rfl
   | 36,ho=>
    cases ho;have fg:aq.tmps.getD 52 undef= .bool false:=hJ2.v hall 18 52 .guard;refine wpOp_on rfl rfl rfl rfl fg ?_;have f21:_=Value.bool false:=hJ2.v hall 21 55;have f35:_=undef:=hJ2.v hall 35 69;have hK:=hJ2.gO hS 36 70;generalize InvQ _ _ _ _ _ _=K at hK⊢;clear ho hall hl hJ2 hS;go_simp;exact hK _ rfl
   | 37,ho=>
    cases ho;refine wpOp_of rfl rfl ?_;have f18:_=Value.bool false:=hJ2.v hall 18 52;have f36:_=Value.bool false:=hJ2.v hall 36 70;have hK:=hJ2.gO hS 37 71;generalize InvQ _ _ _ _ _ _=K at hK⊢;clear ho hall hl hJ2 hS;go_simp;exact hK _ rfl
   | iq+38,ho=>simp at ho
 · intro lq aq W hJ hr;obtain⟨z1,z2,z3,z4,z5,z6,z7⟩:=hJ;have hl:=listed_of hr [0,1,2,3,4,5,6,7,8,9,10,11,12,13,14,15,16,17,18,19,20,21,22,23,24,25,26,27,28,29,30,31,32,33,34,35,36,37] [] (by simp) (by kernel_rfl) (by rw[z1];decide);exact hQ aq W z2 z3 (fun e he=>z4 e (by simpa using he)) (z6 37 71 (hl 37 (by simp)) rfl) z5
def VrrD (P A off n cap k_ jj:Nat) (id ie a bb c d:Int) (_B:Nat):Nat→Value→World→Prop
 | 0,v,_=>v= .pointer (some ⟨P,2,none⟩)
 | 1,v,_=>v= .slice (some ⟨A,off,none⟩) n cap
 | 2,v,_=>v= .int .i64 (k_:Int)
 | 3,v,_=>v= .pointer (some ⟨A,off+k_*5,none⟩)
 | 4,v,_=>v= .pointer (some ⟨A,off+k_*5,none⟩)
 | 5,v,_=>v= .int .i64 id
 | 6,v,_=>v= .bool (decide (1≤id∧id≤1000))
 | 7,v,_=>v= .bool false
 | 8,v,_=>v= .bool false
 | 9,v,_=>v= .pointer (some ⟨P,2,none⟩)
 | 10,v,_=>v= .slice (some ⟨A,off,none⟩) n cap
 | 11,v,_=>v= .int .i64 (k_:Int)
 | 12,v,_=>v= .pointer (some ⟨A,off+k_*5,none⟩)
 | 13,v,_=>v= .pointer (some ⟨A,off+k_*5+1,none⟩)
 | 14,v,_=>v=Sg a bb c d
 | 15,v,_=>v= .bool (segOk a bb c d)
 | 16,v,_=>v= .bool false
 | 17,v,_=>v= .bool false
 | 18,v,_=>v= .bool false
 | 19,v,_=>v= .int .i64 (k_:Int)
 | 20,v,_=>v= .bool true
 | 21,v,_=>v= .bool true
 | 22,v,_=>v= .pointer (some ⟨P,2,none⟩)
 | 23,v,_=>v= .slice (some ⟨A,off,none⟩) n cap
 | 24,v,_=>v= .int .i64 (k_:Int)
 | 25,v,_=>v= .int .i64 (jj:Int)
 | 26,v,_=>v= .pointer (some ⟨A,off+jj*5,none⟩)
 | 27,v,_=>v= .pointer (some ⟨A,off+jj*5,none⟩)
 | 28,v,_=>v= .int .i64 ie
 | 29,v,_=>v= .pointer (some ⟨P,2,none⟩)
 | 30,v,_=>v= .slice (some ⟨A,off,none⟩) n cap
 | 31,v,_=>v= .int .i64 (k_:Int)
 | 32,v,_=>v= .pointer (some ⟨A,off+k_*5,none⟩)
 | 33,v,_=>v= .pointer (some ⟨A,off+k_*5,none⟩)
 | 34,v,_=>v= .int .i64 id
 | 35,v,_=>v= .bool (decide (id≤ie))
 | 36,v,_=>v= .bool (decide (id≤ie))
 | 37,v,_=>v= .bool (decide (id≤ie))
 | _,_,_=>True
theorem VrrD.mono {P A off n cap k_ jj:Nat} {id ie a bb c d:Int} {B j:Nat} {v:Value} {W W2:World} (_hB:Below W.heap.size W W2) (h:VrrD P A off n cap k_ jj id ie a bb c d B j v W):VrrD P A off n cap k_ jj id ie a bb c d B j v W2:=by
 unfold VrrD at *
 split<;>simp only at h<;>first | exact h | trivial
theorem rrD {Q:Exit→Act→World→Prop} {P A off n cap k_ jj:Nat} {id ie a bb c d:Int} {w0:World} {a0:Act} {idq:Nat} {t0 t1 t2 t3 t4 t5 t6 t7 t8 t9 t10 t11 t12 t13 t14 t15 t16 t17 t18 t19 t20 t21 t22 t23 t24 t25 t26 t27 t28 t29 t30 t31 t32 t33 t34 t35 t36 t37:TypeId} {q0 q1 q2 q3 q4 q5 q6 q7 q8 q9 q10 q11 q12 q13 q14 q15 q16 q17 q18 q19 q20 q21 q22 q23 q24 q25 q26 q27 q28 q29 q30 q31 q32 q33 q34 q35 q36 q37:String}
 (hq1:decide (1≤id∧id≤1000)=true) (hkn:k_<n) (hn:n≤40) (hq2:segOk a bb c d=true) (hkj:Hid (k_=jj+1)) (h1:a0.tmps[1]? =some (.pointer (some ⟨P,0,none⟩))) (h4:a0.tmps[4]? =some (.int .i64 (k_:Int))) (k0:w0.cell? ⟨P,2,none⟩=some (.slice (some ⟨A,off,none⟩) n cap)) (l0:(⟨P,2,none⟩:Addr).block<w0.heap.size) (k1:w0.cell? ⟨A,off+k_*5,none⟩=some (.int .i64 id)) (l1:(⟨A,off+k_*5,none⟩:Addr).block<w0.heap.size) (k2:w0.cell? ⟨A,off+k_*5+1,none⟩=some (.int .i64 a)) (l2:(⟨A,off+k_*5+1,none⟩:Addr).block<w0.heap.size) (k3:w0.cell? ⟨A,off+k_*5+1+1,none⟩=some (.int .i64 bb)) (l3:(⟨A,off+k_*5+1+1,none⟩:Addr).block<w0.heap.size) (k4:w0.cell? ⟨A,off+k_*5+1+2,none⟩=some (.int .i64 c)) (l4:(⟨A,off+k_*5+1+2,none⟩:Addr).block<w0.heap.size) (k5:w0.cell? ⟨A,off+k_*5+1+3,none⟩=some (.int .i64 d)) (l5:(⟨A,off+k_*5+1+3,none⟩:Addr).block<w0.heap.size) (k6:w0.cell? ⟨A,off+jj*5,none⟩=some (.int .i64 ie)) (l6:(⟨A,off+jj*5,none⟩:Addr).block<w0.heap.size) (hz:a0.tmps.size=100)
 (hQ:∀aq W,aq.tmps.size=a0.tmps.size→aq.defers=a0.defers→(∀e,e∉([34,35,36,37,38,39,40,41,42,43,44,45,46,47,48,49,50,51,52,53,54,55,56,57,58,59,60,61,62,63,64,65,66,67,68,69,70,71]:List Nat)→aq.tmps[e]? =a0.tmps[e]?)→VrrD P A off n cap k_ jj id ie a bb c d w0.heap.size 37 (aq.tmps.getD 71 undef) W→Below w0.heap.size w0 W→Q .normal aq W) :
 (Code.region idq #[⟨some 34,.fieldAddr 27 (.tmp 1) 2,t0,q0,#[],none⟩,
 ⟨some 35,.load 24 (.tmp 34),t1,q1,#[⟨0,.data⟩],none⟩,
 ⟨some 36,.move (.tmp 4),t2,q2,#[],none⟩,
 ⟨some 37,.indexAddr 24 (.tmp 35) (.tmp 36),t3,q3,#[⟨1,.data⟩,⟨2,.data⟩],none⟩,
 ⟨some 38,.fieldAddr 40 (.tmp 37) 0,t4,q4,#[⟨3,.data⟩],none⟩,
 ⟨some 39,.load 2 (.tmp 38),t5,q5,#[⟨4,.data⟩],none⟩,
 ⟨some 40,.call {callee:= .value (.func 46),args:=#[.tmp 39,.const (.int .i64 1),.const (.int .i64 1000)],argTypes:=#[2,2,2]},t6,q6,#[⟨5,.data⟩],none⟩,
 ⟨some 41,.unOp .not 4 (.tmp 40),t7,q7,#[⟨6,.data⟩],none⟩,
 ⟨some 42,.move (.tmp 41),t8,q8,#[⟨7,.data⟩,⟨6,.chain⟩],none⟩,
 ⟨some 43,.fieldAddr 27 (.tmp 1) 2,t9,q9,#[⟨8,.guard⟩],some (8,false)⟩,
 ⟨some 44,.load 24 (.tmp 43),t10,q10,#[⟨9,.data⟩,⟨8,.guard⟩],some (8,false)⟩,
 ⟨some 45,.move (.tmp 4),t11,q11,#[⟨8,.guard⟩],some (8,false)⟩,
 ⟨some 46,.indexAddr 24 (.tmp 44) (.tmp 45),t12,q12,#[⟨10,.data⟩,⟨11,.data⟩,⟨8,.guard⟩],some (8,false)⟩,
 ⟨some 47,.fieldAddr 40 (.tmp 46) 1,t13,q13,#[⟨12,.data⟩,⟨8,.guard⟩],some (8,false)⟩,
 ⟨some 48,.load 38 (.tmp 47),t14,q14,#[⟨13,.data⟩,⟨8,.guard⟩],some (8,false)⟩,
 ⟨some 49,.call {callee:= .value (.func 47),args:=#[.tmp 48],argTypes:=#[38]},t15,q15,#[⟨14,.data⟩,⟨8,.chain⟩,⟨8,.guard⟩],some (8,false)⟩,
 ⟨some 50,.unOp .not 4 (.tmp 49),t16,q16,#[⟨15,.data⟩,⟨8,.guard⟩],some (8,false)⟩,
 ⟨some 51,.pick (.tmp 42) (.const (.bool true)) (.tmp 50),t17,q17,#[⟨8,.data⟩,⟨16,.data⟩],none⟩,
 ⟨some 52,.move (.tmp 51),t18,q18,#[⟨17,.data⟩,⟨15,.chain⟩],none⟩,
 ⟨some 53,.move (.tmp 4),t19,q19,#[⟨18,.guard⟩],some (18,false)⟩,
 ⟨some 54,.binOp .gtr 3 (.tmp 53) (.const (.int .i64 0)) 3,t20,q20,#[⟨19,.data⟩,⟨18,.guard⟩],some (18,false)⟩,
 ⟨some 55,.move (.tmp 54),t21,q21,#[⟨20,.data⟩,⟨18,.chain⟩,⟨18,.guard⟩],some (18,false)⟩,
 ⟨some 56,.fieldAddr 27 (.tmp 1) 2,t22,q22,#[⟨21,.guard⟩],some (21,true)⟩,
 ⟨some 57,.load 24 (.tmp 56),t23,q23,#[⟨22,.data⟩,⟨21,.guard⟩],some (21,true)⟩,
 ⟨some 58,.move (.tmp 4),t24,q24,#[⟨21,.guard⟩],some (21,true)⟩,
 ⟨some 59,.binOp .sub 3 (.tmp 58) (.const (.int .i64 1)) 3,t25,q25,#[⟨24,.data⟩,⟨21,.guard⟩],some (21,true)⟩,
 ⟨some 60,.indexAddr 24 (.tmp 57) (.tmp 59),t26,q26,#[⟨23,.data⟩,⟨25,.data⟩,⟨21,.guard⟩],some (21,true)⟩,
 ⟨some 61,.fieldAddr 40 (.tmp 60) 0,t27,q27,#[⟨26,.data⟩,⟨21,.guard⟩],some (21,true)⟩,
 ⟨some 62,.load 2 (.tmp 61),t28,q28,#[⟨27,.data⟩,⟨21,.guard⟩],some (21,true)⟩,
 ⟨some 63,.fieldAddr 27 (.tmp 1) 2,t29,q29,#[⟨21,.guard⟩],some (21,true)⟩,
 ⟨some 64,.load 24 (.tmp 63),t30,q30,#[⟨29,.data⟩,⟨21,.guard⟩],some (21,true)⟩,
 ⟨some 65,.move (.tmp 4),t31,q31,#[⟨21,.guard⟩],some (21,true)⟩,
 ⟨some 66,.indexAddr 24 (.tmp 64) (.tmp 65),t32,q32,#[⟨30,.data⟩,⟨31,.data⟩,⟨21,.guard⟩],some (21,true)⟩,
 ⟨some 67,.fieldAddr 40 (.tmp 66) 0,t33,q33,#[⟨32,.data⟩,⟨21,.guard⟩],some (21,true)⟩,
 ⟨some 68,.load 2 (.tmp 67),t34,q34,#[⟨33,.data⟩,⟨21,.guard⟩],some (21,true)⟩,
 ⟨some 69,.binOp .geq 2 (.tmp 62) (.tmp 68) 2,t35,q35,#[⟨28,.data⟩,⟨34,.data⟩,⟨21,.guard⟩],some (21,true)⟩,
 ⟨some 70,.pick (.tmp 55) (.tmp 69) (.const (.bool false)),t36,q36,#[⟨21,.data⟩,⟨35,.data⟩,⟨18,.guard⟩],some (18,false)⟩,
 ⟨some 71,.pick (.tmp 52) (.const (.bool true)) (.tmp 70),t37,q37,#[⟨18,.data⟩,⟨36,.data⟩],none⟩] true).wp Tryz.prog Q a0 w0:=by
 have hS:distS [some 34,some 35,some 36,some 37,some 38,some 39,some 40,some 41,some 42,some 43,some 44,some 45,some 46,some 47,some 48,some 49,some 50,some 51,some 52,some 53,some 54,some 55,some 56,some 57,some 58,some 59,some 60,some 61,some 62,some 63,some 64,some 65,some 66,some 67,some 68,some 69,some 70,some 71]=true:=rfl;refine wp_region_q (by kernel_rfl) w0.heap.size [some 34,some 35,some 36,some 37,some 38,some 39,some 40,some 41,some 42,some 43,some 44,some 45,some 46,some 47,some 48,some 49,some 50,some 51,some 52,some 53,some 54,some 55,some 56,some 57,some 58,some 59,some 60,some 61,some 62,some 63,some 64,some 65,some 66,some 67,some 68,some 69,some 70,some 71] (VrrD P A off n cap k_ jj id ie a bb c d w0.heap.size) rfl ?_ ?_
 · intro Q lq aq W iq oq hJ2 hl ho hall;have z5:=hJ2.b;have g1:=hJ2.a h1
   have g4:=hJ2.a h4
   have c0:=hJ2.c k0 l0;have c1:=hJ2.c k1 l1;have c2:=hJ2.c k2 l2;have c3:=hJ2.c k3 l3;have c4:=hJ2.c k4 l4;have c5:=hJ2.c k5 l5;have c6:=hJ2.c k6 l6
   clear hQ
   match iq,ho with
   | 0,ho=>
    cases ho;refine wpOp_of rfl rfl ?_;have hK:=hJ2.gO hS 0 34;generalize InvQ _ _ _ _ _ _=K at hK⊢;clear ho hall hl hJ2 hS;go_simp;exact hK _ rfl
   | 1,ho=>
    cases ho;refine wpOp_of rfl rfl ?_;have f0:_=Value.pointer (some ⟨P,2,none⟩):=hJ2.v hall 0 34;have hK:=hJ2.gO hS 1 35;generalize InvQ _ _ _ _ _ _=K at hK⊢;clear ho hall hl hJ2 hS;go_simp;exact hK _ rfl
   | 2,ho=>
    cases ho;refine wpOp_of rfl rfl ?_;have hK:=hJ2.gO hS 2 36;generalize InvQ _ _ _ _ _ _=K at hK⊢;clear ho hall hl hJ2 hS;go_simp;exact hK _ rfl
   | 3,ho=>
    cases ho;refine wpOp_of rfl rfl ?_;have f1:_=Value.slice (some ⟨A,off,none⟩) n cap:=hJ2.v hall 1 35;have f2:_=Value.int .i64 (k_:Int):=hJ2.v hall 2 36;have hkI0:(k_:Int)<n:=by omega
    have hnI0:(n:Int)≤40:=by omega
    have hK:=hJ2.gO hS 3 37;generalize InvQ _ _ _ _ _ _=K at hK⊢;clear ho hall hl hJ2 hS;go_simp;exact hK _ rfl
   | 4,ho=>
    cases ho;refine wpOp_of rfl rfl ?_;have f3:_=Value.pointer (some ⟨A,off+k_*5,none⟩):=hJ2.v hall 3 37;have hK:=hJ2.gO hS 4 38;generalize InvQ _ _ _ _ _ _=K at hK⊢;clear ho hall hl hJ2 hS;go_simp;exact hK _ rfl
   | 5,ho=>
    cases ho;refine wpOp_of rfl rfl ?_;have f4:_=Value.pointer (some ⟨A,off+k_*5,none⟩):=hJ2.v hall 4 38;have hK:=hJ2.gO hS 5 39;generalize InvQ _ _ _ _ _ _=K at hK⊢;clear ho hall hl hJ2 hS;go_simp;exact hK _ rfl
   | 6,ho=>
    cases ho;refine wpOp_of rfl rfl ?_;have f5:_=Value.int .i64 id:=hJ2.v hall 5 39;have hK:=hJ2.go hS 6 40;generalize InvQ _ _ _ _ _ _=K at hK⊢;clear ho hall hl hJ2 hS;go_simp;refine(l1InQ_any id 1 1000 W).mono ?_;rintro e v1 ⟨rfl,hBv⟩;exact hK _ _ (z5.trans (hBv.mono z5.size)) (fun j v h=>h.mono hBv) rfl
   | 7,ho=>
    cases ho;refine wpOp_of rfl rfl ?_;have f6:_=Value.bool (decide (1≤id∧id≤1000)):=hJ2.v hall 6 40;rw[hq1] at f6;have hK:=hJ2.gO hS 7 41;generalize InvQ _ _ _ _ _ _=K at hK⊢;clear ho hall hl hJ2 hS;go_simp;exact hK _ rfl
   | 8,ho=>
    cases ho;refine wpOp_of rfl rfl ?_;have f7:_=Value.bool false:=hJ2.v hall 7 41;have hK:=hJ2.gO hS 8 42;generalize InvQ _ _ _ _ _ _=K at hK⊢;clear ho hall hl hJ2 hS;go_simp;exact hK _ rfl
   | 9,ho=>
    cases ho;have fg:aq.tmps.getD 42 undef= .bool false:=hJ2.v hall 8 42 .guard;refine wpOp_on rfl rfl rfl rfl fg ?_;have hK:=hJ2.gO hS 9 43;generalize InvQ _ _ _ _ _ _=K at hK⊢;clear ho hall hl hJ2 hS;go_simp;exact hK _ rfl
   | 10,ho=>
    cases ho;have fg:aq.tmps.getD 42 undef= .bool false:=hJ2.v hall 8 42 .guard;refine wpOp_on rfl rfl rfl rfl fg ?_;have f9:_=Value.pointer (some ⟨P,2,none⟩):=hJ2.v hall 9 43;have hK:=hJ2.gO hS 10 44;generalize InvQ _ _ _ _ _ _=K at hK⊢;clear ho hall hl hJ2 hS;go_simp;exact hK _ rfl
   | 11,ho=>
    cases ho;have fg:aq.tmps.getD 42 undef= .bool false:=hJ2.v hall 8 42 .guard;refine wpOp_on rfl rfl rfl rfl fg ?_;have hK:=hJ2.gO hS 11 45;generalize InvQ _ _ _ _ _ _=K at hK⊢;clear ho hall hl hJ2 hS;go_simp;exact hK _ rfl
   | 12,ho=>
    cases ho;have fg:aq.tmps.getD 42 undef= .bool false:=hJ2.v hall 8 42 .guard;refine wpOp_on rfl rfl rfl rfl fg ?_;have f10:_=Value.slice (some ⟨A,off,none⟩) n cap:=hJ2.v hall 10 44;have f11:_=Value.int .i64 (k_:Int):=hJ2.v hall 11 45;have hkI0:(k_:Int)<n:=by omega
    have hnI0:(n:Int)≤40:=by omega
    have hK:=hJ2.gO hS 12 46;generalize InvQ _ _ _ _ _ _=K at hK⊢;clear ho hall hl hJ2 hS;go_simp;exact hK _ rfl
   | 13,ho=>
    cases ho;have fg:aq.tmps.getD 42 undef= .bool false:=hJ2.v hall 8 42 .guard;refine wpOp_on rfl rfl rfl rfl fg ?_;have f12:_=Value.pointer (some ⟨A,off+k_*5,none⟩):=hJ2.v hall 12 46;have hK:=hJ2.gO hS 13 47;generalize InvQ _ _ _ _ _ _=K at hK⊢;clear ho hall hl hJ2 hS;go_simp;exact hK _ rfl
   | 14,ho=>
    cases ho;have fg:aq.tmps.getD 42 undef= .bool false:=hJ2.v hall 8 42 .guard;refine wpOp_on rfl rfl rfl rfl fg ?_;have f13:_=Value.pointer (some ⟨A,off+k_*5+1,none⟩):=hJ2.v hall 13 47;have hK:=hJ2.gO hS 14 48;generalize InvQ _ _ _ _ _ _=K at hK⊢;clear ho hall hl hJ2 hS;go_simp;exact hK _ rfl
   | 15,ho=>
    cases ho;have fg:aq.tmps.getD 42 undef= .bool false:=hJ2.v hall 8 42 .guard;refine wpOp_on rfl rfl rfl rfl fg ?_;have f14:_=Sg a bb c d:=hJ2.v hall 14 48;have hK:=hJ2.go hS 15 49;generalize InvQ _ _ _ _ _ _=K at hK⊢;clear ho hall hl hJ2 hS;go_simp;refine(specSegQ_any a bb c d W).mono ?_;rintro e v1 ⟨rfl,hBv⟩;exact hK _ _ (z5.trans (hBv.mono z5.size)) (fun j v h=>h.mono hBv) rfl
   | 16,ho=>
    cases ho;have fg:aq.tmps.getD 42 undef= .bool false:=hJ2.v hall 8 42 .guard;refine wpOp_on rfl rfl rfl rfl fg ?_;have f15:_=Value.bool (segOk a bb c d):=hJ2.v hall 15 49;rw[hq2] at f15;have hK:=hJ2.gO hS 16 50;generalize InvQ _ _ _ _ _ _=K at hK⊢;clear ho hall hl hJ2 hS;go_simp;exact hK _ rfl
   | 17,ho=>
    cases ho;refine wpOp_of rfl rfl ?_;have f8:_=Value.bool false:=hJ2.v hall 8 42;have f16:_=Value.bool false:=hJ2.v hall 16 50;have hK:=hJ2.gO hS 17 51;generalize InvQ _ _ _ _ _ _=K at hK⊢;clear ho hall hl hJ2 hS;go_simp;exact hK _ rfl
   | 18,ho=>
    cases ho;refine wpOp_of rfl rfl ?_;have f17:_=Value.bool false:=hJ2.v hall 17 51;have hK:=hJ2.gO hS 18 52;generalize InvQ _ _ _ _ _ _=K at hK⊢;clear ho hall hl hJ2 hS;go_simp;exact hK _ rfl
   | 19,ho=>
    cases ho;have fg:aq.tmps.getD 52 undef= .bool false:=hJ2.v hall 18 52 .guard;refine wpOp_on rfl rfl rfl rfl fg ?_;have hK:=hJ2.gO hS 19 53;generalize InvQ _ _ _ _ _ _=K at hK⊢;clear ho hall hl hJ2 hS;go_simp;exact hK _ rfl
   | 20,ho=>
    cases ho;have fg:aq.tmps.getD 52 undef= .bool false:=hJ2.v hall 18 52 .guard;refine wpOp_on rfl rfl rfl rfl fg ?_;have f19:_=Value.int .i64 (k_:Int):=hJ2.v hall 19 53;have hgt:(0:Int)<k_:=by have ho:=hkj.out;omega
    have hK:=hJ2.go hS 20 54;generalize InvQ _ _ _ _ _ _=K at hK⊢;clear ho hall hl hJ2 hS;go_simp;exact hK _ _ z5 (fun _ _ h=>h) (by show _=_;exact congrArg Value.bool (decide_eq_true (by omega)))
   | 21,ho=>
    cases ho;have fg:aq.tmps.getD 52 undef= .bool false:=hJ2.v hall 18 52 .guard;refine wpOp_on rfl rfl rfl rfl fg ?_;have f20:_=Value.bool true:=hJ2.v hall 20 54;have hK:=hJ2.gO hS 21 55;generalize InvQ _ _ _ _ _ _=K at hK⊢;clear ho hall hl hJ2 hS;go_simp;exact hK _ rfl
   | 22,ho=>
    cases ho;have fg:aq.tmps.getD 55 undef= .bool true:=hJ2.v hall 21 55 .guard;refine wpOp_on rfl rfl rfl rfl fg ?_;have hK:=hJ2.gO hS 22 56;generalize InvQ _ _ _ _ _ _=K at hK⊢;clear ho hall hl hJ2 hS;go_simp;exact hK _ rfl
   | 23,ho=>
    cases ho;have fg:aq.tmps.getD 55 undef= .bool true:=hJ2.v hall 21 55 .guard;refine wpOp_on rfl rfl rfl rfl fg ?_;have f22:_=Value.pointer (some ⟨P,2,none⟩):=hJ2.v hall 22 56;have hK:=hJ2.gO hS 23 57;generalize InvQ _ _ _ _ _ _=K at hK⊢;clear ho hall hl hJ2 hS;go_simp;exact hK _ rfl
   | 24,ho=>
    cases ho;have fg:aq.tmps.getD 55 undef= .bool true:=hJ2.v hall 21 55 .guard;refine wpOp_on rfl rfl rfl rfl fg ?_;have hK:=hJ2.gO hS 24 58;generalize InvQ _ _ _ _ _ _=K at hK⊢;clear ho hall hl hJ2 hS;go_simp;exact hK _ rfl
   | 25,ho=>
    cases ho;have fg:aq.tmps.getD 55 undef= .bool true:=hJ2.v hall 21 55 .guard;refine wpOp_on rfl rfl rfl rfl fg ?_;have f24:_=Value.int .i64 (k_:Int):=hJ2.v hall 24 58;have hkz:(k_:Int)=jj+1:=by have ho:=hkj.out;omega
    have hnI:(n:Int)≤40:=by omega
    have hwd:IntKind.i64.wrap (jj:Int)=jj:=by have ho:=hkj.out;rw[IntKind.wrap_i64];omega
    have hK:=hJ2.go hS 25 59;generalize InvQ _ _ _ _ _ _=K at hK⊢;clear ho hall hl hJ2 hS;go_simp;exact hK _ _ z5 (fun _ _ h=>h) (by show _=_;first | rfl | go_num)
   | 26,ho=>
    cases ho;have fg:aq.tmps.getD 55 undef= .bool true:=hJ2.v hall 21 55 .guard;refine wpOp_on rfl rfl rfl rfl fg ?_;have f23:_=Value.slice (some ⟨A,off,none⟩) n cap:=hJ2.v hall 23 57;have f25:_=Value.int .i64 (jj:Int):=hJ2.v hall 25 59;have hjI:(jj:Int)<n:=by have ho:=hkj.out;omega
    have hnI:(n:Int)≤40:=by omega
    have hK:=hJ2.gO hS 26 60;generalize InvQ _ _ _ _ _ _=K at hK⊢;clear ho hall hl hJ2 hS;go_simp;exact hK _ rfl
   | 27,ho=>
    cases ho;have fg:aq.tmps.getD 55 undef= .bool true:=hJ2.v hall 21 55 .guard;refine wpOp_on rfl rfl rfl rfl fg ?_;have f26:_=Value.pointer (some ⟨A,off+jj*5,none⟩):=hJ2.v hall 26 60;have hK:=hJ2.gO hS 27 61;generalize InvQ _ _ _ _ _ _=K at hK⊢;clear ho hall hl hJ2 hS;go_simp;exact hK _ rfl
   | 28,ho=>
    cases ho;have fg:aq.tmps.getD 55 undef= .bool true:=hJ2.v hall 21 55 .guard;refine wpOp_on rfl rfl rfl rfl fg ?_;have f27:_=Value.pointer (some ⟨A,off+jj*5,none⟩):=hJ2.v hall 27 61;have hK:=hJ2.gO hS 28 62;generalize InvQ _ _ _ _ _ _=K at hK⊢;clear ho hall hl hJ2 hS;go_simp;exact hK _ rfl
   | 29,ho=>
    cases ho;have fg:aq.tmps.getD 55 undef= .bool true:=hJ2.v hall 21 55 .guard;refine wpOp_on rfl rfl rfl rfl fg ?_;have hK:=hJ2.gO hS 29 63;generalize InvQ _ _ _ _ _ _=K at hK⊢;clear ho hall hl hJ2 hS;go_simp;exact hK _ rfl
   | 30,ho=>
    cases ho;have fg:aq.tmps.getD 55 undef= .bool true:=hJ2.v hall 21 55 .guard;refine wpOp_on rfl rfl rfl rfl fg ?_;have f29:_=Value.pointer (some ⟨P,2,none⟩):=hJ2.v hall 29 63;have hK:=hJ2.gO hS 30 64;generalize InvQ _ _ _ _ _ _=K at hK⊢;clear ho hall hl hJ2 hS;go_simp;exact hK _ rfl
   | 31,ho=>
    cases ho;have fg:aq.tmps.getD 55 undef= .bool true:=hJ2.v hall 21 55 .guard;refine wpOp_on rfl rfl rfl rfl fg ?_;have hK:=hJ2.gO hS 31 65;generalize InvQ _ _ _ _ _ _=K at hK⊢;clear ho hall hl hJ2 hS;go_simp;exact hK _ rfl
   | 32,ho=>
    cases ho;have fg:aq.tmps.getD 55 undef= .bool true:=hJ2.v hall 21 55 .guard;refine wpOp_on rfl rfl rfl rfl fg ?_;have f30:_=Value.slice (some ⟨A,off,none⟩) n cap:=hJ2.v hall 30 64;have f31:_=Value.int .i64 (k_:Int):=hJ2.v hall 31 65;have hkI0:(k_:Int)<n:=by omega
    have hnI0:(n:Int)≤40:=by omega
    have hK:=hJ2.gO hS 32 66;generalize InvQ _ _ _ _ _ _=K at hK⊢;clear ho hall hl hJ2 hS;go_simp;exact hK _ rfl
   | 33,ho=>
    cases ho;have fg:aq.tmps.getD 55 undef= .bool true:=hJ2.v hall 21 55 .guard;refine wpOp_on rfl rfl rfl rfl fg ?_;have f32:_=Value.pointer (some ⟨A,off+k_*5,none⟩):=hJ2.v hall 32 66;have hK:=hJ2.gO hS 33 67;generalize InvQ _ _ _ _ _ _=K at hK⊢;clear ho hall hl hJ2 hS;go_simp;exact hK _ rfl
   | 34,ho=>
    cases ho;have fg:aq.tmps.getD 55 undef= .bool true:=hJ2.v hall 21 55 .guard;refine wpOp_on rfl rfl rfl rfl fg ?_;have f33:_=Value.pointer (some ⟨A,off+k_*5,none⟩):=hJ2.v hall 33 67;have hK:=hJ2.gO hS 34 68;generalize InvQ _ _ _ _ _ _=K at hK⊢;clear ho hall hl hJ2 hS;go_simp;exact hK _ rfl
   | 35,ho=>
    cases ho;have fg:aq.tmps.getD 55 undef= .bool true:=hJ2.v hall 21 55 .guard;refine wpOp_on rfl rfl rfl rfl fg ?_;have f28:_=Value.int .i64 ie:=hJ2.v hall 28 62;have f34:_=Value.int .i64 id:=hJ2.v hall 34 68;have hK:=hJ2.go hS 35 69;generalize InvQ _ _ _ _ _ _=K at hK⊢;clear ho hall hl hJ2 hS;go_simp;exact hK _ _ z5 (fun _ _ h=>h) (by show _=_;first | rfl | simp)
   | 36,ho=>
    cases ho;have fg:aq.tmps.getD 52 undef= .bool false:=hJ2.v hall 18 52 .guard;refine wpOp_on rfl rfl rfl rfl fg ?_;have f21:_=Value.bool true:=hJ2.v hall 21 55;have f35:_=Value.bool (decide (id≤ie)):=hJ2.v hall 35 69;have hK:=hJ2.gO hS 36 70;generalize InvQ _ _ _ _ _ _=K at hK⊢;clear ho hall hl hJ2 hS;go_simp;exact hK _ rfl
   | 37,ho=>
    cases ho;refine wpOp_of rfl rfl ?_;have f18:_=Value.bool false:=hJ2.v hall 18 52;have f36:_=Value.bool (decide (id≤ie)):=hJ2.v hall 36 70;have hK:=hJ2.gO hS 37 71;generalize InvQ _ _ _ _ _ _=K at hK⊢;clear ho hall hl hJ2 hS;go_simp;exact hK _ rfl
   | iq+38,ho=>simp at ho
 · intro lq aq W hJ hr;obtain⟨z1,z2,z3,z4,z5,z6,z7⟩:=hJ;have hl:=listed_of hr [0,1,2,3,4,5,6,7,8,9,10,11,12,13,14,15,16,17,18,19,20,21,22,23,24,25,26,27,28,29,30,31,32,33,34,35,36,37] [] (by simp) (by kernel_rfl) (by rw[z1];decide);exact hQ aq W z2 z3 (fun e he=>z4 e (by simpa using he)) (z6 37 71 (hl 37 (by simp)) rfl) z5
end Go.Proofs.YthelolpogdcmhaaGreat
