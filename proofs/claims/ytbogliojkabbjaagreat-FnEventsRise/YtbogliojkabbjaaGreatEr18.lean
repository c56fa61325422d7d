/- Part 18 of the walks that the proof leans on. -/
import Derived.Test.YtbogliojkabbjaaGreatEr17
import Derived.Test.YtbogliojkabbjaaGreatEr8
set_option maxRecDepth 100000
set_option maxHeartbeats 16000000
namespace Go.Proofs.YtbogliojkabbjaaGreat
open Go.RowKit
def VerS0 (P16 Ab ob i nb cb m ec bc:Nat) (x y z:Int) (eo bo:Option Addr) (_B:Nat):Nat→Value→World→Prop
 | 0,v,_=>v= .bool true
 | 1,v,_=>v= .bool false
 | 2,v,_=>v= .bool false
 | 3,v,_=>v= .pointer (some ⟨P16,0,none⟩)
 | 4,v,_=>v= .agg #[.int .u64 (ww3 x),.int .u64 (ww2 x),.int .u64 (ww1 x),.int .u64 (ww0 x),.int .u64 (ww3 y),.int .u64 (ww2 y),.int .u64 (ww1 y),.int .u64 (ww0 y),.int .u64 (ww3 z),.int .u64 (ww2 z),.int .u64 (ww1 z),.int .u64 (ww0 z)]
 | 5,v,_=>v= .slice (some ⟨Ab,ob,none⟩) nb cb
 | 6,v,_=>v= .int .i64 (i:Int)
 | 7,v,_=>v= .pointer (some ⟨Ab,ob+i*13,none⟩)
 | 8,v,_=>v= .pointer (some ⟨Ab,ob+i*13,none⟩)
 | 9,v,_=>v= .agg #[.int .u64 (ww3 x),.int .u64 (ww2 x),.int .u64 (ww1 x),.int .u64 (ww0 x),.int .u64 (ww3 y),.int .u64 (ww2 y),.int .u64 (ww1 y),.int .u64 (ww0 y),.int .u64 (ww3 z),.int .u64 (ww2 z),.int .u64 (ww1 z),.int .u64 (ww0 z)]
 | 10,v,_=>v= .bool false
 | 11,v,_=>v= .bool false
 | 12,v,_=>v= .bool false
 | 13,v,_=>v= .pointer (some ⟨P16,12,none⟩)
 | 14,v,_=>v= .slice eo m ec
 | 15,v,_=>v= .slice (some ⟨Ab,ob,none⟩) nb cb
 | 16,v,_=>v= .int .i64 (i:Int)
 | 17,v,_=>v= .pointer (some ⟨Ab,ob+i*13,none⟩)
 | 18,v,_=>v= .pointer (some ⟨Ab,ob+i*13+12,none⟩)
 | 19,v,_=>v= .slice bo m bc
 | 20,v,_=>v= .bool true
 | 21,v,_=>v= .bool false
 | 22,v,_=>v= .bool false
 | 23,v,_=>v= .bool false
 | 24,v,_=>v= .int .i64 (i:Int)
 | 25,v,_=>v= .bool false
 | 26,v,_=>v= .bool false
 | 27,v,_=>v=undef
 | 28,v,_=>v=undef
 | 29,v,_=>v=undef
 | 30,v,_=>v=undef
 | 31,v,_=>v=undef
 | 32,v,_=>v= .bool false
 | 33,v,_=>v= .bool false
 | _,_,_=>True
theorem VerS0.mono {P16 Ab ob i nb cb m ec bc:Nat} {x y z:Int} {eo bo:Option Addr} {B j:Nat} {v:Value} {W W2:World} (_hB:Below W.heap.size W W2) (h:VerS0 P16 Ab ob i nb cb m ec bc x y z eo bo B j v W):VerS0 P16 Ab ob i nb cb m ec bc x y z eo bo B j v W2:=by
 unfold VerS0 at *
 split<;>simp only at h<;>first | exact h | trivial
theorem erS0 {Q:Exit→Act→World→Prop} {P16 Ab ob i nb cb m ec bc:Nat} {x y z:Int} {eo bo:Option Addr} {w0:World} {a0:Act} {idq:Nat} {t0 t1 t2 t3 t4 t5 t6 t7 t8 t9 t10 t11 t12 t13 t14 t15 t16 t17 t18 t19 t20 t21 t22 t23 t24 t25 t26 t27 t28 t29 t30 t31 t32 t33:TypeId} {q0 q1 q2 q3 q4 q5 q6 q7 q8 q9 q10 q11 q12 q13 q14 q15 q16 q17 q18 q19 q20 q21 q22 q23 q24 q25 q26 q27 q28 q29 q30 q31 q32 q33:String}
 (hin:i<nb) (hnb:nb≤200) (tx:told x=true) (ty:told y=true) (tz:told z=true) (CS:∀W2:World,Below w0.heap.size w0 W2→Calls Tryz.prog 10 #[.slice eo m ec,.slice bo m bc] W2 (BoolP true W2)) (hbg:decide (0<i)=false) (h18:a0.tmps[18]? =some (.bool true)) (h16:a0.tmps[16]? =some (.pointer (some ⟨P16,0,none⟩))) (h10:a0.tmps[10]? =some (.slice (some ⟨Ab,ob,none⟩) nb cb)) (h15:a0.tmps[15]? =some (.int .i64 (i:Int))) (k0:w0.cell? ⟨P16,0,none⟩=some (.int .u64 (ww3 x))) (l0:(⟨P16,0,none⟩:Addr).block<w0.heap.size) (k1:w0.cell? ⟨P16,1,none⟩=some (.int .u64 (ww2 x))) (l1:(⟨P16,1,none⟩:Addr).block<w0.heap.size) (k2:w0.cell? ⟨P16,2,none⟩=some (.int .u64 (ww1 x))) (l2:(⟨P16,2,none⟩:Addr).block<w0.heap.size) (k3:w0.cell? ⟨P16,3,none⟩=some (.int .u64 (ww0 x))) (l3:(⟨P16,3,none⟩:Addr).block<w0.heap.size) (k4:w0.cell? ⟨P16,4,none⟩=some (.int .u64 (ww3 y))) (l4:(⟨P16,4,none⟩:Addr).block<w0.heap.size) (k5:w0.cell? ⟨P16,5,none⟩=some (.int .u64 (ww2 y))) (l5:(⟨P16,5,none⟩:Addr).block<w0.heap.size) (k6:w0.cell? ⟨P16,6,none⟩=some (.int .u64 (ww1 y))) (l6:(⟨P16,6,none⟩:Addr).block<w0.heap.size) (k7:w0.cell? ⟨P16,7,none⟩=some (.int .u64 (ww0 y))) (l7:(⟨P16,7,none⟩:Addr).block<w0.heap.size) (k8:w0.cell? ⟨P16,8,none⟩=some (.int .u64 (ww3 z))) (l8:(⟨P16,8,none⟩:Addr).block<w0.heap.size) (k9:w0.cell? ⟨P16,9,none⟩=some (.int .u64 (ww2 z))) (l9:(⟨P16,9,none⟩:Addr).block<w0.heap.size) (k10:w0.cell? ⟨P16,10,none⟩=some (.int .u64 (ww1 z))) (l10:(⟨P16,10,none⟩:Addr).block<w0.heap.size) (k11:w0.cell? ⟨P16,11,none⟩=some (.int .u64 (ww0 z))) (l11:(⟨P16,11,none⟩:Addr).block<w0.heap.size) (k12:w0.cell? ⟨P16,12,none⟩=some (.slice eo m ec)) (l12:(⟨P16,12,none⟩:Addr).block<w0.heap.size) (k13:w0.cell? ⟨Ab,ob+i*13,none⟩=some (.int .u64 (ww3 x))) (l13:(⟨Ab,ob+i*13,none⟩:Addr).block<w0.heap.size) (k14:w0.cell? ⟨Ab,ob+i*13+1,none⟩=some (.int .u64 (ww2 x))) (l14:(⟨Ab,ob+i*13+1,none⟩:Addr).block<w0.heap.size) (k15:w0.cell? ⟨Ab,ob+i*13+2,none⟩=some (.int .u64 (ww1 x))) (l15:(⟨Ab,ob+i*13+2,none⟩:Addr).block<w0.heap.size) (k16:w0.cell? ⟨Ab,ob+i*13+3,none⟩=some (.int .u64 (ww0 x))) (l16:(⟨Ab,ob+i*13+3,none⟩:Addr).block<w0.heap.size) (k17:w0.cell? ⟨Ab,ob+i*13+4,none⟩=some (.int .u64 (ww3 y))) (l17:(⟨Ab,ob+i*13+4,none⟩:Addr).block<w0.heap.size) (k18:w0.cell? ⟨Ab,ob+i*13+5,none⟩=some (.int .u64 (ww2 y))) (l18:(⟨Ab,ob+i*13+5,none⟩:Addr).block<w0.heap.size) (k19:w0.cell? ⟨Ab,ob+i*13+6,none⟩=some (.int .u64 (ww1 y))) (l19:(⟨Ab,ob+i*13+6,none⟩:Addr).block<w0.heap.size) (k20:w0.cell? ⟨Ab,ob+i*13+7,none⟩=some (.int .u64 (ww0 y))) (l20:(⟨Ab,ob+i*13+7,none⟩:Addr).block<w0.heap.size) (k21:w0.cell? ⟨Ab,ob+i*13+8,none⟩=some (.int .u64 (ww3 z))) (l21:(⟨Ab,ob+i*13+8,none⟩:Addr).block<w0.heap.size) (k22:w0.cell? ⟨Ab,ob+i*13+9,none⟩=some (.int .u64 (ww2 z))) (l22:(⟨Ab,ob+i*13+9,none⟩:Addr).block<w0.heap.size) (k23:w0.cell? ⟨Ab,ob+i*13+10,none⟩=some (.int .u64 (ww1 z))) (l23:(⟨Ab,ob+i*13+10,none⟩:Addr).block<w0.heap.size) (k24:w0.cell? ⟨Ab,ob+i*13+11,none⟩=some (.int .u64 (ww0 z))) (l24:(⟨Ab,ob+i*13+11,none⟩:Addr).block<w0.heap.size) (k25:w0.cell? ⟨Ab,ob+i*13+12,none⟩=some (.slice bo m bc)) (l25:(⟨Ab,ob+i*13+12,none⟩:Addr).block<w0.heap.size) (hz:a0.tmps.size=163)
 (hQ:∀aq W,aq.tmps.size=a0.tmps.size→aq.defers=a0.defers→(∀e,e∉([94,95,96,97,98,99,100,101,102,103,104,105,106,107,108,109,110,111,112,113,114,115,116,117,118,119,120,121,122,123,124,125,126,127]:List Nat)→aq.tmps[e]? =a0.tmps[e]?)→VerS0 P16 Ab ob i nb cb m ec bc x y z eo bo w0.heap.size 33 (aq.tmps.getD 127 undef) W→Below w0.heap.size w0 W→Q .normal aq W) :
 (Code.region idq #[⟨some 94,.move (.tmp 18),t0,q0,#[],none⟩,
 ⟨some 95,.unOp .not 4 (.tmp 94),t1,q1,#[⟨0,.data⟩],none⟩,
 ⟨some 96,.move (.tmp 95),t2,q2,#[⟨1,.data⟩],none⟩,
 ⟨some 97,.fieldAddr 37 (.tmp 16) 0,t3,q3,#[⟨2,.guard⟩],some (2,false)⟩,
 ⟨some 98,.load 29 (.tmp 97),t4,q4,#[⟨3,.data⟩,⟨2,.guard⟩],some (2,false)⟩,
 ⟨some 99,.move (.tmp 10),t5,q5,#[⟨2,.guard⟩],some (2,false)⟩,
 ⟨some 100,.move (.tmp 15),t6,q6,#[⟨2,.guard⟩],some (2,false)⟩,
 ⟨some 101,.indexAddr 24 (.tmp 99) (.tmp 100),t7,q7,#[⟨5,.data⟩,⟨6,.data⟩,⟨2,.guard⟩],some (2,false)⟩,
 ⟨some 102,.fieldAddr 37 (.tmp 101) 0,t8,q8,#[⟨7,.data⟩,⟨2,.guard⟩],some (2,false)⟩,
 ⟨some 103,.load 29 (.tmp 102),t9,q9,#[⟨8,.data⟩,⟨2,.guard⟩],some (2,false)⟩,
 ⟨some 104,.binOp .neq 29 (.tmp 98) (.tmp 103) 29,t10,q10,#[⟨4,.data⟩,⟨9,.data⟩,⟨2,.guard⟩],some (2,false)⟩,
 ⟨some 105,.pick (.tmp 96) (.const (.bool true)) (.tmp 104),t11,q11,#[⟨2,.data⟩,⟨10,.data⟩],none⟩,
 ⟨some 106,.move (.tmp 105),t12,q12,#[⟨11,.data⟩,⟨2,.chain⟩],none⟩,
 ⟨some 107,.fieldAddr 37 (.tmp 16) 1,t13,q13,#[⟨12,.guard⟩],some (12,false)⟩,
 ⟨some 108,.load 35 (.tmp 107),t14,q14,#[⟨13,.data⟩,⟨12,.guard⟩],some (12,false)⟩,
 ⟨some 109,.move (.tmp 10),t15,q15,#[⟨12,.guard⟩],some (12,false)⟩,
 ⟨some 110,.move (.tmp 15),t16,q16,#[⟨12,.guard⟩],some (12,false)⟩,
 ⟨some 111,.indexAddr 24 (.tmp 109) (.tmp 110),t17,q17,#[⟨15,.data⟩,⟨16,.data⟩,⟨12,.guard⟩],some (12,false)⟩,
 ⟨some 112,.fieldAddr 37 (.tmp 111) 1,t18,q18,#[⟨17,.data⟩,⟨12,.guard⟩],some (12,false)⟩,
 ⟨some 113,.load 35 (.tmp 112),t19,q19,#[⟨18,.data⟩,⟨12,.guard⟩],some (12,false)⟩,
 ⟨some 114,.call {callee:= .value (.func 10),args:=#[.tmp 108,.tmp 113],argTypes:=#[35,35]},t20,q20,#[⟨14,.data⟩,⟨19,.data⟩,⟨12,.chain⟩,⟨12,.guard⟩],some (12,false)⟩,
 ⟨some 115,.unOp .not 4 (.tmp 114),t21,q21,#[⟨20,.data⟩,⟨12,.guard⟩],some (12,false)⟩,
 ⟨some 116,.pick (.tmp 106) (.const (.bool true)) (.tmp 115),t22,q22,#[⟨12,.data⟩,⟨21,.data⟩],none⟩,
 ⟨some 117,.move (.tmp 116),t23,q23,#[⟨22,.data⟩,⟨20,.chain⟩],none⟩,
 ⟨some 118,.move (.tmp 15),t24,q24,#[⟨23,.guard⟩],some (23,false)⟩,
 ⟨some 119,.binOp .gtr 3 (.tmp 118) (.const (.int .i64 0)) 3,t25,q25,#[⟨24,.data⟩,⟨23,.guard⟩],some (23,false)⟩,
 ⟨some 120,.move (.tmp 119),t26,q26,#[⟨25,.data⟩,⟨23,.chain⟩,⟨23,.guard⟩],some (23,false)⟩,
 ⟨some 121,.load 29 (.tmp 14),t27,q27,#[⟨26,.guard⟩],some (26,true)⟩,
 ⟨some 122,.fieldAddr 37 (.tmp 16) 0,t28,q28,#[⟨26,.guard⟩],some (26,true)⟩,
 ⟨some 123,.load 29 (.tmp 122),t29,q29,#[⟨28,.data⟩,⟨26,.guard⟩],some (26,true)⟩,
 ⟨some 124,.call {callee:= .value (.func 11),args:=#[.tmp 121,.tmp 123],argTypes:=#[29,29]},t30,q30,#[⟨27,.data⟩,⟨29,.data⟩,⟨26,.chain⟩,⟨26,.guard⟩],some (26,true)⟩,
 ⟨some 125,.binOp .geq 2 (.tmp 124) (.const (.int .i64 0)) 2,t31,q31,#[⟨30,.data⟩,⟨26,.guard⟩],some (26,true)⟩,
 ⟨some 126,.pick (.tmp 120) (.tmp 125) (.const (.bool false)),t32,q32,#[⟨26,.data⟩,⟨31,.data⟩,⟨23,.guard⟩],some (23,false)⟩,
 ⟨some 127,.pick (.tmp 117) (.const (.bool true)) (.tmp 126),t33,q33,#[⟨23,.data⟩,⟨32,.data⟩],none⟩] true).wp Tryz.prog Q a0 w0:=by
 have hS:distS [some 94,some 95,some 96,some 97,some 98,some 99,some 100,some 101,some 102,some 103,some 104,some 105,some 106,some 107,some 108,some 109,some 110,some 111,some 112,some 113,some 114,some 115,some 116,some 117,some 118,some 119,some 120,some 121,some 122,some 123,some 124,some 125,some 126,some 127]=true:=rfl;refine wp_region_q (by kernel_rfl) w0.heap.size [some 94,some 95,some 96,some 97,some 98,some 99,some 100,some 101,some 102,some 103,some 104,some 105,some 106,some 107,some 108,some 109,some 110,some 111,some 112,some 113,some 114,some 115,some 116,some 117,some 118,some 119,some 120,some 121,some 122,some 123,some 124,some 125,some 126,some 127] (VerS0 P16 Ab ob i nb cb m ec bc x y z eo bo w0.heap.size) rfl ?_ ?_
 · intro Q lq aq W iq oq hJ2 hl ho hall;have z5:=hJ2.b;have g18:=hJ2.a h18
   have g16:=hJ2.a h16
   have g10:=hJ2.a h10
   have g15:=hJ2.a h15
   have c0:=hJ2.c k0 l0;have c1:=hJ2.c k1 l1;have c2:=hJ2.c k2 l2;have c3:=hJ2.c k3 l3;have c4:=hJ2.c k4 l4;have c5:=hJ2.c k5 l5;have c6:=hJ2.c k6 l6;have c7:=hJ2.c k7 l7;have c8:=hJ2.c k8 l8;have c9:=hJ2.c k9 l9;have c10:=hJ2.c k10 l10;have c11:=hJ2.c k11 l11;have c12:=hJ2.c k12 l12;have c13:=hJ2.c k13 l13;have c14:=hJ2.c k14 l14;have c15:=hJ2.c k15 l15;have c16:=hJ2.c k16 l16;have c17:=hJ2.c k17 l17;have c18:=hJ2.c k18 l18;have c19:=hJ2.c k19 l19;have c20:=hJ2.c k20 l20;have c21:=hJ2.c k21 l21;have c22:=hJ2.c k22 l22;have c23:=hJ2.c k23 l23;have c24:=hJ2.c k24 l24;have c25:=hJ2.c k25 l25
   clear hQ
   match iq,ho with
   | 0,ho=>
    cases ho;refine wpOp_of rfl rfl ?_;have hK:=hJ2.gO hS 0 94;generalize InvQ _ _ _ _ _ _=K at hK⊢;clear ho hall hl hJ2 hS;go_simp;exact hK _ rfl
   | 1,ho=>
    cases ho;refine wpOp_of rfl rfl ?_;have f0:_=Value.bool true:=hJ2.v hall 0 94;have hK:=hJ2.gO hS 1 95;generalize InvQ _ _ _ _ _ _=K at hK⊢;clear ho hall hl hJ2 hS;go_simp;exact hK _ rfl
   | 2,ho=>
    cases ho;refine wpOp_of rfl rfl ?_;have f1:_=Value.bool false:=hJ2.v hall 1 95;have hK:=hJ2.gO hS 2 96;generalize InvQ _ _ _ _ _ _=K at hK⊢;clear ho hall hl hJ2 hS;go_simp;exact hK _ rfl
   | 3,ho=>
    cases ho;have fg:aq.tmps.getD 96 undef= .bool false:=hJ2.v hall 2 96 .guard;refine wpOp_on rfl rfl rfl rfl fg ?_;have hK:=hJ2.gO hS 3 97;generalize InvQ _ _ _ _ _ _=K at hK⊢;clear ho hall hl hJ2 hS;go_simp;exact hK _ rfl
   | 4,ho=>
    cases ho;have fg:aq.tmps.getD 96 undef= .bool false:=hJ2.v hall 2 96 .guard;refine wpOp_on rfl rfl rfl rfl fg ?_;have f3:_=Value.pointer (some ⟨P16,0,none⟩):=hJ2.v hall 3 97;have hK:=hJ2.gO hS 4 98;generalize InvQ _ _ _ _ _ _=K at hK⊢;clear ho hall hl hJ2 hS;go_simp;exact hK _ rfl
   | 5,ho=>
    cases ho;have fg:aq.tmps.getD 96 undef= .bool false:=hJ2.v hall 2 96 .guard;refine wpOp_on rfl rfl rfl rfl fg ?_;have hK:=hJ2.gO hS 5 99;generalize InvQ _ _ _ _ _ _=K at hK⊢;clear ho hall hl hJ2 hS;go_simp;exact hK _ rfl
   | 6,ho=>
    cases ho;have fg:aq.tmps.getD 96 undef= .bool false:=hJ2.v hall 2 96 .guard;refine wpOp_on rfl rfl rfl rfl fg ?_;have hK:=hJ2.gO hS 6 100;generalize InvQ _ _ _ _ _ _=K at hK⊢;clear ho hall hl hJ2 hS;go_simp;exact hK _ rfl
   | 7,ho=>
    cases ho;have fg:aq.tmps.getD 96 undef= .bool false:=hJ2.v hall 2 96 .guard;refine wpOp_on rfl rfl rfl rfl fg ?_;have f5:_=Value.slice (some ⟨Ab,ob,none⟩) nb cb:=hJ2.v hall 5 99;have f6:_=Value.int .i64 (i:Int):=hJ2.v hall 6 100;have hiI:(i:Int)<(nb:Int):=by omega
    have hnI:(nb:Int)≤200:=by omega
    have hK:=hJ2.gO hS 7 101;generalize InvQ _ _ _ _ _ _=K at hK⊢;clear ho hall hl hJ2 hS;go_simp;exact hK _ rfl
   | 8,ho=>
    cases ho;have fg:aq.tmps.getD 96 undef= .bool false:=hJ2.v hall 2 96 .guard;refine wpOp_on rfl rfl rfl rfl fg ?_;have f7:_=Value.pointer (some ⟨Ab,ob+i*13,none⟩):=hJ2.v hall 7 101;have hK:=hJ2.gO hS 8 102;generalize InvQ _ _ _ _ _ _=K at hK⊢;clear ho hall hl hJ2 hS;go_simp;exact hK _ rfl
   | 9,ho=>
    cases ho;have fg:aq.tmps.getD 96 undef= .bool false:=hJ2.v hall 2 96 .guard;refine wpOp_on rfl rfl rfl rfl fg ?_;have f8:_=Value.pointer (some ⟨Ab,ob+i*13,none⟩):=hJ2.v hall 8 102;have hK:=hJ2.gO hS 9 103;generalize InvQ _ _ _ _ _ _=K at hK⊢;clear ho hall hl hJ2 hS;go_simp;exact hK _ rfl
   | 10,ho=>
    cases ho;have fg:aq.tmps.getD 96 undef= .bool false:=hJ2.v hall 2 96 .guard;refine wpOp_on rfl rfl rfl rfl fg ?_;have f4:_=Value.agg #[.int .u64 (ww3 x),.int .u64 (ww2 x),.int .u64 (ww1 x),.int .u64 (ww0 x),.int .u64 (ww3 y),.int .u64 (ww2 y),.int .u64 (ww1 y),.int .u64 (ww0 y),.int .u64 (ww3 z),.int .u64 (ww2 z),.int .u64 (ww1 z),.int .u64 (ww0 z)]:=hJ2.v hall 4 98;have f9:_=Value.agg #[.int .u64 (ww3 x),.int .u64 (ww2 x),.int .u64 (ww1 x),.int .u64 (ww0 x),.int .u64 (ww3 y),.int .u64 (ww2 y),.int .u64 (ww1 y),.int .u64 (ww0 y),.int .u64 (ww3 z),.int .u64 (ww2 z),.int .u64 (ww1 z),.int .u64 (ww0 z)]:=hJ2.v hall 9 103;have EP:∀W:World,(Op.equalIn 10000 29 (PV x y z) (PV x y z)).run Tryz.prog W= .ok true W:=fun W=>(eqPV x y z x y z tx ty tz tx ty tz W).trans (by simp);have hK:=hJ2.gO hS 10 104;generalize InvQ _ _ _ _ _ _=K at hK⊢;clear ho hall hl hJ2 hS;go_simp;exact hK _ rfl
   | 11,ho=>
    cases ho;refine wpOp_of rfl rfl ?_;have f2:_=Value.bool false:=hJ2.v hall 2 96;have f10:_=Value.bool false:=hJ2.v hall 10 104;have hK:=hJ2.gO hS 11 105;generalize InvQ _ _ _ _ _ _=K at hK⊢;clear ho hall hl hJ2 hS;go_simp;exact hK _ rfl
   | 12,ho=>
    cases ho;refine wpOp_of rfl rfl ?_;have f11:_=Value.bool false:=hJ2.v hall 11 105;have hK:=hJ2.gO hS 12 106;generalize InvQ _ _ _ _ _ _=K at hK⊢;clear ho hall hl hJ2 hS;go_simp;exact hK _ rfl
   | 13,ho=>
    cases ho;have fg:aq.tmps.getD 106 undef= .bool false:=hJ2.v hall 12 106 .guard;refine wpOp_on rfl rfl rfl rfl fg ?_;have hK:=hJ2.gO hS 13 107;generalize InvQ _ _ _ _ _ _=K at hK⊢;clear ho hall hl hJ2 hS;go_simp;exact hK _ rfl
   | 14,ho=>
    cases ho;have fg:aq.tmps.getD 106 undef= .bool false:=hJ2.v hall 12 106 .guard;refine wpOp_on rfl rfl rfl rfl fg ?_;have f13:_=Value.pointer (some ⟨P16,12,none⟩):=hJ2.v hall 13 107;have hK:=hJ2.gO hS 14 108;generalize InvQ _ _ _ _ _ _=K at hK⊢;clear ho hall hl hJ2 hS;go_simp;exact hK _ rfl
   | 15,ho=>
    cases ho;have fg:aq.tmps.getD 106 undef= .bool false:=hJ2.v hall 12 106 .guard;refine wpOp_on rfl rfl rfl rfl fg ?_;have hK:=hJ2.gO hS 15 109;generalize InvQ _ _ _ _ _ _=K at hK⊢;clear ho hall hl hJ2 hS;go_simp;exact hK _ rfl
   | 16,ho=>
    cases ho;have fg:aq.tmps.getD 106 undef= .bool false:=hJ2.v hall 12 106 .guard;refine wpOp_on rfl rfl rfl rfl fg ?_;have hK:=hJ2.gO hS 16 110;generalize InvQ _ _ _ _ _ _=K at hK⊢;clear ho hall hl hJ2 hS;go_simp;exact hK _ rfl
   | 17,ho=>
    cases ho;have fg:aq.tmps.getD 106 undef= .bool false:=hJ2.v hall 12 106 .guard;refine wpOp_on rfl rfl rfl rfl fg ?_;have f15:_=Value.slice (some ⟨Ab,ob,none⟩) nb cb:=hJ2.v hall 15 109;have f16:_=Value.int .i64 (i:Int):=hJ2.v hall 16 110;have hiI:(i:Int)<(nb:Int):=by omega
    have hnI:(nb:Int)≤200:=by omega
    have hK:=hJ2.gO hS 17 111;generalize InvQ _ _ _ _ _ _=K at hK⊢;clear ho hall hl hJ2 hS;go_simp;exact hK _ rfl
   | 18,ho=>
    cases ho;have fg:aq.tmps.getD 106 undef= .bool false:=hJ2.v hall 12 106 .guard;refine wpOp_on rfl rfl rfl rfl fg ?_;have f17:_=Value.pointer (some ⟨Ab,ob+i*13,none⟩):=hJ2.v hall 17 111;have hK:=hJ2.gO hS 18 112;generalize InvQ _ _ _ _ _ _=K at hK⊢;clear ho hall hl hJ2 hS;go_simp;exact hK _ rfl
   | 19,ho=>
    cases ho;have fg:aq.tmps.getD 106 undef= .bool false:=hJ2.v hall 12 106 .guard;refine wpOp_on rfl rfl rfl rfl fg ?_;have f18:_=Value.pointer (some ⟨Ab,ob+i*13+12,none⟩):=hJ2.v hall 18 112;have hK:=hJ2.gO hS 19 113;generalize InvQ _ _ _ _ _ _=K at hK⊢;clear ho hall hl hJ2 hS;go_simp;exact hK _ rfl
   | 20,ho=>
    cases ho;have fg:aq.tmps.getD 106 undef= .bool false:=hJ2.v hall 12 106 .guard;refine wpOp_on rfl rfl rfl rfl fg ?_;have f14:_=Value.slice eo m ec:=hJ2.v hall 14 108;have f19:_=Value.slice bo m bc:=hJ2.v hall 19 113;have hK:=hJ2.go hS 20 114;generalize InvQ _ _ _ _ _ _=K at hK⊢;clear ho hall hl hJ2 hS;go_simp;refine(CS W z5).mono ?_;rintro e v1 ⟨rfl,hBv⟩;exact hK _ _ (z5.trans (hBv.mono z5.size)) (fun j v h=>h.mono hBv) rfl
   | 21,ho=>
    cases ho;have fg:aq.tmps.getD 106 undef= .bool false:=hJ2.v hall 12 106 .guard;refine wpOp_on rfl rfl rfl rfl fg ?_;have f20:_=Value.bool true:=hJ2.v hall 20 114;have hK:=hJ2.gO hS 21 115;generalize InvQ _ _ _ _ _ _=K at hK⊢;clear ho hall hl hJ2 hS;go_simp;exact hK _ rfl
   | 22,ho=>
    cases ho;refine wpOp_of rfl rfl ?_;have f12:_=Value.bool false:=hJ2.v hall 12 106;have f21:_=Value.bool false:=hJ2.v hall 21 115;have hK:=hJ2.gO hS 22 116;generalize InvQ _ _ _ _ _ _=K at hK⊢;clear ho hall hl hJ2 hS;go_simp;exact hK _ rfl
   | 23,ho=>
    cases ho;refine wpOp_of rfl rfl ?_;have f22:_=Value.bool false:=hJ2.v hall 22 116;have hK:=hJ2.gO hS 23 117;generalize InvQ _ _ _ _ _ _=K at hK⊢;clear ho hall hl hJ2 hS;go_simp;exact hK _ rfl
   | 24,ho=>
    cases ho;have fg:aq.tmps.getD 117 undef= .bool false:=hJ2.v hall 23 117 .guard;refine wpOp_on rfl rfl rfl rfl fg ?_;have hK:=hJ2.gO hS 24 118;generalize InvQ _ _ _ _ _ _=K at hK⊢;clear ho hall hl hJ2 hS;go_simp;exact hK _ rfl
   | 25,ho=>
    cases ho;have fg:aq.tmps.getD 117 undef= .bool false:=hJ2.v hall 23 117 .guard;refine wpOp_on rfl rfl rfl rfl fg ?_;have f24:_=Value.int .i64 (i:Int):=hJ2.v hall 24 118;have hK:=hJ2.gO hS 25 119;generalize InvQ _ _ _ _ _ _=K at hK⊢;clear ho hall hl hJ2 hS;go_simp;exact hK _ rfl
   | 26,ho=>
    cases ho;have fg:aq.tmps.getD 117 undef= .bool false:=hJ2.v hall 23 117 .guard;refine wpOp_on rfl rfl rfl rfl fg ?_;have f25:_=Value.bool false:=hJ2.v hall 25 119;have hK:=hJ2.gO hS 26 120;generalize InvQ _ _ _ _ _ _=K at hK⊢;clear ho hall hl hJ2 hS;go_simp;exact hK _ rfl
   | 27,ho=>
    cases ho;have fg:aq.tmps.getD 120 undef= .bool false:=hJ2.v hall 26 120 .guard;refine wpOp_off rfl rfl rfl rfl fg ?_;exact hJ2.put hS 27 121 rfl (by omega) z5 (fun _ _ h=>h) undef rfl
   | 28,ho=>
    cases ho;have fg:aq.tmps.getD 120 undef= .bool false:=hJ2.v hall 26 120 .guard;refine wpOp_off rfl rfl rfl rfl fg ?_;exact hJ2.put hS 28 122 rfl (by omega) z5 (fun _ _ h=>h) undef rfl
   | 29,ho=>
    cases ho;have fg:aq.tmps.getD 120 undef= .bool false:=hJ2.v hall 26 120 .guard;refine wpOp_off rfl rfl rfl rfl fg ?_;exact hJ2.put hS 29 123 rfl (by omega) z5 (fun _ _ h=>h) undef rfl
   | 30,ho=>
    cases ho;have fg:aq.tmps.getD 120 undef= .bool false:=hJ2.v hall 26 120 .guard;refine wpOp_off rfl rfl rfl rfl fg ?_;exact hJ2.put hS 30 124 rfl (by omega) z5 (fun _ _ h=>h) undef rfl
   | 31,ho=>
    cases ho;have fg:aq.tmps.getD 120 undef= .bool false:=hJ2.v hall 26 120 .guard;refine wpOp_off rfl rfl rfl rfl fg ?_;exact hJ2.put hS 31 125 rfl (by omega) z5 (fun _ _ h=>h) undef rfl
   | 32,ho=>
    cases ho;have fg:aq.tmps.getD 117 undef= .bool false:=hJ2.v hall 23 117 .guard;refine wpOp_on rfl rfl rfl rfl fg ?_;have f26:_=Value.bool false:=hJ2.v hall 26 120;have f31:_=undef:=hJ2.v hall 31 125;have hK:=hJ2.gO hS 32 126;generalize InvQ _ _ _ _ _ _=K at hK⊢;clear ho hall hl hJ2 hS;go_simp;exact hK _ rfl
   | 33,ho=>
    cases ho;refine wpOp_of rfl rfl ?_;have f23:_=Value.bool false:=hJ2.v hall 23 117;have f32:_=Value.bool false:=hJ2.v hall 32 126;have hK:=hJ2.gO hS 33 127;generalize InvQ _ _ _ _ _ _=K at hK⊢;clear ho hall hl hJ2 hS;go_simp;exact hK _ rfl
   | iq+34,ho=>simp at ho
 · intro lq aq W hJ hr;obtain⟨z1,z2,z3,z4,z5,z6,z7⟩:=hJ;have hl:=listed_of hr [0,1,2,3,4,5,6,7,8,9,10,11,12,13,14,15,16,17,18,19,20,21,22,23,24,25,26,27,28,29,30,31,32,33] [] (by simp) (by kernel_rfl) (by rw[z1];decide);exact hQ aq W z2 z3 (fun e he=>z4 e (by simpa using he)) (z6 33 127 (hl 33 (by simp)) rfl) z5
def VerS1 (P16 Ab ob i nb cb m ec bc:Nat) (x y z lx ly lz cz:Int) (eo bo:Option Addr) (_B:Nat):Nat→Value→World→Prop
 | 0,v,_=>v= .bool true
 | 1,v,_=>v= .bool false
 | 2,v,_=>v= .bool false
 | 3,v,_=>v= .pointer (some ⟨P16,0,none⟩)
 | 4,v,_=>v= .agg #[.int .u64 (ww3 x),.int .u64 (ww2 x),.int .u64 (ww1 x),.int .u64 (ww0 x),.int .u64 (ww3 y),.int .u64 (ww2 y),.int .u64 (ww1 y),.int .u64 (ww0 y),.int .u64 (ww3 z),.int .u64 (ww2 z),.int .u64 (ww1 z),.int .u64 (ww0 z)]
 | 5,v,_=>v= .slice (some ⟨Ab,ob,none⟩) nb cb
 | 6,v,_=>v= .int .i64 (i:Int)
 | 7,v,_=>v= .pointer (some ⟨Ab,ob+i*13,none⟩)
 | 8,v,_=>v= .pointer (some ⟨Ab,ob+i*13,none⟩)
 | 9,v,_=>v= .agg #[.int .u64 (ww3 x),.int .u64 (ww2 x),.int .u64 (ww1 x),.int .u64 (ww0 x),.int .u64 (ww3 y),.int .u64 (ww2 y),.int .u64 (ww1 y),.int .u64 (ww0 y),.int .u64 (ww3 z),.int .u64 (ww2 z),.int .u64 (ww1 z),.int .u64 (ww0 z)]
 | 10,v,_=>v= .bool false
 | 11,v,_=>v= .bool false
 | 12,v,_=>v= .bool false
 | 13,v,_=>v= .pointer (some ⟨P16,12,none⟩)
 | 14,v,_=>v= .slice eo m ec
 | 15,v,_=>v= .slice (some ⟨Ab,ob,none⟩) nb cb
 | 16,v,_=>v= .int .i64 (i:Int)
 | 17,v,_=>v= .pointer (some ⟨Ab,ob+i*13,none⟩)
 | 18,v,_=>v= .pointer (some ⟨Ab,ob+i*13+12,none⟩)
 | 19,v,_=>v= .slice bo m bc
 | 20,v,_=>v= .bool true
 | 21,v,_=>v= .bool false
 | 22,v,_=>v= .bool false
 | 23,v,_=>v= .bool false
 | 24,v,_=>v= .int .i64 (i:Int)
 | 25,v,_=>v= .bool true
 | 26,v,_=>v= .bool true
 | 27,v,_=>v= .agg #[.int .u64 (ww3 lx),.int .u64 (ww2 lx),.int .u64 (ww1 lx),.int .u64 (ww0 lx),.int .u64 (ww3 ly),.int .u64 (ww2 ly),.int .u64 (ww1 ly),.int .u64 (ww0 ly),.int .u64 (ww3 lz),.int .u64 (ww2 lz),.int .u64 (ww1 lz),.int .u64 (ww0 lz)]
 | 28,v,_=>v= .pointer (some ⟨P16,0,none⟩)
 | 29,v,_=>v= .agg #[.int .u64 (ww3 x),.int .u64 (ww2 x),.int .u64 (ww1 x),.int .u64 (ww0 x),.int .u64 (ww3 y),.int .u64 (ww2 y),.int .u64 (ww1 y),.int .u64 (ww0 y),.int .u64 (ww3 z),.int .u64 (ww2 z),.int .u64 (ww1 z),.int .u64 (ww0 z)]
 | 30,v,_=>v= .int .i64 cz
 | 31,v,_=>v= .bool false
 | 32,v,_=>v= .bool false
 | 33,v,_=>v= .bool false
 | _,_,_=>True
theorem VerS1.mono {P16 Ab ob i nb cb m ec bc:Nat} {x y z lx ly lz cz:Int} {eo bo:Option Addr} {B j:Nat} {v:Value} {W W2:World} (_hB:Below W.heap.size W W2) (h:VerS1 P16 Ab ob i nb cb m ec bc x y z lx ly lz cz eo bo B j v W):VerS1 P16 Ab ob i nb cb m ec bc x y z lx ly lz cz eo bo B j v W2:=by
 unfold VerS1 at *
 split<;>simp only at h<;>first | exact h | trivial
theorem erS1 {Q:Exit→Act→World→Prop} {P16 Ab ob i nb cb m ec bc:Nat} {x y z lx ly lz cz:Int} {eo bo:Option Addr} {P14:Nat} {w0:World} {a0:Act} {idq:Nat} {t0 t1 t2 t3 t4 t5 t6 t7 t8 t9 t10 t11 t12 t13 t14 t15 t16 t17 t18 t19 t20 t21 t22 t23 t24 t25 t26 t27 t28 t29 t30 t31 t32 t33:TypeId} {q0 q1 q2 q3 q4 q5 q6 q7 q8 q9 q10 q11 q12 q13 q14 q15 q16 q17 q18 q19 q20 q21 q22 q23 q24 q25 q26 q27 q28 q29 q30 q31 q32 q33:String}
 (hin:i<nb) (hnb:nb≤200) (tx:told x=true) (ty:told y=true) (tz:told z=true) (CS:∀W2:World,Below w0.heap.size w0 W2→Calls Tryz.prog 10 #[.slice eo m ec,.slice bo m bc] W2 (BoolP true W2)) (hbg:decide (0<i)=true) (hcz:cz<0) (CP:∀W2:World,Calls Tryz.prog 11 #[PV lx ly lz,PV x y z] W2 (VP (.int .i64 cz) W2)) (h18:a0.tmps[18]? =some (.bool true)) (h16:a0.tmps[16]? =some (.pointer (some ⟨P16,0,none⟩))) (h10:a0.tmps[10]? =some (.slice (some ⟨Ab,ob,none⟩) nb cb)) (h15:a0.tmps[15]? =some (.int .i64 (i:Int))) (h14:a0.tmps[14]? =some (.pointer (some ⟨P14,0,none⟩))) (k0:w0.cell? ⟨P16,0,none⟩=some (.int .u64 (ww3 x))) (l0:(⟨P16,0,none⟩:Addr).block<w0.heap.size) (k1:w0.cell? ⟨P16,1,none⟩=some (.int .u64 (ww2 x))) (l1:(⟨P16,1,none⟩:Addr).block<w0.heap.size) (k2:w0.cell? ⟨P16,2,none⟩=some (.int .u64 (ww1 x))) (l2:(⟨P16,2,none⟩:Addr).block<w0.heap.size) (k3:w0.cell? ⟨P16,3,none⟩=some (.int .u64 (ww0 x))) (l3:(⟨P16,3,none⟩:Addr).block<w0.heap.size) (k4:w0.cell? ⟨P16,4,none⟩=some (.int .u64 (ww3 y))) (l4:(⟨P16,4,none⟩:Addr).block<w0.heap.size) (k5:w0.cell? ⟨P16,5,none⟩=some (.int .u64 (ww2 y))) (l5:(⟨P16,5,none⟩:Addr).block<w0.heap.size) (k6:w0.cell? ⟨P16,6,none⟩=some (.int .u64 (ww1 y))) (l6:(⟨P16,6,none⟩:Addr).block<w0.heap.size) (k7:w0.cell? ⟨P16,7,none⟩=some (.int .u64 (ww0 y))) (l7:(⟨P16,7,none⟩:Addr).block<w0.heap.size) (k8:w0.cell? ⟨P16,8,none⟩=some (.int .u64 (ww3 z))) (l8:(⟨P16,8,none⟩:Addr).block<w0.heap.size) (k9:w0.cell? ⟨P16,9,none⟩=some (.int .u64 (ww2 z))) (l9:(⟨P16,9,none⟩:Addr).block<w0.heap.size) (k10:w0.cell? ⟨P16,10,none⟩=some (.int .u64 (ww1 z))) (l10:(⟨P16,10,none⟩:Addr).block<w0.heap.size) (k11:w0.cell? ⟨P16,11,none⟩=some (.int .u64 (ww0 z))) (l11:(⟨P16,11,none⟩:Addr).block<w0.heap.size) (k12:w0.cell? ⟨P16,12,none⟩=some (.slice eo m ec)) (l12:(⟨P16,12,none⟩:Addr).block<w0.heap.size) (k13:w0.cell? ⟨Ab,ob+i*13,none⟩=some (.int .u64 (ww3 x))) (l13:(⟨Ab,ob+i*13,none⟩:Addr).block<w0.heap.size) (k14:w0.cell? ⟨Ab,ob+i*13+1,none⟩=some (.int .u64 (ww2 x))) (l14:(⟨Ab,ob+i*13+1,none⟩:Addr).block<w0.heap.size) (k15:w0.cell? ⟨Ab,ob+i*13+2,none⟩=some (.int .u64 (ww1 x))) (l15:(⟨Ab,ob+i*13+2,none⟩:Addr).block<w0.heap.size) (k16:w0.cell? ⟨Ab,ob+i*13+3,none⟩=some (.int .u64 (ww0 x))) (l16:(⟨Ab,ob+i*13+3,none⟩:Addr).block<w0.heap.size) (k17:w0.cell? ⟨Ab,ob+i*13+4,none⟩=some (.int .u64 (ww3 y))) (l17:(⟨Ab,ob+i*13+4,none⟩:Addr).block<w0.heap.size) (k18:w0.cell? ⟨Ab,ob+i*13+5,none⟩=some (.int .u64 (ww2 y))) (l18:(⟨Ab,ob+i*13+5,none⟩:Addr).block<w0.heap.size) (k19:w0.cell? ⟨Ab,ob+i*13+6,none⟩=some (.int .u64 (ww1 y))) (l19:(⟨Ab,ob+i*13+6,none⟩:Addr).block<w0.heap.size) (k20:w0.cell? ⟨Ab,ob+i*13+7,none⟩=some (.int .u64 (ww0 y))) (l20:(⟨Ab,ob+i*13+7,none⟩:Addr).block<w0.heap.size) (k21:w0.cell? ⟨Ab,ob+i*13+8,none⟩=some (.int .u64 (ww3 z))) (l21:(⟨Ab,ob+i*13+8,none⟩:Addr).block<w0.heap.size) (k22:w0.cell? ⟨Ab,ob+i*13+9,none⟩=some (.int .u64 (ww2 z))) (l22:(⟨Ab,ob+i*13+9,none⟩:Addr).block<w0.heap.size) (k23:w0.cell? ⟨Ab,ob+i*13+10,none⟩=some (.int .u64 (ww1 z))) (l23:(⟨Ab,ob+i*13+10,none⟩:Addr).block<w0.heap.size) (k24:w0.cell? ⟨Ab,ob+i*13+11,none⟩=some (.int .u64 (ww0 z))) (l24:(⟨Ab,ob+i*13+11,none⟩:Addr).block<w0.heap.size) (k25:w0.cell? ⟨Ab,ob+i*13+12,none⟩=some (.slice bo m bc)) (l25:(⟨Ab,ob+i*13+12,none⟩:Addr).block<w0.heap.size) (k26:w0.cell? ⟨P14,0,none⟩=some (.int .u64 (ww3 lx))) (l26:(⟨P14,0,none⟩:Addr).block<w0.heap.size) (k27:w0.cell? ⟨P14,1,none⟩=some (.int .u64 (ww2 lx))) (l27:(⟨P14,1,none⟩:Addr).block<w0.heap.size) (k28:w0.cell? ⟨P14,2,none⟩=some (.int .u64 (ww1 lx))) (l28:(⟨P14,2,none⟩:Addr).block<w0.heap.size) (k29:w0.cell? ⟨P14,3,none⟩=some (.int .u64 (ww0 lx))) (l29:(⟨P14,3,none⟩:Addr).block<w0.heap.size) (k30:w0.cell? ⟨P14,4,none⟩=some (.int .u64 (ww3 ly))) (l30:(⟨P14,4,none⟩:Addr).block<w0.heap.size) (k31:w0.cell? ⟨P14,5,none⟩=some (.int .u64 (ww2 ly))) (l31:(⟨P14,5,none⟩:Addr).block<w0.heap.size) (k32:w0.cell? ⟨P14,6,none⟩=some (.int .u64 (ww1 ly))) (l32:(⟨P14,6,none⟩:Addr).block<w0.heap.size) (k33:w0.cell? ⟨P14,7,none⟩=some (.int .u64 (ww0 ly))) (l33:(⟨P14,7,none⟩:Addr).block<w0.heap.size) (k34:w0.cell? ⟨P14,8,none⟩=some (.int .u64 (ww3 lz))) (l34:(⟨P14,8,none⟩:Addr).block<w0.heap.size) (k35:w0.cell? ⟨P14,9,none⟩=some (.int .u64 (ww2 lz))) (l35:(⟨P14,9,none⟩:Addr).block<w0.heap.size) (k36:w0.cell? ⟨P14,10,none⟩=some (.int .u64 (ww1 lz))) (l36:(⟨P14,10,none⟩:Addr).block<w0.heap.size) (k37:w0.cell? ⟨P14,11,none⟩=some (.int .u64 (ww0 lz))) (l37:(⟨P14,11,none⟩:Addr).block<w0.heap.size) (hz:a0.tmps.size=163)
 (hQ:∀aq W,aq.tmps.size=a0.tmps.size→aq.defers=a0.defers→(∀e,e∉([94,95,96,97,98,99,100,101,102,103,104,105,106,107,108,109,110,111,112,113,114,115,116,117,118,119,120,121,122,123,124,125,126,127]:List Nat)→aq.tmps[e]? =a0.tmps[e]?)→VerS1 P16 Ab ob i nb cb m ec bc x y z lx ly lz cz eo bo w0.heap.size 33 (aq.tmps.getD 127 undef) W→Below w0.heap.size w0 W→Q .normal aq W) :
 (Code.region idq #[⟨some 94,.move (.tmp 18),t0,q0,#[],none⟩,
 ⟨some 95,.unOp .not 4 (.tmp 94),t1,q1,#[⟨0,.data⟩],none⟩,
 ⟨some 96,.move (.tmp 95),t2,q2,#[⟨1,.data⟩],none⟩,
 ⟨some 97,.fieldAddr 37 (.tmp 16) 0,t3,q3,#[⟨2,.guard⟩],some (2,false)⟩,
 ⟨some 98,.load 29 (.tmp 97),t4,q4,#[⟨3,.data⟩,⟨2,.guard⟩],some (2,false)⟩,
 ⟨some 99,.move (.tmp 10),t5,q5,#[⟨2,.guard⟩],some (2,false)⟩,
 ⟨some 100,.move (.tmp 15),t6,q6,#[⟨2,.guard⟩],some (2,false)⟩,
 ⟨some 101,.indexAddr 24 (.tmp 99) (.tmp 100),t7,q7,#[⟨5,.data⟩,⟨6,.data⟩,⟨2,.guard⟩],some (2,false)⟩,
 ⟨some 102,.fieldAddr 37 (.tmp 101) 0,t8,q8,#[⟨7,.data⟩,⟨2,.guard⟩],some (2,false)⟩,
 ⟨some 103,.load 29 (.tmp 102),t9,q9,#[⟨8,.data⟩,⟨2,.guard⟩],some (2,false)⟩,
 ⟨some 104,.binOp .neq 29 (.tmp 98) (.tmp 103) 29,t10,q10,#[⟨4,.data⟩,⟨9,.data⟩,⟨2,.guard⟩],some (2,false)⟩,
 ⟨some 105,.pick (.tmp 96) (.const (.bool true)) (.tmp 104),t11,q11,#[⟨2,.data⟩,⟨10,.data⟩],none⟩,
 ⟨some 106,.move (.tmp 105),t12,q12,#[⟨11,.data⟩,⟨2,.chain⟩],none⟩,
 ⟨some 107,.fieldAddr 37 (.tmp 16) 1,t13,q13,#[⟨12,.guard⟩],some (12,false)⟩,
 ⟨some 108,.load 35 (.tmp 107),t14,q14,#[⟨13,.data⟩,⟨12,.guard⟩],some (12,false)⟩,
 ⟨some 109,.move (.tmp 10),t15,q15,#[⟨12,.guard⟩],some (12,false)⟩,
 ⟨some 110,.move (.tmp 15),t16,q16,#[⟨12,.guard⟩],some (12,false)⟩,
 ⟨some 111,.indexAddr 24 (.tmp 109) (.tmp 110),t17,q17,#[⟨15,.data⟩,⟨16,.data⟩,⟨12,.guard⟩],some (12,false)⟩,
 ⟨some 112,.fieldAddr 37 (.tmp 111) 1,t18,q18,#[⟨17,.data⟩,⟨12,.guard⟩],some (12,false)⟩,
 ⟨some 113,.load 35 (.tmp 112),t19,q19,#[⟨18,.data⟩,⟨12,.guard⟩],some (12,false)⟩,
 ⟨some 114,.call {callee:= .value (.func 10),args:=#[.tmp 108,.tmp 113],argTypes:=#[35,35]},t20,q20,#[⟨14,.data⟩,⟨19,.data⟩,⟨12,.chain⟩,⟨12,.guard⟩],some (12,false)⟩,
 ⟨some 115,.unOp .not 4 (.tmp 114),t21,q21,#[⟨20,.data⟩,⟨12,.guard⟩],some (12,false)⟩,
 ⟨some 116,.pick (.tmp 106) (.const (.bool true)) (.tmp 115),t22,q22,#[⟨12,.data⟩,⟨21,.data⟩],none⟩,
 ⟨some 117,.move (.tmp 116),t23,q23,#[⟨22,.data⟩,⟨20,.chain⟩],none⟩,
 ⟨some 118,.move (.tmp 15),t24,q24,#[⟨23,.guard⟩],some (23,false)⟩,
 ⟨some 119,.binOp .gtr 3 (.tmp 118) (.const (.int .i64 0)) 3,t25,q25,#[⟨24,.data⟩,⟨23,.guard⟩],some (23,false)⟩,
 ⟨some 120,.move (.tmp 119),t26,q26,#[⟨25,.data⟩,⟨23,.chain⟩,⟨23,.guard⟩],some (23,false)⟩,
 ⟨some 121,.load 29 (.tmp 14),t27,q27,#[⟨26,.guard⟩],some (26,true)⟩,
 ⟨some 122,.fieldAddr 37 (.tmp 16) 0,t28,q28,#[⟨26,.guard⟩],some (26,true)⟩,
 ⟨some 123,.load 29 (.tmp 122),t29,q29,#[⟨28,.data⟩,⟨26,.guard⟩],some (26,true)⟩,
 ⟨some 124,.call {callee:= .value (.func 11),args:=#[.tmp 121,.tmp 123],argTypes:=#[29,29]},t30,q30,#[⟨27,.data⟩,⟨29,.data⟩,⟨26,.chain⟩,⟨26,.guard⟩],some (26,true)⟩,
 ⟨some 125,.binOp .geq 2 (.tmp 124) (.const (.int .i64 0)) 2,t31,q31,#[⟨30,.data⟩,⟨26,.guard⟩],some (26,true)⟩,
 ⟨some 126,.pick (.tmp 120) (.tmp 125) (.const (.bool false)),t32,q32,#[⟨26,.data⟩,⟨31,.data⟩,⟨23,.guard⟩],some (23,false)⟩,
 ⟨some 127,.pick (.tmp 117) (.const (.bool true)) (.tmp 126),t33,q33,#[⟨23,.data⟩,⟨32,.data⟩],none⟩] true).wp Tryz.prog Q a0 w0:=by
 have hS:distS [some 94,some 95,some 96,some 97,some 98,some 99,some 100,some 101,some 102,some 103,some 104,some 105,some 106,some 107,some 108,some 109,some 110,some 111,some 112,some 113,some 114,some 115,some 116,some 117,some 118,some 119,some 120,some 121,some 122,some 123,some 124,some 125,some 126,some 127]=true:=rfl;refine wp_region_q (by kernel_rfl) w0.heap.size [some 94,some 95,some 96,some 97,some 98,some 99,some 100,some 101,some 102,some 103,some 104,some 105,some 106,some 107,some 108,some 109,some 110,some 111,some 112,some 113,some 114,some 115,some 116,some 117,some 118,some 119,some 120,some 121,some 122,some 123,some 124,some 125,some 126,some 127] (VerS1 P16 Ab ob i nb cb m ec bc x y z lx ly lz cz eo bo w0.heap.size) rfl ?_ ?_
 · intro Q lq aq W iq oq hJ2 hl ho hall;have z5:=hJ2.b;have g18:=hJ2.a h18
   have g16:=hJ2.a h16
   have g10:=hJ2.a h10
   have g15:=hJ2.a h15
   have g14:=hJ2.a h14
   have c0:=hJ2.c k0 l0;have c1:=hJ2.c k1 l1;have c2:=hJ2.c k2 l2;have c3:=hJ2.c k3 l3;have c4:=hJ2.c k4 l4;have c5:=hJ2.c k5 l5;have c6:=hJ2.c k6 l6;have c7:=hJ2.c k7 l7;have c8:=hJ2.c k8 l8;have c9:=hJ2.c k9 l9;have c10:=hJ2.c k10 l10;have c11:=hJ2.c k11 l11;have c12:=hJ2.c k12 l12;have c13:=hJ2.c k13 l13;have c14:=hJ2.c k14 l14;have c15:=hJ2.c k15 l15;have c16:=hJ2.c k16 l16;have c17:=hJ2.c k17 l17;have c18:=hJ2.c k18 l18;have c19:=hJ2.c k19 l19;have c20:=hJ2.c k20 l20;have c21:=hJ2.c k21 l21;have c22:=hJ2.c k22 l22;have c23:=hJ2.c k23 l23;have c24:=hJ2.c k24 l24;have c25:=hJ2.c k25 l25;have c26:=hJ2.c k26 l26;have c27:=hJ2.c k27 l27;have c28:=hJ2.c k28 l28;have c29:=hJ2.c k29 l29;have c30:=hJ2.c k30 l30;have c31:=hJ2.c k31 l31;have c32:=hJ2.c k32 l32;have c33:=hJ2.c k33 l33;have c34:=hJ2.c k34 l34;have c35:=hJ2.c k35 l35;have c36:=hJ2.c k36 l36;have c37:=hJ2.c k37 l37
   clear hQ
   match iq,ho with
   | 0,ho=>
    cases ho;refine wpOp_of rfl rfl ?_;have hK:=hJ2.gO hS 0 94;generalize InvQ _ _ _ _ _ _=K at hK⊢;clear ho hall hl hJ2 hS;go_simp;exact hK _ rfl
   | 1,ho=>
    cases ho;refine wpOp_of rfl rfl ?_;have f0:_=Value.bool true:=hJ2.v hall 0 94;have hK:=hJ2.gO hS 1 95;generalize InvQ _ _ _ _ _ _=K at hK⊢;clear ho hall hl hJ2 hS;go_simp;exact hK _ rfl
   | 2,ho=>
    cases ho;refine wpOp_of rfl rfl ?_;have f1:_=Value.bool false:=hJ2.v hall 1 95;have hK:=hJ2.gO hS 2 96;generalize InvQ _ _ _ _ _ _=K at hK⊢;clear ho hall hl hJ2 hS;go_simp;exact hK _ rfl
   | 3,ho=>
    cases ho;have fg:aq.tmps.getD 96 undef= .bool false:=hJ2.v hall 2 96 .guard;refine wpOp_on rfl rfl rfl rfl fg ?_;have hK:=hJ2.gO hS 3 97;generalize InvQ _ _ _ _ _ _=K at hK⊢;clear ho hall hl hJ2 hS;go_simp;exact hK _ rfl
   | 4,ho=>
    cases ho;have fg:aq.tmps.getD 96 undef= .bool false:=hJ2.v hall 2 96 .guard;refine wpOp_on rfl rfl rfl rfl fg ?_;have f3:_=Value.pointer (some ⟨P16,0,none⟩):=hJ2.v hall 3 97;have hK:=hJ2.gO hS 4 98;generalize InvQ _ _ _ _ _ _=K at hK⊢;clear ho hall hl hJ2 hS;go_simp;exact hK _ rfl
   | 5,ho=>
    cases ho;have fg:aq.tmps.getD 96 undef= .bool false:=hJ2.v hall 2 96 .guard;refine wpOp_on rfl rfl rfl rfl fg ?_;have hK:=hJ2.gO hS 5 99;generalize InvQ _ _ _ _ _ _=K at hK⊢;clear ho hall hl hJ2 hS;go_simp;exact hK _ rfl
   | 6,ho=>
    cases ho;have fg:aq.tmps.getD 96 undef= .bool false:=hJ2.v hall 2 96 .guard;refine wpOp_on rfl rfl rfl rfl fg ?_;have hK:=hJ2.gO hS 6 100;generalize InvQ _ _ _ _ _ _=K at hK⊢;clear ho hall hl hJ2 hS;go_simp;exact hK _ rfl
   | 7,ho=>
    cases ho;have fg:aq.tmps.getD 96 undef= .bool false:=hJ2.v hall 2 96 .guard;refine wpOp_on rfl rfl rfl rfl fg ?_;have f5:_=Value.slice (some ⟨Ab,ob,none⟩) nb cb:=hJ2.v hall 5 99;have f6:_=Value.int .i64 (i:Int):=hJ2.v hall 6 100;have hiI:(i:Int)<(nb:Int):=by omega
    have hnI:(nb:Int)≤200:=by omega
    have hK:=hJ2.gO hS 7 101;generalize InvQ _ _ _ _ _ _=K at hK⊢;clear ho hall hl hJ2 hS;go_simp;exact hK _ rfl
   | 8,ho=>
    cases ho;have fg:aq.tmps.getD 96 undef= .bool false:=hJ2.v hall 2 96 .guard;refine wpOp_on rfl rfl rfl rfl fg ?_;have f7:_=Value.pointer (some ⟨Ab,ob+i*13,none⟩):=hJ2.v hall 7 101;have hK:=hJ2.gO hS 8 102;generalize InvQ _ _ _ _ _ _=K at hK⊢;clear ho hall hl hJ2 hS;go_simp;exact hK _ rfl
   | 9,ho=>
    cases ho;have fg:aq.tmps.getD 96 undef= .bool false:=hJ2.v hall 2 96 .guard;refine wpOp_on rfl rfl rfl rfl fg ?_;have f8:_=Value.pointer (some ⟨Ab,ob+i*13,none⟩):=hJ2.v hall 8 102;have hK:=hJ2.gO hS 9 103;generalize InvQ _ _ _ _ _ _=K at hK⊢;clear ho hall hl hJ2 hS;go_simp;exact hK _ rfl
   | 10,ho=>
    cases ho;have fg:aq.tmps.getD 96 undef= .bool false:=hJ2.v hall 2 96 .guard;refine wpOp_on rfl rfl rfl rfl fg ?_;have f4:_=Value.agg #[.int .u64 (ww3 x),.int .u64 (ww2 x),.int .u64 (ww1 x),.int .u64 (ww0 x),.int .u64 (ww3 y),.int .u64 (ww2 y),.int .u64 (ww1 y),.int .u64 (ww0 y),.int .u64 (ww3 z),.int .u64 (ww2 z),.int .u64 (ww1 z),.int .u64 (ww0 z)]:=hJ2.v hall 4 98;have f9:_=Value.agg #[.int .u64 (ww3 x),.int .u64 (ww2 x),.int .u64 (ww1 x),.int .u64 (ww0 x),.int .u64 (ww3 y),.int .u64 (ww2 y),.int .u64 (ww1 y),.int .u64 (ww0 y),.int .u64 (ww3 z),.int .u64 (ww2 z),.int .u64 (ww1 z),.int .u64 (ww0 z)]:=hJ2.v hall 9 103;have EP:∀W:World,(Op.equalIn 10000 29 (PV x y z) (PV x y z)).run Tryz.prog W= .ok true W:=fun W=>(eqPV x y z x y z tx ty tz tx ty tz W).trans (by simp);have hK:=hJ2.gO hS 10 104;generalize InvQ _ _ _ _ _ _=K at hK⊢;clear ho hall hl hJ2 hS;go_simp;exact hK _ rfl
   | 11,ho=>
    cases ho;refine wpOp_of rfl rfl ?_;have f2:_=Value.bool false:=hJ2.v hall 2 96;have f10:_=Value.bool false:=hJ2.v hall 10 104;have hK:=hJ2.gO hS 11 105;generalize InvQ _ _ _ _ _ _=K at hK⊢;clear ho hall hl hJ2 hS;go_simp;exact hK _ rfl
   | 12,ho=>
    cases ho;refine wpOp_of rfl rfl ?_;have f11:_=Value.bool false:=hJ2.v hall 11 105;have hK:=hJ2.gO hS 12 106;generalize InvQ _ _ _ _ _ _=K at hK⊢;clear ho hall hl hJ2 hS;go_simp;exact hK _ rfl
   | 13,ho=>
    cases ho;have fg:aq.tmps.getD 106 undef= .bool false:=hJ2.v hall 12 106 .guard;refine wpOp_on rfl rfl rfl rfl fg ?_;have hK:=hJ2.gO hS 13 107;generalize InvQ _ _ _ _ _ _=K at hK⊢;clear ho hall hl hJ2 hS;go_simp;exact hK _ rfl
   | 14,ho=>
    cases ho;have fg:aq.tmps.getD 106 undef= .bool false:=hJ2.v hall 12 106 .guard;refine wpOp_on rfl rfl rfl rfl fg ?_;have f13:_=Value.pointer (some ⟨P16,12,none⟩):=hJ2.v hall 13 107;have hK:=hJ2.gO hS 14 108;generalize InvQ _ _ _ _ _ _=K at hK⊢;clear ho hall hl hJ2 hS;go_simp;exact hK _ rfl
   | 15,ho=>
    cases ho;have fg:aq.tmps.getD 106 undef= .bool false:=hJ2.v hall 12 106 .guard;refine wpOp_on rfl rfl rfl rfl fg ?_;have hK:=hJ2.gO hS 15 109;generalize InvQ _ _ _ _ _ _=K at hK⊢;clear ho hall hl hJ2 hS;go_simp;exact hK _ rfl
   | 16,ho=>
    cases ho;have fg:aq.tmps.getD 106 undef= .bool false:=hJ2.v hall 12 106 .guard;refine wpOp_on rfl rfl rfl rfl fg ?_;have hK:=hJ2.gO hS 16 110;generalize InvQ _ _ _ _ _ _=K at hK⊢;clear ho hall hl hJ2 hS;go_simp;exact hK _ rfl
   | 17,ho=>
    cases ho;have fg:aq.tmps.getD 106 undef= .bool false:=hJ2.v hall 12 106 .guard;refine wpOp_on rfl rfl rfl rfl fg ?_;have f15:_=Value.slice (some ⟨Ab,ob,none⟩) nb cb:=hJ2.v hall 15 109;have f16:_=Value.int .i64 (i:Int):=hJ2.v hall 16 110;have hiI:(i:Int)<(nb:Int):=by omega
    have hnI:(nb:Int)≤200:=by omega
    have hK:=hJ2.gO hS 17 111;generalize InvQ _ _ _ _ _ _=K at hK⊢;clear ho hall hl hJ2 hS;go_simp;exact hK _ rfl
   | 18,ho=>
    cases ho;have fg:aq.tmps.getD 106 undef= .bool false:=hJ2.v hall 12 106 .guard;refine wpOp_on rfl rfl rfl rfl fg ?_;have f17:_=Value.pointer (some ⟨Ab,ob+i*13,none⟩):=hJ2.v hall 17 111;have hK:=hJ2.gO hS 18 112;generalize InvQ _ _ _ _ _ _=K at hK⊢;clear ho hall hl hJ2 hS;go_simp;exact hK _ rfl
   | 19,ho=>
    cases ho;have fg:aq.tmps.getD 106 undef= .bool false:=hJ2.v hall 12 106 .guard;refine wpOp_on rfl rfl rfl rfl fg ?_;have f18:_=Value.pointer (some ⟨Ab,ob+i*13+12,none⟩):=hJ2.v hall 18 112;have hK:=hJ2.gO hS 19 113;generalize InvQ _ _ _ _ _ _=K at hK⊢;clear ho hall hl hJ2 hS;go_simp;exact hK _ rfl
   | 20,ho=>
    cases ho;have fg:aq.tmps.getD 106 undef= .bool false:=hJ2.v hall 12 106 .guard;refine wpOp_on rfl rfl rfl rfl fg ?_;have f14:_=Value.slice eo m ec:=hJ2.v hall 14 108;have f19:_=Value.slice bo m bc:=hJ2.v hall 19 113;have hK:=hJ2.go hS 20 114;generalize InvQ _ _ _ _ _ _=K at hK⊢;clear ho hall hl hJ2 hS;go_simp;refine(CS W z5).mono ?_;rintro e v1 ⟨rfl,hBv⟩;exact hK _ _ (z5.trans (hBv.mono z5.size)) (fun j v h=>h.mono hBv) rfl
   | 21,ho=>
    cases ho;have fg:aq.tmps.getD 106 undef= .bool false:=hJ2.v hall 12 106 .guard;refine wpOp_on rfl rfl rfl rfl fg ?_;have f20:_=Value.bool true:=hJ2.v hall 20 114;have hK:=hJ2.gO hS 21 115;generalize InvQ _ _ _ _ _ _=K at hK⊢;clear ho hall hl hJ2 hS;go_simp;exact hK _ rfl
   | 22,ho=>
    cases ho;refine wpOp_of rfl rfl ?_;have f12:_=Value.bool false:=hJ2.v hall 12 106;have f21:_=Value.bool false:=hJ2.v hall 21 115;have hK:=hJ2.gO hS 22 116;generalize InvQ _ _ _ _ _ _=K at hK⊢;clear ho hall hl hJ2 hS;go_simp;exact hK _ rfl
   | 23,ho=>
    cases ho;refine wpOp_of rfl rfl ?_;have f22:_=Value.bool false:=hJ2.v hall 22 116;have hK:=hJ2.gO hS 23 117;generalize InvQ _ _ _ _ _ _=K at hK⊢;clear ho hall hl hJ2 hS;go_simp;exact hK _ rfl
   | 24,ho=>
    cases ho;have fg:aq.tmps.getD 117 undef= .bool false:=hJ2.v hall 23 117 .guard;refine wpOp_on rfl rfl rfl rfl fg ?_;have hK:=hJ2.gO hS 24 118;generalize InvQ _ _ _ _ _ _=K at hK⊢;clear ho hall hl hJ2 hS;go_simp;exact hK _ rfl
   | 25,ho=>
    cases ho;have fg:aq.tmps.getD 117 undef= .bool false:=hJ2.v hall 23 117 .guard;refine wpOp_on rfl rfl rfl rfl fg ?_;have f24:_=Value.int .i64 (i:Int):=hJ2.v hall 24 118;have hK:=hJ2.gO hS 25 119;generalize InvQ _ _ _ _ _ _=K at hK⊢;clear ho hall hl hJ2 hS;go_simp;exact hK _ rfl
   | 26,ho=>
    cases ho;have fg:aq.tmps.getD 117 undef= .bool false:=hJ2.v hall 23 117 .guard;refine wpOp_on rfl rfl rfl rfl fg ?_;have f25:_=Value.bool true:=hJ2.v hall 25 119;have hK:=hJ2.gO hS 26 120;generalize InvQ _ _ _ _ _ _=K at hK⊢;clear ho hall hl hJ2 hS;go_simp;exact hK _ rfl
   | 27,ho=>
    cases ho;have fg:aq.tmps.getD 120 undef= .bool true:=hJ2.v hall 26 120 .guard;refine wpOp_on rfl rfl rfl rfl fg ?_;have hK:=hJ2.gO hS 27 121;generalize InvQ _ _ _ _ _ _=K at hK⊢;clear ho hall hl hJ2 hS;go_simp;exact hK _ rfl
   | 28,ho=>
    cases ho;have fg:aq.tmps.getD 120 undef= .bool true:=hJ2.v hall 26 120 .guard;refine wpOp_on rfl rfl rfl rfl fg ?_;have hK:=hJ2.gO hS 28 122;generalize InvQ _ _ _ _ _ _=K at hK⊢;clear ho hall hl hJ2 hS;go_simp;exact hK _ rfl
   | 29,ho=>
    cases ho;have fg:aq.tmps.getD 120 undef= .bool true:=hJ2.v hall 26 120 .guard;refine wpOp_on rfl rfl rfl rfl fg ?_;have f28:_=Value.pointer (some ⟨P16,0,none⟩):=hJ2.v hall 28 122;have hK:=hJ2.gO hS 29 123;generalize InvQ _ _ _ _ _ _=K at hK⊢;clear ho hall hl hJ2 hS;go_simp;exact hK _ rfl
   | 30,ho=>
    cases ho;have fg:aq.tmps.getD 120 undef= .bool true:=hJ2.v hall 26 120 .guard;refine wpOp_on rfl rfl rfl rfl fg ?_;have f27:_=Value.agg #[.int .u64 (ww3 lx),.int .u64 (ww2 lx),.int .u64 (ww1 lx),.int .u64 (ww0 lx),.int .u64 (ww3 ly),.int .u64 (ww2 ly),.int .u64 (ww1 ly),.int .u64 (ww0 ly),.int .u64 (ww3 lz),.int .u64 (ww2 lz),.int .u64 (ww1 lz),.int .u64 (ww0 lz)]:=hJ2.v hall 27 121;have f29:_=Value.agg #[.int .u64 (ww3 x),.int .u64 (ww2 x),.int .u64 (ww1 x),.int .u64 (ww0 x),.int .u64 (ww3 y),.int .u64 (ww2 y),.int .u64 (ww1 y),.int .u64 (ww0 y),.int .u64 (ww3 z),.int .u64 (ww2 z),.int .u64 (ww1 z),.int .u64 (ww0 z)]:=hJ2.v hall 29 123;have hK:=hJ2.go hS 30 124;generalize InvQ _ _ _ _ _ _=K at hK⊢;clear ho hall hl hJ2 hS;go_simp;refine(CP W).mono ?_;rintro e v1 ⟨rfl,hBv⟩;exact hK _ _ (z5.trans (hBv.mono z5.size)) (fun j v h=>h.mono hBv) rfl
   | 31,ho=>
    cases ho;have fg:aq.tmps.getD 120 undef= .bool true:=hJ2.v hall 26 120 .guard;refine wpOp_on rfl rfl rfl rfl fg ?_;have f30:_=Value.int .i64 cz:=hJ2.v hall 30 124;have hcz2:¬(0:Int)≤cz:=by omega
    have hK:=hJ2.gO hS 31 125;generalize InvQ _ _ _ _ _ _=K at hK⊢;clear ho hall hl hJ2 hS;go_simp;exact hK _ rfl
   | 32,ho=>
    cases ho;have fg:aq.tmps.getD 117 undef= .bool false:=hJ2.v hall 23 117 .guard;refine wpOp_on rfl rfl rfl rfl fg ?_;have f26:_=Value.bool true:=hJ2.v hall 26 120;have f31:_=Value.bool false:=hJ2.v hall 31 125;have hK:=hJ2.gO hS 32 126;generalize InvQ _ _ _ _ _ _=K at hK⊢;clear ho hall hl hJ2 hS;go_simp;exact hK _ rfl
   | 33,ho=>
    cases ho;refine wpOp_of rfl rfl ?_;have f23:_=Value.bool false:=hJ2.v hall 23 117;have f32:_=Value.bool false:=hJ2.v hall 32 126;have hK:=hJ2.gO hS 33 127;generalize InvQ _ _ _ _ _ _=K at hK⊢;clear ho hall hl hJ2 hS;go_simp;exact hK _ rfl
   | iq+34,ho=>simp at ho
 · intro lq aq W hJ hr;obtain⟨z1,z2,z3,z4,z5,z6,z7⟩:=hJ;have hl:=listed_of hr [0,1,2,3,4,5,6,7,8,9,10,11,12,13,14,15,16,17,18,19,20,21,22,23,24,25,26,27,28,29,30,31,32,33] [] (by simp) (by kernel_rfl) (by rw[z1];decide);exact hQ aq W z2 z3 (fun e he=>z4 e (by simpa using he)) (z6 33 127 (hl 33 (by simp)) rfl) z5
end Go.Proofs.YtbogliojkabbjaaGreat
