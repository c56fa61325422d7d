/- Part 24 of the walks that the proof leans on. -/
import Derived.Test.YthelolpogdcmhaaGreatQx23
import Derived.Test.YthelolpogdcmhaaGreatQx15
import Derived.Test.YthelolpogdcmhaaGreatQx2
import Derived.Test.YthelolpogdcmhaaGreatQx21
import Derived.Test.YthelolpogdcmhaaGreatQx18
import Derived.Test.YthelolpogdcmhaaGreatQx20
set_option maxRecDepth 100000
set_option maxHeartbeats 16000000
namespace Go.Proofs.YthelolpogdcmhaaGreat
open Go.RowKit
def OwnP (b:Nat) (LL:List Int) (w:World) (r:Ending) (w' :World):Prop:=∃v,r= .returned v∧w'.ownsRow b 2 1 v LL.length (LL.map (Value.int .i64))∧Below w.heap.size w w'
def qwB (Q:QD) (m d wa wb wc wd:Int):Bool:=qOk Q m d&&boxOk wa wb wc wd
def qwL (Q:QD) (m d wa wb wc wd:Int):List Int:=if qwB Q m d wa wb wc wd=true then winQ Q wa wb wc wd else[]
def QwP (Q:QD) (m d wa wb wc wd:Int) (w:World) (r:Ending) (w' :World):Prop:=∃v,r= .returned (.tuple #[v,.bool (qwB Q m d wa wb wc wd)])∧w'.ownsRow w.heap.size 2 1 v (qwL Q m d wa wb wc wd).length ((qwL Q m d wa wb wc wd).map (Value.int .i64))∧Below w.heap.size w w'
theorem qw_no {Q:QD} {m d wa wb wc wd:Int} (h:qwB Q m d wa wb wc wd=false) {w w' :World} (hB:Below w.heap.size w w'):QwP Q m d wa wb wc wd w (.returned (.tuple #[.slice none 0 0,.bool false])) w' :=by
 have e:qwL Q m d wa wb wc wd=[]:=by unfold qwL;rw[if_neg (by rw[h];decide)]
 refine⟨_,by rw[h],?_,hB⟩;rw[e];exact World.ownsRow_nil _ _ _ _
theorem seg_left {a b c d:Int} (h:segOk a b c d=true):a≤c:=by
 unfold segOk lessI at h;simp only[Bool.and_eq_true,decide_eq_true_eq] at h
 omega
theorem ev_root (Q:QD) {d:Int} (hd8:d≤8):evT (trQ Q d.toNat 0 (-1048576) (-1048576) 2097152) 2097152:=by
 have e:(2097152:Int)=2 ^ d.toNat*2 ^ (21-d.toNat):=by
  rw[←Int.pow_add,show d.toNat+(21-d.toNat)=21 by omega]
  rfl
 have:=ev_of d.toNat (trQ Q d.toNat 0 (-1048576) (-1048576) 2097152) (2 ^ (21-d.toNat)) (dp_tr Q d.toNat 0 (-1048576) (-1048576) 2097152);rw[←e] at this;exact this
theorem win_more (Q:QD) (p q u v:Int) (c:Nat):idL Q ((List.range (c+1)).filter (hitW Q p q u v))=idL Q ((List.range c).filter (hitW Q p q u v)) ++(if hitW Q p q u v c=true then[Q.I c] else[]):=by
 unfold idL;rw[List.range_succ,List.filter_append,List.map_append];cases h:hitW Q p q u v c<;>simp[h]
theorem box_in6 {x y u v:Int} (h:boxOk x y u v=true):(In6 x∧In6 y∧In6 u∧In6 v)∧(-1048576≤x∧-1048576≤y∧u≤1048576∧v≤1048576)∧x≤u∧y≤v:=by
 unfold boxOk at h;simp only[Bool.and_eq_true,decide_eq_true_eq] at h;obtain⟨⟨⟨h1,h2⟩,h3⟩,h4⟩:=h;obtain⟨a1,a2⟩:=in6_of_spot h1;obtain⟨a3,a4⟩:=in6_of_spot h2;refine⟨⟨a1,a2,a3,a4⟩,?_,h3,h4⟩;unfold In6 at a1 a2 a3 a4
 omega
def Vqws8 (P A off n cap kk:Nat) (sa sb sc sd wa wb wc wd:Int) (bh:Bool) (_B:Nat):Nat→Value→World→Prop
 | 0,v,_=>v= .pointer (some ⟨P,2,none⟩)
 | 1,v,_=>v= .slice (some ⟨A,off,none⟩) n cap
 | 2,v,_=>v= .int .i64 (kk:Int)
 | 3,v,_=>v= .pointer (some ⟨A,off+kk*5,none⟩)
 | 4,v,_=>v= .pointer (some ⟨A,off+kk*5+1,none⟩)
 | 5,v,_=>v=Sg sa sb sc sd
 | 6,v,_=>v=Sp wa wb
 | 7,v,_=>v=Sp wc wd
 | 8,v,_=>v= .bool bh
 | _,_,_=>True
theorem Vqws8.mono {P A off n cap kk:Nat} {sa sb sc sd wa wb wc wd:Int} {bh:Bool} {B j:Nat} {v:Value} {W W2:World} (_hB:Below W.heap.size W W2) (h:Vqws8 P A off n cap kk sa sb sc sd wa wb wc wd bh B j v W):Vqws8 P A off n cap kk sa sb sc sd wa wb wc wd bh B j v W2:=by
 unfold Vqws8 at *
 split<;>simp only at h<;>first | exact h | trivial
theorem qws8 {Q:Exit→Act→World→Prop} {P A off n cap kk:Nat} {sa sb sc sd wa wb wc wd:Int} {bh:Bool} {Lb Hb:Nat} {w0:World} {a0:Act} {idq:Nat} {t0 t1 t2 t3 t4 t5 t6 t7 t8:TypeId} {q0 q1 q2 q3 q4 q5 q6 q7 q8:String}
 (hkn:kk<n) (hn:n≤40) (CM:∀W2:World,Calls Tryz.prog 23 #[Sg sa sb sc sd,Sp wa wb,Sp wc wd] W2 (BoolP bh W2)) (h3:a0.tmps[3]? =some (.pointer (some ⟨P,0,none⟩))) (h4:a0.tmps[4]? =some (.pointer (some ⟨Lb,0,none⟩))) (h5:a0.tmps[5]? =some (.pointer (some ⟨Hb,0,none⟩))) (h11:a0.tmps[11]? =some (.int .i64 (kk:Int))) (k0:w0.cell? ⟨P,2,none⟩=some (.slice (some ⟨A,off,none⟩) n cap)) (l0:(⟨P,2,none⟩:Addr).block<w0.heap.size) (k1:w0.cell? ⟨A,off+kk*5+1,none⟩=some (.int .i64 sa)) (l1:(⟨A,off+kk*5+1,none⟩:Addr).block<w0.heap.size) (k2:w0.cell? ⟨A,off+kk*5+1+1,none⟩=some (.int .i64 sb)) (l2:(⟨A,off+kk*5+1+1,none⟩:Addr).block<w0.heap.size) (k3:w0.cell? ⟨A,off+kk*5+1+2,none⟩=some (.int .i64 sc)) (l3:(⟨A,off+kk*5+1+2,none⟩:Addr).block<w0.heap.size) (k4:w0.cell? ⟨A,off+kk*5+1+3,none⟩=some (.int .i64 sd)) (l4:(⟨A,off+kk*5+1+3,none⟩:Addr).block<w0.heap.size) (k5:w0.cell? ⟨Lb,0,none⟩=some (.int .i64 wa)) (l5:(⟨Lb,0,none⟩:Addr).block<w0.heap.size) (k6:w0.cell? ⟨Lb,1,none⟩=some (.int .i64 wb)) (l6:(⟨Lb,1,none⟩:Addr).block<w0.heap.size) (k7:w0.cell? ⟨Hb,0,none⟩=some (.int .i64 wc)) (l7:(⟨Hb,0,none⟩:Addr).block<w0.heap.size) (k8:w0.cell? ⟨Hb,1,none⟩=some (.int .i64 wd)) (l8:(⟨Hb,1,none⟩:Addr).block<w0.heap.size) (hz:a0.tmps.size=52)
 (hQ:∀aq W,aq.tmps.size=a0.tmps.size→aq.defers=a0.defers→(∀e,e∉([33,34,35,36,37,38,39,40,41]:List Nat)→aq.tmps[e]? =a0.tmps[e]?)→Vqws8 P A off n cap kk sa sb sc sd wa wb wc wd bh w0.heap.size 8 (aq.tmps.getD 41 undef) W→Below w0.heap.size w0 W→Q .normal aq W) :
 (Code.region idq #[⟨some 33,.fieldAddr 27 (.tmp 3) 2,t0,q0,#[],none⟩,
 ⟨some 34,.load 24 (.tmp 33),t1,q1,#[⟨0,.data⟩],none⟩,
 ⟨some 35,.move (.tmp 11),t2,q2,#[],none⟩,
 ⟨some 36,.indexAddr 24 (.tmp 34) (.tmp 35),t3,q3,#[⟨1,.data⟩,⟨2,.data⟩],none⟩,
 ⟨some 37,.fieldAddr 40 (.tmp 36) 1,t4,q4,#[⟨3,.data⟩],none⟩,
 ⟨some 38,.load 38 (.tmp 37),t5,q5,#[⟨4,.data⟩],none⟩,
 ⟨some 39,.load 29 (.tmp 4),t6,q6,#[],none⟩,
 ⟨some 40,.load 29 (.tmp 5),t7,q7,#[],none⟩,
 ⟨some 41,.call {callee:= .value (.func 23),args:=#[.tmp 38,.tmp 39,.tmp 40],argTypes:=#[38,29,29]},t8,q8,#[⟨5,.data⟩,⟨6,.data⟩,⟨7,.data⟩],none⟩] true).wp Tryz.prog Q a0 w0:=by
 have hS:distS [some 33,some 34,some 35,some 36,some 37,some 38,some 39,some 40,some 41]=true:=rfl;refine wp_region_q (by kernel_rfl) w0.heap.size [some 33,some 34,some 35,some 36,some 37,some 38,some 39,some 40,some 41] (Vqws8 P A off n cap kk sa sb sc sd wa wb wc wd bh w0.heap.size) rfl ?_ ?_
 · intro Q lq aq W iq oq hJ2 hl ho hall;have z5:=hJ2.b;have g3:=hJ2.a h3
   have g4:=hJ2.a h4
   have g5:=hJ2.a h5
   have g11:=hJ2.a h11
   have c0:=hJ2.c k0 l0;have c1:=hJ2.c k1 l1;have c2:=hJ2.c k2 l2;have c3:=hJ2.c k3 l3;have c4:=hJ2.c k4 l4;have c5:=hJ2.c k5 l5;have c6:=hJ2.c k6 l6;have c7:=hJ2.c k7 l7;have c8:=hJ2.c k8 l8
   clear hQ
   match iq,ho with
   | 0,ho=>
    cases ho;refine wpOp_of rfl rfl ?_;have hK:=hJ2.gO hS 0 33;generalize InvQ _ _ _ _ _ _=K at hK⊢;clear ho hall hl hJ2 hS;go_simp;exact hK _ rfl
   | 1,ho=>
    cases ho;refine wpOp_of rfl rfl ?_;have f0:_=Value.pointer (some ⟨P,2,none⟩):=hJ2.v hall 0 33;have hK:=hJ2.gO hS 1 34;generalize InvQ _ _ _ _ _ _=K at hK⊢;clear ho hall hl hJ2 hS;go_simp;exact hK _ rfl
   | 2,ho=>
    cases ho;refine wpOp_of rfl rfl ?_;have hK:=hJ2.gO hS 2 35;generalize InvQ _ _ _ _ _ _=K at hK⊢;clear ho hall hl hJ2 hS;go_simp;exact hK _ rfl
   | 3,ho=>
    cases ho;refine wpOp_of rfl rfl ?_;have f1:_=Value.slice (some ⟨A,off,none⟩) n cap:=hJ2.v hall 1 34;have f2:_=Value.int .i64 (kk:Int):=hJ2.v hall 2 35;have hkI0:(kk:Int)<n:=by omega
    have hnI0:(n:Int)≤40:=by omega
    have hK:=hJ2.gO hS 3 36;generalize InvQ _ _ _ _ _ _=K at hK⊢;clear ho hall hl hJ2 hS;go_simp;exact hK _ rfl
   | 4,ho=>
    cases ho;refine wpOp_of rfl rfl ?_;have f3:_=Value.pointer (some ⟨A,off+kk*5,none⟩):=hJ2.v hall 3 36;have hK:=hJ2.gO hS 4 37;generalize InvQ _ _ _ _ _ _=K at hK⊢;clear ho hall hl hJ2 hS;go_simp;exact hK _ rfl
   | 5,ho=>
    cases ho;refine wpOp_of rfl rfl ?_;have f4:_=Value.pointer (some ⟨A,off+kk*5+1,none⟩):=hJ2.v hall 4 37;have hK:=hJ2.gO hS 5 38;generalize InvQ _ _ _ _ _ _=K at hK⊢;clear ho hall hl hJ2 hS;go_simp;exact hK _ rfl
   | 6,ho=>
    cases ho;refine wpOp_of rfl rfl ?_;have hK:=hJ2.gO hS 6 39;generalize InvQ _ _ _ _ _ _=K at hK⊢;clear ho hall hl hJ2 hS;go_simp;exact hK _ rfl
   | 7,ho=>
    cases ho;refine wpOp_of rfl rfl ?_;have hK:=hJ2.gO hS 7 40;generalize InvQ _ _ _ _ _ _=K at hK⊢;clear ho hall hl hJ2 hS;go_simp;exact hK _ rfl
   | 8,ho=>
    cases ho;refine wpOp_of rfl rfl ?_;have f5:_=Sg sa sb sc sd:=hJ2.v hall 5 38;have f6:_=Sp wa wb:=hJ2.v hall 6 39;have f7:_=Sp wc wd:=hJ2.v hall 7 40;have hK:=hJ2.go hS 8 41;generalize InvQ _ _ _ _ _ _=K at hK⊢;clear ho hall hl hJ2 hS;go_simp;refine(CM W).mono ?_;rintro e v1 ⟨rfl,hBv⟩;exact hK _ _ (z5.trans (hBv.mono z5.size)) (fun j v h=>h.mono hBv) rfl
   | iq+9,ho=>simp at ho
 · intro lq aq W hJ hr;obtain⟨z1,z2,z3,z4,z5,z6,z7⟩:=hJ;have hl:=listed_of hr [0,1,2,3,4,5,6,7,8] [] (by simp) (by kernel_rfl) (by rw[z1];decide);exact hQ aq W z2 z3 (fun e he=>z4 e (by simpa using he)) (z6 8 41 (hl 8 (by simp)) rfl) z5
def Vqwi4 (gq gr:Nat) (LL:List Int) (wa wb wc wd:Int) (B:Nat):Nat→Value→World→Prop
 | 0,v,_=>v= .pointer (some ⟨gq,0,none⟩)
 | 1,v,_=>v= .pointer (some ⟨gq,0,none⟩)
 | 2,v,_=>v= .pointer (some ⟨gq,0,none⟩)
 | 3,v,_=>v= .pointer (some ⟨gq,3,none⟩)
 | 4,v,_=>v= .pointer (some ⟨gr,0,none⟩)
 | 5,v,_=>v=Sp wa wb
 | 6,v,_=>v=Sp wc wd
 | 7,v,W=>W.ownsRow B 2 1 v LL.length (LL.map (Value.int .i64))
 | 8,v,W=>W.ownsRow B 2 1 v LL.length (LL.map (Value.int .i64))
 | _,_,_=>True
theorem Vqwi4.mono {gq gr:Nat} {LL:List Int} {wa wb wc wd:Int} {B j:Nat} {v:Value} {W W2:World} (hB:Below W.heap.size W W2) (h:Vqwi4 gq gr LL wa wb wc wd B j v W):Vqwi4 gq gr LL wa wb wc wd B j v W2:=by
 unfold Vqwi4 at *
 split<;>simp only at h<;>first | exact h | exact ownA_step h hB | trivial
theorem qwi4 {Q:Exit→Act→World→Prop} {gq gr:Nat} {LL:List Int} {wa wb wc wd:Int} {Lb Hb:Nat} {w0:World} {a0:Act} {idq:Nat} {t0 t1 t2 t3 t4 t5 t6 t7 t8:TypeId} {q0 q1 q2 q3 q4 q5 q6 q7 q8:String}
 (CW:∀W2:World,Below w0.heap.size w0 W2→Calls Tryz.prog 18 #[.pointer (some ⟨gq,0,none⟩),.pointer (some ⟨gr,0,none⟩),Sp wa wb,Sp wc wd,.slice none 0 0] W2 (OwnP w0.heap.size LL W2)) (h8:a0.tmps[8]? =some (.pointer (some ⟨gq,0,none⟩))) (h4:a0.tmps[4]? =some (.pointer (some ⟨Lb,0,none⟩))) (h5:a0.tmps[5]? =some (.pointer (some ⟨Hb,0,none⟩))) (k0:w0.cell? ⟨gq,3,none⟩=some (.pointer (some ⟨gr,0,none⟩))) (l0:(⟨gq,3,none⟩:Addr).block<w0.heap.size) (k1:w0.cell? ⟨Lb,0,none⟩=some (.int .i64 wa)) (l1:(⟨Lb,0,none⟩:Addr).block<w0.heap.size) (k2:w0.cell? ⟨Lb,1,none⟩=some (.int .i64 wb)) (l2:(⟨Lb,1,none⟩:Addr).block<w0.heap.size) (k3:w0.cell? ⟨Hb,0,none⟩=some (.int .i64 wc)) (l3:(⟨Hb,0,none⟩:Addr).block<w0.heap.size) (k4:w0.cell? ⟨Hb,1,none⟩=some (.int .i64 wd)) (l4:(⟨Hb,1,none⟩:Addr).block<w0.heap.size) (hz:a0.tmps.size=36)
 (hQ:∀aq W,aq.tmps.size=a0.tmps.size→aq.defers=a0.defers→(∀e,e∉([24,25,26,27,28,29,30,31,10]:List Nat)→aq.tmps[e]? =a0.tmps[e]?)→Vqwi4 gq gr LL wa wb wc wd w0.heap.size 8 (aq.tmps.getD 10 undef) W→Below w0.heap.size w0 W→Q .normal aq W) :
 (Code.region idq #[⟨some 24,.move (.tmp 8),t0,q0,#[],none⟩,
 ⟨some 25,.move (.tmp 8),t1,q1,#[],none⟩,
 ⟨some 26,.nilCheck (.tmp 25),t2,q2,#[⟨1,.data⟩],none⟩,
 ⟨some 27,.fieldAddr 57 (.tmp 26) 3,t3,q3,#[⟨2,.data⟩],none⟩,
 ⟨some 28,.load 55 (.tmp 27),t4,q4,#[⟨3,.data⟩],none⟩,
 ⟨some 29,.load 29 (.tmp 4),t5,q5,#[],none⟩,
 ⟨some 30,.load 29 (.tmp 5),t6,q6,#[],none⟩,
 ⟨some 31,.call {callee:= .value (.func 18),args:=#[.tmp 24,.tmp 28,.tmp 29,.tmp 30,.const (Value.slice none 0 0)],argTypes:=#[50,55,29,29,32]},t7,q7,#[⟨0,.data⟩,⟨4,.data⟩,⟨5,.data⟩,⟨6,.data⟩],none⟩,
 ⟨some 10,.assign (.tmp 31),t8,q8,#[⟨7,.data⟩,⟨7,.chain⟩,⟨0,.phase⟩,⟨1,.phase⟩,⟨2,.phase⟩,⟨3,.phase⟩,⟨4,.phase⟩,⟨5,.phase⟩,⟨6,.phase⟩,⟨7,.phase⟩],none⟩] true).wp Tryz.prog Q a0 w0:=by
 have hS:distS [some 24,some 25,some 26,some 27,some 28,some 29,some 30,some 31,some 10]=true:=rfl;refine wp_region_q (by kernel_rfl) w0.heap.size [some 24,some 25,some 26,some 27,some 28,some 29,some 30,some 31,some 10] (Vqwi4 gq gr LL wa wb wc wd w0.heap.size) rfl ?_ ?_
 · intro Q lq aq W iq oq hJ2 hl ho hall;have z5:=hJ2.b;have g8:=hJ2.a h8
   have g4:=hJ2.a h4
   have g5:=hJ2.a h5
   have c0:=hJ2.c k0 l0;have c1:=hJ2.c k1 l1;have c2:=hJ2.c k2 l2;have c3:=hJ2.c k3 l3;have c4:=hJ2.c k4 l4
   clear hQ
   match iq,ho with
   | 0,ho=>
    cases ho;refine wpOp_of rfl rfl ?_;have hK:=hJ2.gO hS 0 24;generalize InvQ _ _ _ _ _ _=K at hK⊢;clear ho hall hl hJ2 hS;go_simp;exact hK _ rfl
   | 1,ho=>
    cases ho;refine wpOp_of rfl rfl ?_;have hK:=hJ2.gO hS 1 25;generalize InvQ _ _ _ _ _ _=K at hK⊢;clear ho hall hl hJ2 hS;go_simp;exact hK _ rfl
   | 2,ho=>
    cases ho;refine wpOp_of rfl rfl ?_;have f1:_=Value.pointer (some ⟨gq,0,none⟩):=hJ2.v hall 1 25;have hK:=hJ2.gO hS 2 26;generalize InvQ _ _ _ _ _ _=K at hK⊢;clear ho hall hl hJ2 hS;go_simp;exact hK _ rfl
   | 3,ho=>
    cases ho;refine wpOp_of rfl rfl ?_;have f2:_=Value.pointer (some ⟨gq,0,none⟩):=hJ2.v hall 2 26;have hK:=hJ2.gO hS 3 27;generalize InvQ _ _ _ _ _ _=K at hK⊢;clear ho hall hl hJ2 hS;go_simp;exact hK _ rfl
   | 4,ho=>
    cases ho;refine wpOp_of rfl rfl ?_;have f3:_=Value.pointer (some ⟨gq,3,none⟩):=hJ2.v hall 3 27;have hK:=hJ2.gO hS 4 28;generalize InvQ _ _ _ _ _ _=K at hK⊢;clear ho hall hl hJ2 hS;go_simp;exact hK _ rfl
   | 5,ho=>
    cases ho;refine wpOp_of rfl rfl ?_;have hK:=hJ2.gO hS 5 29;generalize InvQ _ _ _ _ _ _=K at hK⊢;clear ho hall hl hJ2 hS;go_simp;exact hK _ rfl
   | 6,ho=>
    cases ho;refine wpOp_of rfl rfl ?_;have hK:=hJ2.gO hS 6 30;generalize InvQ _ _ _ _ _ _=K at hK⊢;clear ho hall hl hJ2 hS;go_simp;exact hK _ rfl
   | 7,ho=>
    cases ho;refine wpOp_of rfl rfl ?_;have f0:_=Value.pointer (some ⟨gq,0,none⟩):=hJ2.v hall 0 24;have f4:_=Value.pointer (some ⟨gr,0,none⟩):=hJ2.v hall 4 28;have f5:_=Sp wa wb:=hJ2.v hall 5 29;have f6:_=Sp wc wd:=hJ2.v hall 6 30;have hK:=hJ2.go hS 7 31;generalize InvQ _ _ _ _ _ _=K at hK⊢;clear ho hall hl hJ2 hS;go_simp;refine(CW W z5).mono ?_;rintro e v1 ⟨vv,rfl,hO,hBv⟩;exact hK _ _ (z5.trans (hBv.mono z5.size)) (fun j v h=>h.mono hBv) hO
   | 8,ho=>
    cases ho;refine wpOp_of rfl rfl ?_;have f7:W.ownsRow w0.heap.size 2 1 (aq.tmps.getD 31 undef) LL.length (LL.map (Value.int .i64)):=hJ2.v hall 7 31;have hK:=hJ2.go hS 8 10;generalize InvQ _ _ _ _ _ _=K at hK⊢;clear ho hall hl hJ2 hS;go_simp;exact hK _ _ z5 (fun _ _ h=>h) (by first | exact f7 | (rw[Array.getD_eq_getD_getElem?] at f7;exact f7))
   | iq+9,ho=>simp at ho
 · intro lq aq W hJ hr;obtain⟨z1,z2,z3,z4,z5,z6,z7⟩:=hJ;have hl:=listed_of hr [0,1,2,3,4,5,6,7,8] [] (by simp) (by kernel_rfl) (by rw[z1];decide);exact hQ aq W z2 z3 (fun e he=>z4 e (by simpa using he)) (z6 8 10 (hl 8 (by simp)) rfl) z5
theorem specQuadWindow_any (w:World) (Q:QD) (ao bo:Option Addr) (cap bcap A off:Nat) (so:Nat→Option Addr×Nat) (m d:Int) (hm:Q.m≤1048576) (hN:Q.N≤1048576) (hL:∀i,i<Q.N→Q.L i≤1048576) (hbo:0<Q.N→bo=some ⟨A,off,none⟩) (hso:∀i,i<Q.N→(so i).1=none→(so i).2=0) (hS:ItIn Q w ao (List.range Q.m)) (hBl:BlIn Q w A off so) (wa wb wc wd:Int):Calls Tryz.prog 7 #[.agg #[.int .i64 m,.int .i64 d,.slice ao Q.m cap,.slice bo Q.N bcap],Sp wa wb,Sp wc wd] w (QwP Q m d wa wb wc wd w):=by
 have BP:=((Blk.new w [.int .i64 m,.int .i64 d,.slice ao Q.m cap,.slice bo Q.N bcap] 27 rfl).alloc (.cells #[.int .i64 wa,.int .i64 wb] 29)).alloc (.cells #[.int .i64 wc,.int .i64 wd] 29);have BL:=(Blk.new (w.alloc (.cells #[.int .i64 m,.int .i64 d,.slice ao Q.m cap,.slice bo Q.N bcap] 27)) [.int .i64 wa,.int .i64 wb] 29 rfl).alloc (.cells #[.int .i64 wc,.int .i64 wd] 29);have BH:=Blk.new ((w.alloc (.cells #[.int .i64 m,.int .i64 d,.slice ao Q.m cap,.slice bo Q.N bcap] 27)).alloc (.cells #[.int .i64 wa,.int .i64 wb] 29)) [.int .i64 wc,.int .i64 wd] 29 rfl;simp only[World.size_alloc] at BL BH;have HB:Below w.heap.size w (((w.alloc (.cells #[.int .i64 m,.int .i64 d,.slice ao Q.m cap,.slice bo Q.N bcap] 27)).alloc (.cells #[.int .i64 wa,.int .i64 wb] 29)).alloc (.cells #[.int .i64 wc,.int .i64 wd] 29)):=(((Below.refl _ w).alloc (Nat.le_refl _) _).alloc (by simp) _).alloc (by simp;omega) _;have C:=l13Root_any (((w.alloc (.cells #[.int .i64 m,.int .i64 d,.slice ao Q.m cap,.slice bo Q.N bcap] 27)).alloc (.cells #[.int .i64 wa,.int .i64 wb] 29)).alloc (.cells #[.int .i64 wc,.int .i64 wd] 29)) Q ao bo cap bcap A off so m d hm hN hL hbo hso (hS.step HB) (hBl.below HB);have HSH:Hid (∀W,Below w.heap.size w W→ItIn Q W ao (List.range Q.m)):=fun W h=>hS.step h;clear hS hBl
 go_enter Tryz.func7,Tryz.ntmps7
 go_upto_region 1 with fail;generalize (((w.alloc (.cells #[.int .i64 m,.int .i64 d,.slice ao Q.m cap,.slice bo Q.N bcap] 27)).alloc (.cells #[.int .i64 wa,.int .i64 wb] 29)).alloc (.cells #[.int .i64 wc,.int .i64 wd] 29))=W1 at *;have c0:=BP.c 0 rfl;have c1:=BP.c 1 rfl;have c2:=BP.c 2 rfl;have c3:=BP.c 3 rfl;go_wp2_with fail;refine C.mono ?_;rintro r w1 ⟨hB1,h⟩;replace BP:=BP.step hB1;replace BL:=BL.step hB1;replace BH:=BH.step hB1;replace HB:=HB.trans (hB1.mono HB.size);clear C c0 c1 c2 c3 hB1
 rcases h with ⟨hq,rfl⟩ | ⟨hq,kv,ev,rfl,hM⟩
 · have HQ:Hid (qwB Q m d wa wb wc wd=false):=by show _=_;unfold qwB;rw[hq];rfl
   have HB2:=HB.alloc HB.size (.cells #[.int .i64 0,.int .i64 0,.int .i64 0,.slice none 0 0,.slice none 0 0] 62);clear hq BP BL BH HB;go_wp2
   go_ret2
   exact qw_no HQ.out HB2
 · obtain⟨ko,kn,kc,eo,en,ec,rfl,rfl⟩:=hM.vals;have hB2:=(Below.refl w1.heap.size w1).alloc (Nat.le_refl _) (.cells #[.int .i64 (-1048576),.int .i64 (-1048576),.int .i64 2097152,.slice ko kn kc,.slice eo en ec] 62);replace BP:=BP.step hB2;replace BL:=BL.step hB2;replace BH:=BH.step hB2;replace HB:=HB.trans (hB2.mono HB.size);have hms:=w1.heap.size;clear hB2 hM;go_upto_region 2 with fail;generalize (w1.alloc (.cells #[.int .i64 (-1048576),.int .i64 (-1048576),.int .i64 2097152,.slice ko kn kc,.slice eo en ec] 62))=W2 at *;have l0:=BL.c 0 rfl;have l1:=BL.c 1 rfl;have h0:=BH.c 0 rfl;have h1:=BH.c 1 rfl;go_wp2_with fail;refine(l4Box_any wa wb wc wd _ rfl _).mono ?_;rintro e w2 ⟨rfl,hB2⟩;replace BP:=BP.step hB2;replace BL:=BL.step hB2;replace BH:=BH.step hB2;replace HB:=HB.trans (hB2.mono HB.size);clear hB2 l0 l1 h0 h1;cases hbx:boxOk wa wb wc wd with
   | false=>
    have HQ:Hid (qwB Q m d wa wb wc wd=false):=by show _=_;unfold qwB;rw[hbx,Bool.and_false]
    clear hq hbx BP BL BH;go_wp2
    go_ret2
    exact qw_no HQ.out HB
   | true=>
    have HQ:Hid (qwB Q m d wa wb wc wd=true):=by show _=_;unfold qwB;rw[hbx,hq];rfl
    have HQL:Hid (qwL Q m d wa wb wc wd=winQ Q wa wb wc wd):=if_pos HQ.out;obtain⟨_,_,hits,_⟩:=qOk_all hq;have H6:Hid (Its6 Q (List.range Q.m)):=its6_of hits;have hm40:Q.m≤40:=(of_decide_eq_true hits).1;obtain⟨⟨ia,ib,ic,id⟩,_,_⟩:=box_in6 hbx;obtain⟨i0,hi,hz0,hz1,hz2⟩:=info_parts Tryz.infoNo;obtain⟨n,hn⟩:∃n,Q.m=n:=⟨_,rfl⟩;have HN:Hid (Q.m=n):=hn;rw[hn] at BP hm40;have hnI:(n:Int)≤40:=by omega
    have hBs:w.heap.size≤w2.heap.size:=HB.size;have hB3:w.heap.size+3≤w2.heap.size:=BH.lt;clear hits hq hbx hn;go_wp2_with fail
    go_loopw [10,11] (fun o i wr=>∃c:Nat,c≤n∧i= .int .i64 c∧wr.ownsRow (w.heap.size+3) 2 1 o (idL Q ((List.range c).filter (hitW Q wa wb wc wd))).length ((idL Q ((List.range c).filter (hitW Q wa wb wc wd))).map (Value.int .i64))∧Blk wr w.heap.size [.int .i64 m,.int .i64 d,.slice ao n cap,.slice bo Q.N bcap]∧Blk wr (w.heap.size+1) [.int .i64 wa,.int .i64 wb]∧Blk wr (w.heap.size+1+1) [.int .i64 wc,.int .i64 wd]∧Below w.heap.size w wr) (fun _ i _=>n-(intOf i).toNat)
    case atStart=>exact⟨0,by omega,rfl,World.ownsRow_made w2 #[] 0 hB3 (by decide) rfl,BP.alloc _,BL.alloc _,BH.alloc _,HB.alloc hBs _⟩
    case round=>
     clear BP BL BH HB hBs;obtain⟨c,hc,rfl,HO,BP,BL,BH,HB⟩:=hrel;have hBs:=HB.size
     by_cases hcn:c<n
     · have hcI:(c:Int)<n:=by omega
       have hcm:c<Q.m:=by have:=HN.out;omega
       obtain⟨A5,off5,hio,hA5,q0,q1,q2,q3,q4⟩:=HSH.out wr HB c c (by rw[List.getElem?_range hcm]);subst hio;obtain⟨sa6,sb6,sc6,sd6⟩:=H6.out c (List.mem_range.2 hcm);have MB:=l4MeetsBox_any (Q.S c).1 (Q.S c).2.1 (Q.S c).2.2.1 (Q.S c).2.2.2 wa wb wc wd sa6 sb6 sc6 sd6 ia ib ic id;change ∀w,Calls _ _ _ w (BoolP (hitW Q wa wb wc wd c) w) at MB;obtain⟨bh,hbh⟩:∃b,hitW Q wa wb wc wd c=b:=⟨_,rfl⟩;have HFM:Hid (idL Q ((List.range (c+1)).filter (hitW Q wa wb wc wd))=idL Q ((List.range c).filter (hitW Q wa wb wc wd)) ++(if bh=true then[Q.I c] else[])):=by rw[←hbh];exact win_more Q wa wb wc wd c
       rw[hbh] at MB;have m2:=BP.c 2 rfl;go_upto_region 8 with fail;refine qws8 (P:=w.heap.size) (A:=A5) (off:=off5) (n:=n) (cap:=cap) (kk:=c) (sa:=(Q.S c).1) (sb:=(Q.S c).2.1) (sc:=(Q.S c).2.2.1) (sd:=(Q.S c).2.2.2) (wa:=wa) (wb:=wb) (wc:=wc) (wd:=wd) (bh:=bh) (Lb:=w.heap.size+1) (Hb:=w.heap.size+1+1) hcn hm40 MB rfl rfl rfl rfl m2 BP.lt q1 hA5 q2 hA5 q3 hA5 q4 hA5 (BL.c 0 rfl) BL.lt (BL.c 1 rfl) BL.lt (BH.c 0 rfl) BH.lt (BH.c 1 rfl) BH.lt rfl ?_;rintro⟨tm,df⟩ Wz hz hdf hoff h41 hBz;simp only at hz hdf hoff h41;change tm.getD 41 undef= .bool bh at h41;subst hdf;have htm:=tmps_fold [33,34,35,36,37,38,39,40,41] tm _ hz hoff;simp only[List.foldl,List.setIfInBounds_toArray,List.set_cons_zero,List.set_cons_succ,h41] at htm;clear hz hoff;generalize tm.getD 33 undef=pz0,tm.getD 34 undef=pz1,tm.getD 35 undef=pz2,tm.getD 36 undef=pz3,tm.getD 37 undef=pz4,tm.getD 38 undef=pz5,tm.getD 39 undef=pz6,tm.getD 40 undef=pz7 at htm;clear h41;subst htm;have q0z:=(hBz.cell (p:=⟨A5,off5+c*5,none⟩) hA5).trans q0;replace HO:=ownA_step HO hBz;replace BP:=BP.step hBz;replace BL:=BL.step hBz;replace BH:=BH.step hBz;replace HB:=HB.trans (hBz.mono HB.size);have hle:(idL Q ((List.range c).filter (hitW Q wa wb wc wd))).length≤40:=by
        unfold idL;rw[List.length_map];exact Nat.le_trans (List.length_filter_le _ _) (by rw[List.length_range];omega)
       have hBs2:=HB.size;clear hBz MB m2 q0 q1 q2 q3 q4;cases bh with
       | false=>
        rw[if_neg (by decide),List.append_nil] at HFM;clear q0z;go_wp2;go_roundw
        case rel=>exact⟨c+1,by omega,by go_num,by rw[HFM.out];exact HO,BP,BL,BH,HB⟩
        case measure=>simp[intOf];omega
       | true=>
        rw[if_pos rfl] at HFM;have m2:=BP.c 2 rfl;have HBP:Hid (Blk Wz w.heap.size [.int .i64 m,.int .i64 d,.slice (some ⟨A5,off5,none⟩) n cap,.slice bo Q.N bcap]∧Blk Wz (w.heap.size+1) [.int .i64 wa,.int .i64 wb]∧Blk Wz (w.heap.size+1+1) [.int .i64 wc,.int .i64 wd]):=⟨BP,BL,BH⟩;clear BP BL BH
        go_wp2_with (at_builtin;refine wpList_append_own _ rfl _ _ 32 rfl (w.heap.size+3) 2 i0 (.int .i64 0) 1 8 Tryz.underlying32 hi hz0 hz1 hz2 rfl (by decide) _ _ _ rfl (ownA_step HO ((Below.refl _ _).alloc (Nat.le_refl _) _)) ⟨Wz.heap.size,0,none⟩ 1 1 [.int .i64 (Q.I c)] rfl rfl (cell_one_new _ _ _) (one_cell _ _) (by unfold maxLen;omega) (by omega) (by have:=HBP.out.2.2.lt;simp;omega) ?_)
        intro v9 w9 hown9 hgrow9 _;have hob:∀k,u10.ownBlock=some k→w.heap.size+3≤k:=fun k hk=>(HO.lt k hk).1;have BP9:=((HBP.out.1).alloc (.cells #[.int .i64 (Q.I c)] 2)).grown hgrow9 (fun e=>by have:=hob _ e.symm;omega);have BL9:=((HBP.out.2.1).alloc (.cells #[.int .i64 (Q.I c)] 2)).grown hgrow9 (fun e=>by have:=hob _ e.symm;omega);have BH9:=((HBP.out.2.2).alloc (.cells #[.int .i64 (Q.I c)] 2)).grown hgrow9 (fun e=>by have:=hob _ e.symm;omega);have HB9:Below w.heap.size w w9:=(HB.alloc HB.size _).grown hgrow9 (by simp;omega) (fun k hk=>by have:=hob k hk;omega);have HN9:Hid (w9.ownsRow (w.heap.size+3) 2 1 v9 (idL Q ((List.range (c+1)).filter (hitW Q wa wb wc wd))).length ((idL Q ((List.range (c+1)).filter (hitW Q wa wb wc wd))).map (Value.int .i64))):=by
         show World.ownsRow _ _ _ _ _ _ _;rw[HFM.out]
         simpa using hown9
        clear HO HB hown9 hgrow9 m2 q0z hob;go_wp2;go_roundw
        case rel=>exact⟨c+1,by omega,by go_num,HN9.out,BP9,BL9,BH9,HB9⟩
        case measure=>simp[intOf];omega
     · obtain rfl:c=n:=by omega
       have HF:Hid (wr.ownsRow w.heap.size 2 1 u10 (qwL Q m d wa wb wc wd).length ((qwL Q m d wa wb wc wd).map (Value.int .i64))):=by
        have e:qwL Q m d wa wb wc wd=idL Q ((List.range c).filter (hitW Q wa wb wc wd)):=by rw[HQL.out,←HN.out];rfl
        show World.ownsRow _ _ _ _ _ _ _;rw[e];exact ownQ_mono2 HO (by omega)
       have m2:=BP.c 2 rfl;clear HO BP BL BH;go_wp2
       go_ret2
       exact⟨u10,by rw[HQ.out];rfl,HF.out,HB⟩
theorem implQuadWindow_any (w:World) (Q:QD) (ao bo:Option Addr) (cap bcap A off:Nat) (so:Nat→Option Addr×Nat) (m d:Int) (hm:Q.m≤1048576) (hN:Q.N≤1048576) (hcap:Q.N≤bcap) (hL:∀i,i<Q.N→Q.L i≤1048576) (hbo:0<Q.N→bo=some ⟨A,off,none⟩) (hao:∀A o sp,ao=some ⟨A,o,sp⟩→A<w.heap.size) (hS:ItIn Q w ao (List.range Q.m)) (hBl:BlIn Q w A off so) (wa wb wc wd:Int):Calls Tryz.prog 6 #[.agg #[.int .i64 m,.int .i64 d,.slice ao Q.m cap,.slice bo Q.N bcap],Sp wa wb,Sp wc wd] w (QwP Q m d wa wb wc wd w):=by
 have BP:=((Blk.new w [.int .i64 m,.int .i64 d,.slice ao Q.m cap,.slice bo Q.N bcap] 27 rfl).alloc (.cells #[.int .i64 wa,.int .i64 wb] 29)).alloc (.cells #[.int .i64 wc,.int .i64 wd] 29);have BL:=(Blk.new (w.alloc (.cells #[.int .i64 m,.int .i64 d,.slice ao Q.m cap,.slice bo Q.N bcap] 27)) [.int .i64 wa,.int .i64 wb] 29 rfl).alloc (.cells #[.int .i64 wc,.int .i64 wd] 29);have BH:=Blk.new ((w.alloc (.cells #[.int .i64 m,.int .i64 d,.slice ao Q.m cap,.slice bo Q.N bcap] 27)).alloc (.cells #[.int .i64 wa,.int .i64 wb] 29)) [.int .i64 wc,.int .i64 wd] 29 rfl;simp only[World.size_alloc] at BL BH;have HB:Below w.heap.size w (((w.alloc (.cells #[.int .i64 m,.int .i64 d,.slice ao Q.m cap,.slice bo Q.N bcap] 27)).alloc (.cells #[.int .i64 wa,.int .i64 wb] 29)).alloc (.cells #[.int .i64 wc,.int .i64 wd] 29)):=(((Below.refl _ w).alloc (Nat.le_refl _) _).alloc (by simp) _).alloc (by simp;omega) _;have C:=quadOf_any (((w.alloc (.cells #[.int .i64 m,.int .i64 d,.slice ao Q.m cap,.slice bo Q.N bcap] 27)).alloc (.cells #[.int .i64 wa,.int .i64 wb] 29)).alloc (.cells #[.int .i64 wc,.int .i64 wd] 29)) Q ao bo cap bcap A off so m d hm hN hcap hL hbo (fun A o sp e=>Nat.lt_of_lt_of_le (hao A o sp e) HB.size) (hS.step HB) (hBl.below HB);clear hS hBl hao
 go_enter Tryz.func6,Tryz.ntmps6
 go_upto_region 1 with fail;generalize (((w.alloc (.cells #[.int .i64 m,.int .i64 d,.slice ao Q.m cap,.slice bo Q.N bcap] 27)).alloc (.cells #[.int .i64 wa,.int .i64 wb] 29)).alloc (.cells #[.int .i64 wc,.int .i64 wd] 29))=W1 at *;have c0:=BP.c 0 rfl;have c1:=BP.c 1 rfl;have c2:=BP.c 2 rfl;have c3:=BP.c 3 rfl;go_wp2_with fail;refine C.mono ?_;rintro r w1 ⟨pv,rfl,hB1,hT⟩;replace BL:=BL.step hB1;replace BH:=BH.step hB1;replace HB:=HB.trans (hB1.mono HB.size);clear C c0 c1 c2 c3 hB1 BP;cases hq:qOk Q m d with
 | false=>
  have HQ:Hid (qwB Q m d wa wb wc wd=false):=by show _=_;unfold qwB;rw[hq];rfl
  clear hq BL BH hT;go_wp2
  go_ret2
  exact qw_no HQ.out HB
 | true=>
  obtain⟨gq,io,ic,gr,rfl,Bq,hIt,_,hST,_,_⟩:=hT hq;have hPT:=hST.toP;clear hST hT;have l0:=BL.c 0 rfl;have l1:=BL.c 1 rfl;have h0:=BH.c 0 rfl;have h1:=BH.c 1 rfl;go_wp2_with fail;refine(isBox_any wa wb wc wd _).mono ?_;rintro e w2 ⟨rfl,hB2⟩;replace BL:=BL.step hB2;replace BH:=BH.step hB2;replace Bq:=Bq.step hB2;replace hIt:=hIt.step hB2;replace hPT:=PTr.step hB2 hPT;replace HB:=HB.trans (hB2.mono HB.size);clear hB2 l0 l1 h0 h1;cases hbx:boxOk wa wb wc wd with
  | false=>
   have HQ:Hid (qwB Q m d wa wb wc wd=false):=by show _=_;unfold qwB;rw[hbx,Bool.and_false]
   clear hq hbx BL BH Bq hIt hPT;go_wp2
   go_ret2
   exact qw_no HQ.out HB
  | true=>
   have HQ:Hid (qwB Q m d wa wb wc wd=true):=by show _=_;unfold qwB;rw[hbx,hq];rfl
   have HQL:Hid (qwL Q m d wa wb wc wd=winQ Q wa wb wc wd):=if_pos HQ.out;obtain⟨_,⟨_,hd8⟩,hits,hrt⟩:=qOk_all hq;have hm40:Q.m≤40:=(of_decide_eq_true hits).1;have hsm:=(tr_small hq).2.1;obtain⟨⟨ia,ib,ic6,id⟩,⟨b1,b2,b3,b4⟩,b5,b6⟩:=box_in6 hbx;have HRI:Hid (riseI Q∧∀i,i<Q.m→(Q.S i).1≤(Q.S i).2.2.1):=⟨rise_of hits,fun i hi=>seg_left (of_decide_eq_true ((of_decide_eq_true hits).2 i hi)).2.1⟩;have HEV:Hid (evT (trQ Q d.toNat 0 (-1048576) (-1048576) 2097152) 2097152):=ev_root Q hd8;have H6:=its6_of hits;have hbnd:Q.m*nlT (trQ Q d.toNat 0 (-1048576) (-1048576) 2097152)≤40*65536:=Nat.mul_le_mul hm40 hsm;obtain⟨t,ht⟩:∃t,(trQ Q d.toNat 0 (-1048576) (-1048576) 2097152)=t:=⟨_,rfl⟩;rw[ht] at hrt hPT HEV hbnd;obtain⟨LL,hLL⟩:∃LL,idL Q (wnT Q wa wb wc wd t (-1048576) (-1048576) 2097152)=LL:=⟨_,rfl⟩;have HLL:Hid (idL Q (wnT Q wa wb wc wd t (-1048576) (-1048576) 2097152)=LL):=hLL;have hln:LL.length≤4000000:=by
    have h:=wnT_len Q wa wb wc wd t (-1048576) (-1048576) 2097152;rw[←hLL];unfold idL;rw[List.length_map]
    omega
   have CW:∀W2:World,Below w2.heap.size w2 W2→Calls Tryz.prog 18 #[.pointer (some ⟨gq,0,none⟩),.pointer (some ⟨gr,0,none⟩),Sp wa wb,Sp wc wd,.slice none 0 0] W2 (OwnP w2.heap.size LL W2):=fun W2 hB=>by
    refine(within_any Q gq ic io m d _ wa wb wc wd hm40 HRI.out.1 H6 ia ib ic6 id W2 (Bq.step hB) (hIt.step hB) t _ (-1048576) (-1048576) 2097152 0 gr [] (.slice none 0 0) W2 root_sq hrt (PTr.step hB hPT) (by simp;omega) (Below.refl _ _) (World.ownsRow_nil _ _ _ _)).mono ?_;rintro r w' ⟨v',rfl,hO,hR⟩;rw[List.nil_append,hLL] at hO;exact⟨v',rfl,ownQ_mono2 hO hB.size,⟨hR.1.os,hR.1.tape,hR.1.output,hR.1.size,fun k hk=>hR.1.block k hk (fun e=>by cases e)⟩⟩
   clear hq hits hbx hrt H6 hIt hPT hbnd hsm ht hLL;go_upto_region 4 with fail;refine qwi4 (gq:=gq) (gr:=gr) (LL:=LL) (wa:=wa) (wb:=wb) (wc:=wc) (wd:=wd) (Lb:=w.heap.size+1) (Hb:=w.heap.size+1+1) CW rfl rfl rfl (Bq.c 3 rfl) Bq.lt (BL.c 0 rfl) BL.lt (BL.c 1 rfl) BL.lt (BH.c 0 rfl) BH.lt (BH.c 1 rfl) BH.lt rfl ?_;rintro⟨tm,df⟩ Wz hz hdf hoff h10 hBz;simp only at hz hdf hoff h10;change Wz.ownsRow w2.heap.size 2 1 (tm.getD 10 undef) LL.length (LL.map (Value.int .i64)) at h10;subst hdf;generalize hv10:tm.getD 10 undef=v10 at h10;have htm:=tmps_fold [24,25,26,27,28,29,30,31,10] tm _ hz hoff;simp only[List.foldl,List.setIfInBounds_toArray,List.set_cons_zero,List.set_cons_succ,hv10] at htm;clear hz hoff;generalize tm.getD 24 undef=pz0,tm.getD 25 undef=pz1,tm.getD 26 undef=pz2,tm.getD 27 undef=pz3,tm.getD 28 undef=pz4,tm.getD 29 undef=pz5,tm.getD 30 undef=pz6,tm.getD 31 undef=pz7 at htm;clear hv10;subst htm;have hBzs:=hBz.size;have CS:=sort64_any w2.heap.size v10 LL w2 Wz hln h10 hBz hBzs;clear CW BL BH Bq h10 hBz;go_wp2_with fail;refine CS.mono ?_;rintro r w5 ⟨rfl,zs,hz1,hz2,hz3,HO5,HB5⟩;have CC:=comp64_any w2.heap.size v10 zs w2 w5 (by omega) hz1 HO5 HB5;have HZ:Hid (∀z,z∈zs↔z∈LL):=hz2;clear CS HO5 HB5 hz1 hz2 hz3;go_wp2_with fail;refine CC.mono ?_;rintro r w6 ⟨v6,cs,rfl,hc1,hc2,HO6,HB6⟩;have he:cs=winQ Q wa wb wc wd:=win_same HRI.out.1 HRI.out.2 HEV.out b1 b2 b3 b4 b5 b6 hc1 (fun z=>by rw[hc2,HZ.out,HLL.out]);have HF:Hid (w6.ownsRow w.heap.size 2 1 v6 (qwL Q m d wa wb wc wd).length ((qwL Q m d wa wb wc wd).map (Value.int .i64))):=by
    show World.ownsRow _ _ _ _ _ _ _;rw[HQL.out,←he];exact ownQ_mono2 HO6 HB.size
   have HBF:=HB.trans (HB6.mono HB.size);clear CC HO6 HB6 hc1 hc2 he HB;go_wp2
   go_ret2
   exact⟨v6,by rw[HQ.out];rfl,HF.out,HBF⟩
def q0:QD:=⟨0,1,fun _=>0,fun _=>(0,0,0,0),fun _=>-1048576,fun _=>-1048576,fun _=>2097152,fun _=>false,fun _=>0,fun _ _=>0⟩
theorem q0_ok {m d:Int} (hl:limB m d=true):qOk q0 m d=true:=by
 have hi:itsB q0=true:=decide_eq_true ⟨by decide,fun i hi=>absurd hi (by show ¬i<0;omega)⟩;have hb:baseB q0 0 (-1048576) (-1048576) 2097152=true:=by unfold baseB;exact decide_eq_true ⟨by decide,rfl,rfl,rfl⟩
 have hle:leafB q0 0 (-1048576) (-1048576) 2097152=true:=by unfold leafB;exact decide_eq_true rfl
 have hq:qrd q0 d.toNat 0 (-1048576) (-1048576) 2097152=some 1:=by
  cases d.toNat with
  | zero=>unfold qrd;rw[if_pos ⟨hb,rfl,hle⟩]
  | succ n=>unfold qrd;rw[if_pos hb,if_neg (by decide),if_pos hle]
 unfold qOk;rw[hl,hi,hq]
 rfl
theorem q0_us {W:World} {A:Nat} (B:Blk W A [.int .i64 (-1048576),.int .i64 (-1048576),.int .i64 2097152,.bool false,.slice none 0 0]):UsQ q0 none (some ⟨A,0,none⟩) 1 A 0 (fun _=>(none,0)) W:=
 ⟨by decide,by decide,fun _ _=>Nat.zero_le _,fun _=>rfl,fun _ _ _=>rfl,Nat.le_refl _,fun _ _ _ e=>(by cases e),fun j i hj=>(by simp[q0] at hj),fun i hi=>by
  obtain rfl:i=0:=by have:i<1:=hi;omega
  exact⟨B.lt,B.c 0 rfl,B.c 1 rfl,B.c 2 rfl,B.c 3 rfl,B.c 4 rfl,fun i hi=>absurd hi (by show ¬i<0;omega)⟩⟩
def qZ:QD:=⟨0,0,fun _=>0,fun _=>(0,0,0,0),fun _=>0,fun _=>0,fun _=>0,fun _=>false,fun _=>0,fun _ _=>0⟩
theorem qZ_us {W:World}:UsQ qZ none none 0 0 0 (fun _=>(none,0)) W:=
 ⟨by decide,by decide,fun _ _=>Nat.zero_le _,fun h=>absurd h (by decide),fun _ _ _=>rfl,Nat.le_refl _,fun _ _ _ e=>(by cases e),fun j i hj=>(by simp[qZ] at hj),fun i hi=>absurd hi (by show ¬i<0;omega)⟩
def Tail (Qp Q:QD) (c:Nat):Prop:=Qp.m+c=Q.m∧∀k,k<Qp.m→Qp.I k=Q.I (c+k)∧Qp.S k=Q.S (c+k)
theorem tail_put {Qp Q Qa:QD} {c j:Nat} (h:Tail Qp Q (c+1)) (hr:riseI Q) (hra:riseI Qa) (hm:Qa.m=Qp.m+1) (hj:j<Qa.m) (hi:Qa.I j=Q.I c) (hs:Qa.S j=Q.S c) (hd:∀i,(delQ Qa j).I i=Qp.I i∧(delQ Qa j).S i=Qp.S i):Tail Qa Q c:=by
 obtain⟨h1,h2⟩:=h;have hj0:j=0:=by
  rcases Nat.eq_zero_or_pos j with h0 | h0
  · exact h0
  · exfalso
    have e1:=rise_to hra h0 hj;have e2:=(delQ_lt (Q:=Qa) (j:=j) h0).1;have e3:=(hd 0).1;have e4:=(h2 0 (by omega)).1;have e5:=rise_to hr (i:=c) (k:=c+1+0) (by omega) (by omega)
    omega
 subst hj0;refine⟨by omega,fun k hk=>?_⟩
 rcases Nat.eq_zero_or_pos k with h0 | h0
 · subst h0;exact⟨hi,hs⟩
 · have e1:=delQ_ge (Q:=Qa) (j:=0) (i:=k-1) (Nat.zero_le _);have e2:=hd (k-1);have e3:=h2 (k-1) (by omega);rw[show k-1+1=k by omega] at e1;rw[show c+1+(k-1)=c+k by omega] at e3;exact⟨e1.1.symm.trans (e2.1.trans e3.1),e1.2.symm.trans (e2.2.trans e3.2)⟩
theorem win_tail {Qp Q:QD} (h:Tail Qp Q 0) (p q u v:Int):winQ Qp p q u v=winQ Q p q u v:=by
 obtain⟨h1,h2⟩:=h;have hm:Qp.m=Q.m:=by omega
 unfold winQ idL;rw[hm];have e1:(List.range Q.m).filter (hitW Qp p q u v)=(List.range Q.m).filter (hitW Q p q u v):=List.filter_congr (fun i hi=>by
  have h3:=List.mem_range.1 hi;have h4:=(h2 i (by omega)).2;unfold hitW;rw[h4,Nat.zero_add])
 rw[e1];exact List.map_congr_left (fun i hi=>by
  have h3:=List.mem_range.1 (List.mem_filter.1 hi).1;rw[(h2 i (by omega)).1,Nat.zero_add])
theorem UsQ.win {Q:QD} {io bo:Option Addr} {bc A off:Nat} {so:Nat→Option Addr×Nat} {W:World} (h:UsQ Q io bo bc A off so W) (ic:Nat) (m d wa wb wc wd:Int):Calls Tryz.prog 6 #[.agg #[.int .i64 m,.int .i64 d,.slice io Q.m ic,.slice bo Q.N bc],Sp wa wb,Sp wc wd] W (QwP Q m d wa wb wc wd W):=
 have h1:=h.hm;have h2:=h.hN
 implQuadWindow_any W Q io bo ic bc A off so m d (by omega) (by omega) h.hc h.hL h.hbo h.ha h.its h.bls wa wb wc wd
theorem UsQ.winS {Q:QD} {io bo:Option Addr} {bc A off:Nat} {so:Nat→Option Addr×Nat} {W:World} (h:UsQ Q io bo bc A off so W) (ic:Nat) (m d wa wb wc wd:Int):Calls Tryz.prog 7 #[.agg #[.int .i64 m,.int .i64 d,.slice io Q.m ic,.slice bo Q.N bc],Sp wa wb,Sp wc wd] W (QwP Q m d wa wb wc wd W):=
 have h1:=h.hm;have h2:=h.hN
 specQuadWindow_any W Q io bo ic bc A off so m d (by omega) (by omega) h.hL h.hbo h.hso h.its h.bls wa wb wc wd
def UsK (Q:QD) (io bo:Option Addr) (bc A off:Nat) (so:Nat→Option Addr×Nat) (P6 P8:Nat) (W:World):Prop:=∀W2:World,W.heap.size≤W2.heap.size→(∀b,b≠P6→b≠P8→b<W.heap.size→W2.heap[b]? =W.heap[b]?)→UsQ Q io bo bc A off so W2
theorem UsK.us {Q:QD} {io bo:Option Addr} {bc A off P6 P8:Nat} {so:Nat→Option Addr×Nat} {W:World} (h:UsK Q io bo bc A off so P6 P8 W):UsQ Q io bo bc A off so W:=h W (Nat.le_refl _) (fun _ _ _ _=>rfl)
theorem UsK.set {Q:QD} {io bo:Option Addr} {bc A off P6 P8 g:Nat} {so:Nat→Option Addr×Nat} {W:World} (h:UsK Q io bo bc A off so P6 P8 W) (hg:g=P6∨g=P8) (v0 v1 v2 v3:Value):UsK Q io bo bc A off so P6 P8 ((((W.setCell ⟨g,0,none⟩ (v0)).setCell ⟨g,1,none⟩ (v1)).setCell ⟨g,2,none⟩ (v2)).setCell ⟨g,3,none⟩ (v3)):=fun W2 hs hk=>h W2 (by simpa [World.setCell] using hs) (fun b h6 h8 hl=>(hk b h6 h8 (by simpa [World.setCell] using hl)).trans (set4_heap (by rcases hg with rfl | rfl<;>assumption)))
theorem us_toldK {Q:QD} {L:List WB} {I:List Value} {W:World} {lo hi ic A bc P6 P8:Nat} {io:Option Addr} (hm:Q.m≤42) (hL:L.length≤2000) (hp:0<L.length) (hl:∀q∈L,q.l.length≤41) (hv:W.ownsRow lo 40 5 (.slice io Q.m ic) Q.m (itCs Q (List.range Q.m))) (hu:W.ownsRow lo 102 5 (.slice (some ⟨A,0,none⟩) L.length bc) L.length (wbCs L I)) (hI:IvP (fun b=>lo≤b∧b<hi) W L I) (h6:P6<lo) (h8:P8<lo):UsK (qdOf Q L) io (some ⟨A,0,none⟩) bc A 0 (soL I) P6 P8 W:=fun W2 hs hk=>
 us_told hm hL hp hl (ownQ_heap hv (fun k e=>by have h9:=World.ownsRow.lt hv k e;exact hk k (by omega) (by omega) h9.2)) (ownQ_heap hu (fun k e=>by have h9:=World.ownsRow.lt hu k e;exact hk k (by omega) (by omega) h9.2)) (IvP.keep (ok' :=fun _=>True) hs (fun b hb hlt=>hk b (by omega) (by omega) hlt) (fun _ _ _=>trivial) hI)
theorem putK_told {Q:QD} {m d id a bb cc dd:Int} {u:Value} {lo hi P6 P8:Nat} {W:World} (hput:PutOk Q m d id a bb cc dd) (h:AnsS true Q m d id a bb cc dd u lo hi W) (h6:P6<lo) (h8:P8<lo):∃(Qa:QD) (io:Option Addr) (ic A bc:Nat) (so:Nat→Option Addr×Nat) (j:Nat),u= .agg #[.int .i64 m,.int .i64 d,.slice io Qa.m ic,.slice (some ⟨A,0,none⟩) Qa.N bc]∧UsK Qa io (some ⟨A,0,none⟩) bc A 0 so P6 P8 W∧Qa.m=Q.m+1∧qOk Qa m d=true∧j<Qa.m∧Qa.I j=id∧Qa.S j=(a,bb,cc,dd)∧∀i,(delQ Qa j).I i=Q.I i∧(delQ Qa j).S i=Q.S i:=by
 rcases h with ⟨h,_⟩ | ⟨_,j,h2,h3,io,ic,A,bc,I,e,h4,h5,hI,_⟩
 · cases h
 · have hb:=hput.1;have hq:=put_ok hb h2 h3;unfold putB at hb;rw[Bool.and_eq_true] at hb;have hm:=(of_decide_eq_true hb.2).2.2.1;have hj:j<Q.m+1:=by have:=h2.1;omega
   have hat:=insQ_at Q j id (a,bb,cc,dd);exact⟨qdOf (insQ Q j id (a,bb,cc,dd)) (putL Q m d id (a,bb,cc,dd) j),io,ic,A,bc,soL I,j,e,us_toldK (Q:=insQ Q j id (a,bb,cc,dd)) (by show Q.m+1≤42;omega) h3 (wrT_pos _ _ _ _) (putL_ll hb.1) h4 h5 hI h6 h8,rfl,hq,hj,hat.1,hat.2,fun i=>del_ins i⟩
def AgC (Q:QD) (M D:Int) (P6 P8 c:Nat) (okc:Bool) (W:World):Prop:=∃(m1 d1:Int) (Qp:QD) (io1 bo1:Option Addr) (ic1 bc1 A1 off1:Nat) (so1:Nat→Option Addr×Nat),Blk W P8 [.int .i64 m1,.int .i64 d1,.slice io1 Qp.m ic1,.slice bo1 Qp.N bc1]∧UsK Qp io1 bo1 bc1 A1 off1 so1 P6 P8 W∧(okc=true→m1=M∧d1=D∧qOk Qp M D=true∧Tail Qp Q c)
def XgP (okn:Bool) (Qp:QD) (M D id sa sb sc sd:Int) (P8:Nat) (u:Value) (W:World):Prop:=∃lo hi,P8<lo∧hi≤W.heap.size∧AnsS okn Qp M D id sa sb sc sd u lo hi W
theorem AgC.put {Q Qp:QD} {M D id sa sb sc sd:Int} {P6 P8 c:Nat} {okn:Bool} {W:World} {m2 d2:Int} {io2 bo2:Option Addr} {n2 ic2 N2 bc2:Nat} {v0 v1 v2 v3:Value} (h68:P6<P8) (hok:okn=true↔PutOk Qp M D id sa sb sc sd) (hX:XgP okn Qp M D id sa sb sc sd P8 (.agg #[.int .i64 m2,.int .i64 d2,.slice io2 n2 ic2,.slice bo2 N2 bc2]) W) (B:Blk W P8 [v0,v1,v2,v3]) (hr:riseI Q) (hT:Tail Qp Q (c+1)) (hi:id=Q.I c) (hs:(sa,sb,sc,sd)=Q.S c):AgC Q M D P6 P8 c okn ((((W.setCell ⟨P8,0,none⟩ (.int .i64 m2)).setCell ⟨P8,1,none⟩ (.int .i64 d2)).setCell ⟨P8,2,none⟩ (.slice io2 n2 ic2)).setCell ⟨P8,3,none⟩ (.slice bo2 N2 bc2)):=by
 obtain⟨lo,hi',hlo,hhi,hA⟩:=hX;cases okn with
 | false=>
  rcases hA with ⟨_,e⟩ | ⟨e,_⟩
  · cases e;exact⟨0,0,qZ,none,none,0,0,0,0,_,(set4_blk B _ _ _ _).out,fun _ _ _=>qZ_us,fun e=>by cases e⟩
  · cases e
 | true=>
  obtain⟨Qa,io,ic,A,bc,so,j,e,UK,hma,hqa,hja,hia,hsa,hdel⟩:=putK_told (P6:=P6) (P8:=P8) (hok.1 rfl) hA (by omega) hlo;cases e;exact⟨_,_,Qa,_,_,_,_,_,_,so,(set4_blk B _ _ _ _).out,UK.set (.inr rfl) _ _ _ _,fun _=>⟨rfl,rfl,hqa,tail_put hT hr (rise_of (qOk_all hqa).2.2.1) hma hja (hia.trans hi) (hsa.trans hs) hdel⟩⟩
def AgnP (Q:QD) (M D:Int) (w:World) (r:Ending) (W:World):Prop:=∃(fine:Bool) (m1 d1:Int) (Qp:QD) (io1 bo1:Option Addr) (ic1 bc1 A1 off1:Nat) (so1:Nat→Option Addr×Nat),r= .returned (.tuple #[.agg #[.int .i64 m1,.int .i64 d1,.slice io1 Qp.m ic1,.slice bo1 Qp.N bc1],.bool fine])∧UsQ Qp io1 bo1 bc1 A1 off1 so1 W∧(fine=true→m1=M∧d1=D∧qOk Qp M D=true∧Tail Qp Q 0)∧Below w.heap.size w W
theorem again_any (Q:QD) (io bo:Option Addr) (ic bc A off:Nat) (so:Nat→Option Addr×Nat) (m d M D:Int) (w:World) (hl:limB M D=true) (hr:riseI Q) (U:UsQ Q io bo bc A off so w):Calls Tryz.prog 10 #[.agg #[.int .i64 m,.int .i64 d,.slice io Q.m ic,.slice bo Q.N bc],.int .i64 M,.int .i64 D] w (AgnP Q M D w):=by
 have B3:=(Blk.new w [.int .i64 m,.int .i64 d,.slice io Q.m ic,.slice bo Q.N bc] 27 rfl).alloc (.cells #[.int .i64 0,.int .i64 0,.slice none 0 0,.slice none 0 0] 27);have B6:=Blk.new (w.alloc (.cells #[.int .i64 m,.int .i64 d,.slice io Q.m ic,.slice bo Q.N bc] 27)) [.int .i64 0,.int .i64 0,.slice none 0 0,.slice none 0 0] 27 rfl;simp only[World.size_alloc] at B6;have HB:Below w.heap.size w ((w.alloc (.cells #[.int .i64 m,.int .i64 d,.slice io Q.m ic,.slice bo Q.N bc] 27)).alloc (.cells #[.int .i64 0,.int .i64 0,.slice none 0 0,.slice none 0 0] 27)):=((Below.refl _ _).alloc (Nat.le_refl _) _).alloc (by simp) _;have hm42:=U.hm;have HU:Hid (UsQ Q io bo bc A off so w):=U;have HR:Hid (riseI Q):=hr;have QN:=fun w=>implQuadNew_yes M D hl w;have HL:Hid (limB M D=true):=hl;clear U hr hl
 go_enter Tryz.func10,Tryz.ntmps10
 go_upto_region 1 with fail;change Blk ((w.alloc (.cells #[.int .i64 m,.int .i64 d,.slice io Q.m ic,.slice bo Q.N bc] 27)).alloc (.cells #[.int .i64 0,.int .i64 0,.slice none 0 0,.slice none 0 0] 27)) w.heap.size [.int .i64 m,.int .i64 d,.slice io Q.m ic,.slice bo Q.N bc] at B3;change Blk ((w.alloc (.cells #[.int .i64 m,.int .i64 d,.slice io Q.m ic,.slice bo Q.N bc] 27)).alloc (.cells #[.int .i64 0,.int .i64 0,.slice none 0 0,.slice none 0 0] 27)) (w.heap.size+1) [.int .i64 0,.int .i64 0,.slice none 0 0,.slice none 0 0] at B6;generalize ((w.alloc (.cells #[.int .i64 m,.int .i64 d,.slice io Q.m ic,.slice bo Q.N bc] 27)).alloc (.cells #[.int .i64 0,.int .i64 0,.slice none 0 0,.slice none 0 0] 27))=W1 at *;have bl6:=B6.lt;go_wp2_with fail;refine(QN _).mono ?_;rintro e w1 ⟨h,rfl,hh,Bh,hB⟩;clear QN;replace B3:=B3.step hB;replace B6:=B6.step hB;replace HB:=HB.trans (hB.mono HB.size);have hs1:=hB.size;have hBa:Below w1.heap.size w1 (w1.alloc (.cells #[.int .i64 M,.int .i64 D,.slice none 0 0,.slice (some ⟨h,0,none⟩) 1 1] 27)):=(Below.refl _ _).alloc (Nat.le_refl _) _;have N8:Blk (w1.alloc (.cells #[.int .i64 M,.int .i64 D,.slice none 0 0,.slice (some ⟨h,0,none⟩) 1 1] 27)) w1.heap.size [.int .i64 M,.int .i64 D,.slice none 0 0,.slice (some ⟨h,0,none⟩) 1 1]:=Blk.new w1 [.int .i64 M,.int .i64 D,.slice none 0 0,.slice (some ⟨h,0,none⟩) 1 1] 27 rfl;have Bh1:=Bh.step hBa;have hh8:h<w1.heap.size:=Bh.lt;replace B3:=B3.step hBa;replace B6:=B6.step hBa;replace HB:=HB.trans (hBa.mono HB.size);clear hB hBa Bh;go_upto_region 2 with fail;generalize (w1.alloc (.cells #[.int .i64 M,.int .i64 D,.slice none 0 0,.slice (some ⟨h,0,none⟩) 1 1] 27))=W2 at *;have UK0:UsK q0 none (some ⟨h,0,none⟩) 1 h 0 (fun _=>(none,0)) (w.heap.size+1) w1.heap.size W2:=fun W3 hs hk=>q0_us (Bh1.keep hs (hk h (by omega) (by omega) Bh1.lt));have hHB:=HB.size;have bl8:=N8.lt;have HC0:Hid (AgC Q M D (w.heap.size+1) w1.heap.size Q.m true W2):=⟨M,D,q0,none,some ⟨h,0,none⟩,0,1,h,0,_,N8,UK0,fun _=>⟨rfl,rfl,q0_ok HL.out,Nat.zero_add _,fun k hk=>absurd hk (Nat.not_lt_zero k)⟩⟩;clear UK0 Bh1 N8 HL;have HFB:=HB;have w1' :IntKind.i64.wrap ((Q.m:Int)-1)=(Q.m:Int)-1:=by rw[IntKind.wrap_i64];omega
 have x2:=B3.c 2 rfl;generalize hP8:w1.heap.size=P8 at *;clear hP8;go_wp2_with fail
 go_loopw [9,10] (fun hv i wr=>∃(c:Nat) (okc:Bool),c≤Q.m∧i= .int .i64 ((c:Int)-1)∧hv= .bool okc∧AgC Q M D (w.heap.size+1) P8 c okc wr∧Below P8 W2 wr) (fun _ i _=>(intOf i+1).toNat)
 case atStart=>exact⟨Q.m,true,Nat.le_refl _,rfl,rfl,HC0.out,Below.refl _ _⟩
 case round=>
  clear HC0 w1' x2;obtain⟨c,okc,hcm,rfl,rfl,hA,hB⟩:=hrel;have HA:Hid (AgC Q M D (w.heap.size+1) P8 c okc wr):=hA;clear hA
  by_cases hc0:c=0
  · subst hc0;rw[show((0:Nat):Int)-1= -1 from rfl];go_upto_region 6 with fail;obtain⟨m1,d1,Qp,io1,bo1,ic1,bc1,A1,off1,so1,B8,UK,hfin⟩:=HA.out;replace HFB:=HFB.trans (hB.mono (by omega));have B6:=B6.below hB (by omega);have HF:Hid (okc=true→m1=M∧d1=D∧qOk Qp M D=true∧Tail Qp Q 0):=hfin;have UF:Hid (UsQ Qp io1 bo1 bc1 A1 off1 so1 ((((wr.setCell ⟨(w.heap.size+1),0,none⟩ (.int .i64 m1)).setCell ⟨(w.heap.size+1),1,none⟩ (.int .i64 d1)).setCell ⟨(w.heap.size+1),2,none⟩ (.slice io1 Qp.m ic1)).setCell ⟨(w.heap.size+1),3,none⟩ (.slice bo1 Qp.N bc1))):=(UK.set (g:=w.heap.size+1) (.inl rfl) (.int .i64 m1) (.int .i64 d1) (.slice io1 Qp.m ic1) (.slice bo1 Qp.N bc1)).us;have HBF:Hid (Below w.heap.size w ((((wr.setCell ⟨(w.heap.size+1),0,none⟩ (.int .i64 m1)).setCell ⟨(w.heap.size+1),1,none⟩ (.int .i64 d1)).setCell ⟨(w.heap.size+1),2,none⟩ (.slice io1 Qp.m ic1)).setCell ⟨(w.heap.size+1),3,none⟩ (.slice bo1 Qp.N bc1))):=set4_below HFB (Nat.le_succ _) _ _ _ _;have R6:=(set4_blk B6 (.int .i64 m1) (.int .i64 d1) (.slice io1 Qp.m ic1) (.slice bo1 Qp.N bc1)).out;have p0:=B8.c 0 rfl;have p1:=B8.c 1 rfl;have p2:=B8.c 2 rfl;have p3:=B8.c 3 rfl;have x0:=B6.c 0 rfl;have x1:=B6.c 1 rfl;have x2:=B6.c 2 rfl;have x3:=B6.c 3 rfl;have y0:=B6.f 0 rfl;have y1:=B6.f 1 rfl;have y2:=B6.f 2 rfl;have y3:=B6.f 3 rfl;have r0:=R6.c 0 rfl;have r1:=R6.c 1 rfl;have r2:=R6.c 2 rfl;have r3:=R6.c 3 rfl;clear HA hfin HU HR B3 B6 hB B8 UK HFB R6;go_wp2;refine bodyPost_ret (v:= .tuple #[.agg #[.int .i64 m1,.int .i64 d1,.slice io1 Qp.m ic1,.slice bo1 Qp.N bc1],.bool okc]) (by simp[results,Tryz.results10,go_sem,r0,r1,r2,r3]) rfl ?_;exact⟨_,m1,d1,Qp,io1,bo1,ic1,bc1,A1,off1,so1,rfl,UF.out,HF.out,HBF.out⟩
  · obtain⟨kk,rfl⟩:∃kk,c=kk+1:=⟨c-1,by omega⟩;rw[show((kk+1:Nat):Int)-1=(kk:Int) by omega];have hI:(0:Int)≤(kk:Int):=by omega
    clear hc0;cases okc with
    | false=>
     go_upto_region 6 with fail;obtain⟨m1,d1,Qp,io1,bo1,ic1,bc1,A1,off1,so1,B8,UK,hfin⟩:=HA.out;replace HFB:=HFB.trans (hB.mono (by omega));have B6:=B6.below hB (by omega);have HF:Hid (false=true→m1=M∧d1=D∧qOk Qp M D=true∧Tail Qp Q 0):=(fun e=>by cases e);have UF:Hid (UsQ Qp io1 bo1 bc1 A1 off1 so1 ((((wr.setCell ⟨(w.heap.size+1),0,none⟩ (.int .i64 m1)).setCell ⟨(w.heap.size+1),1,none⟩ (.int .i64 d1)).setCell ⟨(w.heap.size+1),2,none⟩ (.slice io1 Qp.m ic1)).setCell ⟨(w.heap.size+1),3,none⟩ (.slice bo1 Qp.N bc1))):=(UK.set (g:=w.heap.size+1) (.inl rfl) (.int .i64 m1) (.int .i64 d1) (.slice io1 Qp.m ic1) (.slice bo1 Qp.N bc1)).us;have HBF:Hid (Below w.heap.size w ((((wr.setCell ⟨(w.heap.size+1),0,none⟩ (.int .i64 m1)).setCell ⟨(w.heap.size+1),1,none⟩ (.int .i64 d1)).setCell ⟨(w.heap.size+1),2,none⟩ (.slice io1 Qp.m ic1)).setCell ⟨(w.heap.size+1),3,none⟩ (.slice bo1 Qp.N bc1))):=set4_below HFB (Nat.le_succ _) _ _ _ _;have R6:=(set4_blk B6 (.int .i64 m1) (.int .i64 d1) (.slice io1 Qp.m ic1) (.slice bo1 Qp.N bc1)).out;have p0:=B8.c 0 rfl;have p1:=B8.c 1 rfl;have p2:=B8.c 2 rfl;have p3:=B8.c 3 rfl;have x0:=B6.c 0 rfl;have x1:=B6.c 1 rfl;have x2:=B6.c 2 rfl;have x3:=B6.c 3 rfl;have y0:=B6.f 0 rfl;have y1:=B6.f 1 rfl;have y2:=B6.f 2 rfl;have y3:=B6.f 3 rfl;have r0:=R6.c 0 rfl;have r1:=R6.c 1 rfl;have r2:=R6.c 2 rfl;have r3:=R6.c 3 rfl;clear HA hfin HU HR B3 B6 hB B8 UK HFB R6;go_wp2;refine bodyPost_ret (v:= .tuple #[.agg #[.int .i64 m1,.int .i64 d1,.slice io1 Qp.m ic1,.slice bo1 Qp.N bc1],.bool false]) (by simp[results,Tryz.results10,go_sem,r0,r1,r2,r3]) rfl ?_;exact⟨_,m1,d1,Qp,io1,bo1,ic1,bc1,A1,off1,so1,rfl,UF.out,HF.out,HBF.out⟩
    | true=>
     obtain⟨m1,d1,Qp,io1,bo1,ic1,bc1,A1,off1,so1,B8,UK,hfin⟩:=HA.out;obtain⟨e1,e2,hq,hT⟩:=hfin rfl;rw[e1,e2] at B8;have hBw:Below w.heap.size w wr:=HFB.trans (hB.mono (by omega));have U2:=HU.out.step hBw;obtain⟨A2,o2,rfl,hA2,q0,q1,q2,q3,q4⟩:=U2.its kk kk (by simp[show kk<Q.m by omega]);have hA8:A2<P8:=by have:=HU.out.ha A2 o2 none rfl;omega
     have B3' :=B3.below hB (by omega);have hl3:w.heap.size<P8:=by omega
     have UP:=UK.us.step (Below.refl _ wr).drew;obtain⟨id,hid⟩:∃id,id=Q.I kk:=⟨_,rfl⟩;obtain⟨sa,hsa⟩:∃sa,sa=(Q.S kk).1:=⟨_,rfl⟩;obtain⟨sb,hsb⟩:∃sb,sb=(Q.S kk).2.1:=⟨_,rfl⟩;obtain⟨sc,hsc⟩:∃sc,sc=(Q.S kk).2.2.1:=⟨_,rfl⟩;obtain⟨sd,hsd⟩:∃sd,sd=(Q.S kk).2.2.2:=⟨_,rfl⟩;rw[←hid] at q0;rw[←hsa] at q1;rw[←hsb] at q2;rw[←hsc] at q3;rw[←hsd] at q4;have hss:(sa,sb,sc,sd)=Q.S kk:=by rw[hsa,hsb,hsc,hsd]
     obtain⟨okn,hokn⟩:∃okn:Bool,okn=true↔PutOk Qp M D id sa sb sc sd:=by
      by_cases h:PutOk Qp M D id sa sb sc sd
      · exact⟨true,by simp[h]⟩
      · exact⟨false,by simp[h]⟩
     have BD:=B8.drew;have hlt8:P8<wr.drew.heap.size:=BD.lt;have hkn:kk<Q.m:=by omega
     have hl8:=B8.lt;have HOK:Hid (okn=true↔PutOk Qp M D id sa sb sc sd):=hokn;have HQ2:Hid (qOk Qp M D=true∧Tail Qp Q (kk+1)∧id=Q.I kk∧(sa,sb,sc,sd)=Q.S kk):=⟨hq,hT,hid,hss⟩;have w2' :IntKind.i64.wrap ((kk:Int)-1)=(kk:Int)-1:=by rw[IntKind.wrap_i64];omega
     clear hokn hq hT hid hss hsa hsb hsc hsd e1 e2 hfin UK U2 HA;go_upto_region 5 with fail;refine qxA (P8:=P8) (P3:=w.heap.size) (A:=A2) (off:=o2) (n:=Q.m) (cap:=ic) (kk:=kk) (m1:=M) (d1:=D) (io1:=io1) (bo1:=bo1) (n1:=Qp.m) (ic1:=ic1) (N1:=Qp.N) (bc1:=bc1) (id:=id) (sa:=sa) (sb:=sb) (sc:=sc) (sd:=sd) (okn:=okn) (XG:=XgP okn Qp M D id sa sb sc sd P8) (Wd:=wr.drew) hl8 hkn hm42 ((UP.put ic1 M D id sa sb sc sd).mono (fun r W h=>by obtain⟨u,e,hA,hB⟩:=ans_of_g HOK.out h;exact⟨u,e,⟨_,_,hlt8,Nat.le_refl _,hA.s⟩,hB⟩)) (fun u W h=>by obtain⟨lo,hi,_,_,hA⟩:=h;exact hA.form) BD rfl rfl rfl rfl (B3'.c 2 rfl) hl3 q0 hA8 q1 hA8 q2 hA8 q3 hA8 q4 hA8 rfl ?_;rintro⟨tm,df⟩ W hz hdf hoff _ h9 hBW ⟨Wb,m2,d2,io2,bo2,n2,ic2,N2,bc2,hX,hBX,rfl⟩;simp only at hz hdf hoff h9;replace h9:tm.getD 9 undef= .bool okn:=h9;subst hdf;have htm:=tmps_fold [29,30,31,32,33,34,35,36,37,38,39,40,41,42,28,43,44,9] tm _ hz hoff;simp only[List.foldl,List.setIfInBounds_toArray,List.set_cons_zero,List.set_cons_succ,h9] at htm;clear hz hoff;generalize tm.getD 29 undef=pt0,tm.getD 30 undef=pt1,tm.getD 31 undef=pt2,tm.getD 32 undef=pt3,tm.getD 33 undef=pt4,tm.getD 34 undef=pt5,tm.getD 35 undef=pt6,tm.getD 36 undef=pt7,tm.getD 37 undef=pt8,tm.getD 38 undef=pt9,tm.getD 39 undef=pt10,tm.getD 40 undef=pt11,tm.getD 41 undef=pt12,tm.getD 42 undef=pt13,tm.getD 28 undef=pt14,tm.getD 43 undef=pt15,tm.getD 44 undef=pt16 at htm;clear h9;subst htm;have HA2:Hid (AgC Q M D (w.heap.size+1) P8 kk okn _):=AgC.put (by omega) HOK.out hX (BD.step hBX) HR.out HQ2.out.2.1 HQ2.out.2.2.1 HQ2.out.2.2.2;have HB2:=hB.trans hBW;clear hX hBX BD B8 UP q0 q1 q2 q3 q4 B3' hB hBW HOK HQ2;generalize ((((Wb.setCell ⟨P8,0,none⟩ (.int .i64 m2)).setCell ⟨P8,1,none⟩ (.int .i64 d2)).setCell ⟨P8,2,none⟩ (.slice io2 n2 ic2)).setCell ⟨P8,3,none⟩ (.slice bo2 N2 bc2))=W9 at *;go_wp2;go_roundw
     case rel=>exact⟨kk,okn,by omega,rfl,rfl,HA2.out,HB2⟩
     case measure=>simp[intOf]
theorem rdr_below {w w' :World} {g B:Nat} {ao:Option Addr} {n cap:Nat} {cs:List Int} (h:Rdr w g ao n cap cs) (hB:Below B w w') (hg:g<B):Rdr w' g ao n cap cs:=by
 obtain⟨p,hp,X⟩:=h.blk;refine⟨⟨p,hp,X.below hB hg⟩,fun i hi=>?_,h.len,h.small,h.byte⟩;obtain⟨b,off,e,hb,hc⟩:=h.bytes i hi;exact⟨b,off,e,hb,(hB.cell (p:=⟨b,off+i,none⟩) (show b<B by omega)).trans hc⟩
theorem kept_below {g B:Nat} {a b c:World} (h:Kept g a b) (hB:Below B b c) (hg:g<B) (ha:a.heap.size≤B):Kept g a c:=
 ⟨hB.os.trans h.os,hB.tape.trans h.tape,hB.output.trans h.output,Nat.le_trans h.size hB.size,fun k hk hne=>(hB.block k (by omega)).trans (h.block k hk hne),fun j hj hl=>(hB.cell (p:=⟨g,j,none⟩) hg).trans (h.other j hj hl)⟩
end Go.Proofs.YthelolpogdcmhaaGreat
