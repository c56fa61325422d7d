/- Part 3 of the walks that the proof leans on. -/
import Derived.Test.YthelolpogdcmhaaGreatQx2
set_option maxRecDepth 100000
set_option maxHeartbeats 16000000
namespace Go.Proofs.YthelolpogdcmhaaGreat
open Go.RowKit
def StV (n iz A:Nat) (os:List Value) (G D:World→Prop) (lz:Array Bool) (W:World):Prop:=
 (lz.getD iz false=true→∀j,j<n→lz.getD j false=true)∧(lz.getD iz false=false→Blk W A os∧G W)∧(lz.getD iz false=true→D W)
theorem StV.start {n m iz A:Nat} {os:List Value} {G D:World→Prop} {W:World} (h:Blk W A os∧G W):StV n iz A os G D (Array.replicate m false) W:=
 ⟨(fun h=>by rw[replD] at h;cases h),fun _=>h,(fun h=>by rw[replD] at h;cases h)⟩
theorem StV.off {n iz A:Nat} {os:List Value} {G D:World→Prop} {lz:Array Bool} {W:World} (h:StV n iz A os G D lz W) {i:Nat} (hi:i<n) (hl:lz.getD i true=false):lz.getD iz false=false:=by
 cases hh:lz.getD iz false with
 | false=>rfl
 | true=>have:=h.1 hh i hi;rw[getD_tf hl] at this;cases this
theorem StV.quiet {n iz A:Nat} {os:List Value} {G D:World→Prop} {lz:Array Bool} {W W2:World} (h:StV n iz A os G D lz W) (i:Nat) (hi:i<n) (hl:lz.getD i true=false) (h3:i≠iz) (hw:Blk W A os→G W→Blk W2 A os∧G W2):StV n iz A os G D (lz.setIfInBounds i true) W2:=by
 have hz:=h.off hi hl;obtain⟨a1,a2,a3⟩:=h;unfold StV;rw[getD_set_neq h3];exact⟨(fun h=>by rw[hz] at h;cases h),fun h=>hw (a2 h).1 (a2 h).2,(fun h=>by rw[hz] at h;cases h)⟩
theorem StV.stored {n iz A:Nat} {os:List Value} {G D:World→Prop} {lz:Array Bool} {W2:World} (hl:lz.getD iz true=false) (hall:∀j,j<n→j≠iz→lz.getD j false=true) (hD:D W2):StV n iz A os G D (lz.setIfInBounds iz true) W2:=by
 unfold StV;rw[getD_set_eq hl];refine⟨fun _ j hj=>?_,(fun h=>by cases h),fun _=>hD⟩
 by_cases hji:j=iz
 · subst hji;exact getD_set_eq hl
 · rw[getD_set_neq (Ne.symm hji)];exact hall j hj hji
def VqdH (_R g:Nat) (x y s:Int) (_B:Nat):Nat→Value→World→Prop
 | 0,v,_=>v= .pointer (some ⟨g,0,none⟩)
 | 1,v,_=>v= .pointer (some ⟨g,0,none⟩)
 | 2,v,_=>v= .pointer (some ⟨g,0,none⟩)
 | 3,v,_=>v= .pointer (some ⟨g,0,none⟩)
 | 4,v,_=>v= .int .i64 x
 | 5,v,_=>v= .pointer (some ⟨g,0,none⟩)
 | 6,v,_=>v= .pointer (some ⟨g,0,none⟩)
 | 7,v,_=>v= .pointer (some ⟨g,2,none⟩)
 | 8,v,_=>v= .int .i64 s
 | 9,v,_=>v= .int .i64 (x+s)
 | 10,v,_=>v= .pointer (some ⟨g,0,none⟩)
 | 11,v,_=>v= .pointer (some ⟨g,0,none⟩)
 | 12,v,_=>v= .pointer (some ⟨g,0,none⟩)
 | 13,v,_=>v= .pointer (some ⟨g,1,none⟩)
 | 14,v,_=>v= .int .i64 y
 | 15,v,_=>v= .pointer (some ⟨g,0,none⟩)
 | 16,v,_=>v= .pointer (some ⟨g,0,none⟩)
 | 17,v,_=>v= .pointer (some ⟨g,2,none⟩)
 | 18,v,_=>v= .int .i64 s
 | 19,v,_=>v= .int .i64 (y+s)
 | 20,v,_=>v= .agg #[.int .i64 (x+s),.int .i64 (y+s)]
 | _,_,_=>True
theorem VqdH.same {R g:Nat} {x y s:Int} {B j:Nat} {v:Value} {W W2:World} (h:VqdH R g x y s B j v W):VqdH R g x y s B j v W2:=by
 unfold VqdH at *
 split<;>simp only at h<;>first | exact h | trivial
def SqdH (R _g:Nat) (x y s:Int) (lz:Array Bool) (_az:Act) (W:World):Prop:=StV 22 21 R [.int .i64 0,.int .i64 0] (fun _=>True) (fun W=>Blk W R [.int .i64 (x+s),.int .i64 (y+s)]) lz W
def JqdH (R g:Nat) (x y s:Int) (w0:World) (a0:Act) (lz:Array Bool) (az:Act) (W:World):Prop:=InvQ (R) [some 3,some 4,some 5,some 6,some 7,some 8,some 9,some 10,some 11,some 12,some 13,some 14,some 15,some 16,some 17,some 18,some 19,some 20,some 21,some 22,some 23,none] (VqdH R g x y s (R)) w0 a0 lz az W∧SqdH R g x y s lz az W
theorem qdH {Q:Exit→Act→World→Prop} {R g:Nat} {x y s:Int} {w0:World} {a0:Act} {idq:Nat} {t0 t1 t2 t3 t4 t5 t6 t7 t8 t9 t10 t11 t12 t13 t14 t15 t16 t17 t18 t19 t20 t21:TypeId} {q0 q1 q2 q3 q4 q5 q6 q7 q8 q9 q10 q11 q12 q13 q14 q15 q16 q17 q18 q19 q20 q21:String}
 (hx1: -1048576≤x) (hx2:x≤1048576) (hy1: -1048576≤y) (hy2:y≤1048576) (hs1:0≤s) (hs2:s≤2097152) (s0:Blk w0.drew R [.int .i64 0,.int .i64 0]) (h0:a0.tmps[0]? =some (.pointer (some ⟨g,0,none⟩))) (h2:a0.tmps[2]? =some (.pointer (some ⟨R,0,none⟩))) (k0:w0.cell? ⟨g,0,none⟩=some (.int .i64 x)) (l0:(⟨g,0,none⟩:Addr).block<R) (k1:w0.cell? ⟨g,1,none⟩=some (.int .i64 y)) (l1:(⟨g,1,none⟩:Addr).block<R) (k2:w0.cell? ⟨g,2,none⟩=some (.int .i64 s)) (l2:(⟨g,2,none⟩:Addr).block<R) (hz:a0.tmps.size=24)
 (hQ:∀aq W,aq.tmps.size=a0.tmps.size→aq.defers=a0.defers→(∀e,e∉([3,4,5,6,7,8,9,10,11,12,13,14,15,16,17,18,19,20,21,22,23]:List Nat)→aq.tmps[e]? =a0.tmps[e]?)→VqdH R g x y s (R) 21 undef W→Below (R) w0 W→(Blk W R [.int .i64 (x+s),.int .i64 (y+s)])→Q .normal aq W) :
 (Code.region idq #[⟨some 3,.move (.tmp 0),t0,q0,#[],none⟩,
 ⟨some 4,.nilCheck (.tmp 3),t1,q1,#[⟨0,.data⟩],none⟩,
 ⟨some 5,.fieldAddr 83 (.tmp 4) 0,t2,q2,#[⟨1,.data⟩],none⟩,
 ⟨some 6,.fieldAddr 29 (.tmp 5) 0,t3,q3,#[⟨2,.data⟩],none⟩,
 ⟨some 7,.load 2 (.tmp 6),t4,q4,#[⟨3,.data⟩],none⟩,
 ⟨some 8,.move (.tmp 0),t5,q5,#[],none⟩,
 ⟨some 9,.nilCheck (.tmp 8),t6,q6,#[⟨5,.data⟩],none⟩,
 ⟨some 10,.fieldAddr 83 (.tmp 9) 1,t7,q7,#[⟨6,.data⟩],none⟩,
 ⟨some 11,.load 2 (.tmp 10),t8,q8,#[⟨7,.data⟩],none⟩,
 ⟨some 12,.binOp .add 2 (.tmp 7) (.tmp 11) 2,t9,q9,#[⟨4,.data⟩,⟨8,.data⟩],none⟩,
 ⟨some 13,.move (.tmp 0),t10,q10,#[],none⟩,
 ⟨some 14,.nilCheck (.tmp 13),t11,q11,#[⟨10,.data⟩],none⟩,
 ⟨some 15,.fieldAddr 83 (.tmp 14) 0,t12,q12,#[⟨11,.data⟩],none⟩,
 ⟨some 16,.fieldAddr 29 (.tmp 15) 1,t13,q13,#[⟨12,.data⟩],none⟩,
 ⟨some 17,.load 2 (.tmp 16),t14,q14,#[⟨13,.data⟩],none⟩,
 ⟨some 18,.move (.tmp 0),t15,q15,#[],none⟩,
 ⟨some 19,.nilCheck (.tmp 18),t16,q16,#[⟨15,.data⟩],none⟩,
 ⟨some 20,.fieldAddr 83 (.tmp 19) 1,t17,q17,#[⟨16,.data⟩],none⟩,
 ⟨some 21,.load 2 (.tmp 20),t18,q18,#[⟨17,.data⟩],none⟩,
 ⟨some 22,.binOp .add 2 (.tmp 17) (.tmp 21) 2,t19,q19,#[⟨14,.data⟩,⟨18,.data⟩],none⟩,
 ⟨some 23,.build 29 #[(0,.tmp 12),(1,.tmp 22)],t20,q20,#[⟨9,.data⟩,⟨19,.data⟩],none⟩,
 ⟨none,.store 29 (.tmp 2) (.tmp 23),t21,q21,#[⟨20,.data⟩,⟨0,.phase⟩,⟨1,.phase⟩,⟨2,.phase⟩,⟨3,.phase⟩,⟨4,.phase⟩,⟨5,.phase⟩,⟨6,.phase⟩,⟨7,.phase⟩,⟨8,.phase⟩,⟨9,.phase⟩,⟨10,.phase⟩,⟨11,.phase⟩,⟨12,.phase⟩,⟨13,.phase⟩,⟨14,.phase⟩,⟨15,.phase⟩,⟨16,.phase⟩,⟨17,.phase⟩,⟨18,.phase⟩,⟨19,.phase⟩,⟨20,.phase⟩],none⟩] true).wp Tryz.prog Q a0 w0:=by
 have hS:distS [some 3,some 4,some 5,some 6,some 7,some 8,some 9,some 10,some 11,some 12,some 13,some 14,some 15,some 16,some 17,some 18,some 19,some 20,some 21,some 22,some 23,none]=true:=rfl;refine wp_region_inv (by kernel_rfl) (JqdH R g x y s w0 a0) ⟨⟨rfl,rfl,rfl,fun _ _=>rfl,(Below.refl _ w0).drew,fun j d hj=>?_,fun j hj=>?_⟩,StV.start ⟨s0,trivial⟩⟩ ?_ ?_
 · exfalso
   rw[Array.getD_eq_getD_getElem?,Array.getElem?_replicate] at hj
   split at hj<;>simp at hj
 · exfalso
   rw[Array.getD_eq_getD_getElem?,Array.getElem?_replicate] at hj
   split at hj<;>simp at hj
 · intro lq aq W iq oq ⟨hJ2,hs⟩ hl ho hall;have z5:=hJ2.b;have g0:=hJ2.a h0
   have g2:=hJ2.a h2
   have c0:=hJ2.c k0 l0;have c1:=hJ2.c k1 l1;have c2:=hJ2.c k2 l2
   have HK:=fun i d h1 h2 v W2 hW hT hv hs=>show JqdH R g x y s w0 a0 (lq.setIfInBounds i true) (aq.put (some d) v) W2 from⟨hJ2.put hS i d h1 h2 hW hT v hv,hs⟩
   have HW:=fun i h1 W2 hW hT hv hs=>show JqdH R g x y s w0 a0 (lq.setIfInBounds i true) aq W2 from⟨hJ2.world i h1 (W' :=W2) hW hT hv,hs⟩
   generalize JqdH R g x y s w0 a0=JJ at HK HW⊢
   clear hQ
   match iq,ho with
   | 0,ho=>
    cases ho;refine wpOp_of rfl rfl ?_;have hq:=fun(W2:World)=>hs.quiet (W2:=W2) 0 (by decide) hl (by decide);have hK:=HK 0 3 rfl (by omega);generalize JJ _=K at hK⊢;clear ho hall hl HK HW hJ2 hS;go_simp;exact hK _ _ z5 (fun _ _ h=>h) rfl (hq _ (fun a b=>⟨a,b⟩))
   | 1,ho=>
    cases ho;refine wpOp_of rfl rfl ?_;have f0:_=Value.pointer (some ⟨g,0,none⟩):=hJ2.v hall 0 3;have hq:=fun(W2:World)=>hs.quiet (W2:=W2) 1 (by decide) hl (by decide);have hK:=HK 1 4 rfl (by omega);generalize JJ _=K at hK⊢;clear ho hall hl HK HW hJ2 hS;go_simp;exact hK _ _ z5 (fun _ _ h=>h) rfl (hq _ (fun a b=>⟨a,b⟩))
   | 2,ho=>
    cases ho;refine wpOp_of rfl rfl ?_;have f1:_=Value.pointer (some ⟨g,0,none⟩):=hJ2.v hall 1 4;have hq:=fun(W2:World)=>hs.quiet (W2:=W2) 2 (by decide) hl (by decide);have hK:=HK 2 5 rfl (by omega);generalize JJ _=K at hK⊢;clear ho hall hl HK HW hJ2 hS;go_simp;exact hK _ _ z5 (fun _ _ h=>h) rfl (hq _ (fun a b=>⟨a,b⟩))
   | 3,ho=>
    cases ho;refine wpOp_of rfl rfl ?_;have f2:_=Value.pointer (some ⟨g,0,none⟩):=hJ2.v hall 2 5;have hq:=fun(W2:World)=>hs.quiet (W2:=W2) 3 (by decide) hl (by decide);have hK:=HK 3 6 rfl (by omega);generalize JJ _=K at hK⊢;clear ho hall hl HK HW hJ2 hS;go_simp;exact hK _ _ z5 (fun _ _ h=>h) rfl (hq _ (fun a b=>⟨a,b⟩))
   | 4,ho=>
    cases ho;refine wpOp_of rfl rfl ?_;have f3:_=Value.pointer (some ⟨g,0,none⟩):=hJ2.v hall 3 6;have hq:=fun(W2:World)=>hs.quiet (W2:=W2) 4 (by decide) hl (by decide);have hK:=HK 4 7 rfl (by omega);generalize JJ _=K at hK⊢;clear ho hall hl HK HW hJ2 hS;go_simp;exact hK _ _ z5 (fun _ _ h=>h) rfl (hq _ (fun a b=>⟨a,b⟩))
   | 5,ho=>
    cases ho;refine wpOp_of rfl rfl ?_;have hq:=fun(W2:World)=>hs.quiet (W2:=W2) 5 (by decide) hl (by decide);have hK:=HK 5 8 rfl (by omega);generalize JJ _=K at hK⊢;clear ho hall hl HK HW hJ2 hS;go_simp;exact hK _ _ z5 (fun _ _ h=>h) rfl (hq _ (fun a b=>⟨a,b⟩))
   | 6,ho=>
    cases ho;refine wpOp_of rfl rfl ?_;have f5:_=Value.pointer (some ⟨g,0,none⟩):=hJ2.v hall 5 8;have hq:=fun(W2:World)=>hs.quiet (W2:=W2) 6 (by decide) hl (by decide);have hK:=HK 6 9 rfl (by omega);generalize JJ _=K at hK⊢;clear ho hall hl HK HW hJ2 hS;go_simp;exact hK _ _ z5 (fun _ _ h=>h) rfl (hq _ (fun a b=>⟨a,b⟩))
   | 7,ho=>
    cases ho;refine wpOp_of rfl rfl ?_;have f6:_=Value.pointer (some ⟨g,0,none⟩):=hJ2.v hall 6 9;have hq:=fun(W2:World)=>hs.quiet (W2:=W2) 7 (by decide) hl (by decide);have hK:=HK 7 10 rfl (by omega);generalize JJ _=K at hK⊢;clear ho hall hl HK HW hJ2 hS;go_simp;exact hK _ _ z5 (fun _ _ h=>h) rfl (hq _ (fun a b=>⟨a,b⟩))
   | 8,ho=>
    cases ho;refine wpOp_of rfl rfl ?_;have f7:_=Value.pointer (some ⟨g,2,none⟩):=hJ2.v hall 7 10;have hq:=fun(W2:World)=>hs.quiet (W2:=W2) 8 (by decide) hl (by decide);have hK:=HK 8 11 rfl (by omega);generalize JJ _=K at hK⊢;clear ho hall hl HK HW hJ2 hS;go_simp;exact hK _ _ z5 (fun _ _ h=>h) rfl (hq _ (fun a b=>⟨a,b⟩))
   | 9,ho=>
    cases ho;refine wpOp_of rfl rfl ?_;have f4:_=Value.int .i64 x:=hJ2.v hall 4 7;have f8:_=Value.int .i64 s:=hJ2.v hall 8 11;have hq:=fun(W2:World)=>hs.quiet (W2:=W2) 9 (by decide) hl (by decide);have hw:IntKind.i64.wrap (x+s)=x+s:=by rw[IntKind.wrap_i64];omega
    have hK:=HK 9 12 rfl (by omega);generalize JJ _=K at hK⊢;clear ho hall hl HK HW hJ2 hS;go_simp;exact hK _ _ z5 (fun _ _ h=>h) rfl (hq _ (fun a b=>⟨a,b⟩))
   | 10,ho=>
    cases ho;refine wpOp_of rfl rfl ?_;have hq:=fun(W2:World)=>hs.quiet (W2:=W2) 10 (by decide) hl (by decide);have hK:=HK 10 13 rfl (by omega);generalize JJ _=K at hK⊢;clear ho hall hl HK HW hJ2 hS;go_simp;exact hK _ _ z5 (fun _ _ h=>h) rfl (hq _ (fun a b=>⟨a,b⟩))
   | 11,ho=>
    cases ho;refine wpOp_of rfl rfl ?_;have f10:_=Value.pointer (some ⟨g,0,none⟩):=hJ2.v hall 10 13;have hq:=fun(W2:World)=>hs.quiet (W2:=W2) 11 (by decide) hl (by decide);have hK:=HK 11 14 rfl (by omega);generalize JJ _=K at hK⊢;clear ho hall hl HK HW hJ2 hS;go_simp;exact hK _ _ z5 (fun _ _ h=>h) rfl (hq _ (fun a b=>⟨a,b⟩))
   | 12,ho=>
    cases ho;refine wpOp_of rfl rfl ?_;have f11:_=Value.pointer (some ⟨g,0,none⟩):=hJ2.v hall 11 14;have hq:=fun(W2:World)=>hs.quiet (W2:=W2) 12 (by decide) hl (by decide);have hK:=HK 12 15 rfl (by omega);generalize JJ _=K at hK⊢;clear ho hall hl HK HW hJ2 hS;go_simp;exact hK _ _ z5 (fun _ _ h=>h) rfl (hq _ (fun a b=>⟨a,b⟩))
   | 13,ho=>
    cases ho;refine wpOp_of rfl rfl ?_;have f12:_=Value.pointer (some ⟨g,0,none⟩):=hJ2.v hall 12 15;have hq:=fun(W2:World)=>hs.quiet (W2:=W2) 13 (by decide) hl (by decide);have hK:=HK 13 16 rfl (by omega);generalize JJ _=K at hK⊢;clear ho hall hl HK HW hJ2 hS;go_simp;exact hK _ _ z5 (fun _ _ h=>h) rfl (hq _ (fun a b=>⟨a,b⟩))
   | 14,ho=>
    cases ho;refine wpOp_of rfl rfl ?_;have f13:_=Value.pointer (some ⟨g,1,none⟩):=hJ2.v hall 13 16;have hq:=fun(W2:World)=>hs.quiet (W2:=W2) 14 (by decide) hl (by decide);have hK:=HK 14 17 rfl (by omega);generalize JJ _=K at hK⊢;clear ho hall hl HK HW hJ2 hS;go_simp;exact hK _ _ z5 (fun _ _ h=>h) rfl (hq _ (fun a b=>⟨a,b⟩))
   | 15,ho=>
    cases ho;refine wpOp_of rfl rfl ?_;have hq:=fun(W2:World)=>hs.quiet (W2:=W2) 15 (by decide) hl (by decide);have hK:=HK 15 18 rfl (by omega);generalize JJ _=K at hK⊢;clear ho hall hl HK HW hJ2 hS;go_simp;exact hK _ _ z5 (fun _ _ h=>h) rfl (hq _ (fun a b=>⟨a,b⟩))
   | 16,ho=>
    cases ho;refine wpOp_of rfl rfl ?_;have f15:_=Value.pointer (some ⟨g,0,none⟩):=hJ2.v hall 15 18;have hq:=fun(W2:World)=>hs.quiet (W2:=W2) 16 (by decide) hl (by decide);have hK:=HK 16 19 rfl (by omega);generalize JJ _=K at hK⊢;clear ho hall hl HK HW hJ2 hS;go_simp;exact hK _ _ z5 (fun _ _ h=>h) rfl (hq _ (fun a b=>⟨a,b⟩))
   | 17,ho=>
    cases ho;refine wpOp_of rfl rfl ?_;have f16:_=Value.pointer (some ⟨g,0,none⟩):=hJ2.v hall 16 19;have hq:=fun(W2:World)=>hs.quiet (W2:=W2) 17 (by decide) hl (by decide);have hK:=HK 17 20 rfl (by omega);generalize JJ _=K at hK⊢;clear ho hall hl HK HW hJ2 hS;go_simp;exact hK _ _ z5 (fun _ _ h=>h) rfl (hq _ (fun a b=>⟨a,b⟩))
   | 18,ho=>
    cases ho;refine wpOp_of rfl rfl ?_;have f17:_=Value.pointer (some ⟨g,2,none⟩):=hJ2.v hall 17 20;have hq:=fun(W2:World)=>hs.quiet (W2:=W2) 18 (by decide) hl (by decide);have hK:=HK 18 21 rfl (by omega);generalize JJ _=K at hK⊢;clear ho hall hl HK HW hJ2 hS;go_simp;exact hK _ _ z5 (fun _ _ h=>h) rfl (hq _ (fun a b=>⟨a,b⟩))
   | 19,ho=>
    cases ho;refine wpOp_of rfl rfl ?_;have f14:_=Value.int .i64 y:=hJ2.v hall 14 17;have f18:_=Value.int .i64 s:=hJ2.v hall 18 21;have hq:=fun(W2:World)=>hs.quiet (W2:=W2) 19 (by decide) hl (by decide);have hw:IntKind.i64.wrap (y+s)=y+s:=by rw[IntKind.wrap_i64];omega
    have hK:=HK 19 22 rfl (by omega);generalize JJ _=K at hK⊢;clear ho hall hl HK HW hJ2 hS;go_simp;exact hK _ _ z5 (fun _ _ h=>h) rfl (hq _ (fun a b=>⟨a,b⟩))
   | 20,ho=>
    cases ho;refine wpOp_of rfl rfl ?_;have f9:_=Value.int .i64 (x+s):=hJ2.v hall 9 12;have f19:_=Value.int .i64 (y+s):=hJ2.v hall 19 22;have hq:=fun(W2:World)=>hs.quiet (W2:=W2) 20 (by decide) hl (by decide);rw[Array.getD_eq_getD_getElem?] at f9 f19;have hK:=HK 20 23 rfl (by omega);generalize JJ _=K at hK⊢;clear ho hall hl HK HW hJ2 hS;go_simp;exact hK _ _ z5 (fun _ _ h=>h) rfl (hq _ (fun a b=>⟨a,b⟩))
   | 21,ho=>
    cases ho;refine wpOp_of rfl rfl ?_;have f20:_=Value.agg #[.int .i64 (x+s),.int .i64 (y+s)]:=hJ2.v hall 20 23;have hq:=fun(W2:World) hD=>StV.stored (n:=22) (iz:=21) (A:=R) (os:=[.int .i64 0,.int .i64 0]) (G:=fun _=>True) (D:=(fun W=>Blk W R [.int .i64 (x+s),.int .i64 (y+s)])) (W2:=W2) hl (fun j hj hn=>match j,hj,hn with | 0,_,_=>hall ⟨0,.phase⟩ (by simp) rfl | 1,_,_=>hall ⟨1,.phase⟩ (by simp) rfl | 2,_,_=>hall ⟨2,.phase⟩ (by simp) rfl | 3,_,_=>hall ⟨3,.phase⟩ (by simp) rfl | 4,_,_=>hall ⟨4,.phase⟩ (by simp) rfl | 5,_,_=>hall ⟨5,.phase⟩ (by simp) rfl | 6,_,_=>hall ⟨6,.phase⟩ (by simp) rfl | 7,_,_=>hall ⟨7,.phase⟩ (by simp) rfl | 8,_,_=>hall ⟨8,.phase⟩ (by simp) rfl | 9,_,_=>hall ⟨9,.phase⟩ (by simp) rfl | 10,_,_=>hall ⟨10,.phase⟩ (by simp) rfl | 11,_,_=>hall ⟨11,.phase⟩ (by simp) rfl | 12,_,_=>hall ⟨12,.phase⟩ (by simp) rfl | 13,_,_=>hall ⟨13,.phase⟩ (by simp) rfl | 14,_,_=>hall ⟨14,.phase⟩ (by simp) rfl | 15,_,_=>hall ⟨15,.phase⟩ (by simp) rfl | 16,_,_=>hall ⟨16,.phase⟩ (by simp) rfl | 17,_,_=>hall ⟨17,.phase⟩ (by simp) rfl | 18,_,_=>hall ⟨18,.phase⟩ (by simp) rfl | 19,_,_=>hall ⟨19,.phase⟩ (by simp) rfl | 20,_,_=>hall ⟨20,.data⟩ (by simp) rfl | 21,_,hn=>absurd rfl hn | j+22,hj,_=>absurd hj (by omega)) hD;have xR:=(hs.2.1 (getD_tf hl)).1;have rl:=xR.lt;have y0:=xR.c 0 rfl;have y1:=xR.c 1 rfl;have g0z:=xR.f 0 rfl;have g1z:=xR.f 1 rfl;have hK:=HW 21 rfl;generalize JJ _=K at hK⊢;clear ho hall hl HK HW hJ2 hS;have NB:Blk ((W.setCell ⟨R,0,none⟩ (.int .i64 (x+s))).setCell ⟨R,1,none⟩ (.int .i64 (y+s))) R [.int .i64 (x+s),.int .i64 (y+s)]:=(xR.setI 0 (by decide) (.int .i64 (x+s))).setI 1 (by simp) (.int .i64 (y+s));have NL:Below R w0 ((W.setCell ⟨R,0,none⟩ (.int .i64 (x+s))).setCell ⟨R,1,none⟩ (.int .i64 (y+s))):=(z5.setCell (p:=⟨R,0,none⟩) (Nat.le_refl R) _).setCell (p:=⟨R,1,none⟩) (Nat.le_refl R) _;clear xR;go_simp;exact hK _ NL (fun _ _ h=>h.same) trivial (hq _ NB)
   | iq+22,ho=>simp at ho
 · intro lq aq W ⟨hJ,hs⟩ hr;obtain⟨z1,z2,z3,z4,z5,z6,z7⟩:=hJ;have hl:=listed_of hr [0,1,2,3,4,5,6,7,8,9,10,11,12,13,14,15,16,17,18,19,20,21] [] (by simp) (by kernel_rfl) (by rw[z1];decide);exact hQ aq W z2 z3 (fun e he=>z4 e (by simpa using he)) (z7 21 (hl 21 (by simp)) rfl) z5 (hs.2.2 (hl 21 (by simp)))
abbrev BkB (w:World) (g:Nat) (x y s lv:Int) (ids kids:Value):Prop:=Blk w g [.int .i64 x,.int .i64 y,.int .i64 s,.int .i64 lv,ids,kids]
structure Sq (x y s:Int):Prop where
 x1: -1048576≤x
 y1: -1048576≤y
 s1:0≤s
 x2:x+s≤1048576
 y2:y+s≤1048576
theorem high_any (g:Nat) (x y s lv:Int) (ids kids:Value) (hq:Sq x y s) (w:World) (B0:BkB w g x y s lv ids kids):Calls Tryz.prog 41 #[.pointer (some ⟨g,0,none⟩)] w (VP (Sp (x+s) (y+s)) w):=by
 have R0:Blk (w.alloc (.cells #[.int .i64 0,.int .i64 0] 29)) w.heap.size [.int .i64 0,.int .i64 0]:=Blk.new w [.int .i64 0,.int .i64 0] 29 rfl;have HB:Below w.heap.size w (w.alloc (.cells #[.int .i64 0,.int .i64 0] 29)):=(Below.refl _ w).alloc (Nat.le_refl _) _;have B1:Blk (w.alloc (.cells #[.int .i64 0,.int .i64 0] 29)) g _:=B0.alloc _;have hg:g<w.heap.size:=B0.lt;have q1:=hq.x1;have q2:=hq.y1;have q3:=hq.s1;have q4:=hq.x2;have q5:=hq.y2
 go_enter Tryz.func41,Tryz.ntmps41
 go_upto_region 1 with fail;generalize (w.alloc (.cells #[.int .i64 0,.int .i64 0] 29))=W1 at *;refine qdH (R:=w.heap.size) (g:=g) (x:=x) (y:=y) (s:=s) q1 (by omega) q2 (by omega) q3 (by omega) R0.drew rfl rfl (B1.c 0 rfl) hg (B1.c 1 rfl) hg (B1.c 2 rfl) hg rfl ?_;rintro⟨tm,df⟩ Wz hz hdf hoff _ hBz BR;simp only at hz hdf hoff;subst hdf;have htm:=tmps_fold [3,4,5,6,7,8,9,10,11,12,13,14,15,16,17,18,19,20,21,22,23] tm _ hz hoff;simp only[List.foldl,List.setIfInBounds_toArray,List.set_cons_zero,List.set_cons_succ] at htm;clear hz hoff;generalize tm.getD 3 undef=u0,tm.getD 4 undef=u1,tm.getD 5 undef=u2,tm.getD 6 undef=u3,tm.getD 7 undef=u4,tm.getD 8 undef=u5,tm.getD 9 undef=u6,tm.getD 10 undef=u7,tm.getD 11 undef=u8,tm.getD 12 undef=u9,tm.getD 13 undef=u10,tm.getD 14 undef=u11,tm.getD 15 undef=u12,tm.getD 16 undef=u13,tm.getD 17 undef=u14,tm.getD 18 undef=u15,tm.getD 19 undef=u16,tm.getD 20 undef=u17,tm.getD 21 undef=u18,tm.getD 22 undef=u19,tm.getD 23 undef=u20 at htm;subst htm;have HBF:=HB.trans hBz;have m0:=BR.c 0 rfl;have m1:=BR.c 1 rfl;clear R0 B1 HB hBz BR B0;go_wp2;refine bodyPost_ret (v:=Sp (x+s) (y+s)) (by simp[results,Tryz.results41,go_sem,m0,m1]) rfl ?_;exact⟨rfl,HBF⟩
def VqdM (g:Nat) (a b c d x y s:Int) (_B:Nat):Nat→Value→World→Prop
 | 0,v,_=>v=Sg a b c d
 | 1,v,_=>v= .pointer (some ⟨g,0,none⟩)
 | 2,v,_=>v= .pointer (some ⟨g,0,none⟩)
 | 3,v,_=>v= .pointer (some ⟨g,0,none⟩)
 | 4,v,_=>v=Sp x y
 | 5,v,_=>v= .pointer (some ⟨g,0,none⟩)
 | 6,v,_=>v=Sp (x+s) (y+s)
 | 7,v,_=>v= .bool (hitB a b c d x y (x+s) (y+s))
 | 8,v,_=>v= .bool (hitB a b c d x y (x+s) (y+s))
 | _,_,_=>True
theorem VqdM.mono {g:Nat} {a b c d x y s:Int} {B j:Nat} {v:Value} {W W2:World} (_hB:Below W.heap.size W W2) (h:VqdM g a b c d x y s B j v W):VqdM g a b c d x y s B j v W2:=by
 unfold VqdM at *
 split<;>simp only at h<;>first | exact h | trivial
theorem qdM {Q:Exit→Act→World→Prop} {g:Nat} {a b c d x y s:Int} {P:Nat} {lv:Int} {ids kids:Value} {w0:World} {a0:Act} {idq:Nat} {t0 t1 t2 t3 t4 t5 t6 t7 t8:TypeId} {q0 q1 q2 q3 q4 q5 q6 q7 q8:String}
 (hq:Sq x y s) (ia:In6 a) (ib:In6 b) (ic:In6 c) (id:In6 d) (hx:In6 x) (hy:In6 y) (hu:In6 (x+s)) (hv:In6 (y+s)) (hB0:BkB w0 g x y s lv ids kids) (h0:a0.tmps[0]? =some (.pointer (some ⟨g,0,none⟩))) (h3:a0.tmps[3]? =some (.pointer (some ⟨P,0,none⟩))) (k0:w0.cell? ⟨P,0,none⟩=some (.int .i64 a)) (l0:(⟨P,0,none⟩:Addr).block<w0.heap.size) (k1:w0.cell? ⟨P,1,none⟩=some (.int .i64 b)) (l1:(⟨P,1,none⟩:Addr).block<w0.heap.size) (k2:w0.cell? ⟨P,2,none⟩=some (.int .i64 c)) (l2:(⟨P,2,none⟩:Addr).block<w0.heap.size) (k3:w0.cell? ⟨P,3,none⟩=some (.int .i64 d)) (l3:(⟨P,3,none⟩:Addr).block<w0.heap.size) (k4:w0.cell? ⟨g,0,none⟩=some (.int .i64 x)) (l4:(⟨g,0,none⟩:Addr).block<w0.heap.size) (k5:w0.cell? ⟨g,1,none⟩=some (.int .i64 y)) (l5:(⟨g,1,none⟩:Addr).block<w0.heap.size) (hz:a0.tmps.size=13)
 (hQ:∀aq W,aq.tmps.size=a0.tmps.size→aq.defers=a0.defers→(∀e,e∉([5,6,7,8,9,10,11,12,4]:List Nat)→aq.tmps[e]? =a0.tmps[e]?)→VqdM g a b c d x y s w0.heap.size 8 (aq.tmps.getD 4 undef) W→Below w0.heap.size w0 W→Q .normal aq W) :
 (Code.region idq #[⟨some 5,.load 38 (.tmp 3),t0,q0,#[],none⟩,
 ⟨some 6,.move (.tmp 0),t1,q1,#[],none⟩,
 ⟨some 7,.nilCheck (.tmp 6),t2,q2,#[⟨1,.data⟩],none⟩,
 ⟨some 8,.fieldAddr 83 (.tmp 7) 0,t3,q3,#[⟨2,.data⟩],none⟩,
 ⟨some 9,.load 29 (.tmp 8),t4,q4,#[⟨3,.data⟩],none⟩,
 ⟨some 10,.move (.tmp 0),t5,q5,#[],none⟩,
 ⟨some 11,.call {callee:= .value (.func 41),args:=#[.tmp 10],argTypes:=#[55]},t6,q6,#[⟨5,.data⟩],none⟩,
 ⟨some 12,.call {callee:= .value (.func 25),args:=#[.tmp 5,.tmp 9,.tmp 11],argTypes:=#[38,29,29]},t7,q7,#[⟨0,.data⟩,⟨4,.data⟩,⟨6,.data⟩,⟨6,.chain⟩],none⟩,
 ⟨some 4,.assign (.tmp 12),t8,q8,#[⟨7,.data⟩,⟨7,.chain⟩,⟨0,.phase⟩,⟨1,.phase⟩,⟨2,.phase⟩,⟨3,.phase⟩,⟨4,.phase⟩,⟨5,.phase⟩,⟨6,.phase⟩,⟨7,.phase⟩],none⟩] true).wp Tryz.prog Q a0 w0:=by
 have hS:distS [some 5,some 6,some 7,some 8,some 9,some 10,some 11,some 12,some 4]=true:=rfl;refine wp_region_q (by kernel_rfl) w0.heap.size [some 5,some 6,some 7,some 8,some 9,some 10,some 11,some 12,some 4] (VqdM g a b c d x y s w0.heap.size) rfl ?_ ?_
 · intro Q lq aq W iq oq hJ2 hl ho hall;have z5:=hJ2.b;have g0:=hJ2.a h0
   have g3:=hJ2.a h3
   have c0:=hJ2.c k0 l0;have c1:=hJ2.c k1 l1;have c2:=hJ2.c k2 l2;have c3:=hJ2.c k3 l3;have c4:=hJ2.c k4 l4;have c5:=hJ2.c k5 l5
   clear hQ
   match iq,ho with
   | 0,ho=>
    cases ho;refine wpOp_of rfl rfl ?_;have hK:=hJ2.gO hS 0 5;generalize InvQ _ _ _ _ _ _=K at hK⊢;clear ho hall hl hJ2 hS;go_simp;exact hK _ rfl
   | 1,ho=>
    cases ho;refine wpOp_of rfl rfl ?_;have hK:=hJ2.gO hS 1 6;generalize InvQ _ _ _ _ _ _=K at hK⊢;clear ho hall hl hJ2 hS;go_simp;exact hK _ rfl
   | 2,ho=>
    cases ho;refine wpOp_of rfl rfl ?_;have f1:_=Value.pointer (some ⟨g,0,none⟩):=hJ2.v hall 1 6;have hK:=hJ2.gO hS 2 7;generalize InvQ _ _ _ _ _ _=K at hK⊢;clear ho hall hl hJ2 hS;go_simp;exact hK _ rfl
   | 3,ho=>
    cases ho;refine wpOp_of rfl rfl ?_;have f2:_=Value.pointer (some ⟨g,0,none⟩):=hJ2.v hall 2 7;have hK:=hJ2.gO hS 3 8;generalize InvQ _ _ _ _ _ _=K at hK⊢;clear ho hall hl hJ2 hS;go_simp;exact hK _ rfl
   | 4,ho=>
    cases ho;refine wpOp_of rfl rfl ?_;have f3:_=Value.pointer (some ⟨g,0,none⟩):=hJ2.v hall 3 8;have hK:=hJ2.gO hS 4 9;generalize InvQ _ _ _ _ _ _=K at hK⊢;clear ho hall hl hJ2 hS;go_simp;exact hK _ rfl
   | 5,ho=>
    cases ho;refine wpOp_of rfl rfl ?_;have hK:=hJ2.gO hS 5 10;generalize InvQ _ _ _ _ _ _=K at hK⊢;clear ho hall hl hJ2 hS;go_simp;exact hK _ rfl
   | 6,ho=>
    cases ho;refine wpOp_of rfl rfl ?_;have f5:_=Value.pointer (some ⟨g,0,none⟩):=hJ2.v hall 5 10;have hK:=hJ2.go hS 6 11;generalize InvQ _ _ _ _ _ _=K at hK⊢;clear ho hall hl hJ2 hS;go_simp;refine(high_any g x y s lv ids kids hq W (hB0.step z5)).mono ?_;rintro e v1 ⟨rfl,hBv⟩;exact hK _ _ (z5.trans (hBv.mono z5.size)) (fun j v h=>h.mono hBv) rfl
   | 7,ho=>
    cases ho;refine wpOp_of rfl rfl ?_;have f0:_=Sg a b c d:=hJ2.v hall 0 5;have f4:_=Sp x y:=hJ2.v hall 4 9;have f6:_=Sp (x+s) (y+s):=hJ2.v hall 6 11;have hK:=hJ2.go hS 7 12;generalize InvQ _ _ _ _ _ _=K at hK⊢;clear ho hall hl hJ2 hS;go_simp;refine(meetsBox_any a b c d x y (x+s) (y+s) ia ib ic id hx hy hu hv W).mono ?_;rintro e v1 ⟨rfl,hBv⟩;exact hK _ _ (z5.trans (hBv.mono z5.size)) (fun j v h=>h.mono hBv) rfl
   | 8,ho=>
    cases ho;refine wpOp_of rfl rfl ?_;have f7:_=Value.bool (hitB a b c d x y (x+s) (y+s)):=hJ2.v hall 7 12;have hK:=hJ2.gO hS 8 4;generalize InvQ _ _ _ _ _ _=K at hK⊢;clear ho hall hl hJ2 hS;go_simp;exact hK _ rfl
   | iq+9,ho=>simp at ho
 · intro lq aq W hJ hr;obtain⟨z1,z2,z3,z4,z5,z6,z7⟩:=hJ;have hl:=listed_of hr [0,1,2,3,4,5,6,7,8] [] (by simp) (by kernel_rfl) (by rw[z1];decide);exact hQ aq W z2 z3 (fun e he=>z4 e (by simpa using he)) (z6 8 4 (hl 8 (by simp)) rfl) z5
theorem Sq.in6 {x y s:Int} (h:Sq x y s):In6 x∧In6 y∧In6 (x+s)∧In6 (y+s):=by
 have q1:=h.x1;have q2:=h.y1;have q3:=h.s1;have q4:=h.x2;have q5:=h.y2;unfold In6
 omega
theorem meets_any (g:Nat) (x y s lv:Int) (ids kids:Value) (a b c d:Int) (hq:Sq x y s) (ia:In6 a) (ib:In6 b) (ic:In6 c) (id:In6 d) (w:World) (B0:BkB w g x y s lv ids kids):Calls Tryz.prog 89 #[.pointer (some ⟨g,0,none⟩),Sg a b c d] w (VP (.bool (hitB a b c d x y (x+s) (y+s))) w):=by
 have R0:Blk (w.alloc (.cells #[.int .i64 a,.int .i64 b,.int .i64 c,.int .i64 d] 38)) w.heap.size [.int .i64 a,.int .i64 b,.int .i64 c,.int .i64 d]:=Blk.new w [.int .i64 a,.int .i64 b,.int .i64 c,.int .i64 d] 38 rfl;have HB:Below w.heap.size w (w.alloc (.cells #[.int .i64 a,.int .i64 b,.int .i64 c,.int .i64 d] 38)):=(Below.refl _ w).alloc (Nat.le_refl _) _;have B1:BkB (w.alloc (.cells #[.int .i64 a,.int .i64 b,.int .i64 c,.int .i64 d] 38)) g x y s lv ids kids:=B0.alloc _;have hg:=B1.lt;have hr:=R0.lt;obtain⟨q1,q2,q3,q4⟩:=hq.in6
 go_enter Tryz.func89,Tryz.ntmps89
 go_upto_region 1 with fail;generalize (w.alloc (.cells #[.int .i64 a,.int .i64 b,.int .i64 c,.int .i64 d] 38))=W1 at *;refine qdM (P:=w.heap.size) (g:=g) (a:=a) (b:=b) (c:=c) (d:=d) (x:=x) (y:=y) (s:=s) hq ia ib ic id q1 q2 q3 q4 B1 rfl rfl (R0.c 0 rfl) hr (R0.c 1 rfl) hr (R0.c 2 rfl) hr (R0.c 3 rfl) hr (B1.c 0 rfl) hg (B1.c 1 rfl) hg rfl ?_;rintro⟨tm,df⟩ Wz hz hdf hoff h4 hBz;simp only at hz hdf hoff h4;change tm.getD 4 undef= .bool (hitB a b c d x y (x+s) (y+s)) at h4;subst hdf;have htm:=tmps_fold [5,6,7,8,9,10,11,12,4] tm _ hz hoff;simp only[List.foldl,List.setIfInBounds_toArray,List.set_cons_zero,List.set_cons_succ,h4] at htm;clear hz hoff;generalize tm.getD 5 undef=u0,tm.getD 6 undef=u1,tm.getD 7 undef=u2,tm.getD 8 undef=u3,tm.getD 9 undef=u4,tm.getD 10 undef=u5,tm.getD 11 undef=u6,tm.getD 12 undef=u7 at htm;clear h4;subst htm;have HBF:=HB.trans (hBz.mono HB.size);clear R0 B1 HB hBz B0;go_wp2;go_ret;exact⟨rfl,HBF⟩
def ItIn (Q:QD) (w:World) (ao:Option Addr) (l:List Nat):Prop:=
 ∀j i,l[j]? =some i→∃A off,ao=some ⟨A,off,none⟩∧A<w.heap.size∧w.cell? ⟨A,off+j*5,none⟩=some (.int .i64 (Q.I i))∧w.cell? ⟨A,off+j*5+1,none⟩=some (.int .i64 (Q.S i).1)∧w.cell? ⟨A,off+j*5+2,none⟩=some (.int .i64 (Q.S i).2.1)∧w.cell? ⟨A,off+j*5+3,none⟩=some (.int .i64 (Q.S i).2.2.1)∧w.cell? ⟨A,off+j*5+4,none⟩=some (.int .i64 (Q.S i).2.2.2)
theorem ItIn.step {Q:QD} {w w' :World} {ao:Option Addr} {l:List Nat} (h:ItIn Q w ao l) (hB:Below w.heap.size w w'):ItIn Q w' ao l:=fun j i hj=>by
 obtain⟨A,off,e,hA,c0,c1,c2,c3,c4⟩:=h j i hj;exact⟨A,off,e,Nat.lt_of_lt_of_le hA hB.size,(hB.cell (p:=⟨A,_,none⟩) hA).trans c0,(hB.cell (p:=⟨A,_,none⟩) hA).trans c1,(hB.cell (p:=⟨A,_,none⟩) hA).trans c2,(hB.cell (p:=⟨A,_,none⟩) hA).trans c3,(hB.cell (p:=⟨A,_,none⟩) hA).trans c4⟩
def it5 (Q:QD) (i:Nat):List Value:=[.int .i64 (Q.I i),.int .i64 (Q.S i).1,.int .i64 (Q.S i).2.1,.int .i64 (Q.S i).2.2.1,.int .i64 (Q.S i).2.2.2]
def itCs (Q:QD) (l:List Nat):List Value:=l.flatMap (it5 Q)
theorem itCs_app (Q:QD) (l:List Nat) (i:Nat):itCs Q (l ++[i])=itCs Q l ++it5 Q i:=by simp[itCs]
theorem it5_one (Q:QD) (i:Nat):∀u∈it5 Q i,u.oneCell' =true:=by
 intro u hu;simp only[it5,List.mem_cons,List.not_mem_nil,or_false] at hu
 rcases hu with rfl | rfl | rfl | rfl | rfl<;>rfl
theorem it5_new (Q:QD) (w:World) (i:Nat) (t:TypeId):∀j v,(it5 Q i)[j]? =some v→(w.alloc (.cells (it5 Q i).toArray t)).cell? ((⟨w.heap.size,0,none⟩:Addr).add j)=some v:=by
 intro j v hj;rw[Addr.add_lit,Nat.zero_add];exact(Blk.new w (it5 Q i) t rfl).c j hj
theorem Tryz.infoItem:(Tryz.prog.info? 40).map (fun i=>(i.zero,i.size,i.bytes))=some (some (.agg #[.int .i64 0,.int .i64 0,.int .i64 0,.int .i64 0,.int .i64 0]),5,40):=by kernel_rfl
theorem info_item:∃i0,Tryz.prog.info? 40=some i0∧i0.zero=some (.agg #[.int .i64 0,.int .i64 0,.int .i64 0,.int .i64 0,.int .i64 0])∧i0.size=5∧i0.bytes=40:=by
 obtain⟨i,hi,hz⟩:=Option.map_eq_some_iff.1 Tryz.infoItem;simp only[Prod.mk.injEq] at hz;exact⟨i,hi,hz.1,hz.2.1,hz.2.2⟩
theorem fl_more (Q:QD) (l:List Nat) (x y s:Int) {c i:Nat} (h:l[c]? =some i):flQ Q (l.take (c+1)) x y s=flQ Q (l.take c) x y s ++(if hitQ Q x y s i=true then[i] else[]):=by
 unfold flQ;rw[List.take_add_one,h,List.filter_append]
 congr 1
 simp only[Option.toList_some,List.filter_cons,List.filter_nil]
def Its6 (Q:QD) (l:List Nat):Prop:=∀i∈l,In6 (Q.S i).1∧In6 (Q.S i).2.1∧In6 (Q.S i).2.2.1∧In6 (Q.S i).2.2.2
theorem meeting_any (Q:QD) (g:Nat) (x y s lv:Int) (ids kids:Value) (ao:Option Addr) (cap:Nat) (l:List Nat) (hq:Sq x y s) (h6:Its6 Q l) (hl:l.length≤1048576) (w:World) (B0:BkB w g x y s lv ids kids) (hS:ItIn Q w ao l):Calls Tryz.prog 68 #[.pointer (some ⟨g,0,none⟩),.slice ao l.length cap] w (fun r w' =>∃v,r= .returned v∧w'.ownsRow w.heap.size 40 5 v (flQ Q l x y s).length (itCs Q (flQ Q l x y s))∧Below w.heap.size w w'):=by
 obtain⟨i0,hi,hz0,hz1,hz2⟩:=info_item;have HS:Hid (ItIn Q w ao l):=hS;have H6:Hid (Its6 Q l):=h6;clear hS h6;obtain⟨n,hn⟩:∃n,l.length=n:=⟨_,rfl⟩;rw[hn] at hl⊢;have hnI:(n:Int)≤1048576:=by omega
 go_enter Tryz.func68,Tryz.ntmps68
 go_wp2_with fail
 go_loopw [5,10] (fun o i wr=>∃c:Nat,c≤n∧i= .int .i64 c∧wr.ownsRow w.heap.size 40 5 o (flQ Q (l.take c) x y s).length (itCs Q (flQ Q (l.take c) x y s))∧Below w.heap.size w wr) (fun _ i _=>n-(intOf i).toNat)
 case atStart=>exact⟨0,by omega,rfl,World.ownsRow_nil _ _ _ _,Below.refl _ _⟩
 case round=>
  obtain⟨c,hc,rfl,HO,HB⟩:=hrel
  by_cases hcn:c<n
  · obtain⟨i,hi2⟩:∃i,l[c]? =some i:=⟨_,List.getElem?_eq_getElem (by omega)⟩;obtain⟨A,off,rfl,hA,q0,q1,q2,q3,q4⟩:=HS.out.step HB c i hi2;obtain⟨ia,ib,ic,id⟩:=H6.out i (List.mem_of_getElem? hi2);have hcI:(c:Int)<n:=by omega
    have hB1:=(Below.refl wr.heap.size wr).alloc (Nat.le_refl _) (.cells #[.int .i64 (Q.I i),.int .i64 (Q.S i).1,.int .i64 (Q.S i).2.1,.int .i64 (Q.S i).2.2.1,.int .i64 (Q.S i).2.2.2] 40);have B1:Blk (wr.alloc (.cells #[.int .i64 (Q.I i),.int .i64 (Q.S i).1,.int .i64 (Q.S i).2.1,.int .i64 (Q.S i).2.2.1,.int .i64 (Q.S i).2.2.2] 40)) wr.heap.size [.int .i64 (Q.I i),.int .i64 (Q.S i).1,.int .i64 (Q.S i).2.1,.int .i64 (Q.S i).2.2.1,.int .i64 (Q.S i).2.2.2]:=Blk.new wr [.int .i64 (Q.I i),.int .i64 (Q.S i).1,.int .i64 (Q.S i).2.1,.int .i64 (Q.S i).2.2.1,.int .i64 (Q.S i).2.2.2] 40 rfl;have BG:BkB (wr.alloc (.cells #[.int .i64 (Q.I i),.int .i64 (Q.S i).1,.int .i64 (Q.S i).2.1,.int .i64 (Q.S i).2.2.1,.int .i64 (Q.S i).2.2.2] 40)) g x y s lv ids kids:=(B0.step HB).alloc _;have MT:∀w,BkB w g x y s lv ids kids→Calls Tryz.prog 89 #[.pointer (some ⟨g,0,none⟩),Sg (Q.S i).1 (Q.S i).2.1 (Q.S i).2.2.1 (Q.S i).2.2.2] w (VP (.bool (hitQ Q x y s i)) w):=fun w h=>meets_any g x y s lv ids kids (Q.S i).1 (Q.S i).2.1 (Q.S i).2.2.1 (Q.S i).2.2.2 hq ia ib ic id w h;have HFM:=fl_more Q l x y s hi2;obtain⟨bh,hbh⟩:∃b,hitQ Q x y s i=b:=⟨_,rfl⟩;rw[hbh] at MT HFM;have hfl:(flQ Q (l.take c) x y s).length≤n:=Nat.le_trans (List.length_filter_le _ _) (by rw[List.length_take];omega);go_upto_region 5 with fail;replace HO:=ownA_step HO hB1;replace HB:=HB.trans (hB1.mono HB.size);clear hB1 q0 q1 q2 q3 q4;generalize (wr.alloc (.cells #[.int .i64 (Q.I i),.int .i64 (Q.S i).1,.int .i64 (Q.S i).2.1,.int .i64 (Q.S i).2.2.1,.int .i64 (Q.S i).2.2.2] 40))=W5 at *;have m0:=B1.c 0 rfl;have m1:=B1.c 1 rfl;have m2:=B1.c 2 rfl;have m3:=B1.c 3 rfl;have m4:=B1.c 4 rfl;go_wp2_with fail;refine(MT _ BG).mono ?_;rintro r w1 ⟨rfl,hB2⟩;replace HO:=ownA_step HO hB2;replace HB:=HB.trans (hB2.mono HB.size);replace B1:=B1.step hB2;clear hB2 BG MT m0 m1 m2 m3 m4;cases bh with
    | false=>
     rw[if_neg (by decide),List.append_nil] at HFM;rw[←HFM] at HO;clear B1;go_wp2;go_roundw
     case rel=>exact⟨c+1,by omega,by go_num,HO,HB⟩
     case measure=>simp[intOf];omega
    | true=>
     rw[if_pos rfl] at HFM;have m0:=B1.c 0 rfl;have m1:=B1.c 1 rfl;have m2:=B1.c 2 rfl;have m3:=B1.c 3 rfl;have m4:=B1.c 4 rfl
     go_wp2_with (at_builtin;refine wpList_append_own _ rfl _ _ 24 rfl w.heap.size 40 i0 (.agg #[.int .i64 0,.int .i64 0,.int .i64 0,.int .i64 0,.int .i64 0]) 5 40 Tryz.underlying24 hi hz0 hz1 hz2 rfl (by decide) _ _ _ rfl (ownA_step HO ((Below.refl _ _).alloc (Nat.le_refl _) _)) ⟨w1.heap.size,0,none⟩ 1 1 (it5 Q i) rfl rfl (it5_new _ _ _ _) (it5_one _ _) (by unfold maxLen;omega) (by omega) (by have:=HB.size;simp;omega) ?_)
     intro v1 w2 hown1 hgrow1 _;have HBN:Below w.heap.size w w2:=(HB.alloc HB.size _).grown hgrow1 (by have:=HB.size;simp;omega) (fun k hk=>(HO.lt k hk).1);have HN:w2.ownsRow w.heap.size 40 5 v1 (flQ Q (l.take (c+1)) x y s).length (itCs Q (flQ Q (l.take (c+1)) x y s)):=by
      rw[HFM,itCs_app,List.length_append];exact hown1
     clear HO HB hown1 hgrow1 m0 m1 m2 m3 m4 B1;go_wp2;go_roundw
     case rel=>exact⟨c+1,by omega,by go_num,HN,HBN⟩
     case measure=>simp[intOf];omega
  · obtain rfl:c=n:=by omega
    rw[List.take_of_length_le (by omega)] at HO;go_wp2;go_ret;exact⟨_,rfl,HO,HB⟩
def VqdE (A oa n ca B2 ob m cb c:Nat) (x y:Int) (_B:Nat):Nat→Value→World→Prop
 | 0,v,_=>v= .slice (some ⟨A,oa,none⟩) n ca
 | 1,v,_=>v= .int .i64 (c:Int)
 | 2,v,_=>v= .pointer (some ⟨A,oa+c,none⟩)
 | 3,v,_=>v= .int .i64 x
 | 4,v,_=>v= .slice (some ⟨B2,ob,none⟩) m cb
 | 5,v,_=>v= .int .i64 (c:Int)
 | 6,v,_=>v= .pointer (some ⟨B2,ob+c,none⟩)
 | 7,v,_=>v= .int .i64 y
 | 8,v,_=>v= .bool (decide (¬(x=y)))
 | _,_,_=>True
theorem qdE {Q:Exit→Act→World→Prop} {A oa n ca B2 ob m cb c:Nat} {x y:Int} {w0:World} {a0:Act} {idq:Nat} {t0 t1 t2 t3 t4 t5 t6 t7 t8:TypeId} {q0 q1 q2 q3 q4 q5 q6 q7 q8:String}
 (hcn:c<n) (hcm:c<m) (hn:n≤1048576) (h0:a0.tmps[0]? =some (.slice (some ⟨A,oa,none⟩) n ca)) (h1:a0.tmps[1]? =some (.slice (some ⟨B2,ob,none⟩) m cb)) (h5:a0.tmps[5]? =some (.int .i64 (c:Int))) (k0:w0.cell? ⟨A,oa+c,none⟩=some (.int .i64 x)) (l0:(⟨A,oa+c,none⟩:Addr).block<w0.heap.size) (k1:w0.cell? ⟨B2,ob+c,none⟩=some (.int .i64 y)) (l1:(⟨B2,ob+c,none⟩:Addr).block<w0.heap.size) (hz:a0.tmps.size=26)
 (hQ:∀aq W,aq.tmps.size=a0.tmps.size→aq.defers=a0.defers→(∀e,e∉([16,17,18,19,20,21,22,23,24]:List Nat)→aq.tmps[e]? =a0.tmps[e]?)→VqdE A oa n ca B2 ob m cb c x y w0.heap.size 8 (aq.tmps.getD 24 undef) W→Below w0.heap.size w0 W→Q .normal aq W) :
 (Code.region idq #[⟨some 16,.move (.tmp 0),t0,q0,#[],none⟩,
 ⟨some 17,.move (.tmp 5),t1,q1,#[],none⟩,
 ⟨some 18,.indexAddr 32 (.tmp 16) (.tmp 17),t2,q2,#[⟨0,.data⟩,⟨1,.data⟩],none⟩,
 ⟨some 19,.load 2 (.tmp 18),t3,q3,#[⟨2,.data⟩],none⟩,
 ⟨some 20,.move (.tmp 1),t4,q4,#[],none⟩,
 ⟨some 21,.move (.tmp 5),t5,q5,#[],none⟩,
 ⟨some 22,.indexAddr 32 (.tmp 20) (.tmp 21),t6,q6,#[⟨4,.data⟩,⟨5,.data⟩],none⟩,
 ⟨some 23,.load 2 (.tmp 22),t7,q7,#[⟨6,.data⟩],none⟩,
 ⟨some 24,.binOp .neq 2 (.tmp 19) (.tmp 23) 2,t8,q8,#[⟨3,.data⟩,⟨7,.data⟩],none⟩] true).wp Tryz.prog Q a0 w0:=by
 have hS:distS [some 16,some 17,some 18,some 19,some 20,some 21,some 22,some 23,some 24]=true:=rfl;refine wp_region_q (by kernel_rfl) w0.heap.size [some 16,some 17,some 18,some 19,some 20,some 21,some 22,some 23,some 24] (VqdE A oa n ca B2 ob m cb c x y w0.heap.size) rfl ?_ ?_
 · intro Q lq aq W iq oq hJ2 hl ho hall;have z5:=hJ2.b;have g0:=hJ2.a h0
   have g1:=hJ2.a h1
   have g5:=hJ2.a h5
   have c0:=hJ2.c k0 l0;have c1:=hJ2.c k1 l1
   clear hQ
   match iq,ho with
   | 0,ho=>
    cases ho;refine wpOp_of rfl rfl ?_;have hK:=hJ2.gO hS 0 16;generalize InvQ _ _ _ _ _ _=K at hK⊢;clear ho hall hl hJ2 hS;go_simp;exact hK _ rfl
   | 1,ho=>
    cases ho;refine wpOp_of rfl rfl ?_;have hK:=hJ2.gO hS 1 17;generalize InvQ _ _ _ _ _ _=K at hK⊢;clear ho hall hl hJ2 hS;go_simp;exact hK _ rfl
   | 2,ho=>
    cases ho;refine wpOp_of rfl rfl ?_;have f0:_=Value.slice (some ⟨A,oa,none⟩) n ca:=hJ2.v hall 0 16;have f1:_=Value.int .i64 (c:Int):=hJ2.v hall 1 17;have hcI:(c:Int)<n:=by omega
    have hcM:(c:Int)<m:=by omega
    have hnI:(n:Int)≤1048576:=by omega
    have hK:=hJ2.gO hS 2 18;generalize InvQ _ _ _ _ _ _=K at hK⊢;clear ho hall hl hJ2 hS;go_simp;exact hK _ rfl
   | 3,ho=>
    cases ho;refine wpOp_of rfl rfl ?_;have f2:_=Value.pointer (some ⟨A,oa+c,none⟩):=hJ2.v hall 2 18;have hK:=hJ2.gO hS 3 19;generalize InvQ _ _ _ _ _ _=K at hK⊢;clear ho hall hl hJ2 hS;go_simp;exact hK _ rfl
   | 4,ho=>
    cases ho;refine wpOp_of rfl rfl ?_;have hK:=hJ2.gO hS 4 20;generalize InvQ _ _ _ _ _ _=K at hK⊢;clear ho hall hl hJ2 hS;go_simp;exact hK _ rfl
   | 5,ho=>
    cases ho;refine wpOp_of rfl rfl ?_;have hK:=hJ2.gO hS 5 21;generalize InvQ _ _ _ _ _ _=K at hK⊢;clear ho hall hl hJ2 hS;go_simp;exact hK _ rfl
   | 6,ho=>
    cases ho;refine wpOp_of rfl rfl ?_;have f4:_=Value.slice (some ⟨B2,ob,none⟩) m cb:=hJ2.v hall 4 20;have f5:_=Value.int .i64 (c:Int):=hJ2.v hall 5 21;have hcI:(c:Int)<n:=by omega
    have hcM:(c:Int)<m:=by omega
    have hnI:(n:Int)≤1048576:=by omega
    have hK:=hJ2.gO hS 6 22;generalize InvQ _ _ _ _ _ _=K at hK⊢;clear ho hall hl hJ2 hS;go_simp;exact hK _ rfl
   | 7,ho=>
    cases ho;refine wpOp_of rfl rfl ?_;have f6:_=Value.pointer (some ⟨B2,ob+c,none⟩):=hJ2.v hall 6 22;have hK:=hJ2.gO hS 7 23;generalize InvQ _ _ _ _ _ _=K at hK⊢;clear ho hall hl hJ2 hS;go_simp;exact hK _ rfl
   | 8,ho=>
    cases ho;refine wpOp_of rfl rfl ?_;have f3:_=Value.int .i64 x:=hJ2.v hall 3 19;have f7:_=Value.int .i64 y:=hJ2.v hall 7 23;have hK:=hJ2.go hS 8 24;generalize InvQ _ _ _ _ _ _=K at hK⊢;clear ho hall hl hJ2 hS;go_simp;exact hK _ _ z5 (fun _ _ h=>h) (by show Value.bool _=Value.bool _;congr 1;rw[Bool.eq_iff_iff];simp)
   | iq+9,ho=>simp at ho
 · intro lq aq W hJ hr;obtain⟨z1,z2,z3,z4,z5,z6,z7⟩:=hJ;have hl:=listed_of hr [0,1,2,3,4,5,6,7,8] [] (by simp) (by kernel_rfl) (by rw[z1];decide);exact hQ aq W z2 z3 (fun e he=>z4 e (by simpa using he)) (z6 8 24 (hl 8 (by simp)) rfl) z5
theorem equalNo_any (ao bo:Option Addr) (n ca m cb:Nat) (e f:Nat→Int) (hn:n≤1048576) (w:World) (hA:NoIn w ao n e) (hC:NoIn w bo m f):Calls Tryz.prog 66 #[.slice ao n ca,.slice bo m cb] w (VP (.bool (decide (n=m∧∀i,i<n→e i=f i))) w):=by
 obtain⟨R,hR⟩:∃R,decide (n=m∧∀i,i<n→e i=f i)=R:=⟨_,rfl⟩;rw[hR];have HR:Hid (decide (n=m∧∀i,i<n→e i=f i)=R):=hR;clear hR
 by_cases hnm:n=m
 · subst hnm;have HA:Hid (NoIn w ao n e):=hA;have HC:Hid (NoIn w bo n f):=hC;clear hA hC;have hnI:(n:Int)≤1048576:=by omega
   go_enter Tryz.func66,Tryz.ntmps66
   go_wp2_with fail
   go_loopw [13] (fun i wr=>∃c:Nat,c≤n∧i= .int .i64 c∧(∀j,j<c→e j=f j)∧Below w.heap.size w wr) (fun i _=>n-(intOf i).toNat)
   case atStart=>exact⟨0,by omega,rfl,fun j hj=>absurd hj (by omega),Below.refl _ _⟩
   case round=>
    obtain⟨c,hc,rfl,hall,HB⟩:=hrel;have HP:Hid (∀j,j<c→e j=f j):=hall;clear hall
    by_cases hcn:c<n
    · have hcI:(c:Int)<n:=by omega
      obtain⟨A,oa,rfl,hA,q0⟩:=HA.out.step HB c hcn;obtain⟨A2,ob,rfl,hA2,q1⟩:=HC.out.step HB c hcn;go_upto_region 6 with fail;refine qdE (A:=A) (oa:=oa) (n:=n) (ca:=ca) (B2:=A2) (ob:=ob) (m:=n) (cb:=cb) (c:=c) (x:=e c) (y:=f c) hcn hcn hn rfl rfl rfl q0 hA q1 hA2 rfl ?_;rintro⟨tm,df⟩ Wz hz hdf hoff hx hBz;simp only at hz hdf hoff hx;change tm.getD 24 undef= .bool (decide (¬(e c=f c))) at hx;subst hdf;have htm:=tmps_fold [16,17,18,19,20,21,22,23,24] tm _ hz hoff;simp only[List.foldl,List.setIfInBounds_toArray,List.set_cons_zero,List.set_cons_succ,hx] at htm;clear hz hoff;generalize tm.getD 16 undef=u0,tm.getD 17 undef=u1,tm.getD 18 undef=u2,tm.getD 19 undef=u3,tm.getD 20 undef=u4,tm.getD 21 undef=u5,tm.getD 22 undef=u6,tm.getD 23 undef=u7 at htm;clear hx;subst htm;replace HB:=HB.trans (hBz.mono HB.size);clear hBz q0 q1
      by_cases hef:e c=f c
      · have HQ:Hid (e c=f c):=hef;rw[decide_eq_false (fun h=>h hef)];clear hef;go_wp2;go_roundw
        case rel=>exact⟨c+1,by omega,by go_num,fun j hj=>by
         rcases Nat.lt_or_ge j c with h | h
         · exact HP.out j h
         · obtain rfl:j=c:=by omega
           exact HQ.out,HB⟩
        case measure=>simp[intOf];omega
      · have HO:Hid (R=false):=HR.out.symm.trans (decide_eq_false (fun h=>hef (h.2 c hcn)));rw[decide_eq_true hef];clear hef HP HA HC HR;go_wp2;go_ret;exact⟨by rw[HO.out];rfl,HB⟩
    · obtain rfl:c=n:=by omega
      have HO:Hid (R=true):=HR.out.symm.trans (decide_eq_true ⟨trivial,HP.out⟩);clear HP HA HC HR;go_wp2;go_ret;exact⟨by rw[HO.out];rfl,HB⟩
 · have HO:Hid (R=false):=HR.out.symm.trans (decide_eq_false (fun h=>hnm h.1));have hnm2:¬((n:Int)=(m:Int)):=by omega
   clear hA hC hnm HR
   go_enter Tryz.func66,Tryz.ntmps66
   go_wp2;go_ret;exact⟨by rw[HO.out];rfl,Below.refl _ _⟩
theorem itCs_at (Q:QD):∀(l:List Nat) (j i k:Nat),l[j]? =some i→k<5→(itCs Q l)[j*5+k]? =(it5 Q i)[k]?
 | [],j,i,k,h,_=>by simp at h
 | a::l,0,i,k,h,hk=>by
  simp at h
  subst h;show((it5 Q a) ++itCs Q l)[0*5+k]? =_;rw[Nat.zero_mul,Nat.zero_add,List.getElem?_append_left (by show k<5;exact hk)]
 | a::l,j+1,i,k,h,hk=>by
  have h' :l[j]? =some i:=by simpa using h
  show((it5 Q a) ++itCs Q l)[(j+1)*5+k]? =_;rw[List.getElem?_append_right (by show 5≤_;omega),show(j+1)*5+k-(it5 Q a).length=j*5+k by show(j+1)*5+k-5=_;omega];exact itCs_at Q l j i k h' hk
theorem ItIn.of {Q:QD} {w:World} {base:Nat} {v:Value} {l:List Nat} (h:w.ownsRow base 40 5 v l.length (itCs Q l)):∃ao cap,v= .slice ao l.length cap∧ItIn Q w ao l:=by
 rcases h.2 with ⟨h1,h2⟩ | ⟨g,cap,cur,h1,h2,h3,h4⟩
 · refine⟨none,0,by rw[h1,h2],fun j i hj=>?_⟩;rw[List.length_eq_zero_iff.1 h2] at hj
   simp at hj
 · refine⟨some ⟨g,0,none⟩,cap,h1,fun j i hj=>?_⟩;have cl:∀k v,k<5→(it5 Q i)[k]? =some v→w.cell? ⟨g,0+j*5+k,none⟩=some v:=fun k v hk hv=>by
    have h5:=h.cells (g:=g) (by rw[h1];rfl) (j*5+k) v (by rw[itCs_at Q l j i k hj hk];exact hv);rwa [Addr.add_lit,←Nat.add_assoc] at h5
   exact⟨g,0,rfl,(Array.getElem?_eq_some_iff.1 h3).1,cl 0 _ (by decide) rfl,cl 1 _ (by decide) rfl,cl 2 _ (by decide) rfl,cl 3 _ (by decide) rfl,cl 4 _ (by decide) rfl⟩
def idV (Q:QD) (l:List Nat):List Value:=l.map fun i=>Value.int .i64 (Q.I i)
theorem one_cellQ (x:Int):∀u∈[Value.int .i64 x],u.oneCell' =true:=by
 intro u hu;simp only[List.mem_singleton] at hu;subst hu
 rfl
theorem one_newQ (w:World) (x:Int) (t:TypeId):∀j v,[Value.int .i64 x][j]? =some v→(w.alloc (.cells #[.int .i64 x] t)).cell? ((⟨w.heap.size,0,none⟩:Addr).add j)=some v:=by
 intro j v hj;rw[Addr.add_lit,Nat.zero_add];exact(Blk.new w [.int .i64 x] t rfl).c j hj
theorem info_noQ:∃i0,Tryz.prog.info? 2=some i0∧i0.zero=some (.int .i64 0)∧i0.size=1∧i0.bytes=8:=by
 obtain⟨i,hi,hz⟩:=Option.map_eq_some_iff.1 Tryz.infoNo;simp only[Prod.mk.injEq] at hz;exact⟨i,hi,hz.1,hz.2.1,hz.2.2⟩
theorem idsOf_any (Q:QD) (ao:Option Addr) (cap:Nat) (l:List Nat) (hl:l.length≤1048576) (w:World) (hS:ItIn Q w ao l):Calls Tryz.prog 94 #[.slice ao l.length cap] w (fun r w' =>∃v,r= .returned v∧w'.ownsRow w.heap.size 2 1 v l.length (idV Q l)∧Below w.heap.size w w'):=by
 obtain⟨i0,hi,hz0,hz1,hz2⟩:=info_noQ;have HS:Hid (ItIn Q w ao l):=hS;clear hS;obtain⟨n,hn⟩:∃n,l.length=n:=⟨_,rfl⟩;rw[hn] at hl⊢;have hnI:(n:Int)≤1048576:=by omega
 go_enter Tryz.func94,Tryz.ntmps94
 go_wp2_with fail
 go_loopw [3,8] (fun o i wr=>∃c:Nat,c≤n∧i= .int .i64 c∧wr.ownsRow w.heap.size 2 1 o c (idV Q (l.take c))∧Below w.heap.size w wr) (fun _ i _=>n-(intOf i).toNat)
 case atStart=>exact⟨0,by omega,rfl,World.ownsRow_nil _ _ _ _,Below.refl _ _⟩
 case round=>
  obtain⟨c,hc,rfl,HO,HB⟩:=hrel
  by_cases hcn:c<n
  · obtain⟨i,hi2⟩:∃i,l[c]? =some i:=⟨_,List.getElem?_eq_getElem (by omega)⟩;obtain⟨A,off,rfl,hA,q0,q1,q2,q3,q4⟩:=HS.out.step HB c i hi2;have hcI:(c:Int)<n:=by omega
    have hB1:=(Below.refl wr.heap.size wr).alloc (Nat.le_refl _) (.cells #[.int .i64 (Q.I i),.int .i64 (Q.S i).1,.int .i64 (Q.S i).2.1,.int .i64 (Q.S i).2.2.1,.int .i64 (Q.S i).2.2.2] 40);have B1:Blk (wr.alloc (.cells #[.int .i64 (Q.I i),.int .i64 (Q.S i).1,.int .i64 (Q.S i).2.1,.int .i64 (Q.S i).2.2.1,.int .i64 (Q.S i).2.2.2] 40)) wr.heap.size [.int .i64 (Q.I i),.int .i64 (Q.S i).1,.int .i64 (Q.S i).2.1,.int .i64 (Q.S i).2.2.1,.int .i64 (Q.S i).2.2.2]:=Blk.new wr [.int .i64 (Q.I i),.int .i64 (Q.S i).1,.int .i64 (Q.S i).2.1,.int .i64 (Q.S i).2.2.1,.int .i64 (Q.S i).2.2.2] 40 rfl;have HFM:idV Q (l.take (c+1))=idV Q (l.take c) ++[.int .i64 (Q.I i)]:=by unfold idV;rw[List.take_add_one,hi2];simp
    go_upto_region 5 with fail;replace HO:=ownA_step HO hB1;replace HB:=HB.trans (hB1.mono HB.size);clear hB1 q0 q1 q2 q3 q4;generalize (wr.alloc (.cells #[.int .i64 (Q.I i),.int .i64 (Q.S i).1,.int .i64 (Q.S i).2.1,.int .i64 (Q.S i).2.2.1,.int .i64 (Q.S i).2.2.2] 40))=W5 at *;have m0:=B1.c 0 rfl
    go_wp2_with (at_builtin;refine wpList_append_own _ rfl _ _ 32 rfl w.heap.size 2 i0 (.int .i64 0) 1 8 Tryz.underlying32 hi hz0 hz1 hz2 rfl (by decide) _ _ _ rfl (ownA_step HO ((Below.refl _ _).alloc (Nat.le_refl _) _)) ⟨W5.heap.size,0,none⟩ 1 1 [.int .i64 (Q.I i)] rfl rfl (one_newQ _ _ _) (one_cellQ _) (by unfold maxLen;omega) (by omega) (by have:=HB.size;simp;omega) ?_)
    intro v1 w2 hown1 hgrow1 _;have HBN:Below w.heap.size w w2:=(HB.alloc HB.size _).grown hgrow1 (by have:=HB.size;simp;omega) (fun k hk=>(HO.lt k hk).1);rw[←HFM] at hown1;clear HO HB hgrow1 m0 B1;go_wp2;go_roundw
    case rel=>exact⟨c+1,by omega,by go_num,hown1,HBN⟩
    case measure=>simp[intOf];omega
  · obtain rfl:c=n:=by omega
    rw[List.take_of_length_le (by omega)] at HO;go_wp2;go_ret;exact⟨_,rfl,HO,HB⟩
theorem NoIn.ofQ {Q:QD} {w:World} {base:Nat} {v:Value} {l:List Nat} (h:w.ownsRow base 2 1 v l.length (idV Q l)):∃ao cap,v= .slice ao l.length cap∧NoIn w ao l.length (fun j=>(idL Q l).getD j 0):=by
 rcases h.2 with ⟨h1,h2⟩ | ⟨g,cap,cur,h1,h2,h3,h4⟩
 · exact⟨none,0,by rw[h1,h2],fun j hj=>absurd hj (by omega)⟩
 · refine⟨some ⟨g,0,none⟩,cap,h1,fun j hj=>⟨g,0,rfl,(Array.getElem?_eq_some_iff.1 h3).1,?_⟩⟩;have h5:=h.cells (g:=g) (by rw[h1];rfl) j (.int .i64 ((idL Q l).getD j 0)) (by simp[idV,idL,hj]);rwa [Addr.add_lit] at h5
theorem leaf_eq (Q:QD) (at_:Nat) (x y s:Int):decide (Q.L at_=(flQ Q (List.range Q.m) x y s).length∧∀i,i<Q.L at_→Q.E at_ i=(idL Q (flQ Q (List.range Q.m) x y s)).getD i 0)=leafB Q at_ x y s:=by
 unfold leafB;refine decide_eq_decide.2 ⟨fun h=>?_,fun h=>?_⟩
 · apply List.ext_getElem?
   intro k
   by_cases hk:k<Q.L at_
   · have:=h.2 k hk;have hk2:k<(flQ Q (List.range Q.m) x y s).length:=by omega
     simp[blL,idL,hk,hk2] at this⊢
     exact this
   · rw[List.getElem?_eq_none (by simp[blL];omega),List.getElem?_eq_none (by simp[idL];omega)]
 · have hl:Q.L at_=(flQ Q (List.range Q.m) x y s).length:=by have:=congrArg List.length h;simpa [blL,idL] using this
   refine⟨hl,fun i hi=>?_⟩;have:=congrArg (fun t=>t.getD i 0) h
   simpa [blL,hi] using this
theorem Blk.grown {W W2:World} {g:Nat} {vs:List Value} {row:Option Nat} (h:Blk W g vs) (hg:W.grownBy W2 row) (hne:some g≠row):Blk W2 g vs:=
 ⟨Nat.lt_of_lt_of_le h.lt hg.size,fun i _ hi=>⟨(World.cell?_of_block (w:=W) (a:=⟨g,i,none⟩) (hg.block g h.lt hne)).trans (h.c i hi),(World.frozen?_of_block (w:=W) (a:=⟨g,i,none⟩) (hg.block g h.lt hne)).trans (h.f i hi)⟩⟩
theorem grown_set {w w' :World} (hB:Below w.heap.size w w') {g:Nat} (j:Nat) (u:Value):w.grownBy (w'.setCell ⟨g,j,none⟩ u) (some g):=
 ⟨hB.os,hB.tape,hB.output,Nat.le_trans hB.size (by simp[World.setCell]),fun k hk hne=>by
  rw[heap_setCell_other _ _ _ _ (fun e=>hne (congrArg some e))];exact hB.block k hk⟩
def IdR (Q:QD) (b:Nat) (w:World) (v:Value) (l:List Nat):Prop:=∃ao cap,v= .slice ao l.length cap∧NoIn w ao l.length (fun j=>(idL Q l).getD j 0)∧(ao=none→cap=0)∧∀A o sp,ao=some ⟨A,o,sp⟩→b≤A∧A<w.heap.size
theorem fill_any (Q:QD) (g:Nat) (x y s lv:Int) (ids kids:Value) (ao:Option Addr) (cap:Nat) (l:List Nat) (hq:Sq x y s) (h6:Its6 Q l) (hl:l.length≤1048576) (w:World) (B0:BkB w g x y s lv ids kids) (hS:ItIn Q w ao l):Calls Tryz.prog 65 #[.pointer (some ⟨g,0,none⟩),.slice ao l.length cap] w (fun r w' =>r= .returned (.tuple #[])∧∃v,BkB w' g x y s lv v kids∧IdR Q w.heap.size w' v (flQ Q l x y s)∧w'.ownsRow w.heap.size 2 1 v (flQ Q l x y s).length (idV Q (flQ Q l x y s))∧w.grownBy w' (some g)):=by
 have MT:=meeting_any Q g x y s lv ids kids ao cap l hq h6 hl w B0 hS;have hfl:(flQ Q l x y s).length≤1048576:=Nat.le_trans (List.length_filter_le _ _) hl;have hg:=B0.lt
 go_enter Tryz.func65,Tryz.ntmps65
 go_wp2_with fail;refine MT.mono ?_;rintro r w1 ⟨v,rfl,HO,hB1⟩;replace B0:=B0.step hB1;clear MT hS;obtain⟨ao1,c1,rfl,hI⟩:=ItIn.of HO;clear HO;have ID:=idsOf_any Q ao1 c1 _ hfl w1 hI;go_wp2_with fail;refine ID.mono ?_;rintro r w2 ⟨v2,rfl,HO2,hB2⟩;replace B0:=B0.step hB2;have HB:=hB1.trans (hB2.mono hB1.size);have hs1:=hB1.size;clear ID hI hB1 hB2;obtain⟨ao2,c2,rfl,hN⟩:=NoIn.ofQ HO2;have y4:=B0.c 4 rfl;have f4:=B0.f 4 rfl;have BF:=B0.setI 4 (by simp) (.slice ao2 (flQ Q l x y s).length c2);have GF:=grown_set HB (g:=g) 4 (.slice ao2 (flQ Q l x y s).length c2);have HNF:NoIn (w2.setCell ⟨g,4,none⟩ (.slice ao2 (flQ Q l x y s).length c2)) ao2 (flQ Q l x y s).length (fun j=>(idL Q (flQ Q l x y s)).getD j 0):=fun j hj=>by
  obtain⟨A,off,e,hA,hc⟩:=hN j hj;refine⟨A,off,e,Nat.lt_of_lt_of_le hA (by simp[World.setCell]),?_⟩;have hne:A≠g:=by
   intro e2;subst e2;subst e;have h3:=(HO2.lt A rfl).1;have h4:=HB.size;have h5:w.heap.size≤w1.heap.size:=hs1
   omega
  rw[←hc];exact World.cell?_of_block (w:=w2) (a:=⟨A,off+j,none⟩) (heap_setCell_other _ _ _ _ hne)
 have hz0:ao2=none→c2=0:=fun e=>by
  subst e
  rcases HO2.2 with ⟨h1,_⟩ | ⟨g2,cap2,cur,h1,_⟩
  · exact(Value.slice.inj h1).2.2
  · cases h1
 have hlt2:∀A o sp,ao2=some ⟨A,o,sp⟩→w.heap.size≤A∧A<(w2.setCell ⟨g,4,none⟩ (.slice ao2 (flQ Q l x y s).length c2)).heap.size:=fun A o sp e=>by
  have h3:=HO2.lt A (by rw[e];rfl);have h5:w.heap.size≤w1.heap.size:=hs1;have h6:(w2.setCell ⟨g,4,none⟩ (.slice ao2 (flQ Q l x y s).length c2)).heap.size=w2.heap.size:=by simp[World.setCell]
  omega
 have HOF:(w2.setCell ⟨g,4,none⟩ (.slice ao2 (flQ Q l x y s).length c2)).ownsRow w.heap.size 2 1 (.slice ao2 (flQ Q l x y s).length c2) (flQ Q l x y s).length (idV Q (flQ Q l x y s)):=by
  have hlow:=HO2.lt;have h5:w.heap.size≤w1.heap.size:=hs1;have HO3:w2.ownsRow w.heap.size 2 1 (.slice ao2 (flQ Q l x y s).length c2) (flQ Q l x y s).length (idV Q (flQ Q l x y s)):=by
   rcases HO2 with ⟨k0,k1 | ⟨k2,k3,k4,k5,k6,k7⟩⟩
   · exact⟨k0,.inl k1⟩
   · exact⟨k0,.inr ⟨k2,k3,k4,k5,Nat.le_trans h5 k6,k7⟩⟩
  rcases HO3 with ⟨k0,k1 | ⟨k2,k3,k4,k5,k6,k7,k8⟩⟩
  · exact⟨k0,.inl k1⟩
  · refine⟨k0,.inr ⟨k2,k3,k4,k5,k6,?_,k8⟩⟩;rw[←k7];exact heap_setCell_other _ _ _ _ (by show k2≠g;have:=hlow k2 (by rw[k5];rfl);omega)
 clear HO2 hN HB B0;go_wp2
 go_end0
 exact⟨rfl,_,BF,⟨_,_,rfl,HNF,hz0,hlt2⟩,HOF,GF⟩
end Go.Proofs.YthelolpogdcmhaaGreat
