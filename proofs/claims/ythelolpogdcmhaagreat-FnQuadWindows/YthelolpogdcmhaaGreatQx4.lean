/- Part 4 of the walks that the proof leans on. -/
import Derived.Test.YthelolpogdcmhaaGreatQx3
import Derived.Maps.AppendAt
set_option maxRecDepth 100000
set_option maxHeartbeats 16000000
namespace Go.Proofs.YthelolpogdcmhaaGreat
open Go.RowKit
def VqdN (g:Nat) (x y u r:Int) (Wd:World) (_B:Nat):Nat→Value→World→Prop
 | 0,v,_=>v= .pointer (some ⟨g,0,none⟩)
 | 1,v,_=>v= .pointer (some ⟨g,0,none⟩)
 | 2,v,_=>v= .pointer (some ⟨g,0,none⟩)
 | 3,v,_=>v= .pointer (some ⟨g,0,none⟩)
 | 4,v,_=>v= .int .i64 x
 | 5,v,_=>v= .int .i64 r
 | 6,v,_=>v= .int .i64 (x+r)
 | 7,v,_=>v= .pointer (some ⟨g,0,none⟩)
 | 8,v,_=>v= .pointer (some ⟨g,0,none⟩)
 | 9,v,_=>v= .pointer (some ⟨g,0,none⟩)
 | 10,v,_=>v= .pointer (some ⟨g,1,none⟩)
 | 11,v,_=>v= .int .i64 y
 | 12,v,_=>v= .int .i64 u
 | 13,v,_=>v= .int .i64 (y+u)
 | 14,v,_=>v= .agg #[.int .i64 (x+r),.int .i64 (y+u)]
 | 15,v,_=>v= .pointer (some ⟨Wd.heap.size,0,none⟩)
 | _,_,_=>True
theorem VqdN.same {g:Nat} {x y u r:Int} {Wd:World} {B j:Nat} {v:Value} {W W2:World} (h:VqdN g x y u r Wd B j v W):VqdN g x y u r Wd B j v W2:=by
 unfold VqdN at *
 split<;>simp only at h<;>first | exact h | trivial
def SqdN (_g:Nat) (x y u r:Int) (Wd:World) (lz:Array Bool) (_az:Act) (W:World):Prop:=(lz.getD 15 false=false→W=Wd)∧(lz.getD 15 false=true→lz.getD 16 false=false→W=(Wd.alloc (.cells #[.int .i64 0,.int .i64 0] 29)))∧(lz.getD 16 false=true→W=(((Wd.alloc (.cells #[.int .i64 0,.int .i64 0] 29)).setCell ⟨Wd.heap.size,0,none⟩ (.int .i64 (x+r))).setCell ⟨Wd.heap.size,1,none⟩ (.int .i64 (y+u))))∧(lz.getD 16 false=true→lz.getD 15 false=true)
def JqdN (g:Nat) (x y u r:Int) (Wd:World) (w0:World) (a0:Act) (lz:Array Bool) (az:Act) (W:World):Prop:=InvQ (w0.heap.size) [some 29,some 30,some 31,some 32,some 33,some 34,some 35,some 36,some 37,some 38,some 39,some 40,some 41,some 42,some 43,some 9,none] (VqdN g x y u r Wd (w0.heap.size)) w0 a0 lz az W∧SqdN g x y u r Wd lz az W
theorem qdN {Q:Exit→Act→World→Prop} {g:Nat} {x y u r:Int} {Wd:World} {w0:World} {a0:Act} {idq:Nat} {t0 t1 t2 t3 t4 t5 t6 t7 t8 t9 t10 t11 t12 t13 t14 t15 t16:TypeId} {q0 q1 q2 q3 q4 q5 q6 q7 q8 q9 q10 q11 q12 q13 q14 q15 q16:String}
 (hx1: -1048576≤x) (hx2:x≤1048576) (hy1: -1048576≤y) (hy2:y≤1048576) (hr1:0≤r) (hr2:r≤2097152) (hu1:0≤u) (hu2:u≤2097152) (hWd:w0.heap.size≤Wd.heap.size) (hWe:Wd=w0.drew) (h0:a0.tmps[0]? =some (.pointer (some ⟨g,0,none⟩))) (h6:a0.tmps[6]? =some (.int .i64 u)) (h8:a0.tmps[8]? =some (.int .i64 r)) (k0:w0.cell? ⟨g,0,none⟩=some (.int .i64 x)) (l0:(⟨g,0,none⟩:Addr).block<w0.heap.size) (k1:w0.cell? ⟨g,1,none⟩=some (.int .i64 y)) (l1:(⟨g,1,none⟩:Addr).block<w0.heap.size) (hz:a0.tmps.size=59)
 (hQ:∀aq W,aq.tmps.size=a0.tmps.size→aq.defers=a0.defers→(∀e,e∉([29,30,31,32,33,34,35,36,37,38,39,40,41,42,43,9]:List Nat)→aq.tmps[e]? =a0.tmps[e]?)→VqdN g x y u r Wd (w0.heap.size) 15 (aq.tmps.getD 9 undef) W→VqdN g x y u r Wd (w0.heap.size) 16 undef W→Below (w0.heap.size) w0 W→(W=(((Wd.alloc (.cells #[.int .i64 0,.int .i64 0] 29)).setCell ⟨Wd.heap.size,0,none⟩ (.int .i64 (x+r))).setCell ⟨Wd.heap.size,1,none⟩ (.int .i64 (y+u))))→Q .normal aq W) :
 (Code.region idq #[⟨some 29,.move (.tmp 0),t0,q0,#[],none⟩,
 ⟨some 30,.nilCheck (.tmp 29),t1,q1,#[⟨0,.data⟩],none⟩,
 ⟨some 31,.fieldAddr 83 (.tmp 30) 0,t2,q2,#[⟨1,.data⟩],none⟩,
 ⟨some 32,.fieldAddr 29 (.tmp 31) 0,t3,q3,#[⟨2,.data⟩],none⟩,
 ⟨some 33,.load 2 (.tmp 32),t4,q4,#[⟨3,.data⟩],none⟩,
 ⟨some 34,.move (.tmp 8),t5,q5,#[],none⟩,
 ⟨some 35,.binOp .add 2 (.tmp 33) (.tmp 34) 2,t6,q6,#[⟨4,.data⟩,⟨5,.data⟩],none⟩,
 ⟨some 36,.move (.tmp 0),t7,q7,#[],none⟩,
 ⟨some 37,.nilCheck (.tmp 36),t8,q8,#[⟨7,.data⟩],none⟩,
 ⟨some 38,.fieldAddr 83 (.tmp 37) 0,t9,q9,#[⟨8,.data⟩],none⟩,
 ⟨some 39,.fieldAddr 29 (.tmp 38) 1,t10,q10,#[⟨9,.data⟩],none⟩,
 ⟨some 40,.load 2 (.tmp 39),t11,q11,#[⟨10,.data⟩],none⟩,
 ⟨some 41,.move (.tmp 6),t12,q12,#[],none⟩,
 ⟨some 42,.binOp .add 2 (.tmp 40) (.tmp 41) 2,t13,q13,#[⟨11,.data⟩,⟨12,.data⟩],none⟩,
 ⟨some 43,.build 29 #[(0,.tmp 35),(1,.tmp 42)],t14,q14,#[⟨6,.data⟩,⟨13,.data⟩],none⟩,
 ⟨some 9,.alloc 29,t15,q15,#[],none⟩,
 ⟨none,.store 29 (.tmp 9) (.tmp 43),t16,q16,#[⟨15,.data⟩,⟨14,.data⟩,⟨0,.phase⟩,⟨1,.phase⟩,⟨2,.phase⟩,⟨3,.phase⟩,⟨4,.phase⟩,⟨5,.phase⟩,⟨6,.phase⟩,⟨7,.phase⟩,⟨8,.phase⟩,⟨9,.phase⟩,⟨10,.phase⟩,⟨11,.phase⟩,⟨12,.phase⟩,⟨13,.phase⟩,⟨14,.phase⟩,⟨15,.phase⟩],none⟩] true).wp Tryz.prog Q a0 w0:=by
 have hS:distS [some 29,some 30,some 31,some 32,some 33,some 34,some 35,some 36,some 37,some 38,some 39,some 40,some 41,some 42,some 43,some 9,none]=true:=rfl;refine wp_region_inv (by kernel_rfl) (JqdN g x y u r Wd w0 a0) ⟨⟨rfl,rfl,rfl,fun _ _=>rfl,(Below.refl _ w0).drew,fun j d hj=>?_,fun j hj=>?_⟩,⟨fun _=>hWe.symm,(fun h=>by rw[replD] at h;cases h),(fun h=>by rw[replD] at h;cases h),(fun h=>by rw[replD] at h;cases h)⟩⟩ ?_ ?_
 · exfalso
   rw[Array.getD_eq_getD_getElem?,Array.getElem?_replicate] at hj
   split at hj<;>simp at hj
 · exfalso
   rw[Array.getD_eq_getD_getElem?,Array.getElem?_replicate] at hj
   split at hj<;>simp at hj
 · intro lq aq W iq oq ⟨hJ2,hs⟩ hl ho hall;have z5:=hJ2.b;have g0:=hJ2.a h0
   have g6:=hJ2.a h6
   have g8:=hJ2.a h8
   have c0:=hJ2.c k0 l0;have c1:=hJ2.c k1 l1
   have HK:=fun i d h1 h2 v W2 hW hT hv hs=>show JqdN g x y u r Wd w0 a0 (lq.setIfInBounds i true) (aq.put (some d) v) W2 from⟨hJ2.put hS i d h1 h2 hW hT v hv,hs⟩
   have HW:=fun i h1 W2 hW hT hv hs=>show JqdN g x y u r Wd w0 a0 (lq.setIfInBounds i true) aq W2 from⟨hJ2.world i h1 (W' :=W2) hW hT hv,hs⟩
   generalize JqdN g x y u r Wd w0 a0=JJ at HK HW⊢
   clear hQ
   match iq,ho with
   | 0,ho=>
    cases ho;refine wpOp_of rfl rfl ?_;have hq:∀v:Value,SqdN g x y u r Wd (lq.setIfInBounds 0 true) (aq.put (some 29) v) W:=fun v=>⟨by rw[gn 0 15];exact hs.1,by rw[gn 0 15,gn 0 16];exact hs.2.1,by rw[gn 0 16];exact hs.2.2.1,by rw[gn 0 15,gn 0 16];exact hs.2.2.2⟩;have hK:=HK 0 29 rfl (by omega);generalize JJ _=K at hK⊢;clear ho hall hl HK HW hJ2 hS;go_simp;exact hK _ _ z5 (fun _ _ h=>h) rfl (hq _)
   | 1,ho=>
    cases ho;refine wpOp_of rfl rfl ?_;have f0:_=Value.pointer (some ⟨g,0,none⟩):=hJ2.v hall 0 29;have hq:∀v:Value,SqdN g x y u r Wd (lq.setIfInBounds 1 true) (aq.put (some 30) v) W:=fun v=>⟨by rw[gn 1 15];exact hs.1,by rw[gn 1 15,gn 1 16];exact hs.2.1,by rw[gn 1 16];exact hs.2.2.1,by rw[gn 1 15,gn 1 16];exact hs.2.2.2⟩;have hK:=HK 1 30 rfl (by omega);generalize JJ _=K at hK⊢;clear ho hall hl HK HW hJ2 hS;go_simp;exact hK _ _ z5 (fun _ _ h=>h) rfl (hq _)
   | 2,ho=>
    cases ho;refine wpOp_of rfl rfl ?_;have f1:_=Value.pointer (some ⟨g,0,none⟩):=hJ2.v hall 1 30;have hq:∀v:Value,SqdN g x y u r Wd (lq.setIfInBounds 2 true) (aq.put (some 31) v) W:=fun v=>⟨by rw[gn 2 15];exact hs.1,by rw[gn 2 15,gn 2 16];exact hs.2.1,by rw[gn 2 16];exact hs.2.2.1,by rw[gn 2 15,gn 2 16];exact hs.2.2.2⟩;have hK:=HK 2 31 rfl (by omega);generalize JJ _=K at hK⊢;clear ho hall hl HK HW hJ2 hS;go_simp;exact hK _ _ z5 (fun _ _ h=>h) rfl (hq _)
   | 3,ho=>
    cases ho;refine wpOp_of rfl rfl ?_;have f2:_=Value.pointer (some ⟨g,0,none⟩):=hJ2.v hall 2 31;have hq:∀v:Value,SqdN g x y u r Wd (lq.setIfInBounds 3 true) (aq.put (some 32) v) W:=fun v=>⟨by rw[gn 3 15];exact hs.1,by rw[gn 3 15,gn 3 16];exact hs.2.1,by rw[gn 3 16];exact hs.2.2.1,by rw[gn 3 15,gn 3 16];exact hs.2.2.2⟩;have hK:=HK 3 32 rfl (by omega);generalize JJ _=K at hK⊢;clear ho hall hl HK HW hJ2 hS;go_simp;exact hK _ _ z5 (fun _ _ h=>h) rfl (hq _)
   | 4,ho=>
    cases ho;refine wpOp_of rfl rfl ?_;have f3:_=Value.pointer (some ⟨g,0,none⟩):=hJ2.v hall 3 32;have hq:∀v:Value,SqdN g x y u r Wd (lq.setIfInBounds 4 true) (aq.put (some 33) v) W:=fun v=>⟨by rw[gn 4 15];exact hs.1,by rw[gn 4 15,gn 4 16];exact hs.2.1,by rw[gn 4 16];exact hs.2.2.1,by rw[gn 4 15,gn 4 16];exact hs.2.2.2⟩;have hK:=HK 4 33 rfl (by omega);generalize JJ _=K at hK⊢;clear ho hall hl HK HW hJ2 hS;go_simp;exact hK _ _ z5 (fun _ _ h=>h) rfl (hq _)
   | 5,ho=>
    cases ho;refine wpOp_of rfl rfl ?_;have hq:∀v:Value,SqdN g x y u r Wd (lq.setIfInBounds 5 true) (aq.put (some 34) v) W:=fun v=>⟨by rw[gn 5 15];exact hs.1,by rw[gn 5 15,gn 5 16];exact hs.2.1,by rw[gn 5 16];exact hs.2.2.1,by rw[gn 5 15,gn 5 16];exact hs.2.2.2⟩;have hK:=HK 5 34 rfl (by omega);generalize JJ _=K at hK⊢;clear ho hall hl HK HW hJ2 hS;go_simp;exact hK _ _ z5 (fun _ _ h=>h) rfl (hq _)
   | 6,ho=>
    cases ho;refine wpOp_of rfl rfl ?_;have f4:_=Value.int .i64 x:=hJ2.v hall 4 33;have f5:_=Value.int .i64 r:=hJ2.v hall 5 34;have hq:∀v:Value,SqdN g x y u r Wd (lq.setIfInBounds 6 true) (aq.put (some 35) v) W:=fun v=>⟨by rw[gn 6 15];exact hs.1,by rw[gn 6 15,gn 6 16];exact hs.2.1,by rw[gn 6 16];exact hs.2.2.1,by rw[gn 6 15,gn 6 16];exact hs.2.2.2⟩;have hw:IntKind.i64.wrap (x+r)=x+r:=by rw[IntKind.wrap_i64];omega
    have hK:=HK 6 35 rfl (by omega);generalize JJ _=K at hK⊢;clear ho hall hl HK HW hJ2 hS;go_simp;exact hK _ _ z5 (fun _ _ h=>h) rfl (hq _)
   | 7,ho=>
    cases ho;refine wpOp_of rfl rfl ?_;have hq:∀v:Value,SqdN g x y u r Wd (lq.setIfInBounds 7 true) (aq.put (some 36) v) W:=fun v=>⟨by rw[gn 7 15];exact hs.1,by rw[gn 7 15,gn 7 16];exact hs.2.1,by rw[gn 7 16];exact hs.2.2.1,by rw[gn 7 15,gn 7 16];exact hs.2.2.2⟩;have hK:=HK 7 36 rfl (by omega);generalize JJ _=K at hK⊢;clear ho hall hl HK HW hJ2 hS;go_simp;exact hK _ _ z5 (fun _ _ h=>h) rfl (hq _)
   | 8,ho=>
    cases ho;refine wpOp_of rfl rfl ?_;have f7:_=Value.pointer (some ⟨g,0,none⟩):=hJ2.v hall 7 36;have hq:∀v:Value,SqdN g x y u r Wd (lq.setIfInBounds 8 true) (aq.put (some 37) v) W:=fun v=>⟨by rw[gn 8 15];exact hs.1,by rw[gn 8 15,gn 8 16];exact hs.2.1,by rw[gn 8 16];exact hs.2.2.1,by rw[gn 8 15,gn 8 16];exact hs.2.2.2⟩;have hK:=HK 8 37 rfl (by omega);generalize JJ _=K at hK⊢;clear ho hall hl HK HW hJ2 hS;go_simp;exact hK _ _ z5 (fun _ _ h=>h) rfl (hq _)
   | 9,ho=>
    cases ho;refine wpOp_of rfl rfl ?_;have f8:_=Value.pointer (some ⟨g,0,none⟩):=hJ2.v hall 8 37;have hq:∀v:Value,SqdN g x y u r Wd (lq.setIfInBounds 9 true) (aq.put (some 38) v) W:=fun v=>⟨by rw[gn 9 15];exact hs.1,by rw[gn 9 15,gn 9 16];exact hs.2.1,by rw[gn 9 16];exact hs.2.2.1,by rw[gn 9 15,gn 9 16];exact hs.2.2.2⟩;have hK:=HK 9 38 rfl (by omega);generalize JJ _=K at hK⊢;clear ho hall hl HK HW hJ2 hS;go_simp;exact hK _ _ z5 (fun _ _ h=>h) rfl (hq _)
   | 10,ho=>
    cases ho;refine wpOp_of rfl rfl ?_;have f9:_=Value.pointer (some ⟨g,0,none⟩):=hJ2.v hall 9 38;have hq:∀v:Value,SqdN g x y u r Wd (lq.setIfInBounds 10 true) (aq.put (some 39) v) W:=fun v=>⟨by rw[gn 10 15];exact hs.1,by rw[gn 10 15,gn 10 16];exact hs.2.1,by rw[gn 10 16];exact hs.2.2.1,by rw[gn 10 15,gn 10 16];exact hs.2.2.2⟩;have hK:=HK 10 39 rfl (by omega);generalize JJ _=K at hK⊢;clear ho hall hl HK HW hJ2 hS;go_simp;exact hK _ _ z5 (fun _ _ h=>h) rfl (hq _)
   | 11,ho=>
    cases ho;refine wpOp_of rfl rfl ?_;have f10:_=Value.pointer (some ⟨g,1,none⟩):=hJ2.v hall 10 39;have hq:∀v:Value,SqdN g x y u r Wd (lq.setIfInBounds 11 true) (aq.put (some 40) v) W:=fun v=>⟨by rw[gn 11 15];exact hs.1,by rw[gn 11 15,gn 11 16];exact hs.2.1,by rw[gn 11 16];exact hs.2.2.1,by rw[gn 11 15,gn 11 16];exact hs.2.2.2⟩;have hK:=HK 11 40 rfl (by omega);generalize JJ _=K at hK⊢;clear ho hall hl HK HW hJ2 hS;go_simp;exact hK _ _ z5 (fun _ _ h=>h) rfl (hq _)
   | 12,ho=>
    cases ho;refine wpOp_of rfl rfl ?_;have hq:∀v:Value,SqdN g x y u r Wd (lq.setIfInBounds 12 true) (aq.put (some 41) v) W:=fun v=>⟨by rw[gn 12 15];exact hs.1,by rw[gn 12 15,gn 12 16];exact hs.2.1,by rw[gn 12 16];exact hs.2.2.1,by rw[gn 12 15,gn 12 16];exact hs.2.2.2⟩;have hK:=HK 12 41 rfl (by omega);generalize JJ _=K at hK⊢;clear ho hall hl HK HW hJ2 hS;go_simp;exact hK _ _ z5 (fun _ _ h=>h) rfl (hq _)
   | 13,ho=>
    cases ho;refine wpOp_of rfl rfl ?_;have f11:_=Value.int .i64 y:=hJ2.v hall 11 40;have f12:_=Value.int .i64 u:=hJ2.v hall 12 41;have hq:∀v:Value,SqdN g x y u r Wd (lq.setIfInBounds 13 true) (aq.put (some 42) v) W:=fun v=>⟨by rw[gn 13 15];exact hs.1,by rw[gn 13 15,gn 13 16];exact hs.2.1,by rw[gn 13 16];exact hs.2.2.1,by rw[gn 13 15,gn 13 16];exact hs.2.2.2⟩;have hw:IntKind.i64.wrap (y+u)=y+u:=by rw[IntKind.wrap_i64];omega
    have hK:=HK 13 42 rfl (by omega);generalize JJ _=K at hK⊢;clear ho hall hl HK HW hJ2 hS;go_simp;exact hK _ _ z5 (fun _ _ h=>h) rfl (hq _)
   | 14,ho=>
    cases ho;refine wpOp_of rfl rfl ?_;have f6:_=Value.int .i64 (x+r):=hJ2.v hall 6 35;have f13:_=Value.int .i64 (y+u):=hJ2.v hall 13 42;have hq:∀v:Value,SqdN g x y u r Wd (lq.setIfInBounds 14 true) (aq.put (some 43) v) W:=fun v=>⟨by rw[gn 14 15];exact hs.1,by rw[gn 14 15,gn 14 16];exact hs.2.1,by rw[gn 14 16];exact hs.2.2.1,by rw[gn 14 15,gn 14 16];exact hs.2.2.2⟩;rw[Array.getD_eq_getD_getElem?] at f6 f13;have hK:=HK 14 43 rfl (by omega);generalize JJ _=K at hK⊢;clear ho hall hl HK HW hJ2 hS;go_simp;exact hK _ _ z5 (fun _ _ h=>h) rfl (hq _)
   | 15,ho=>
    cases ho;refine wpOp_of rfl rfl ?_;have h15:=getD_tf hl;have eW:W=Wd:=hs.1 h15;have hq:∀v:Value,SqdN g x y u r Wd (lq.setIfInBounds 15 true) (aq.put (some 9) v) (W.alloc (.cells #[.int .i64 0,.int .i64 0] 29)):=fun v=>⟨(fun h=>by rw[getD_set_eq hl] at h;cases h),fun _ _=>by rw[eW],(fun h=>by rw[gn 15 16] at h;rw[hs.2.2.2 h] at h15;cases h15),fun _=>getD_set_eq hl⟩;have hp:Hid (W.heap.size=Wd.heap.size):=congrArg (fun w:World=>w.heap.size) eW;clear eW hWe hs;have hK:=HK 15 9 rfl (by omega);generalize JJ _=K at hK⊢;clear ho hall hl HK HW hJ2 hS;go_simp;exact hK _ _ (z5.alloc z5.size _) (fun j v h=>h.same) (by show Value.pointer _=_;rw[hp.out]) (hq _)
   | 16,ho=>
    cases ho;refine wpOp_of rfl rfl ?_;have f15:_=Value.pointer (some ⟨Wd.heap.size,0,none⟩):=hJ2.v hall 15 9;have f14:_=Value.agg #[.int .i64 (x+r),.int .i64 (y+u)]:=hJ2.v hall 14 43;have l15:=hall ⟨15,.data⟩ (by simp) rfl;have h16:=getD_tf hl;have eW:W=(Wd.alloc (.cells #[.int .i64 0,.int .i64 0] 29)):=hs.2.1 l15 h16;have xR:Blk W Wd.heap.size [.int .i64 0,.int .i64 0]:=by rw[eW];exact Blk.new Wd [.int .i64 0,.int .i64 0] 29 rfl
    have y0:=xR.c 0 rfl;have y1:=xR.c 1 rfl;have g0z:=xR.f 0 rfl;have g1z:=xR.f 1 rfl;have hq:SqdN g x y u r Wd (lq.setIfInBounds 16 true) aq ((W.setCell ⟨Wd.heap.size,0,none⟩ (.int .i64 (x+r))).setCell ⟨Wd.heap.size,1,none⟩ (.int .i64 (y+u))):=⟨(fun h=>by rw[gn 16 15,l15] at h;cases h),(fun _ h=>by rw[getD_set_eq hl] at h;cases h),fun _=>by rw[eW],fun _=>by rw[gn 16 15];exact l15⟩;clear eW hWe hs;have hK:=HW 16 rfl;generalize JJ _=K at hK⊢;clear ho hall hl HK HW hJ2 hS;go_simp;exact hK _ ((z5.setCell (p:=⟨Wd.heap.size,0,none⟩) hWd _).setCell (p:=⟨Wd.heap.size,1,none⟩) hWd _) (fun j v h=>h.same) trivial hq
   | iq+17,ho=>simp at ho
 · intro lq aq W ⟨hJ,hs⟩ hr;obtain⟨z1,z2,z3,z4,z5,z6,z7⟩:=hJ;have hl:=listed_of hr [15,0,1,2,3,4,5,6,7,8,9,10,11,12,13,14,16] [] (by simp) (by kernel_rfl) (by rw[z1];decide);exact hQ aq W z2 z3 (fun e he=>z4 e (by simpa using he)) (z6 15 9 (hl 15 (by simp)) rfl) (z7 16 (hl 16 (by simp)) rfl) z5 (hs.2.2.1 (hl 16 (by simp)))
theorem wp_append_q {P:Program} {o:Oper} {a:Act} {w:World} {K:Act→World→Prop} {Q:Exit→Act→World→Prop} (s x:Operand) (t:TypeId)
 (ho:o.op= .call {callee:= .builtin .append,args:=#[s,x],argTypes:=#[t,t]})
 (base:Nat) (e:TypeId) (i:TypeInfo) (z:Value) (size bytes:Nat) (ht:P.underlying t=some (.slice e)) (hi:P.info? e=some i) (hz:i.zero=some z)
 (hsize:i.size=size) (hby:i.bytes=bytes) (hzs:z.cells.size=size) (hsz:0<size)
 (v:Value) (n:Nat) (xs:List Value) (hs:a.eval s=v) (hown:w.ownsRow base e size v n xs)
 (ad:Addr) (m c:Nat) (news:List Value) (hx:a.eval x= .slice (some ad) m c) (hl:news.length=m*size) (hnews:∀j u,news[j]? =some u→w.cell? (ad.add j)=some u) (h1:∀u∈news,u.oneCell' =true)
 (h63:n+m≤maxLen) (hbytes:(n+m)*bytes≤140737488355328) (hbase:base≤w.heap.size)
 (h:∀v' w',w'.ownsRow base e size v' (n+m) (xs ++news)→w.grownBy w' v.ownBlock→(v'.ownBlock=v.ownBlock∨v'.ownBlock=some w.heap.size)→K (a.put o.dst v') w'):o.wp P a w K Q:=by
 obtain⟨v',w',hr,h2,h3,_,h5⟩:=run_append_own_at (P:=P) w base t o.type e i z size bytes ht hi hz hsize hby hzs hsz v n xs hown ad m c news hl hnews h1 h63 hbytes hbase;unfold Oper.wp execOp;simp only[ho,resolve,invoke,builtin,Sem.run_bind,Sem.run_pure,Result.andThen_ok,List.map_toArray,List.map_cons,List.map_nil,hs,hx,hr];exact h v' w' h2 h3 h5
structure QsS (cx cy hf lv:Int) (o:Value) (c base:Nat) (Lz:List Value) (Wd:World) (b9 b10 b11 b12:Bool) (v4 v55:Value) (W:World):Prop where
 w0:b9=false→W=Wd
 w1:b9=true→b10=false→W=(Wd.alloc (.cells #[.int .i64 cx,.int .i64 cy,.int .i64 hf,.int .i64 (lv+1),.slice none 0 0,.slice none 0 0] 83))
 w2:b10=true→b11=false→W=((Wd.alloc (.cells #[.int .i64 cx,.int .i64 cy,.int .i64 hf,.int .i64 (lv+1),.slice none 0 0,.slice none 0 0] 83)).alloc (.cells #[.pointer (some ⟨Wd.heap.size,0,none⟩)] 55))
 r:b11=true→(W.ownsRow base 55 1 v55 (c+1) (Lz ++[.pointer (some ⟨Wd.heap.size,0,none⟩)])∧((Wd.alloc (.cells #[.int .i64 cx,.int .i64 cy,.int .i64 hf,.int .i64 (lv+1),.slice none 0 0,.slice none 0 0] 83)).alloc (.cells #[.pointer (some ⟨Wd.heap.size,0,none⟩)] 55)).grownBy W o.ownBlock∧(v55.ownBlock=o.ownBlock∨v55.ownBlock=some ((Wd.alloc (.cells #[.int .i64 cx,.int .i64 cy,.int .i64 hf,.int .i64 (lv+1),.slice none 0 0,.slice none 0 0] 83)).alloc (.cells #[.pointer (some ⟨Wd.heap.size,0,none⟩)] 55)).heap.size))
 o1:b10=true→b9=true
 o2:b11=true→b10=true
 o3:b12=true→b11=true
 k:b12=false→v4=o
 e:b12=true→v4=v55
def QsI (cx cy hf lv:Int) (o:Value) (c base:Nat) (Lz:List Value) (Wd:World) (lz:Array Bool) (az:Act) (W:World):Prop:=QsS cx cy hf lv o c base Lz Wd (lz.getD 9 false) (lz.getD 10 false) (lz.getD 11 false) (lz.getD 12 false) (az.tmps.getD 4 undef) (az.tmps.getD 55 undef) W∧(lz.getD 12 false=true→∀j,j<13→lz.getD j false=true)∧(lz.getD 8 false=true→lz.getD 1 false=true)∧(lz.getD 9 false=true→lz.getD 8 false=true)
theorem QsI.start {cx cy hf lv:Int} {o:Value} {c base:Nat} {Lz:List Value} {Wd:World} {az:Act} {W:World} {m:Nat} (h4:az.tmps.getD 4 undef=o) (hW:W=Wd):QsI cx cy hf lv o c base Lz Wd (Array.replicate m false) az W:=by
 unfold QsI;simp only[replD];exact⟨⟨fun _=>hW,(fun a=>by cases a),(fun a=>by cases a),(fun a=>by cases a),(fun a=>by cases a),(fun a=>by cases a),(fun a=>by cases a),fun _=>h4,(fun a=>by cases a)⟩,(fun a=>by cases a),(fun a=>by cases a),(fun a=>by cases a)⟩
theorem QsI.off {cx cy hf lv:Int} {o:Value} {c base:Nat} {Lz:List Value} {Wd:World} {lz:Array Bool} {az:Act} {W:World} (h:QsI cx cy hf lv o c base Lz Wd lz az W) {i:Nat} (hi:i<13) (hl:lz.getD i true=false):lz.getD 12 false=false:=by
 cases hh:lz.getD 12 false with
 | false=>rfl
 | true=>have:=h.2.1 hh i hi;rw[getD_tf hl] at this;cases this
theorem QsI.quiet {cx cy hf lv:Int} {o:Value} {c base:Nat} {Lz:List Value} {Wd:World} {lz:Array Bool} {az:Act} {W:World} (hs:QsI cx cy hf lv o c base Lz Wd lz az W) (i d:Nat) (v:Value) (hi:i<13) (hl:lz.getD i true=false) (hn:i∉[8,9,10,11,12]) (hd:d∉[4,55]):QsI cx cy hf lv o c base Lz Wd (lz.setIfInBounds i true) (az.put (some d) v) W:=by
 have h12:=hs.off hi hl;simp only[List.mem_cons,List.not_mem_nil,or_false,not_or] at hn hd;obtain⟨n0,n1,n2,n3,n4⟩:=hn;unfold QsI;rw[getD_set_neq n0,getD_set_neq n1,getD_set_neq n2,getD_set_neq n3,getD_set_neq n4,put_getD_ne hd.1,put_getD_ne hd.2];refine⟨hs.1,(fun a=>by rw[h12] at a;cases a),fun a=>?_,hs.2.2.2⟩
 by_cases e:i=1
 · subst e;exact getD_set_eq hl
 · rw[getD_set_neq e];exact hs.2.2.1 a
theorem QsI.put8 {cx cy hf lv:Int} {o:Value} {c base:Nat} {Lz:List Value} {Wd:World} {lz:Array Bool} {az:Act} {W:World} (hs:QsI cx cy hf lv o c base Lz Wd lz az W) (v:Value) (hl:lz.getD 8 true=false) (h1:lz.getD 1 false=true):QsI cx cy hf lv o c base Lz Wd (lz.setIfInBounds 8 true) (az.put (some 52) v) W:=by
 have h12:=hs.off (i:=8) (by decide) hl;unfold QsI;rw[gn 8 9,gn 8 10,gn 8 11,gn 8 12,gn 8 1,put_getD_ne (show 52≠4 by decide),put_getD_ne (show 52≠55 by decide)];exact⟨hs.1,(fun a=>by rw[h12] at a;cases a),fun _=>h1,fun _=>getD_set_eq hl⟩
theorem QsI.early {cx cy hf lv:Int} {o:Value} {c base:Nat} {Lz:List Value} {Wd:World} {lz:Array Bool} {az:Act} {W:World} (hs:QsI cx cy hf lv o c base Lz Wd lz az W) (hl:lz.getD 1 true=false):W=Wd:=by
 refine hs.1.w0 ?_;cases e:lz.getD 9 false with
 | false=>rfl
 | true=>have:=hs.2.2.1 (hs.2.2.2 e);rw[getD_tf hl] at this;cases this
theorem QsI.put9 {cx cy hf lv:Int} {o:Value} {c base:Nat} {Lz:List Value} {Wd:World} {lz:Array Bool} {az:Act} {W W2:World} (hs:QsI cx cy hf lv o c base Lz Wd lz az W) (hl:lz.getD 9 true=false) (h8:lz.getD 8 false=true) {u:Value} (hc:QsS cx cy hf lv o c base Lz Wd true (lz.getD 10 false) (lz.getD 11 false) (lz.getD 12 false) (az.tmps.getD 4 undef) (az.tmps.getD 55 undef) W2):QsI cx cy hf lv o c base Lz Wd (lz.setIfInBounds 9 true) (az.put (some 53) u) W2:=by
 have h12:=hs.off (i:=9) (by decide) hl;unfold QsI;rw[getD_set_eq hl,gn 9 10,gn 9 11,gn 9 12,gn 9 8,gn 9 1,put_getD_ne (show 53≠4 by decide),put_getD_ne (show 53≠55 by decide)];exact⟨hc,(fun a=>by rw[h12] at a;cases a),hs.2.2.1,fun _=>h8⟩
theorem QsI.put10 {cx cy hf lv:Int} {o:Value} {c base:Nat} {Lz:List Value} {Wd:World} {lz:Array Bool} {az:Act} {W W2:World} (hs:QsI cx cy hf lv o c base Lz Wd lz az W) (hl:lz.getD 10 true=false) {u:Value} (hc:QsS cx cy hf lv o c base Lz Wd (lz.getD 9 false) true (lz.getD 11 false) (lz.getD 12 false) (az.tmps.getD 4 undef) (az.tmps.getD 55 undef) W2):QsI cx cy hf lv o c base Lz Wd (lz.setIfInBounds 10 true) (az.put (some 54) u) W2:=by
 have h12:=hs.off (i:=10) (by decide) hl;unfold QsI;rw[gn 10 9,getD_set_eq hl,gn 10 11,gn 10 12,gn 10 8,gn 10 1,put_getD_ne (show 54≠4 by decide),put_getD_ne (show 54≠55 by decide)];exact⟨hc,(fun a=>by rw[h12] at a;cases a),hs.2.2.1,hs.2.2.2⟩
theorem QsI.put11 {cx cy hf lv:Int} {o:Value} {c base:Nat} {Lz:List Value} {Wd:World} {lz:Array Bool} {az:Act} {W W2:World} (hs:QsI cx cy hf lv o c base Lz Wd lz az W) (hl:lz.getD 11 true=false) (hd:55<az.tmps.size) {u:Value} (hc:QsS cx cy hf lv o c base Lz Wd (lz.getD 9 false) (lz.getD 10 false) true (lz.getD 12 false) (az.tmps.getD 4 undef) u W2):QsI cx cy hf lv o c base Lz Wd (lz.setIfInBounds 11 true) (az.put (some 55) u) W2:=by
 have h12:=hs.off (i:=11) (by decide) hl;unfold QsI;rw[gn 11 9,gn 11 10,getD_set_eq hl,gn 11 12,gn 11 8,gn 11 1,put_getD_ne (show 55≠4 by decide),put_getD_same hd];exact⟨hc,(fun a=>by rw[h12] at a;cases a),hs.2.2.1,hs.2.2.2⟩
theorem QsI.put12 {cx cy hf lv:Int} {o:Value} {c base:Nat} {Lz:List Value} {Wd:World} {lz:Array Bool} {az:Act} {W:World} (hs:QsI cx cy hf lv o c base Lz Wd lz az W) (hl:lz.getD 12 true=false) (hd:4<az.tmps.size) (hall:∀j,j<13→j≠12→lz.getD j false=true):QsI cx cy hf lv o c base Lz Wd (lz.setIfInBounds 12 true) (az.put (some 4) (az.tmps.getD 55 undef)) W:=by
 have h11:=hall 11 (by decide) (by decide);obtain⟨⟨a1,a2,a3,a4,a5,a6,a7,a8,a9⟩,_,q1,q2⟩:=hs;unfold QsI;rw[gn 12 9,gn 12 10,gn 12 11,gn 12 8,gn 12 1,getD_set_eq hl,put_getD_same hd,put_getD_ne (show 4≠55 by decide)];refine⟨⟨a1,a2,a3,a4,a5,a6,fun _=>h11,(fun a=>by cases a),fun _=>rfl⟩,fun _ j hj=>?_,q1,q2⟩
 by_cases e:j=12
 · subst e;exact getD_set_eq hl
 · rw[getD_set_neq (Ne.symm e)];exact hall j hj e
def VqdO (g _C:Nat) (cx cy hf lv:Int) (o:Value) (_c _base:Nat) (_Lz:List Value) (Wd:World) (_B:Nat):Nat→Value→World→Prop
 | 0,v,_=>v=o
 | 1,v,_=>v=Sp cx cy
 | 2,v,_=>v= .int .i64 hf
 | 3,v,_=>v= .pointer (some ⟨g,0,none⟩)
 | 4,v,_=>v= .pointer (some ⟨g,0,none⟩)
 | 5,v,_=>v= .pointer (some ⟨g,3,none⟩)
 | 6,v,_=>v= .int .i64 lv
 | 7,v,_=>v= .int .i64 (lv+1)
 | 8,v,_=>v= .agg #[.int .i64 cx,.int .i64 cy,.int .i64 hf,.int .i64 (lv+1),.slice none 0 0,.slice none 0 0]
 | 9,v,_=>v= .pointer (some ⟨Wd.heap.size,0,none⟩)
 | 10,v,_=>v= .slice (some ⟨Wd.heap.size+1,0,none⟩) 1 1
 | _,_,_=>True
theorem VqdO.same {g C:Nat} {cx cy hf lv:Int} {o:Value} {c base:Nat} {Lz:List Value} {Wd:World} {B j:Nat} {v:Value} {W W2:World} (h:VqdO g C cx cy hf lv o c base Lz Wd B j v W):VqdO g C cx cy hf lv o c base Lz Wd B j v W2:=by
 unfold VqdO at *
 split<;>simp only at h<;>first | exact h | trivial
def SqdO (_g _C:Nat) (cx cy hf lv:Int) (o:Value) (c base:Nat) (Lz:List Value) (Wd:World) (lz:Array Bool) (az:Act) (W:World):Prop:=QsI cx cy hf lv o c base Lz Wd lz az W
def JqdO (g C:Nat) (cx cy hf lv:Int) (o:Value) (c base:Nat) (Lz:List Value) (Wd:World) (w0:World) (a0:Act) (lz:Array Bool) (az:Act) (W:World):Prop:=InvQ (base) [some 44,some 45,some 46,some 47,some 48,some 49,some 50,some 51,some 52,some 53,some 54,some 55,some 4] (VqdO g C cx cy hf lv o c base Lz Wd (base)) w0 a0 lz az W∧SqdO g C cx cy hf lv o c base Lz Wd lz az W
theorem qdO {Q:Exit→Act→World→Prop} {g C:Nat} {cx cy hf lv:Int} {o:Value} {c base:Nat} {Lz:List Value} {Wd:World} {i0:TypeInfo} {w0:World} {a0:Act} {idq:Nat} {t0 t1 t2 t3 t4 t5 t6 t7 t8 t9 t10 t11 t12:TypeId} {q0 q1 q2 q3 q4 q5 q6 q7 q8 q9 q10 q11 q12:String}
 (hi0:Tryz.prog.info? 55=some i0) (hz0:i0.zero=some (.pointer none)) (hz1:i0.size=1) (hz2:i0.bytes=8) (hlv1:0≤lv) (hlv2:lv≤1000) (hc:c≤100) (hbw:base≤w0.heap.size) (hown0:w0.drew.ownsRow base 55 1 o c Lz) (h4:a0.tmps.getD 4 undef=o) (hC0:Wd.cell? ⟨C,0,none⟩=some (.int .i64 cx)) (hC1:Wd.cell? ⟨C,1,none⟩=some (.int .i64 cy)) (hWe:Wd=w0.drew) (h0:a0.tmps[0]? =some (.pointer (some ⟨g,0,none⟩))) (h3:a0.tmps[3]? =some (.int .i64 hf)) (h9:a0.tmps[9]? =some (.pointer (some ⟨C,0,none⟩))) (k0:w0.cell? ⟨g,3,none⟩=some (.int .i64 lv)) (l0:(⟨g,3,none⟩:Addr).block<base) (hz:a0.tmps.size=59)
 (hQ:∀aq W,aq.tmps.size=a0.tmps.size→aq.defers=a0.defers→(∀e,e∉([44,45,46,47,48,49,50,51,52,53,54,55,4]:List Nat)→aq.tmps[e]? =a0.tmps[e]?)→VqdO g C cx cy hf lv o c base Lz Wd (base) 12 (aq.tmps.getD 4 undef) W→Below (base) w0 W→(W.ownsRow base 55 1 (aq.tmps.getD 4 undef) (c+1) (Lz ++[.pointer (some ⟨Wd.heap.size,0,none⟩)])∧((Wd.alloc (.cells #[.int .i64 cx,.int .i64 cy,.int .i64 hf,.int .i64 (lv+1),.slice none 0 0,.slice none 0 0] 83)).alloc (.cells #[.pointer (some ⟨Wd.heap.size,0,none⟩)] 55)).grownBy W o.ownBlock∧((aq.tmps.getD 4 undef).ownBlock=o.ownBlock∨(aq.tmps.getD 4 undef).ownBlock=some ((Wd.alloc (.cells #[.int .i64 cx,.int .i64 cy,.int .i64 hf,.int .i64 (lv+1),.slice none 0 0,.slice none 0 0] 83)).alloc (.cells #[.pointer (some ⟨Wd.heap.size,0,none⟩)] 55)).heap.size))→Q .normal aq W) :
 (Code.region idq #[⟨some 44,.move (.tmp 4),t0,q0,#[],none⟩,
 ⟨some 45,.load 29 (.tmp 9),t1,q1,#[],none⟩,
 ⟨some 46,.move (.tmp 3),t2,q2,#[],none⟩,
 ⟨some 47,.move (.tmp 0),t3,q3,#[],none⟩,
 ⟨some 48,.nilCheck (.tmp 47),t4,q4,#[⟨3,.data⟩],none⟩,
 ⟨some 49,.fieldAddr 83 (.tmp 48) 2,t5,q5,#[⟨4,.data⟩],none⟩,
 ⟨some 50,.load 2 (.tmp 49),t6,q6,#[⟨5,.data⟩],none⟩,
 ⟨some 51,.binOp .add 2 (.tmp 50) (.const (.int .i64 1)) 2,t7,q7,#[⟨6,.data⟩],none⟩,
 ⟨some 52,.build 83 #[(0,.tmp 45),(1,.tmp 46),(2,.tmp 51)],t8,q8,#[⟨1,.data⟩,⟨2,.data⟩,⟨7,.data⟩],none⟩,
 ⟨some 53,.box 83 (.tmp 52),t9,q9,#[⟨8,.data⟩],none⟩,
 ⟨some 54,.buildSlice 81 1 #[(0,.tmp 53)],t10,q10,#[⟨9,.data⟩],none⟩,
 ⟨some 55,.call {callee:= .builtin .append,args:=#[.tmp 44,.tmp 54],argTypes:=#[81,81]},t11,q11,#[⟨0,.data⟩,⟨10,.data⟩],none⟩,
 ⟨some 4,.assign (.tmp 55),t12,q12,#[⟨11,.data⟩,⟨11,.chain⟩,⟨0,.phase⟩,⟨1,.phase⟩,⟨2,.phase⟩,⟨3,.phase⟩,⟨4,.phase⟩,⟨5,.phase⟩,⟨6,.phase⟩,⟨7,.phase⟩,⟨8,.phase⟩,⟨9,.phase⟩,⟨10,.phase⟩,⟨11,.phase⟩],none⟩] true).wp Tryz.prog Q a0 w0:=by
 have hS:distS [some 44,some 45,some 46,some 47,some 48,some 49,some 50,some 51,some 52,some 53,some 54,some 55,some 4]=true:=rfl;refine wp_region_inv (by kernel_rfl) (JqdO g C cx cy hf lv o c base Lz Wd w0 a0) ⟨⟨rfl,rfl,rfl,fun _ _=>rfl,(Below.refl _ w0).drew,fun j d hj=>?_,fun j hj=>?_⟩,QsI.start h4 hWe.symm⟩ ?_ ?_
 · exfalso
   rw[Array.getD_eq_getD_getElem?,Array.getElem?_replicate] at hj
   split at hj<;>simp at hj
 · exfalso
   rw[Array.getD_eq_getD_getElem?,Array.getElem?_replicate] at hj
   split at hj<;>simp at hj
 · intro lq aq W iq oq ⟨hJ2,hs⟩ hl ho hall;have z2:=hJ2.2.1;have z5:=hJ2.b;have g0:=hJ2.a h0
   have g3:=hJ2.a h3
   have g9:=hJ2.a h9
   have c0:=hJ2.c k0 l0
   have HK:=fun i d h1 h2 v W2 hW hT hv hs=>show JqdO g C cx cy hf lv o c base Lz Wd w0 a0 (lq.setIfInBounds i true) (aq.put (some d) v) W2 from⟨hJ2.put hS i d h1 h2 hW hT v hv,hs⟩
   generalize JqdO g C cx cy hf lv o c base Lz Wd w0 a0=JJ at HK⊢
   clear hQ
   match iq,ho with
   | 0,ho=>
    cases ho;refine wpOp_of rfl rfl ?_;have hq:=fun(v:Value)=>hs.quiet 0 44 v (by decide) hl (by decide) (by decide);have f4:aq.tmps.getD 4 undef=o:=hs.1.k (hs.off (i:=0) (by decide) hl);rw[Array.getD_eq_getD_getElem?] at f4;have hK:=HK 0 44 rfl (by omega);generalize JJ _=K at hK⊢;clear ho hall hl HK hJ2 hS z2;go_simp;exact hK _ _ z5 (fun _ _ h=>h) rfl (hq _)
   | 1,ho=>
    cases ho;refine wpOp_of rfl rfl ?_;have hq:=fun(v:Value)=>hs.quiet 1 45 v (by decide) hl (by decide) (by decide);have eW:=hs.early hl;have c8:W.cell? ⟨C,0,none⟩=some (.int .i64 cx):=by rw[eW];exact hC0
    have c9:W.cell? ⟨C,1,none⟩=some (.int .i64 cy):=by rw[eW];exact hC1
    clear eW hWe hs;have hK:=HK 1 45 rfl (by omega);generalize JJ _=K at hK⊢;clear ho hall hl HK hJ2 hS z2;go_simp;exact hK _ _ z5 (fun _ _ h=>h) rfl (hq _)
   | 2,ho=>
    cases ho;refine wpOp_of rfl rfl ?_;have hq:=fun(v:Value)=>hs.quiet 2 46 v (by decide) hl (by decide) (by decide);have hK:=HK 2 46 rfl (by omega);generalize JJ _=K at hK⊢;clear ho hall hl HK hJ2 hS z2;go_simp;exact hK _ _ z5 (fun _ _ h=>h) rfl (hq _)
   | 3,ho=>
    cases ho;refine wpOp_of rfl rfl ?_;have hq:=fun(v:Value)=>hs.quiet 3 47 v (by decide) hl (by decide) (by decide);have hK:=HK 3 47 rfl (by omega);generalize JJ _=K at hK⊢;clear ho hall hl HK hJ2 hS z2;go_simp;exact hK _ _ z5 (fun _ _ h=>h) rfl (hq _)
   | 4,ho=>
    cases ho;refine wpOp_of rfl rfl ?_;have f3:_=Value.pointer (some ⟨g,0,none⟩):=hJ2.v hall 3 47;have hq:=fun(v:Value)=>hs.quiet 4 48 v (by decide) hl (by decide) (by decide);have hK:=HK 4 48 rfl (by omega);generalize JJ _=K at hK⊢;clear ho hall hl HK hJ2 hS z2;go_simp;exact hK _ _ z5 (fun _ _ h=>h) rfl (hq _)
   | 5,ho=>
    cases ho;refine wpOp_of rfl rfl ?_;have f4:_=Value.pointer (some ⟨g,0,none⟩):=hJ2.v hall 4 48;have hq:=fun(v:Value)=>hs.quiet 5 49 v (by decide) hl (by decide) (by decide);have hK:=HK 5 49 rfl (by omega);generalize JJ _=K at hK⊢;clear ho hall hl HK hJ2 hS z2;go_simp;exact hK _ _ z5 (fun _ _ h=>h) rfl (hq _)
   | 6,ho=>
    cases ho;refine wpOp_of rfl rfl ?_;have f5:_=Value.pointer (some ⟨g,3,none⟩):=hJ2.v hall 5 49;have hq:=fun(v:Value)=>hs.quiet 6 50 v (by decide) hl (by decide) (by decide);have hK:=HK 6 50 rfl (by omega);generalize JJ _=K at hK⊢;clear ho hall hl HK hJ2 hS z2;go_simp;exact hK _ _ z5 (fun _ _ h=>h) rfl (hq _)
   | 7,ho=>
    cases ho;refine wpOp_of rfl rfl ?_;have f6:_=Value.int .i64 lv:=hJ2.v hall 6 50;have hq:=fun(v:Value)=>hs.quiet 7 51 v (by decide) hl (by decide) (by decide);have hw:IntKind.i64.wrap (lv+1)=lv+1:=by rw[IntKind.wrap_i64];omega
    have hK:=HK 7 51 rfl (by omega);generalize JJ _=K at hK⊢;clear ho hall hl HK hJ2 hS z2;go_simp;exact hK _ _ z5 (fun _ _ h=>h) rfl (hq _)
   | 8,ho=>
    cases ho;refine wpOp_of rfl rfl ?_;have f1:_=Sp cx cy:=hJ2.v hall 1 45;have f2:_=Value.int .i64 hf:=hJ2.v hall 2 46;have f7:_=Value.int .i64 (lv+1):=hJ2.v hall 7 51;have hq:=fun(v:Value)=>hs.put8 v hl (hall ⟨1,.data⟩ (by simp) rfl);rw[Array.getD_eq_getD_getElem?] at f1 f2 f7;have hK:=HK 8 52 rfl (by omega);generalize JJ _=K at hK⊢;clear ho hall hl HK hJ2 hS z2;go_simp;exact hK _ _ z5 (fun _ _ h=>h) rfl (hq _)
   | 9,ho=>
    cases ho;refine wpOp_of rfl rfl ?_;have f8:_=Value.agg #[.int .i64 cx,.int .i64 cy,.int .i64 hf,.int .i64 (lv+1),.slice none 0 0,.slice none 0 0]:=hJ2.v hall 8 52;have h9:=getD_tf hl;have eW:W=Wd:=hs.1.w0 h9;have hq:∀u:Value,SqdO g C cx cy hf lv o c base Lz Wd (lq.setIfInBounds 9 true) (aq.put (some 53) u) (W.alloc (.cells #[.int .i64 cx,.int .i64 cy,.int .i64 hf,.int .i64 (lv+1),.slice none 0 0,.slice none 0 0] 83)):=fun u=>hs.put9 hl (hall ⟨8,.data⟩ (by simp) rfl) (u:=u) (by
     have H:=hs.1;have h10:lq.getD 10 false=false:=by cases e:lq.getD 10 false with | false=>rfl | true=>have:=H.o1 e;rw[h9] at this;cases this
     have h11:lq.getD 11 false=false:=by cases e:lq.getD 11 false with | false=>rfl | true=>have:=H.o2 e;rw[h10] at this;cases this
     rw[h10,h11,hs.off (i:=9) (by decide) hl];exact⟨(fun a=>by cases a),fun _ _=>by rw[eW],(fun a=>by cases a),(fun a=>by cases a),(fun a=>by cases a),(fun a=>by cases a),(fun a=>by cases a),fun _=>H.k (hs.off (i:=9) (by decide) hl),(fun a=>by cases a)⟩)
    have hp:Hid (W.heap.size=Wd.heap.size):=congrArg (fun w:World=>w.heap.size) eW;rw[Array.getD_eq_getD_getElem?] at f8;clear eW hWe hs;have hK:=HK 9 53 rfl (by omega);generalize JJ _=K at hK⊢;clear ho hall hl HK hJ2 hS z2;go_simp;exact hK _ _ (z5.alloc (by have:=z5.size;omega) _) (fun _ _ h=>h.same) (by show Value.pointer _=_;rw[hp.out]) (hq _)
   | 10,ho=>
    cases ho;refine wpOp_of rfl rfl ?_;have f9:_=Value.pointer (some ⟨Wd.heap.size,0,none⟩):=hJ2.v hall 9 53;have l9:=hall ⟨9,.data⟩ (by simp) rfl;have h10:=getD_tf hl;have eW:W=(Wd.alloc (.cells #[.int .i64 cx,.int .i64 cy,.int .i64 hf,.int .i64 (lv+1),.slice none 0 0,.slice none 0 0] 83)):=hs.1.w1 l9 h10;have hq:∀u:Value,SqdO g C cx cy hf lv o c base Lz Wd (lq.setIfInBounds 10 true) (aq.put (some 54) u) (W.alloc (.cells #[.pointer (some ⟨Wd.heap.size,0,none⟩)] 55)):=fun u=>hs.put10 hl (u:=u) (by
     have H:=hs.1;have h11:lq.getD 11 false=false:=by cases e:lq.getD 11 false with | false=>rfl | true=>have:=H.o2 e;rw[h10] at this;cases this
     rw[l9,h11,hs.off (i:=10) (by decide) hl];exact⟨(fun a=>by cases a),(fun _ a=>by cases a),fun _ _=>by rw[eW],(fun a=>by cases a),fun _=>rfl,(fun a=>by cases a),(fun a=>by cases a),fun _=>H.k (hs.off (i:=10) (by decide) hl),(fun a=>by cases a)⟩)
    have hp:Hid (W.heap.size=Wd.heap.size+1):=by show _=_;rw[eW];simp
    rw[Array.getD_eq_getD_getElem?] at f9;clear eW hWe hs;have hK:=HK 10 54 rfl (by omega);generalize JJ _=K at hK⊢;clear ho hall hl HK hJ2 hS z2;go_simp;exact hK _ _ (z5.alloc (by have:=z5.size;omega) _) (fun _ _ h=>h.same) (by show Value.slice _ _ _=_;rw[hp.out]) (hq _)
   | 11,ho=>
    cases ho;refine wpOp_of rfl rfl ?_;have f0:_=o:=hJ2.v hall 0 44;have f10:_=Value.slice (some ⟨Wd.heap.size+1,0,none⟩) 1 1:=hJ2.v hall 10 54;have l10:=hall ⟨10,.data⟩ (by simp) rfl;have h11:=getD_tf hl;have eW:W=((Wd.alloc (.cells #[.int .i64 cx,.int .i64 cy,.int .i64 hf,.int .i64 (lv+1),.slice none 0 0,.slice none 0 0] 83)).alloc (.cells #[.pointer (some ⟨Wd.heap.size,0,none⟩)] 55)):=hs.1.w2 l10 h11;have l9:=hs.1.o1 l10;have hq:∀(u:Value) (X:World),X.ownsRow base 55 1 u (c+1) (Lz ++[.pointer (some ⟨Wd.heap.size,0,none⟩)])→W.grownBy X o.ownBlock→(u.ownBlock=o.ownBlock∨u.ownBlock=some W.heap.size)→SqdO g C cx cy hf lv o c base Lz Wd (lq.setIfInBounds 11 true) (aq.put (some 55) u) X:=fun u X r1 r2 r3=>hs.put11 hl (by rw[z2,hz];decide) (u:=u) (by
     have H:=hs.1;rw[eW] at r2 r3;rw[l9,l10,hs.off (i:=11) (by decide) hl];exact⟨(fun a=>by cases a),(fun _ a=>by cases a),(fun _ a=>by cases a),fun _=>⟨r1,r2,r3⟩,fun _=>rfl,fun _=>rfl,(fun a=>by cases a),fun _=>H.k (hs.off (i:=11) (by decide) hl),(fun a=>by cases a)⟩)
    have hown:W.ownsRow base 55 1 o c Lz:=by rw[eW];exact ownA_step (hWe▸hown0) (((Below.refl _ Wd).alloc (Nat.le_refl _) _).alloc (by simp) _)
    have hcl:W.cell? ⟨Wd.heap.size+1,0,none⟩=some (.pointer (some ⟨Wd.heap.size,0,none⟩)):=by rw[eW];exact(Blk.new (Wd.alloc (.cells #[.int .i64 cx,.int .i64 cy,.int .i64 hf,.int .i64 (lv+1),.slice none 0 0,.slice none 0 0] 83)) [.pointer (some ⟨Wd.heap.size,0,none⟩)] 55 (g:=Wd.heap.size+1) (by simp)).c 0 rfl
    have hbs:base≤W.heap.size:=by have:=z5.size;omega
    clear eW hWe hs;have hK:=HK 11 55 rfl (by omega);generalize JJ _=K at hK⊢;clear ho hall hl HK hJ2 hS z2;refine wp_append_q (.tmp 44) (.tmp 54) 81 rfl base 55 i0 (.pointer none) 1 8 Tryz.underlying81 hi0 hz0 hz1 hz2 rfl (by decide) _ c _ f0 hown ⟨Wd.heap.size+1,0,none⟩ 1 1 [.pointer (some ⟨Wd.heap.size,0,none⟩)] f10 rfl (fun j u hj=>by rw[Addr.add_lit,Nat.zero_add];match j,hj with | 0,hj=>cases hj;exact hcl | j+1,hj=>simp at hj) (fun u hu=>by simp only[List.mem_singleton] at hu;subst hu;rfl) (by unfold maxLen;omega) (by omega) hbs ?_;intro v1 X r1 r2 r3;exact hK _ _ (z5.grown r2 hbs (fun k hk=>(hown.lt k hk).1)) (fun _ _ h=>h.same) trivial (hq _ _ r1 r2 r3)
   | 12,ho=>
    cases ho;refine wpOp_of rfl rfl ?_;have f11:True:=hJ2.v hall 11 55;have hq:SqdO g C cx cy hf lv o c base Lz Wd (lq.setIfInBounds 12 true) (aq.put (some 4) (aq.tmps.getD 55 undef)) W:=hs.put12 hl (by rw[z2,hz];decide) (fun j hj hn=>match j,hj,hn with | 0,_,_=>hall ⟨0,.phase⟩ (by simp) rfl | 1,_,_=>hall ⟨1,.phase⟩ (by simp) rfl | 2,_,_=>hall ⟨2,.phase⟩ (by simp) rfl | 3,_,_=>hall ⟨3,.phase⟩ (by simp) rfl | 4,_,_=>hall ⟨4,.phase⟩ (by simp) rfl | 5,_,_=>hall ⟨5,.phase⟩ (by simp) rfl | 6,_,_=>hall ⟨6,.phase⟩ (by simp) rfl | 7,_,_=>hall ⟨7,.phase⟩ (by simp) rfl | 8,_,_=>hall ⟨8,.phase⟩ (by simp) rfl | 9,_,_=>hall ⟨9,.phase⟩ (by simp) rfl | 10,_,_=>hall ⟨10,.phase⟩ (by simp) rfl | 11,_,_=>hall ⟨11,.data⟩ (by simp) rfl | 12,_,hn=>absurd rfl hn | j+13,hj,_=>absurd hj (by omega));clear hs hWe;have hK:=HK 12 4 rfl (by omega);generalize JJ _=K at hK⊢;clear ho hall hl HK hJ2 hS z2;rw[Array.getD_eq_getD_getElem?] at hq;go_simp;exact hK _ _ z5 (fun _ _ h=>h) trivial hq
   | iq+13,ho=>simp at ho
 · intro lq aq W ⟨hJ,hs⟩ hr;obtain⟨z1,z2,z3,z4,z5,z6,z7⟩:=hJ;have hl:=listed_of hr [0,1,2,3,4,5,6,7,8,9,10,11,12] [] (by simp) (by kernel_rfl) (by rw[z1];decide);exact hQ aq W z2 z3 (fun e he=>z4 e (by simpa using he)) (z6 12 4 (hl 12 (by simp)) rfl) z5 (by have h12:=hl 12 (by simp);rw[hs.1.e h12];exact hs.1.r (hs.1.o3 h12))
def gpL (gs:Nat→Nat) (c:Nat):List Value:=(List.range c).map fun k=>Value.pointer (some ⟨gs k,0,none⟩)
structure KdS (base:Nat) (x y hf lv:Int) (w:World) (o:Value) (c:Nat) (gs:Nat→Nat):Prop where
 own:w.ownsRow base 55 1 o c (gpL gs c)
 kid:∀k,k<c→base≤gs k∧BkB w (gs k) (kX x hf k) (kY y hf k) hf (lv+1) (.slice none 0 0) (.slice none 0 0)
 d1:∀k,k<c→o.ownBlock≠some (gs k)
 d2:∀i j,i<c→j<c→i≠j→gs i≠gs j
theorem KdS.nil (base:Nat) (x y hf lv:Int) (w:World) (gs:Nat→Nat):KdS base x y hf lv w (.slice none 0 0) 0 gs:=⟨World.ownsRow_nil _ _ _ _,fun _ h=>absurd h (by omega),fun _ h=>absurd h (by omega),fun _ _ h=>absurd h (by omega)⟩
theorem KdS.step {base:Nat} {x y hf lv:Int} {w w' :World} {o:Value} {c:Nat} {gs:Nat→Nat} (h:KdS base x y hf lv w o c gs) (hB:Below w.heap.size w w'):KdS base x y hf lv w' o c gs:=
 ⟨ownA_step h.own hB,fun k hk=>⟨(h.kid k hk).1,(h.kid k hk).2.step hB⟩,h.d1,h.d2⟩
def setG (gs:Nat→Nat) (c N k:Nat):Nat:=if k=c then N else gs k
theorem gpL_more (gs:Nat→Nat) (c N:Nat):gpL (setG gs c N) (c+1)=gpL gs c ++[.pointer (some ⟨N,0,none⟩)]:=by
 unfold gpL;rw[List.range_succ,List.map_append]
 congr 1
 · refine List.map_congr_left fun k hk=>?_;have:=List.mem_range.1 hk;unfold setG;rw[if_neg (by omega)]
 · simp[setG]
theorem KdS.more {base:Nat} {x y hf lv:Int} {w w' :World} {o o' :Value} {c N:Nat} {gs:Nat→Nat} (h:KdS base x y hf lv w o c gs) (hN:base≤N) (hB:BkB w N (kX x hf c) (kY y hf c) hf (lv+1) (.slice none 0 0) (.slice none 0 0)) (hoN:o.ownBlock≠some N) (hgN:∀k,k<c→gs k≠N)
 (hg:w.grownBy w' o.ownBlock) (hn:w'.ownsRow base 55 1 o' (c+1) (gpL gs c ++[.pointer (some ⟨N,0,none⟩)])) (ho:o'.ownBlock=o.ownBlock∨o'.ownBlock=some w.heap.size):KdS base x y hf lv w' o' (c+1) (setG gs c N):=by
 have hs:∀k,k<c→setG gs c N k=gs k:=fun k hk=>if_neg (by omega);have hc:setG gs c N c=N:=if_pos rfl;refine⟨by rw[gpL_more];exact hn,fun k hk=>?_,fun k hk e=>?_,fun i j hi hj hne=>?_⟩
 · rcases Nat.lt_or_ge k c with e | e
   · rw[hs k e];exact⟨(h.kid k e).1,(h.kid k e).2.grown hg (fun e2=>h.d1 k e e2.symm)⟩
   · obtain rfl:k=c:=by omega
     rw[hc];exact⟨hN,hB.grown hg (fun e2=>hoN e2.symm)⟩
 · rcases Nat.lt_or_ge k c with e1 | e1
   · rw[hs k e1] at e
     rcases ho with h1 | h1
     · rw[h1] at e;exact h.d1 k e1 e
     · rw[h1] at e;have:=Option.some.inj e;have:=(h.kid k e1).2.lt;omega
   · obtain rfl:k=c:=by omega
     rw[hc] at e
     rcases ho with h1 | h1
     · rw[h1] at e;exact hoN e
     · rw[h1] at e;have:=Option.some.inj e;have:=hB.lt;omega
 · rcases Nat.lt_or_ge i c with e1 | e1<;>rcases Nat.lt_or_ge j c with e2 | e2
   · rw[hs i e1,hs j e2];exact h.d2 i j e1 e2 hne
   · obtain rfl:j=c:=by omega
     rw[hs i e1,hc];exact hgN i e1
   · obtain rfl:i=c:=by omega
     rw[hs j e2,hc];exact Ne.symm (hgN j e2)
   · omega
theorem Tryz.infoPB:(Tryz.prog.info? 55).map (fun i=>(i.zero,i.size,i.bytes))=some (some (.pointer none),1,8):=by kernel_rfl
theorem info_pb:∃i0,Tryz.prog.info? 55=some i0∧i0.zero=some (.pointer none)∧i0.size=1∧i0.bytes=8:=by
 obtain⟨i,hi,hz⟩:=Option.map_eq_some_iff.1 Tryz.infoPB;simp only[Prod.mk.injEq] at hz;exact⟨i,hi,hz.1,hz.2.1,hz.2.2⟩
theorem half_cell {w:World} {g:Nat} {hf:Int} (h:Blk w g [.int .i64 0,.int .i64 hf]) {a:Nat} (ha:a<2):w.cell? ⟨g,a,none⟩=some (.int .i64 ((a:Int)*hf)):=by
 rcases(show a=0∨a=1 by omega) with e | e<;>subst e
 · simpa using h.c 0 rfl
 · simpa using h.c 1 rfl
theorem half_in {hf:Int} (h:0≤hf) {a:Nat} (ha:a<2):0≤(a:Int)*hf∧(a:Int)*hf≤hf:=by
 rcases(show a=0∨a=1 by omega) with e | e<;>subst e<;>simp<;>omega
theorem quarters_any (g:Nat) (x y s lv:Int) (ids kids:Value) (hq:Sq x y s) (hlv1:0≤lv) (hlv2:lv≤1000) (w:World) (B0:BkB w g x y s lv ids kids):Calls Tryz.prog 67 #[.pointer (some ⟨g,0,none⟩)] w (fun r w' =>∃v gs,r= .returned v∧KdS w.heap.size x y (s / 2) lv w' v 4 gs∧Below w.heap.size w w'):=by
 obtain⟨i0,hi0,hz0,hz1,hz2⟩:=info_pb;have hg:=B0.lt;have q1:=hq.x1;have q2:=hq.y1;have q3:=hq.s1;have q4:=hq.x2;have q5:=hq.y2;obtain⟨hf,hhf⟩:∃hf,s / 2=hf:=⟨_,rfl⟩;have hf1:0≤hf:=by omega
 have hf2:hf≤1048576:=by omega
 rw[hhf];have htd:s.tdiv 2=hf:=by rw[Int.tdiv_eq_ediv_of_nonneg q3,hhf]
 have m2:=B0.c 2 rfl;have E0:Blk (w.alloc (.cells #[.int .i64 0,.int .i64 hf] 2)) w.heap.size [.int .i64 0,.int .i64 hf]:=Blk.new w [.int .i64 0,.int .i64 hf] 2 rfl;have HB0:Below w.heap.size w (w.alloc (.cells #[.int .i64 0,.int .i64 hf] 2)):=(Below.refl _ w).alloc (Nat.le_refl _) _
 go_enter Tryz.func67,Tryz.ntmps67
 go_wp2_with fail
 go_loopw [4,18] (fun o i wr=>∃(a:Nat) (gs:Nat→Nat),a≤2∧i= .int .i64 a∧KdS w.heap.size x y hf lv wr o (2*a) gs∧Blk wr w.heap.size [.int .i64 0,.int .i64 hf]∧o.ownBlock≠some w.heap.size∧Below w.heap.size w wr) (fun _ i _=>2-(intOf i).toNat)
 case atStart=>exact⟨0,fun _=>0,by omega,rfl,KdS.nil _ _ _ _ _ _ _,E0,(fun e=>by cases e),HB0⟩
 case round=>
  clear E0 HB0 m2;obtain⟨a,gs,ha,rfl,HK,HE,hoE,HB⟩:=hrel
  by_cases ha2:a<2
  · have haI:(a:Int)<2:=by omega
    have ca:=half_cell HE ha2;have ua:=half_in hf1 ha2;obtain⟨U,hU⟩:∃U,(a:Int)*hf=U:=⟨_,rfl⟩;rw[hU] at ca ua;have HU:Hid ((a:Int)*hf=U):=hU;clear hU;obtain⟨u1,u2⟩:=ua;have F0:Blk (wr.alloc (.cells #[.int .i64 0,.int .i64 hf] 2)) wr.heap.size [.int .i64 0,.int .i64 hf]:=Blk.new wr [.int .i64 0,.int .i64 hf] 2 rfl;have HF0:Below wr.heap.size wr (wr.alloc (.cells #[.int .i64 0,.int .i64 hf] 2)):=(Below.refl _ wr).alloc (Nat.le_refl _) _;have hoF:u4.ownBlock≠some wr.heap.size:=fun e=>by have:=(HK.own.lt _ e).2;omega
    replace HK:=HK.step HF0;replace HE:=HE.step HF0;replace HB:=HB.trans (HF0.mono HB.size);clear HF0;go_wp2_with fail;clear ca
    go_loopw [4,25] (fun o i wi=>∃(b:Nat) (gs:Nat→Nat),b≤2∧i= .int .i64 b∧KdS w.heap.size x y hf lv wi o (2*a+b) gs∧Blk wi w.heap.size [.int .i64 0,.int .i64 hf]∧o.ownBlock≠some w.heap.size∧Blk wi wr.heap.size [.int .i64 0,.int .i64 hf]∧o.ownBlock≠some wr.heap.size∧Below w.heap.size w wi) (fun _ i _=>2-(intOf i).toNat)
    case atStart=>exact⟨0,gs,by omega,rfl,HK,HE,hoE,F0,hoF,HB⟩
    case round=>
     clear HK HE HB F0 hoE hoF
     rename_i hrel
     obtain⟨b,gs,hb,rfl,HK,HE,hoE,HF,hoF,HB⟩:=hrel
     by_cases hb2:b<2
     · have hbI:(b:Int)<2:=by omega
       have cb:=half_cell HF hb2;have ub:=half_in hf1 hb2;obtain⟨R,hR⟩:∃R,(b:Int)*hf=R:=⟨_,rfl⟩;rw[hR] at cb ub;have HR:Hid ((b:Int)*hf=R):=hR;clear hR;obtain⟨r1,r2⟩:=ub;have BG:=B0.step HB
       rename World=>wi
       go_upto_region 9 with fail;have gl:g<wi.heap.size:=Nat.lt_of_lt_of_le hg HB.size;have ekx:Hid (kX x hf (2*a+b)=x+R):=by show _=_;unfold kX;rw[show(2*a+b)%2=b by omega,HR.out]
       have eky:Hid (kY y hf (2*a+b)=y+U):=by show _=_;unfold kY;rw[show(2*a+b) / 2=a by omega,HU.out]
       refine qdN (g:=g) (x:=x) (y:=y) (u:=U) (r:=R) (Wd:=wi.drew) q1 (by omega) q2 (by omega) r1 (by omega) u1 (by omega) (Nat.le_refl _) rfl rfl rfl rfl (BG.c 0 rfl) gl (BG.c 1 rfl) gl rfl ?_;rintro⟨tm,df⟩ Wz hz hdf hoff h9 _ hBz hWz;simp only at hz hdf hoff h9;change tm.getD 9 undef= .pointer (some ⟨wi.heap.size,0,none⟩) at h9;subst hdf;have htm:=tmps_fold [29,30,31,32,33,34,35,36,37,38,39,40,41,42,43,9] tm _ hz hoff;simp only[List.foldl,List.setIfInBounds_toArray,List.set_cons_zero,List.set_cons_succ,h9] at htm;clear hz hoff;generalize tm.getD 29 undef=pz0,tm.getD 30 undef=pz1,tm.getD 31 undef=pz2,tm.getD 32 undef=pz3,tm.getD 33 undef=pz4,tm.getD 34 undef=pz5,tm.getD 35 undef=pz6,tm.getD 36 undef=pz7,tm.getD 37 undef=pz8,tm.getD 38 undef=pz9,tm.getD 39 undef=pz10,tm.getD 40 undef=pz11,tm.getD 41 undef=pz12,tm.getD 42 undef=pz13,tm.getD 43 undef=pz14 at htm;clear h9;subst htm;have C0:Blk Wz wi.heap.size [.int .i64 (x+R),.int .i64 (y+U)]:=by
        rw[hWz];exact((Blk.new wi.drew [.int .i64 0,.int .i64 0] 29 rfl).setI 0 (by decide) (.int .i64 (x+R))).setI 1 (by simp) (.int .i64 (y+U))
       have hsz:Wz.heap.size=wi.heap.size+1:=by rw[hWz];simp[World.setCell]
       clear hWz cb;replace HK:=HK.step hBz;replace HE:=HE.step hBz;replace HF:=HF.step hBz;replace BG:=BG.step hBz;replace HB:=HB.trans (hBz.mono HB.size);clear hBz;go_upto_region 10 with fail;refine qdO (i0:=i0) (g:=g) (C:=wi.heap.size) (cx:=x+R) (cy:=y+U) (hf:=hf) (lv:=lv) (o:=u4) (c:=2*a+b) (base:=w.heap.size) (Lz:=gpL gs (2*a+b)) (Wd:=Wz.drew) hi0 hz0 hz1 hz2 hlv1 hlv2 (by omega) HB.size HK.own rfl (C0.c 0 rfl) (C0.c 1 rfl) rfl rfl rfl rfl (BG.c 3 rfl) hg rfl ?_;rintro⟨tm,df⟩ Wy hz hdf hoff _ _ ⟨r3,r4,r5⟩;simp only at hz hdf hoff;change Wy.ownsRow w.heap.size 55 1 (tm.getD 4 undef) (2*a+b+1) _ at r3;change (tm.getD 4 undef).ownBlock=_∨(tm.getD 4 undef).ownBlock=_ at r5;subst hdf;generalize h4:tm.getD 4 undef=o4 at r3 r5;have htm:=tmps_fold [44,45,46,47,48,49,50,51,52,53,54,55,4] tm _ hz hoff;simp only[List.foldl,List.setIfInBounds_toArray,List.set_cons_zero,List.set_cons_succ,h4] at htm;clear hz hoff;generalize tm.getD 44 undef=py0,tm.getD 45 undef=py1,tm.getD 46 undef=py2,tm.getD 47 undef=py3,tm.getD 48 undef=py4,tm.getD 49 undef=py5,tm.getD 50 undef=py6,tm.getD 51 undef=py7,tm.getD 52 undef=py8,tm.getD 53 undef=py9,tm.getD 54 undef=py10,tm.getD 55 undef=py11 at htm;clear h4;subst htm;have HW2:Below Wz.heap.size Wz ((Wz.drew.alloc (.cells #[.int .i64 (x+R),.int .i64 (y+U),.int .i64 hf,.int .i64 (lv+1),.slice none 0 0,.slice none 0 0] 83)).alloc (.cells #[.pointer (some ⟨Wz.drew.heap.size,0,none⟩)] 55)):=((Below.refl Wz.heap.size Wz).drew.alloc (Nat.le_refl _) _).alloc (by simp) _;have hs2:((Wz.drew.alloc (.cells #[.int .i64 (x+R),.int .i64 (y+U),.int .i64 hf,.int .i64 (lv+1),.slice none 0 0,.slice none 0 0] 83)).alloc (.cells #[.pointer (some ⟨Wz.drew.heap.size,0,none⟩)] 55)).heap.size=Wz.heap.size+2:=by simp
       have hwl:=HB.size;have hu4:∀k,u4.ownBlock=some k→w.heap.size≤k∧k<Wz.heap.size:=fun k hk=>HK.own.lt k hk;have BN:BkB ((Wz.drew.alloc (.cells #[.int .i64 (x+R),.int .i64 (y+U),.int .i64 hf,.int .i64 (lv+1),.slice none 0 0,.slice none 0 0] 83)).alloc (.cells #[.pointer (some ⟨Wz.drew.heap.size,0,none⟩)] 55)) Wz.heap.size (kX x hf (2*a+b)) (kY y hf (2*a+b)) hf (lv+1) (.slice none 0 0) (.slice none 0 0):=by
        rw[ekx.out,eky.out];exact(Blk.new Wz.drew [.int .i64 (x+R),.int .i64 (y+U),.int .i64 hf,.int .i64 (lv+1),.slice none 0 0,.slice none 0 0] 83 rfl).alloc _
       have HKN:=(HK.step HW2).more hwl BN (fun e=>by have:=hu4 _ e;omega) (fun k hk e=>by have:=(HK.kid k hk).2.lt;omega) r4 r3 r5;have HEN:=(HE.step HW2).grown r4 (Ne.symm hoE);have HFN:=(HF.step HW2).grown r4 (Ne.symm hoF);have hfl:=HF.lt;have hoE2:o4.ownBlock≠some w.heap.size:=fun e=>by
        rcases r5 with h | h
        · rw[h] at e;exact hoE e
        · rw[h,hs2] at e;have:=Option.some.inj e;omega
       have hoF2:o4.ownBlock≠some wr.heap.size:=fun e=>by
        rcases r5 with h | h
        · rw[h] at e;exact hoF e
        · rw[h,hs2] at e;have:=Option.some.inj e;omega
       have HBN:=(HB.trans (HW2.mono hwl)).grown r4 (by rw[hs2];omega) (fun k hk=>(hu4 k hk).1);clear HK HE HF HB BG C0 r3 r4 r5 HW2 BN;go_wp2;go_roundw
       case rel=>exact⟨b+1,_,by omega,by go_num,HKN,HEN,hoE2,HFN,hoF2,HBN⟩
       case measure=>simp[intOf];omega
     · obtain rfl:b=2:=by omega
       go_wp2;go_roundw
       case rel=>exact⟨a+1,gs,by omega,by go_num,by rw[show 2*(a+1)=2*a+2 by omega];exact HK,HE,hoE,HB⟩
       case measure=>simp[intOf];omega
  · obtain rfl:a=2:=by omega
    go_wp2;go_ret;exact⟨_,gs,rfl,HK,HB⟩
end Go.Proofs.YthelolpogdcmhaaGreat
