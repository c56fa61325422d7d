/- Part 5 of the walks that the proof leans on. -/
import Derived.Test.YthelolpogdcmhaaGreatQx4
set_option maxRecDepth 100000
set_option maxHeartbeats 16000000
namespace Go.Proofs.YthelolpogdcmhaaGreat
open Go.RowKit
def RestV (A ra n ca:Nat) (v:Value):Prop:=∃ad,v= .slice ad (n-1) (ca-1)∧(1<n→ad=some ⟨A,ra+5,none⟩)
def VqrA (A ra n ca:Nat) (bx by_ bz:Int) (bt:Bool) (bo:Option Addr) (bl bc:Nat) (Wd:World) (_B:Nat):Nat→Value→World→Prop
 | 0,v,_=>v= .slice (some ⟨A,ra,none⟩) n ca
 | 1,v,_=>v= .pointer (some ⟨A,ra,none⟩)
 | 2,v,_=>v= .agg #[.int .i64 bx,.int .i64 by_,.int .i64 bz,.bool bt,.slice bo bl bc]
 | 3,v,_=>v= .slice (some ⟨A,ra,none⟩) n ca
 | 4,v,_=>RestV A ra n ca v
 | 5,v,_=>v= .pointer (some ⟨Wd.heap.size,0,none⟩)
 | 7,v,_=>RestV A ra n ca v
 | _,_,_=>True
theorem VqrA.same {A ra n ca:Nat} {bx by_ bz:Int} {bt:Bool} {bo:Option Addr} {bl bc:Nat} {Wd:World} {B j:Nat} {v:Value} {W W2:World} (h:VqrA A ra n ca bx by_ bz bt bo bl bc Wd B j v W):VqrA A ra n ca bx by_ bz bt bo bl bc Wd B j v W2:=by
 unfold VqrA at *
 split<;>simp only at h<;>first | exact h | trivial
def SqrA (_A _ra _n _ca:Nat) (bx by_ bz:Int) (bt:Bool) (bo:Option Addr) (bl bc:Nat) (Wd:World) (lz:Array Bool) (_az:Act) (W:World):Prop:=(lz.getD 5 false=false→W=Wd)∧(lz.getD 5 false=true→lz.getD 6 false=false→W=(Wd.alloc (.cells #[.int .i64 0,.int .i64 0,.int .i64 0,.bool false,.slice none 0 0] 102)))∧(lz.getD 6 false=true→W=((((((Wd.alloc (.cells #[.int .i64 0,.int .i64 0,.int .i64 0,.bool false,.slice none 0 0] 102)).setCell ⟨Wd.heap.size,0,none⟩ (.int .i64 bx)).setCell ⟨Wd.heap.size,1,none⟩ (.int .i64 by_)).setCell ⟨Wd.heap.size,2,none⟩ (.int .i64 bz)).setCell ⟨Wd.heap.size,3,none⟩ (.bool bt)).setCell ⟨Wd.heap.size,4,none⟩ (.slice bo bl bc)))∧(lz.getD 6 false=true→lz.getD 5 false=true)
def JqrA (A ra n ca:Nat) (bx by_ bz:Int) (bt:Bool) (bo:Option Addr) (bl bc:Nat) (Wd:World) (w0:World) (a0:Act) (lz:Array Bool) (az:Act) (W:World):Prop:=InvQ (w0.heap.size) [some 27,some 28,some 29,some 30,some 31,some 10,none,some 11] (VqrA A ra n ca bx by_ bz bt bo bl bc Wd (w0.heap.size)) w0 a0 lz az W∧SqrA A ra n ca bx by_ bz bt bo bl bc Wd lz az W
theorem qrA {Q:Exit→Act→World→Prop} {A ra n ca:Nat} {bx by_ bz:Int} {bt:Bool} {bo:Option Addr} {bl bc:Nat} {Wd:World} {w0:World} {a0:Act} {idq:Nat} {t0 t1 t2 t3 t4 t5 t6 t7:TypeId} {q0 q1 q2 q3 q4 q5 q6 q7:String}
 (hn:0<n) (hnc:n≤ca) (hnb:n≤1048576) (hWd:w0.heap.size≤Wd.heap.size) (hWe:Wd=w0.drew) (h1:a0.tmps[1]? =some (.slice (some ⟨A,ra,none⟩) n ca)) (k0:w0.cell? ⟨A,ra,none⟩=some (.int .i64 bx)) (l0:(⟨A,ra,none⟩:Addr).block<w0.heap.size) (k1:w0.cell? ⟨A,ra+1,none⟩=some (.int .i64 by_)) (l1:(⟨A,ra+1,none⟩:Addr).block<w0.heap.size) (k2:w0.cell? ⟨A,ra+2,none⟩=some (.int .i64 bz)) (l2:(⟨A,ra+2,none⟩:Addr).block<w0.heap.size) (k3:w0.cell? ⟨A,ra+3,none⟩=some (.bool bt)) (l3:(⟨A,ra+3,none⟩:Addr).block<w0.heap.size) (k4:w0.cell? ⟨A,ra+4,none⟩=some (.slice bo bl bc)) (l4:(⟨A,ra+4,none⟩:Addr).block<w0.heap.size) (hz:a0.tmps.size=98)
 (hQ:∀aq W,aq.tmps.size=a0.tmps.size→aq.defers=a0.defers→(∀e,e∉([27,28,29,30,31,10,11]:List Nat)→aq.tmps[e]? =a0.tmps[e]?)→VqrA A ra n ca bx by_ bz bt bo bl bc Wd (w0.heap.size) 5 (aq.tmps.getD 10 undef) W→VqrA A ra n ca bx by_ bz bt bo bl bc Wd (w0.heap.size) 7 (aq.tmps.getD 11 undef) W→Below (w0.heap.size) w0 W→(W=((((((Wd.alloc (.cells #[.int .i64 0,.int .i64 0,.int .i64 0,.bool false,.slice none 0 0] 102)).setCell ⟨Wd.heap.size,0,none⟩ (.int .i64 bx)).setCell ⟨Wd.heap.size,1,none⟩ (.int .i64 by_)).setCell ⟨Wd.heap.size,2,none⟩ (.int .i64 bz)).setCell ⟨Wd.heap.size,3,none⟩ (.bool bt)).setCell ⟨Wd.heap.size,4,none⟩ (.slice bo bl bc)))→Q .normal aq W) :
 (Code.region idq #[⟨some 27,.move (.tmp 1),t0,q0,#[],none⟩,
 ⟨some 28,.indexAddr 25 (.tmp 27) (.const (.int .i64 0)),t1,q1,#[⟨0,.data⟩],none⟩,
 ⟨some 29,.load 102 (.tmp 28),t2,q2,#[⟨1,.data⟩],none⟩,
 ⟨some 30,.move (.tmp 1),t3,q3,#[],none⟩,
 ⟨some 31,.slice 25 (.tmp 30) (some (.const (.int .i64 1))) none none,t4,q4,#[⟨3,.data⟩],none⟩,
 ⟨some 10,.alloc 102,t5,q5,#[],none⟩,
 ⟨none,.store 102 (.tmp 10) (.tmp 29),t6,q6,#[⟨5,.data⟩,⟨2,.data⟩,⟨0,.phase⟩,⟨1,.phase⟩,⟨2,.phase⟩,⟨3,.textOnly .lateStores⟩,⟨4,.textOnly .lateStoresUnsure⟩,⟨5,.phase⟩],none⟩,
 ⟨some 11,.assign (.tmp 31),t7,q7,#[⟨4,.data⟩,⟨6,.chain⟩,⟨0,.phase⟩,⟨1,.phase⟩,⟨2,.phase⟩,⟨3,.phase⟩,⟨4,.phase⟩,⟨5,.phase⟩,⟨6,.phase⟩],none⟩] true).wp Tryz.prog Q a0 w0:=by
 have hS:distS [some 27,some 28,some 29,some 30,some 31,some 10,none,some 11]=true:=rfl;refine wp_region_inv (by kernel_rfl) (JqrA A ra n ca bx by_ bz bt bo bl bc Wd w0 a0) ⟨⟨rfl,rfl,rfl,fun _ _=>rfl,(Below.refl _ w0).drew,fun j d hj=>?_,fun j hj=>?_⟩,⟨fun _=>hWe.symm,(fun h=>by rw[replD] at h;cases h),(fun h=>by rw[replD] at h;cases h),(fun h=>by rw[replD] at h;cases h)⟩⟩ ?_ ?_
 · exfalso
   rw[Array.getD_eq_getD_getElem?,Array.getElem?_replicate] at hj
   split at hj<;>simp at hj
 · exfalso
   rw[Array.getD_eq_getD_getElem?,Array.getElem?_replicate] at hj
   split at hj<;>simp at hj
 · intro lq aq W iq oq ⟨hJ2,hs⟩ hl ho hall;have z5:=hJ2.b;have g1:=hJ2.a h1
   have c0:=hJ2.c k0 l0;have c1:=hJ2.c k1 l1;have c2:=hJ2.c k2 l2;have c3:=hJ2.c k3 l3;have c4:=hJ2.c k4 l4
   have HK:=fun i d h1 h2 v W2 hW hT hv hs=>show JqrA A ra n ca bx by_ bz bt bo bl bc Wd w0 a0 (lq.setIfInBounds i true) (aq.put (some d) v) W2 from⟨hJ2.put hS i d h1 h2 hW hT v hv,hs⟩
   have HW:=fun i h1 W2 hW hT hv hs=>show JqrA A ra n ca bx by_ bz bt bo bl bc Wd w0 a0 (lq.setIfInBounds i true) aq W2 from⟨hJ2.world i h1 (W' :=W2) hW hT hv,hs⟩
   generalize JqrA A ra n ca bx by_ bz bt bo bl bc Wd w0 a0=JJ at HK HW⊢
   clear hQ
   match iq,ho with
   | 0,ho=>
    cases ho;refine wpOp_of rfl rfl ?_;have hq:∀v:Value,SqrA A ra n ca bx by_ bz bt bo bl bc Wd (lq.setIfInBounds 0 true) (aq.put (some 27) v) W:=fun v=>⟨by rw[gn 0 5];exact hs.1,by rw[gn 0 5,gn 0 6];exact hs.2.1,by rw[gn 0 6];exact hs.2.2.1,by rw[gn 0 5,gn 0 6];exact hs.2.2.2⟩;clear hWe;have hK:=HK 0 27 rfl (by omega);generalize JJ _=K at hK⊢;clear ho hall hl HK HW hJ2 hS;go_simp;exact hK _ _ z5 (fun _ _ h=>h) rfl (hq _)
   | 1,ho=>
    cases ho;refine wpOp_of rfl rfl ?_;have f0:_=Value.slice (some ⟨A,ra,none⟩) n ca:=hJ2.v hall 0 27;have hq:∀v:Value,SqrA A ra n ca bx by_ bz bt bo bl bc Wd (lq.setIfInBounds 1 true) (aq.put (some 28) v) W:=fun v=>⟨by rw[gn 1 5];exact hs.1,by rw[gn 1 5,gn 1 6];exact hs.2.1,by rw[gn 1 6];exact hs.2.2.1,by rw[gn 1 5,gn 1 6];exact hs.2.2.2⟩;clear hWe;have hnI:(0:Int)<n:=by omega
    have hK:=HK 1 28 rfl (by omega);generalize JJ _=K at hK⊢;clear ho hall hl HK HW hJ2 hS;go_simp;exact hK _ _ z5 (fun _ _ h=>h) rfl (hq _)
   | 2,ho=>
    cases ho;refine wpOp_of rfl rfl ?_;have f1:_=Value.pointer (some ⟨A,ra,none⟩):=hJ2.v hall 1 28;have hq:∀v:Value,SqrA A ra n ca bx by_ bz bt bo bl bc Wd (lq.setIfInBounds 2 true) (aq.put (some 29) v) W:=fun v=>⟨by rw[gn 2 5];exact hs.1,by rw[gn 2 5,gn 2 6];exact hs.2.1,by rw[gn 2 6];exact hs.2.2.1,by rw[gn 2 5,gn 2 6];exact hs.2.2.2⟩;clear hWe;have hK:=HK 2 29 rfl (by omega);generalize JJ _=K at hK⊢;clear ho hall hl HK HW hJ2 hS;go_simp;exact hK _ _ z5 (fun _ _ h=>h) rfl (hq _)
   | 3,ho=>
    cases ho;refine wpOp_of rfl rfl ?_;have hq:∀v:Value,SqrA A ra n ca bx by_ bz bt bo bl bc Wd (lq.setIfInBounds 3 true) (aq.put (some 30) v) W:=fun v=>⟨by rw[gn 3 5];exact hs.1,by rw[gn 3 5,gn 3 6];exact hs.2.1,by rw[gn 3 6];exact hs.2.2.1,by rw[gn 3 5,gn 3 6];exact hs.2.2.2⟩;clear hWe;have hK:=HK 3 30 rfl (by omega);generalize JJ _=K at hK⊢;clear ho hall hl HK HW hJ2 hS;go_simp;exact hK _ _ z5 (fun _ _ h=>h) rfl (hq _)
   | 4,ho=>
    cases ho;refine wpOp_of rfl rfl ?_;have f3:_=Value.slice (some ⟨A,ra,none⟩) n ca:=hJ2.v hall 3 30;have hq:∀v:Value,SqrA A ra n ca bx by_ bz bt bo bl bc Wd (lq.setIfInBounds 4 true) (aq.put (some 31) v) W:=fun v=>⟨by rw[gn 4 5];exact hs.1,by rw[gn 4 5,gn 4 6];exact hs.2.1,by rw[gn 4 6];exact hs.2.2.1,by rw[gn 4 5,gn 4 6];exact hs.2.2.2⟩;clear hWe;have hK:=HK 4 31 rfl (by omega);generalize JJ _=K at hK⊢;clear ho hall hl HK HW hJ2 hS;have hnI:(1:Int)≤n:=by omega
    go_simp
    by_cases e1:ca=1
    · rw[if_pos e1];exact hK _ _ z5 (fun _ _ h=>h) ⟨_,rfl,fun h=>absurd h (by omega)⟩ (hq _)
    · rw[if_neg e1];exact hK _ _ z5 (fun _ _ h=>h) ⟨_,rfl,fun _=>rfl⟩ (hq _)
   | 5,ho=>
    cases ho;refine wpOp_of rfl rfl ?_;have h5:=getD_tf hl;have eW:W=Wd:=hs.1 h5;have hq:∀v:Value,SqrA A ra n ca bx by_ bz bt bo bl bc Wd (lq.setIfInBounds 5 true) (aq.put (some 10) v) (W.alloc (.cells #[.int .i64 0,.int .i64 0,.int .i64 0,.bool false,.slice none 0 0] 102)):=fun v=>⟨(fun h=>by rw[getD_set_eq hl] at h;cases h),fun _ _=>by rw[eW],(fun h=>by rw[gn 5 6] at h;rw[hs.2.2.2 h] at h5;cases h5),fun _=>getD_set_eq hl⟩;have hp:Hid (W.heap.size=Wd.heap.size):=congrArg (fun w:World=>w.heap.size) eW;clear eW hWe hs;have hK:=HK 5 10 rfl (by omega);generalize JJ _=K at hK⊢;clear ho hall hl HK HW hJ2 hS;go_simp;exact hK _ _ (z5.alloc z5.size _) (fun _ _ h=>h.same) (by show Value.pointer _=_;rw[hp.out]) (hq _)
   | 6,ho=>
    cases ho;refine wpOp_of rfl rfl ?_;have f5:_=Value.pointer (some ⟨Wd.heap.size,0,none⟩):=hJ2.v hall 5 10;have f2:_=Value.agg #[.int .i64 bx,.int .i64 by_,.int .i64 bz,.bool bt,.slice bo bl bc]:=hJ2.v hall 2 29;have l5:=hall ⟨5,.data⟩ (by simp) rfl;have h6:=getD_tf hl;have eW:W=(Wd.alloc (.cells #[.int .i64 0,.int .i64 0,.int .i64 0,.bool false,.slice none 0 0] 102)):=hs.2.1 l5 h6;have xR:Blk W Wd.heap.size [.int .i64 0,.int .i64 0,.int .i64 0,.bool false,.slice none 0 0]:=by rw[eW];exact Blk.new Wd [.int .i64 0,.int .i64 0,.int .i64 0,.bool false,.slice none 0 0] 102 rfl
    have y0:=xR.c 0 rfl;have y1:=xR.c 1 rfl;have y2:=xR.c 2 rfl;have y3:=xR.c 3 rfl;have y4:=xR.c 4 rfl;have g0z:=xR.f 0 rfl;have g1z:=xR.f 1 rfl;have g2z:=xR.f 2 rfl;have g3z:=xR.f 3 rfl;have g4z:=xR.f 4 rfl;have hq:SqrA A ra n ca bx by_ bz bt bo bl bc Wd (lq.setIfInBounds 6 true) aq (((((W.setCell ⟨Wd.heap.size,0,none⟩ (.int .i64 bx)).setCell ⟨Wd.heap.size,1,none⟩ (.int .i64 by_)).setCell ⟨Wd.heap.size,2,none⟩ (.int .i64 bz)).setCell ⟨Wd.heap.size,3,none⟩ (.bool bt)).setCell ⟨Wd.heap.size,4,none⟩ (.slice bo bl bc)):=⟨(fun h=>by rw[gn 6 5,l5] at h;cases h),(fun _ h=>by rw[getD_set_eq hl] at h;cases h),fun _=>by rw[eW],fun _=>by rw[gn 6 5];exact l5⟩;clear eW hWe hs;have hK:=HW 6 rfl;generalize JJ _=K at hK⊢;clear ho hall hl HK HW hJ2 hS;go_simp;exact hK _ (((((z5.setCell (p:=⟨Wd.heap.size,0,none⟩) hWd _).setCell (p:=⟨Wd.heap.size,1,none⟩) hWd _).setCell (p:=⟨Wd.heap.size,2,none⟩) hWd _).setCell (p:=⟨Wd.heap.size,3,none⟩) hWd _).setCell (p:=⟨Wd.heap.size,4,none⟩) hWd _) (fun _ _ h=>h.same) trivial hq
   | 7,ho=>
    cases ho;refine wpOp_of rfl rfl ?_;have f4:RestV A ra n ca (aq.tmps.getD 31 undef):=hJ2.v hall 4 31;have hq:∀v:Value,SqrA A ra n ca bx by_ bz bt bo bl bc Wd (lq.setIfInBounds 7 true) (aq.put (some 11) v) W:=fun v=>⟨by rw[gn 7 5];exact hs.1,by rw[gn 7 5,gn 7 6];exact hs.2.1,by rw[gn 7 6];exact hs.2.2.1,by rw[gn 7 5,gn 7 6];exact hs.2.2.2⟩;clear hWe;rw[Array.getD_eq_getD_getElem?] at f4;have hK:=HK 7 11 rfl (by omega);generalize JJ _=K at hK⊢;clear ho hall hl HK HW hJ2 hS;go_simp;exact hK _ _ z5 (fun _ _ h=>h) f4 (hq _)
   | iq+8,ho=>simp at ho
 · intro lq aq W ⟨hJ,hs⟩ hr;obtain⟨z1,z2,z3,z4,z5,z6,z7⟩:=hJ;have hl:=listed_of hr [5,3,4,0,1,2,6,7] [] (by simp) (by kernel_rfl) (by rw[z1];decide);exact hQ aq W z2 z3 (fun e he=>z4 e (by simpa using he)) (z6 5 10 (hl 5 (by simp)) rfl) (z6 7 11 (hl 7 (by simp)) rfl) z5 (hs.2.2.1 (hl 6 (by simp)))
def VqrB (F g:Nat) (bx by_ x y:Int) (_B:Nat):Nat→Value→World→Prop
 | 0,v,_=>v= .pointer (some ⟨F,0,none⟩)
 | 1,v,_=>v= .int .i64 bx
 | 2,v,_=>v= .pointer (some ⟨F,1,none⟩)
 | 3,v,_=>v= .int .i64 by_
 | 4,v,_=>v=Sp bx by_
 | 5,v,_=>v= .pointer (some ⟨g,0,none⟩)
 | 6,v,_=>v= .pointer (some ⟨g,0,none⟩)
 | 7,v,_=>v= .pointer (some ⟨g,0,none⟩)
 | 8,v,_=>v=Sp x y
 | 9,v,_=>v= .bool true
 | 10,v,_=>v= .bool true
 | 11,v,_=>v=undef
 | 12,v,_=>v=undef
 | 13,v,_=>v=undef
 | 14,v,_=>v=undef
 | 15,v,_=>v=undef
 | 16,v,_=>v=undef
 | 17,v,_=>v=undef
 | 18,v,_=>v= .bool true
 | _,_,_=>True
theorem qrB {Q:Exit→Act→World→Prop} {F g:Nat} {bx by_ x y:Int} {w0:World} {a0:Act} {idq:Nat} {t0 t1 t2 t3 t4 t5 t6 t7 t8 t9 t10 t11 t12 t13 t14 t15 t16 t17 t18:TypeId} {q0 q1 q2 q3 q4 q5 q6 q7 q8 q9 q10 q11 q12 q13 q14 q15 q16 q17 q18:String}
 (hE:∀w,(Op.equalIn 10000 29 (.agg #[.int .i64 bx,.int .i64 by_]) (.agg #[.int .i64 x,.int .i64 y])).run Tryz.prog w= .ok false w) (h0:a0.tmps[0]? =some (.pointer (some ⟨g,0,none⟩))) (h10:a0.tmps[10]? =some (.pointer (some ⟨F,0,none⟩))) (k0:w0.cell? ⟨F,0,none⟩=some (.int .i64 bx)) (l0:(⟨F,0,none⟩:Addr).block<w0.heap.size) (k1:w0.cell? ⟨F,1,none⟩=some (.int .i64 by_)) (l1:(⟨F,1,none⟩:Addr).block<w0.heap.size) (k2:w0.cell? ⟨g,0,none⟩=some (.int .i64 x)) (l2:(⟨g,0,none⟩:Addr).block<w0.heap.size) (k3:w0.cell? ⟨g,1,none⟩=some (.int .i64 y)) (l3:(⟨g,1,none⟩:Addr).block<w0.heap.size) (hz:a0.tmps.size=98)
 (hQ:∀aq W,aq.tmps.size=a0.tmps.size→aq.defers=a0.defers→(∀e,e∉([32,33,34,35,36,37,38,39,40,41,42,43,44,45,46,47,48,49,50]:List Nat)→aq.tmps[e]? =a0.tmps[e]?)→VqrB F g bx by_ x y w0.heap.size 18 (aq.tmps.getD 50 undef) W→Below w0.heap.size w0 W→Q .normal aq W) :
 (Code.region idq #[⟨some 32,.fieldAddr 102 (.tmp 10) 0,t0,q0,#[],none⟩,
 ⟨some 33,.load 2 (.tmp 32),t1,q1,#[⟨0,.data⟩],none⟩,
 ⟨some 34,.fieldAddr 102 (.tmp 10) 1,t2,q2,#[],none⟩,
 ⟨some 35,.load 2 (.tmp 34),t3,q3,#[⟨2,.data⟩],none⟩,
 ⟨some 36,.build 29 #[(0,.tmp 33),(1,.tmp 35)],t4,q4,#[⟨1,.data⟩,⟨3,.data⟩],none⟩,
 ⟨some 37,.move (.tmp 0),t5,q5,#[],none⟩,
 ⟨some 38,.nilCheck (.tmp 37),t6,q6,#[⟨5,.data⟩],none⟩,
 ⟨some 39,.fieldAddr 83 (.tmp 38) 0,t7,q7,#[⟨6,.data⟩],none⟩,
 ⟨some 40,.load 29 (.tmp 39),t8,q8,#[⟨7,.data⟩],none⟩,
 ⟨some 41,.binOp .neq 29 (.tmp 36) (.tmp 40) 29,t9,q9,#[⟨4,.data⟩,⟨8,.data⟩],none⟩,
 ⟨some 42,.move (.tmp 41),t10,q10,#[⟨9,.data⟩],none⟩,
 ⟨some 43,.fieldAddr 102 (.tmp 10) 2,t11,q11,#[⟨10,.guard⟩],some (10,false)⟩,
 ⟨some 44,.load 2 (.tmp 43),t12,q12,#[⟨11,.data⟩,⟨10,.guard⟩],some (10,false)⟩,
 ⟨some 45,.move (.tmp 0),t13,q13,#[⟨10,.guard⟩],some (10,false)⟩,
 ⟨some 46,.nilCheck (.tmp 45),t14,q14,#[⟨13,.data⟩,⟨10,.guard⟩],some (10,false)⟩,
 ⟨some 47,.fieldAddr 83 (.tmp 46) 1,t15,q15,#[⟨14,.data⟩,⟨10,.guard⟩],some (10,false)⟩,
 ⟨some 48,.load 2 (.tmp 47),t16,q16,#[⟨15,.data⟩,⟨10,.guard⟩],some (10,false)⟩,
 ⟨some 49,.binOp .neq 2 (.tmp 44) (.tmp 48) 2,t17,q17,#[⟨12,.data⟩,⟨16,.data⟩,⟨10,.guard⟩],some (10,false)⟩,
 ⟨some 50,.pick (.tmp 42) (.const (.bool true)) (.tmp 49),t18,q18,#[⟨10,.data⟩,⟨17,.data⟩],none⟩] true).wp Tryz.prog Q a0 w0:=by
 have hS:distS [some 32,some 33,some 34,some 35,some 36,some 37,some 38,some 39,some 40,some 41,some 42,some 43,some 44,some 45,some 46,some 47,some 48,some 49,some 50]=true:=rfl;refine wp_region_q (by kernel_rfl) w0.heap.size [some 32,some 33,some 34,some 35,some 36,some 37,some 38,some 39,some 40,some 41,some 42,some 43,some 44,some 45,some 46,some 47,some 48,some 49,some 50] (VqrB F g bx by_ x y w0.heap.size) rfl ?_ ?_
 · intro Q lq aq W iq oq hJ2 hl ho hall;have z5:=hJ2.b;have g0:=hJ2.a h0
   have g10:=hJ2.a h10
   have c0:=hJ2.c k0 l0;have c1:=hJ2.c k1 l1;have c2:=hJ2.c k2 l2;have c3:=hJ2.c k3 l3
   clear hQ
   match iq,ho with
   | 0,ho=>
    cases ho;refine wpOp_of rfl rfl ?_;have hK:=hJ2.gO hS 0 32;generalize InvQ _ _ _ _ _ _=K at hK⊢;clear ho hall hl hJ2 hS;go_simp;exact hK _ rfl
   | 1,ho=>
    cases ho;refine wpOp_of rfl rfl ?_;have f0:_=Value.pointer (some ⟨F,0,none⟩):=hJ2.v hall 0 32;have hK:=hJ2.gO hS 1 33;generalize InvQ _ _ _ _ _ _=K at hK⊢;clear ho hall hl hJ2 hS;go_simp;exact hK _ rfl
   | 2,ho=>
    cases ho;refine wpOp_of rfl rfl ?_;have hK:=hJ2.gO hS 2 34;generalize InvQ _ _ _ _ _ _=K at hK⊢;clear ho hall hl hJ2 hS;go_simp;exact hK _ rfl
   | 3,ho=>
    cases ho;refine wpOp_of rfl rfl ?_;have f2:_=Value.pointer (some ⟨F,1,none⟩):=hJ2.v hall 2 34;have hK:=hJ2.gO hS 3 35;generalize InvQ _ _ _ _ _ _=K at hK⊢;clear ho hall hl hJ2 hS;go_simp;exact hK _ rfl
   | 4,ho=>
    cases ho;refine wpOp_of rfl rfl ?_;have f1:_=Value.int .i64 bx:=hJ2.v hall 1 33;have f3:_=Value.int .i64 by_:=hJ2.v hall 3 35;rw[Array.getD_eq_getD_getElem?] at f1 f3;have hK:=hJ2.gO hS 4 36;generalize InvQ _ _ _ _ _ _=K at hK⊢;clear ho hall hl hJ2 hS;go_simp;exact hK _ rfl
   | 5,ho=>
    cases ho;refine wpOp_of rfl rfl ?_;have hK:=hJ2.gO hS 5 37;generalize InvQ _ _ _ _ _ _=K at hK⊢;clear ho hall hl hJ2 hS;go_simp;exact hK _ rfl
   | 6,ho=>
    cases ho;refine wpOp_of rfl rfl ?_;have f5:_=Value.pointer (some ⟨g,0,none⟩):=hJ2.v hall 5 37;have hK:=hJ2.gO hS 6 38;generalize InvQ _ _ _ _ _ _=K at hK⊢;clear ho hall hl hJ2 hS;go_simp;exact hK _ rfl
   | 7,ho=>
    cases ho;refine wpOp_of rfl rfl ?_;have f6:_=Value.pointer (some ⟨g,0,none⟩):=hJ2.v hall 6 38;have hK:=hJ2.gO hS 7 39;generalize InvQ _ _ _ _ _ _=K at hK⊢;clear ho hall hl hJ2 hS;go_simp;exact hK _ rfl
   | 8,ho=>
    cases ho;refine wpOp_of rfl rfl ?_;have f7:_=Value.pointer (some ⟨g,0,none⟩):=hJ2.v hall 7 39;have hK:=hJ2.gO hS 8 40;generalize InvQ _ _ _ _ _ _=K at hK⊢;clear ho hall hl hJ2 hS;go_simp;exact hK _ rfl
   | 9,ho=>
    cases ho;refine wpOp_of rfl rfl ?_;have f4:_=Sp bx by_:=hJ2.v hall 4 36;have f8:_=Sp x y:=hJ2.v hall 8 40;have hK:=hJ2.gO hS 9 41;generalize InvQ _ _ _ _ _ _=K at hK⊢;clear ho hall hl hJ2 hS;go_simp;exact hK _ rfl
   | 10,ho=>
    cases ho;refine wpOp_of rfl rfl ?_;have f9:_=Value.bool true:=hJ2.v hall 9 41;have hK:=hJ2.gO hS 10 42;generalize InvQ _ _ _ _ _ _=K at hK⊢;clear ho hall hl hJ2 hS;go_simp;exact hK _ rfl
   | 11,ho=>
    cases ho;have fg:aq.tmps.getD 42 undef= .bool true:=hJ2.v hall 10 42 .guard;refine wpOp_off rfl rfl rfl rfl fg ?_;exact hJ2.put hS 11 43 rfl (by omega) z5 (fun _ _ h=>h) undef rfl
   | 12,ho=>
    cases ho;have fg:aq.tmps.getD 42 undef= .bool true:=hJ2.v hall 10 42 .guard;refine wpOp_off rfl rfl rfl rfl fg ?_;exact hJ2.put hS 12 44 rfl (by omega) z5 (fun _ _ h=>h) undef rfl
   | 13,ho=>
    cases ho;have fg:aq.tmps.getD 42 undef= .bool true:=hJ2.v hall 10 42 .guard;refine wpOp_off rfl rfl rfl rfl fg ?_;exact hJ2.put hS 13 45 rfl (by omega) z5 (fun _ _ h=>h) undef rfl
   | 14,ho=>
    cases ho;have fg:aq.tmps.getD 42 undef= .bool true:=hJ2.v hall 10 42 .guard;refine wpOp_off rfl rfl rfl rfl fg ?_;exact hJ2.put hS 14 46 rfl (by omega) z5 (fun _ _ h=>h) undef rfl
   | 15,ho=>
    cases ho;have fg:aq.tmps.getD 42 undef= .bool true:=hJ2.v hall 10 42 .guard;refine wpOp_off rfl rfl rfl rfl fg ?_;exact hJ2.put hS 15 47 rfl (by omega) z5 (fun _ _ h=>h) undef rfl
   | 16,ho=>
    cases ho;have fg:aq.tmps.getD 42 undef= .bool true:=hJ2.v hall 10 42 .guard;refine wpOp_off rfl rfl rfl rfl fg ?_;exact hJ2.put hS 16 48 rfl (by omega) z5 (fun _ _ h=>h) undef rfl
   | 17,ho=>
    cases ho;have fg:aq.tmps.getD 42 undef= .bool true:=hJ2.v hall 10 42 .guard;refine wpOp_off rfl rfl rfl rfl fg ?_;exact hJ2.put hS 17 49 rfl (by omega) z5 (fun _ _ h=>h) undef rfl
   | 18,ho=>
    cases ho;refine wpOp_of rfl rfl ?_;have f10:_=Value.bool true:=hJ2.v hall 10 42;have f17:_=undef:=hJ2.v hall 17 49;have hK:=hJ2.gO hS 18 50;generalize InvQ _ _ _ _ _ _=K at hK⊢;clear ho hall hl hJ2 hS;go_simp;exact hK _ rfl
   | iq+19,ho=>simp at ho
 · intro lq aq W hJ hr;obtain⟨z1,z2,z3,z4,z5,z6,z7⟩:=hJ;have hl:=listed_of hr [0,1,2,3,4,5,6,7,8,9,10,11,12,13,14,15,16,17,18] [] (by simp) (by kernel_rfl) (by rw[z1];decide);exact hQ aq W z2 z3 (fun e he=>z4 e (by simpa using he)) (z6 18 50 (hl 18 (by simp)) rfl) z5
def VqrC (F g:Nat) (bx by_ bz x y s:Int) (_B:Nat):Nat→Value→World→Prop
 | 0,v,_=>v= .pointer (some ⟨F,0,none⟩)
 | 1,v,_=>v= .int .i64 bx
 | 2,v,_=>v= .pointer (some ⟨F,1,none⟩)
 | 3,v,_=>v= .int .i64 by_
 | 4,v,_=>v=Sp bx by_
 | 5,v,_=>v= .pointer (some ⟨g,0,none⟩)
 | 6,v,_=>v= .pointer (some ⟨g,0,none⟩)
 | 7,v,_=>v= .pointer (some ⟨g,0,none⟩)
 | 8,v,_=>v=Sp x y
 | 9,v,_=>v= .bool false
 | 10,v,_=>v= .bool false
 | 11,v,_=>v= .pointer (some ⟨F,2,none⟩)
 | 12,v,_=>v= .int .i64 bz
 | 13,v,_=>v= .pointer (some ⟨g,0,none⟩)
 | 14,v,_=>v= .pointer (some ⟨g,0,none⟩)
 | 15,v,_=>v= .pointer (some ⟨g,2,none⟩)
 | 16,v,_=>v= .int .i64 s
 | 17,v,_=>v= .bool (decide (¬(bz=s)))
 | 18,v,_=>v= .bool (decide (¬(bz=s)))
 | _,_,_=>True
theorem qrC {Q:Exit→Act→World→Prop} {F g:Nat} {bx by_ bz x y s:Int} {w0:World} {a0:Act} {idq:Nat} {t0 t1 t2 t3 t4 t5 t6 t7 t8 t9 t10 t11 t12 t13 t14 t15 t16 t17 t18:TypeId} {q0 q1 q2 q3 q4 q5 q6 q7 q8 q9 q10 q11 q12 q13 q14 q15 q16 q17 q18:String}
 (hE:∀w,(Op.equalIn 10000 29 (.agg #[.int .i64 bx,.int .i64 by_]) (.agg #[.int .i64 x,.int .i64 y])).run Tryz.prog w= .ok true w) (h0:a0.tmps[0]? =some (.pointer (some ⟨g,0,none⟩))) (h10:a0.tmps[10]? =some (.pointer (some ⟨F,0,none⟩))) (k0:w0.cell? ⟨F,0,none⟩=some (.int .i64 bx)) (l0:(⟨F,0,none⟩:Addr).block<w0.heap.size) (k1:w0.cell? ⟨F,1,none⟩=some (.int .i64 by_)) (l1:(⟨F,1,none⟩:Addr).block<w0.heap.size) (k2:w0.cell? ⟨g,0,none⟩=some (.int .i64 x)) (l2:(⟨g,0,none⟩:Addr).block<w0.heap.size) (k3:w0.cell? ⟨g,1,none⟩=some (.int .i64 y)) (l3:(⟨g,1,none⟩:Addr).block<w0.heap.size) (k4:w0.cell? ⟨F,2,none⟩=some (.int .i64 bz)) (l4:(⟨F,2,none⟩:Addr).block<w0.heap.size) (k5:w0.cell? ⟨g,2,none⟩=some (.int .i64 s)) (l5:(⟨g,2,none⟩:Addr).block<w0.heap.size) (hz:a0.tmps.size=98)
 (hQ:∀aq W,aq.tmps.size=a0.tmps.size→aq.defers=a0.defers→(∀e,e∉([32,33,34,35,36,37,38,39,40,41,42,43,44,45,46,47,48,49,50]:List Nat)→aq.tmps[e]? =a0.tmps[e]?)→VqrC F g bx by_ bz x y s w0.heap.size 18 (aq.tmps.getD 50 undef) W→Below w0.heap.size w0 W→Q .normal aq W) :
 (Code.region idq #[⟨some 32,.fieldAddr 102 (.tmp 10) 0,t0,q0,#[],none⟩,
 ⟨some 33,.load 2 (.tmp 32),t1,q1,#[⟨0,.data⟩],none⟩,
 ⟨some 34,.fieldAddr 102 (.tmp 10) 1,t2,q2,#[],none⟩,
 ⟨some 35,.load 2 (.tmp 34),t3,q3,#[⟨2,.data⟩],none⟩,
 ⟨some 36,.build 29 #[(0,.tmp 33),(1,.tmp 35)],t4,q4,#[⟨1,.data⟩,⟨3,.data⟩],none⟩,
 ⟨some 37,.move (.tmp 0),t5,q5,#[],none⟩,
 ⟨some 38,.nilCheck (.tmp 37),t6,q6,#[⟨5,.data⟩],none⟩,
 ⟨some 39,.fieldAddr 83 (.tmp 38) 0,t7,q7,#[⟨6,.data⟩],none⟩,
 ⟨some 40,.load 29 (.tmp 39),t8,q8,#[⟨7,.data⟩],none⟩,
 ⟨some 41,.binOp .neq 29 (.tmp 36) (.tmp 40) 29,t9,q9,#[⟨4,.data⟩,⟨8,.data⟩],none⟩,
 ⟨some 42,.move (.tmp 41),t10,q10,#[⟨9,.data⟩],none⟩,
 ⟨some 43,.fieldAddr 102 (.tmp 10) 2,t11,q11,#[⟨10,.guard⟩],some (10,false)⟩,
 ⟨some 44,.load 2 (.tmp 43),t12,q12,#[⟨11,.data⟩,⟨10,.guard⟩],some (10,false)⟩,
 ⟨some 45,.move (.tmp 0),t13,q13,#[⟨10,.guard⟩],some (10,false)⟩,
 ⟨some 46,.nilCheck (.tmp 45),t14,q14,#[⟨13,.data⟩,⟨10,.guard⟩],some (10,false)⟩,
 ⟨some 47,.fieldAddr 83 (.tmp 46) 1,t15,q15,#[⟨14,.data⟩,⟨10,.guard⟩],some (10,false)⟩,
 ⟨some 48,.load 2 (.tmp 47),t16,q16,#[⟨15,.data⟩,⟨10,.guard⟩],some (10,false)⟩,
 ⟨some 49,.binOp .neq 2 (.tmp 44) (.tmp 48) 2,t17,q17,#[⟨12,.data⟩,⟨16,.data⟩,⟨10,.guard⟩],some (10,false)⟩,
 ⟨some 50,.pick (.tmp 42) (.const (.bool true)) (.tmp 49),t18,q18,#[⟨10,.data⟩,⟨17,.data⟩],none⟩] true).wp Tryz.prog Q a0 w0:=by
 have hS:distS [some 32,some 33,some 34,some 35,some 36,some 37,some 38,some 39,some 40,some 41,some 42,some 43,some 44,some 45,some 46,some 47,some 48,some 49,some 50]=true:=rfl;refine wp_region_q (by kernel_rfl) w0.heap.size [some 32,some 33,some 34,some 35,some 36,some 37,some 38,some 39,some 40,some 41,some 42,some 43,some 44,some 45,some 46,some 47,some 48,some 49,some 50] (VqrC F g bx by_ bz x y s w0.heap.size) rfl ?_ ?_
 · intro Q lq aq W iq oq hJ2 hl ho hall;have z5:=hJ2.b;have g0:=hJ2.a h0
   have g10:=hJ2.a h10
   have c0:=hJ2.c k0 l0;have c1:=hJ2.c k1 l1;have c2:=hJ2.c k2 l2;have c3:=hJ2.c k3 l3;have c4:=hJ2.c k4 l4;have c5:=hJ2.c k5 l5
   clear hQ
   match iq,ho with
   | 0,ho=>
    cases ho;refine wpOp_of rfl rfl ?_;have hK:=hJ2.gO hS 0 32;generalize InvQ _ _ _ _ _ _=K at hK⊢;clear ho hall hl hJ2 hS;go_simp;exact hK _ rfl
   | 1,ho=>
    cases ho;refine wpOp_of rfl rfl ?_;have f0:_=Value.pointer (some ⟨F,0,none⟩):=hJ2.v hall 0 32;have hK:=hJ2.gO hS 1 33;generalize InvQ _ _ _ _ _ _=K at hK⊢;clear ho hall hl hJ2 hS;go_simp;exact hK _ rfl
   | 2,ho=>
    cases ho;refine wpOp_of rfl rfl ?_;have hK:=hJ2.gO hS 2 34;generalize InvQ _ _ _ _ _ _=K at hK⊢;clear ho hall hl hJ2 hS;go_simp;exact hK _ rfl
   | 3,ho=>
    cases ho;refine wpOp_of rfl rfl ?_;have f2:_=Value.pointer (some ⟨F,1,none⟩):=hJ2.v hall 2 34;have hK:=hJ2.gO hS 3 35;generalize InvQ _ _ _ _ _ _=K at hK⊢;clear ho hall hl hJ2 hS;go_simp;exact hK _ rfl
   | 4,ho=>
    cases ho;refine wpOp_of rfl rfl ?_;have f1:_=Value.int .i64 bx:=hJ2.v hall 1 33;have f3:_=Value.int .i64 by_:=hJ2.v hall 3 35;rw[Array.getD_eq_getD_getElem?] at f1 f3;have hK:=hJ2.gO hS 4 36;generalize InvQ _ _ _ _ _ _=K at hK⊢;clear ho hall hl hJ2 hS;go_simp;exact hK _ rfl
   | 5,ho=>
    cases ho;refine wpOp_of rfl rfl ?_;have hK:=hJ2.gO hS 5 37;generalize InvQ _ _ _ _ _ _=K at hK⊢;clear ho hall hl hJ2 hS;go_simp;exact hK _ rfl
   | 6,ho=>
    cases ho;refine wpOp_of rfl rfl ?_;have f5:_=Value.pointer (some ⟨g,0,none⟩):=hJ2.v hall 5 37;have hK:=hJ2.gO hS 6 38;generalize InvQ _ _ _ _ _ _=K at hK⊢;clear ho hall hl hJ2 hS;go_simp;exact hK _ rfl
   | 7,ho=>
    cases ho;refine wpOp_of rfl rfl ?_;have f6:_=Value.pointer (some ⟨g,0,none⟩):=hJ2.v hall 6 38;have hK:=hJ2.gO hS 7 39;generalize InvQ _ _ _ _ _ _=K at hK⊢;clear ho hall hl hJ2 hS;go_simp;exact hK _ rfl
   | 8,ho=>
    cases ho;refine wpOp_of rfl rfl ?_;have f7:_=Value.pointer (some ⟨g,0,none⟩):=hJ2.v hall 7 39;have hK:=hJ2.gO hS 8 40;generalize InvQ _ _ _ _ _ _=K at hK⊢;clear ho hall hl hJ2 hS;go_simp;exact hK _ rfl
   | 9,ho=>
    cases ho;refine wpOp_of rfl rfl ?_;have f4:_=Sp bx by_:=hJ2.v hall 4 36;have f8:_=Sp x y:=hJ2.v hall 8 40;have hK:=hJ2.gO hS 9 41;generalize InvQ _ _ _ _ _ _=K at hK⊢;clear ho hall hl hJ2 hS;go_simp;exact hK _ rfl
   | 10,ho=>
    cases ho;refine wpOp_of rfl rfl ?_;have f9:_=Value.bool false:=hJ2.v hall 9 41;have hK:=hJ2.gO hS 10 42;generalize InvQ _ _ _ _ _ _=K at hK⊢;clear ho hall hl hJ2 hS;go_simp;exact hK _ rfl
   | 11,ho=>
    cases ho;have fg:aq.tmps.getD 42 undef= .bool false:=hJ2.v hall 10 42 .guard;refine wpOp_on rfl rfl rfl rfl fg ?_;have hK:=hJ2.gO hS 11 43;generalize InvQ _ _ _ _ _ _=K at hK⊢;clear ho hall hl hJ2 hS;go_simp;exact hK _ rfl
   | 12,ho=>
    cases ho;have fg:aq.tmps.getD 42 undef= .bool false:=hJ2.v hall 10 42 .guard;refine wpOp_on rfl rfl rfl rfl fg ?_;have f11:_=Value.pointer (some ⟨F,2,none⟩):=hJ2.v hall 11 43;have hK:=hJ2.gO hS 12 44;generalize InvQ _ _ _ _ _ _=K at hK⊢;clear ho hall hl hJ2 hS;go_simp;exact hK _ rfl
   | 13,ho=>
    cases ho;have fg:aq.tmps.getD 42 undef= .bool false:=hJ2.v hall 10 42 .guard;refine wpOp_on rfl rfl rfl rfl fg ?_;have hK:=hJ2.gO hS 13 45;generalize InvQ _ _ _ _ _ _=K at hK⊢;clear ho hall hl hJ2 hS;go_simp;exact hK _ rfl
   | 14,ho=>
    cases ho;have fg:aq.tmps.getD 42 undef= .bool false:=hJ2.v hall 10 42 .guard;refine wpOp_on rfl rfl rfl rfl fg ?_;have f13:_=Value.pointer (some ⟨g,0,none⟩):=hJ2.v hall 13 45;have hK:=hJ2.gO hS 14 46;generalize InvQ _ _ _ _ _ _=K at hK⊢;clear ho hall hl hJ2 hS;go_simp;exact hK _ rfl
   | 15,ho=>
    cases ho;have fg:aq.tmps.getD 42 undef= .bool false:=hJ2.v hall 10 42 .guard;refine wpOp_on rfl rfl rfl rfl fg ?_;have f14:_=Value.pointer (some ⟨g,0,none⟩):=hJ2.v hall 14 46;have hK:=hJ2.gO hS 15 47;generalize InvQ _ _ _ _ _ _=K at hK⊢;clear ho hall hl hJ2 hS;go_simp;exact hK _ rfl
   | 16,ho=>
    cases ho;have fg:aq.tmps.getD 42 undef= .bool false:=hJ2.v hall 10 42 .guard;refine wpOp_on rfl rfl rfl rfl fg ?_;have f15:_=Value.pointer (some ⟨g,2,none⟩):=hJ2.v hall 15 47;have hK:=hJ2.gO hS 16 48;generalize InvQ _ _ _ _ _ _=K at hK⊢;clear ho hall hl hJ2 hS;go_simp;exact hK _ rfl
   | 17,ho=>
    cases ho;have fg:aq.tmps.getD 42 undef= .bool false:=hJ2.v hall 10 42 .guard;refine wpOp_on rfl rfl rfl rfl fg ?_;have f12:_=Value.int .i64 bz:=hJ2.v hall 12 44;have f16:_=Value.int .i64 s:=hJ2.v hall 16 48;have hK:=hJ2.go hS 17 49;generalize InvQ _ _ _ _ _ _=K at hK⊢;clear ho hall hl hJ2 hS;go_simp;exact hK _ _ z5 (fun _ _ h=>h) (by show Value.bool _=Value.bool _;congr 1;rw[Bool.eq_iff_iff];simp)
   | 18,ho=>
    cases ho;refine wpOp_of rfl rfl ?_;have f10:_=Value.bool false:=hJ2.v hall 10 42;have f17:_=Value.bool (decide (¬(bz=s))):=hJ2.v hall 17 49;have hK:=hJ2.go hS 18 50;generalize InvQ _ _ _ _ _ _=K at hK⊢;clear ho hall hl hJ2 hS;go_simp;exact hK _ _ z5 (fun _ _ h=>h) (by show Value.bool _=Value.bool _;congr 1;rw[Bool.eq_iff_iff];simp)
   | iq+19,ho=>simp at ho
 · intro lq aq W hJ hr;obtain⟨z1,z2,z3,z4,z5,z6,z7⟩:=hJ;have hl:=listed_of hr [0,1,2,3,4,5,6,7,8,9,10,11,12,13,14,15,16,17,18] [] (by simp) (by kernel_rfl) (by rw[z1];decide);exact hQ aq W z2 z3 (fun e he=>z4 e (by simpa using he)) (z6 18 50 (hl 18 (by simp)) rfl) z5
def VqrD (F g n ca m cb:Nat) (ao co:Option Addr) (ef ff:Nat→Int) (rv:Value) (_B:Nat):Nat→Value→World→Prop
 | 0,v,_=>v=rv
 | 1,v,_=>v= .pointer (some ⟨F,4,none⟩)
 | 2,v,_=>v= .slice ao n ca
 | 3,v,_=>v= .pointer (some ⟨g,0,none⟩)
 | 4,v,_=>v= .pointer (some ⟨g,0,none⟩)
 | 5,v,_=>v= .pointer (some ⟨g,4,none⟩)
 | 6,v,_=>v= .slice co m cb
 | 7,v,_=>v= .bool (decide (n=m∧∀i,i<n→ef i=ff i))
 | 8,v,_=>v=rv
 | 9,v,_=>v= .bool (decide (n=m∧∀i,i<n→ef i=ff i))
 | _,_,_=>True
theorem VqrD.mono {F g n ca m cb:Nat} {ao co:Option Addr} {ef ff:Nat→Int} {rv:Value} {B j:Nat} {v:Value} {W W2:World} (_hB:Below W.heap.size W W2) (h:VqrD F g n ca m cb ao co ef ff rv B j v W):VqrD F g n ca m cb ao co ef ff rv B j v W2:=by
 unfold VqrD at *
 split<;>simp only at h<;>first | exact h | trivial
theorem qrD {Q:Exit→Act→World→Prop} {F g n ca m cb:Nat} {ao co:Option Addr} {ef ff:Nat→Int} {rv:Value} {w0:World} {a0:Act} {idq:Nat} {t0 t1 t2 t3 t4 t5 t6 t7 t8 t9:TypeId} {q0 q1 q2 q3 q4 q5 q6 q7 q8 q9:String}
 (hn:n≤1048576) (hA:NoIn w0 ao n ef) (hC:NoIn w0 co m ff) (h0:a0.tmps[0]? =some (.pointer (some ⟨g,0,none⟩))) (h10:a0.tmps[10]? =some (.pointer (some ⟨F,0,none⟩))) (h11:a0.tmps[11]? =some (rv)) (k0:w0.cell? ⟨F,4,none⟩=some (.slice ao n ca)) (l0:(⟨F,4,none⟩:Addr).block<w0.heap.size) (k1:w0.cell? ⟨g,4,none⟩=some (.slice co m cb)) (l1:(⟨g,4,none⟩:Addr).block<w0.heap.size) (hz:a0.tmps.size=98)
 (hQ:∀aq W,aq.tmps.size=a0.tmps.size→aq.defers=a0.defers→(∀e,e∉([57,58,59,60,61,62,63,64,8,9]:List Nat)→aq.tmps[e]? =a0.tmps[e]?)→VqrD F g n ca m cb ao co ef ff rv w0.heap.size 8 (aq.tmps.getD 8 undef) W→VqrD F g n ca m cb ao co ef ff rv w0.heap.size 9 (aq.tmps.getD 9 undef) W→Below w0.heap.size w0 W→Q .normal aq W) :
 (Code.region idq #[⟨some 57,.move (.tmp 11),t0,q0,#[],none⟩,
 ⟨some 58,.fieldAddr 102 (.tmp 10) 4,t1,q1,#[],none⟩,
 ⟨some 59,.load 32 (.tmp 58),t2,q2,#[⟨1,.data⟩],none⟩,
 ⟨some 60,.move (.tmp 0),t3,q3,#[],none⟩,
 ⟨some 61,.nilCheck (.tmp 60),t4,q4,#[⟨3,.data⟩],none⟩,
 ⟨some 62,.fieldAddr 83 (.tmp 61) 3,t5,q5,#[⟨4,.data⟩],none⟩,
 ⟨some 63,.load 32 (.tmp 62),t6,q6,#[⟨5,.data⟩],none⟩,
 ⟨some 64,.call {callee:= .value (.func 66),args:=#[.tmp 59,.tmp 63],argTypes:=#[32,32]},t7,q7,#[⟨2,.data⟩,⟨6,.data⟩],none⟩,
 ⟨some 8,.assign (.tmp 57),t8,q8,#[⟨0,.data⟩,⟨7,.chain⟩,⟨0,.phase⟩,⟨1,.textOnly .lateStores⟩,⟨2,.textOnly .lateStores⟩,⟨3,.textOnly .lateStores⟩,⟨4,.textOnly .lateStores⟩,⟨5,.textOnly .lateStores⟩,⟨6,.textOnly .lateStores⟩,⟨7,.textOnly .lateStoresUnsure⟩],none⟩,
 ⟨some 9,.assign (.tmp 64),t9,q9,#[⟨7,.data⟩,⟨8,.chain⟩,⟨0,.phase⟩,⟨1,.phase⟩,⟨2,.phase⟩,⟨3,.phase⟩,⟨4,.phase⟩,⟨5,.phase⟩,⟨6,.phase⟩,⟨7,.phase⟩,⟨8,.phase⟩],none⟩] true).wp Tryz.prog Q a0 w0:=by
 have hS:distS [some 57,some 58,some 59,some 60,some 61,some 62,some 63,some 64,some 8,some 9]=true:=rfl;refine wp_region_q (by kernel_rfl) w0.heap.size [some 57,some 58,some 59,some 60,some 61,some 62,some 63,some 64,some 8,some 9] (VqrD F g n ca m cb ao co ef ff rv w0.heap.size) rfl ?_ ?_
 · intro Q lq aq W iq oq hJ2 hl ho hall;have z5:=hJ2.b;have g0:=hJ2.a h0
   have g10:=hJ2.a h10
   have g11:=hJ2.a h11
   have c0:=hJ2.c k0 l0;have c1:=hJ2.c k1 l1
   clear hQ
   match iq,ho with
   | 0,ho=>
    cases ho;refine wpOp_of rfl rfl ?_;have hK:=hJ2.gO hS 0 57;generalize InvQ _ _ _ _ _ _=K at hK⊢;clear ho hall hl hJ2 hS;go_simp;exact hK _ rfl
   | 1,ho=>
    cases ho;refine wpOp_of rfl rfl ?_;have hK:=hJ2.gO hS 1 58;generalize InvQ _ _ _ _ _ _=K at hK⊢;clear ho hall hl hJ2 hS;go_simp;exact hK _ rfl
   | 2,ho=>
    cases ho;refine wpOp_of rfl rfl ?_;have f1:_=Value.pointer (some ⟨F,4,none⟩):=hJ2.v hall 1 58;have hK:=hJ2.gO hS 2 59;generalize InvQ _ _ _ _ _ _=K at hK⊢;clear ho hall hl hJ2 hS;go_simp;exact hK _ rfl
   | 3,ho=>
    cases ho;refine wpOp_of rfl rfl ?_;have hK:=hJ2.gO hS 3 60;generalize InvQ _ _ _ _ _ _=K at hK⊢;clear ho hall hl hJ2 hS;go_simp;exact hK _ rfl
   | 4,ho=>
    cases ho;refine wpOp_of rfl rfl ?_;have f3:_=Value.pointer (some ⟨g,0,none⟩):=hJ2.v hall 3 60;have hK:=hJ2.gO hS 4 61;generalize InvQ _ _ _ _ _ _=K at hK⊢;clear ho hall hl hJ2 hS;go_simp;exact hK _ rfl
   | 5,ho=>
    cases ho;refine wpOp_of rfl rfl ?_;have f4:_=Value.pointer (some ⟨g,0,none⟩):=hJ2.v hall 4 61;have hK:=hJ2.gO hS 5 62;generalize InvQ _ _ _ _ _ _=K at hK⊢;clear ho hall hl hJ2 hS;go_simp;exact hK _ rfl
   | 6,ho=>
    cases ho;refine wpOp_of rfl rfl ?_;have f5:_=Value.pointer (some ⟨g,4,none⟩):=hJ2.v hall 5 62;have hK:=hJ2.gO hS 6 63;generalize InvQ _ _ _ _ _ _=K at hK⊢;clear ho hall hl hJ2 hS;go_simp;exact hK _ rfl
   | 7,ho=>
    cases ho;refine wpOp_of rfl rfl ?_;have f2:_=Value.slice ao n ca:=hJ2.v hall 2 59;have f6:_=Value.slice co m cb:=hJ2.v hall 6 63;have hK:=hJ2.go hS 7 64;generalize InvQ _ _ _ _ _ _=K at hK⊢;clear ho hall hl hJ2 hS;go_simp;refine(equalNo_any ao co n ca m cb ef ff hn W (hA.step z5) (hC.step z5)).mono ?_;rintro e v1 ⟨rfl,hBv⟩;exact hK _ _ (z5.trans (hBv.mono z5.size)) (fun j v h=>h.mono hBv) rfl
   | 8,ho=>
    cases ho;refine wpOp_of rfl rfl ?_;have f0:_=rv:=hJ2.v hall 0 57;have hK:=hJ2.gO hS 8 8;generalize InvQ _ _ _ _ _ _=K at hK⊢;clear ho hall hl hJ2 hS;go_simp;exact hK _ rfl
   | 9,ho=>
    cases ho;refine wpOp_of rfl rfl ?_;have f7:_=Value.bool (decide (n=m∧∀i,i<n→ef i=ff i)):=hJ2.v hall 7 64;have hK:=hJ2.go hS 9 9;generalize InvQ _ _ _ _ _ _=K at hK⊢;clear ho hall hl hJ2 hS;go_simp;exact hK _ _ z5 (fun _ _ h=>h) (by show Value.bool _=Value.bool _;congr 1;rw[Bool.eq_iff_iff];simp)
   | iq+10,ho=>simp at ho
 · intro lq aq W hJ hr;obtain⟨z1,z2,z3,z4,z5,z6,z7⟩:=hJ;have hl:=listed_of hr [0,1,2,3,4,5,6,7,8,9] [] (by simp) (by kernel_rfl) (by rw[z1];decide);exact hQ aq W z2 z3 (fun e he=>z4 e (by simpa using he)) (z6 8 8 (hl 8 (by simp)) rfl) (z6 9 9 (hl 9 (by simp)) rfl) z5
theorem ownQ_heap {w w' :World} {base n:Nat} {e:TypeId} {size:Nat} {v:Value} {xs:List Value} (h:w.ownsRow base e size v n xs) (hh:∀k,v.ownBlock=some k→w'.heap[k]? =w.heap[k]?):w'.ownsRow base e size v n xs:=by
 rcases h with ⟨h0,h1 | ⟨g,cap,cur,h1,h2,h3,h4⟩⟩
 · exact⟨h0,.inl h1⟩
 · refine⟨h0,.inr ⟨g,cap,cur,h1,h2,?_,h4⟩⟩;rw[hh g (by subst h1;rfl)];exact h3
theorem ownQ_form {w:World} {base n:Nat} {e:TypeId} {size:Nat} {v:Value} {xs:List Value} (h:w.ownsRow base e size v n xs) (hn:0<n):∃g cap,v= .slice (some ⟨g,0,none⟩) n cap∧base≤g∧g<w.heap.size∧n≤cap∧cap≤maxLen:=by
 rcases h.2 with ⟨h1,h0⟩ | ⟨g,cap,cur,h1,h2,h3,h4,h5,_⟩
 · omega
 · exact⟨g,cap,h1,h2,(Array.getElem?_eq_some_iff.1 h3).1,h4,h5⟩
theorem ownQ_slice {w:World} {base n:Nat} {e:TypeId} {size:Nat} {v:Value} {xs:List Value} (h:w.ownsRow base e size v n xs):∃ao cap,v= .slice ao n cap:=by
 rcases h.2 with ⟨h1,h0⟩ | ⟨g,cap,cur,h1,_⟩
 · subst h0;exact⟨none,0,h1⟩
 · exact⟨_,cap,h1⟩
theorem ownQ_cell {w:World} {base g n cap:Nat} {e:TypeId} {size:Nat} {xs:List Value} (h:w.ownsRow base e size (.slice (some ⟨g,0,none⟩) n cap) n xs) {i:Nat} {v:Value} (hi:xs[i]? =some v):w.cell? ⟨g,i,none⟩=some v∧w.frozen? ⟨g,i,none⟩=false:=by
 refine⟨?_,?_⟩
 · have h1:=h.cells rfl i v hi;rw[Addr.add_lit,Nat.zero_add] at h1;exact h1
 · rcases h.2 with ⟨h',_⟩ | ⟨g',cap',cur,h',_,hg,_⟩
   · cases h'
   · cases h'
     simp[World.frozen?,hg]
inductive QT where
 | leaf (l:List Int)
 | node (k:Nat→QT)
def trQ (Q:QD):Nat→Nat→Int→Int→Int→QT
 | 0,at_,_,_,_=> .leaf (blL Q at_)
 | d+1,at_,x,y,s=>if Q.T at_=true then .node (fun k=>trQ Q d ((kp (fun a x y=>mrd Q d a x y (s / 2)) (at_+1) x y (s / 2) k).getD 0) (kX x (s / 2) k) (kY y (s / 2) k) (s / 2)) else .leaf (blL Q at_)
def IdV (ok:Nat→Prop) (w:World) (v:Value) (l:List Int):Prop:=∃ao c,v= .slice ao l.length c∧NoIn w ao l.length (fun i=>l.getD i 0)∧(ao=none→c=0)∧∀A o sp,ao=some ⟨A,o,sp⟩→ok A∧A<w.heap.size
theorem IdV.keep {ok ok' :Nat→Prop} {w w' :World} {v:Value} {l:List Int} (h:IdV ok w v l) (hs:w.heap.size≤w'.heap.size) (hk:∀b,ok b→b<w.heap.size→w'.heap[b]? =w.heap[b]?) (ho:∀b,ok b→b<w.heap.size→ok' b):IdV ok' w' v l:=by
 obtain⟨ao,c,h1,h2,h3,h4⟩:=h;refine⟨ao,c,h1,fun i hi=>?_,h3,fun A o sp e=>⟨ho A (h4 A o sp e).1 (h4 A o sp e).2,Nat.lt_of_lt_of_le (h4 A o sp e).2 hs⟩⟩;obtain⟨A,o,e,hA,hc⟩:=h2 i hi;exact⟨A,o,e,Nat.lt_of_lt_of_le hA hs,(World.cell?_of_block (w:=w) (a:=⟨A,o+i,none⟩) (hk A (h4 A o none e).1 hA)).trans hc⟩
theorem IdV.step {ok:Nat→Prop} {w w' :World} {v:Value} {l:List Int} (h:IdV ok w v l) (hB:Below w.heap.size w w'):IdV ok w' v l:=h.keep hB.size (fun b _ hb=>hB.block b hb) (fun _ h _=>h)
theorem IdV.below {ok:Nat→Prop} {w w' :World} {B:Nat} {v:Value} {l:List Int} (h:IdV ok w v l) (hB:Below B w w') (hb:∀b,ok b→b<B):IdV ok w' v l:=h.keep hB.size (fun b h1 _=>hB.block b (hb b h1)) (fun _ h _=>h)
theorem IdV.of {w:World} {base:Nat} {v:Value} {l:List Int} (h:w.ownsRow base 2 1 v l.length (l.map (Value.int .i64))):IdV (fun b=>base≤b) w v l:=by
 rcases h.2 with ⟨h1,h2⟩ | ⟨g,cap,cur,h1,h2,h3,h4⟩
 · have hl:l=[]:=List.eq_nil_of_length_eq_zero h2;subst hl;exact⟨none,0,h1,fun i hi=>absurd hi (by simp),fun _=>rfl,fun A o sp e=>by cases e⟩
 · subst h1;refine⟨_,cap,rfl,fun i hi=>⟨g,0,rfl,(Array.getElem?_eq_some_iff.1 h3).1,?_⟩,(fun e=>by cases e),(fun A o sp e=>by cases e;exact⟨h2,(Array.getElem?_eq_some_iff.1 h3).1⟩)⟩;rw[Nat.zero_add];refine(ownQ_cell h ?_).1;rw[List.getElem?_map,List.getElem?_eq_getElem hi]
   simp[List.getD_eq_getElem?_getD,hi]
def PTr (ok:Nat→Prop) (w:World):QT→Int→Int→Int→Int→Nat→Prop
 | .leaf l,x,y,s,lv,g=>ok g∧∃iv,BkB w g x y s lv iv (.slice none 0 0)∧IdV ok w iv l
 | .node K,x,y,s,lv,g=>ok g∧∃(A kc:Nat) (gs:Nat→Nat),BkB w g x y s lv (.slice none 0 0) (.slice (some ⟨A,0,none⟩) 4 kc)∧A<w.heap.size∧ok A∧∀k,k<4→w.cell? ⟨A,k,none⟩=some (.pointer (some ⟨gs k,0,none⟩))∧PTr ok w (K k) (kX x (s / 2) k) (kY y (s / 2) k) (s / 2) (lv+1) (gs k)
def IdS (ok:Nat→Prop) (w:World) (v:Value) (l:List Int):Prop:=w.ownsRow 0 2 1 v l.length (l.map (Value.int .i64))∧∀b,v.ownBlock=some b→ok b
theorem IdS.keep {ok ok' :Nat→Prop} {w w' :World} {v:Value} {l:List Int} (h:IdS ok w v l) (hk:∀b,ok b→b<w.heap.size→w'.heap[b]? =w.heap[b]?) (ho:∀b,ok b→b<w.heap.size→ok' b):IdS ok' w' v l:=
 ⟨ownQ_heap h.1 (fun k e=>hk k (h.2 k e) (h.1.lt k e).2),fun b e=>ho b (h.2 b e) (h.1.lt b e).2⟩
theorem IdS.toV {ok:Nat→Prop} {w:World} {v:Value} {l:List Int} (h:IdS ok w v l):IdV ok w v l:=by
 obtain⟨ao,c,h1,h2,h3,h4⟩:=IdV.of h.1;exact⟨ao,c,h1,h2,h3,fun A o sp e=>⟨h.2 A (by subst e;rw[h1];rfl),(h4 A o sp e).2⟩⟩
def STr (ok:Nat→Prop) (w:World):QT→Int→Int→Int→Int→Nat→Prop
 | .leaf l,x,y,s,lv,g=>ok g∧∃iv,BkB w g x y s lv iv (.slice none 0 0)∧IdS (fun b=>ok b∧b≠g) w iv l
 | .node K,x,y,s,lv,g=>ok g∧∃(A kc:Nat) (gs:Nat→Nat) (oks:Nat→Nat→Prop),BkB w g x y s lv (.slice none 0 0) (.slice (some ⟨A,0,none⟩) 4 kc)∧A<w.heap.size∧ok A∧A≠g∧(∀k b,k<4→oks k b→ok b∧b≠g∧b≠A)∧(∀i j b,i<4→j<4→i≠j→oks i b→¬oks j b)∧∀k,k<4→w.cell? ⟨A,k,none⟩=some (.pointer (some ⟨gs k,0,none⟩))∧STr (oks k) w (K k) (kX x (s / 2) k) (kY y (s / 2) k) (s / 2) (lv+1) (gs k)
def okB (g c b:Nat):Prop:=b=g∨c≤b
theorem Blk.keep {w w' :World} {g:Nat} {vs:List Value} (h:Blk w g vs) (hs:w.heap.size≤w'.heap.size) (hk:w'.heap[g]? =w.heap[g]?):Blk w' g vs:=
 ⟨Nat.lt_of_lt_of_le h.lt hs,fun i _ hi=>⟨(World.cell?_of_block (w:=w) (a:=⟨g,i,none⟩) hk).trans (h.c i hi),(World.frozen?_of_block (w:=w) (a:=⟨g,i,none⟩) hk).trans (h.f i hi)⟩⟩
theorem PTr.keep {ok ok' :Nat→Prop} {w w' :World} (hs:w.heap.size≤w'.heap.size) (hk:∀b,ok b→b<w.heap.size→w'.heap[b]? =w.heap[b]?) (ho:∀b,ok b→b<w.heap.size→ok' b):∀{t:QT} {x y s lv:Int} {g:Nat},PTr ok w t x y s lv g→PTr ok' w' t x y s lv g
 | .leaf _,_,_,_,_,_,h=>by
  obtain⟨h1,iv,h2,h3⟩:=h;exact⟨ho _ h1 h2.lt,iv,h2.keep hs (hk _ h1 h2.lt),h3.keep hs hk ho⟩
 | .node K,_,_,_,_,_,h=>by
  obtain⟨h1,A,kc,gs,h2,hA,hoA,h3⟩:=h;refine⟨ho _ h1 h2.lt,A,kc,gs,h2.keep hs (hk _ h1 h2.lt),Nat.lt_of_lt_of_le hA hs,ho A hoA hA,fun k hk4=>?_⟩;obtain⟨c0,h4⟩:=h3 k hk4;exact⟨(World.cell?_of_block (w:=w) (a:=⟨A,k,none⟩) (hk A hoA hA)).trans c0,PTr.keep hs hk ho (t:=K k) h4⟩
theorem PTr.step {ok:Nat→Prop} {w w' :World} (hB:Below w.heap.size w w') {t:QT} {x y s lv:Int} {g:Nat} (h:PTr ok w t x y s lv g):PTr ok w' t x y s lv g:=PTr.keep hB.size (fun b _ hb=>hB.block b hb) (fun _ h _=>h) h
theorem STr.keep {ok ok' :Nat→Prop} {w w' :World} (hs:w.heap.size≤w'.heap.size) (hk:∀b,ok b→b<w.heap.size→w'.heap[b]? =w.heap[b]?) (ho:∀b,ok b→b<w.heap.size→ok' b):∀{t:QT} {x y s lv:Int} {g:Nat},STr ok w t x y s lv g→STr ok' w' t x y s lv g
 | .leaf _,_,_,_,_,_,h=>by
  obtain⟨h1,iv,h2,h3⟩:=h;exact⟨ho _ h1 h2.lt,iv,h2.keep hs (hk _ h1 h2.lt),h3.keep (fun b hb=>hk b hb.1) (fun b hb hl=>⟨ho b hb.1 hl,hb.2⟩)⟩
 | .node K,_,_,_,_,_,h=>by
  obtain⟨h1,A,kc,gs,oks,h2,hA,hoA,hAg,hin,hap,h3⟩:=h;refine⟨ho _ h1 h2.lt,A,kc,gs,fun k b=>oks k b∧b<w.heap.size,h2.keep hs (hk _ h1 h2.lt),Nat.lt_of_lt_of_le hA hs,ho A hoA hA,hAg,fun k b hk4 hb=>?_,fun i j b hi hj hne hb hb2=>hap i j b hi hj hne hb.1 hb2.1,fun k hk4=>?_⟩
  · obtain⟨a1,a2⟩:=hin k b hk4 hb.1;exact⟨ho b a1 hb.2,a2⟩
  · obtain⟨c0,h4⟩:=h3 k hk4;exact⟨(World.cell?_of_block (w:=w) (a:=⟨A,k,none⟩) (hk A hoA hA)).trans c0,STr.keep hs (fun b hb hl=>hk b (hin k b hk4 hb).1 hl) (fun b hb hl=>⟨hb,hl⟩) (t:=K k) h4⟩
theorem STr.step {ok:Nat→Prop} {w w' :World} (hB:Below w.heap.size w w') {t:QT} {x y s lv:Int} {g:Nat} (h:STr ok w t x y s lv g):STr ok w' t x y s lv g:=STr.keep hB.size (fun b _ hb=>hB.block b hb) (fun _ h _=>h) h
theorem STr.toP {w:World}:∀{t:QT} {ok:Nat→Prop} {x y s lv:Int} {g:Nat},STr ok w t x y s lv g→PTr ok w t x y s lv g
 | .leaf _,_,_,_,_,_,_,h=>by
  obtain⟨h1,iv,h2,h3⟩:=h;exact⟨h1,iv,h2,(IdS.toV h3).keep (Nat.le_refl _) (fun _ _ _=>rfl) (fun b hb _=>hb.1)⟩
 | .node K,_,_,_,_,_,_,h=>by
  obtain⟨h1,A,kc,gs,oks,h2,hA,hoA,hAg,hin,hap,h3⟩:=h;refine⟨h1,A,kc,gs,h2,hA,hoA,fun k hk4=>?_⟩;obtain⟨c0,h4⟩:=h3 k hk4;exact⟨c0,PTr.keep (Nat.le_refl _) (fun _ _ _=>rfl) (fun b hb _=>(hin k b hk4 hb).1) (STr.toP (t:=K k) h4)⟩
structure LQ where
 x:Int
 y:Int
 s:Int
 lv:Int
 l:List Int
def nlT:QT→Nat
 | .leaf _=>1
 | .node K=>nlT (K 0)+nlT (K 1)+nlT (K 2)+nlT (K 3)
def dpT:QT→Nat
 | .leaf _=>0
 | .node K=>max (max (max (dpT (K 0)+1) (dpT (K 1)+1)) (dpT (K 2)+1)) (dpT (K 3)+1)
theorem nl_pos:∀t:QT,1≤nlT t
 | .leaf _=>Nat.le_refl 1
 | .node K=>by
  have:=nl_pos (K 0);simp only[nlT]
  omega
def dpB:Nat→QT→Prop
 | _,.leaf _=>True
 | 0,.node _=>False
 | d+1,.node K=>∀k,k<4→dpB d (K k)
theorem dp_tr (Q:QD):∀(d at_:Nat) (x y s:Int),dpB d (trQ Q d at_ x y s)
 | 0,_,_,_,_=>trivial
 | d+1,at_,x,y,s=>by
  unfold trQ
  split
  · exact fun k _=>dp_tr Q d _ _ _ _
  · trivial
theorem nl_le:∀(d:Nat) (t:QT),dpB d t→nlT t≤4 ^ d
 | d,.leaf _,_=>Nat.one_le_pow _ _ (by omega)
 | 0,.node _,h=>by cases h
 | d+1,.node K,h=>by
  have h0:=nl_le d _ (h 0 (by omega));have h1:=nl_le d _ (h 1 (by omega));have h2:=nl_le d _ (h 2 (by omega));have h3:=nl_le d _ (h 3 (by omega));simp only[nlT];rw[Nat.pow_succ]
  omega
theorem dp_le:∀(d:Nat) (t:QT),dpB d t→dpT t≤d
 | d,.leaf _,_=>Nat.zero_le _
 | 0,.node _,h=>by cases h
 | d+1,.node K,h=>by
  have h0:=dp_le d _ (h 0 (by omega));have h1:=dp_le d _ (h 1 (by omega));have h2:=dp_le d _ (h 2 (by omega));have h3:=dp_le d _ (h 3 (by omega));simp only[dpT]
  omega
theorem nl_small {d:Nat} {t:QT} (hd:d≤8) (h:dpB d t):nlT t≤65536:=
 Nat.le_trans (nl_le d t h) (Nat.le_trans (Nat.pow_le_pow_right (by omega) hd) (by decide))
def ptL (ps:List Nat):List Value:=ps.map fun p=>Value.pointer (some ⟨p,0,none⟩)
theorem ptL_app (a b:List Nat):ptL (a ++b)=ptL a ++ptL b:=by simp[ptL]
theorem ptL_len (a:List Nat):(ptL a).length=a.length:=by simp[ptL]
theorem ptL_one (a:List Nat):∀u∈ptL a,u.oneCell' =true:=by
 intro u hu;obtain⟨z,_,rfl⟩:=List.mem_map.1 hu
 rfl
end Go.Proofs.YthelolpogdcmhaaGreat
