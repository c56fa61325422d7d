/- Part 21 of the walks that the proof leans on. -/
import Derived.Test.YthelolpogdcmhaaGreatQx19
import Derived.Test.YthelolpogdcmhaaGreatQx20
import Derived.Test.YthelolpogdcmhaaGreatQx17
set_option maxRecDepth 100000
set_option maxHeartbeats 16000000
namespace Go.Proofs.YthelolpogdcmhaaGreat
open Go.RowKit
def VqxA (_P8 P3 A off n cap kk:Nat) (m1 d1:Int) (io1 bo1:Option Addr) (n1 ic1 N1 bc1:Nat) (id sa sb sc sd:Int) (okn:Bool) (_XG:Value→World→Prop) (_Wd:World) (_B:Nat):Nat→Value→World→Prop
 | 0,v,_=>v= .agg #[.int .i64 m1,.int .i64 d1,.slice io1 n1 ic1,.slice bo1 N1 bc1]
 | 1,v,_=>v= .pointer (some ⟨P3,2,none⟩)
 | 2,v,_=>v= .slice (some ⟨A,off,none⟩) n cap
 | 3,v,_=>v= .int .i64 (kk:Int)
 | 4,v,_=>v= .pointer (some ⟨A,off+kk*5,none⟩)
 | 5,v,_=>v= .pointer (some ⟨A,off+kk*5,none⟩)
 | 6,v,_=>v= .int .i64 id
 | 7,v,_=>v= .pointer (some ⟨P3,2,none⟩)
 | 8,v,_=>v= .slice (some ⟨A,off,none⟩) n cap
 | 9,v,_=>v= .int .i64 (kk:Int)
 | 10,v,_=>v= .pointer (some ⟨A,off+kk*5,none⟩)
 | 11,v,_=>v= .pointer (some ⟨A,off+kk*5+1,none⟩)
 | 12,v,_=>v=Sg sa sb sc sd
 | 14,v,_=>∃(u:Value),v= .tuple #[u,.bool okn]
 | 16,v,_=>v= .bool okn
 | 18,v,_=>v= .bool okn
 | _,_,_=>True
theorem VqxA.same {P8 P3 A off n cap kk:Nat} {m1 d1:Int} {io1 bo1:Option Addr} {n1 ic1 N1 bc1:Nat} {id sa sb sc sd:Int} {okn:Bool} {XG:Value→World→Prop} {Wd:World} {B j:Nat} {v:Value} {W W2:World} (h:VqxA P8 P3 A off n cap kk m1 d1 io1 bo1 n1 ic1 N1 bc1 id sa sb sc sd okn XG Wd B j v W):VqxA P8 P3 A off n cap kk m1 d1 io1 bo1 n1 ic1 N1 bc1 id sa sb sc sd okn XG Wd B j v W2:=by
 unfold VqxA at *
 split<;>simp only at h<;>first | exact h | trivial
def RqxA (P8 _P3 _A _off _n _cap _kk:Nat) (_m1 _d1:Int) (_io1 _bo1:Option Addr) (_n1 _ic1 _N1 _bc1:Nat) (_id _sa _sb _sc _sd:Int) (okn:Bool) (XG:Value→World→Prop) (Wd:World):Nat→(Nat→Value)→World→Prop:=fun kq val W=>match kq with
 | 0=>W=Wd
 | 1=>∃(u:Value),val 0= .tuple #[u,.bool okn]∧XG u W∧Below Wd.heap.size Wd W
 | 2=>∃(u:Value),val 1= .tuple #[u,.bool okn]∧XG u W∧Below Wd.heap.size Wd W
 | 3=>∃(u:Value),val 2=u∧XG u W∧Below Wd.heap.size Wd W
 | _=>∃(W2:World) (m2 d2:Int) (io2 bo2:Option Addr) (n2 ic2 N2 bc2:Nat),XG (.agg #[.int .i64 m2,.int .i64 d2,.slice io2 n2 ic2,.slice bo2 N2 bc2]) W2∧Below Wd.heap.size Wd W2∧W=((((W2.setCell ⟨P8,0,none⟩ (.int .i64 m2)).setCell ⟨P8,1,none⟩ (.int .i64 d2)).setCell ⟨P8,2,none⟩ (.slice io2 n2 ic2)).setCell ⟨P8,3,none⟩ (.slice bo2 N2 bc2))
def SqxA (P8 P3 A off n cap kk:Nat) (m1 d1:Int) (io1 bo1:Option Addr) (n1 ic1 N1 bc1:Nat) (id sa sb sc sd:Int) (okn:Bool) (XG:Value→World→Prop) (Wd:World) (lz:Array Bool) (az:Act) (W:World):Prop:=ChS 16 4 (fun t=>[13,14,15,17].getD t 0) (fun t=>[42,28,43,1017].getD t 0) (RqxA P8 P3 A off n cap kk m1 d1 io1 bo1 n1 ic1 N1 bc1 id sa sb sc sd okn XG Wd) lz az W∧((lz.getD 13 false=true→lz.getD 0 false=true))
def JqxA (P8 P3 A off n cap kk:Nat) (m1 d1:Int) (io1 bo1:Option Addr) (n1 ic1 N1 bc1:Nat) (id sa sb sc sd:Int) (okn:Bool) (XG:Value→World→Prop) (Wd:World) (w0:World) (a0:Act) (lz:Array Bool) (az:Act) (W:World):Prop:=InvQ (P8) [some 29,some 30,some 31,some 32,some 33,some 34,some 35,some 36,some 37,some 38,some 39,some 40,some 41,some 42,some 28,some 43,some 44,none,some 9] (VqxA P8 P3 A off n cap kk m1 d1 io1 bo1 n1 ic1 N1 bc1 id sa sb sc sd okn XG Wd (P8)) w0 a0 lz az W∧SqxA P8 P3 A off n cap kk m1 d1 io1 bo1 n1 ic1 N1 bc1 id sa sb sc sd okn XG Wd lz az W
theorem qxA {Q:Exit→Act→World→Prop} {P8 P3 A off n cap kk:Nat} {m1 d1:Int} {io1 bo1:Option Addr} {n1 ic1 N1 bc1:Nat} {id sa sb sc sd:Int} {okn:Bool} {XG:Value→World→Prop} {Wd:World} {w0:World} {a0:Act} {idq:Nat} {t0 t1 t2 t3 t4 t5 t6 t7 t8 t9 t10 t11 t12 t13 t14 t15 t16 t17 t18:TypeId} {q0 q1 q2 q3 q4 q5 q6 q7 q8 q9 q10 q11 q12 q13 q14 q15 q16 q17 q18:String}
 (hT3:P8<w0.heap.size) (hkn:kk<n) (hn:n≤42) (hCP:Calls Tryz.prog 27 #[.agg #[.int .i64 m1,.int .i64 d1,.slice io1 n1 ic1,.slice bo1 N1 bc1],.int .i64 id,Sg sa sb sc sd] Wd (fun r w' =>∃u,r= .returned (.tuple #[u,.bool okn])∧XG u w' ∧Below Wd.heap.size Wd w')) (hXf:∀u W,XG u W→∃(m2 d2:Int) (io2:Option Addr) (n2 ic2:Nat) (bo2:Option Addr) (N2 bc2:Nat),u= .agg #[.int .i64 m2,.int .i64 d2,.slice io2 n2 ic2,.slice bo2 N2 bc2]) (hBT:Blk w0.drew P8 [.int .i64 m1,.int .i64 d1,.slice io1 n1 ic1,.slice bo1 N1 bc1]) (hWe:Wd=w0.drew) (h3:a0.tmps[3]? =some (.pointer (some ⟨P3,0,none⟩))) (h8:a0.tmps[8]? =some (.pointer (some ⟨P8,0,none⟩))) (h10:a0.tmps[10]? =some (.int .i64 (kk:Int))) (k0:w0.cell? ⟨P3,2,none⟩=some (.slice (some ⟨A,off,none⟩) n cap)) (l0:(⟨P3,2,none⟩:Addr).block<P8) (k1:w0.cell? ⟨A,off+kk*5,none⟩=some (.int .i64 id)) (l1:(⟨A,off+kk*5,none⟩:Addr).block<P8) (k2:w0.cell? ⟨A,off+kk*5+1,none⟩=some (.int .i64 sa)) (l2:(⟨A,off+kk*5+1,none⟩:Addr).block<P8) (k3:w0.cell? ⟨A,off+kk*5+1+1,none⟩=some (.int .i64 sb)) (l3:(⟨A,off+kk*5+1+1,none⟩:Addr).block<P8) (k4:w0.cell? ⟨A,off+kk*5+1+2,none⟩=some (.int .i64 sc)) (l4:(⟨A,off+kk*5+1+2,none⟩:Addr).block<P8) (k5:w0.cell? ⟨A,off+kk*5+1+3,none⟩=some (.int .i64 sd)) (l5:(⟨A,off+kk*5+1+3,none⟩:Addr).block<P8) (hz:a0.tmps.size=47)
 (hQ:∀aq W,aq.tmps.size=a0.tmps.size→aq.defers=a0.defers→(∀e,e∉([29,30,31,32,33,34,35,36,37,38,39,40,41,42,28,43,44,9]:List Nat)→aq.tmps[e]? =a0.tmps[e]?)→VqxA P8 P3 A off n cap kk m1 d1 io1 bo1 n1 ic1 N1 bc1 id sa sb sc sd okn XG Wd (P8) 17 undef W→VqxA P8 P3 A off n cap kk m1 d1 io1 bo1 n1 ic1 N1 bc1 id sa sb sc sd okn XG Wd (P8) 18 (aq.tmps.getD 9 undef) W→Below (P8) w0 W→(∃(W2:World) (m2 d2:Int) (io2 bo2:Option Addr) (n2 ic2 N2 bc2:Nat),XG (.agg #[.int .i64 m2,.int .i64 d2,.slice io2 n2 ic2,.slice bo2 N2 bc2]) W2∧Below Wd.heap.size Wd W2∧W=((((W2.setCell ⟨P8,0,none⟩ (.int .i64 m2)).setCell ⟨P8,1,none⟩ (.int .i64 d2)).setCell ⟨P8,2,none⟩ (.slice io2 n2 ic2)).setCell ⟨P8,3,none⟩ (.slice bo2 N2 bc2)))→Q .normal aq W) :
 (Code.region idq #[⟨some 29,.load 27 (.tmp 8),t0,q0,#[],none⟩,
 ⟨some 30,.fieldAddr 27 (.tmp 3) 2,t1,q1,#[],none⟩,
 ⟨some 31,.load 24 (.tmp 30),t2,q2,#[⟨1,.data⟩],none⟩,
 ⟨some 32,.move (.tmp 10),t3,q3,#[],none⟩,
 ⟨some 33,.indexAddr 24 (.tmp 31) (.tmp 32),t4,q4,#[⟨2,.data⟩,⟨3,.data⟩],none⟩,
 ⟨some 34,.fieldAddr 40 (.tmp 33) 0,t5,q5,#[⟨4,.data⟩],none⟩,
 ⟨some 35,.load 2 (.tmp 34),t6,q6,#[⟨5,.data⟩],none⟩,
 ⟨some 36,.fieldAddr 27 (.tmp 3) 2,t7,q7,#[],none⟩,
 ⟨some 37,.load 24 (.tmp 36),t8,q8,#[⟨7,.data⟩],none⟩,
 ⟨some 38,.move (.tmp 10),t9,q9,#[],none⟩,
 ⟨some 39,.indexAddr 24 (.tmp 37) (.tmp 38),t10,q10,#[⟨8,.data⟩,⟨9,.data⟩],none⟩,
 ⟨some 40,.fieldAddr 40 (.tmp 39) 1,t11,q11,#[⟨10,.data⟩],none⟩,
 ⟨some 41,.load 38 (.tmp 40),t12,q12,#[⟨11,.data⟩],none⟩,
 ⟨some 42,.call {callee:= .value (.func 27),args:=#[.tmp 29,.tmp 35,.tmp 41],argTypes:=#[27,2,38]},t13,q13,#[⟨0,.data⟩,⟨6,.data⟩,⟨12,.data⟩],none⟩,
 ⟨some 28,.move (.tmp 42),t14,q14,#[⟨13,.data⟩],none⟩,
 ⟨some 43,.extract (.tmp 28) 0,t15,q15,#[⟨14,.data⟩],none⟩,
 ⟨some 44,.extract (.tmp 28) 1,t16,q16,#[⟨14,.data⟩,⟨17,.gcOnly .lateStores⟩],none⟩,
 ⟨none,.store 27 (.tmp 8) (.tmp 43),t17,q17,#[⟨15,.data⟩,⟨13,.chain⟩,⟨0,.phase⟩,⟨1,.phase⟩,⟨2,.phase⟩,⟨3,.phase⟩,⟨4,.phase⟩,⟨5,.phase⟩,⟨6,.phase⟩,⟨7,.phase⟩,⟨8,.phase⟩,⟨9,.phase⟩,⟨10,.phase⟩,⟨11,.phase⟩,⟨12,.phase⟩,⟨13,.phase⟩,⟨14,.phase⟩,⟨15,.phase⟩,⟨16,.textOnly .lateStores⟩],none⟩,
 ⟨some 9,.assign (.tmp 44),t18,q18,#[⟨16,.data⟩,⟨17,.chain⟩,⟨0,.phase⟩,⟨1,.phase⟩,⟨2,.phase⟩,⟨3,.phase⟩,⟨4,.phase⟩,⟨5,.phase⟩,⟨6,.phase⟩,⟨7,.phase⟩,⟨8,.phase⟩,⟨9,.phase⟩,⟨10,.phase⟩,⟨11,.phase⟩,⟨12,.phase⟩,⟨13,.phase⟩,⟨14,.phase⟩,⟨15,.phase⟩,⟨16,.phase⟩,⟨17,.phase⟩],none⟩] true).wp Tryz.prog Q a0 w0:=by
 have hS:distS [some 29,some 30,some 31,some 32,some 33,some 34,some 35,some 36,some 37,some 38,some 39,some 40,some 41,some 42,some 28,some 43,some 44,none,some 9]=true:=rfl;refine wp_region_inv (by kernel_rfl) (JqxA P8 P3 A off n cap kk m1 d1 io1 bo1 n1 ic1 N1 bc1 id sa sb sc sd okn XG Wd w0 a0) ⟨⟨rfl,rfl,rfl,fun _ _=>rfl,(Below.refl _ w0).drew,fun j d hj=>?_,fun j hj=>?_⟩,⟨ChS.start (by decide) (hWe.symm),(fun h=>by rw[replD] at h;cases h)⟩⟩ ?_ ?_
 · exfalso
   rw[Array.getD_eq_getD_getElem?,Array.getElem?_replicate] at hj
   split at hj<;>simp at hj
 · exfalso
   rw[Array.getD_eq_getD_getElem?,Array.getElem?_replicate] at hj
   split at hj<;>simp at hj
 · intro lq aq W iq oq ⟨hJ2,hs⟩ hl ho hall;have z1:=hJ2.1;have z2:=hJ2.2.1;have z5:=hJ2.b;have g3:=hJ2.a h3
   have g8:=hJ2.a h8
   have g10:=hJ2.a h10
   have c0:=hJ2.c k0 l0;have c1:=hJ2.c k1 l1;have c2:=hJ2.c k2 l2;have c3:=hJ2.c k3 l3;have c4:=hJ2.c k4 l4;have c5:=hJ2.c k5 l5
   have HK:=fun i d h1 h2 v W2 hW hT hv hs=>show JqxA P8 P3 A off n cap kk m1 d1 io1 bo1 n1 ic1 N1 bc1 id sa sb sc sd okn XG Wd w0 a0 (lq.setIfInBounds i true) (aq.put (some d) v) W2 from⟨hJ2.put hS i d h1 h2 hW hT v hv,hs⟩
   have HW:=fun i h1 W2 hW hT hv hs=>show JqxA P8 P3 A off n cap kk m1 d1 io1 bo1 n1 ic1 N1 bc1 id sa sb sc sd okn XG Wd w0 a0 (lq.setIfInBounds i true) aq W2 from⟨hJ2.world i h1 (W' :=W2) hW hT hv,hs⟩
   generalize JqxA P8 P3 A off n cap kk m1 d1 io1 bo1 n1 ic1 N1 bc1 id sa sb sc sd okn XG Wd w0 a0=JJ at HK HW⊢
   clear hQ
   match iq,ho with
   | 0,ho=>
    cases ho;refine wpOp_of rfl rfl ?_;have hq:∀v:Value,SqxA P8 P3 A off n cap kk m1 d1 io1 bo1 n1 ic1 N1 bc1 id sa sb sc sd okn XG Wd (lq.setIfInBounds 0 true) (aq.put (some 29) v) W:=fun v=>⟨hs.1.quiet 0 29 v (by decide) hl (by decide) (by decide),(fun _=>getD_set_eq hl)⟩;have u0:lq.getD 0 false=false:=by cases e:lq.getD 0 false with | false=>rfl | true=>rw[getD_tf hl] at e;cases e
    have u13:lq.getD 13 false=false:=by cases e:lq.getD 13 false with | false=>rfl | true=>have:=hs.2 e;rw[u0] at this;cases this
    obtain⟨cc,hcc,hRR,hle⟩:=hs.1.some (i:=0) (by decide) hl;have hcc1:cc=0:=by have:=hle 0 (by decide) (by show lq.getD 13 true=false;exact getD_ft u13 (by rw[z1];decide));omega
    subst hcc1;have eW:W=Wd:=hRR;have j0:W.cell? ⟨P8,0,none⟩=some (.int .i64 m1):=by rw[eW,hWe];exact hBT.c 0 rfl
    have j1:W.cell? ⟨P8,1,none⟩=some (.int .i64 d1):=by rw[eW,hWe];exact hBT.c 1 rfl
    have j2:W.cell? ⟨P8,2,none⟩=some (.slice io1 n1 ic1):=by rw[eW,hWe];exact hBT.c 2 rfl
    have j3:W.cell? ⟨P8,3,none⟩=some (.slice bo1 N1 bc1):=by rw[eW,hWe];exact hBT.c 3 rfl
    clear hRR hle hcc eW u0 u13 hCP hXf hBT;clear hs hWe;have hK:=HK 0 29 rfl (by omega);generalize JJ _=K at hK⊢;clear ho hall hl HK HW hJ2 hS z1 z2;go_simp;exact hK _ _ z5 (fun _ _ h=>h) rfl (hq _)
   | 1,ho=>
    cases ho;refine wpOp_of rfl rfl ?_;have hq:∀v:Value,SqxA P8 P3 A off n cap kk m1 d1 io1 bo1 n1 ic1 N1 bc1 id sa sb sc sd okn XG Wd (lq.setIfInBounds 1 true) (aq.put (some 30) v) W:=fun v=>⟨hs.1.quiet 1 30 v (by decide) hl (by decide) (by decide),(by rw[gn 1 13,gn 1 0];exact hs.2)⟩;clear hs hWe;have hK:=HK 1 30 rfl (by omega);generalize JJ _=K at hK⊢;clear ho hall hl HK HW hJ2 hS z1 z2;go_simp;exact hK _ _ z5 (fun _ _ h=>h) rfl (hq _)
   | 2,ho=>
    cases ho;refine wpOp_of rfl rfl ?_;have f1:_=Value.pointer (some ⟨P3,2,none⟩):=hJ2.v hall 1 30;have hq:∀v:Value,SqxA P8 P3 A off n cap kk m1 d1 io1 bo1 n1 ic1 N1 bc1 id sa sb sc sd okn XG Wd (lq.setIfInBounds 2 true) (aq.put (some 31) v) W:=fun v=>⟨hs.1.quiet 2 31 v (by decide) hl (by decide) (by decide),(by rw[gn 2 13,gn 2 0];exact hs.2)⟩;clear hs hWe;have hK:=HK 2 31 rfl (by omega);generalize JJ _=K at hK⊢;clear ho hall hl HK HW hJ2 hS z1 z2;go_simp;exact hK _ _ z5 (fun _ _ h=>h) rfl (hq _)
   | 3,ho=>
    cases ho;refine wpOp_of rfl rfl ?_;have hq:∀v:Value,SqxA P8 P3 A off n cap kk m1 d1 io1 bo1 n1 ic1 N1 bc1 id sa sb sc sd okn XG Wd (lq.setIfInBounds 3 true) (aq.put (some 32) v) W:=fun v=>⟨hs.1.quiet 3 32 v (by decide) hl (by decide) (by decide),(by rw[gn 3 13,gn 3 0];exact hs.2)⟩;clear hs hWe;have hK:=HK 3 32 rfl (by omega);generalize JJ _=K at hK⊢;clear ho hall hl HK HW hJ2 hS z1 z2;go_simp;exact hK _ _ z5 (fun _ _ h=>h) rfl (hq _)
   | 4,ho=>
    cases ho;refine wpOp_of rfl rfl ?_;have f2:_=Value.slice (some ⟨A,off,none⟩) n cap:=hJ2.v hall 2 31;have f3:_=Value.int .i64 (kk:Int):=hJ2.v hall 3 32;have hq:∀v:Value,SqxA P8 P3 A off n cap kk m1 d1 io1 bo1 n1 ic1 N1 bc1 id sa sb sc sd okn XG Wd (lq.setIfInBounds 4 true) (aq.put (some 33) v) W:=fun v=>⟨hs.1.quiet 4 33 v (by decide) hl (by decide) (by decide),(by rw[gn 4 13,gn 4 0];exact hs.2)⟩;have hkI0:(kk:Int)<n:=by omega
    have hnI0:(n:Int)≤42:=by omega
    clear hs hWe;have hK:=HK 4 33 rfl (by omega);generalize JJ _=K at hK⊢;clear ho hall hl HK HW hJ2 hS z1 z2;go_simp;exact hK _ _ z5 (fun _ _ h=>h) rfl (hq _)
   | 5,ho=>
    cases ho;refine wpOp_of rfl rfl ?_;have f4:_=Value.pointer (some ⟨A,off+kk*5,none⟩):=hJ2.v hall 4 33;have hq:∀v:Value,SqxA P8 P3 A off n cap kk m1 d1 io1 bo1 n1 ic1 N1 bc1 id sa sb sc sd okn XG Wd (lq.setIfInBounds 5 true) (aq.put (some 34) v) W:=fun v=>⟨hs.1.quiet 5 34 v (by decide) hl (by decide) (by decide),(by rw[gn 5 13,gn 5 0];exact hs.2)⟩;clear hs hWe;have hK:=HK 5 34 rfl (by omega);generalize JJ _=K at hK⊢;clear ho hall hl HK HW hJ2 hS z1 z2;go_simp;exact hK _ _ z5 (fun _ _ h=>h) rfl (hq _)
   | 6,ho=>
    cases ho;refine wpOp_of rfl rfl ?_;have f5:_=Value.pointer (some ⟨A,off+kk*5,none⟩):=hJ2.v hall 5 34;have hq:∀v:Value,SqxA P8 P3 A off n cap kk m1 d1 io1 bo1 n1 ic1 N1 bc1 id sa sb sc sd okn XG Wd (lq.setIfInBounds 6 true) (aq.put (some 35) v) W:=fun v=>⟨hs.1.quiet 6 35 v (by decide) hl (by decide) (by decide),(by rw[gn 6 13,gn 6 0];exact hs.2)⟩;clear hs hWe;have hK:=HK 6 35 rfl (by omega);generalize JJ _=K at hK⊢;clear ho hall hl HK HW hJ2 hS z1 z2;go_simp;exact hK _ _ z5 (fun _ _ h=>h) rfl (hq _)
   | 7,ho=>
    cases ho;refine wpOp_of rfl rfl ?_;have hq:∀v:Value,SqxA P8 P3 A off n cap kk m1 d1 io1 bo1 n1 ic1 N1 bc1 id sa sb sc sd okn XG Wd (lq.setIfInBounds 7 true) (aq.put (some 36) v) W:=fun v=>⟨hs.1.quiet 7 36 v (by decide) hl (by decide) (by decide),(by rw[gn 7 13,gn 7 0];exact hs.2)⟩;clear hs hWe;have hK:=HK 7 36 rfl (by omega);generalize JJ _=K at hK⊢;clear ho hall hl HK HW hJ2 hS z1 z2;go_simp;exact hK _ _ z5 (fun _ _ h=>h) rfl (hq _)
   | 8,ho=>
    cases ho;refine wpOp_of rfl rfl ?_;have f7:_=Value.pointer (some ⟨P3,2,none⟩):=hJ2.v hall 7 36;have hq:∀v:Value,SqxA P8 P3 A off n cap kk m1 d1 io1 bo1 n1 ic1 N1 bc1 id sa sb sc sd okn XG Wd (lq.setIfInBounds 8 true) (aq.put (some 37) v) W:=fun v=>⟨hs.1.quiet 8 37 v (by decide) hl (by decide) (by decide),(by rw[gn 8 13,gn 8 0];exact hs.2)⟩;clear hs hWe;have hK:=HK 8 37 rfl (by omega);generalize JJ _=K at hK⊢;clear ho hall hl HK HW hJ2 hS z1 z2;go_simp;exact hK _ _ z5 (fun _ _ h=>h) rfl (hq _)
   | 9,ho=>
    cases ho;refine wpOp_of rfl rfl ?_;have hq:∀v:Value,SqxA P8 P3 A off n cap kk m1 d1 io1 bo1 n1 ic1 N1 bc1 id sa sb sc sd okn XG Wd (lq.setIfInBounds 9 true) (aq.put (some 38) v) W:=fun v=>⟨hs.1.quiet 9 38 v (by decide) hl (by decide) (by decide),(by rw[gn 9 13,gn 9 0];exact hs.2)⟩;clear hs hWe;have hK:=HK 9 38 rfl (by omega);generalize JJ _=K at hK⊢;clear ho hall hl HK HW hJ2 hS z1 z2;go_simp;exact hK _ _ z5 (fun _ _ h=>h) rfl (hq _)
   | 10,ho=>
    cases ho;refine wpOp_of rfl rfl ?_;have f8:_=Value.slice (some ⟨A,off,none⟩) n cap:=hJ2.v hall 8 37;have f9:_=Value.int .i64 (kk:Int):=hJ2.v hall 9 38;have hq:∀v:Value,SqxA P8 P3 A off n cap kk m1 d1 io1 bo1 n1 ic1 N1 bc1 id sa sb sc sd okn XG Wd (lq.setIfInBounds 10 true) (aq.put (some 39) v) W:=fun v=>⟨hs.1.quiet 10 39 v (by decide) hl (by decide) (by decide),(by rw[gn 10 13,gn 10 0];exact hs.2)⟩;have hkI0:(kk:Int)<n:=by omega
    have hnI0:(n:Int)≤42:=by omega
    clear hs hWe;have hK:=HK 10 39 rfl (by omega);generalize JJ _=K at hK⊢;clear ho hall hl HK HW hJ2 hS z1 z2;go_simp;exact hK _ _ z5 (fun _ _ h=>h) rfl (hq _)
   | 11,ho=>
    cases ho;refine wpOp_of rfl rfl ?_;have f10:_=Value.pointer (some ⟨A,off+kk*5,none⟩):=hJ2.v hall 10 39;have hq:∀v:Value,SqxA P8 P3 A off n cap kk m1 d1 io1 bo1 n1 ic1 N1 bc1 id sa sb sc sd okn XG Wd (lq.setIfInBounds 11 true) (aq.put (some 40) v) W:=fun v=>⟨hs.1.quiet 11 40 v (by decide) hl (by decide) (by decide),(by rw[gn 11 13,gn 11 0];exact hs.2)⟩;clear hs hWe;have hK:=HK 11 40 rfl (by omega);generalize JJ _=K at hK⊢;clear ho hall hl HK HW hJ2 hS z1 z2;go_simp;exact hK _ _ z5 (fun _ _ h=>h) rfl (hq _)
   | 12,ho=>
    cases ho;refine wpOp_of rfl rfl ?_;have f11:_=Value.pointer (some ⟨A,off+kk*5+1,none⟩):=hJ2.v hall 11 40;have hq:∀v:Value,SqxA P8 P3 A off n cap kk m1 d1 io1 bo1 n1 ic1 N1 bc1 id sa sb sc sd okn XG Wd (lq.setIfInBounds 12 true) (aq.put (some 41) v) W:=fun v=>⟨hs.1.quiet 12 41 v (by decide) hl (by decide) (by decide),(by rw[gn 12 13,gn 12 0];exact hs.2)⟩;clear hs hWe;have hK:=HK 12 41 rfl (by omega);generalize JJ _=K at hK⊢;clear ho hall hl HK HW hJ2 hS z1 z2;go_simp;exact hK _ _ z5 (fun _ _ h=>h) rfl (hq _)
   | 13,ho=>
    cases ho;refine wpOp_of rfl rfl ?_;have f0:_=Value.agg #[.int .i64 m1,.int .i64 d1,.slice io1 n1 ic1,.slice bo1 N1 bc1]:=hJ2.v hall 0 29;have f6:_=Value.int .i64 id:=hJ2.v hall 6 35;have f12:_=Sg sa sb sc sd:=hJ2.v hall 12 41;have hpr:∀t,0=t+1→lq.getD ((fun t=>[13,14,15,17].getD t 0) t) false=true:=(fun t ht=>absurd ht (by omega));have RS:=hs.1.now 0 (by decide) hl hpr;have hq:∀(v:Value) (X:World),RqxA P8 P3 A off n cap kk m1 d1 io1 bo1 n1 ic1 N1 bc1 id sa sb sc sd okn XG Wd 1 (fun t=>if t=0 then v else valC 4 (fun t=>[42,28,43,1017].getD t 0) aq t) X→SqxA P8 P3 A off n cap kk m1 d1 io1 bo1 n1 ic1 N1 bc1 id sa sb sc sd okn XG Wd (lq.setIfInBounds 13 true) (aq.put (some 42) v) X:=fun v X hX=>⟨hs.1.link 0 (by decide) hl hpr (by decide) (by decide) (by rw[z2,hz];decide) (fun e=>absurd e (by decide)) hX,(fun _=>by rw[gn 13 0];exact hall ⟨0,.data⟩ (by simp) rfl)⟩;have eW:W=Wd:=RS;have hbW:P8≤Wd.heap.size:=by have:=z5.size;rw[eW] at this;omega
    have HC:Hid (Calls Tryz.prog 27 #[.agg #[.int .i64 m1,.int .i64 d1,.slice io1 n1 ic1,.slice bo1 N1 bc1],.int .i64 id,Sg sa sb sc sd] W (fun r w' =>∃u,r= .returned (.tuple #[u,.bool okn])∧XG u w' ∧Below W.heap.size W w')):=by rw[eW];exact hCP
    have hWs:Below W.heap.size W=Below Wd.heap.size Wd:=by rw[eW]
    have hq2:∀(v:Value) (X:World),(∃(u:Value),v= .tuple #[u,.bool okn]∧XG u X∧Below W.heap.size W X)→SqxA P8 P3 A off n cap kk m1 d1 io1 bo1 n1 ic1 N1 bc1 id sa sb sc sd okn XG Wd (lq.setIfInBounds 13 true) (aq.put (some 42) v) X:=fun v X ⟨u,h1,h2,h3⟩=>hq v X ⟨u,h1,h2,by rw[←hWs];exact h3⟩;have hbW2:P8≤W.heap.size:=by rw[eW];exact hbW
    clear eW RS hq hbW hWs hCP hXf hBT;clear hs hWe;have hK:=HK 13 42 rfl (by omega);generalize JJ _=K at hK⊢;clear ho hall hl HK HW hJ2 hS z1 z2;go_simp;refine HC.out.mono ?_;rintro r v1 ⟨u1,rfl,hT,hBv⟩;exact hK _ _ (z5.trans (hBv.mono hbW2)) (fun _ _ h=>h.same) trivial (hq2 _ _ ⟨u1,rfl,hT,hBv⟩)
   | 14,ho=>
    cases ho;refine wpOp_of rfl rfl ?_;have f13:True:=hJ2.v hall 13 42;have hpr:∀t,1=t+1→lq.getD ((fun t=>[13,14,15,17].getD t 0) t) false=true:=(fun t ht=>by obtain rfl:t=0:=(by omega);exact hall ⟨13,.data⟩ (by simp) rfl);have RS:=hs.1.now 1 (by decide) hl hpr;have hq:∀(v:Value) (X:World),RqxA P8 P3 A off n cap kk m1 d1 io1 bo1 n1 ic1 N1 bc1 id sa sb sc sd okn XG Wd 2 (fun t=>if t=1 then v else valC 4 (fun t=>[42,28,43,1017].getD t 0) aq t) X→SqxA P8 P3 A off n cap kk m1 d1 io1 bo1 n1 ic1 N1 bc1 id sa sb sc sd okn XG Wd (lq.setIfInBounds 14 true) (aq.put (some 28) v) X:=fun v X hX=>⟨hs.1.link 1 (by decide) hl hpr (by decide) (by decide) (by rw[z2,hz];decide) (fun e=>absurd e (by decide)) hX,(by rw[gn 14 13,gn 14 0];exact hs.2)⟩;obtain⟨u,ev0,hT,hB⟩:=RS;change aq.tmps.getD 42 undef= .tuple #[u,.bool okn] at ev0;have hq2:∀v:Value,v= .tuple #[u,.bool okn]→SqxA P8 P3 A off n cap kk m1 d1 io1 bo1 n1 ic1 N1 bc1 id sa sb sc sd okn XG Wd (lq.setIfInBounds 14 true) (aq.put (some 28) v) W:=fun v h1=>hq v W ⟨u,h1,hT,hB⟩;rw[Array.getD_eq_getD_getElem?] at ev0;clear hT hB hq hCP hXf hBT;clear hs hWe;have hK:=HK 14 28 rfl (by omega);generalize JJ _=K at hK⊢;clear ho hall hl HK HW hJ2 hS z1 z2;go_simp;exact hK _ _ z5 (fun _ _ h=>h) ⟨u,rfl⟩ (hq2 _ rfl)
   | 15,ho=>
    cases ho;refine wpOp_of rfl rfl ?_;have f14:∃(u:Value),(aq.tmps.getD 28 undef)= .tuple #[u,.bool okn]:=hJ2.v hall 14 28;obtain⟨u14,e14⟩:=f14;have hpr:∀t,2=t+1→lq.getD ((fun t=>[13,14,15,17].getD t 0) t) false=true:=(fun t ht=>by obtain rfl:t=1:=(by omega);exact hall ⟨14,.data⟩ (by simp) rfl);have RS:=hs.1.now 2 (by decide) hl hpr;have hq:∀(v:Value) (X:World),RqxA P8 P3 A off n cap kk m1 d1 io1 bo1 n1 ic1 N1 bc1 id sa sb sc sd okn XG Wd 3 (fun t=>if t=2 then v else valC 4 (fun t=>[42,28,43,1017].getD t 0) aq t) X→SqxA P8 P3 A off n cap kk m1 d1 io1 bo1 n1 ic1 N1 bc1 id sa sb sc sd okn XG Wd (lq.setIfInBounds 15 true) (aq.put (some 43) v) X:=fun v X hX=>⟨hs.1.link 2 (by decide) hl hpr (by decide) (by decide) (by rw[z2,hz];decide) (fun e=>absurd e (by decide)) hX,(by rw[gn 15 13,gn 15 0];exact hs.2)⟩;obtain⟨u,ev1,hT,hB⟩:=RS;change aq.tmps.getD 28 undef= .tuple #[u,.bool okn] at ev1;have hq2:∀v:Value,v=u→SqxA P8 P3 A off n cap kk m1 d1 io1 bo1 n1 ic1 N1 bc1 id sa sb sc sd okn XG Wd (lq.setIfInBounds 15 true) (aq.put (some 43) v) W:=fun v h1=>hq v W ⟨u,h1,hT,hB⟩;rw[Array.getD_eq_getD_getElem?] at ev1;clear e14 hT hB hq hCP hXf hBT;clear hs hWe;have hK:=HK 15 43 rfl (by omega);generalize JJ _=K at hK⊢;clear ho hall hl HK HW hJ2 hS z1 z2;go_simp;exact hK _ _ z5 (fun _ _ h=>h) trivial (hq2 _ rfl)
   | 16,ho=>
    cases ho;refine wpOp_of rfl rfl ?_;have f14:∃(u:Value),(aq.tmps.getD 28 undef)= .tuple #[u,.bool okn]:=hJ2.v hall 14 28;obtain⟨u14,e14⟩:=f14;have hq:∀v:Value,SqxA P8 P3 A off n cap kk m1 d1 io1 bo1 n1 ic1 N1 bc1 id sa sb sc sd okn XG Wd (lq.setIfInBounds 16 true) (aq.put (some 44) v) W:=fun v=>⟨hs.1.free 16 44 v (by decide) (by decide) (by decide),(by rw[gn 16 13,gn 16 0];exact hs.2)⟩;clear hs hWe;have hK:=HK 16 44 rfl (by omega);generalize JJ _=K at hK⊢;clear ho hall hl HK HW hJ2 hS z1 z2;go_simp;exact hK _ _ z5 (fun _ _ h=>h) rfl (hq _)
   | 17,ho=>
    cases ho;refine wpOp_of rfl rfl ?_;have f15:True:=hJ2.v hall 15 43;have hpr:∀t,3=t+1→lq.getD ((fun t=>[13,14,15,17].getD t 0) t) false=true:=(fun t ht=>by obtain rfl:t=2:=(by omega);exact hall ⟨15,.data⟩ (by simp) rfl);have RS:=hs.1.now 3 (by decide) hl hpr;have hq:∀(X:World),RqxA P8 P3 A off n cap kk m1 d1 io1 bo1 n1 ic1 N1 bc1 id sa sb sc sd okn XG Wd 4 (valC 4 (fun t=>[42,28,43,1017].getD t 0) aq) X→SqxA P8 P3 A off n cap kk m1 d1 io1 bo1 n1 ic1 N1 bc1 id sa sb sc sd okn XG Wd (lq.setIfInBounds 17 true) aq X:=fun X hX=>⟨hs.1.store 3 (by decide) hl hpr (by decide) (fun _ j hj hn=>match j,hj,hn with | 0,_,_=>hall ⟨0,.phase⟩ (by simp) rfl | 1,_,_=>hall ⟨1,.phase⟩ (by simp) rfl | 2,_,_=>hall ⟨2,.phase⟩ (by simp) rfl | 3,_,_=>hall ⟨3,.phase⟩ (by simp) rfl | 4,_,_=>hall ⟨4,.phase⟩ (by simp) rfl | 5,_,_=>hall ⟨5,.phase⟩ (by simp) rfl | 6,_,_=>hall ⟨6,.phase⟩ (by simp) rfl | 7,_,_=>hall ⟨7,.phase⟩ (by simp) rfl | 8,_,_=>hall ⟨8,.phase⟩ (by simp) rfl | 9,_,_=>hall ⟨9,.phase⟩ (by simp) rfl | 10,_,_=>hall ⟨10,.phase⟩ (by simp) rfl | 11,_,_=>hall ⟨11,.phase⟩ (by simp) rfl | 12,_,_=>hall ⟨12,.phase⟩ (by simp) rfl | 13,_,_=>hall ⟨13,.chain⟩ (by simp) rfl | 14,_,_=>hall ⟨14,.phase⟩ (by simp) rfl | 15,_,_=>hall ⟨15,.data⟩ (by simp) rfl | 16,hj,_=>absurd hj (by decide) | 18,hj,_=>absurd hj (by decide) | 17,_,hn=>absurd rfl hn | j+19,hj,_=>absurd hj (by omega)) hX,(by rw[gn 17 13,gn 17 0];exact hs.2)⟩;obtain⟨u,ev2,hT,hB⟩:=RS;change aq.tmps.getD 43 undef=u at ev2;obtain⟨m2,d2,io2,n2,ic2,bo2,N2,bc2,rfl⟩:=hXf _ _ hT;have hq2:SqxA P8 P3 A off n cap kk m1 d1 io1 bo1 n1 ic1 N1 bc1 id sa sb sc sd okn XG Wd (lq.setIfInBounds 17 true) aq ((((W.setCell ⟨P8,0,none⟩ (.int .i64 m2)).setCell ⟨P8,1,none⟩ (.int .i64 d2)).setCell ⟨P8,2,none⟩ (.slice io2 n2 ic2)).setCell ⟨P8,3,none⟩ (.slice bo2 N2 bc2)):=hq _ ⟨W,m2,d2,io2,bo2,n2,ic2,N2,bc2,hT,hB,rfl⟩;have BR:Blk W P8 [.int .i64 m1,.int .i64 d1,.slice io1 n1 ic1,.slice bo1 N1 bc1]:=by rw[←hWe] at hBT;exact hBT.step hB
    have y0:=BR.f 0 rfl;have y1:=BR.f 1 rfl;have y2:=BR.f 2 rfl;have y3:=BR.f 3 rfl;have x0:=BR.c 0 rfl;have x1:=BR.c 1 rfl;have x2:=BR.c 2 rfl;have x3:=BR.c 3 rfl;rw[Array.getD_eq_getD_getElem?] at ev2;clear hT hB hq BR hCP hXf hBT;clear hs hWe;have hK:=HW 17 rfl;generalize JJ _=K at hK⊢;clear ho hall hl HK HW hJ2 hS z1 z2;go_simp;exact hK _ ((((z5.setCell (Nat.le_refl _) _).setCell (Nat.le_refl _) _).setCell (Nat.le_refl _) _).setCell (Nat.le_refl _) _) (fun _ _ h=>h.same) trivial hq2
   | 18,ho=>
    cases ho;refine wpOp_of rfl rfl ?_;have f16:_=Value.bool okn:=hJ2.v hall 16 44;have hq:∀v:Value,SqxA P8 P3 A off n cap kk m1 d1 io1 bo1 n1 ic1 N1 bc1 id sa sb sc sd okn XG Wd (lq.setIfInBounds 18 true) (aq.put (some 9) v) W:=fun v=>⟨hs.1.free 18 9 v (by decide) (by decide) (by decide),(by rw[gn 18 13,gn 18 0];exact hs.2)⟩;clear hs hWe;have hK:=HK 18 9 rfl (by omega);generalize JJ _=K at hK⊢;clear ho hall hl HK HW hJ2 hS z1 z2;go_simp;exact hK _ _ z5 (fun _ _ h=>h) rfl (hq _)
   | iq+19,ho=>simp at ho
 · intro lq aq W ⟨hJ,hs⟩ hr;obtain⟨z1,z2,z3,z4,z5,z6,z7⟩:=hJ;have hl:=listed_of hr [0,1,2,3,4,5,6,7,8,9,10,11,12,13,14,15,17,16,18] [] (by simp) (by kernel_rfl) (by rw[z1];decide);exact hQ aq W z2 z3 (fun e he=>z4 e (by simpa using he)) (z7 17 (hl 17 (by simp)) rfl) (z6 18 9 (hl 18 (by simp)) rfl) z5 (by have hZ:=hl 17 (by simp);exact hs.1.done (by decide) hZ)
def besB (x y s p q u v:Int):Bool:=decide (u<x∨x+s<p∨v<y∨y+s<q)
def hitW (Q:QD) (p q u v:Int) (i:Nat):Bool:=hitB (Q.S i).1 (Q.S i).2.1 (Q.S i).2.2.1 (Q.S i).2.2.2 p q u v
def wnK (f:Nat→List Nat):Nat→List Nat
 | 0=>[]
 | k+1=>wnK f k ++f k
def wnT (Q:QD) (p q u v:Int):QT→Int→Int→Int→List Nat
 | .leaf _,x,y,s=>if besB x y s p q u v=true then[] else(flQ Q (List.range Q.m) x y s).filter (hitW Q p q u v)
 | .node K,x,y,s=>if besB x y s p q u v=true then[] else wnK (fun k=>wnT Q p q u v (K k) (kX x (s / 2) k) (kY y (s / 2) k) (s / 2)) 4
theorem wnK_mem {f:Nat→List Nat} {i:Nat}:∀n,i∈wnK f n↔∃k,k<n∧i∈f k
 | 0=>by simp[wnK]
 | n+1=>by
  rw[wnK,List.mem_append,wnK_mem n]
  constructor
  · rintro(⟨k,h1,h2⟩ | h)
    · exact⟨k,by omega,h2⟩
    · exact⟨n,by omega,h⟩
  · rintro⟨k,h1,h2⟩
    rcases Nat.lt_or_ge k n with h | h
    · exact .inl ⟨k,h,h2⟩
    · obtain rfl:k=n:=by omega
      exact .inr h2
theorem wnT_hit {Q:QD} {p q u v:Int} {i:Nat}:∀(t:QT) (x y s:Int),i∈wnT Q p q u v t x y s→i<Q.m∧hitW Q p q u v i=true
 | .leaf _,x,y,s,h=>by
  unfold wnT at h
  split at h
  · cases h
  · obtain⟨h1,h2⟩:=List.mem_filter.1 h;exact⟨List.mem_range.1 (List.mem_filter.1 h1).1,h2⟩
 | .node K,x,y,s,h=>by
  unfold wnT at h
  split at h
  · cases h
  · obtain⟨k,_,h2⟩:=(wnK_mem 4).1 h;exact wnT_hit (K k) _ _ _ h2
theorem part_some {a b c d x y X Y f p q u v:Int} (hac:a≤c) (hf:0≤f) (hX:X=x+f) (hY:Y=y+f) (h1:max x p≤min (X+f) u) (h2:max y q≤min (Y+f) v) (h:hitB a b c d (max x p) (max y q) (min (X+f) u) (min (Y+f) v)=true) :
 ∃x' y',(x' =x∨x' =X)∧(y' =y∨y' =Y)∧max x' p≤min (x' +f) u∧max y' q≤min (y' +f) v∧hitB a b c d (max x' p) (max y' q) (min (x' +f) u) (min (y' +f) v)=true:=by
 have hx:∃x',(x' =x∨x' =X)∧max x' p≤min (x' +f) u∧hitB a b c d (max x' p) (max y q) (min (x' +f) u) (min (Y+f) v)=true:=by
  rcases Int.lt_or_le X (max x p) with e | e
  · refine⟨X,.inr rfl,by omega,?_⟩;rw[show max X p=max x p by omega];exact h
  · rcases Int.lt_or_le (min (X+f) u) X with e2 | e2
    · refine⟨x,.inl rfl,by omega,?_⟩;rw[show min (x+f) u=min (X+f) u by omega];exact h
    · rcases hit_partX (X:=X) hac e e2 h2 h with h3 | h3
      · refine⟨x,.inl rfl,by omega,?_⟩;rw[show min (x+f) u=X by omega];exact h3
      · refine⟨X,.inr rfl,by omega,?_⟩;rw[show max X p=X by omega];exact h3
 obtain⟨x',e1,e2,h3⟩:=hx
 rcases Int.lt_or_le Y (max y q) with e | e
 · refine⟨x',Y,e1,.inr rfl,e2,by omega,?_⟩;rw[show max Y q=max y q by omega];exact h3
 · rcases Int.lt_or_le (min (Y+f) v) Y with e4 | e4
   · refine⟨x',y,e1,.inl rfl,e2,by omega,?_⟩;rw[show min (y+f) v=min (Y+f) v by omega];exact h3
   · rcases hit_partY (Y:=Y) hac e2 e e4 h3 with h5 | h5
     · refine⟨x',y,e1,.inl rfl,e2,by omega,?_⟩;rw[show min (y+f) v=Y by omega];exact h5
     · refine⟨x',Y,e1,.inr rfl,e2,by omega,?_⟩;rw[show max Y q=Y by omega];exact h5
theorem wnT_all {Q:QD} {p q u v:Int} {i:Nat} (hi:i<Q.m) (hac:(Q.S i).1≤(Q.S i).2.2.1) (hpu:p≤u) (hqv:q≤v):∀(t:QT) (x y s:Int),0≤s→evT t s→max x p≤min (x+s) u→max y q≤min (y+s) v→hitB (Q.S i).1 (Q.S i).2.1 (Q.S i).2.2.1 (Q.S i).2.2.2 (max x p) (max y q) (min (x+s) u) (min (y+s) v)=true→i∈wnT Q p q u v t x y s
 | .leaf _,x,y,s,hs,_,h1,h2,h=>by
  unfold wnT;rw[if_neg (by unfold besB;rw[decide_eq_true_eq];omega)];refine List.mem_filter.2 ⟨List.mem_filter.2 ⟨List.mem_range.2 hi,?_⟩,?_⟩
  · exact hit_wider (by omega) (by omega) (by omega) (by omega) h1 h2 h
  · exact hit_wider (by omega) (by omega) (by omega) (by omega) h1 h2 h
 | .node K,x,y,s,hs,he,h1,h2,h=>by
  unfold wnT;rw[if_neg (by unfold besB;rw[decide_eq_true_eq];omega),wnK_mem];obtain⟨e1,e2⟩:=he;obtain⟨f,hf⟩:∃f,s / 2=f:=⟨_,rfl⟩;rw[hf] at e1 e2⊢;obtain⟨x',y',hx,hy,h3,h4,h5⟩:=part_some (x:=x) (y:=y) (f:=f) hac (by omega) rfl rfl (by rw[show x+f+f=x+s by omega];exact h1) (by rw[show y+f+f=y+s by omega];exact h2) (by rw[show x+f+f=x+s by omega,show y+f+f=y+s by omega];exact h);have k0:∀k,kX x f k=x+((k%2:Nat):Int)*f:=fun _=>rfl;have k1:∀k,kY y f k=y+((k / 2:Nat):Int)*f:=fun _=>rfl;have hk:∃k,k<4∧kX x f k=x' ∧kY y f k=y' :=by
   rcases hx with rfl | rfl<;>rcases hy with rfl | rfl
   · exact⟨0,by omega,by rw[k0];simp,by rw[k1];simp⟩
   · exact⟨2,by omega,by rw[k0];simp,by rw[k1];simp⟩
   · exact⟨1,by omega,by rw[k0];simp,by rw[k1];simp⟩
   · exact⟨3,by omega,by rw[k0];simp,by rw[k1];simp⟩
  obtain⟨k,hk4,rfl,rfl⟩:=hk;exact⟨k,hk4,wnT_all hi hac hpu hqv (K k) _ _ f (by omega) (e2 k hk4) h3 h4 h5⟩
def incL (l:List Int):Prop:=l.Pairwise (· < ·)
theorem inc_ext:∀{l r:List Int},incL l→incL r→(∀z,z∈l↔z∈r)→l=r
 | [],[],_,_,_=>rfl
 | [],b::r,_,_,h=>by have:=(h b).2 (by simp);cases this
 | a::l,[],_,_,h=>by have:=(h a).1 (by simp);cases this
 | a ::l,b::r,hl,hr,h=>by
  have hl1:=List.pairwise_cons.1 hl;have hr1:=List.pairwise_cons.1 hr;have hab:a=b:=by
   have h1:=(h a).1 (by simp);have h2:=(h b).2 (by simp)
   rcases List.mem_cons.1 h1 with e | e
   · exact e
   · rcases List.mem_cons.1 h2 with e2 | e2
     · exact e2.symm
     · have:=hr1.1 a e;have:=hl1.1 b e2
       omega
  subst hab
  congr 1
  refine inc_ext hl1.2 hr1.2 fun z=>⟨fun hz=>?_,fun hz=>?_⟩
  · rcases List.mem_cons.1 ((h z).1 (List.mem_cons_of_mem _ hz)) with e | e
    · have:=hl1.1 z hz;omega
    · exact e
  · rcases List.mem_cons.1 ((h z).2 (List.mem_cons_of_mem _ hz)) with e | e
    · have:=hr1.1 z hz;omega
    · exact e
def winQ (Q:QD) (p q u v:Int):List Int:=idL Q ((List.range Q.m).filter (hitW Q p q u v))
theorem rise_inc {Q:QD} (h:riseI Q) (f:Nat→Bool):∀n,n≤Q.m→incL (idL Q ((List.range n).filter f))
 | 0,_=>List.Pairwise.nil
 | n +1,hn=>by
  unfold idL;rw[List.range_succ,List.filter_append,List.map_append];refine List.pairwise_append.2 ⟨rise_inc h f n (by omega),?_,?_⟩
  · by_cases hf:f n=true
    · simp[hf]
    · simp[hf]
  · intro a ha b hb;obtain⟨i,hi,rfl⟩:=List.mem_map.1 ha;obtain⟨j,hj,rfl⟩:=List.mem_map.1 hb;have hi2:=List.mem_range.1 (List.mem_filter.1 hi).1;have hj2:j=n:=by
     have:=(List.mem_filter.1 hj).1
     simpa using this
    subst hj2;have h3:=rise_lt h (j-i-1) i (by omega);rwa [show i+(j-i-1)+1=j by omega] at h3
theorem win_same {Q:QD} {p q u v:Int} {t:QT} {cs:List Int} (hr:riseI Q) (hac:∀i,i<Q.m→(Q.S i).1≤(Q.S i).2.2.1) (he:evT t 2097152) (h1: -1048576≤p) (h2: -1048576≤q) (h3:u≤1048576) (h4:v≤1048576) (hpu:p≤u) (hqv:q≤v) (hc:incL cs) (hp:∀z,z∈cs↔z∈idL Q (wnT Q p q u v t (-1048576) (-1048576) 2097152)):cs=winQ Q p q u v:=by
 refine inc_ext hc (rise_inc hr _ Q.m (Nat.le_refl _)) fun z=>?_;rw[hp];unfold winQ idL;simp only[List.mem_map,List.mem_filter,List.mem_range]
 constructor
 · rintro⟨i,hi,rfl⟩;exact⟨i,wnT_hit t _ _ _ hi,rfl⟩
 · rintro⟨i,⟨hi,hh⟩,rfl⟩;refine⟨i,wnT_all hi (hac i hi) hpu hqv t _ _ _ (by omega) he (by omega) (by omega) ?_,rfl⟩;rw[show max (-1048576) p=p by omega,show max (-1048576) q=q by omega,show min (-1048576+2097152) u=u by omega,show min (-1048576+2097152) v=v by omega];exact hh
end Go.Proofs.YthelolpogdcmhaaGreat
