/- Part 9 of the walks that the proof leans on. -/
import Derived.Test.YthelolpogdcmhaaGreatQx8
import Derived.Test.YthelolpogdcmhaaGreatQx2
set_option maxRecDepth 100000
set_option maxHeartbeats 16000000
namespace Go.Proofs.YthelolpogdcmhaaGreat
open Go.RowKit
def VqfB (P gq_ gr:Nat) (bo io:Option Addr) (nb cb ni ci:Nat) (d:Int) (bb:Bool) (FP:Value→Prop) (_HW:World→Prop) (_Wd:World) (_B:Nat):Nat→Value→World→Prop
 | 0,v,_=>v= .pointer (some ⟨gq_,0,none⟩)
 | 1,v,_=>v= .pointer (some ⟨gq_,0,none⟩)
 | 2,v,_=>v= .pointer (some ⟨gq_,3,none⟩)
 | 3,v,_=>v= .pointer (some ⟨gr,0,none⟩)
 | 4,v,_=>v= .pointer (some ⟨P,3,none⟩)
 | 5,v,_=>v= .slice bo nb cb
 | 6,v,_=>v= .pointer (some ⟨P,2,none⟩)
 | 7,v,_=>v= .slice io ni ci
 | 8,v,_=>v= .pointer (some ⟨P,1,none⟩)
 | 9,v,_=>v= .int .i64 d
 | 10,v,_=>∃rv,v= .tuple #[rv,.bool bb]∧FP rv
 | 11,v,_=>∃rv,v= .tuple #[rv,.bool bb]∧FP rv
 | 12,v,_=>FP v
 | 13,v,_=>v= .bool bb
 | 14,v,_=>FP v
 | 15,v,_=>v= .bool bb
 | _,_,_=>True
theorem VqfB.same {P gq_ gr:Nat} {bo io:Option Addr} {nb cb ni ci:Nat} {d:Int} {bb:Bool} {FP:Value→Prop} {HW:World→Prop} {Wd:World} {B j:Nat} {v:Value} {W W2:World} (h:VqfB P gq_ gr bo io nb cb ni ci d bb FP HW Wd B j v W):VqfB P gq_ gr bo io nb cb ni ci d bb FP HW Wd B j v W2:=by
 unfold VqfB at *
 split<;>simp only at h<;>first | exact h | trivial
def SqfB (_P _gq_ _gr:Nat) (_bo _io:Option Addr) (_nb _cb _ni _ci:Nat) (_d:Int) (_bb:Bool) (_FP:Value→Prop) (HW:World→Prop) (Wd:World) (lz:Array Bool) (_az:Act) (W:World):Prop:=(lz.getD 10 false=false→W=Wd)∧(lz.getD 10 false=true→lz.getD 3 false=true)∧(lz.getD 10 false=true→HW W)
def JqfB (P gq_ gr:Nat) (bo io:Option Addr) (nb cb ni ci:Nat) (d:Int) (bb:Bool) (FP:Value→Prop) (HW:World→Prop) (Wd:World) (w0:World) (a0:Act) (lz:Array Bool) (az:Act) (W:World):Prop:=InvQ (gr) [some 36,some 37,some 38,some 39,some 40,some 41,some 42,some 43,some 44,some 45,some 46,some 35,some 47,some 48,some 5,some 6] (VqfB P gq_ gr bo io nb cb ni ci d bb FP HW Wd (gr)) w0 a0 lz az W∧SqfB P gq_ gr bo io nb cb ni ci d bb FP HW Wd lz az W
theorem qfB {Q:Exit→Act→World→Prop} {P gq_ gr:Nat} {bo io:Option Addr} {nb cb ni ci:Nat} {d:Int} {bb:Bool} {FP:Value→Prop} {HW:World→Prop} {Wd:World} {w0:World} {a0:Act} {idq:Nat} {t0 t1 t2 t3 t4 t5 t6 t7 t8 t9 t10 t11 t12 t13 t14 t15:TypeId} {q0 q1 q2 q3 q4 q5 q6 q7 q8 q9 q10 q11 q12 q13 q14 q15:String}
 (hgr:gr<w0.heap.size) (hgq:Wd.cell? ⟨gq_,3,none⟩=some (.pointer (some ⟨gr,0,none⟩))) (hRD:Calls Tryz.prog 39 #[.pointer (some ⟨gr,0,none⟩),.slice bo nb cb,.slice io ni ci,.int .i64 d] Wd (fun r w' =>∃rv,r= .returned (.tuple #[rv,.bool bb])∧FP rv∧Wd.grownBy w' (some gr)∧HW w')) (hWe:Wd=w0.drew) (h1:a0.tmps[1]? =some (.pointer (some ⟨P,0,none⟩))) (h4:a0.tmps[4]? =some (.pointer (some ⟨gq_,0,none⟩))) (k0:w0.cell? ⟨P,3,none⟩=some (.slice bo nb cb)) (l0:(⟨P,3,none⟩:Addr).block<gr) (k1:w0.cell? ⟨P,2,none⟩=some (.slice io ni ci)) (l1:(⟨P,2,none⟩:Addr).block<gr) (k2:w0.cell? ⟨P,1,none⟩=some (.int .i64 d)) (l2:(⟨P,1,none⟩:Addr).block<gr) (hz:a0.tmps.size=57)
 (hQ:∀aq W,aq.tmps.size=a0.tmps.size→aq.defers=a0.defers→(∀e,e∉([36,37,38,39,40,41,42,43,44,45,46,35,47,48,5,6]:List Nat)→aq.tmps[e]? =a0.tmps[e]?)→VqfB P gq_ gr bo io nb cb ni ci d bb FP HW Wd (gr) 14 (aq.tmps.getD 5 undef) W→VqfB P gq_ gr bo io nb cb ni ci d bb FP HW Wd (gr) 15 (aq.tmps.getD 6 undef) W→Below (gr) w0 W→(HW W)→Q .normal aq W) :
 (Code.region idq #[⟨some 36,.move (.tmp 4),t0,q0,#[],none⟩,
 ⟨some 37,.nilCheck (.tmp 36),t1,q1,#[⟨0,.data⟩],none⟩,
 ⟨some 38,.fieldAddr 57 (.tmp 37) 3,t2,q2,#[⟨1,.data⟩],none⟩,
 ⟨some 39,.load 55 (.tmp 38),t3,q3,#[⟨2,.data⟩],none⟩,
 ⟨some 40,.fieldAddr 27 (.tmp 1) 3,t4,q4,#[],none⟩,
 ⟨some 41,.load 25 (.tmp 40),t5,q5,#[⟨4,.data⟩],none⟩,
 ⟨some 42,.fieldAddr 27 (.tmp 1) 2,t6,q6,#[],none⟩,
 ⟨some 43,.load 24 (.tmp 42),t7,q7,#[⟨6,.data⟩],none⟩,
 ⟨some 44,.fieldAddr 27 (.tmp 1) 1,t8,q8,#[],none⟩,
 ⟨some 45,.load 2 (.tmp 44),t9,q9,#[⟨8,.data⟩],none⟩,
 ⟨some 46,.call {callee:= .value (.func 39),args:=#[.tmp 39,.tmp 41,.tmp 43,.tmp 45],argTypes:=#[55,25,24,2]},t10,q10,#[⟨3,.data⟩,⟨5,.data⟩,⟨7,.data⟩,⟨9,.data⟩],none⟩,
 ⟨some 35,.move (.tmp 46),t11,q11,#[⟨10,.data⟩],none⟩,
 ⟨some 47,.extract (.tmp 35) 0,t12,q12,#[⟨11,.data⟩],none⟩,
 ⟨some 48,.extract (.tmp 35) 1,t13,q13,#[⟨11,.data⟩,⟨14,.gcOnly .lateStores⟩],none⟩,
 ⟨some 5,.assign (.tmp 47),t14,q14,#[⟨12,.data⟩,⟨10,.chain⟩,⟨0,.phase⟩,⟨1,.phase⟩,⟨2,.phase⟩,⟨3,.phase⟩,⟨4,.phase⟩,⟨5,.phase⟩,⟨6,.phase⟩,⟨7,.phase⟩,⟨8,.phase⟩,⟨9,.phase⟩,⟨10,.phase⟩,⟨11,.phase⟩,⟨12,.phase⟩,⟨13,.textOnly .lateStores⟩],none⟩,
 ⟨some 6,.assign (.tmp 48),t15,q15,#[⟨13,.data⟩,⟨14,.chain⟩,⟨0,.phase⟩,⟨1,.phase⟩,⟨2,.phase⟩,⟨3,.phase⟩,⟨4,.phase⟩,⟨5,.phase⟩,⟨6,.phase⟩,⟨7,.phase⟩,⟨8,.phase⟩,⟨9,.phase⟩,⟨10,.phase⟩,⟨11,.phase⟩,⟨12,.phase⟩,⟨13,.phase⟩,⟨14,.phase⟩],none⟩] true).wp Tryz.prog Q a0 w0:=by
 have hS:distS [some 36,some 37,some 38,some 39,some 40,some 41,some 42,some 43,some 44,some 45,some 46,some 35,some 47,some 48,some 5,some 6]=true:=rfl;refine wp_region_inv (by kernel_rfl) (JqfB P gq_ gr bo io nb cb ni ci d bb FP HW Wd w0 a0) ⟨⟨rfl,rfl,rfl,fun _ _=>rfl,(Below.refl _ w0).drew,fun j d hj=>?_,fun j hj=>?_⟩,⟨fun _=>hWe.symm,(fun h=>by rw[replD] at h;cases h),(fun h=>by rw[replD] at h;cases h)⟩⟩ ?_ ?_
 · exfalso
   rw[Array.getD_eq_getD_getElem?,Array.getElem?_replicate] at hj
   split at hj<;>simp at hj
 · exfalso
   rw[Array.getD_eq_getD_getElem?,Array.getElem?_replicate] at hj
   split at hj<;>simp at hj
 · intro lq aq W iq oq ⟨hJ2,hs⟩ hl ho hall;have z5:=hJ2.b;have g1:=hJ2.a h1
   have g4:=hJ2.a h4
   have c0:=hJ2.c k0 l0;have c1:=hJ2.c k1 l1;have c2:=hJ2.c k2 l2
   have HK:=fun zi zd h1 h2 zv zW hW hT hv hs=>show JqfB P gq_ gr bo io nb cb ni ci d bb FP HW Wd w0 a0 (lq.setIfInBounds zi true) (aq.put (some zd) zv) zW from⟨hJ2.put hS zi zd h1 h2 hW hT zv hv,hs⟩
   generalize JqfB P gq_ gr bo io nb cb ni ci d bb FP HW Wd w0 a0=JJ at HK⊢
   clear hQ
   match iq,ho with
   | 0,ho=>
    cases ho;refine wpOp_of rfl rfl ?_;have hq:∀v:Value,SqfB P gq_ gr bo io nb cb ni ci d bb FP HW Wd (lq.setIfInBounds 0 true) (aq.put (some 36) v) W:=fun v=>⟨by rw[gn 0 10];exact hs.1,by rw[gn 0 10,gn 0 3];exact hs.2.1,by rw[gn 0 10];exact hs.2.2⟩;clear hWe;have hK:=HK 0 36 rfl (by omega);generalize JJ _=K at hK⊢;clear ho hall hl HK hJ2 hS;go_simp;exact hK _ _ z5 (fun _ _ h=>h) rfl (hq _)
   | 1,ho=>
    cases ho;refine wpOp_of rfl rfl ?_;have f0:_=Value.pointer (some ⟨gq_,0,none⟩):=hJ2.v hall 0 36;have hq:∀v:Value,SqfB P gq_ gr bo io nb cb ni ci d bb FP HW Wd (lq.setIfInBounds 1 true) (aq.put (some 37) v) W:=fun v=>⟨by rw[gn 1 10];exact hs.1,by rw[gn 1 10,gn 1 3];exact hs.2.1,by rw[gn 1 10];exact hs.2.2⟩;clear hWe;have hK:=HK 1 37 rfl (by omega);generalize JJ _=K at hK⊢;clear ho hall hl HK hJ2 hS;go_simp;exact hK _ _ z5 (fun _ _ h=>h) rfl (hq _)
   | 2,ho=>
    cases ho;refine wpOp_of rfl rfl ?_;have f1:_=Value.pointer (some ⟨gq_,0,none⟩):=hJ2.v hall 1 37;have hq:∀v:Value,SqfB P gq_ gr bo io nb cb ni ci d bb FP HW Wd (lq.setIfInBounds 2 true) (aq.put (some 38) v) W:=fun v=>⟨by rw[gn 2 10];exact hs.1,by rw[gn 2 10,gn 2 3];exact hs.2.1,by rw[gn 2 10];exact hs.2.2⟩;clear hWe;have hK:=HK 2 38 rfl (by omega);generalize JJ _=K at hK⊢;clear ho hall hl HK hJ2 hS;go_simp;exact hK _ _ z5 (fun _ _ h=>h) rfl (hq _)
   | 3,ho=>
    cases ho;refine wpOp_of rfl rfl ?_;have f2:_=Value.pointer (some ⟨gq_,3,none⟩):=hJ2.v hall 2 38;have h10:lq.getD 10 false=false:=by cases e:lq.getD 10 false with | false=>rfl | true=>have:=hs.2.1 e;rw[getD_tf hl] at this;cases this
    have eW:=hs.1 h10;have c9:W.cell? ⟨gq_,3,none⟩=some (.pointer (some ⟨gr,0,none⟩)):=by rw[eW];exact hgq
    have hq:∀v:Value,SqfB P gq_ gr bo io nb cb ni ci d bb FP HW Wd (lq.setIfInBounds 3 true) (aq.put (some 39) v) W:=fun v=>⟨by rw[gn 3 10];exact hs.1,fun _=>getD_set_eq hl,by rw[gn 3 10];exact hs.2.2⟩;clear eW hWe hs;have hK:=HK 3 39 rfl (by omega);generalize JJ _=K at hK⊢;clear ho hall hl HK hJ2 hS;go_simp;exact hK _ _ z5 (fun _ _ h=>h) rfl (hq _)
   | 4,ho=>
    cases ho;refine wpOp_of rfl rfl ?_;have hq:∀v:Value,SqfB P gq_ gr bo io nb cb ni ci d bb FP HW Wd (lq.setIfInBounds 4 true) (aq.put (some 40) v) W:=fun v=>⟨by rw[gn 4 10];exact hs.1,by rw[gn 4 10,gn 4 3];exact hs.2.1,by rw[gn 4 10];exact hs.2.2⟩;clear hWe;have hK:=HK 4 40 rfl (by omega);generalize JJ _=K at hK⊢;clear ho hall hl HK hJ2 hS;go_simp;exact hK _ _ z5 (fun _ _ h=>h) rfl (hq _)
   | 5,ho=>
    cases ho;refine wpOp_of rfl rfl ?_;have f4:_=Value.pointer (some ⟨P,3,none⟩):=hJ2.v hall 4 40;have hq:∀v:Value,SqfB P gq_ gr bo io nb cb ni ci d bb FP HW Wd (lq.setIfInBounds 5 true) (aq.put (some 41) v) W:=fun v=>⟨by rw[gn 5 10];exact hs.1,by rw[gn 5 10,gn 5 3];exact hs.2.1,by rw[gn 5 10];exact hs.2.2⟩;clear hWe;have hK:=HK 5 41 rfl (by omega);generalize JJ _=K at hK⊢;clear ho hall hl HK hJ2 hS;go_simp;exact hK _ _ z5 (fun _ _ h=>h) rfl (hq _)
   | 6,ho=>
    cases ho;refine wpOp_of rfl rfl ?_;have hq:∀v:Value,SqfB P gq_ gr bo io nb cb ni ci d bb FP HW Wd (lq.setIfInBounds 6 true) (aq.put (some 42) v) W:=fun v=>⟨by rw[gn 6 10];exact hs.1,by rw[gn 6 10,gn 6 3];exact hs.2.1,by rw[gn 6 10];exact hs.2.2⟩;clear hWe;have hK:=HK 6 42 rfl (by omega);generalize JJ _=K at hK⊢;clear ho hall hl HK hJ2 hS;go_simp;exact hK _ _ z5 (fun _ _ h=>h) rfl (hq _)
   | 7,ho=>
    cases ho;refine wpOp_of rfl rfl ?_;have f6:_=Value.pointer (some ⟨P,2,none⟩):=hJ2.v hall 6 42;have hq:∀v:Value,SqfB P gq_ gr bo io nb cb ni ci d bb FP HW Wd (lq.setIfInBounds 7 true) (aq.put (some 43) v) W:=fun v=>⟨by rw[gn 7 10];exact hs.1,by rw[gn 7 10,gn 7 3];exact hs.2.1,by rw[gn 7 10];exact hs.2.2⟩;clear hWe;have hK:=HK 7 43 rfl (by omega);generalize JJ _=K at hK⊢;clear ho hall hl HK hJ2 hS;go_simp;exact hK _ _ z5 (fun _ _ h=>h) rfl (hq _)
   | 8,ho=>
    cases ho;refine wpOp_of rfl rfl ?_;have hq:∀v:Value,SqfB P gq_ gr bo io nb cb ni ci d bb FP HW Wd (lq.setIfInBounds 8 true) (aq.put (some 44) v) W:=fun v=>⟨by rw[gn 8 10];exact hs.1,by rw[gn 8 10,gn 8 3];exact hs.2.1,by rw[gn 8 10];exact hs.2.2⟩;clear hWe;have hK:=HK 8 44 rfl (by omega);generalize JJ _=K at hK⊢;clear ho hall hl HK hJ2 hS;go_simp;exact hK _ _ z5 (fun _ _ h=>h) rfl (hq _)
   | 9,ho=>
    cases ho;refine wpOp_of rfl rfl ?_;have f8:_=Value.pointer (some ⟨P,1,none⟩):=hJ2.v hall 8 44;have hq:∀v:Value,SqfB P gq_ gr bo io nb cb ni ci d bb FP HW Wd (lq.setIfInBounds 9 true) (aq.put (some 45) v) W:=fun v=>⟨by rw[gn 9 10];exact hs.1,by rw[gn 9 10,gn 9 3];exact hs.2.1,by rw[gn 9 10];exact hs.2.2⟩;clear hWe;have hK:=HK 9 45 rfl (by omega);generalize JJ _=K at hK⊢;clear ho hall hl HK hJ2 hS;go_simp;exact hK _ _ z5 (fun _ _ h=>h) rfl (hq _)
   | 10,ho=>
    cases ho;refine wpOp_of rfl rfl ?_;have f3:_=Value.pointer (some ⟨gr,0,none⟩):=hJ2.v hall 3 39;have f5:_=Value.slice bo nb cb:=hJ2.v hall 5 41;have f7:_=Value.slice io ni ci:=hJ2.v hall 7 43;have f9:_=Value.int .i64 d:=hJ2.v hall 9 45;have l3:=hall ⟨3,.data⟩ (by simp) rfl;have eW:=hs.1 (getD_tf hl);have hq:∀(v:Value) (X:World),HW X→SqfB P gq_ gr bo io nb cb ni ci d bb FP HW Wd (lq.setIfInBounds 10 true) (aq.put (some 46) v) X:=fun v X hX=>⟨(fun h=>by rw[getD_set_eq hl] at h;cases h),(fun _=>by rw[gn 10 3];exact l3),fun _=>hX⟩;have hC:=hRD;rw[←eW] at hC;clear eW hWe hs;have hK:=HK 10 46 rfl (by omega);generalize JJ _=K at hK⊢;clear ho hall hl HK hJ2 hS;go_simp;refine hC.mono ?_;rintro r v1 ⟨rv,rfl,hF,hG,hH⟩;exact hK _ _ (z5.grown hG (by have:=z5.size;omega) (fun k hk=>by have:=Option.some.inj hk;omega)) (fun _ _ h=>h.same) ⟨rv,rfl,hF⟩ (hq _ _ hH)
   | 11,ho=>
    cases ho;refine wpOp_of rfl rfl ?_;have f10:∃rv,(aq.tmps.getD 46 undef)= .tuple #[rv,.bool bb]∧FP rv:=hJ2.v hall 10 46;obtain⟨rv,e10,hF⟩:=f10;have hq:∀v:Value,SqfB P gq_ gr bo io nb cb ni ci d bb FP HW Wd (lq.setIfInBounds 11 true) (aq.put (some 35) v) W:=fun v=>⟨by rw[gn 11 10];exact hs.1,by rw[gn 11 10,gn 11 3];exact hs.2.1,by rw[gn 11 10];exact hs.2.2⟩;clear hWe;rw[Array.getD_eq_getD_getElem?] at e10;have hK:=HK 11 35 rfl (by omega);generalize JJ _=K at hK⊢;clear ho hall hl HK hJ2 hS;go_simp;exact hK _ _ z5 (fun _ _ h=>h) ⟨rv,rfl,hF⟩ (hq _)
   | 12,ho=>
    cases ho;refine wpOp_of rfl rfl ?_;have f11:∃rv,(aq.tmps.getD 35 undef)= .tuple #[rv,.bool bb]∧FP rv:=hJ2.v hall 11 35;obtain⟨rv,e11,hF⟩:=f11;have hq:∀v:Value,SqfB P gq_ gr bo io nb cb ni ci d bb FP HW Wd (lq.setIfInBounds 12 true) (aq.put (some 47) v) W:=fun v=>⟨by rw[gn 12 10];exact hs.1,by rw[gn 12 10,gn 12 3];exact hs.2.1,by rw[gn 12 10];exact hs.2.2⟩;clear hWe;rw[Array.getD_eq_getD_getElem?] at e11;have hK:=HK 12 47 rfl (by omega);generalize JJ _=K at hK⊢;clear ho hall hl HK hJ2 hS;go_simp;exact hK _ _ z5 (fun _ _ h=>h) hF (hq _)
   | 13,ho=>
    cases ho;refine wpOp_of rfl rfl ?_;have f11:∃rv,(aq.tmps.getD 35 undef)= .tuple #[rv,.bool bb]∧FP rv:=hJ2.v hall 11 35;obtain⟨rv,e11,hF⟩:=f11;have hq:∀v:Value,SqfB P gq_ gr bo io nb cb ni ci d bb FP HW Wd (lq.setIfInBounds 13 true) (aq.put (some 48) v) W:=fun v=>⟨by rw[gn 13 10];exact hs.1,by rw[gn 13 10,gn 13 3];exact hs.2.1,by rw[gn 13 10];exact hs.2.2⟩;clear hWe;rw[Array.getD_eq_getD_getElem?] at e11;have hK:=HK 13 48 rfl (by omega);generalize JJ _=K at hK⊢;clear ho hall hl HK hJ2 hS;go_simp;exact hK _ _ z5 (fun _ _ h=>h) rfl (hq _)
   | 14,ho=>
    cases ho;refine wpOp_of rfl rfl ?_;have f12:FP (aq.tmps.getD 47 undef):=hJ2.v hall 12 47;have hq:∀v:Value,SqfB P gq_ gr bo io nb cb ni ci d bb FP HW Wd (lq.setIfInBounds 14 true) (aq.put (some 5) v) W:=fun v=>⟨by rw[gn 14 10];exact hs.1,by rw[gn 14 10,gn 14 3];exact hs.2.1,by rw[gn 14 10];exact hs.2.2⟩;clear hWe;rw[Array.getD_eq_getD_getElem?] at f12;have hK:=HK 14 5 rfl (by omega);generalize JJ _=K at hK⊢;clear ho hall hl HK hJ2 hS;go_simp;exact hK _ _ z5 (fun _ _ h=>h) f12 (hq _)
   | 15,ho=>
    cases ho;refine wpOp_of rfl rfl ?_;have f13:_=Value.bool bb:=hJ2.v hall 13 48;have hq:∀v:Value,SqfB P gq_ gr bo io nb cb ni ci d bb FP HW Wd (lq.setIfInBounds 15 true) (aq.put (some 6) v) W:=fun v=>⟨by rw[gn 15 10];exact hs.1,by rw[gn 15 10,gn 15 3];exact hs.2.1,by rw[gn 15 10];exact hs.2.2⟩;clear hWe;have hK:=HK 15 6 rfl (by omega);generalize JJ _=K at hK⊢;clear ho hall hl HK hJ2 hS;go_simp;exact hK _ _ z5 (fun _ _ h=>h) rfl (hq _)
   | iq+16,ho=>simp at ho
 · intro lq aq W ⟨hJ,hs⟩ hr;obtain⟨z1,z2,z3,z4,z5,z6,z7⟩:=hJ;have hl:=listed_of hr [0,1,2,3,4,5,6,7,8,9,10,11,12,14,13,15] [] (by simp) (by kernel_rfl) (by rw[z1];decide);exact hQ aq W z2 z3 (fun e he=>z4 e (by simpa using he)) (z6 14 5 (hl 14 (by simp)) rfl) (z6 15 6 (hl 15 (by simp)) rfl) z5 (hs.2.2 (hl 10 (by simp)))
def qOk (Q:QD) (m d:Int):Bool:=limB m d&&itsB Q&&decide (Q.N≤2000)&&decide (qrd Q d.toNat 0 (-1048576) (-1048576) 2097152=some Q.N)
theorem its6_of {Q:QD} (h:itsB Q=true):Its6 Q (List.range Q.m):=fun i hi=>by
 have h1:=(of_decide_eq_true h).2 i (List.mem_range.1 hi);have h2:=(of_decide_eq_true h1).2.1;obtain⟨s1,s2⟩:=spots_of_seg h2;obtain⟨a1,a2⟩:=in6_of_spot s1;obtain⟨a3,a4⟩:=in6_of_spot s2;exact⟨a1,a2,a3,a4⟩
def QuT (Q:QD) (b:Nat) (m d:Int) (pv:Value) (w:World):Prop:=∃gq io ic gr,pv= .pointer (some ⟨gq,0,none⟩)∧Blk w gq [.int .i64 m,.int .i64 d,.slice io Q.m ic,.pointer (some ⟨gr,0,none⟩)]∧ItIn Q w io (List.range Q.m)∧b≤gq∧STr (fun x=>b≤x∧x≠gq∧∀c,(Value.slice io Q.m ic).ownBlock=some c→x≠c) w (trQ Q d.toNat 0 (-1048576) (-1048576) 2097152) (-1048576) (-1048576) 2097152 0 gr∧w.ownsRow b 40 5 (.slice io Q.m ic) Q.m (itCs Q (List.range Q.m))∧∀c,(Value.slice io Q.m ic).ownBlock=some c→c≠gq
theorem quadOf_any (w:World) (Q:QD) (ao bo:Option Addr) (cap bcap A off:Nat) (so:Nat→Option Addr×Nat) (m d:Int) (hm:Q.m≤1048576) (hN:Q.N≤1048576) (hcap:Q.N≤bcap) (hL:∀i,i<Q.N→Q.L i≤1048576) (hbo:0<Q.N→bo=some ⟨A,off,none⟩) (hao:∀A o sp,ao=some ⟨A,o,sp⟩→A<w.heap.size) (hS:ItIn Q w ao (List.range Q.m)) (hBl:BlIn Q w A off so):Calls Tryz.prog 16 #[.agg #[.int .i64 m,.int .i64 d,.slice ao Q.m cap,.slice bo Q.N bcap]] w (fun r w' =>∃pv,r= .returned (.tuple #[pv,.bool (qOk Q m d)])∧Below w.heap.size w w' ∧(qOk Q m d=true→QuT Q w.heap.size m d pv w')):=by
 have B0:Blk (w.alloc (.cells #[.int .i64 m,.int .i64 d,.slice ao Q.m cap,.slice bo Q.N bcap] 27)) w.heap.size [.int .i64 m,.int .i64 d,.slice ao Q.m cap,.slice bo Q.N bcap]:=Blk.new w [.int .i64 m,.int .i64 d,.slice ao Q.m cap,.slice bo Q.N bcap] 27 rfl;have HB:Below w.heap.size w (w.alloc (.cells #[.int .i64 m,.int .i64 d,.slice ao Q.m cap,.slice bo Q.N bcap] 27)):=(Below.refl _ w).alloc (Nat.le_refl _) _;have CL:=rightLimits_any m d;have HS:Hid (ItIn Q w ao (List.range Q.m)):=hS;clear hS;obtain⟨b1,hb1⟩:∃b,limB m d=b:=⟨_,rfl⟩;rw[hb1] at CL
 go_enter Tryz.func16,Tryz.ntmps16
 go_upto_region 1 with fail;generalize (w.alloc (.cells #[.int .i64 m,.int .i64 d,.slice ao Q.m cap,.slice bo Q.N bcap] 27))=W1 at *;have c0:=B0.c 0 rfl;have c1:=B0.c 1 rfl;have c2:=B0.c 2 rfl;have c3:=B0.c 3 rfl;go_wp2_with fail;refine(CL _).mono ?_;rintro r w1 ⟨rfl,hB1⟩;replace B0:=B0.step hB1;replace HB:=HB.trans (hB1.mono HB.size);clear hB1 CL c0 c1 c2 c3;cases b1 with
 | false=>
  clear HS hBl;go_wp2;refine bodyPost_ret (v:= .tuple #[.pointer none,.bool false]) (by simp[results,Tryz.results16,go_sem]) rfl ?_;exact⟨_,by rw[show qOk Q m d=false from by unfold qOk;rw[hb1];rfl],HB,fun h=>by rw[show qOk Q m d=false from by unfold qOk;rw[hb1];rfl] at h;cases h⟩
 | true =>
  have CI:=rightItems_any Q ao cap w1 (HS.out.step HB);obtain⟨b2,hb2⟩:∃b,itsB Q=b:=⟨_,rfl⟩;rw[hb2] at CI;have c0:=B0.c 0 rfl;have c1:=B0.c 1 rfl;have c2:=B0.c 2 rfl;have c3:=B0.c 3 rfl;go_wp2_with fail;refine CI.mono ?_;rintro r w2 ⟨rfl,hB1⟩;replace B0:=B0.step hB1;replace HB:=HB.trans (hB1.mono HB.size);clear hB1 CI c0 c1 c2 c3;cases b2 with
  | false=>
   clear HS hBl;go_wp2;refine bodyPost_ret (v:= .tuple #[.pointer none,.bool false]) (by simp[results,Tryz.results16,go_sem]) rfl ?_;exact⟨_,by rw[show qOk Q m d=false from by unfold qOk;rw[hb1,hb2];rfl],HB,fun h=>by rw[show qOk Q m d=false from by unfold qOk;rw[hb1,hb2];rfl] at h;cases h⟩
  | true=>
   have c0:=B0.c 0 rfl;have c1:=B0.c 1 rfl;have c2:=B0.c 2 rfl;have c3:=B0.c 3 rfl
   by_cases h2000:2000<Q.N
   · have h2I:(2000:Int)<Q.N:=by omega
     clear HS hBl;go_wp2;refine bodyPost_ret (v:= .tuple #[.pointer none,.bool false]) (by simp[results,Tryz.results16,go_sem]) rfl ?_;exact⟨_,by rw[show qOk Q m d=false from by unfold qOk;rw[hb1,hb2,decide_eq_false (by omega)];rfl],HB,fun h=>by rw[show qOk Q m d=false from by unfold qOk;rw[hb1,hb2,decide_eq_false (by omega)];rfl] at h;cases h⟩
   · have h2I:(Q.N:Int)≤2000:=by omega
     have hpl:=B0.lt;go_upto_region 3 with fail;have hlr:(List.range Q.m).length=Q.m:=List.length_range;refine qfA (Qd:=Q) (P:=w.heap.size) (ao:=ao) (cap:=cap) (its:=List.range Q.m) (m:=m) (d:=d) (by rw[hlr];exact hm) (HS.out.step HB) rfl c0 hpl c1 hpl (by rw[hlr];exact c2) hpl rfl ?_;rintro⟨tm,df⟩ Wz hz hdf hoff h4 hBz;simp only at hz hdf hoff;change QuB Q w2.heap.size (List.range Q.m) m d (tm.getD 4 undef) Wz at h4;obtain⟨gq,io,ic,gr,e4,BQ,hIR,hgr,hgrq,BR,hob⟩:=h4;have HBz:=HB.trans (hBz.mono HB.size);subst hdf;have htm:=tmps_fold [25,26,27,28,29,30,31,32,33,34,4] tm _ hz hoff;simp only[List.foldl,List.setIfInBounds_toArray,List.set_cons_zero,List.set_cons_succ,e4] at htm;clear hz hoff;generalize tm.getD 25 undef=pz0,tm.getD 26 undef=pz1,tm.getD 27 undef=pz2,tm.getD 28 undef=pz3,tm.getD 29 undef=pz4,tm.getD 30 undef=pz5,tm.getD 31 undef=pz6,tm.getD 32 undef=pz7,tm.getD 33 undef=pz8,tm.getD 34 undef=pz9 at htm;clear e4;subst htm;replace B0:=B0.step hBz;replace HB:=HB.trans (hBz.mono HB.size);have gl:gr<Wz.heap.size:=BR.lt;clear hBz c0 c1 c2 c3;have hd8:0≤d∧d≤8:=by
      have h:=hb1;unfold limB at h
      simp at h
      omega
     obtain⟨D,hDd⟩:∃D:Nat,(D:Int)=d:=⟨d.toNat,by omega⟩;have hDn:d.toNat=D:=by omega
     have RD:=read_any Q D A off bcap so w hN hcap (by omega) hBl hL (its6_of hb2) hm (D+1) gr (-1048576) (-1048576) 2097152 0 0 (.slice bo Q.N bcap) ao cap (List.range Q.m) Wz.drew (by omega) (by omega) ⟨by omega,by omega,by omega,by omega,by omega⟩ BR.drew (by omega) HB.drew ⟨bo,rfl,fun h=>by rw[hbo h];simp⟩ (HS.out.step HB.drew) (fun A o sp e=>by have:=hao A o sp e;omega) (fun i hi=>List.mem_range.1 hi) (by rw[hlr];exact hm) rfl;rw[hlr,hDd] at RD;have RD2:Calls Tryz.prog 39 #[.pointer (some ⟨gr,0,none⟩),.slice bo Q.N bcap,.slice ao Q.m cap,.int .i64 d] Wz.drew (fun r w' =>∃rv,r= .returned (.tuple #[rv,.bool (qrd Q D 0 (-1048576) (-1048576) 2097152).isSome])∧(∀e,qrd Q D 0 (-1048576) (-1048576) 2097152=some e→e≤Q.N∧RowAt A off Q.N bcap e rv)∧Wz.drew.grownBy w' (some gr)∧(Wz.drew.grownBy w' (some gr)∧∀e,qrd Q D 0 (-1048576) (-1048576) 2097152=some e→STr (okB gr Wz.drew.heap.size) w' (trQ Q D 0 (-1048576) (-1048576) 2097152) (-1048576) (-1048576) 2097152 0 gr)):=by
      refine RD.mono ?_;rintro r w' ⟨v,b,rfl,rfl,hr,hg,hp⟩;exact⟨v,rfl,hr,hg,hg,hp⟩
     clear RD;go_upto_region 4 with fail;refine qfB (P:=w.heap.size) (gq_:=gq) (gr:=gr) (bo:=bo) (io:=ao) (nb:=Q.N) (cb:=bcap) (ni:=Q.m) (ci:=cap) (d:=d) (bb:=(qrd Q D 0 (-1048576) (-1048576) 2097152).isSome) (FP:=fun v=>∀e,qrd Q D 0 (-1048576) (-1048576) 2097152=some e→e≤Q.N∧RowAt A off Q.N bcap e v) (HW:=fun w' =>(Wz.drew.grownBy w' (some gr)∧∀e,qrd Q D 0 (-1048576) (-1048576) 2097152=some e→STr (okB gr Wz.drew.heap.size) w' (trQ Q D 0 (-1048576) (-1048576) 2097152) (-1048576) (-1048576) 2097152 0 gr)) (Wd:=Wz.drew) gl (BQ.c 3 rfl) RD2 rfl rfl rfl (B0.c 3 rfl) (by show w.heap.size<gr;omega) (B0.c 2 rfl) (by show w.heap.size<gr;omega) (B0.c 1 rfl) (by show w.heap.size<gr;omega) rfl ?_;rintro⟨tm,df⟩ Wy hz hdf hoff h5 h6 hBy ⟨hgr5,hpt5⟩;simp only at hz hdf hoff h6;change ∀e,qrd Q D 0 (-1048576) (-1048576) 2097152=some e→e≤Q.N∧RowAt A off Q.N bcap e (tm.getD 5 undef) at h5;change tm.getD 6 undef= .bool (qrd Q D 0 (-1048576) (-1048576) 2097152).isSome at h6;subst hdf;generalize hr5:tm.getD 5 undef=rv at h5;have htm:=tmps_fold [36,37,38,39,40,41,42,43,44,45,46,35,47,48,5,6] tm _ hz hoff;simp only[List.foldl,List.setIfInBounds_toArray,List.set_cons_zero,List.set_cons_succ,hr5,h6] at htm;clear hz hoff;generalize tm.getD 36 undef=py0,tm.getD 37 undef=py1,tm.getD 38 undef=py2,tm.getD 39 undef=py3,tm.getD 40 undef=py4,tm.getD 41 undef=py5,tm.getD 42 undef=py6,tm.getD 43 undef=py7,tm.getD 44 undef=py8,tm.getD 45 undef=py9,tm.getD 46 undef=py10,tm.getD 35 undef=py11,tm.getD 47 undef=py12,tm.getD 48 undef=py13 at htm;clear hr5 h6;subst htm;replace HB:=HB.trans (hBy.mono (by omega));have hszz:=HBz.size;have HOW:Hid (Wy.ownsRow w2.heap.size 40 5 (.slice io (List.range Q.m).length ic) (List.range Q.m).length (itCs Q (List.range Q.m))):=by
      refine ownQ_heap (World.ownsRow.drew hIR) (fun k e=>hgr5.block k ?_ ?_)
      · exact(World.ownsRow.lt hIR k e).2
      · intro e2;exact(hob k e).1 (Option.some.inj e2)
     have HIT:Hid (ItIn Q Wy io (List.range Q.m)):=by
      obtain⟨io3,ic3,e3,hI3⟩:=ItIn.of HOW.out;cases e3;exact hI3
     have BQ5:=BQ.drew.grown hgr5 (fun e=>by have:=Option.some.inj e;omega);have HQT:Hid (qrd Q D 0 (-1048576) (-1048576) 2097152=some Q.N→QuT Q w.heap.size m d (.pointer (some ⟨gq,0,none⟩)) Wy):=fun he=>by
      have HOW2:=HOW.out;have hob2:=hob;rw[List.length_range] at BQ5 HOW2 hob2;refine⟨gq,io,ic,gr,rfl,BQ5,HIT.out,by omega,?_,ownB_mono HOW2 (by omega),fun c e=>by have:=(hob2 c e).2;omega⟩;rw[hDn];refine STr.keep (Nat.le_refl _) (fun _ _ _=>rfl) (fun b hb _=>?_) (hpt5 Q.N he);have hz9:Wz.drew.heap.size=Wz.heap.size:=rfl;have hgq9:gq<Wz.heap.size:=BQ.lt;refine⟨?_,?_,fun c e=>?_⟩
      · rcases hb with h | h<;>omega
      · rcases hb with h | h<;>omega
      · have h7:=hob2 c e
        rcases hb with h | h
        · rw[h];exact fun e2=>h7.1 e2.symm
        · omega
     clear hBy RD2 BQ BR B0 HS hBl BQ5 HIT hIR hgr5 hpt5 hszz HOW hob;have hqk:qOk Q m d=decide (qrd Q D 0 (-1048576) (-1048576) 2097152=some Q.N):=by
      unfold qOk;rw[hb1,hb2,hDn,decide_eq_true (show Q.N≤2000 by omega)]
      rfl
     cases hqr:qrd Q D 0 (-1048576) (-1048576) 2097152 with
     | none=>
      rw[hqr] at hqk;have hk2:Hid (qOk Q m d=false):=by show _=_;rw[hqk];rfl
      clear hqk;go_wp2;refine bodyPost_ret (v:= .tuple #[.pointer none,.bool false]) (by simp[results,Tryz.results16,go_sem]) rfl ?_;exact⟨_,by rw[hk2.out],HB,fun h=>by rw[hk2.out] at h;cases h⟩
     | some e=>
      obtain⟨he,ad,rfl,_⟩:=h5 e hqr;rw[hqr] at hqk;clear h5
      by_cases hen:e=Q.N
      · subst hen;rw[Nat.sub_self];have hk2:Hid (qOk Q m d=true):=by show _=_;rw[hqk];simp
        clear hqk;go_wp2;refine bodyPost_ret (v:= .tuple #[.pointer (some ⟨gq,0,none⟩),.bool true]) (by simp[results,Tryz.results16,go_sem]) rfl ?_;exact⟨_,by rw[hk2.out],HB,fun _=>HQT.out hqr⟩
      · obtain⟨ln,hln⟩:∃ln,Q.N-e=ln:=⟨_,rfl⟩;rw[hln];have hlI:(0:Int)<ln:=by omega
        have hk2:Hid (qOk Q m d=false):=by show _=_;rw[hqk];exact decide_eq_false (fun h=>hen (Option.some.inj h))
        clear hln hqk;go_wp2;refine bodyPost_ret (v:= .tuple #[.pointer none,.bool false]) (by simp[results,Tryz.results16,go_sem]) rfl ?_;exact⟨_,by rw[hk2.out],HB,fun h=>by rw[hk2.out] at h;cases h⟩
theorem l13Meets_any (x y s:Int) (ko io:Option Addr) (kn kc in_ ic:Nat) (a b c d:Int) (hq:Sq x y s) (ia:In6 a) (ib:In6 b) (ic_:In6 c) (id:In6 d) (w:World):Calls Tryz.prog 81 #[.agg #[.int .i64 x,.int .i64 y,.int .i64 s,.slice ko kn kc,.slice io in_ ic],Sg a b c d] w (VP (.bool (hitB a b c d x y (x+s) (y+s))) w):=by
 have B0:Blk ((w.alloc (.cells #[.int .i64 x,.int .i64 y,.int .i64 s,.slice ko kn kc,.slice io in_ ic] 62)).alloc (.cells #[.int .i64 a,.int .i64 b,.int .i64 c,.int .i64 d] 38)) w.heap.size [.int .i64 x,.int .i64 y,.int .i64 s,.slice ko kn kc,.slice io in_ ic]:=(Blk.new w [.int .i64 x,.int .i64 y,.int .i64 s,.slice ko kn kc,.slice io in_ ic] 62 rfl).alloc _;have B1:Blk ((w.alloc (.cells #[.int .i64 x,.int .i64 y,.int .i64 s,.slice ko kn kc,.slice io in_ ic] 62)).alloc (.cells #[.int .i64 a,.int .i64 b,.int .i64 c,.int .i64 d] 38)) (w.heap.size+1) [.int .i64 a,.int .i64 b,.int .i64 c,.int .i64 d]:=Blk.new (w.alloc (.cells #[.int .i64 x,.int .i64 y,.int .i64 s,.slice ko kn kc,.slice io in_ ic] 62)) [.int .i64 a,.int .i64 b,.int .i64 c,.int .i64 d] 38 (g:=w.heap.size+1) (by simp);have HB:Below w.heap.size w ((w.alloc (.cells #[.int .i64 x,.int .i64 y,.int .i64 s,.slice ko kn kc,.slice io in_ ic] 62)).alloc (.cells #[.int .i64 a,.int .i64 b,.int .i64 c,.int .i64 d] 38)):=((Below.refl _ w).alloc (Nat.le_refl _) _).alloc (by simp) _;obtain⟨q1,q2,q3,q4⟩:=hq.in6;have C:=l4MeetsBox_any a b c d x y (x+s) (y+s) ia ib ic_ id q1 q2 q3 q4;have t1:=hq.x1;have t2:=hq.y1;have t3:=hq.s1;have t4:=hq.x2;have t5:=hq.y2
 go_enter Tryz.func81,Tryz.ntmps81
 go_upto_region 1 with fail;generalize ((w.alloc (.cells #[.int .i64 x,.int .i64 y,.int .i64 s,.slice ko kn kc,.slice io in_ ic] 62)).alloc (.cells #[.int .i64 a,.int .i64 b,.int .i64 c,.int .i64 d] 38))=W1 at *;have m0:=B0.c 0 rfl;have m1:=B0.c 1 rfl;have m2:=B0.c 2 rfl;have n0:=B1.c 0 rfl;have n1:=B1.c 1 rfl;have n2:=B1.c 2 rfl;have n3:=B1.c 3 rfl;clear B0 B1 q1 q2 q3 q4 ia ib ic_ id hq;go_wp2_with fail;refine(C _).mono ?_;rintro r w1 ⟨rfl,hB⟩;have HB2:=HB.trans (hB.mono HB.size);clear C hB HB m0 m1 m2 n0 n1 n2 n3;go_wp2;go_ret;exact⟨rfl,HB2⟩
end Go.Proofs.YthelolpogdcmhaaGreat
namespace Go.Proofs.YthelolpogdcmhaaGreat
open Go.RowKit
theorem getD_ft {l:Array Bool} {i:Nat} (h:l.getD i false=false) (hi:i<l.size):l.getD i true=false:=by
 simp only[Array.getD,hi,dif_pos] at h⊢;exact h
def valC (k:Nat) (dx:Nat→Nat) (az:Act) (i:Nat):Value:=if i<k then az.tmps.getD (dx i) undef else undef
def ChS (n k:Nat) (ix dx:Nat→Nat) (R:Nat→(Nat→Value)→World→Prop) (lz:Array Bool) (az:Act) (W:World):Prop:=
 ∃c,c≤k∧(∀i,i<k→(lz.getD (ix i) false=true↔i<c))∧R c (valC k dx az) W∧(c=k→∀j,j<n→lz.getD j false=true)
variable {n k:Nat} {ix dx:Nat→Nat} {R:Nat→(Nat→Value)→World→Prop} {lz:Array Bool} {az:Act} {W:World}
theorem ChS.start {m:Nat} (hk:0<k) (h:R 0 (valC k dx az) W):ChS n k ix dx R (Array.replicate m false) az W:=
 ⟨0,Nat.zero_le _,fun i _=>by rw[replD];exact⟨fun h=>(by cases h),fun h=>absurd h (by omega)⟩,h,fun h=>absurd h (by omega)⟩
theorem valC_put {d:Nat} {v:Value} (hd:∀s,s<k→d≠dx s):valC k dx (az.put (some d) v)=valC k dx az:=by
 funext i
 unfold valC
 split
 · rename_i h
   rw[put_getD_ne (hd i h)]
 · rfl
theorem ChS.quiet (h:ChS n k ix dx R lz az W) (i d:Nat) (v:Value) (hi:i<n) (hl:lz.getD i true=false) (h1:∀s,s<k→i≠ix s) (h2:∀s,s<k→d≠dx s):ChS n k ix dx R (lz.setIfInBounds i true) (az.put (some d) v) W:=by
 obtain⟨c,c1,c2,c3,c4⟩:=h;refine⟨c,c1,fun s hs=>by rw[getD_set_neq (h1 s hs)];exact c2 s hs,by rw[valC_put h2];exact c3,fun e=>?_⟩;have:=c4 e i hi;rw[getD_tf hl] at this;cases this
theorem ChS.now (h:ChS n k ix dx R lz az W) (s:Nat) (hs:s<k) (hl:lz.getD (ix s) true=false) (hp:∀t,s=t+1→lz.getD (ix t) false=true):R s (valC k dx az) W:=by
 obtain⟨c,c1,c2,c3,c4⟩:=h;have e1:¬s<c:=fun e=>by have:=(c2 s hs).2 e;rw[getD_tf hl] at this;cases this
 have e2:c=s:=by
  rcases Nat.eq_zero_or_pos s with h0 | h0
  · omega
  · have:=(c2 (s-1) (by omega)).1 (hp (s-1) (by omega))
    omega
 rw[←e2];exact c3
theorem ChS.link (h:ChS n k ix dx R lz az W) (s:Nat) {v:Value} {W2:World} (hs:s<k) (hl:lz.getD (ix s) true=false) (hp:∀t,s=t+1→lz.getD (ix t) false=true) (hx:∀t,t<k→t≠s→ix s≠ix t) (hd:∀t,t<k→t≠s→dx s≠dx t) (hz:dx s<az.tmps.size) (hall:s+1=k→∀j,j<n→j≠ix s→lz.getD j false=true) (hR:R (s+1) (fun t=>if t=s then v else valC k dx az t) W2):ChS n k ix dx R (lz.setIfInBounds (ix s) true) (az.put (some (dx s)) v) W2:=by
 obtain⟨c,c1,c2,c3,c4⟩:=h;have e1:¬s<c:=fun e=>by have:=(c2 s hs).2 e;rw[getD_tf hl] at this;cases this
 have e2:c=s:=by
  rcases Nat.eq_zero_or_pos s with h0 | h0
  · omega
  · have:=(c2 (s-1) (by omega)).1 (hp (s-1) (by omega))
    omega
 subst e2;refine⟨c+1,by omega,fun t ht=>?_,?_,fun e j hj=>?_⟩
 · by_cases ets:t=c
   · subst ets;rw[getD_set_eq hl];exact⟨fun _=>by omega,fun _=>rfl⟩
   · rw[getD_set_neq (hx t ht ets),c2 t ht]
     omega
 · have ev:valC k dx (az.put (some (dx c)) v)=fun t=>if t=c then v else valC k dx az t:=by
    funext t
    unfold valC
    by_cases ets:t=c
    · subst ets;rw[if_pos hs,if_pos rfl,put_getD_same hz]
    · rw[if_neg ets]
      split
      · rename_i h
        rw[put_getD_ne (hd t h ets)]
      · rfl
   rw[ev];exact hR
 · by_cases ej:j=ix c
   · subst ej;exact getD_set_eq hl
   · rw[getD_set_neq (Ne.symm ej)];exact hall e j hj ej
theorem ChS.store (h:ChS n k ix dx R lz az W) (s:Nat) {W2:World} (hs:s<k) (hl:lz.getD (ix s) true=false) (hp:∀t,s=t+1→lz.getD (ix t) false=true) (hx:∀t,t<k→t≠s→ix s≠ix t) (hall:s+1=k→∀j,j<n→j≠ix s→lz.getD j false=true) (hR:R (s+1) (valC k dx az) W2):ChS n k ix dx R (lz.setIfInBounds (ix s) true) az W2:=by
 obtain⟨c,c1,c2,c3,c4⟩:=h;have e1:¬s<c:=fun e=>by have:=(c2 s hs).2 e;rw[getD_tf hl] at this;cases this
 have e2:c=s:=by
  rcases Nat.eq_zero_or_pos s with h0 | h0
  · omega
  · have:=(c2 (s-1) (by omega)).1 (hp (s-1) (by omega))
    omega
 subst e2;refine⟨c+1,by omega,fun t ht=>?_,hR,fun e j hj=>?_⟩
 · by_cases ets:t=c
   · subst ets;rw[getD_set_eq hl];exact⟨fun _=>by omega,fun _=>rfl⟩
   · rw[getD_set_neq (hx t ht ets),c2 t ht]
     omega
 · by_cases ej:j=ix c
   · subst ej;exact getD_set_eq hl
   · rw[getD_set_neq (Ne.symm ej)];exact hall e j hj ej
theorem ChS.some (h:ChS n k ix dx R lz az W) {i:Nat} (hi:i<n) (hl:lz.getD i true=false):∃c,c<k∧R c (valC k dx az) W∧∀t,t<k→lz.getD (ix t) true=false→c≤t:=by
 obtain⟨c,c1,c2,c3,c4⟩:=h;refine⟨c,?_,c3,fun t ht h2=>?_⟩
 · rcases Nat.lt_or_ge c k with h | h
   · exact h
   · have:=c4 (by omega) i hi;rw[getD_tf hl] at this;cases this
 · apply Classical.byContradiction
   intro h3;have:=(c2 t ht).2 (by omega);rw[getD_tf h2] at this;cases this
theorem ChS.done (h:ChS n k ix dx R lz az W) (hk:0<k) (hl:lz.getD (ix (k-1)) false=true):R k (valC k dx az) W:=by
 obtain⟨c,c1,c2,c3,c4⟩:=h;have:=(c2 (k-1) (by omega)).1 hl;obtain rfl:c=k:=by omega
 exact c3
end Go.Proofs.YthelolpogdcmhaaGreat
namespace Go.Proofs.YthelolpogdcmhaaGreat
open Go.RowKit
def VqpA (P E0 eoff en ec c m cap gn gc:Nat) (ao go:Option Addr) (x y sz z a bb cc d:Int) (_B:Nat):Nat→Value→World→Prop
 | 0,v,_=>v= .agg #[.int .i64 x,.int .i64 y,.int .i64 sz,.slice none 0 0,.slice go gn gc]
 | 1,v,_=>v= .slice ao m cap
 | 2,v,_=>v= .pointer (some ⟨P,4,none⟩)
 | 3,v,_=>v= .slice (some ⟨E0,eoff,none⟩) en ec
 | 4,v,_=>v= .int .i64 (c:Int)
 | 5,v,_=>v= .pointer (some ⟨E0,eoff+c,none⟩)
 | 6,v,_=>v= .int .i64 z
 | 7,v,_=>v=Sg a bb cc d
 | 8,v,_=>v= .bool (hitB a bb cc d x y (x+sz) (y+sz))
 | _,_,_=>True
theorem VqpA.mono {P E0 eoff en ec c m cap gn gc:Nat} {ao go:Option Addr} {x y sz z a bb cc d:Int} {B j:Nat} {v:Value} {W W2:World} (_hB:Below W.heap.size W W2) (h:VqpA P E0 eoff en ec c m cap gn gc ao go x y sz z a bb cc d B j v W):VqpA P E0 eoff en ec c m cap gn gc ao go x y sz z a bb cc d B j v W2:=by
 unfold VqpA at *
 split<;>simp only at h<;>first | exact h | trivial
theorem qpA {Q:Exit→Act→World→Prop} {P E0 eoff en ec c m cap gn gc:Nat} {ao go:Option Addr} {x y sz z a bb cc d:Int} {K:Nat} {w0:World} {a0:Act} {idq:Nat} {t0 t1 t2 t3 t4 t5 t6 t7 t8:TypeId} {q0 q1 q2 q3 q4 q5 q6 q7 q8:String}
 (hce:c<en) (hen:en≤1048576) (hq:Sq x y sz) (ia:In6 a) (ib:In6 bb) (ic:In6 cc) (id:In6 d) (hSg:∀W,Below w0.heap.size w0 W→Calls Tryz.prog 92 #[.slice ao m cap,.int .i64 z] W (VP (Sg a bb cc d) W)) (h1:a0.tmps[1]? =some (.slice ao m cap)) (h6:a0.tmps[6]? =some (.pointer (some ⟨P,0,none⟩))) (h16:a0.tmps[16]? =some (.pointer (some ⟨K,0,none⟩))) (h17:a0.tmps[17]? =some (.int .i64 (c:Int))) (k0:w0.cell? ⟨K,0,none⟩=some (.int .i64 x)) (l0:(⟨K,0,none⟩:Addr).block<w0.heap.size) (k1:w0.cell? ⟨K,1,none⟩=some (.int .i64 y)) (l1:(⟨K,1,none⟩:Addr).block<w0.heap.size) (k2:w0.cell? ⟨K,2,none⟩=some (.int .i64 sz)) (l2:(⟨K,2,none⟩:Addr).block<w0.heap.size) (k3:w0.cell? ⟨K,3,none⟩=some (.slice none 0 0)) (l3:(⟨K,3,none⟩:Addr).block<w0.heap.size) (k4:w0.cell? ⟨K,4,none⟩=some (.slice go gn gc)) (l4:(⟨K,4,none⟩:Addr).block<w0.heap.size) (k5:w0.cell? ⟨P,4,none⟩=some (.slice (some ⟨E0,eoff,none⟩) en ec)) (l5:(⟨P,4,none⟩:Addr).block<w0.heap.size) (k6:w0.cell? ⟨E0,eoff+c,none⟩=some (.int .i64 z)) (l6:(⟨E0,eoff+c,none⟩:Addr).block<w0.heap.size) (hz:a0.tmps.size=125)
 (hQ:∀aq W,aq.tmps.size=a0.tmps.size→aq.defers=a0.defers→(∀e,e∉([98,99,100,101,102,103,104,105,106]:List Nat)→aq.tmps[e]? =a0.tmps[e]?)→VqpA P E0 eoff en ec c m cap gn gc ao go x y sz z a bb cc d w0.heap.size 8 (aq.tmps.getD 106 undef) W→Below w0.heap.size w0 W→Q .normal aq W) :
 (Code.region idq #[⟨some 98,.load 62 (.tmp 16),t0,q0,#[],none⟩,
 ⟨some 99,.move (.tmp 1),t1,q1,#[],none⟩,
 ⟨some 100,.fieldAddr 62 (.tmp 6) 4,t2,q2,#[],none⟩,
 ⟨some 101,.load 32 (.tmp 100),t3,q3,#[⟨2,.data⟩],none⟩,
 ⟨some 102,.move (.tmp 17),t4,q4,#[],none⟩,
 ⟨some 103,.indexAddr 32 (.tmp 101) (.tmp 102),t5,q5,#[⟨3,.data⟩,⟨4,.data⟩],none⟩,
 ⟨some 104,.load 2 (.tmp 103),t6,q6,#[⟨5,.data⟩],none⟩,
 ⟨some 105,.call {callee:= .value (.func 92),args:=#[.tmp 99,.tmp 104],argTypes:=#[24,2]},t7,q7,#[⟨1,.data⟩,⟨6,.data⟩],none⟩,
 ⟨some 106,.call {callee:= .value (.func 81),args:=#[.tmp 98,.tmp 105],argTypes:=#[62,38]},t8,q8,#[⟨0,.data⟩,⟨7,.data⟩,⟨7,.chain⟩],none⟩] true).wp Tryz.prog Q a0 w0:=by
 have hS:distS [some 98,some 99,some 100,some 101,some 102,some 103,some 104,some 105,some 106]=true:=rfl;refine wp_region_q (by kernel_rfl) w0.heap.size [some 98,some 99,some 100,some 101,some 102,some 103,some 104,some 105,some 106] (VqpA P E0 eoff en ec c m cap gn gc ao go x y sz z a bb cc d w0.heap.size) rfl ?_ ?_
 · intro Q lq aq W iq oq hJ2 hl ho hall;have z5:=hJ2.b;have g1:=hJ2.a h1
   have g6:=hJ2.a h6
   have g16:=hJ2.a h16
   have g17:=hJ2.a h17
   have c0:=hJ2.c k0 l0;have c1:=hJ2.c k1 l1;have c2:=hJ2.c k2 l2;have c3:=hJ2.c k3 l3;have c4:=hJ2.c k4 l4;have c5:=hJ2.c k5 l5;have c6:=hJ2.c k6 l6
   clear hQ
   match iq,ho with
   | 0,ho=>
    cases ho;refine wpOp_of rfl rfl ?_;have hK:=hJ2.gO hS 0 98;generalize InvQ _ _ _ _ _ _=K at hK⊢;clear ho hall hl hJ2 hS;go_simp;exact hK _ rfl
   | 1,ho=>
    cases ho;refine wpOp_of rfl rfl ?_;have hK:=hJ2.gO hS 1 99;generalize InvQ _ _ _ _ _ _=K at hK⊢;clear ho hall hl hJ2 hS;go_simp;exact hK _ rfl
   | 2,ho=>
    cases ho;refine wpOp_of rfl rfl ?_;have hK:=hJ2.gO hS 2 100;generalize InvQ _ _ _ _ _ _=K at hK⊢;clear ho hall hl hJ2 hS;go_simp;exact hK _ rfl
   | 3,ho=>
    cases ho;refine wpOp_of rfl rfl ?_;have f2:_=Value.pointer (some ⟨P,4,none⟩):=hJ2.v hall 2 100;have hK:=hJ2.gO hS 3 101;generalize InvQ _ _ _ _ _ _=K at hK⊢;clear ho hall hl hJ2 hS;go_simp;exact hK _ rfl
   | 4,ho=>
    cases ho;refine wpOp_of rfl rfl ?_;have hK:=hJ2.gO hS 4 102;generalize InvQ _ _ _ _ _ _=K at hK⊢;clear ho hall hl hJ2 hS;go_simp;exact hK _ rfl
   | 5,ho=>
    cases ho;refine wpOp_of rfl rfl ?_;have f3:_=Value.slice (some ⟨E0,eoff,none⟩) en ec:=hJ2.v hall 3 101;have f4:_=Value.int .i64 (c:Int):=hJ2.v hall 4 102;have hcI:(c:Int)<en:=by omega
    have heI:(en:Int)≤1048576:=by omega
    have hK:=hJ2.gO hS 5 103;generalize InvQ _ _ _ _ _ _=K at hK⊢;clear ho hall hl hJ2 hS;go_simp;exact hK _ rfl
   | 6,ho=>
    cases ho;refine wpOp_of rfl rfl ?_;have f5:_=Value.pointer (some ⟨E0,eoff+c,none⟩):=hJ2.v hall 5 103;have hK:=hJ2.gO hS 6 104;generalize InvQ _ _ _ _ _ _=K at hK⊢;clear ho hall hl hJ2 hS;go_simp;exact hK _ rfl
   | 7,ho=>
    cases ho;refine wpOp_of rfl rfl ?_;have f1:_=Value.slice ao m cap:=hJ2.v hall 1 99;have f6:_=Value.int .i64 z:=hJ2.v hall 6 104;have hK:=hJ2.go hS 7 105;generalize InvQ _ _ _ _ _ _=K at hK⊢;clear ho hall hl hJ2 hS;go_simp;refine(hSg W z5).mono ?_;rintro e v1 ⟨rfl,hBv⟩;exact hK _ _ (z5.trans (hBv.mono z5.size)) (fun j v h=>h.mono hBv) rfl
   | 8,ho=>
    cases ho;refine wpOp_of rfl rfl ?_;have f0:_=Value.agg #[.int .i64 x,.int .i64 y,.int .i64 sz,.slice none 0 0,.slice go gn gc]:=hJ2.v hall 0 98;have f7:_=Sg a bb cc d:=hJ2.v hall 7 105;have hK:=hJ2.go hS 8 106;generalize InvQ _ _ _ _ _ _=K at hK⊢;clear ho hall hl hJ2 hS;go_simp;refine(l13Meets_any x y sz none go 0 0 gn gc a bb cc d hq ia ib ic id W).mono ?_;rintro e v1 ⟨rfl,hBv⟩;exact hK _ _ (z5.trans (hBv.mono z5.size)) (fun j v h=>h.mono hBv) rfl
   | iq+9,ho=>simp at ho
 · intro lq aq W hJ hr;obtain⟨z1,z2,z3,z4,z5,z6,z7⟩:=hJ;have hl:=listed_of hr [0,1,2,3,4,5,6,7,8] [] (by simp) (by kernel_rfl) (by rw[z1];decide);exact hQ aq W z2 z3 (fun e he=>z4 e (by simpa using he)) (z6 8 106 (hl 8 (by simp)) rfl) z5
def VqpB (Kb P E0 eoff en ec c _n _base:Nat) (z:Int) (o:Value) (_Lz _kd:List Value) (Wd:World) (_B:Nat):Nat→Value→World→Prop
 | 0,v,_=>v= .pointer (some ⟨Kb,4,none⟩)
 | 1,v,_=>v=o
 | 2,v,_=>v= .pointer (some ⟨P,4,none⟩)
 | 3,v,_=>v= .slice (some ⟨E0,eoff,none⟩) en ec
 | 4,v,_=>v= .int .i64 (c:Int)
 | 5,v,_=>v= .pointer (some ⟨E0,eoff+c,none⟩)
 | 6,v,_=>v= .int .i64 z
 | 7,v,_=>v= .slice (some ⟨Wd.heap.size,0,none⟩) 1 1
 | 9,v,_=>v= .pointer (some ⟨Kb,4,none⟩)
 | _,_,_=>True
theorem VqpB.same {Kb P E0 eoff en ec c n base:Nat} {z:Int} {o:Value} {Lz kd:List Value} {Wd:World} {B j:Nat} {v:Value} {W W2:World} (h:VqpB Kb P E0 eoff en ec c n base z o Lz kd Wd B j v W):VqpB Kb P E0 eoff en ec c n base z o Lz kd Wd B j v W2:=by
 unfold VqpB at *
 split<;>simp only at h<;>first | exact h | trivial
def RqpB (Kb _P _E0 _eoff _en _ec _c n base:Nat) (z:Int) (_o:Value) (Lz kd:List Value) (Wd:World):Nat→(Nat→Value)→World→Prop:=fun kq val W=>match kq with
 | 0=>W=Wd
 | 1=>W=(Wd.alloc (.cells #[.int .i64 z] 2))
 | 2=>Blk W Kb kd∧W.ownsRow base 2 1 (val 1) (n+1) (Lz ++[.int .i64 z])
 | _=>∃ao cap,Blk W Kb (kd.set 4 (.slice ao (n+1) cap))∧W.ownsRow base 2 1 (.slice ao (n+1) cap) (n+1) (Lz ++[.int .i64 z])
def SqpB (Kb P E0 eoff en ec c n base:Nat) (z:Int) (o:Value) (Lz kd:List Value) (Wd:World) (lz:Array Bool) (az:Act) (W:World):Prop:=ChS 11 3 (fun t=>[7,8,10].getD t 0) (fun t=>[114,115,1010].getD t 0) (RqpB Kb P E0 eoff en ec c n base z o Lz kd Wd) lz az W∧((lz.getD 8 false=true→lz.getD 1 false=true))
def JqpB (Kb P E0 eoff en ec c n base:Nat) (z:Int) (o:Value) (Lz kd:List Value) (Wd:World) (w0:World) (a0:Act) (lz:Array Bool) (az:Act) (W:World):Prop:=InvQ (Kb) [some 107,some 108,some 109,some 110,some 111,some 112,some 113,some 114,some 115,some 116,none] (VqpB Kb P E0 eoff en ec c n base z o Lz kd Wd (Kb)) w0 a0 lz az W∧SqpB Kb P E0 eoff en ec c n base z o Lz kd Wd lz az W
theorem qpB {Q:Exit→Act→World→Prop} {Kb P E0 eoff en ec c n base:Nat} {z:Int} {o:Value} {Lz kd:List Value} {Wd:World} {i0:TypeInfo} {w0:World} {a0:Act} {idq:Nat} {t0 t1 t2 t3 t4 t5 t6 t7 t8 t9 t10:TypeId} {q0 q1 q2 q3 q4 q5 q6 q7 q8 q9 q10:String}
 (hi0:Tryz.prog.info? 2=some i0) (hz0:i0.zero=some (.int .i64 0)) (hz1:i0.size=1) (hz2:i0.bytes=8) (hce:c<en) (hen:en≤1048576) (hnn:n≤1048576) (hKb:Kb<base) (hbw:base≤w0.heap.size) (hown0:w0.drew.ownsRow base 2 1 o n Lz) (hkd0:Blk w0.drew Kb kd) (hk4:kd[4]? =some o) (hkl:kd.length=5) (hWe:Wd=w0.drew) (h6:a0.tmps[6]? =some (.pointer (some ⟨P,0,none⟩))) (h16:a0.tmps[16]? =some (.pointer (some ⟨Kb,0,none⟩))) (h17:a0.tmps[17]? =some (.int .i64 (c:Int))) (k0:w0.cell? ⟨P,4,none⟩=some (.slice (some ⟨E0,eoff,none⟩) en ec)) (l0:(⟨P,4,none⟩:Addr).block<Kb) (k1:w0.cell? ⟨E0,eoff+c,none⟩=some (.int .i64 z)) (l1:(⟨E0,eoff+c,none⟩:Addr).block<Kb) (hz:a0.tmps.size=125)
 (hQ:∀aq W,aq.tmps.size=a0.tmps.size→aq.defers=a0.defers→(∀e,e∉([107,108,109,110,111,112,113,114,115,116]:List Nat)→aq.tmps[e]? =a0.tmps[e]?)→VqpB Kb P E0 eoff en ec c n base z o Lz kd Wd (Kb) 10 undef W→Below (Kb) w0 W→(∃ao cap,Blk W Kb (kd.set 4 (.slice ao (n+1) cap))∧W.ownsRow base 2 1 (.slice ao (n+1) cap) (n+1) (Lz ++[.int .i64 z]))→Q .normal aq W) :
 (Code.region idq #[⟨some 107,.fieldAddr 62 (.tmp 16) 4,t0,q0,#[],none⟩,
 ⟨some 108,.load 32 (.tmp 107),t1,q1,#[⟨0,.data⟩],none⟩,
 ⟨some 109,.fieldAddr 62 (.tmp 6) 4,t2,q2,#[],none⟩,
 ⟨some 110,.load 32 (.tmp 109),t3,q3,#[⟨2,.data⟩],none⟩,
 ⟨some 111,.move (.tmp 17),t4,q4,#[],none⟩,
 ⟨some 112,.indexAddr 32 (.tmp 110) (.tmp 111),t5,q5,#[⟨3,.data⟩,⟨4,.data⟩],none⟩,
 ⟨some 113,.load 2 (.tmp 112),t6,q6,#[⟨5,.data⟩],none⟩,
 ⟨some 114,.buildSlice 32 1 #[(0,.tmp 113)],t7,q7,#[⟨6,.data⟩],none⟩,
 ⟨some 115,.call {callee:= .builtin .append,args:=#[.tmp 108,.tmp 114],argTypes:=#[32,32]},t8,q8,#[⟨1,.data⟩,⟨7,.data⟩],none⟩,
 ⟨some 116,.fieldAddr 62 (.tmp 16) 4,t9,q9,#[⟨0,.phase⟩,⟨1,.phase⟩,⟨2,.phase⟩,⟨3,.phase⟩,⟨4,.phase⟩,⟨5,.phase⟩,⟨6,.phase⟩,⟨7,.phase⟩,⟨8,.phase⟩],none⟩,
 ⟨none,.store 32 (.tmp 116) (.tmp 115),t10,q10,#[⟨9,.data⟩,⟨8,.data⟩,⟨8,.chain⟩,⟨0,.phase⟩,⟨1,.phase⟩,⟨2,.phase⟩,⟨3,.phase⟩,⟨4,.phase⟩,⟨5,.phase⟩,⟨6,.phase⟩,⟨7,.phase⟩,⟨8,.phase⟩],none⟩] true).wp Tryz.prog Q a0 w0:=by
 have hS:distS [some 107,some 108,some 109,some 110,some 111,some 112,some 113,some 114,some 115,some 116,none]=true:=rfl;refine wp_region_inv (by kernel_rfl) (JqpB Kb P E0 eoff en ec c n base z o Lz kd Wd w0 a0) ⟨⟨rfl,rfl,rfl,fun _ _=>rfl,(Below.refl _ w0).drew,fun j d hj=>?_,fun j hj=>?_⟩,⟨ChS.start (by decide) (hWe.symm),(fun h=>by rw[replD] at h;cases h)⟩⟩ ?_ ?_
 · exfalso
   rw[Array.getD_eq_getD_getElem?,Array.getElem?_replicate] at hj
   split at hj<;>simp at hj
 · exfalso
   rw[Array.getD_eq_getD_getElem?,Array.getElem?_replicate] at hj
   split at hj<;>simp at hj
 · intro lq aq W iq oq ⟨hJ2,hs⟩ hl ho hall;have z1:=hJ2.1;have z2:=hJ2.2.1;have z5:=hJ2.b;have g6:=hJ2.a h6
   have g16:=hJ2.a h16
   have g17:=hJ2.a h17
   have c0:=hJ2.c k0 l0;have c1:=hJ2.c k1 l1
   have HK:=fun i d h1 h2 v W2 hW hT hv hs=>show JqpB Kb P E0 eoff en ec c n base z o Lz kd Wd w0 a0 (lq.setIfInBounds i true) (aq.put (some d) v) W2 from⟨hJ2.put hS i d h1 h2 hW hT v hv,hs⟩
   have HW:=fun i h1 W2 hW hT hv hs=>show JqpB Kb P E0 eoff en ec c n base z o Lz kd Wd w0 a0 (lq.setIfInBounds i true) aq W2 from⟨hJ2.world i h1 (W' :=W2) hW hT hv,hs⟩
   generalize JqpB Kb P E0 eoff en ec c n base z o Lz kd Wd w0 a0=JJ at HK HW⊢
   clear hQ
   match iq,ho with
   | 0,ho=>
    cases ho;refine wpOp_of rfl rfl ?_;have hq:∀v:Value,SqpB Kb P E0 eoff en ec c n base z o Lz kd Wd (lq.setIfInBounds 0 true) (aq.put (some 107) v) W:=fun v=>⟨hs.1.quiet 0 107 v (by decide) hl (by decide) (by decide),(by rw[gn 0 8,gn 0 1];exact hs.2)⟩;clear hs hWe;have hK:=HK 0 107 rfl (by omega);generalize JJ _=K at hK⊢;clear ho hall hl HK HW hJ2 hS z1 z2;go_simp;exact hK _ _ z5 (fun _ _ h=>h) rfl (hq _)
   | 1,ho=>
    cases ho;refine wpOp_of rfl rfl ?_;have f0:_=Value.pointer (some ⟨Kb,4,none⟩):=hJ2.v hall 0 107;have hq:∀v:Value,SqpB Kb P E0 eoff en ec c n base z o Lz kd Wd (lq.setIfInBounds 1 true) (aq.put (some 108) v) W:=fun v=>⟨hs.1.quiet 1 108 v (by decide) hl (by decide) (by decide),(fun _=>getD_set_eq hl)⟩;have h8:lq.getD 8 false=false:=by cases e:lq.getD 8 false with | false=>rfl | true=>have:=hs.2 e;rw[getD_tf hl] at this;cases this
    obtain⟨cc,hcc,hRR,hle⟩:=hs.1.some (i:=1) (by decide) hl;have hcc1:cc≤1:=hle 1 (by decide) (by show lq.getD 8 true=false;exact getD_ft h8 (by rw[z1];decide));have c9:W.cell? ⟨Kb,4,none⟩=some o:=by
     rcases(show cc=0∨cc=1 by omega) with e | e
     · subst e;have eW:W=Wd:=hRR;rw[eW,hWe];exact hkd0.c 4 hk4
     · subst e;have eW:W=(Wd.alloc (.cells #[.int .i64 z] 2)):=hRR;rw[eW];exact(Blk.alloc (vs:=kd) (by rw[hWe];exact hkd0) _).c 4 hk4
    clear hRR hle hcc hcc1 h8;clear hs hWe;have hK:=HK 1 108 rfl (by omega);generalize JJ _=K at hK⊢;clear ho hall hl HK HW hJ2 hS z1 z2;go_simp;exact hK _ _ z5 (fun _ _ h=>h) rfl (hq _)
   | 2,ho=>
    cases ho;refine wpOp_of rfl rfl ?_;have hq:∀v:Value,SqpB Kb P E0 eoff en ec c n base z o Lz kd Wd (lq.setIfInBounds 2 true) (aq.put (some 109) v) W:=fun v=>⟨hs.1.quiet 2 109 v (by decide) hl (by decide) (by decide),(by rw[gn 2 8,gn 2 1];exact hs.2)⟩;clear hs hWe;have hK:=HK 2 109 rfl (by omega);generalize JJ _=K at hK⊢;clear ho hall hl HK HW hJ2 hS z1 z2;go_simp;exact hK _ _ z5 (fun _ _ h=>h) rfl (hq _)
   | 3,ho=>
    cases ho;refine wpOp_of rfl rfl ?_;have f2:_=Value.pointer (some ⟨P,4,none⟩):=hJ2.v hall 2 109;have hq:∀v:Value,SqpB Kb P E0 eoff en ec c n base z o Lz kd Wd (lq.setIfInBounds 3 true) (aq.put (some 110) v) W:=fun v=>⟨hs.1.quiet 3 110 v (by decide) hl (by decide) (by decide),(by rw[gn 3 8,gn 3 1];exact hs.2)⟩;clear hs hWe;have hK:=HK 3 110 rfl (by omega);generalize JJ _=K at hK⊢;clear ho hall hl HK HW hJ2 hS z1 z2;go_simp;exact hK _ _ z5 (fun _ _ h=>h) rfl (hq _)
   | 4,ho=>
    cases ho;refine wpOp_of rfl rfl ?_;have hq:∀v:Value,SqpB Kb P E0 eoff en ec c n base z o Lz kd Wd (lq.setIfInBounds 4 true) (aq.put (some 111) v) W:=fun v=>⟨hs.1.quiet 4 111 v (by decide) hl (by decide) (by decide),(by rw[gn 4 8,gn 4 1];exact hs.2)⟩;clear hs hWe;have hK:=HK 4 111 rfl (by omega);generalize JJ _=K at hK⊢;clear ho hall hl HK HW hJ2 hS z1 z2;go_simp;exact hK _ _ z5 (fun _ _ h=>h) rfl (hq _)
   | 5,ho=>
    cases ho;refine wpOp_of rfl rfl ?_;have f3:_=Value.slice (some ⟨E0,eoff,none⟩) en ec:=hJ2.v hall 3 110;have f4:_=Value.int .i64 (c:Int):=hJ2.v hall 4 111;have hq:∀v:Value,SqpB Kb P E0 eoff en ec c n base z o Lz kd Wd (lq.setIfInBounds 5 true) (aq.put (some 112) v) W:=fun v=>⟨hs.1.quiet 5 112 v (by decide) hl (by decide) (by decide),(by rw[gn 5 8,gn 5 1];exact hs.2)⟩;have hcI:(c:Int)<en:=by omega
    have heI:(en:Int)≤1048576:=by omega
    clear hs hWe;have hK:=HK 5 112 rfl (by omega);generalize JJ _=K at hK⊢;clear ho hall hl HK HW hJ2 hS z1 z2;go_simp;exact hK _ _ z5 (fun _ _ h=>h) rfl (hq _)
   | 6,ho=>
    cases ho;refine wpOp_of rfl rfl ?_;have f5:_=Value.pointer (some ⟨E0,eoff+c,none⟩):=hJ2.v hall 5 112;have hq:∀v:Value,SqpB Kb P E0 eoff en ec c n base z o Lz kd Wd (lq.setIfInBounds 6 true) (aq.put (some 113) v) W:=fun v=>⟨hs.1.quiet 6 113 v (by decide) hl (by decide) (by decide),(by rw[gn 6 8,gn 6 1];exact hs.2)⟩;clear hs hWe;have hK:=HK 6 113 rfl (by omega);generalize JJ _=K at hK⊢;clear ho hall hl HK HW hJ2 hS z1 z2;go_simp;exact hK _ _ z5 (fun _ _ h=>h) rfl (hq _)
   | 7,ho=>
    cases ho;refine wpOp_of rfl rfl ?_;have f6:_=Value.int .i64 z:=hJ2.v hall 6 113;have hpr:∀t,0=t+1→lq.getD ((fun t=>[7,8,10].getD t 0) t) false=true:=(fun t ht=>absurd ht (by omega));have RS:=hs.1.now 0 (by decide) hl hpr;have hq:∀(v:Value) (X:World),RqpB Kb P E0 eoff en ec c n base z o Lz kd Wd 1 (fun t=>if t=0 then v else valC 3 (fun t=>[114,115,1010].getD t 0) aq t) X→SqpB Kb P E0 eoff en ec c n base z o Lz kd Wd (lq.setIfInBounds 7 true) (aq.put (some 114) v) X:=fun v X hX=>⟨hs.1.link 0 (by decide) hl hpr (by decide) (by decide) (by rw[z2,hz];decide) (fun e=>absurd e (by decide)) hX,(by rw[gn 7 8,gn 7 1];exact hs.2)⟩;have eW:W=Wd:=RS;have hp:Hid (W.heap.size=Wd.heap.size):=congrArg (fun w:World=>w.heap.size) eW;have hq2:∀v:Value,SqpB Kb P E0 eoff en ec c n base z o Lz kd Wd (lq.setIfInBounds 7 true) (aq.put (some 114) v) (W.alloc (.cells #[.int .i64 z] 2)):=fun v=>hq v _ (by show W.alloc _=_;rw[eW]);have hbW:=z5.size;rw[Array.getD_eq_getD_getElem?] at f6;clear eW RS hq;clear hs hWe;have hK:=HK 7 114 rfl (by omega);generalize JJ _=K at hK⊢;clear ho hall hl HK HW hJ2 hS z1 z2;go_simp;exact hK _ _ (z5.alloc (by omega) _) (fun _ _ h=>h.same) (by show Value.slice _ _ _=_;rw[hp.out]) (hq2 _)
   | 8,ho=>
    cases ho;refine wpOp_of rfl rfl ?_;have f1:_=o:=hJ2.v hall 1 108;have f7:_=Value.slice (some ⟨Wd.heap.size,0,none⟩) 1 1:=hJ2.v hall 7 114;have hpr:∀t,1=t+1→lq.getD ((fun t=>[7,8,10].getD t 0) t) false=true:=(fun t ht=>by obtain rfl:t=0:=(by omega);exact hall ⟨7,.data⟩ (by simp) rfl);have RS:=hs.1.now 1 (by decide) hl hpr;have hq:∀(v:Value) (X:World),RqpB Kb P E0 eoff en ec c n base z o Lz kd Wd 2 (fun t=>if t=1 then v else valC 3 (fun t=>[114,115,1010].getD t 0) aq t) X→SqpB Kb P E0 eoff en ec c n base z o Lz kd Wd (lq.setIfInBounds 8 true) (aq.put (some 115) v) X:=fun v X hX=>⟨hs.1.link 1 (by decide) hl hpr (by decide) (by decide) (by rw[z2,hz];decide) (fun e=>absurd e (by decide)) hX,(fun _=>by rw[gn 8 1];exact hall ⟨1,.data⟩ (by simp) rfl)⟩;have eW:W=(Wd.alloc (.cells #[.int .i64 z] 2)):=RS;have hown:W.ownsRow base 2 1 o n Lz:=by rw[eW];exact ownA_step (by rw[hWe];exact hown0) ((Below.refl _ Wd).alloc (Nat.le_refl _) _)
    have hkd:Blk W Kb kd:=by rw[eW];exact Blk.alloc (by rw[hWe];exact hkd0) _
    have hcl:W.cell? ⟨Wd.heap.size,0,none⟩=some (.int .i64 z):=by rw[eW];exact(Blk.new Wd [.int .i64 z] 2 rfl).c 0 rfl
    have hbs:base≤W.heap.size:=by have:=z5.size;omega
    clear eW RS;clear hs hWe;have hK:=HK 8 115 rfl (by omega);generalize JJ _=K at hK⊢;clear ho hall hl HK HW hJ2 hS z1 z2;refine wp_append_q (.tmp 108) (.tmp 114) 32 rfl base 2 i0 (.int .i64 0) 1 8 Tryz.underlying32 hi0 hz0 hz1 hz2 rfl (by decide) _ n _ f1 hown ⟨Wd.heap.size,0,none⟩ 1 1 [.int .i64 z] f7 rfl (fun j u hj=>by rw[Addr.add_lit,Nat.zero_add];match j,hj with | 0,hj=>cases hj;exact hcl | j+1,hj=>simp at hj) (fun u hu=>by simp only[List.mem_singleton] at hu;subst hu;rfl) (by unfold maxLen;omega) (by omega) hbs ?_;intro v1 X r1 r2 r3;exact hK _ _ (z5.grown r2 (by omega) (fun k hk=>by have:=(hown.lt k hk).1;omega)) (fun _ _ h=>h.same) trivial (hq _ _ ⟨hkd.grown r2 (fun e=>by have:=(hown.lt Kb e.symm).1;omega),r1⟩)
   | 9,ho=>
    cases ho;refine wpOp_of rfl rfl ?_;have hq:∀v:Value,SqpB Kb P E0 eoff en ec c n base z o Lz kd Wd (lq.setIfInBounds 9 true) (aq.put (some 116) v) W:=fun v=>⟨hs.1.quiet 9 116 v (by decide) hl (by decide) (by decide),(by rw[gn 9 8,gn 9 1];exact hs.2)⟩;clear hs hWe;have hK:=HK 9 116 rfl (by omega);generalize JJ _=K at hK⊢;clear ho hall hl HK HW hJ2 hS z1 z2;go_simp;exact hK _ _ z5 (fun _ _ h=>h) rfl (hq _)
   | 10,ho=>
    cases ho;refine wpOp_of rfl rfl ?_;have f9:_=Value.pointer (some ⟨Kb,4,none⟩):=hJ2.v hall 9 116;have f8:True:=hJ2.v hall 8 115;have hpr:∀t,2=t+1→lq.getD ((fun t=>[7,8,10].getD t 0) t) false=true:=(fun t ht=>by obtain rfl:t=1:=(by omega);exact hall ⟨8,.data⟩ (by simp) rfl);have RS:=hs.1.now 2 (by decide) hl hpr;have hq:∀(X:World),RqpB Kb P E0 eoff en ec c n base z o Lz kd Wd 3 (valC 3 (fun t=>[114,115,1010].getD t 0) aq) X→SqpB Kb P E0 eoff en ec c n base z o Lz kd Wd (lq.setIfInBounds 10 true) aq X:=fun X hX=>⟨hs.1.store 2 (by decide) hl hpr (by decide) (fun _ j hj hn=>match j,hj,hn with | 0,_,_=>hall ⟨0,.phase⟩ (by simp) rfl | 1,_,_=>hall ⟨1,.phase⟩ (by simp) rfl | 2,_,_=>hall ⟨2,.phase⟩ (by simp) rfl | 3,_,_=>hall ⟨3,.phase⟩ (by simp) rfl | 4,_,_=>hall ⟨4,.phase⟩ (by simp) rfl | 5,_,_=>hall ⟨5,.phase⟩ (by simp) rfl | 6,_,_=>hall ⟨6,.phase⟩ (by simp) rfl | 7,_,_=>hall ⟨7,.phase⟩ (by simp) rfl | 8,_,_=>hall ⟨8,.data⟩ (by simp) rfl | 9,_,_=>hall ⟨9,.data⟩ (by simp) rfl | 10,_,hn=>absurd rfl hn | j+11,hj,_=>absurd hj (by omega)) hX,(by rw[gn 10 8,gn 10 1];exact hs.2)⟩;obtain⟨hkd,hown⟩:=RS;change W.ownsRow base 2 1 (aq.tmps.getD 115 undef) (n+1) (Lz ++[Value.int .i64 z]) at hown;obtain⟨ao5,cap5,ev5⟩:=ownQ_slice hown;rw[ev5] at hown;rw[Array.getD_eq_getD_getElem?] at ev5 f9;have hc4:=hkd.c 4 hk4;have hf4:=hkd.f 4 hk4;have hq2:SqpB Kb P E0 eoff en ec c n base z o Lz kd Wd (lq.setIfInBounds 10 true) aq (W.setCell ⟨Kb,4,none⟩ (.slice ao5 (n+1) cap5)):=hq _ ⟨ao5,cap5,hkd.setI 4 (by rw[hkl];decide) _,ownQ_heap hown (fun b hb=>Below.heap_setCell _ _ _ _ (by have:=(hown.lt b hb).1;show b≠Kb;omega))⟩;clear hq hown hkd;clear hs hWe;have hK:=HW 10 rfl;generalize JJ _=K at hK⊢;clear ho hall hl HK HW hJ2 hS z1 z2;go_simp;exact hK _ (z5.setCell (Nat.le_refl _) _) (fun _ _ h=>h.same) trivial hq2
   | iq+11,ho=>simp at ho
 · intro lq aq W ⟨hJ,hs⟩ hr;obtain⟨z1,z2,z3,z4,z5,z6,z7⟩:=hJ;have hl:=listed_of hr [0,1,2,3,4,5,6,7,8,9,10] [] (by simp) (by kernel_rfl) (by rw[z1];decide);exact hQ aq W z2 z3 (fun e he=>z4 e (by simpa using he)) (z7 10 (hl 10 (by simp)) rfl) z5 (by have hZ:=hl 10 (by simp);exact hs.1.done (by decide) hZ)
end Go.Proofs.YthelolpogdcmhaaGreat
