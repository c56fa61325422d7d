/- Part 19 of the walks that the proof leans on. -/
import Derived.Test.YthelolpogdcmhaaGreatQx18
import Derived.Test.YthelolpogdcmhaaGreatQx9
import Derived.Test.YthelolpogdcmhaaGreatQx16
set_option maxRecDepth 100000
set_option maxHeartbeats 16000000
namespace Go.Proofs.YthelolpogdcmhaaGreat
open Go.RowKit
theorem ChS.free {n k:Nat} {ix dx:Nat→Nat} {R:Nat→(Nat→Value)→World→Prop} {lz:Array Bool} {az:Act} {W:World} (h:ChS n k ix dx R lz az W) (i d:Nat) (v:Value) (hi:n≤i) (h1:∀s,s<k→i≠ix s) (h2:∀s,s<k→d≠dx s):ChS n k ix dx R (lz.setIfInBounds i true) (az.put (Option.some d) v) W:=by
 obtain⟨c,c1,c2,c3,c4⟩:=h;exact⟨c,c1,fun s hs=>by rw[getD_set_neq (h1 s hs)];exact c2 s hs,by rw[valC_put h2];exact c3,fun e j hj=>by rw[getD_set_neq (by omega)];exact c4 e j hj⟩
def VqdX (T3 gi:Nat) (m1 d1:Int) (bo1:Option Addr) (n1 ic1 N1 bc1:Nat) (id:Int) (_Wd:World) (_B:Nat):Nat→Value→World→Prop
 | 0,v,_=>v= .agg #[.int .i64 m1,.int .i64 d1,.slice (some ⟨gi,0,none⟩) n1 ic1,.slice bo1 N1 bc1]
 | 1,v,_=>v= .pointer (some ⟨T3,2,none⟩)
 | 2,v,_=>v= .slice (some ⟨gi,0,none⟩) n1 ic1
 | 3,v,_=>v= .pointer (some ⟨gi,0,none⟩)
 | 4,v,_=>v= .pointer (some ⟨gi,0,none⟩)
 | 5,v,_=>v= .int .i64 id
 | 7,v,_=>∃(u:Value) (b:Bool),v= .tuple #[u,.bool b]
 | _,_,_=>True
theorem VqdX.same {T3 gi:Nat} {m1 d1:Int} {bo1:Option Addr} {n1 ic1 N1 bc1:Nat} {id:Int} {Wd:World} {B j:Nat} {v:Value} {W W2:World} (h:VqdX T3 gi m1 d1 bo1 n1 ic1 N1 bc1 id Wd B j v W):VqdX T3 gi m1 d1 bo1 n1 ic1 N1 bc1 id Wd B j v W2:=by
 unfold VqdX at *
 split<;>simp only at h<;>first | exact h | trivial
def RqdX (T3 _gi:Nat) (_m1 _d1:Int) (_bo1:Option Addr) (_n1 _ic1 _N1 _bc1:Nat) (_id:Int) (Wd:World):Nat→(Nat→Value)→World→Prop:=fun kq val W=>match kq with
 | 0=>W=Wd
 | 1=>∃(u:Value) (b:Bool),val 0= .tuple #[u,.bool b]∧TqP 41 (fun y=>Wd.heap.size≤y) u W∧Below Wd.heap.size Wd W
 | 2=>∃(u:Value) (b:Bool),val 1= .tuple #[u,.bool b]∧TqP 41 (fun y=>Wd.heap.size≤y) u W∧Below Wd.heap.size Wd W
 | 3=>∃(u:Value),val 2=u∧TqP 41 (fun y=>Wd.heap.size≤y) u W∧Below Wd.heap.size Wd W
 | _=>∃(W2:World) (m2 d2:Int) (io2 bo2:Option Addr) (n2 ic2 N2 bc2:Nat),TqP 41 (fun y=>Wd.heap.size≤y) (.agg #[.int .i64 m2,.int .i64 d2,.slice io2 n2 ic2,.slice bo2 N2 bc2]) W2∧Below Wd.heap.size Wd W2∧W=((((W2.setCell ⟨T3,0,none⟩ (.int .i64 m2)).setCell ⟨T3,1,none⟩ (.int .i64 d2)).setCell ⟨T3,2,none⟩ (.slice io2 n2 ic2)).setCell ⟨T3,3,none⟩ (.slice bo2 N2 bc2))
def SqdX (T3 gi:Nat) (m1 d1:Int) (bo1:Option Addr) (n1 ic1 N1 bc1:Nat) (id:Int) (Wd:World) (lz:Array Bool) (az:Act) (W:World):Prop:=ChS 9 4 (fun t=>[6,7,8,10].getD t 0) (fun t=>[52,45,53,1010].getD t 0) (RqdX T3 gi m1 d1 bo1 n1 ic1 N1 bc1 id Wd) lz az W∧((lz.getD 6 false=true→lz.getD 0 false=true)∧(lz.getD 6 false=true→lz.getD 5 false=true)∧(lz.getD 5 false=true→lz.getD 4 false=true)∧(lz.getD 4 false=true→lz.getD 3 false=true)∧(lz.getD 3 false=true→lz.getD 2 false=true))
def JqdX (T3 gi:Nat) (m1 d1:Int) (bo1:Option Addr) (n1 ic1 N1 bc1:Nat) (id:Int) (Wd:World) (w0:World) (a0:Act) (lz:Array Bool) (az:Act) (W:World):Prop:=InvQ (T3) [some 46,some 47,some 48,some 49,some 50,some 51,some 52,some 45,some 53,some 54,none] (VqdX T3 gi m1 d1 bo1 n1 ic1 N1 bc1 id Wd (T3)) w0 a0 lz az W∧SqdX T3 gi m1 d1 bo1 n1 ic1 N1 bc1 id Wd lz az W
theorem qdX {Q:Exit→Act→World→Prop} {T3 gi:Nat} {m1 d1:Int} {bo1:Option Addr} {n1 ic1 N1 bc1:Nat} {id:Int} {Wd:World} {w0:World} {a0:Act} {idq:Nat} {t0 t1 t2 t3 t4 t5 t6 t7 t8 t9 t10:TypeId} {q0 q1 q2 q3 q4 q5 q6 q7 q8 q9 q10:String}
 (hT3:T3<w0.heap.size) (hn:0<n1) (hnb:n1≤1048576) (hold:TqP 41 (fun _=>True) (.agg #[.int .i64 m1,.int .i64 d1,.slice (some ⟨gi,0,none⟩) n1 ic1,.slice bo1 N1 bc1]) Wd) (hcell:w0.drew.cell? ⟨gi,0,none⟩=some (.int .i64 id)) (hBT:Blk w0.drew T3 [.int .i64 m1,.int .i64 d1,.slice (some ⟨gi,0,none⟩) n1 ic1,.slice bo1 N1 bc1]) (hWe:Wd=w0.drew) (h3:a0.tmps[3]? =some (.pointer (some ⟨T3,0,none⟩))) (hz:a0.tmps.size=82)
 (hQ:∀aq W,aq.tmps.size=a0.tmps.size→aq.defers=a0.defers→(∀e,e∉([46,47,48,49,50,51,52,45,53,54]:List Nat)→aq.tmps[e]? =a0.tmps[e]?)→VqdX T3 gi m1 d1 bo1 n1 ic1 N1 bc1 id Wd (T3) 10 undef W→Below (T3) w0 W→(∃(W2:World) (m2 d2:Int) (io2 bo2:Option Addr) (n2 ic2 N2 bc2:Nat),TqP 41 (fun y=>Wd.heap.size≤y) (.agg #[.int .i64 m2,.int .i64 d2,.slice io2 n2 ic2,.slice bo2 N2 bc2]) W2∧Below Wd.heap.size Wd W2∧W=((((W2.setCell ⟨T3,0,none⟩ (.int .i64 m2)).setCell ⟨T3,1,none⟩ (.int .i64 d2)).setCell ⟨T3,2,none⟩ (.slice io2 n2 ic2)).setCell ⟨T3,3,none⟩ (.slice bo2 N2 bc2)))→Q .normal aq W) :
 (Code.region idq #[⟨some 46,.load 27 (.tmp 3),t0,q0,#[],none⟩,
 ⟨some 47,.fieldAddr 27 (.tmp 3) 2,t1,q1,#[],none⟩,
 ⟨some 48,.load 24 (.tmp 47),t2,q2,#[⟨1,.data⟩],none⟩,
 ⟨some 49,.indexAddr 24 (.tmp 48) (.const (.int .i64 0)),t3,q3,#[⟨2,.data⟩],none⟩,
 ⟨some 50,.fieldAddr 40 (.tmp 49) 0,t4,q4,#[⟨3,.data⟩],none⟩,
 ⟨some 51,.load 2 (.tmp 50),t5,q5,#[⟨4,.data⟩],none⟩,
 ⟨some 52,.call {callee:= .value (.func 31),args:=#[.tmp 46,.tmp 51],argTypes:=#[27,2]},t6,q6,#[⟨0,.data⟩,⟨5,.data⟩],none⟩,
 ⟨some 45,.move (.tmp 52),t7,q7,#[⟨6,.data⟩],none⟩,
 ⟨some 53,.extract (.tmp 45) 0,t8,q8,#[⟨7,.data⟩],none⟩,
 ⟨some 54,.extract (.tmp 45) 1,t9,q9,#[⟨7,.data⟩,⟨10,.gcOnly .lateStores⟩],none⟩,
 ⟨none,.store 27 (.tmp 3) (.tmp 53),t10,q10,#[⟨8,.data⟩,⟨6,.chain⟩,⟨0,.phase⟩,⟨1,.phase⟩,⟨2,.phase⟩,⟨3,.phase⟩,⟨4,.phase⟩,⟨5,.phase⟩,⟨6,.phase⟩,⟨7,.phase⟩,⟨8,.phase⟩,⟨9,.textOnly .lateStores⟩],none⟩] true).wp Tryz.prog Q a0 w0:=by
 have hS:distS [some 46,some 47,some 48,some 49,some 50,some 51,some 52,some 45,some 53,some 54,none]=true:=rfl;refine wp_region_inv (by kernel_rfl) (JqdX T3 gi m1 d1 bo1 n1 ic1 N1 bc1 id Wd w0 a0) ⟨⟨rfl,rfl,rfl,fun _ _=>rfl,(Below.refl _ w0).drew,fun j d hj=>?_,fun j hj=>?_⟩,⟨ChS.start (by decide) (hWe.symm),⟨(fun h=>by rw[replD] at h;cases h),(fun h=>by rw[replD] at h;cases h),(fun h=>by rw[replD] at h;cases h),(fun h=>by rw[replD] at h;cases h),(fun h=>by rw[replD] at h;cases h)⟩⟩⟩ ?_ ?_
 · exfalso
   rw[Array.getD_eq_getD_getElem?,Array.getElem?_replicate] at hj
   split at hj<;>simp at hj
 · exfalso
   rw[Array.getD_eq_getD_getElem?,Array.getElem?_replicate] at hj
   split at hj<;>simp at hj
 · intro lq aq W iq oq ⟨hJ2,hs⟩ hl ho hall;have z1:=hJ2.1;have z2:=hJ2.2.1;have z5:=hJ2.b;have g3:=hJ2.a h3
   have HK:=fun i d h1 h2 v W2 hW hT hv hs=>show JqdX T3 gi m1 d1 bo1 n1 ic1 N1 bc1 id Wd w0 a0 (lq.setIfInBounds i true) (aq.put (some d) v) W2 from⟨hJ2.put hS i d h1 h2 hW hT v hv,hs⟩
   have HW:=fun i h1 W2 hW hT hv hs=>show JqdX T3 gi m1 d1 bo1 n1 ic1 N1 bc1 id Wd w0 a0 (lq.setIfInBounds i true) aq W2 from⟨hJ2.world i h1 (W' :=W2) hW hT hv,hs⟩
   generalize JqdX T3 gi m1 d1 bo1 n1 ic1 N1 bc1 id Wd w0 a0=JJ at HK HW⊢
   clear hQ
   match iq,ho with
   | 0,ho=>
    cases ho;refine wpOp_of rfl rfl ?_;have hq:∀v:Value,SqdX T3 gi m1 d1 bo1 n1 ic1 N1 bc1 id Wd (lq.setIfInBounds 0 true) (aq.put (some 46) v) W:=fun v=>⟨hs.1.quiet 0 46 v (by decide) hl (by decide) (by decide),⟨(fun _=>getD_set_eq hl),(by rw[gn 0 6,gn 0 5];exact hs.2.2.1),(by rw[gn 0 5,gn 0 4];exact hs.2.2.2.1),(by rw[gn 0 4,gn 0 3];exact hs.2.2.2.2.1),(by rw[gn 0 3,gn 0 2];exact hs.2.2.2.2.2)⟩⟩;have u0:lq.getD 0 false=false:=by cases e:lq.getD 0 false with | false=>rfl | true=>rw[getD_tf hl] at e;cases e
    have u6:lq.getD 6 false=false:=by cases e:lq.getD 6 false with | false=>rfl | true=>have:=hs.2.1 e;rw[u0] at this;cases this
    obtain⟨cc,hcc,hRR,hle⟩:=hs.1.some (i:=0) (by decide) hl;have hcc1:cc=0:=by have:=hle 0 (by decide) (by show lq.getD 6 true=false;exact getD_ft u6 (by rw[z1];decide));omega
    subst hcc1;have eW:W=Wd:=hRR;have j0:W.cell? ⟨T3,0,none⟩=some (.int .i64 m1):=by rw[eW,hWe];exact hBT.c 0 rfl
    have j1:W.cell? ⟨T3,1,none⟩=some (.int .i64 d1):=by rw[eW,hWe];exact hBT.c 1 rfl
    have j2:W.cell? ⟨T3,2,none⟩=some (.slice (some ⟨gi,0,none⟩) n1 ic1):=by rw[eW,hWe];exact hBT.c 2 rfl
    have j3:W.cell? ⟨T3,3,none⟩=some (.slice bo1 N1 bc1):=by rw[eW,hWe];exact hBT.c 3 rfl
    clear hRR hle hcc eW u0 u6 hold hcell hBT;clear hs hWe;have hK:=HK 0 46 rfl (by omega);generalize JJ _=K at hK⊢;clear ho hall hl HK HW hJ2 hS z1 z2;go_simp;exact hK _ _ z5 (fun _ _ h=>h) rfl (hq _)
   | 1,ho=>
    cases ho;refine wpOp_of rfl rfl ?_;have hq:∀v:Value,SqdX T3 gi m1 d1 bo1 n1 ic1 N1 bc1 id Wd (lq.setIfInBounds 1 true) (aq.put (some 47) v) W:=fun v=>⟨hs.1.quiet 1 47 v (by decide) hl (by decide) (by decide),⟨(by rw[gn 1 6,gn 1 0];exact hs.2.1),(by rw[gn 1 6,gn 1 5];exact hs.2.2.1),(by rw[gn 1 5,gn 1 4];exact hs.2.2.2.1),(by rw[gn 1 4,gn 1 3];exact hs.2.2.2.2.1),(by rw[gn 1 3,gn 1 2];exact hs.2.2.2.2.2)⟩⟩;clear hs hWe;have hK:=HK 1 47 rfl (by omega);generalize JJ _=K at hK⊢;clear ho hall hl HK HW hJ2 hS z1 z2;go_simp;exact hK _ _ z5 (fun _ _ h=>h) rfl (hq _)
   | 2,ho=>
    cases ho;refine wpOp_of rfl rfl ?_;have f1:_=Value.pointer (some ⟨T3,2,none⟩):=hJ2.v hall 1 47;have hq:∀v:Value,SqdX T3 gi m1 d1 bo1 n1 ic1 N1 bc1 id Wd (lq.setIfInBounds 2 true) (aq.put (some 48) v) W:=fun v=>⟨hs.1.quiet 2 48 v (by decide) hl (by decide) (by decide),⟨(by rw[gn 2 6,gn 2 0];exact hs.2.1),(by rw[gn 2 6,gn 2 5];exact hs.2.2.1),(by rw[gn 2 5,gn 2 4];exact hs.2.2.2.1),(by rw[gn 2 4,gn 2 3];exact hs.2.2.2.2.1),(fun _=>getD_set_eq hl)⟩⟩;have u2:lq.getD 2 false=false:=by cases e:lq.getD 2 false with | false=>rfl | true=>rw[getD_tf hl] at e;cases e
    have u3:lq.getD 3 false=false:=by cases e:lq.getD 3 false with | false=>rfl | true=>have:=hs.2.2.2.2.2 e;rw[u2] at this;cases this
    have u4:lq.getD 4 false=false:=by cases e:lq.getD 4 false with | false=>rfl | true=>have:=hs.2.2.2.2.1 e;rw[u3] at this;cases this
    have u5:lq.getD 5 false=false:=by cases e:lq.getD 5 false with | false=>rfl | true=>have:=hs.2.2.2.1 e;rw[u4] at this;cases this
    have u6:lq.getD 6 false=false:=by cases e:lq.getD 6 false with | false=>rfl | true=>have:=hs.2.2.1 e;rw[u5] at this;cases this
    obtain⟨cc,hcc,hRR,hle⟩:=hs.1.some (i:=2) (by decide) hl;have hcc1:cc=0:=by have:=hle 0 (by decide) (by show lq.getD 6 true=false;exact getD_ft u6 (by rw[z1];decide));omega
    subst hcc1;have eW:W=Wd:=hRR;have j0:W.cell? ⟨T3,0,none⟩=some (.int .i64 m1):=by rw[eW,hWe];exact hBT.c 0 rfl
    have j1:W.cell? ⟨T3,1,none⟩=some (.int .i64 d1):=by rw[eW,hWe];exact hBT.c 1 rfl
    have j2:W.cell? ⟨T3,2,none⟩=some (.slice (some ⟨gi,0,none⟩) n1 ic1):=by rw[eW,hWe];exact hBT.c 2 rfl
    have j3:W.cell? ⟨T3,3,none⟩=some (.slice bo1 N1 bc1):=by rw[eW,hWe];exact hBT.c 3 rfl
    clear hRR hle hcc eW u2 u3 u4 u5 u6 hold hcell hBT;clear hs hWe;have hK:=HK 2 48 rfl (by omega);generalize JJ _=K at hK⊢;clear ho hall hl HK HW hJ2 hS z1 z2;go_simp;exact hK _ _ z5 (fun _ _ h=>h) rfl (hq _)
   | 3,ho=>
    cases ho;refine wpOp_of rfl rfl ?_;have f2:_=Value.slice (some ⟨gi,0,none⟩) n1 ic1:=hJ2.v hall 2 48;have hq:∀v:Value,SqdX T3 gi m1 d1 bo1 n1 ic1 N1 bc1 id Wd (lq.setIfInBounds 3 true) (aq.put (some 49) v) W:=fun v=>⟨hs.1.quiet 3 49 v (by decide) hl (by decide) (by decide),⟨(by rw[gn 3 6,gn 3 0];exact hs.2.1),(by rw[gn 3 6,gn 3 5];exact hs.2.2.1),(by rw[gn 3 5,gn 3 4];exact hs.2.2.2.1),(fun _=>getD_set_eq hl),(fun _=>by rw[gn 3 2];exact hall ⟨2,.data⟩ (by simp) rfl)⟩⟩;have hn1:(0:Int)<n1:=by omega
    clear hold hcell hBT;clear hs hWe;have hK:=HK 3 49 rfl (by omega);generalize JJ _=K at hK⊢;clear ho hall hl HK HW hJ2 hS z1 z2;go_simp;exact hK _ _ z5 (fun _ _ h=>h) rfl (hq _)
   | 4,ho=>
    cases ho;refine wpOp_of rfl rfl ?_;have f3:_=Value.pointer (some ⟨gi,0,none⟩):=hJ2.v hall 3 49;have hq:∀v:Value,SqdX T3 gi m1 d1 bo1 n1 ic1 N1 bc1 id Wd (lq.setIfInBounds 4 true) (aq.put (some 50) v) W:=fun v=>⟨hs.1.quiet 4 50 v (by decide) hl (by decide) (by decide),⟨(by rw[gn 4 6,gn 4 0];exact hs.2.1),(by rw[gn 4 6,gn 4 5];exact hs.2.2.1),(fun _=>getD_set_eq hl),(fun _=>by rw[gn 4 3];exact hall ⟨3,.data⟩ (by simp) rfl),(by rw[gn 4 3,gn 4 2];exact hs.2.2.2.2.2)⟩⟩;clear hs hWe;have hK:=HK 4 50 rfl (by omega);generalize JJ _=K at hK⊢;clear ho hall hl HK HW hJ2 hS z1 z2;go_simp;exact hK _ _ z5 (fun _ _ h=>h) rfl (hq _)
   | 5,ho=>
    cases ho;refine wpOp_of rfl rfl ?_;have f4:_=Value.pointer (some ⟨gi,0,none⟩):=hJ2.v hall 4 50;have hq:∀v:Value,SqdX T3 gi m1 d1 bo1 n1 ic1 N1 bc1 id Wd (lq.setIfInBounds 5 true) (aq.put (some 51) v) W:=fun v=>⟨hs.1.quiet 5 51 v (by decide) hl (by decide) (by decide),⟨(by rw[gn 5 6,gn 5 0];exact hs.2.1),(fun _=>getD_set_eq hl),(fun _=>by rw[gn 5 4];exact hall ⟨4,.data⟩ (by simp) rfl),(by rw[gn 5 4,gn 5 3];exact hs.2.2.2.2.1),(by rw[gn 5 3,gn 5 2];exact hs.2.2.2.2.2)⟩⟩;have u5:lq.getD 5 false=false:=by cases e:lq.getD 5 false with | false=>rfl | true=>rw[getD_tf hl] at e;cases e
    have u6:lq.getD 6 false=false:=by cases e:lq.getD 6 false with | false=>rfl | true=>have:=hs.2.2.1 e;rw[u5] at this;cases this
    obtain⟨cc,hcc,hRR,hle⟩:=hs.1.some (i:=5) (by decide) hl;have hcc1:cc=0:=by have:=hle 0 (by decide) (by show lq.getD 6 true=false;exact getD_ft u6 (by rw[z1];decide));omega
    subst hcc1;have eW:W=Wd:=hRR;have j0:W.cell? ⟨gi,0,none⟩=some (.int .i64 id):=by rw[eW,hWe];exact hcell
    clear hRR hle hcc eW u5 u6 hold hcell hBT;clear hs hWe;have hK:=HK 5 51 rfl (by omega);generalize JJ _=K at hK⊢;clear ho hall hl HK HW hJ2 hS z1 z2;go_simp;exact hK _ _ z5 (fun _ _ h=>h) rfl (hq _)
   | 6,ho=>
    cases ho;refine wpOp_of rfl rfl ?_;have f0:_=Value.agg #[.int .i64 m1,.int .i64 d1,.slice (some ⟨gi,0,none⟩) n1 ic1,.slice bo1 N1 bc1]:=hJ2.v hall 0 46;have f5:_=Value.int .i64 id:=hJ2.v hall 5 51;have hpr:∀t,0=t+1→lq.getD ((fun t=>[6,7,8,10].getD t 0) t) false=true:=(fun t ht=>absurd ht (by omega));have RS:=hs.1.now 0 (by decide) hl hpr;have hq:∀(v:Value) (X:World),RqdX T3 gi m1 d1 bo1 n1 ic1 N1 bc1 id Wd 1 (fun t=>if t=0 then v else valC 4 (fun t=>[52,45,53,1010].getD t 0) aq t) X→SqdX T3 gi m1 d1 bo1 n1 ic1 N1 bc1 id Wd (lq.setIfInBounds 6 true) (aq.put (some 52) v) X:=fun v X hX=>⟨hs.1.link 0 (by decide) hl hpr (by decide) (by decide) (by rw[z2,hz];decide) (fun e=>absurd e (by decide)) hX,⟨(fun _=>by rw[gn 6 0];exact hall ⟨0,.data⟩ (by simp) rfl),(fun _=>by rw[gn 6 5];exact hall ⟨5,.data⟩ (by simp) rfl),(by rw[gn 6 5,gn 6 4];exact hs.2.2.2.1),(by rw[gn 6 4,gn 6 3];exact hs.2.2.2.2.1),(by rw[gn 6 3,gn 6 2];exact hs.2.2.2.2.2)⟩⟩;have eW:W=Wd:=RS;have hbW:T3≤Wd.heap.size:=by have:=z5.size;rw[eW] at this;omega
    have HC:Hid (Calls Tryz.prog 31 #[.agg #[.int .i64 m1,.int .i64 d1,.slice (some ⟨gi,0,none⟩) n1 ic1,.slice bo1 N1 bc1],.int .i64 id] W (fun r w' =>∃u b,r= .returned (.tuple #[u,.bool b])∧TqP 41 (fun y=>Wd.heap.size≤y) u w' ∧Below W.heap.size W w')):=by rw[eW];exact cutT_draw (by omega) id Wd (fun y hy=>hy) hold
    have hWs:Below W.heap.size W=Below Wd.heap.size Wd:=by rw[eW]
    have hq2:∀(v:Value) (X:World),(∃(u:Value) (b:Bool),v= .tuple #[u,.bool b]∧TqP 41 (fun y=>Wd.heap.size≤y) u X∧Below W.heap.size W X)→SqdX T3 gi m1 d1 bo1 n1 ic1 N1 bc1 id Wd (lq.setIfInBounds 6 true) (aq.put (some 52) v) X:=fun v X ⟨u,b,h1,h2,h3⟩=>hq v X ⟨u,b,h1,h2,by rw[←hWs];exact h3⟩;have hbW2:T3≤W.heap.size:=by rw[eW];exact hbW
    clear eW RS hq hbW hWs hold hcell hBT;clear hs hWe;have hK:=HK 6 52 rfl (by omega);generalize JJ _=K at hK⊢;clear ho hall hl HK HW hJ2 hS z1 z2;go_simp;refine HC.out.mono ?_;rintro r v1 ⟨u1,b1,rfl,hT,hBv⟩;exact hK _ _ (z5.trans (hBv.mono hbW2)) (fun _ _ h=>h.same) trivial (hq2 _ _ ⟨u1,b1,rfl,hT,hBv⟩)
   | 7,ho=>
    cases ho;refine wpOp_of rfl rfl ?_;have f6:True:=hJ2.v hall 6 52;have hpr:∀t,1=t+1→lq.getD ((fun t=>[6,7,8,10].getD t 0) t) false=true:=(fun t ht=>by obtain rfl:t=0:=(by omega);exact hall ⟨6,.data⟩ (by simp) rfl);have RS:=hs.1.now 1 (by decide) hl hpr;have hq:∀(v:Value) (X:World),RqdX T3 gi m1 d1 bo1 n1 ic1 N1 bc1 id Wd 2 (fun t=>if t=1 then v else valC 4 (fun t=>[52,45,53,1010].getD t 0) aq t) X→SqdX T3 gi m1 d1 bo1 n1 ic1 N1 bc1 id Wd (lq.setIfInBounds 7 true) (aq.put (some 45) v) X:=fun v X hX=>⟨hs.1.link 1 (by decide) hl hpr (by decide) (by decide) (by rw[z2,hz];decide) (fun e=>absurd e (by decide)) hX,⟨(by rw[gn 7 6,gn 7 0];exact hs.2.1),(by rw[gn 7 6,gn 7 5];exact hs.2.2.1),(by rw[gn 7 5,gn 7 4];exact hs.2.2.2.1),(by rw[gn 7 4,gn 7 3];exact hs.2.2.2.2.1),(by rw[gn 7 3,gn 7 2];exact hs.2.2.2.2.2)⟩⟩;obtain⟨u,b,ev0,hT,hB⟩:=RS;change aq.tmps.getD 52 undef= .tuple #[u,.bool b] at ev0;have hq2:∀v:Value,v= .tuple #[u,.bool b]→SqdX T3 gi m1 d1 bo1 n1 ic1 N1 bc1 id Wd (lq.setIfInBounds 7 true) (aq.put (some 45) v) W:=fun v h1=>hq v W ⟨u,b,h1,hT,hB⟩;rw[Array.getD_eq_getD_getElem?] at ev0;clear hT hB hq hold hcell hBT;clear hs hWe;have hK:=HK 7 45 rfl (by omega);generalize JJ _=K at hK⊢;clear ho hall hl HK HW hJ2 hS z1 z2;go_simp;exact hK _ _ z5 (fun _ _ h=>h) ⟨u,b,rfl⟩ (hq2 _ rfl)
   | 8,ho=>
    cases ho;refine wpOp_of rfl rfl ?_;have f7:∃(u:Value) (b:Bool),(aq.tmps.getD 45 undef)= .tuple #[u,.bool b]:=hJ2.v hall 7 45;obtain⟨u7,b7,e7⟩:=f7;have hpr:∀t,2=t+1→lq.getD ((fun t=>[6,7,8,10].getD t 0) t) false=true:=(fun t ht=>by obtain rfl:t=1:=(by omega);exact hall ⟨7,.data⟩ (by simp) rfl);have RS:=hs.1.now 2 (by decide) hl hpr;have hq:∀(v:Value) (X:World),RqdX T3 gi m1 d1 bo1 n1 ic1 N1 bc1 id Wd 3 (fun t=>if t=2 then v else valC 4 (fun t=>[52,45,53,1010].getD t 0) aq t) X→SqdX T3 gi m1 d1 bo1 n1 ic1 N1 bc1 id Wd (lq.setIfInBounds 8 true) (aq.put (some 53) v) X:=fun v X hX=>⟨hs.1.link 2 (by decide) hl hpr (by decide) (by decide) (by rw[z2,hz];decide) (fun e=>absurd e (by decide)) hX,⟨(by rw[gn 8 6,gn 8 0];exact hs.2.1),(by rw[gn 8 6,gn 8 5];exact hs.2.2.1),(by rw[gn 8 5,gn 8 4];exact hs.2.2.2.1),(by rw[gn 8 4,gn 8 3];exact hs.2.2.2.2.1),(by rw[gn 8 3,gn 8 2];exact hs.2.2.2.2.2)⟩⟩;obtain⟨u,b,ev1,hT,hB⟩:=RS;change aq.tmps.getD 45 undef= .tuple #[u,.bool b] at ev1;have hq2:∀v:Value,v=u→SqdX T3 gi m1 d1 bo1 n1 ic1 N1 bc1 id Wd (lq.setIfInBounds 8 true) (aq.put (some 53) v) W:=fun v h1=>hq v W ⟨u,h1,hT,hB⟩;rw[Array.getD_eq_getD_getElem?] at ev1;clear e7 hT hB hq hold hcell hBT;clear hs hWe;have hK:=HK 8 53 rfl (by omega);generalize JJ _=K at hK⊢;clear ho hall hl HK HW hJ2 hS z1 z2;go_simp;exact hK _ _ z5 (fun _ _ h=>h) trivial (hq2 _ rfl)
   | 9,ho=>
    cases ho;refine wpOp_of rfl rfl ?_;have f7:∃(u:Value) (b:Bool),(aq.tmps.getD 45 undef)= .tuple #[u,.bool b]:=hJ2.v hall 7 45;obtain⟨u7,b7,e7⟩:=f7;have hq:∀v:Value,SqdX T3 gi m1 d1 bo1 n1 ic1 N1 bc1 id Wd (lq.setIfInBounds 9 true) (aq.put (some 54) v) W:=fun v=>⟨hs.1.free 9 54 v (by decide) (by decide) (by decide),⟨(by rw[gn 9 6,gn 9 0];exact hs.2.1),(by rw[gn 9 6,gn 9 5];exact hs.2.2.1),(by rw[gn 9 5,gn 9 4];exact hs.2.2.2.1),(by rw[gn 9 4,gn 9 3];exact hs.2.2.2.2.1),(by rw[gn 9 3,gn 9 2];exact hs.2.2.2.2.2)⟩⟩;clear hs hWe;have hK:=HK 9 54 rfl (by omega);generalize JJ _=K at hK⊢;clear ho hall hl HK HW hJ2 hS z1 z2;go_simp;exact hK _ _ z5 (fun _ _ h=>h) trivial (hq _)
   | 10,ho=>
    cases ho;refine wpOp_of rfl rfl ?_;have f8:True:=hJ2.v hall 8 53;have hpr:∀t,3=t+1→lq.getD ((fun t=>[6,7,8,10].getD t 0) t) false=true:=(fun t ht=>by obtain rfl:t=2:=(by omega);exact hall ⟨8,.data⟩ (by simp) rfl);have RS:=hs.1.now 3 (by decide) hl hpr;have hq:∀(X:World),RqdX T3 gi m1 d1 bo1 n1 ic1 N1 bc1 id Wd 4 (valC 4 (fun t=>[52,45,53,1010].getD t 0) aq) X→SqdX T3 gi m1 d1 bo1 n1 ic1 N1 bc1 id Wd (lq.setIfInBounds 10 true) aq X:=fun X hX=>⟨hs.1.store 3 (by decide) hl hpr (by decide) (fun _ j hj hn=>match j,hj,hn with | 0,_,_=>hall ⟨0,.phase⟩ (by simp) rfl | 1,_,_=>hall ⟨1,.phase⟩ (by simp) rfl | 2,_,_=>hall ⟨2,.phase⟩ (by simp) rfl | 3,_,_=>hall ⟨3,.phase⟩ (by simp) rfl | 4,_,_=>hall ⟨4,.phase⟩ (by simp) rfl | 5,_,_=>hall ⟨5,.phase⟩ (by simp) rfl | 6,_,_=>hall ⟨6,.chain⟩ (by simp) rfl | 7,_,_=>hall ⟨7,.phase⟩ (by simp) rfl | 8,_,_=>hall ⟨8,.data⟩ (by simp) rfl | 9,hj,_=>absurd hj (by decide) | 10,_,hn=>absurd rfl hn | j+11,hj,_=>absurd hj (by omega)) hX,⟨(by rw[gn 10 6,gn 10 0];exact hs.2.1),(by rw[gn 10 6,gn 10 5];exact hs.2.2.1),(by rw[gn 10 5,gn 10 4];exact hs.2.2.2.1),(by rw[gn 10 4,gn 10 3];exact hs.2.2.2.2.1),(by rw[gn 10 3,gn 10 2];exact hs.2.2.2.2.2)⟩⟩;obtain⟨u,ev2,hT,hB⟩:=RS;change aq.tmps.getD 53 undef=u at ev2;obtain⟨m2,d2,io2,n2,ic2,bo2,N2,bc2,rfl,_⟩:=TqP.form hT;have hq2:SqdX T3 gi m1 d1 bo1 n1 ic1 N1 bc1 id Wd (lq.setIfInBounds 10 true) aq ((((W.setCell ⟨T3,0,none⟩ (.int .i64 m2)).setCell ⟨T3,1,none⟩ (.int .i64 d2)).setCell ⟨T3,2,none⟩ (.slice io2 n2 ic2)).setCell ⟨T3,3,none⟩ (.slice bo2 N2 bc2)):=hq _ ⟨W,m2,d2,io2,bo2,n2,ic2,N2,bc2,hT,hB,rfl⟩;have BR:Blk W T3 [.int .i64 m1,.int .i64 d1,.slice (some ⟨gi,0,none⟩) n1 ic1,.slice bo1 N1 bc1]:=by rw[←hWe] at hBT;exact hBT.step hB
    have y0:=BR.f 0 rfl;have y1:=BR.f 1 rfl;have y2:=BR.f 2 rfl;have y3:=BR.f 3 rfl;have x0:=BR.c 0 rfl;have x1:=BR.c 1 rfl;have x2:=BR.c 2 rfl;have x3:=BR.c 3 rfl;rw[Array.getD_eq_getD_getElem?] at ev2;clear hT hB hq BR hold hcell hBT;clear hs hWe;have hK:=HW 10 rfl;generalize JJ _=K at hK⊢;clear ho hall hl HK HW hJ2 hS z1 z2;go_simp;exact hK _ ((((z5.setCell (Nat.le_refl _) _).setCell (Nat.le_refl _) _).setCell (Nat.le_refl _) _).setCell (Nat.le_refl _) _) (fun _ _ h=>h.same) trivial hq2
   | iq+11,ho=>simp at ho
 · intro lq aq W ⟨hJ,hs⟩ hr;obtain⟨z1,z2,z3,z4,z5,z6,z7⟩:=hJ;have hl:=listed_of hr [0,1,2,3,4,5,6,7,8,10] [] (by simp) (by kernel_rfl) (by rw[z1];decide);exact hQ aq W z2 z3 (fun e he=>z4 e (by simpa using he)) (z7 10 (hl 10 (by simp)) rfl) z5 (by have hZ:=hl 10 (by simp);exact hs.1.done (by decide) hZ)
theorem wrT_node (K:Nat→QT) (x y s:Int):wrT (.node K) x y s=(⟨x,y,s,true,[]⟩:WB)::catW (fun k=>wrT (K k) (kX x (s / 2) k) (kY y (s / 2) k) (s / 2)) 4:=rfl
theorem wb_at {pre post:List WB} {q:WB} {L:List WB} (h:L=pre ++q::post):pre.length<L.length∧L.getD pre.length ⟨0,0,0,false,[]⟩=q:=by
 subst h;refine⟨by simp,?_⟩;rw[List.getD_eq_getElem?_getD,List.getElem?_append_right (Nat.le_refl _),Nat.sub_self]
 rfl
theorem map_getD (l:List Int):(List.range l.length).map (fun j=>l.getD j 0)=l:=by
 refine List.ext_getElem (by simp) fun i h1 h2=>?_;simp only[List.getElem_map,List.getElem_range];rw[List.getD_eq_getElem?_getD,List.getElem?_eq_getElem h2]
 rfl
theorem wr_back {Q:QD} {L:List WB}:∀(t:QT) (d:Nat) (x y s:Int) (pre post:List WB),dpT t≤d→rtT Q t x y s=true→L=pre ++(wrT t x y s ++post)→qrd (qdOf Q L) d pre.length x y s=some (pre.length+(wrT t x y s).length)
 | .leaf l,d,x,y,s,pre,post,_,hr,hL=>by
  have hL' :L=pre ++(⟨x,y,s,false,l⟩:WB)::post:=hL;obtain⟨h1,h2⟩:=wb_at hL';have hb:baseB (qdOf Q L) pre.length x y s=true:=by
   unfold baseB qdOf;refine decide_eq_true ⟨h1,?_,?_,?_⟩<;>simp only[h2]
  have hT:(qdOf Q L).T pre.length=false:=by
   show(L.getD pre.length ⟨0,0,0,false,[]⟩).sp=false;rw[h2]
  have hl:leafB (qdOf Q L) pre.length x y s=true:=by
   unfold leafB;refine decide_eq_true ?_;have e1:blL (qdOf Q L) pre.length=l:=by
    show(List.range (L.getD pre.length ⟨0,0,0,false,[]⟩).l.length).map (fun j=>(L.getD pre.length ⟨0,0,0,false,[]⟩).l.getD j 0)=l;rw[h2];exact map_getD l
   rw[e1];exact of_decide_eq_true hr
  cases d with
  | zero=>unfold qrd;rw[if_pos ⟨hb,hT,hl⟩];rfl
  | succ d=>unfold qrd;rw[if_pos hb,if_neg (by rw[hT];decide),if_pos hl];rfl
 | .node K,0,x,y,s,pre,post,hd,_,_=>by
  unfold dpT at hd
  omega
 | .node K,d+1,x,y,s,pre,post,hd,hr,hL=>by
  have hL' :L=pre ++(⟨x,y,s,true,[]⟩:WB)::(catW (fun k=>wrT (K k) (kX x (s / 2) k) (kY y (s / 2) k) (s / 2)) 4 ++post):=hL;obtain⟨h1,h2⟩:=wb_at hL';have hb:baseB (qdOf Q L) pre.length x y s=true:=by
   unfold baseB qdOf;refine decide_eq_true ⟨h1,?_,?_,?_⟩<;>simp only[h2]
  have hT:(qdOf Q L).T pre.length=true:=by
   show(L.getD pre.length ⟨0,0,0,false,[]⟩).sp=true;rw[h2]
  have hl:(qdOf Q L).L pre.length=0:=by
   show(L.getD pre.length ⟨0,0,0,false,[]⟩).l.length=0;rw[h2]
   rfl
  have hk:∀k,k<4→dpT (K k)≤d:=fun k hk=>by
   unfold dpT at hd
   rcases(show k=0∨k=1∨k=2∨k=3 by omega) with e | e | e | e<;>subst e<;>omega
  have hc:∀c,c≤4→kp (fun a x y=>qrd (qdOf Q L) d a x y (s / 2)) (pre.length+1) x y (s / 2) c=some (pre.length+1+(catW (fun k=>wrT (K k) (kX x (s / 2) k) (kY y (s / 2) k) (s / 2)) c).length):=by
   intro c
   induction c with
   | zero=>intro _;rfl
   | succ c ih=>
    intro hc4;have e1:=ih (by omega);have hp:∃p2,catW (fun k=>wrT (K k) (kX x (s / 2) k) (kY y (s / 2) k) (s / 2)) 4=catW (fun k=>wrT (K k) (kX x (s / 2) k) (kY y (s / 2) k) (s / 2)) c ++(wrT (K c) (kX x (s / 2) c) (kY y (s / 2) c) (s / 2) ++p2):=by
     rcases(show c=0∨c=1∨c=2∨c=3 by omega) with e | e | e | e<;>subst e<;>simp only[catW,List.nil_append,List.append_assoc]<;>first | exact⟨_,rfl⟩ | exact⟨[],by simp⟩
    obtain⟨p2,hp2⟩:=hp;have e2:=wr_back (L:=L) (K c) d (kX x (s / 2) c) (kY y (s / 2) c) (s / 2) (pre ++(⟨x,y,s,true,[]⟩:WB)::catW (fun k=>wrT (K k) (kX x (s / 2) k) (kY y (s / 2) k) (s / 2)) c) (p2 ++post) (hk c (by omega)) ((List.all_eq_true.1 hr) c (List.mem_range.2 (by omega))) (by rw[hL',hp2];simp);show(kp _ _ _ _ _ c).bind _=_;rw[e1];show qrd (qdOf Q L) d _ _ _ _=_;rw[List.length_append,List.length_cons] at e2;rw[show pre.length+1+(catW (fun k=>wrT (K k) (kX x (s / 2) k) (kY y (s / 2) k) (s / 2)) c).length=pre.length+((catW (fun k=>wrT (K k) (kX x (s / 2) k) (kY y (s / 2) k) (s / 2)) c).length+1) by omega,e2]
    congr 1
    rw[catW,List.length_append]
    omega
  unfold qrd;rw[if_pos hb,if_pos hT,if_pos hl,hc 4 (Nat.le_refl 4)]
  congr 1
  rw[wrT_node,List.length_cons]
  omega
theorem miss_kid {Q:QD} {x y s:Int} (hs:0≤s) {k:Nat} (hk:k<4) {i:Nat} (h:hitQ Q x y s i=false):hitQ Q (kX x (s / 2) k) (kY y (s / 2) k) (s / 2) i=false:=by
 cases e:hitQ Q (kX x (s / 2) k) (kY y (s / 2) k) (s / 2) i with
 | false=>rfl
 | true=>rw[hit_kid hs hk e] at h;cases h
theorem rt_miss {Q:QD} {id:Int} {sg:Int×Int×Int×Int} {j:Nat} (hj:j≤Q.m):∀(t:QT) (x y s:Int),0≤s→hitQ (insQ Q j id sg) x y s j=false→rtT Q t x y s=true→rtT (insQ Q j id sg) t x y s=true
 | .leaf l,x,y,s,_,hm,hr=>by
  obtain⟨A,B,e1,e2,_,_⟩:=canL_ins hj id sg x y s;have hn:¬newH sg x y s=true:=by
   unfold hitQ at hm;rw[(insQ_at Q j id sg).2] at hm;show ¬hitB _ _ _ _ _ _ _ _=true;rw[hm]
   decide
  rw[if_neg hn,List.nil_append,←e1] at e2;have h1:l=canL Q x y s:=of_decide_eq_true hr;exact decide_eq_true (h1.trans e2.symm)
 | .node K,x,y,s,hs,hm,hr=>List.all_eq_true.2 fun k hk=>rt_miss hj (K k) _ _ _ (by omega) (miss_kid hs (List.mem_range.1 hk) hm) ((List.all_eq_true.1 hr) k hk)
theorem putT_rt {Q:QD} {id:Int} {sg:Int×Int×Int×Int} {j:Nat} (hj:j≤Q.m) (mx:Int):∀(t:QT) (D x y s:Int),0≤s→rtT Q t x y s=true→rtT (insQ Q j id sg) (putT (insQ Q j id sg) j mx t D x y s) x y s=true
 | .leaf l,D,x,y,s,hs,hr=>by
  cases hh:hitQ (insQ Q j id sg) x y s j with
  | false=>rw[putT_miss hh];exact rt_miss hj _ _ _ _ hs hh hr
  | true=>
   unfold putT;rw[if_pos hh]
   split
   · exact decide_eq_true rfl
   · exact List.all_eq_true.2 fun k _=>decide_eq_true rfl
 | .node K,D,x,y,s,hs,hr=>by
  cases hh:hitQ (insQ Q j id sg) x y s j with
  | false=>rw[putT_miss hh];exact rt_miss hj _ _ _ _ hs hh hr
  | true=>
   rw[putT_hit hh];exact List.all_eq_true.2 fun k hk=>putT_rt hj mx (K k) _ _ _ _ (by omega) ((List.all_eq_true.1 hr) k hk)
theorem its_ins {Q:QD} {id:Int} {sg:Int×Int×Int×Int} {j:Nat} (h:itsB Q=true) (hm:Q.m<40) (hid:1≤id∧id≤1000) (hsg:segOk sg.1 sg.2.1 sg.2.2.1 sg.2.2.2=true) (hp:plcJ Q id j):itsB (insQ Q j id sg)=true:=by
 have h0:=(of_decide_eq_true h).2;refine decide_eq_true ⟨by show Q.m+1≤40;omega,fun i hi=>?_⟩;have hi1:i<Q.m+1:=hi;have hr:riseI (insQ Q j id sg):=insQ_rise (rise_of h) hp;have hri:0<i→(insQ Q j id sg).I (i-1)<(insQ Q j id sg).I i:=fun h1=>hr i h1 hi;refine decide_eq_true ?_
 rcases Nat.lt_trichotomy i j with e | e | e
 · have h2:=of_decide_eq_true (h0 i (by have:=hp.1;omega));refine⟨?_,?_,hri⟩
   · rw[(insQ_lt e).1];exact h2.1
   · rw[(insQ_lt e).2];exact h2.2.1
 · subst e;refine⟨?_,?_,hri⟩
   · rw[(insQ_at Q i id sg).1];exact hid
   · rw[(insQ_at Q i id sg).2];exact hsg
 · obtain⟨k,rfl⟩:∃k,i=k+1:=⟨i-1,by omega⟩;have h2:=of_decide_eq_true (h0 k (by omega));refine⟨?_,?_,hri⟩
   · rw[(insQ_gt (by omega)).1];exact h2.1
   · rw[(insQ_gt (by omega)).2];exact h2.2.1
theorem ok_of {Q:QD} {m d:Int} {t:QT} (hm:1≤m∧m≤8) (hd:0≤d∧d≤8) (hi:itsB Q=true) (hn:(wrT t (-1048576) (-1048576) 2097152).length≤2000) (hdp:dpT t≤d.toNat) (hr:rtT Q t (-1048576) (-1048576) 2097152=true):qOk (qdOf Q (wrT t (-1048576) (-1048576) 2097152)) m d=true:=by
 have h1:=wr_back (Q:=Q) (L:=wrT t (-1048576) (-1048576) 2097152) t d.toNat (-1048576) (-1048576) 2097152 [] [] hdp hr (by simp);rw[show(([]:List WB).length)=0 from rfl,Nat.zero_add] at h1;unfold qOk limB;rw[Bool.and_eq_true,Bool.and_eq_true,Bool.and_eq_true];exact⟨⟨⟨by simp[hm,hd],hi⟩,decide_eq_true hn⟩,decide_eq_true h1⟩
theorem put_ok {Q:QD} {m d id:Int} {sg:Int×Int×Int×Int} {j:Nat} (h:putB Q m d id sg=true) (hp:plcJ Q id j) (hn:(putL Q m d id sg j).length≤2000):qOk (qdOf (insQ Q j id sg) (putL Q m d id sg j)) m d=true:=by
 unfold putB at h;rw[Bool.and_eq_true] at h;obtain⟨hid,hsg,hm40,_⟩:=of_decide_eq_true h.2;obtain⟨hm,hd,hi,hr⟩:=qOk_all h.1;have h1:(d.toNat:Int)=d:=by omega
 have h2:=putT_dp (insQ Q j id sg) j m (trQ Q d.toNat 0 (-1048576) (-1048576) 2097152) d.toNat (-1048576) (-1048576) 2097152 (dp_le _ _ (dp_tr Q d.toNat 0 (-1048576) (-1048576) 2097152));rw[h1] at h2;exact ok_of hm hd (its_ins hi hm40 hid hsg hp) hn h2 (putT_rt hp.1 m _ _ _ _ _ (by omega) hr)
theorem del_ins {Q:QD} {id:Int} {sg:Int×Int×Int×Int} {j:Nat} {L:List WB} (i:Nat):(delQ (qdOf (insQ Q j id sg) L) j).I i=Q.I i∧(delQ (qdOf (insQ Q j id sg) L) j).S i=Q.S i:=by
 rcases Nat.lt_or_ge i j with e | e
 · exact⟨(delQ_lt e).1.trans (insQ_lt (Q:=Q) (id:=id) (sg:=sg) e).1,(delQ_lt e).2.trans (insQ_lt (Q:=Q) (id:=id) (sg:=sg) e).2⟩
 · exact⟨(delQ_ge e).1.trans (insQ_gt (Q:=Q) (id:=id) (sg:=sg) e).1,(delQ_ge e).2.trans (insQ_gt (Q:=Q) (id:=id) (sg:=sg) e).2⟩
def AnE (B0:Nat) (Z:List Value) (XP:Value→World→Prop) (TG:Value→Nat→Nat→World→Prop) (e c m x a s de dc dm dx da:Nat) (lz:Array Bool) (az:Act) (W:World):Prop:=
 (lz.getD a false=true→∃g,az.tmps.getD da undef= .pointer (some ⟨g,0,none⟩)∧B0≤g∧g<W.heap.size∧(lz.getD s false=false→Blk W g Z))∧
 (lz.getD c false=true→lz.getD s false=false→∃(u:Value) (okn:Bool) (lo hi:Nat),az.tmps.getD dc undef= .tuple #[u,.bool okn]∧TG u lo hi W∧B0≤lo∧hi≤W.heap.size∧(lz.getD a false=true→∀g,az.tmps.getD da undef= .pointer (some ⟨g,0,none⟩)→g<lo∨hi≤g))∧
 (lz.getD m false=true→lz.getD c false=true∧az.tmps.getD dm undef=az.tmps.getD dc undef)∧
 (lz.getD x false=true→lz.getD c false=true∧∃(u:Value) (okn:Bool),az.tmps.getD dc undef= .tuple #[u,.bool okn]∧az.tmps.getD dx undef=u)∧
 (lz.getD s false=true→lz.getD a false=true∧lz.getD c false=true∧∃g vs lo hi,az.tmps.getD da undef= .pointer (some ⟨g,0,none⟩)∧B0≤g∧Blk W g vs∧TG (.agg vs.toArray) lo hi W∧B0≤lo∧hi≤W.heap.size∧(g<lo∨hi≤g))∧
 (lz.getD e false=true→lz.getD s false=false→XP (az.tmps.getD de undef) W)
theorem AnE.start {B0:Nat} {Z:List Value} {XP:Value→World→Prop} {TG:Value→Nat→Nat→World→Prop} {e c m x a s de dc dm dx da n:Nat} {az:Act} {W:World}:AnE B0 Z XP TG e c m x a s de dc dm dx da (Array.replicate n false) az W:=
 ⟨fun h=>absurd h (by rw[replD];decide),fun h=>absurd h (by rw[replD];decide),fun h=>absurd h (by rw[replD];decide),fun h=>absurd h (by rw[replD];decide),fun h=>absurd h (by rw[replD];decide),fun h=>absurd h (by rw[replD];decide)⟩
theorem AnE.step {B0:Nat} {Z:List Value} {XP:Value→World→Prop} {TG:Value→Nat→Nat→World→Prop} {e c m x a s de dc dm dx da:Nat} {lz:Array Bool} {az:Act} {W W2:World} (hT:TgK XP TG) (h:AnE B0 Z XP TG e c m x a s de dc dm dx da lz az W) (hB:Below W.heap.size W W2):AnE B0 Z XP TG e c m x a s de dc dm dx da lz az W2:=by
 obtain⟨h1,h2,h3,h4,h5,h6⟩:=h;have hsz:=hB.size;refine⟨fun hl=>?_,fun hl hs=>?_,h3,h4,fun hl=>?_,fun hl hs=>hT.1 _ _ _ (h6 hl hs) hB⟩
 · obtain⟨g,k1,k2,k3,k4⟩:=h1 hl;exact⟨g,k1,k2,by omega,fun hs=>(k4 hs).step hB⟩
 · obtain⟨u,okn,lo,hi,k1,k2,k3,k4,k5⟩:=h2 hl hs;exact⟨u,okn,lo,hi,k1,hT.2 _ _ _ _ _ k2 hsz (fun b _ hb=>hB.block b (by omega)),k3,by omega,k5⟩
 · obtain⟨q1,q2,g,vs,lo,hi,k1,k2,k3,k4,k5,k6,k7⟩:=h5 hl;exact⟨q1,q2,g,vs,lo,hi,k1,k2,k3.step hB,hT.2 _ _ _ _ _ k4 hsz (fun b _ hb=>hB.block b (by omega)),k5,by omega,k7⟩
theorem AnE.quiet {B0:Nat} {Z:List Value} {XP:Value→World→Prop} {TG:Value→Nat→Nat→World→Prop} {e c m x a s de dc dm dx da:Nat} {lz:Array Bool} {az:Act} {W:World} (h:AnE B0 Z XP TG e c m x a s de dc dm dx da lz az W) (i d:Nat) (v:Value) (hi:i≠e∧i≠c∧i≠m∧i≠x∧i≠a∧i≠s) (hd:d≠de∧d≠dc∧d≠dm∧d≠dx∧d≠da):AnE B0 Z XP TG e c m x a s de dc dm dx da (lz.setIfInBounds i true) (az.put (some d) v) W:=by
 unfold AnE;rw[getD_set_neq hi.1,getD_set_neq hi.2.1,getD_set_neq hi.2.2.1,getD_set_neq hi.2.2.2.1,getD_set_neq hi.2.2.2.2.1,getD_set_neq hi.2.2.2.2.2,put_getD_ne hd.1,put_getD_ne hd.2.1,put_getD_ne hd.2.2.1,put_getD_ne hd.2.2.2.1,put_getD_ne hd.2.2.2.2];exact h
theorem AnE.ask {B0:Nat} {Z:List Value} {XP:Value→World→Prop} {TG:Value→Nat→Nat→World→Prop} {e c m x a s de dc dm dx da:Nat} {lz:Array Bool} {az:Act} {W:World} (h:AnE B0 Z XP TG e c m x a s de dc dm dx da lz az W) (v:Value) (hD:AnD e c m x a s de dc dm dx da) (hz:de<az.tmps.size) (hv:XP v W):AnE B0 Z XP TG e c m x a s de dc dm dx da (lz.setIfInBounds e true) (az.put (some de) v) W:=by
 obtain⟨hne,hde⟩:=hD;obtain⟨h1,h2,h3,h4,h5,h6⟩:=h;unfold AnE;rw[getD_set_neq (i:=e) (j:=c) (by omega),getD_set_neq (i:=e) (j:=m) (by omega),getD_set_neq (i:=e) (j:=x) (by omega),getD_set_neq (i:=e) (j:=a) (by omega),getD_set_neq (i:=e) (j:=s) (by omega),put_getD_ne (d:=de) (e:=dc) (by omega),put_getD_ne (d:=de) (e:=dm) (by omega),put_getD_ne (d:=de) (e:=dx) (by omega),put_getD_ne (d:=de) (e:=da) (by omega),put_getD_same hz];exact⟨h1,h2,h3,h4,h5,fun _ _=>hv⟩
theorem AnE.call {B0:Nat} {Z:List Value} {XP:Value→World→Prop} {TG:Value→Nat→Nat→World→Prop} {e c m x a s de dc dm dx da:Nat} {lz:Array Bool} {az:Act} {W W2:World} (hT:TgK XP TG) (h:AnE B0 Z XP TG e c m x a s de dc dm dx da lz az W) (hD:AnD e c m x a s de dc dm dx da) (hz:dc<az.tmps.size) (hl:lz.getD c true=false) (hB:Below W.heap.size W W2) {u:Value} (okn:Bool) {lo hi:Nat} (hu:TG u lo hi W2) (hlo:W.heap.size≤lo) (hhi:hi≤W2.heap.size) (hB0:B0≤W.heap.size):AnE B0 Z XP TG e c m x a s de dc dm dx da (lz.setIfInBounds c true) (az.put (some dc) (.tuple #[u,.bool okn])) W2:=by
 obtain⟨hne,hde⟩:=hD;have hlc:lz.getD c false=false:=by
  rcases Nat.lt_or_ge c lz.size with h' | h'
  · simpa [Array.getD,h'] using hl
  · simp[Array.getD,Nat.not_lt.2 h'] at hl
 obtain⟨h1,h2,h3,h4,h5,h6⟩:=h.step hT hB;have h1o:=h.1;unfold AnE;rw[getD_set_neq (i:=c) (j:=e) (by omega),getD_set_neq (i:=c) (j:=m) (by omega),getD_set_neq (i:=c) (j:=x) (by omega),getD_set_neq (i:=c) (j:=a) (by omega),getD_set_neq (i:=c) (j:=s) (by omega),put_getD_ne (d:=dc) (e:=de) (by omega),put_getD_ne (d:=dc) (e:=dm) (by omega),put_getD_ne (d:=dc) (e:=dx) (by omega),put_getD_ne (d:=dc) (e:=da) (by omega),put_getD_same hz];refine⟨h1,fun _ _=>⟨u,okn,lo,hi,rfl,hu,by omega,hhi,fun ha g hg=>?_⟩,fun hm=>?_,fun hx=>?_,fun hs=>?_,h6⟩
 · obtain⟨g2,k1,_,k3,_⟩:=h1o ha;rw[k1] at hg;cases hg;exact .inl (by omega)
 · have:=(h3 hm).1;rw[hlc] at this;cases this
 · have:=(h4 hx).1;rw[hlc] at this;cases this
 · have:=(h5 hs).2.1;rw[hlc] at this;cases this
theorem AnE.move {B0:Nat} {Z:List Value} {XP:Value→World→Prop} {TG:Value→Nat→Nat→World→Prop} {e c m x a s de dc dm dx da:Nat} {lz:Array Bool} {az:Act} {W:World} (h:AnE B0 Z XP TG e c m x a s de dc dm dx da lz az W) (hD:AnD e c m x a s de dc dm dx da) (hz:dm<az.tmps.size) (hc:lz.getD c false=true) {v:Value} (hv:v=az.tmps.getD dc undef):AnE B0 Z XP TG e c m x a s de dc dm dx da (lz.setIfInBounds m true) (az.put (some dm) v) W:=by
 obtain⟨hne,hde⟩:=hD;obtain⟨h1,h2,h3,h4,h5,h6⟩:=h;unfold AnE;rw[getD_set_neq (i:=m) (j:=e) (by omega),getD_set_neq (i:=m) (j:=c) (by omega),getD_set_neq (i:=m) (j:=x) (by omega),getD_set_neq (i:=m) (j:=a) (by omega),getD_set_neq (i:=m) (j:=s) (by omega),put_getD_ne (d:=dm) (e:=de) (by omega),put_getD_ne (d:=dm) (e:=dc) (by omega),put_getD_ne (d:=dm) (e:=dx) (by omega),put_getD_ne (d:=dm) (e:=da) (by omega),put_getD_same hz];exact⟨h1,h2,fun _=>⟨hc,hv⟩,h4,h5,h6⟩
theorem AnE.take {B0:Nat} {Z:List Value} {XP:Value→World→Prop} {TG:Value→Nat→Nat→World→Prop} {e c m x a s de dc dm dx da:Nat} {lz:Array Bool} {az:Act} {W:World} (h:AnE B0 Z XP TG e c m x a s de dc dm dx da lz az W) (hD:AnD e c m x a s de dc dm dx da) (hz:dx<az.tmps.size) (hm:lz.getD m false=true) {v:Value} {okn:Bool} (hv:az.tmps.getD dm undef= .tuple #[v,.bool okn]):AnE B0 Z XP TG e c m x a s de dc dm dx da (lz.setIfInBounds x true) (az.put (some dx) v) W:=by
 obtain⟨hne,hde⟩:=hD;obtain⟨h1,h2,h3,h4,h5,h6⟩:=h;have hcm:=h3 hm;unfold AnE;rw[getD_set_neq (i:=x) (j:=e) (by omega),getD_set_neq (i:=x) (j:=c) (by omega),getD_set_neq (i:=x) (j:=m) (by omega),getD_set_neq (i:=x) (j:=a) (by omega),getD_set_neq (i:=x) (j:=s) (by omega),put_getD_ne (d:=dx) (e:=de) (by omega),put_getD_ne (d:=dx) (e:=dc) (by omega),put_getD_ne (d:=dx) (e:=dm) (by omega),put_getD_ne (d:=dx) (e:=da) (by omega),put_getD_same hz];exact⟨h1,h2,h3,fun _=>⟨hcm.1,v,okn,hcm.2.symm.trans hv,rfl⟩,h5,h6⟩
theorem AnE.lay {B0:Nat} {Z:List Value} {XP:Value→World→Prop} {TG:Value→Nat→Nat→World→Prop} {e c m x a s de dc dm dx da:Nat} {lz:Array Bool} {az:Act} {W:World} (hT:TgK XP TG) (h:AnE B0 Z XP TG e c m x a s de dc dm dx da lz az W) (hD:AnD e c m x a s de dc dm dx da) (hz:da<az.tmps.size) (hl:lz.getD a true=false) (hB0:B0≤W.heap.size) (T:TypeId):AnE B0 Z XP TG e c m x a s de dc dm dx da (lz.setIfInBounds a true) (az.put (some da) (.pointer (some ⟨W.heap.size,0,none⟩))) (W.alloc (.cells Z.toArray T)):=by
 obtain⟨hne,hde⟩:=hD;have hla:lz.getD a false=false:=by
  rcases Nat.lt_or_ge a lz.size with h' | h'
  · simpa [Array.getD,h'] using hl
  · simp[Array.getD,Nat.not_lt.2 h'] at hl
 have h2o:=h.2.1;obtain⟨h1,h2,h3,h4,h5,h6⟩:=h.step hT ((Below.refl _ W).alloc (Nat.le_refl _) (.cells Z.toArray T));unfold AnE;rw[getD_set_neq (i:=a) (j:=e) (by omega),getD_set_neq (i:=a) (j:=c) (by omega),getD_set_neq (i:=a) (j:=m) (by omega),getD_set_neq (i:=a) (j:=x) (by omega),getD_set_neq (i:=a) (j:=s) (by omega),put_getD_ne (d:=da) (e:=de) (by omega),put_getD_ne (d:=da) (e:=dc) (by omega),put_getD_ne (d:=da) (e:=dm) (by omega),put_getD_ne (d:=da) (e:=dx) (by omega),put_getD_same hz];refine⟨fun _=>⟨W.heap.size,rfl,hB0,by simp,fun _=>Blk.new W Z T rfl⟩,fun hc hs=>?_,h3,h4,fun hs=>?_,h6⟩
 · obtain⟨u,okn,lo,hi,k1,k2,k3,k4,_⟩:=h2o hc hs;refine⟨u,okn,lo,hi,k1,hT.2 _ _ _ _ _ k2 (by simp) (fun b _ hb=>((Below.refl W.heap.size W).alloc (Nat.le_refl _) (.cells Z.toArray T)).block b (by omega)),k3,by simp;omega,fun _ g hg=>?_⟩;cases hg;exact .inr k4
 · have:=(h5 hs).1;rw[hla] at this;cases this
theorem AnE.store {B0:Nat} {Z:List Value} {XP:Value→World→Prop} {TG:Value→Nat→Nat→World→Prop} {e c m x a s de dc dm dx da:Nat} {lz:Array Bool} {az:Act} {W W2:World} (hT:TgK XP TG) (h:AnE B0 Z XP TG e c m x a s de dc dm dx da lz az W) (hD:AnD e c m x a s de dc dm dx da) (hl:lz.getD s true=false) (ha:lz.getD a false=true) (hx:lz.getD x false=true) {g:Nat} {vs:List Value} (hg:az.tmps.getD da undef= .pointer (some ⟨g,0,none⟩)) (hv:az.tmps.getD dx undef= .agg vs.toArray) (hs:W2.heap.size=W.heap.size) (hne:∀b,b≠g→W2.heap[b]? =W.heap[b]?) (hb:Blk W2 g vs):AnE B0 Z XP TG e c m x a s de dc dm dx da (lz.setIfInBounds s true) az W2:=by
 obtain⟨hnd,hde⟩:=hD;have hls:lz.getD s false=false:=by
  rcases Nat.lt_or_ge s lz.size with h' | h'
  · simpa [Array.getD,h'] using hl
  · simp[Array.getD,Nat.not_lt.2 h'] at hl
 obtain⟨h1,h2,h3,h4,h5,h6⟩:=h;obtain⟨hc,u,okn,e1,e2⟩:=h4 hx;obtain⟨u',okn',lo,hi,k1,k2,k3,k4,k5⟩:=h2 hc hls;rw[e1] at k1;have e3:u=u' :=by injection k1 with k1;simp at k1;exact k1.1
 subst e3;rw[←e2,hv] at k2;obtain⟨g2,p1,p2,p3,_⟩:=h1 ha;rw[hg] at p1;cases p1;have hsep:=k5 ha g hg;unfold AnE;rw[getD_set_neq (i:=s) (j:=e) (by omega),getD_set_neq (i:=s) (j:=c) (by omega),getD_set_neq (i:=s) (j:=m) (by omega),getD_set_neq (i:=s) (j:=x) (by omega),getD_set_neq (i:=s) (j:=a) (by omega),getD_set_eq hl];refine⟨fun _=>⟨g,hg,p2,by omega,fun e=>(by cases e)⟩,fun _ e=>(by cases e),h3,h4,fun _=>⟨ha,hc,g,vs,lo,hi,hg,p2,hb,hT.2 _ _ _ _ _ k2 (by omega) (fun b h1 h2=>hne b (by omega)),k3,by omega,hsep⟩,fun _ e=>(by cases e)⟩
theorem AnE.laid {B0:Nat} {Z:List Value} {XP:Value→World→Prop} {TG:Value→Nat→Nat→World→Prop} {e c m x a s de dc dm dx da:Nat} {lz:Array Bool} {az:Act} {W:World} (h:AnE B0 Z XP TG e c m x a s de dc dm dx da lz az W) (ha:lz.getD a false=true) (hl:lz.getD s true=false):∃g,az.tmps.getD da undef= .pointer (some ⟨g,0,none⟩)∧B0≤g∧Blk W g Z:=by
 have hls:lz.getD s false=false:=by
  rcases Nat.lt_or_ge s lz.size with h' | h'
  · simpa [Array.getD,h'] using hl
  · simp[Array.getD,Nat.not_lt.2 h'] at hl
 obtain⟨g,k1,k2,_,k4⟩:=h.1 ha;exact⟨g,k1,k2,k4 hls⟩
theorem AnE.taken {B0:Nat} {Z:List Value} {XP:Value→World→Prop} {TG:Value→Nat→Nat→World→Prop} {e c m x a s de dc dm dx da:Nat} {lz:Array Bool} {az:Act} {W:World} (h:AnE B0 Z XP TG e c m x a s de dc dm dx da lz az W) (hx:lz.getD x false=true) (hl:lz.getD s true=false):∃u lo hi,az.tmps.getD dx undef=u∧TG u lo hi W:=by
 have hls:lz.getD s false=false:=by
  rcases Nat.lt_or_ge s lz.size with h' | h'
  · simpa [Array.getD,h'] using hl
  · simp[Array.getD,Nat.not_lt.2 h'] at hl
 obtain⟨hc,u,okn,e1,e2⟩:=h.2.2.2.1 hx;obtain⟨u',okn',lo,hi,k1,k2,_⟩:=h.2.1 hc hls;rw[e1] at k1;have e3:u=u' :=by injection k1 with k1;simp at k1;exact k1.1
 subst e3;exact⟨u,lo,hi,e2,k2⟩
theorem AnE.done {B0:Nat} {Z:List Value} {XP:Value→World→Prop} {TG:Value→Nat→Nat→World→Prop} {e c m x a s de dc dm dx da:Nat} {lz:Array Bool} {az:Act} {W:World} (h:AnE B0 Z XP TG e c m x a s de dc dm dx da lz az W) (hs:lz.getD s false=true):∃g vs lo hi,az.tmps.getD da undef= .pointer (some ⟨g,0,none⟩)∧B0≤g∧Blk W g vs∧TG (.agg vs.toArray) lo hi W∧B0≤lo∧hi≤W.heap.size∧(g<lo∨hi≤g):=by
 obtain⟨_,_,h⟩:=h.2.2.2.2.1 hs;exact h
theorem AnE.stepK {B0:Nat} {Z:List Value} {XP:Value→World→Prop} {TG:Value→Nat→Nat→World→Prop} {e c m x a s de dc dm dx da:Nat} {lz:Array Bool} {az:Act} {W W2:World} (hT:TgK XP TG) (hX:∀v,XP v W→XP v W2) (h:AnE B0 Z XP TG e c m x a s de dc dm dx da lz az W) (hsz:W.heap.size≤W2.heap.size) (hk:∀b,B0≤b→b<W.heap.size→W2.heap[b]? =W.heap[b]?):AnE B0 Z XP TG e c m x a s de dc dm dx da lz az W2:=by
 obtain⟨h1,h2,h3,h4,h5,h6⟩:=h;have hB:∀g vs,B0≤g→Blk W g vs→Blk W2 g vs:=fun g vs hg hb=>⟨Nat.lt_of_lt_of_le hb.lt hsz,fun i _ hi=>⟨(World.cell?_of_block (w:=W) (a:=⟨g,i,none⟩) (hk g hg hb.lt)).trans (hb.c i hi),(World.frozen?_of_block (w:=W) (a:=⟨g,i,none⟩) (hk g hg hb.lt)).trans (hb.f i hi)⟩⟩;refine⟨fun hl=>?_,fun hl hs=>?_,h3,h4,fun hl=>?_,fun hl hs=>hX _ (h6 hl hs)⟩
 · obtain⟨g,k1,k2,k3,k4⟩:=h1 hl;exact⟨g,k1,k2,by omega,fun hs=>hB g _ k2 (k4 hs)⟩
 · obtain⟨u,okn,lo,hi,k1,k2,k3,k4,k5⟩:=h2 hl hs;exact⟨u,okn,lo,hi,k1,hT.2 _ _ _ _ _ k2 hsz (fun b hb1 hb=>hk b (by omega) (by omega)),k3,by omega,k5⟩
 · obtain⟨q1,q2,g,vs,lo,hi,k1,k2,k3,k4,k5,k6,k7⟩:=h5 hl;exact⟨q1,q2,g,vs,lo,hi,k1,k2,hB g _ k2 k3,hT.2 _ _ _ _ _ k4 hsz (fun b hb1 hb=>hk b (by omega) (by omega)),k5,by omega,k7⟩
def XqF (_v:Value) (_W:World):Prop:=True
def TgF (u:Value) (lo hi:Nat) (W:World):Prop:=TqP 41 (fun b=>lo≤b∧b<hi) u W
theorem tgF_keep:TgK XqF TgF:=⟨fun _ _ _ _ _=>trivial,fun _ _ _ _ _ h hs hk=>TqP.keep h hs (fun b hb _=>hk b hb.1 hb.2)⟩
structure PqF (g:Nat) (ao:Option Addr) (n cap:Nat) (cs:List Int) (wz:World) (T3 P0:Nat) (OK:Nat→Prop) (m1 d1:Int) (io1 bo1:Option Addr) (n1 ic1 N1 bc1:Nat) (B4:Nat) (W:World):Prop where
 rdr:Rdr W g ao n cap cs
 kep:Kept g wz W
 tree:Blk W T3 [.int .i64 m1,.int .i64 d1,.slice io1 n1 ic1,.slice bo1 N1 bc1]
 res:Blk W P0 [.int .i64 0,.int .i64 0,.slice none 0 0,.slice none 0 0]
 old:TqP 41 (fun b=>OK b∧b<B4) (.agg #[.int .i64 m1,.int .i64 d1,.slice io1 n1 ic1,.slice bo1 N1 bc1]) W
 size:B4≤W.heap.size
 apart:T3≠g∧P0≠g∧¬OK g
theorem PqF.step {g:Nat} {ao:Option Addr} {n cap:Nat} {cs:List Int} {wz:World} {T3 P0:Nat} {OK:Nat→Prop} {m1 d1:Int} {io1 bo1:Option Addr} {n1 ic1 N1 bc1:Nat} {B4:Nat} {W W2:World} (h:PqF g ao n cap cs wz T3 P0 OK m1 d1 io1 bo1 n1 ic1 N1 bc1 B4 W) (hB:Below W.heap.size W W2):PqF g ao n cap cs wz T3 P0 OK m1 d1 io1 bo1 n1 ic1 N1 bc1 B4 W2:=
 ⟨h.rdr.step hB,h.kep.trans (Kept.of hB),h.tree.step hB,h.res.step hB,h.old.keep hB.size (fun b _ hl=>hB.block b hl),Nat.le_trans h.size hB.size,h.apart⟩
theorem PqF.kept {g:Nat} {ao:Option Addr} {n cap:Nat} {cs:List Int} {wz:World} {T3 P0:Nat} {OK:Nat→Prop} {m1 d1:Int} {io1 bo1:Option Addr} {n1 ic1 N1 bc1:Nat} {B4:Nat} {W W2:World} (h:PqF g ao n cap cs wz T3 P0 OK m1 d1 io1 bo1 n1 ic1 N1 bc1 B4 W) (_hg:g<B4) (R:Rdr W2 g ao n cap cs) (K:Kept g W W2):PqF g ao n cap cs wz T3 P0 OK m1 d1 io1 bo1 n1 ic1 N1 bc1 B4 W2:=
 ⟨R,h.kep.trans K,h.tree.kept K h.apart.1,h.res.kept K h.apart.2.1,h.old.kept K (fun e=>h.apart.2.2 e.1),Nat.le_trans h.size K.size,h.apart⟩
theorem PqF.set4 {g:Nat} {ao:Option Addr} {n cap:Nat} {cs:List Int} {wz:World} {T3 P0:Nat} {OK:Nat→Prop} {m1 d1:Int} {io1 bo1:Option Addr} {n1 ic1 N1 bc1:Nat} {B4:Nat} {W:World} {gz:Nat} (h:PqF g ao n cap cs wz T3 P0 OK m1 d1 io1 bo1 n1 ic1 N1 bc1 B4 W) (hg:g<B4) (hB:T3<B4∧P0<B4∧wz.heap.size≤B4) (hz:B4≤gz) (v0 v1 v2 v3:Value):PqF g ao n cap cs wz T3 P0 OK m1 d1 io1 bo1 n1 ic1 N1 bc1 B4 ((((W.setCell ⟨gz,0,none⟩ v0).setCell ⟨gz,1,none⟩ v1).setCell ⟨gz,2,none⟩ v2).setCell ⟨gz,3,none⟩ v3):=by
 have hgz:g<gz:=by omega
 have hwz:wz.heap.size≤gz:=by omega
 have hne:∀{V0:World} {j:Nat} {u:Value},Rdr V0 g ao n cap cs→Rdr (V0.setCell ⟨gz,j,none⟩ u) g ao n cap cs:=fun h=>h.setN hgz _;have hke:∀{V0:World} {j:Nat} {u:Value},Kept g wz V0→Kept g wz (V0.setCell ⟨gz,j,none⟩ u):=fun h=>h.setN hwz (by show g≠gz;omega) _;have hbl:∀{V0:World} {j b:Nat} {u:Value} {vs:List Value},b<B4→Blk V0 b vs→Blk (V0.setCell ⟨gz,j,none⟩ u) b vs:=fun hb h=>h.setO (by show _≠gz;omega) _;exact⟨hne (hne (hne (hne h.rdr))),hke (hke (hke (hke h.kep))),hbl hB.1 (hbl hB.1 (hbl hB.1 (hbl hB.1 h.tree))),hbl hB.2.1 (hbl hB.2.1 (hbl hB.2.1 (hbl hB.2.1 h.res))),h.old.keep (by simp[World.setCell]) (fun b hb _=>set4_heap (by have:=hb.2;omega)),by simp[World.setCell];exact h.size,h.apart⟩
def VqdR (g:Nat) (_ao:Option Addr) (_n _cap:Nat) (_cs:List Int) (_wz:World) (_T3 _P0:Nat) (_OK:Nat→Prop) (m1 d1:Int) (io1 bo1:Option Addr) (n1 ic1 N1 bc1:Nat) (_B4:Nat) (_B:Nat):Nat→Value→World→Prop
 | 0,v,_=>v= .agg #[.int .i64 m1,.int .i64 d1,.slice io1 n1 ic1,.slice bo1 N1 bc1]
 | 1,v,_=>v= .pointer (some ⟨g,0,none⟩)
 | 2,v,_=>∃x:Int,v= .int .i64 x∧0≤x∧x<9
 | 3,v,_=>∃x:Int,v= .int .i64 x
 | 4,v,_=>v= .pointer (some ⟨g,0,none⟩)
 | 5,v,_=>∃x y zz t:Int,v= .agg #[.int .i64 x,.int .i64 y,.int .i64 zz,.int .i64 t]
 | 6,v,_=>∃(u:Value) (b:Bool),v= .tuple #[u,.bool b]
 | 7,v,_=>∃(u:Value) (b:Bool),v= .tuple #[u,.bool b]
 | 9,v,_=>∃b:Bool,v= .bool b
 | 12,v,_=>∃b:Bool,v= .bool b
 | _,_,_=>True
theorem VqdR.same {g:Nat} {ao:Option Addr} {n cap:Nat} {cs:List Int} {wz:World} {T3 P0:Nat} {OK:Nat→Prop} {m1 d1:Int} {io1 bo1:Option Addr} {n1 ic1 N1 bc1:Nat} {B4:Nat} {B j' :Nat} {v:Value} {W W2:World} (h:VqdR g ao n cap cs wz T3 P0 OK m1 d1 io1 bo1 n1 ic1 N1 bc1 B4 B j' v W):VqdR g ao n cap cs wz T3 P0 OK m1 d1 io1 bo1 n1 ic1 N1 bc1 B4 B j' v W2:=by
 unfold VqdR at *
 split<;>simp only at h<;>first | exact h | trivial
def SqdR (g:Nat) (ao:Option Addr) (n cap:Nat) (cs:List Int) (wz:World) (T3 P0:Nat) (OK:Nat→Prop) (m1 d1:Int) (io1 bo1:Option Addr) (n1 ic1 N1 bc1:Nat) (B4:Nat) (lz:Array Bool) (az:Act) (W:World):Prop:=PqF g ao n cap cs wz T3 P0 OK m1 d1 io1 bo1 n1 ic1 N1 bc1 B4 W∧AnE B4 [.int .i64 0,.int .i64 0,.slice none 0 0,.slice none 0 0] XqF TgF 5 6 7 8 10 11 31 32 25 33 7 lz az W
def JqdR (g:Nat) (ao:Option Addr) (n cap:Nat) (cs:List Int) (wz:World) (T3 P0:Nat) (OK:Nat→Prop) (m1 d1:Int) (io1 bo1:Option Addr) (n1 ic1 N1 bc1:Nat) (B4:Nat) (w0:World) (a0:Act) (lz:Array Bool) (az:Act) (W:World):Prop:=InvQ (g) [some 26,some 27,some 28,some 29,some 30,some 31,some 32,some 25,some 33,some 34,some 7,none,some 8] (VqdR g ao n cap cs wz T3 P0 OK m1 d1 io1 bo1 n1 ic1 N1 bc1 B4 (g)) w0 a0 lz az W∧SqdR g ao n cap cs wz T3 P0 OK m1 d1 io1 bo1 n1 ic1 N1 bc1 B4 lz az W
theorem qdR {Q:Exit→Act→World→Prop} {g:Nat} {ao:Option Addr} {n cap:Nat} {cs:List Int} {wz:World} {T3 P0:Nat} {OK:Nat→Prop} {m1 d1:Int} {io1 bo1:Option Addr} {n1 ic1 N1 bc1:Nat} {B4:Nat} {w0:World} {a0:Act} {idq:Nat} {t0 t1 t2 t3 t4 t5 t6 t7 t8 t9 t10 t11 t12:TypeId} {q0 q1 q2 q3 q4 q5 q6 q7 q8 q9 q10 q11 q12:String}
 (hB4:T3<B4∧P0<B4∧wz.heap.size≤B4) (hB4g:g<B4) (hg0:B4=w0.heap.size) (hTG:TgK XqF TgF) (hP0:PqF g ao n cap cs wz T3 P0 OK m1 d1 io1 bo1 n1 ic1 N1 bc1 B4 w0.drew) (h0:a0.tmps[0]? =some (.pointer (some ⟨g,0,none⟩))) (h3:a0.tmps[3]? =some (.pointer (some ⟨T3,0,none⟩))) (hz:a0.tmps.size=82)
 (hQ:∀aq W,aq.tmps.size=a0.tmps.size→aq.defers=a0.defers→(∀e,e∉([26,27,28,29,30,31,32,25,33,34,7,8]:List Nat)→aq.tmps[e]? =a0.tmps[e]?)→VqdR g ao n cap cs wz T3 P0 OK m1 d1 io1 bo1 n1 ic1 N1 bc1 B4 (g) 12 (aq.tmps.getD 8 undef) W→Below (g) w0 W→((∃gg vs lo hi,aq.tmps.getD 7 undef= .pointer (some ⟨gg,0,none⟩)∧B4≤gg∧Blk W gg vs∧TgF (.agg vs.toArray) lo hi W∧B4≤lo∧hi≤W.heap.size∧(gg<lo∨hi≤gg))∧PqF g ao n cap cs wz T3 P0 OK m1 d1 io1 bo1 n1 ic1 N1 bc1 B4 W)→Q .normal aq W) :
 (Code.region idq #[⟨some 26,.load 27 (.tmp 3),t0,q0,#[],none⟩,
 ⟨some 27,.move (.tmp 0),t1,q1,#[],none⟩,
 ⟨some 28,.call {callee:= .value (.func 15),args:=#[.tmp 27,.const (.int .i64 9)],argTypes:=#[43,3]},t2,q2,#[⟨1,.data⟩],none⟩,
 ⟨some 29,.binOp .add 3 (.const (.int .i64 1)) (.tmp 28) 3,t3,q3,#[⟨2,.data⟩],none⟩,
 ⟨some 30,.move (.tmp 0),t4,q4,#[],none⟩,
 ⟨some 31,.call {callee:= .value (.func 30),args:=#[.tmp 30],argTypes:=#[43]},t5,q5,#[⟨4,.data⟩,⟨2,.chain⟩],none⟩,
 ⟨some 32,.call {callee:= .value (.func 29),args:=#[.tmp 26,.tmp 29,.tmp 31],argTypes:=#[27,2,38]},t6,q6,#[⟨0,.data⟩,⟨3,.data⟩,⟨5,.data⟩,⟨5,.chain⟩],none⟩,
 ⟨some 25,.move (.tmp 32),t7,q7,#[⟨6,.data⟩],none⟩,
 ⟨some 33,.extract (.tmp 25) 0,t8,q8,#[⟨7,.data⟩],none⟩,
 ⟨some 34,.extract (.tmp 25) 1,t9,q9,#[⟨7,.data⟩,⟨11,.gcOnly .lateStores⟩],none⟩,
 ⟨some 7,.alloc 27,t10,q10,#[],none⟩,
 ⟨none,.store 27 (.tmp 7) (.tmp 33),t11,q11,#[⟨10,.data⟩,⟨8,.data⟩,⟨6,.chain⟩,⟨0,.phase⟩,⟨1,.phase⟩,⟨2,.phase⟩,⟨3,.phase⟩,⟨4,.phase⟩,⟨5,.phase⟩,⟨6,.phase⟩,⟨7,.phase⟩,⟨8,.phase⟩,⟨9,.textOnly .lateStores⟩,⟨10,.phase⟩],none⟩,
 ⟨some 8,.assign (.tmp 34),t12,q12,#[⟨9,.data⟩,⟨11,.chain⟩,⟨0,.phase⟩,⟨1,.phase⟩,⟨2,.phase⟩,⟨3,.phase⟩,⟨4,.phase⟩,⟨5,.phase⟩,⟨6,.phase⟩,⟨7,.phase⟩,⟨8,.phase⟩,⟨9,.phase⟩,⟨10,.phase⟩,⟨11,.phase⟩],none⟩] true).wp Tryz.prog Q a0 w0:=by
 have hS:distS [some 26,some 27,some 28,some 29,some 30,some 31,some 32,some 25,some 33,some 34,some 7,none,some 8]=true:=rfl;refine wp_region_inv (by kernel_rfl) (JqdR g ao n cap cs wz T3 P0 OK m1 d1 io1 bo1 n1 ic1 N1 bc1 B4 w0 a0) ⟨⟨rfl,rfl,rfl,fun _ _=>rfl,(Below.refl _ w0).drew,fun j d hj=>?_,fun j hj=>?_⟩,⟨hP0,AnE.start⟩⟩ ?_ ?_
 · exfalso
   rw[Array.getD_eq_getD_getElem?,Array.getElem?_replicate] at hj
   split at hj<;>simp at hj
 · exfalso
   rw[Array.getD_eq_getD_getElem?,Array.getElem?_replicate] at hj
   split at hj<;>simp at hj
 · intro lq aq W iq oq ⟨hJ2,hs⟩ hl ho hall;have z2:=hJ2.2.1;have z5:=hJ2.b;have g0:=hJ2.a h0
   have g3:=hJ2.a h3
   have HK:=fun i d h1 h2 v W2 hW hT hv hs=>show JqdR g ao n cap cs wz T3 P0 OK m1 d1 io1 bo1 n1 ic1 N1 bc1 B4 w0 a0 (lq.setIfInBounds i true) (aq.put (some d) v) W2 from⟨hJ2.put hS i d h1 h2 hW hT v hv,hs⟩
   have HW:=fun i h1 W2 hW hT hv hs=>show JqdR g ao n cap cs wz T3 P0 OK m1 d1 io1 bo1 n1 ic1 N1 bc1 B4 w0 a0 (lq.setIfInBounds i true) aq W2 from⟨hJ2.world i h1 (W' :=W2) hW hT hv,hs⟩
   generalize JqdR g ao n cap cs wz T3 P0 OK m1 d1 io1 bo1 n1 ic1 N1 bc1 B4 w0 a0=JJ at HK HW⊢
   clear hQ
   match iq,ho with
   | 0,ho=>
    cases ho;refine wpOp_of rfl rfl ?_;have hT3:=hs.1.tree;have v0:=hT3.c 0 rfl;have v1:=hT3.c 1 rfl;have v2:=hT3.c 2 rfl;have v3:=hT3.c 3 rfl;clear hT3;have hK:=HK 0 26 rfl (by omega);generalize JJ _=K at hK⊢;clear ho hall hl HK HW hJ2 hS z2;go_simp;exact hK _ _ z5 (fun _ _ h=>h) rfl ⟨hs.1,AnE.quiet hs.2 0 26 _ (by decide) (by decide)⟩
   | 1,ho=>
    cases ho;refine wpOp_of rfl rfl ?_;have hK:=HK 1 27 rfl (by omega);generalize JJ _=K at hK⊢;clear ho hall hl HK HW hJ2 hS z2;go_simp;exact hK _ _ z5 (fun _ _ h=>h) rfl (⟨hs.1,AnE.quiet hs.2 1 27 _ (by decide) (by decide)⟩)
   | 2,ho=>
    cases ho;refine wpOp_of rfl rfl ?_;have f1:_=Value.pointer (some ⟨g,0,none⟩):=hJ2.v hall 1 27;have hK:=HK 2 28 rfl (by omega);generalize JJ _=K at hK⊢;clear ho hall hl HK HW hJ2 hS z2;go_simp;refine(below_any 9 (by decide) (by decide) g ao n cap cs W hs.1.rdr).mono ?_;rintro r v1 ⟨_,rfl,⟨y2,rfl,y20,y21⟩,R1,K1⟩;exact hK _ _ (z5.trans (K1.below (Nat.le_refl _) (Nat.le_of_lt (Rdr.lt hs.1.rdr)))) (fun j v h=>VqdR.same h) ⟨y2,rfl,y20,y21⟩ ⟨hs.1.kept hB4g R1 K1,AnE.quiet (AnE.stepK (W2:=v1) hTG (fun _ _=>trivial) hs.2 K1.size (fun b h1 h2=>K1.block b h2 (by omega))) 2 28 _ (by decide) (by decide)⟩
   | 3,ho=>
    cases ho;refine wpOp_of rfl rfl ?_;have f2:∃x:Int,(aq.tmps.getD 28 undef)= .int .i64 x∧0≤x∧x<9:=hJ2.v hall 2 28;obtain⟨x2,e2,x20,x21⟩:=f2;rw[Array.getD_eq_getD_getElem?] at e2;have hK:=HK 3 29 rfl (by omega);generalize JJ _=K at hK⊢;clear ho hall hl HK HW hJ2 hS z2;go_simp;exact hK _ _ z5 (fun _ _ h=>h) ⟨_,rfl⟩ ⟨hs.1,AnE.quiet hs.2 3 29 _ (by decide) (by decide)⟩
   | 4,ho=>
    cases ho;refine wpOp_of rfl rfl ?_;have hK:=HK 4 30 rfl (by omega);generalize JJ _=K at hK⊢;clear ho hall hl HK HW hJ2 hS z2;go_simp;exact hK _ _ z5 (fun _ _ h=>h) rfl (⟨hs.1,AnE.quiet hs.2 4 30 _ (by decide) (by decide)⟩)
   | 5,ho=>
    cases ho;refine wpOp_of rfl rfl ?_;have f4:_=Value.pointer (some ⟨g,0,none⟩):=hJ2.v hall 4 30;have hsz31:31<aq.tmps.size:=by omega
    have hK:=HK 5 31 rfl (by omega);generalize JJ _=K at hK⊢;clear ho hall hl HK HW hJ2 hS z2;go_simp;refine(farSeg_any g ao n cap cs W hs.1.rdr).mono ?_;rintro r v1 ⟨_,rfl,⟨ya,yb,yc,yd,rfl,_,_,_,_⟩,R1,K1⟩;exact hK _ _ (z5.trans (K1.below (Nat.le_refl _) (Nat.le_of_lt (Rdr.lt hs.1.rdr)))) (fun j v h=>VqdR.same h) ⟨ya,yb,yc,yd,rfl⟩ ⟨hs.1.kept hB4g R1 K1,AnE.ask (AnE.stepK (W2:=v1) hTG (fun _ _=>trivial) hs.2 K1.size (fun b h1 h2=>K1.block b h2 (by omega))) _ (show AnD 5 6 7 8 10 11 31 32 25 33 7 by unfold AnD;omega) hsz31 trivial⟩
   | 6,ho=>
    cases ho;refine wpOp_of rfl rfl ?_;have f0:_=Value.agg #[.int .i64 m1,.int .i64 d1,.slice io1 n1 ic1,.slice bo1 N1 bc1]:=hJ2.v hall 0 26;have f3:∃x:Int,(aq.tmps.getD 29 undef)= .int .i64 x:=hJ2.v hall 3 29;obtain⟨x3,e3⟩:=f3;have f5:∃x y zz t:Int,(aq.tmps.getD 31 undef)= .agg #[.int .i64 x,.int .i64 y,.int .i64 zz,.int .i64 t]:=hJ2.v hall 5 31;obtain⟨sa,sb,sc,sd,e5⟩:=f5;have hl6:=hl;have hsz32:32<aq.tmps.size:=by omega
    rw[Array.getD_eq_getD_getElem?] at e3 e5;have hK:=HK 6 32 rfl (by omega);generalize JJ _=K at hK⊢;clear ho hall hl HK HW hJ2 hS z2;go_simp;refine(putT_draw (k:=41) (by omega) x3 sa sb sc sd W (fun y hy=>hy) hs.1.old).mono ?_;rintro r v1 ⟨u1,b1,rfl,hT,hBv⟩;exact hK _ _ (z5.trans (hBv.mono (Nat.le_of_lt (Rdr.lt hs.1.rdr)))) (fun j v h=>VqdR.same h) ⟨u1,b1,rfl⟩ ⟨hs.1.step hBv,AnE.call hTG hs.2 (show AnD 5 6 7 8 10 11 31 32 25 33 7 by unfold AnD;omega) hsz32 hl6 hBv b1 (show TgF u1 W.heap.size v1.heap.size v1 from hT.to (fun b h1 h2=>⟨h1,h2⟩)) (Nat.le_refl _) (Nat.le_refl _) hs.1.size⟩
   | 7,ho=>
    cases ho;refine wpOp_of rfl rfl ?_;have f6:∃(u:Value) (b:Bool),(aq.tmps.getD 32 undef)= .tuple #[u,.bool b]:=hJ2.v hall 6 32;obtain⟨u6,b6,e6⟩:=f6;have hc5:lq.getD 6 false=true:=hall ⟨6,.data⟩ (by simp) rfl;have hsz25:25<aq.tmps.size:=by omega
    have e6o:=e6;rw[Array.getD_eq_getD_getElem?] at e6;have hK:=HK 7 25 rfl (by omega);generalize JJ _=K at hK⊢;clear ho hall hl HK HW hJ2 hS z2;go_simp;exact hK _ _ z5 (fun _ _ h=>h) ⟨u6,b6,rfl⟩ (⟨hs.1,AnE.move hs.2 (show AnD 5 6 7 8 10 11 31 32 25 33 7 by unfold AnD;omega) hsz25 hc5 e6o.symm⟩)
   | 8,ho=>
    cases ho;refine wpOp_of rfl rfl ?_;have f7:∃(u:Value) (b:Bool),(aq.tmps.getD 25 undef)= .tuple #[u,.bool b]:=hJ2.v hall 7 25;obtain⟨u7,b7,e7⟩:=f7;have hm6:lq.getD 7 false=true:=hall ⟨7,.data⟩ (by simp) rfl;have hsz33:33<aq.tmps.size:=by omega
    have e7o:=e7;rw[Array.getD_eq_getD_getElem?] at e7;have hK:=HK 8 33 rfl (by omega);generalize JJ _=K at hK⊢;clear ho hall hl HK HW hJ2 hS z2;go_simp;exact hK _ _ z5 (fun _ _ h=>h) trivial (⟨hs.1,AnE.take hs.2 (show AnD 5 6 7 8 10 11 31 32 25 33 7 by unfold AnD;omega) hsz33 hm6 e7o⟩)
   | 9,ho=>
    cases ho;refine wpOp_of rfl rfl ?_;have f7:∃(u:Value) (b:Bool),(aq.tmps.getD 25 undef)= .tuple #[u,.bool b]:=hJ2.v hall 7 25;obtain⟨u7,b7,e7⟩:=f7;rw[Array.getD_eq_getD_getElem?] at e7;have hK:=HK 9 34 rfl (by omega);generalize JJ _=K at hK⊢;clear ho hall hl HK HW hJ2 hS z2;go_simp;exact hK _ _ z5 (fun _ _ h=>h) ⟨b7,rfl⟩ (⟨hs.1,AnE.quiet hs.2 9 34 _ (by decide) (by decide)⟩)
   | 10,ho=>
    cases ho;refine wpOp_of rfl rfl ?_;have hl9:=hl;have hsz7:7<aq.tmps.size:=by omega
    have hK:=HK 10 7 rfl (by omega);generalize JJ _=K at hK⊢;clear ho hall hl HK HW hJ2 hS z2;go_simp;exact hK _ _ (z5.alloc (by have:=hs.1.rdr.lt;omega) _) (fun j v h=>VqdR.same h) trivial ⟨hs.1.step ((Below.refl _ _).alloc (Nat.le_refl _) _),AnE.lay hTG hs.2 (show AnD 5 6 7 8 10 11 31 32 25 33 7 by unfold AnD;omega) hsz7 hl9 hs.1.size _⟩
   | 11,ho=>
    cases ho;refine wpOp_of rfl rfl ?_;have l9:lq.getD 10 false=true:=hall ⟨10,.data⟩ (by simp) rfl;have l7:lq.getD 8 false=true:=hall ⟨8,.data⟩ (by simp) rfl;have hl10:=hl;obtain⟨gz,e9,hgz,GZ⟩:=AnE.laid hs.2 l9 hl10;obtain⟨u7,lo7,hi7,e7,hT7⟩:=AnE.taken hs.2 l7 hl10;obtain⟨m7,d7,io7,n7,ic7,bo7,N7,bc7,rfl,_⟩:=TqP.form hT7;have gl:=GZ.lt;have c0z:=GZ.c 0 rfl;have d0z:=GZ.f 0 rfl;have c1z:=GZ.c 1 rfl;have d1z:=GZ.f 1 rfl;have c2z:=GZ.c 2 rfl;have d2z:=GZ.f 2 rfl;have c3z:=GZ.c 3 rfl;have d3z:=GZ.f 3 rfl;have NB:=(set4_blk GZ (.int .i64 m7) (.int .i64 d7) (.slice io7 n7 ic7) (.slice bo7 N7 bc7)).out;have NL:Below g w0 ((((W.setCell ⟨gz,0,none⟩ (.int .i64 m7)).setCell ⟨gz,1,none⟩ (.int .i64 d7)).setCell ⟨gz,2,none⟩ (.slice io7 n7 ic7)).setCell ⟨gz,3,none⟩ (.slice bo7 N7 bc7)):=set4_below z5 (by omega) _ _ _ _;have HS:SqdR g ao n cap cs wz T3 P0 OK m1 d1 io1 bo1 n1 ic1 N1 bc1 B4 (lq.setIfInBounds 11 true) aq ((((W.setCell ⟨gz,0,none⟩ (.int .i64 m7)).setCell ⟨gz,1,none⟩ (.int .i64 d7)).setCell ⟨gz,2,none⟩ (.slice io7 n7 ic7)).setCell ⟨gz,3,none⟩ (.slice bo7 N7 bc7)):=⟨hs.1.set4 hB4g hB4 hgz _ _ _ _,AnE.store hTG hs.2 (show AnD 5 6 7 8 10 11 31 32 25 33 7 by unfold AnD;omega) hl10 l9 l7 e9 e7 (by simp[World.setCell]) (fun b hb=>set4_heap hb) NB⟩;rw[Array.getD_eq_getD_getElem?] at e9 e7;clear GZ NB hT7;have hK:=HW 11 rfl;generalize JJ _=K at hK⊢;clear ho hall hl HK HW hJ2 hS z2;go_simp;exact hK _ NL (fun j v h=>VqdR.same h) trivial HS
   | 12,ho=>
    cases ho;refine wpOp_of rfl rfl ?_;have f9:∃b:Bool,(aq.tmps.getD 34 undef)= .bool b:=hJ2.v hall 9 34;obtain⟨b9,e9⟩:=f9;rw[Array.getD_eq_getD_getElem?] at e9;have hK:=HK 12 8 rfl (by omega);generalize JJ _=K at hK⊢;clear ho hall hl HK HW hJ2 hS z2;go_simp;exact hK _ _ z5 (fun _ _ h=>h) ⟨b9,rfl⟩ (⟨hs.1,AnE.quiet hs.2 12 8 _ (by decide) (by decide)⟩)
   | iq+13,ho=>simp at ho
 · intro lq aq W ⟨hJ,hs⟩ hr;obtain⟨z1,z2,z3,z4,z5,z6,z7⟩:=hJ;have hl:=listed_of hr [0,1,2,3,4,5,6,7,9,10,8,11,12] [] (by simp) (by kernel_rfl) (by rw[z1];decide);exact hQ aq W z2 z3 (fun e he=>z4 e (by simpa using he)) (z6 12 8 (hl 12 (by simp)) rfl) z5 (⟨AnE.done hs.2 (hl 11 (by simp)),hs.1⟩)
end Go.Proofs.YthelolpogdcmhaaGreat
