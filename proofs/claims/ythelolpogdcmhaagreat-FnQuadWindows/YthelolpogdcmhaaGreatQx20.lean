/- Part 20 of the walks that the proof leans on. -/
import Derived.Test.YthelolpogdcmhaaGreatQx18
import Derived.Test.YthelolpogdcmhaaGreatQx9
import Derived.Test.YthelolpogdcmhaaGreatQx4
import Derived.Test.YthelolpogdcmhaaGreatQx1
import Derived.Test.YthelolpogdcmhaaGreatQx2
import Derived.Test.YthelolpogdcmhaaGreatQx19
import Derived.Test.YthelolpogdcmhaaGreatQx16
set_option maxRecDepth 100000
set_option maxHeartbeats 16000000
namespace Go.Proofs.YthelolpogdcmhaaGreat
open Go.RowKit
def VqdY (g:Nat) (_ao:Option Addr) (_n _cap:Nat) (_cs:List Int) (T3:Nat) (_m1 _d1:Int) (iv _bv:Value) (_n1:Nat) (_xs:List Value) (_Wd:World) (_B:Nat):Nat→Value→World→Prop
 | 0,v,_=>v= .pointer (some ⟨T3,2,none⟩)
 | 1,v,_=>v=iv
 | 2,v,_=>v= .pointer (some ⟨g,0,none⟩)
 | 3,v,_=>∃sa sb sc sd:Int,v= .agg #[.int .i64 sa,.int .i64 sb,.int .i64 sc,.int .i64 sd]
 | 4,v,_=>∃sa sb sc sd:Int,v= .agg #[.int .i64 9,.int .i64 sa,.int .i64 sb,.int .i64 sc,.int .i64 sd]
 | 7,v,_=>v= .pointer (some ⟨T3,2,none⟩)
 | _,_,_=>True
theorem VqdY.same {g:Nat} {ao:Option Addr} {n cap:Nat} {cs:List Int} {T3:Nat} {m1 d1:Int} {iv bv:Value} {n1:Nat} {xs:List Value} {Wd:World} {B j:Nat} {v:Value} {W W2:World} (h:VqdY g ao n cap cs T3 m1 d1 iv bv n1 xs Wd B j v W):VqdY g ao n cap cs T3 m1 d1 iv bv n1 xs Wd B j v W2:=by
 unfold VqdY at *
 split<;>simp only at h<;>first | exact h | trivial
def RqdY (g:Nat) (ao:Option Addr) (n cap:Nat) (cs:List Int) (T3:Nat) (_m1 _d1:Int) (iv _bv:Value) (n1:Nat) (xs:List Value) (Wd:World):Nat→(Nat→Value)→World→Prop:=fun kq val W=>match kq with
 | 0=>W=Wd
 | 1=>Rdr W g ao n cap cs∧Kept g Wd W
 | 2=>Rdr W g ao n cap cs∧Kept g Wd W
 | 3=>∃(W1:World) (sa sb sc sd:Int),W=(W1.alloc (.cells #[.int .i64 9,.int .i64 sa,.int .i64 sb,.int .i64 sc,.int .i64 sd] 40))∧val 2= .slice (some ⟨W1.heap.size,0,none⟩) 1 1∧Rdr W1 g ao n cap cs∧Kept g Wd W1
 | 4=>∃(W1:World) (sa sb sc sd:Int),(W1.alloc (.cells #[.int .i64 9,.int .i64 sa,.int .i64 sb,.int .i64 sc,.int .i64 sd] 40)).grownBy W iv.ownBlock∧W.ownsRow 0 40 5 (val 3) (n1+1) (xs ++[.int .i64 9,.int .i64 sa,.int .i64 sb,.int .i64 sc,.int .i64 sd])∧((val 3).ownBlock=iv.ownBlock∨(val 3).ownBlock=some (W1.heap.size+1))∧Rdr W1 g ao n cap cs∧Kept g Wd W1
 | _=>∃(W1 W2:World) (v2:Value) (sa sb sc sd:Int),(W1.alloc (.cells #[.int .i64 9,.int .i64 sa,.int .i64 sb,.int .i64 sc,.int .i64 sd] 40)).grownBy W2 iv.ownBlock∧W2.ownsRow 0 40 5 (v2) (n1+1) (xs ++[.int .i64 9,.int .i64 sa,.int .i64 sb,.int .i64 sc,.int .i64 sd])∧((v2).ownBlock=iv.ownBlock∨(v2).ownBlock=some (W1.heap.size+1))∧Rdr W1 g ao n cap cs∧Kept g Wd W1∧W=W2.setCell ⟨T3,2,none⟩ v2
def SqdY (g:Nat) (ao:Option Addr) (n cap:Nat) (cs:List Int) (T3:Nat) (m1 d1:Int) (iv bv:Value) (n1:Nat) (xs:List Value) (Wd:World) (lz:Array Bool) (az:Act) (W:World):Prop:=ChS 9 5 (fun t=>[3,4,5,6,8].getD t 0) (fun t=>[76,77,78,79,1008].getD t 0) (RqdY g ao n cap cs T3 m1 d1 iv bv n1 xs Wd) lz az W∧((lz.getD 6 false=true→lz.getD 1 false=true))
def JqdY (g:Nat) (ao:Option Addr) (n cap:Nat) (cs:List Int) (T3:Nat) (m1 d1:Int) (iv bv:Value) (n1:Nat) (xs:List Value) (Wd:World) (w0:World) (a0:Act) (lz:Array Bool) (az:Act) (W:World):Prop:=InvQ (g) [some 73,some 74,some 75,some 76,some 77,some 78,some 79,some 80,none] (VqdY g ao n cap cs T3 m1 d1 iv bv n1 xs Wd (g)) w0 a0 lz az W∧SqdY g ao n cap cs T3 m1 d1 iv bv n1 xs Wd lz az W
theorem qdY {Q:Exit→Act→World→Prop} {g:Nat} {ao:Option Addr} {n cap:Nat} {cs:List Int} {T3:Nat} {m1 d1:Int} {iv bv:Value} {n1:Nat} {xs:List Value} {Wd:World} {i0:TypeInfo} {w0:World} {a0:Act} {idq:Nat} {t0 t1 t2 t3 t4 t5 t6 t7 t8:TypeId} {q0 q1 q2 q3 q4 q5 q6 q7 q8:String}
 (hi0:Tryz.prog.info? 40=some i0) (hz0:i0.zero=some (.agg #[.int .i64 0,.int .i64 0,.int .i64 0,.int .i64 0,.int .i64 0])) (hz1:i0.size=5) (hz2:i0.bytes=40) (hn1:n1≤1000) (hT3g:T3≠g) (hT3l:g<T3) (hivg:∀k,iv.ownBlock=some k→g≤k∧k≠g) (hivT:iv.ownBlock≠some T3) (hR0:Rdr w0.drew g ao n cap cs) (hown0:w0.drew.ownsRow 0 40 5 iv n1 xs) (hBT:Blk w0.drew T3 [.int .i64 m1,.int .i64 d1,iv,bv]) (hWe:Wd=w0.drew) (h0:a0.tmps[0]? =some (.pointer (some ⟨g,0,none⟩))) (h3:a0.tmps[3]? =some (.pointer (some ⟨T3,0,none⟩))) (hz:a0.tmps.size=82)
 (hQ:∀aq W,aq.tmps.size=a0.tmps.size→aq.defers=a0.defers→(∀e,e∉([73,74,75,76,77,78,79,80]:List Nat)→aq.tmps[e]? =a0.tmps[e]?)→VqdY g ao n cap cs T3 m1 d1 iv bv n1 xs Wd (g) 8 undef W→Below (g) w0 W→(∃(W1 W2:World) (v2:Value) (sa sb sc sd:Int),(W1.alloc (.cells #[.int .i64 9,.int .i64 sa,.int .i64 sb,.int .i64 sc,.int .i64 sd] 40)).grownBy W2 iv.ownBlock∧W2.ownsRow 0 40 5 (v2) (n1+1) (xs ++[.int .i64 9,.int .i64 sa,.int .i64 sb,.int .i64 sc,.int .i64 sd])∧((v2).ownBlock=iv.ownBlock∨(v2).ownBlock=some (W1.heap.size+1))∧Rdr W1 g ao n cap cs∧Kept g Wd W1∧W=W2.setCell ⟨T3,2,none⟩ v2)→Q .normal aq W) :
 (Code.region idq #[⟨some 73,.fieldAddr 27 (.tmp 3) 2,t0,q0,#[],none⟩,
 ⟨some 74,.load 24 (.tmp 73),t1,q1,#[⟨0,.data⟩],none⟩,
 ⟨some 75,.move (.tmp 0),t2,q2,#[],none⟩,
 ⟨some 76,.call {callee:= .value (.func 32),args:=#[.tmp 75],argTypes:=#[43]},t3,q3,#[⟨2,.data⟩],none⟩,
 ⟨some 77,.build 40 #[(0,.const (.int .i64 9)),(1,.tmp 76)],t4,q4,#[⟨3,.data⟩],none⟩,
 ⟨some 78,.buildSlice 24 1 #[(0,.tmp 77)],t5,q5,#[⟨4,.data⟩],none⟩,
 ⟨some 79,.call {callee:= .builtin .append,args:=#[.tmp 74,.tmp 78],argTypes:=#[24,24]},t6,q6,#[⟨1,.data⟩,⟨5,.data⟩,⟨3,.chain⟩],none⟩,
 ⟨some 80,.fieldAddr 27 (.tmp 3) 2,t7,q7,#[⟨0,.phase⟩,⟨1,.phase⟩,⟨2,.phase⟩,⟨3,.phase⟩,⟨4,.phase⟩,⟨5,.phase⟩,⟨6,.phase⟩],none⟩,
 ⟨none,.store 24 (.tmp 80) (.tmp 79),t8,q8,#[⟨7,.data⟩,⟨6,.data⟩,⟨6,.chain⟩,⟨0,.phase⟩,⟨1,.phase⟩,⟨2,.phase⟩,⟨3,.phase⟩,⟨4,.phase⟩,⟨5,.phase⟩,⟨6,.phase⟩],none⟩] true).wp Tryz.prog Q a0 w0:=by
 have hS:distS [some 73,some 74,some 75,some 76,some 77,some 78,some 79,some 80,none]=true:=rfl;refine wp_region_inv (by kernel_rfl) (JqdY g ao n cap cs T3 m1 d1 iv bv n1 xs Wd w0 a0) ⟨⟨rfl,rfl,rfl,fun _ _=>rfl,(Below.refl _ w0).drew,fun j d hj=>?_,fun j hj=>?_⟩,⟨ChS.start (by decide) (hWe.symm),(fun h=>by rw[replD] at h;cases h)⟩⟩ ?_ ?_
 · exfalso
   rw[Array.getD_eq_getD_getElem?,Array.getElem?_replicate] at hj
   split at hj<;>simp at hj
 · exfalso
   rw[Array.getD_eq_getD_getElem?,Array.getElem?_replicate] at hj
   split at hj<;>simp at hj
 · intro lq aq W iq oq ⟨hJ2,hs⟩ hl ho hall;have z1:=hJ2.1;have z2:=hJ2.2.1;have z5:=hJ2.b;have g0:=hJ2.a h0
   have g3:=hJ2.a h3
   have HK:=fun i d h1 h2 v W2 hW hT hv hs=>show JqdY g ao n cap cs T3 m1 d1 iv bv n1 xs Wd w0 a0 (lq.setIfInBounds i true) (aq.put (some d) v) W2 from⟨hJ2.put hS i d h1 h2 hW hT v hv,hs⟩
   have HW:=fun i h1 W2 hW hT hv hs=>show JqdY g ao n cap cs T3 m1 d1 iv bv n1 xs Wd w0 a0 (lq.setIfInBounds i true) aq W2 from⟨hJ2.world i h1 (W' :=W2) hW hT hv,hs⟩
   generalize JqdY g ao n cap cs T3 m1 d1 iv bv n1 xs Wd w0 a0=JJ at HK HW⊢
   clear hQ
   match iq,ho with
   | 0,ho=>
    cases ho;refine wpOp_of rfl rfl ?_;have hq:∀v:Value,SqdY g ao n cap cs T3 m1 d1 iv bv n1 xs Wd (lq.setIfInBounds 0 true) (aq.put (some 73) v) W:=fun v=>⟨hs.1.quiet 0 73 v (by decide) hl (by decide) (by decide),(by rw[gn 0 6,gn 0 1];exact hs.2)⟩;clear hs hWe;have hK:=HK 0 73 rfl (by omega);generalize JJ _=K at hK⊢;clear ho hall hl HK HW hJ2 hS z1 z2;go_simp;exact hK _ _ z5 (fun _ _ h=>h) rfl (hq _)
   | 1,ho=>
    cases ho;refine wpOp_of rfl rfl ?_;have f0:_=Value.pointer (some ⟨T3,2,none⟩):=hJ2.v hall 0 73;have hq:∀v:Value,SqdY g ao n cap cs T3 m1 d1 iv bv n1 xs Wd (lq.setIfInBounds 1 true) (aq.put (some 74) v) W:=fun v=>⟨hs.1.quiet 1 74 v (by decide) hl (by decide) (by decide),(fun _=>getD_set_eq hl)⟩;have u1:lq.getD 1 false=false:=by cases e:lq.getD 1 false with | false=>rfl | true=>rw[getD_tf hl] at e;cases e
    have u6:lq.getD 6 false=false:=by cases e:lq.getD 6 false with | false=>rfl | true=>have:=hs.2 e;rw[u1] at this;cases this
    obtain⟨cc,hcc,hRR,hle⟩:=hs.1.some (i:=1) (by decide) hl;have hcc1:cc≤3:=hle 3 (by decide) (by show lq.getD 6 true=false;exact getD_ft u6 (by rw[z1];decide));have j2:W.cell? ⟨T3,2,none⟩=some iv:=by
     have b0:Blk Wd T3 [.int .i64 m1,.int .i64 d1,iv,bv]:=by rw[hWe];exact hBT
     match cc,hcc1,hRR with
     | 0,_,h=>
      have eW:W=Wd:=h;rw[eW];exact b0.c 2 rfl
     | 1,_,h=>exact(b0.kept h.2 hT3g).c 2 rfl
     | 2,_,h=>exact(b0.kept h.2 hT3g).c 2 rfl
     | 3,_,h=>
      obtain⟨W1,sa,sb,sc,sd,eW,_,_,hKk⟩:=h;rw[eW];exact((b0.kept hKk hT3g).alloc _).c 2 rfl
     | j+4,h,_=>omega
    clear hRR hle hcc u1 u6 hBT hown0 hR0;clear hs hWe;have hK:=HK 1 74 rfl (by omega);generalize JJ _=K at hK⊢;clear ho hall hl HK HW hJ2 hS z1 z2;go_simp;exact hK _ _ z5 (fun _ _ h=>h) rfl (hq _)
   | 2,ho=>
    cases ho;refine wpOp_of rfl rfl ?_;have hq:∀v:Value,SqdY g ao n cap cs T3 m1 d1 iv bv n1 xs Wd (lq.setIfInBounds 2 true) (aq.put (some 75) v) W:=fun v=>⟨hs.1.quiet 2 75 v (by decide) hl (by decide) (by decide),(by rw[gn 2 6,gn 2 1];exact hs.2)⟩;clear hs hWe;have hK:=HK 2 75 rfl (by omega);generalize JJ _=K at hK⊢;clear ho hall hl HK HW hJ2 hS z1 z2;go_simp;exact hK _ _ z5 (fun _ _ h=>h) rfl (hq _)
   | 3,ho=>
    cases ho;refine wpOp_of rfl rfl ?_;have f2:_=Value.pointer (some ⟨g,0,none⟩):=hJ2.v hall 2 75;have hpr:∀t,0=t+1→lq.getD ((fun t=>[3,4,5,6,8].getD t 0) t) false=true:=(fun t ht=>absurd ht (by omega));have RS:=hs.1.now 0 (by decide) hl hpr;have hq:∀(v:Value) (X:World),RqdY g ao n cap cs T3 m1 d1 iv bv n1 xs Wd 1 (fun t=>if t=0 then v else valC 5 (fun t=>[76,77,78,79,1008].getD t 0) aq t) X→SqdY g ao n cap cs T3 m1 d1 iv bv n1 xs Wd (lq.setIfInBounds 3 true) (aq.put (some 76) v) X:=fun v X hX=>⟨hs.1.link 0 (by decide) hl hpr (by decide) (by decide) (by rw[z2,hz];decide) (fun e=>absurd e (by decide)) hX,(by rw[gn 3 6,gn 3 1];exact hs.2)⟩;have eW:W=Wd:=RS;have hR:Rdr W g ao n cap cs:=by rw[eW,hWe];exact hR0
    have hKW:Kept g W=Kept g Wd:=by rw[eW]
    have hq2:∀(v:Value) (X:World),Rdr X g ao n cap cs→Kept g W X→SqdY g ao n cap cs T3 m1 d1 iv bv n1 xs Wd (lq.setIfInBounds 3 true) (aq.put (some 76) v) X:=fun v X h1 h2=>hq v X ⟨h1,by rw[←hKW];exact h2⟩;have hgl:=hR.lt;clear eW RS hq hKW hBT hown0 hR0;clear hs hWe;have hK:=HK 3 76 rfl (by omega);generalize JJ _=K at hK⊢;clear ho hall hl HK HW hJ2 hS z1 z2;go_simp;refine(seg_any g ao n cap cs W hR).mono ?_;rintro r v1 ⟨_,rfl,⟨ya,yb,yc,yd,rfl,_,_,_,_⟩,R1,K1⟩;exact hK _ _ (z5.trans (K1.below (Nat.le_refl _) (Nat.le_of_lt hgl))) (fun _ _ h=>h.same) ⟨ya,yb,yc,yd,rfl⟩ (hq2 _ _ R1 K1)
   | 4,ho=>
    cases ho;refine wpOp_of rfl rfl ?_;have f3:∃sa sb sc sd:Int,(aq.tmps.getD 76 undef)= .agg #[.int .i64 sa,.int .i64 sb,.int .i64 sc,.int .i64 sd]:=hJ2.v hall 3 76;obtain⟨sa,sb,sc,sd,e3⟩:=f3;have hpr:∀t,1=t+1→lq.getD ((fun t=>[3,4,5,6,8].getD t 0) t) false=true:=(fun t ht=>by obtain rfl:t=0:=(by omega);exact hall ⟨3,.data⟩ (by simp) rfl);have RS:=hs.1.now 1 (by decide) hl hpr;have hq:∀(v:Value) (X:World),RqdY g ao n cap cs T3 m1 d1 iv bv n1 xs Wd 2 (fun t=>if t=1 then v else valC 5 (fun t=>[76,77,78,79,1008].getD t 0) aq t) X→SqdY g ao n cap cs T3 m1 d1 iv bv n1 xs Wd (lq.setIfInBounds 4 true) (aq.put (some 77) v) X:=fun v X hX=>⟨hs.1.link 1 (by decide) hl hpr (by decide) (by decide) (by rw[z2,hz];decide) (fun e=>absurd e (by decide)) hX,(by rw[gn 4 6,gn 4 1];exact hs.2)⟩;have hq2:∀v:Value,SqdY g ao n cap cs T3 m1 d1 iv bv n1 xs Wd (lq.setIfInBounds 4 true) (aq.put (some 77) v) W:=fun v=>hq v W RS;rw[Array.getD_eq_getD_getElem?] at e3;clear RS hq hBT hown0 hR0;clear hs hWe;have hK:=HK 4 77 rfl (by omega);generalize JJ _=K at hK⊢;clear ho hall hl HK HW hJ2 hS z1 z2;go_simp;exact hK _ _ z5 (fun _ _ h=>h) ⟨_,_,_,_,rfl⟩ (hq2 _)
   | 5,ho=>
    cases ho;refine wpOp_of rfl rfl ?_;have f4:∃sa sb sc sd:Int,(aq.tmps.getD 77 undef)= .agg #[.int .i64 9,.int .i64 sa,.int .i64 sb,.int .i64 sc,.int .i64 sd]:=hJ2.v hall 4 77;obtain⟨sa,sb,sc,sd,e4⟩:=f4;have hpr:∀t,2=t+1→lq.getD ((fun t=>[3,4,5,6,8].getD t 0) t) false=true:=(fun t ht=>by obtain rfl:t=1:=(by omega);exact hall ⟨4,.data⟩ (by simp) rfl);have RS:=hs.1.now 2 (by decide) hl hpr;have hq:∀(v:Value) (X:World),RqdY g ao n cap cs T3 m1 d1 iv bv n1 xs Wd 3 (fun t=>if t=2 then v else valC 5 (fun t=>[76,77,78,79,1008].getD t 0) aq t) X→SqdY g ao n cap cs T3 m1 d1 iv bv n1 xs Wd (lq.setIfInBounds 5 true) (aq.put (some 78) v) X:=fun v X hX=>⟨hs.1.link 2 (by decide) hl hpr (by decide) (by decide) (by rw[z2,hz];decide) (fun e=>absurd e (by decide)) hX,(by rw[gn 5 6,gn 5 1];exact hs.2)⟩;obtain⟨hR,hKk⟩:=RS;have hq2:∀v:Value,v= .slice (some ⟨W.heap.size,0,none⟩) 1 1→SqdY g ao n cap cs T3 m1 d1 iv bv n1 xs Wd (lq.setIfInBounds 5 true) (aq.put (some 78) v) (W.alloc (.cells #[.int .i64 9,.int .i64 sa,.int .i64 sb,.int .i64 sc,.int .i64 sd] 40)):=fun v h1=>hq v _ ⟨W,sa,sb,sc,sd,rfl,h1,hR,hKk⟩;have hgl:=hR.lt;rw[Array.getD_eq_getD_getElem?] at e4;clear hR hKk hq hBT hown0 hR0;clear hs hWe;have hK:=HK 5 78 rfl (by omega);generalize JJ _=K at hK⊢;clear ho hall hl HK HW hJ2 hS z1 z2;go_simp;exact hK _ _ (z5.alloc (by omega) _) (fun _ _ h=>h.same) trivial (hq2 _ rfl)
   | 6,ho=>
    cases ho;refine wpOp_of rfl rfl ?_;have f1:_=iv:=hJ2.v hall 1 74;have f5:True:=hJ2.v hall 5 78;have hpr:∀t,3=t+1→lq.getD ((fun t=>[3,4,5,6,8].getD t 0) t) false=true:=(fun t ht=>by obtain rfl:t=2:=(by omega);exact hall ⟨5,.data⟩ (by simp) rfl);have RS:=hs.1.now 3 (by decide) hl hpr;have hq:∀(v:Value) (X:World),RqdY g ao n cap cs T3 m1 d1 iv bv n1 xs Wd 4 (fun t=>if t=3 then v else valC 5 (fun t=>[76,77,78,79,1008].getD t 0) aq t) X→SqdY g ao n cap cs T3 m1 d1 iv bv n1 xs Wd (lq.setIfInBounds 6 true) (aq.put (some 79) v) X:=fun v X hX=>⟨hs.1.link 3 (by decide) hl hpr (by decide) (by decide) (by rw[z2,hz];decide) (fun e=>absurd e (by decide)) hX,(fun _=>by rw[gn 6 1];exact hall ⟨1,.data⟩ (by simp) rfl)⟩;obtain⟨W1,sa,sb,sc,sd,eW,ev1,hR,hKk⟩:=RS;change aq.tmps.getD 78 undef= .slice (some ⟨W1.heap.size,0,none⟩) 1 1 at ev1;have hown:W.ownsRow 0 40 5 iv n1 xs:=by
     rw[eW];refine ownA_step (ownQ_heap (w:=Wd) (by rw[hWe];exact hown0) (fun k hk=>hKk.block k (World.ownsRow.lt (w:=Wd) (by rw[hWe];exact hown0) k hk).2 (hivg k hk).2)) ((Below.refl _ W1).alloc (Nat.le_refl _) _)
    have hcl:∀j u,[.int .i64 9,.int .i64 sa,.int .i64 sb,.int .i64 sc,.int .i64 sd][j]? =some u→W.cell? ((⟨W1.heap.size,0,none⟩:Addr).add j)=some u:=by rw[eW];exact new_cells W1 [.int .i64 9,.int .i64 sa,.int .i64 sb,.int .i64 sc,.int .i64 sd] 40
    have hWs:W.heap.size=W1.heap.size+1:=by rw[eW];simp
    have hgl:=hR.lt;have hq2:∀(v:Value) (X:World),(W.grownBy X iv.ownBlock∧X.ownsRow 0 40 5 v (n1+1) (xs ++[.int .i64 9,.int .i64 sa,.int .i64 sb,.int .i64 sc,.int .i64 sd])∧(v.ownBlock=iv.ownBlock∨v.ownBlock=some W.heap.size))→SqdY g ao n cap cs T3 m1 d1 iv bv n1 xs Wd (lq.setIfInBounds 6 true) (aq.put (some 79) v) X:=fun v X ⟨h1,h2,h3⟩=>hq v X ⟨W1,sa,sb,sc,sd,by rw[←eW];exact h1,h2,by rw[←hWs];exact h3,hR,hKk⟩;clear eW hR hKk hq hBT hown0 hR0;clear hs hWe;have hK:=HK 6 79 rfl (by omega);generalize JJ _=K at hK⊢;clear ho hall hl HK HW hJ2 hS z1 z2;refine wp_append_q (.tmp 74) (.tmp 78) 24 rfl 0 40 i0 (.agg #[.int .i64 0,.int .i64 0,.int .i64 0,.int .i64 0,.int .i64 0]) 5 40 Tryz.underlying24 hi0 hz0 hz1 hz2 rfl (by decide) _ n1 _ f1 hown ⟨W1.heap.size,0,none⟩ 1 1 [.int .i64 9,.int .i64 sa,.int .i64 sb,.int .i64 sc,.int .i64 sd] ev1 rfl hcl (int5_one _ _ _ _ _) (by unfold maxLen;omega) (by omega) (Nat.zero_le _) ?_;intro v1 X r1 r2 r3;exact hK _ _ (z5.grown r2 (by omega) (fun k hk=>(hivg k hk).1)) (fun _ _ h=>h.same) trivial (hq2 _ _ ⟨r2,r1,r3⟩)
   | 7,ho=>
    cases ho;refine wpOp_of rfl rfl ?_;have hq:∀v:Value,SqdY g ao n cap cs T3 m1 d1 iv bv n1 xs Wd (lq.setIfInBounds 7 true) (aq.put (some 80) v) W:=fun v=>⟨hs.1.quiet 7 80 v (by decide) hl (by decide) (by decide),(by rw[gn 7 6,gn 7 1];exact hs.2)⟩;clear hs hWe;have hK:=HK 7 80 rfl (by omega);generalize JJ _=K at hK⊢;clear ho hall hl HK HW hJ2 hS z1 z2;go_simp;exact hK _ _ z5 (fun _ _ h=>h) rfl (hq _)
   | 8,ho=>
    cases ho;refine wpOp_of rfl rfl ?_;have f7:_=Value.pointer (some ⟨T3,2,none⟩):=hJ2.v hall 7 80;have f6:True:=hJ2.v hall 6 79;have hpr:∀t,4=t+1→lq.getD ((fun t=>[3,4,5,6,8].getD t 0) t) false=true:=(fun t ht=>by obtain rfl:t=3:=(by omega);exact hall ⟨6,.data⟩ (by simp) rfl);have RS:=hs.1.now 4 (by decide) hl hpr;have hq:∀(X:World),RqdY g ao n cap cs T3 m1 d1 iv bv n1 xs Wd 5 (valC 5 (fun t=>[76,77,78,79,1008].getD t 0) aq) X→SqdY g ao n cap cs T3 m1 d1 iv bv n1 xs Wd (lq.setIfInBounds 8 true) aq X:=fun X hX=>⟨hs.1.store 4 (by decide) hl hpr (by decide) (fun _ j hj hn=>match j,hj,hn with | 0,_,_=>hall ⟨0,.phase⟩ (by simp) rfl | 1,_,_=>hall ⟨1,.phase⟩ (by simp) rfl | 2,_,_=>hall ⟨2,.phase⟩ (by simp) rfl | 3,_,_=>hall ⟨3,.phase⟩ (by simp) rfl | 4,_,_=>hall ⟨4,.phase⟩ (by simp) rfl | 5,_,_=>hall ⟨5,.phase⟩ (by simp) rfl | 6,_,_=>hall ⟨6,.data⟩ (by simp) rfl | 7,_,_=>hall ⟨7,.data⟩ (by simp) rfl | 8,_,hn=>absurd rfl hn | j+9,hj,_=>absurd hj (by omega)) hX,(by rw[gn 8 6,gn 8 1];exact hs.2)⟩;obtain⟨W1,sa,sb,sc,sd,hg1,hO,hob,hR,hKk⟩:=RS;obtain⟨ao5,cap5,ev5⟩:=ownQ_slice hO;have hq2:SqdY g ao n cap cs T3 m1 d1 iv bv n1 xs Wd (lq.setIfInBounds 8 true) aq (W.setCell ⟨T3,2,none⟩ (.slice ao5 (n1+1) cap5)):=hq _ ⟨W1,W,_,sa,sb,sc,sd,hg1,hO,hob,hR,hKk,by rw[ev5]⟩;change aq.tmps.getD 79 undef= .slice ao5 (n1+1) cap5 at ev5;have hTW:T3<Wd.heap.size:=by rw[hWe];exact hBT.lt
    have BR:Blk W T3 [.int .i64 m1,.int .i64 d1,iv,bv]:=(((show Blk Wd T3 [.int .i64 m1,.int .i64 d1,iv,bv] by rw[hWe];exact hBT).kept hKk hT3g).alloc _).grown hg1 (fun e=>hivT e.symm);have y2:=BR.f 2 rfl;have x2:=BR.c 2 rfl;rw[Array.getD_eq_getD_getElem?] at ev5;clear hg1 hO hob hR hKk hq BR hTW hBT hown0 hR0;clear hs hWe;have hK:=HW 8 rfl;generalize JJ _=K at hK⊢;clear ho hall hl HK HW hJ2 hS z1 z2;go_simp;exact hK _ (z5.setCell (Nat.le_of_lt hT3l) _) (fun _ _ h=>h.same) trivial hq2
   | iq+9,ho=>simp at ho
 · intro lq aq W ⟨hJ,hs⟩ hr;obtain⟨z1,z2,z3,z4,z5,z6,z7⟩:=hJ;have hl:=listed_of hr [0,1,2,3,4,5,6,7,8] [] (by simp) (by kernel_rfl) (by rw[z1];decide);exact hQ aq W z2 z3 (fun e he=>z4 e (by simpa using he)) (z7 8 (hl 8 (by simp)) rfl) z5 (by have hZ:=hl 8 (by simp);exact hs.1.done (by decide) hZ)
theorem kept_grown {g:Nat} {w W W' :World} {row:Option Nat} (K:Kept g w W) (hg:W.grownBy W' row) (hr:∀k,row=some k→w.heap.size≤k):Kept g w W' :=by
 have hs:=K.size;have hb:∀k,k<w.heap.size→W'.heap[k]? =W.heap[k]? :=fun k hk=>hg.block k (by omega) (by intro e;have:=hr k e.symm;omega);exact⟨hg.os.trans K.os,hg.tape.trans K.tape,hg.output.trans K.output,Nat.le_trans K.size hg.size,fun k hk hne=>(hb k hk).trans (K.block k hk hne),fun j hj hl=>(World.cell?_of_block (a:=⟨g,j,none⟩) (hb g hl)).trans (K.other j hj hl)⟩
theorem rdr_grown {w w' :World} {g:Nat} {ao:Option Addr} {n cap:Nat} {cs:List Int} {row:Option Nat} (h:Rdr w g ao n cap cs) (hg:w.grownBy w' row) (hr:∀k,row=some k→g<k):Rdr w' g ao n cap cs:=by
 have hl:=h.lt;have hb:∀k,k≤g→w'.heap[k]? =w.heap[k]? :=fun k hk=>hg.block k (by omega) (by intro e;have:=hr k e.symm;omega);obtain⟨p,hp,B⟩:=h.blk;refine⟨⟨p,hp,Nat.lt_of_lt_of_le B.lt hg.size,fun i v hi=>⟨(World.cell?_of_block (hb g (Nat.le_refl _))).trans (B.c i hi),(World.frozen?_of_block (hb g (Nat.le_refl _))).trans (B.f i hi)⟩⟩,fun i hi=>?_,h.len,h.small,h.byte⟩;obtain⟨b,off,e,hlt,hc⟩:=h.bytes i hi;exact⟨b,off,e,hlt,(World.cell?_of_block (hb b (by omega))).trans hc⟩
structure EnQ (g:Nat) (ao:Option Addr) (n cap:Nat) (cs:List Int) (w:World) (T3 K:Nat) (m1 d1:Int) (io1 bo1:Option Addr) (n1 ic1 N1 bc1:Nat) (W:World):Prop where
 tree:Blk W T3 [.int .i64 m1,.int .i64 d1,.slice io1 n1 ic1,.slice bo1 N1 bc1]
 tq:TqP K (fun b=>w.heap.size<b∧b≠T3) (.agg #[.int .i64 m1,.int .i64 d1,.slice io1 n1 ic1,.slice bo1 N1 bc1]) W
 res:Blk W w.heap.size [.int .i64 0,.int .i64 0,.slice none 0 0,.slice none 0 0]
 rdr:Rdr W g ao n cap cs
 kep:Kept g w W
 fix:g<w.heap.size∧w.heap.size<T3
theorem EnQ.draw {g:Nat} {ao:Option Addr} {n cap:Nat} {cs:List Int} {w:World} {T3 K:Nat} {m1 d1:Int} {io1 bo1:Option Addr} {n1 ic1 N1 bc1:Nat} {W W2:World} (h:EnQ g ao n cap cs w T3 K m1 d1 io1 bo1 n1 ic1 N1 bc1 W) (R:Rdr W2 g ao n cap cs) (K1:Kept g W W2):EnQ g ao n cap cs w T3 K m1 d1 io1 bo1 n1 ic1 N1 bc1 W2:=
 have hf:=h.fix
 ⟨h.tree.kept K1 (by omega),h.tq.kept K1 (fun e=>by have:=e.1;omega),h.res.kept K1 (by omega),R,h.kep.trans K1,hf⟩
theorem EnQ.step {g:Nat} {ao:Option Addr} {n cap:Nat} {cs:List Int} {w:World} {T3 K:Nat} {m1 d1:Int} {io1 bo1:Option Addr} {n1 ic1 N1 bc1:Nat} {W W2:World} (h:EnQ g ao n cap cs w T3 K m1 d1 io1 bo1 n1 ic1 N1 bc1 W) (hB:Below W.heap.size W W2):EnQ g ao n cap cs w T3 K m1 d1 io1 bo1 n1 ic1 N1 bc1 W2:=h.draw (h.rdr.step hB) (Kept.of hB)
theorem EnQ.mono {g:Nat} {ao:Option Addr} {n cap:Nat} {cs:List Int} {w:World} {T3 K K2:Nat} {m1 d1:Int} {io1 bo1:Option Addr} {n1 ic1 N1 bc1:Nat} {W:World} (h:EnQ g ao n cap cs w T3 K m1 d1 io1 bo1 n1 ic1 N1 bc1 W) (hK:K≤K2):EnQ g ao n cap cs w T3 K2 m1 d1 io1 bo1 n1 ic1 N1 bc1 W:=⟨h.tree,h.tq.mono hK,h.res,h.rdr,h.kep,h.fix⟩
theorem EnQ.set4 {g:Nat} {ao:Option Addr} {n cap:Nat} {cs:List Int} {w:World} {T3 K:Nat} {m1 d1:Int} {io1 bo1:Option Addr} {n1 ic1 N1 bc1:Nat} {W0 W:World} (h0:EnQ g ao n cap cs w T3 K m1 d1 io1 bo1 n1 ic1 N1 bc1 W0) (hB:Below W0.heap.size W0 W) {m2 d2:Int} {io2 bo2:Option Addr} {n2 ic2 N2 bc2:Nat} (T:TqP K (fun y=>W0.heap.size≤y) (.agg #[.int .i64 m2,.int .i64 d2,.slice io2 n2 ic2,.slice bo2 N2 bc2]) W):EnQ g ao n cap cs w T3 K m2 d2 io2 bo2 n2 ic2 N2 bc2 ((((W.setCell ⟨T3,0,none⟩ (.int .i64 m2)).setCell ⟨T3,1,none⟩ (.int .i64 d2)).setCell ⟨T3,2,none⟩ (.slice io2 n2 ic2)).setCell ⟨T3,3,none⟩ (.slice bo2 N2 bc2)):=by
 have hf:=h0.fix;have hl:=h0.tree.lt;have h:=h0.step hB;have hgT:g<T3:=by omega
 have hne:∀{V0:World} {j:Nat} {u:Value},Rdr V0 g ao n cap cs→Rdr (V0.setCell ⟨T3,j,none⟩ u) g ao n cap cs:=fun h=>h.setN hgT _;have hke:∀{V0:World} {j:Nat} {u:Value},Kept g w V0→Kept g w (V0.setCell ⟨T3,j,none⟩ u):=fun h=>h.setN (by show w.heap.size≤T3;omega) (by show g≠T3;omega) _;have hbl:∀{V0:World} {j:Nat} {u:Value} {vs:List Value},Blk V0 w.heap.size vs→Blk (V0.setCell ⟨T3,j,none⟩ u) w.heap.size vs:=fun h=>h.setO (by show _≠T3;omega) _;refine⟨(set4_blk h.tree _ _ _ _).out,(T.to (fun b h1 _=>⟨by omega,by omega⟩)).keep (by simp[World.setCell]) (fun b hb _=>set4_heap hb.2),hbl (hbl (hbl (hbl h.res))),hne (hne (hne (hne h.rdr))),hke (hke (hke (hke h.kep))),hf⟩
theorem EnQ.less {g:Nat} {ao:Option Addr} {n cap:Nat} {cs:List Int} {w:World} {T3 K:Nat} {m1 d1:Int} {io1 bo1:Option Addr} {n1 ic1 N1 bc1:Nat} {W:World} (h:EnQ g ao n cap cs w T3 K m1 d1 io1 bo1 n1 ic1 N1 bc1 W):EnQ g ao n cap cs w T3 K m1 d1 io1 bo1 n1 ic1 (N1-1) bc1 (W.setCell ⟨T3,3,none⟩ (.slice bo1 (N1-1) bc1)):=by
 have hf:=h.fix;refine⟨h.tree.setI 3 (by simp) _,h.tq.less.keep (by simp[World.setCell]) (fun b hb _=>Below.heap_setCell _ _ _ _ hb.2),h.res.setO (by show _≠T3;omega) _,h.rdr.setN (by show g<T3;omega) _,h.kep.setN (by show w.heap.size≤T3;omega) (by show g≠T3;omega) _,hf⟩
theorem EnQ.fin {g:Nat} {ao:Option Addr} {n cap:Nat} {cs:List Int} {w:World} {T3 K:Nat} {m1 d1:Int} {io1 bo1:Option Addr} {n1 ic1 N1 bc1:Nat} {W:World} (h:EnQ g ao n cap cs w T3 K m1 d1 io1 bo1 n1 ic1 N1 bc1 W):Hid (TqP K (fun b=>w.heap.size≤b) (.agg #[.int .i64 m1,.int .i64 d1,.slice io1 n1 ic1,.slice bo1 N1 bc1]) ((((W.setCell ⟨w.heap.size,0,none⟩ (.int .i64 m1)).setCell ⟨w.heap.size,1,none⟩ (.int .i64 d1)).setCell ⟨w.heap.size,2,none⟩ (.slice io1 n1 ic1)).setCell ⟨w.heap.size,3,none⟩ (.slice bo1 N1 bc1))∧Rdr ((((W.setCell ⟨w.heap.size,0,none⟩ (.int .i64 m1)).setCell ⟨w.heap.size,1,none⟩ (.int .i64 d1)).setCell ⟨w.heap.size,2,none⟩ (.slice io1 n1 ic1)).setCell ⟨w.heap.size,3,none⟩ (.slice bo1 N1 bc1)) g ao n cap cs∧Kept g w ((((W.setCell ⟨w.heap.size,0,none⟩ (.int .i64 m1)).setCell ⟨w.heap.size,1,none⟩ (.int .i64 d1)).setCell ⟨w.heap.size,2,none⟩ (.slice io1 n1 ic1)).setCell ⟨w.heap.size,3,none⟩ (.slice bo1 N1 bc1))):=by
 have hf:=h.fix;have hne:∀{V0:World} {j:Nat} {u:Value},Rdr V0 g ao n cap cs→Rdr (V0.setCell ⟨w.heap.size,j,none⟩ u) g ao n cap cs:=fun h=>h.setN hf.1 _;have hke:∀{V0:World} {j:Nat} {u:Value},Kept g w V0→Kept g w (V0.setCell ⟨w.heap.size,j,none⟩ u):=fun h=>h.setN (Nat.le_refl _) (by show g≠w.heap.size;omega) _;have hT:TqP K (fun b=>w.heap.size<b) (.agg #[.int .i64 m1,.int .i64 d1,.slice io1 n1 ic1,.slice bo1 N1 bc1]) ((((W.setCell ⟨w.heap.size,0,none⟩ (.int .i64 m1)).setCell ⟨w.heap.size,1,none⟩ (.int .i64 d1)).setCell ⟨w.heap.size,2,none⟩ (.slice io1 n1 ic1)).setCell ⟨w.heap.size,3,none⟩ (.slice bo1 N1 bc1)):=(h.tq.to (fun b h1 _=>h1.1)).keep (by simp[World.setCell]) (fun b hb _=>set4_heap (by omega));exact⟨hT.to (fun b h1 _=>Nat.le_of_lt h1),hne (hne (hne (hne h.rdr))),hke (hke (hke (hke h.kep)))⟩
theorem TqP.lens {k:Nat} {ok:Nat→Prop} {m d:Int} {io bo:Option Addr} {n ic N bc:Nat} {W:World} (h:TqP k ok (.agg #[.int .i64 m,.int .i64 d,.slice io n ic,.slice bo N bc]) W):n≤k∧N≤bc∧N≤2000∧(0<N→∃A off,bo=some ⟨A,off,none⟩):=by
 obtain⟨m',d',io',n',ic',bo',N',bc',e,h1,h2,h3,h4⟩:=h.form;have e1:=Value.agg.inj e;simp only[Array.mk.injEq,List.cons.injEq,Value.slice.injEq,Value.int.injEq] at e1;obtain⟨_,_,⟨rfl,rfl,rfl⟩,⟨rfl,rfl,rfl⟩,_⟩:=e1;exact⟨h1,h2,h3,h4⟩
theorem TqP.own {k:Nat} {ok:Nat→Prop} {m d:Int} {iv bv:Value} {W:World} (h:TqP k ok (.agg #[.int .i64 m,.int .i64 d,iv,bv]) W):∀b,iv.ownBlock=some b→ok b∧b<W.heap.size:=by
 obtain⟨Q,m',d',io,bo,ic,bc,A,off,so,e,h2,h3,h4,h5,h6,h7,h8,h9,h10,h11⟩:=h;have e1:=Value.agg.inj e;simp only[Array.mk.injEq,List.cons.injEq,Value.int.injEq] at e1;obtain⟨_,_,rfl,_⟩:=e1;exact fun b hb=>⟨h8.2 b hb,(h8.1.lt b hb).2⟩
theorem EnQ.more {g:Nat} {ao:Option Addr} {n cap:Nat} {cs:List Int} {w:World} {T3 K:Nat} {m1 d1:Int} {io1 bo1:Option Addr} {n1 ic1 N1 bc1:Nat} {W0 W1 W2:World} (h:EnQ g ao n cap cs w T3 K m1 d1 io1 bo1 n1 ic1 N1 bc1 W0) {n' :Nat} {xs:List Value} (hmake:∀(W2:World) (v' :Value) (id a b c e:Int),W2.ownsRow 0 40 5 v' (n' +1) (xs ++[.int .i64 id,.int .i64 a,.int .i64 b,.int .i64 c,.int .i64 e])→W0.heap.size≤W2.heap.size→(∀x,(w.heap.size<x∧x≠T3)→x<W0.heap.size→some x≠(Value.slice io1 n1 ic1).ownBlock→W2.heap[x]? =W0.heap[x]?)→(v'.ownBlock=(Value.slice io1 n1 ic1).ownBlock∨∀x,v'.ownBlock=some x→W0.heap.size≤x∧(w.heap.size<x∧x≠T3))→TqP (K+1) (fun b=>w.heap.size<b∧b≠T3) (.agg #[.int .i64 m1,.int .i64 d1,v',.slice bo1 N1 bc1]) W2) {v2:Value} {sa sb sc sd:Int} (hg1:(W1.alloc (.cells #[.int .i64 9,.int .i64 sa,.int .i64 sb,.int .i64 sc,.int .i64 sd] 40)).grownBy W2 (Value.slice io1 n1 ic1).ownBlock) (hO:W2.ownsRow 0 40 5 v2 (n' +1) (xs ++[.int .i64 9,.int .i64 sa,.int .i64 sb,.int .i64 sc,.int .i64 sd])) (hob:v2.ownBlock=(Value.slice io1 n1 ic1).ownBlock∨v2.ownBlock=some (W1.heap.size+1)) (R:Rdr W1 g ao n cap cs) (K1:Kept g W0 W1):∃io2 ic2,v2= .slice io2 (n' +1) ic2∧EnQ g ao n cap cs w T3 (K+1) m1 d1 io2 bo1 (n' +1) ic2 N1 bc1 (W2.setCell ⟨T3,2,none⟩ v2):=by
 have hf:=h.fix;have hw:=h.kep.size;have hT:=h.tree.lt;have hsz:=K1.size;have hown:=h.tq.own;obtain⟨io2,ic2,rfl⟩:=ownQ_slice hO;have hgs:=hg1.size;rw[show(W1.alloc (.cells #[.int .i64 9,.int .i64 sa,.int .i64 sb,.int .i64 sc,.int .i64 sd] 40)).heap.size=W1.heap.size+1 by simp] at hgs;have h1:=h.draw R K1;have h2:=h1.step ((Below.refl _ W1).alloc (Nat.le_refl _) (.cells #[.int .i64 9,.int .i64 sa,.int .i64 sb,.int .i64 sc,.int .i64 sd] 40));have BT:=h2.tree.grown hg1 (fun e=>(hown T3 e.symm).1.2 rfl);have BR:=h2.res.grown hg1 (fun e=>by have:=(hown _ e.symm).1.1;omega);have RR:=rdr_grown h2.rdr hg1 (fun k hk=>by have:=(hown k hk).1.1;omega);have KK:=kept_grown h2.kep hg1 (fun k hk=>by have:=(hown k hk).1.1;omega);have TT:=hmake W2 _ 9 sa sb sc sd hO (by omega) (fun x hx hl hne=>((hg1.block x (by simp;omega) hne).trans (Below.heap_alloc _ _ _ (by omega))).trans (K1.block x hl (by omega))) (hob.imp_right fun e x hx=>by
  have e2:W1.heap.size+1=x:=Option.some.inj (e.symm.trans hx)
  omega)
 exact⟨io2,ic2,rfl,BT.setI 2 (by simp) _,TT.keep (by simp[World.setCell]) (fun b hb _=>Below.heap_setCell _ _ _ _ hb.2),BR.setO (by show _≠T3;omega) _,RR.setN (by show g<T3;omega) _,KK.setN (by show w.heap.size≤T3;omega) (by show g≠T3;omega) _,hf⟩
theorem quad_any (g:Nat) (ao:Option Addr) (n cap:Nat) (cs:List Int) (w:World) (h:Rdr w g ao n cap cs) :
 Calls Tryz.prog 12 #[.pointer (some ⟨g,0,none⟩)] w (fun r w' =>∃v,r= .returned v∧TqP 42 (fun b=>w.heap.size≤b) v w' ∧Rdr w' g ao n cap cs∧Kept g w w'):=by
 have hg:=h.lt;have hne:w.heap.size≠g:=by omega
 have B:=Blk.new w [.int .i64 0,.int .i64 0,.slice none 0 0,.slice none 0 0] 27 rfl;rw[show([.int .i64 0,.int .i64 0,.slice none 0 0,.slice none 0 0]:List Value).toArray=#[.int .i64 0,.int .i64 0,.slice none 0 0,.slice none 0 0] from rfl] at B;have R:=h.alloc (.cells #[.int .i64 0,.int .i64 0,.slice none 0 0,.slice none 0 0] 27);have K:=(Kept.refl g w).alloc (.cells #[.int .i64 0,.int .i64 0,.slice none 0 0,.slice none 0 0] 27);clear h
 go_enter Tryz.func12,Tryz.ntmps12
 go_wp2_with fail;refine(below_any 3 (by decide) (by decide) g ao n cap cs _ R).mono ?_;rintro e w1 ⟨_,rfl,⟨va,rfl,va0,va1⟩,R1,K1⟩;replace K:=K.trans K1;replace B:=B.kept K1 hne;clear R K1;have R:=R1;clear R1;go_wp2_with fail;refine(below_any 6 (by decide) (by decide) g ao n cap cs _ R).mono ?_;rintro e w2 ⟨_,rfl,⟨vb,rfl,vb0,vb1⟩,R1,K1⟩;replace K:=K.trans K1;replace B:=B.kept K1 hne;clear R K1;have R:=R1;clear R1;go_wp2_with fail;have h2s:w.heap.size<w2.heap.size:=B.lt;refine(newT_any (fun b=>w.heap.size<b) _ _ w2 (fun b hb=>by omega)).mono ?_;rintro e w4 ⟨uq,fq,rfl,T,hB⟩;replace B:=B.step hB;replace R:=R.step hB;replace K:=K.trans (Kept.of hB);clear hB;obtain⟨m0,d0,io0,n0,ic0,bo0,N0,bc0,rfl,_,_,_,_⟩:=T.form;have T:=T.to (ok' :=(fun b=>w.heap.size<b∧b≠w4.heap.size)) (fun b hb hl=>⟨hb,by omega⟩);have h4s:w.heap.size<w4.heap.size:=B.lt;have h4g:w4.heap.size≠g:=by have:=R.lt;omega
 have BT:=Blk.new w4 [.int .i64 m0,.int .i64 d0,.slice io0 n0 ic0,.slice bo0 N0 bc0] 27 rfl;rw[show([.int .i64 m0,.int .i64 d0,.slice io0 n0 ic0,.slice bo0 N0 bc0]:List Value).toArray=#[.int .i64 m0,.int .i64 d0,.slice io0 n0 ic0,.slice bo0 N0 bc0] from rfl] at BT;have hBa:=(Below.refl w4.heap.size w4).alloc (Nat.le_refl _) (.cells #[.int .i64 m0,.int .i64 d0,.slice io0 n0 ic0,.slice bo0 N0 bc0] 27);have TT:=T.keep hBa.size (fun b _ hl=>hBa.block b hl);replace B:=B.alloc (.cells #[.int .i64 m0,.int .i64 d0,.slice io0 n0 ic0,.slice bo0 N0 bc0] 27);replace R:=R.alloc (.cells #[.int .i64 m0,.int .i64 d0,.slice io0 n0 ic0,.slice bo0 N0 bc0] 27);replace K:=K.alloc (.cells #[.int .i64 m0,.int .i64 d0,.slice io0 n0 ic0,.slice bo0 N0 bc0] 27);clear T hBa;have T:=TT;clear TT;go_upto_region 2 with fail;generalize (w4.alloc (.cells #[.int .i64 m0,.int .i64 d0,.slice io0 n0 ic0,.slice bo0 N0 bc0] 27))=W5 at *;go_wp2_with fail;refine(below_any 8 (by decide) (by decide) g ao n cap cs _ R).mono ?_;rintro e w6 ⟨_,rfl,⟨vn,rfl,vn0,vn1⟩,R1,K1⟩;replace K:=K.trans K1;replace T:=T.kept K1 (fun h=>by omega);replace B:=B.kept K1 hne;replace BT:=BT.kept K1 h4g;clear R K1;have R:=R1;clear R1;obtain⟨nn,rfl⟩:∃nn:Nat,vn=(nn:Int):=⟨vn.toNat,by omega⟩;go_wp2_with fail
 go_loopw [6] (fun ic wr=>∃(c:Nat) (m1 d1:Int) (io1 bo1:Option Addr) (n1 ic1 N1 bc1:Nat),c≤nn∧ic= .int .i64 c∧Blk wr w4.heap.size [.int .i64 m1,.int .i64 d1,.slice io1 n1 ic1,.slice bo1 N1 bc1]∧TqP 41 (fun b=>w.heap.size<b∧b≠w4.heap.size) (.agg #[.int .i64 m1,.int .i64 d1,.slice io1 n1 ic1,.slice bo1 N1 bc1]) wr∧Blk wr w.heap.size [.int .i64 0,.int .i64 0,.slice none 0 0,.slice none 0 0]∧Rdr wr g ao n cap cs∧Kept g w wr) (fun i _=>nn-(intOf i).toNat)
 case atStart=>exact⟨0,m0,d0,io0,bo0,n0,ic0,N0,bc0,by omega,rfl,BT,T.mono (by omega),B,R,K⟩
 case round=>
  clear BT T B R K;obtain⟨c,m1,d1,io1,bo1,n1,ic1,N1,bc1,hc,rfl,BT,T,B,R,K⟩:=hrel
  by_cases hcn:c<nn
  · have hcI:(c:Int)<nn:=by omega
    go_upto_region 6 with fail;have hT3:w4.heap.size<wr.heap.size:=BT.lt;have hP3:w.heap.size<wr.heap.size:=B.lt;have hdr:Below wr.heap.size wr wr.drew:=(Below.refl _ wr).drew;have P0:PqF g ao n cap cs w w4.heap.size w.heap.size (fun b=>w.heap.size<b∧b≠w4.heap.size) m1 d1 io1 bo1 n1 ic1 N1 bc1 wr.heap.size wr.drew:=⟨R.drew,K.drew,BT.step hdr,B.step hdr,(T.to (ok' :=fun b=>(fun b=>w.heap.size<b∧b≠w4.heap.size) b∧b<wr.heap.size) (fun b h1 h2=>⟨h1,h2⟩)).keep hdr.size (fun b _ hl=>hdr.block b hl),hdr.size,h4g,hne,fun e=>by have:=e.1;omega⟩;refine qdR (g:=g) (ao:=ao) (n:=n) (cap:=cap) (cs:=cs) (wz:=w) (T3:=w4.heap.size) (P0:=w.heap.size) (OK:=(fun b=>w.heap.size<b∧b≠w4.heap.size)) (m1:=m1) (d1:=d1) (io1:=io1) (bo1:=bo1) (n1:=n1) (ic1:=ic1) (N1:=N1) (bc1:=bc1) (B4:=wr.heap.size) ⟨hT3,hP3,by omega⟩ R.lt rfl tgF_keep P0 rfl rfl rfl ?_;rintro⟨tm,df⟩ wx hz hdf hoff hV hBx ⟨⟨gg,vs,lo,hi,e7,hgg,G7,T7,hlo,hhi,hsep⟩,PX⟩;simp only at hz hdf hoff e7;obtain⟨b8,e8⟩:∃b,tm.getD 8 undef= .bool b:=hV;subst hdf;have htm:=tmps_fold [26,27,28,29,30,31,32,25,33,34,7,8] tm _ hz hoff;simp only[List.foldl,List.setIfInBounds_toArray,List.set_cons_zero,List.set_cons_succ,e7,e8] at htm;clear hz hoff;generalize tm.getD 26 undef=pz0,tm.getD 27 undef=pz1,tm.getD 28 undef=pz2,tm.getD 29 undef=pz3,tm.getD 30 undef=pz4,tm.getD 31 undef=pz5,tm.getD 32 undef=pz6,tm.getD 25 undef=pz7,tm.getD 33 undef=pz8,tm.getD 34 undef=pz9 at htm;clear e7 e8;subst htm;obtain⟨m2,d2,io2,n2,ic2,bo2,N2,bc2,ev,_⟩:=TqP.form T7;obtain rfl:vs=[.int .i64 m2,.int .i64 d2,.slice io2 n2 ic2,.slice bo2 N2 bc2]:=by have h:=Value.agg.inj ev;exact congrArg Array.toList h
    clear ev BT T B R K P0 hBx;cases b8
    · have TO:Hid (TqP 41 (fun b=>w.heap.size<b∧b≠w4.heap.size) (.agg #[.int .i64 m1,.int .i64 d1,.slice io1 n1 ic1,.slice bo1 N1 bc1]) wx):=PX.old.to (fun b h1 _=>h1.1);have PBT:=PX.tree;have PB:=PX.res;have PR:=PX.rdr;have PK:=PX.kep;clear PX T7 G7;go_wp2;go_roundw
      case rel=>exact⟨c+1,m1,d1,io1,bo1,n1,ic1,N1,bc1,by omega,by go_num,PBT,TO.out,PB,PR,PK⟩
      case measure=>simp[intOf];omega
    · have q0:=G7.c 0 rfl;have q1:=G7.c 1 rfl;have q2:=G7.c 2 rfl;have q3:=G7.c 3 rfl;have PBT:=PX.tree;have y0:=PBT.f 0 rfl;have y1:=PBT.f 1 rfl;have y2:=PBT.f 2 rfl;have y3:=PBT.f 3 rfl;have x0:=PBT.c 0 rfl;have x1:=PBT.c 1 rfl;have x2:=PBT.c 2 rfl;have x3:=PBT.c 3 rfl;have NB:=(set4_blk PBT (.int .i64 m2) (.int .i64 d2) (.slice io2 n2 ic2) (.slice bo2 N2 bc2)).out;have hgT:g<w4.heap.size:=by omega
      have hKT:w.heap.size≤w4.heap.size:=by omega
      have NT:Hid (TqP 41 (fun b=>w.heap.size<b∧b≠w4.heap.size) (.agg #[.int .i64 m2,.int .i64 d2,.slice io2 n2 ic2,.slice bo2 N2 bc2]) ((((wx.setCell ⟨w4.heap.size,0,none⟩ (.int .i64 m2)).setCell ⟨w4.heap.size,1,none⟩ (.int .i64 d2)).setCell ⟨w4.heap.size,2,none⟩ (.slice io2 n2 ic2)).setCell ⟨w4.heap.size,3,none⟩ (.slice bo2 N2 bc2))):=(TqP.to T7 (ok' :=(fun b=>w.heap.size<b∧b≠w4.heap.size)) (fun b h1 _=>⟨by omega,by omega⟩)).keep (by simp[World.setCell]) (fun b hb _=>set4_heap hb.2);have NP:Blk ((((wx.setCell ⟨w4.heap.size,0,none⟩ (.int .i64 m2)).setCell ⟨w4.heap.size,1,none⟩ (.int .i64 d2)).setCell ⟨w4.heap.size,2,none⟩ (.slice io2 n2 ic2)).setCell ⟨w4.heap.size,3,none⟩ (.slice bo2 N2 bc2)) w.heap.size [.int .i64 0,.int .i64 0,.slice none 0 0,.slice none 0 0]:=(((PX.res.setO (p:=⟨w4.heap.size,0,none⟩) (by show w.heap.size≠w4.heap.size;omega) _).setO (p:=⟨w4.heap.size,1,none⟩) (by show w.heap.size≠w4.heap.size;omega) _).setO (p:=⟨w4.heap.size,2,none⟩) (by show w.heap.size≠w4.heap.size;omega) _).setO (p:=⟨w4.heap.size,3,none⟩) (by show w.heap.size≠w4.heap.size;omega) _;have NR:Rdr ((((wx.setCell ⟨w4.heap.size,0,none⟩ (.int .i64 m2)).setCell ⟨w4.heap.size,1,none⟩ (.int .i64 d2)).setCell ⟨w4.heap.size,2,none⟩ (.slice io2 n2 ic2)).setCell ⟨w4.heap.size,3,none⟩ (.slice bo2 N2 bc2)) g ao n cap cs:=(((PX.rdr.setN (p:=⟨w4.heap.size,0,none⟩) hgT _).setN (p:=⟨w4.heap.size,1,none⟩) hgT _).setN (p:=⟨w4.heap.size,2,none⟩) hgT _).setN (p:=⟨w4.heap.size,3,none⟩) hgT _;have NK:Kept g w ((((wx.setCell ⟨w4.heap.size,0,none⟩ (.int .i64 m2)).setCell ⟨w4.heap.size,1,none⟩ (.int .i64 d2)).setCell ⟨w4.heap.size,2,none⟩ (.slice io2 n2 ic2)).setCell ⟨w4.heap.size,3,none⟩ (.slice bo2 N2 bc2)):=(((PX.kep.setN (p:=⟨w4.heap.size,0,none⟩) hKT (fun e=>h4g e.symm) _).setN (p:=⟨w4.heap.size,1,none⟩) hKT (fun e=>h4g e.symm) _).setN (p:=⟨w4.heap.size,2,none⟩) hKT (fun e=>h4g e.symm) _).setN (p:=⟨w4.heap.size,3,none⟩) hKT (fun e=>h4g e.symm) _;clear PX T7 G7 PBT;go_wp2;go_roundw
      case rel=>exact⟨c+1,m2,d2,io2,bo2,n2,ic2,N2,bc2,by omega,by go_num,NB,NT.out,NP,NR,NK⟩
      case measure=>simp[intOf];omega
  · have hcI:¬(c:Int)<nn:=by omega
    have hwT:w.heap.size<w4.heap.size:=h4s;have E:EnQ g ao n cap cs w w4.heap.size 41 m1 d1 io1 bo1 n1 ic1 N1 bc1 wr:=⟨BT,T,B,R,K,hg,hwT⟩;clear BT T B R K;generalize w4.heap.size=T3 at *;go_upto_region 9 with fail
    go_cut [44] (fun pv wx=>(∃t:Bool,pv= .bool t∧(t=true→0<n1))∧EnQ g ao n cap cs w T3 41 m1 d1 io1 bo1 n1 ic1 N1 bc1 wx)
    case first=>
     go_wp2_with fail;refine(once_any 4 (by decide) (by decide) g ao n cap cs _ E.rdr).mono ?_;rintro e w7 ⟨_,rfl,⟨t,rfl⟩,R1,K1⟩;replace E:=E.draw R1 K1;clear R1 K1;have x2:=E.tree.c 2 rfl;have y2:=E.tree.f 2 rfl;cases t
     · go_wp2;go_meet
       case rel=>exact⟨⟨false,rfl,fun h=>by cases h⟩,E⟩
     · by_cases h0:(0:Int)<n1
       · go_wp2;go_meet
         case rel=>exact⟨⟨_,rfl,fun h=>of_decide_eq_true h⟩,E⟩
       · go_wp2;go_meet
         case rel=>exact⟨⟨_,rfl,fun h=>of_decide_eq_true h⟩,E⟩
    case rest=>
     clear E;obtain⟨⟨t,rfl,ht⟩,E⟩:=hcut
     rename_i hk
     refine hk _ _ ?_;clear hk
     go_cut [] (fun wx=>∃(m2 d2:Int) (io2 bo2:Option Addr) (n2 ic2 N2 bc2:Nat),EnQ g ao n cap cs w T3 41 m2 d2 io2 bo2 n2 ic2 N2 bc2 wx)
     case first=>
      cases t
      · go_wp2;go_meet
        case rel=>exact⟨_,_,_,_,_,_,_,_,E⟩
      · have h0:=ht rfl;obtain⟨gi,id,rfl,hgi,hci⟩:=E.tq.first h0
        have hn41:=E.tq.lens.1;go_upto_region 10 with fail;have E2:=E.step (Below.refl _ wc).drew;refine qdX (T3:=T3) (gi:=gi) (id:=id) E.tree.lt h0 (by omega) (E2.tq.to (fun _ _ _=>trivial)) ((World.cell?_of_block (w:=wc) (a:=⟨gi,0,none⟩) ((Below.refl _ wc).drew.block gi hgi)).trans hci) E2.tree rfl rfl rfl ?_;rintro⟨tm,df⟩ wx hz hdf hoff _ _ ⟨W2,m2,d2,io2,bo2,n2,ic2,N2,bc2,T2,hB2,rfl⟩;have EN:=E2.set4 hB2 T2;simp only at hz hdf hoff;subst hdf;have htm:=tmps_fold [46,47,48,49,50,51,52,45,53,54] tm _ hz hoff;simp only[List.foldl,List.setIfInBounds_toArray,List.set_cons_zero,List.set_cons_succ] at htm;clear hz hoff E E2 hB2 T2 hci;generalize tm.getD 46 undef=pz0,tm.getD 47 undef=pz1,tm.getD 48 undef=pz2,tm.getD 49 undef=pz3,tm.getD 50 undef=pz4,tm.getD 51 undef=pz5,tm.getD 52 undef=pz6,tm.getD 45 undef=pz7,tm.getD 53 undef=pz8,tm.getD 54 undef=pz9 at htm;subst htm;generalize ((((W2.setCell ⟨T3,0,none⟩ (.int .i64 m2)).setCell ⟨T3,1,none⟩ (.int .i64 d2)).setCell ⟨T3,2,none⟩ (.slice io2 n2 ic2)).setCell ⟨T3,3,none⟩ (.slice bo2 N2 bc2))=WN at *;go_wp2;go_meet
        case rel=>exact⟨_,_,_,_,_,_,_,_,EN⟩
     case rest=>
      clear E ht;obtain⟨m2,d2,io2,bo2,n2,ic2,N2,bc2,E⟩:=hcut
      rename ∀(a:Act) (w_1:World),Code.wp _ _ _ _ _→_=>hk
      refine hk _ _ ?_;clear hk;go_upto_region 11 with fail
      go_cut [62] (fun pv wx=>(∃t:Bool,pv= .bool t∧(t=true→1<N2))∧EnQ g ao n cap cs w T3 41 m2 d2 io2 bo2 n2 ic2 N2 bc2 wx)
      case first=>
       go_wp2_with fail;refine(once_any 16 (by decide) (by decide) g ao n cap cs _ E.rdr).mono ?_;rintro e w7 ⟨_,rfl,⟨t,rfl⟩,R1,K1⟩;replace E:=E.draw R1 K1;clear R1 K1;have x3:=E.tree.c 3 rfl;have y3:=E.tree.f 3 rfl;cases t
       · go_wp2;go_meet
         case rel=>exact⟨⟨false,rfl,fun h=>by cases h⟩,E⟩
       · by_cases h0:(1:Int)<N2
         · go_wp2;go_meet
           case rel=>first | exact⟨⟨_,rfl,fun h=>by have:=of_decide_eq_true h;omega⟩,E⟩ | exact⟨⟨true,rfl,fun _=>by omega⟩,E⟩
         · go_wp2;go_meet
           case rel=>first | exact⟨⟨_,rfl,fun h=>by have:=of_decide_eq_true h;omega⟩,E⟩ | exact⟨⟨true,rfl,fun _=>by omega⟩,E⟩
      case rest=>
       clear E;obtain⟨⟨t,rfl,ht⟩,E⟩:=hcut
       rename_i hk
       refine hk _ _ ?_;clear hk
       go_cut [] (fun wx=>∃(m2 d2:Int) (io2 bo2:Option Addr) (n2 ic2 N2 bc2:Nat),EnQ g ao n cap cs w T3 41 m2 d2 io2 bo2 n2 ic2 N2 bc2 wx)
       case first=>
        cases t
        · go_wp2;go_meet
          case rel=>exact⟨_,_,_,_,_,_,_,_,E⟩
        · have h0:=ht rfl;obtain⟨_,hNb,hN2,hbo⟩:=E.tq.lens;obtain⟨A,off,rfl⟩:=hbo (by omega);have x3:=E.tree.c 3 rfl;have y3:=E.tree.f 3 rfl;have EL:=E.less;obtain⟨q,rfl⟩:∃q,N2=q+1:=⟨N2-1,by omega⟩;rw[Nat.add_sub_cancel] at EL;have hq1:((q+1:Nat):Int)-1=(q:Int):=by omega
          have hq2:wrap64 (((q+1:Nat):Int)-1)=(q:Int):=by rw[hq1];unfold wrap64;omega
          go_wp2;go_meet
          case rel=>exact⟨_,_,_,_,_,_,_,_,EL⟩
       case rest=>
        clear E ht;obtain⟨m3,d3,io3,bo3,n3,ic3,N3,bc3,E⟩:=hcut
        rename ∀(a:Act) (w_1:World),Code.wp _ _ _ _ _→_=>hk
        refine hk _ _ ?_;clear hk;go_wp2_with fail;refine(once_any 16 (by decide) (by decide) g ao n cap cs _ E.rdr).mono ?_;rintro e w8 ⟨_,rfl,⟨t,rfl⟩,R1,K1⟩;replace E:=E.draw R1 K1;clear R1 K1;have hfin:∀{K m1 d1 io1 bo1 n1 ic1 N1 bc1 W},K≤42→EnQ g ao n cap cs w T3 K m1 d1 io1 bo1 n1 ic1 N1 bc1 W→Hid (TqP 42 (fun b=>w.heap.size≤b) (.agg #[.int .i64 m1,.int .i64 d1,.slice io1 n1 ic1,.slice bo1 N1 bc1]) ((((W.setCell ⟨w.heap.size,0,none⟩ (.int .i64 m1)).setCell ⟨w.heap.size,1,none⟩ (.int .i64 d1)).setCell ⟨w.heap.size,2,none⟩ (.slice io1 n1 ic1)).setCell ⟨w.heap.size,3,none⟩ (.slice bo1 N1 bc1))∧Rdr ((((W.setCell ⟨w.heap.size,0,none⟩ (.int .i64 m1)).setCell ⟨w.heap.size,1,none⟩ (.int .i64 d1)).setCell ⟨w.heap.size,2,none⟩ (.slice io1 n1 ic1)).setCell ⟨w.heap.size,3,none⟩ (.slice bo1 N1 bc1)) g ao n cap cs∧Kept g w ((((W.setCell ⟨w.heap.size,0,none⟩ (.int .i64 m1)).setCell ⟨w.heap.size,1,none⟩ (.int .i64 d1)).setCell ⟨w.heap.size,2,none⟩ (.slice io1 n1 ic1)).setCell ⟨w.heap.size,3,none⟩ (.slice bo1 N1 bc1))):=fun hK h=>(h.mono hK).fin;cases t
        · have F:=hfin (by omega) E;have x0:=E.tree.c 0 rfl;have x1:=E.tree.c 1 rfl;have x2:=E.tree.c 2 rfl;have x3:=E.tree.c 3 rfl;have z0:=E.res.c 0 rfl;have z1:=E.res.c 1 rfl;have z2:=E.res.c 2 rfl;have z3:=E.res.c 3 rfl;have v0:=E.res.f 0 rfl;have v1:=E.res.f 1 rfl;have v2:=E.res.f 2 rfl;have v3:=E.res.f 3 rfl;have NB:=(set4_blk E.res (.int .i64 m3) (.int .i64 d3) (.slice io3 n3 ic3) (.slice bo3 N3 bc3)).out;clear E;go_wp2;generalize ((((w8.setCell ⟨w.heap.size,0,none⟩ (.int .i64 m3)).setCell ⟨w.heap.size,1,none⟩ (.int .i64 d3)).setCell ⟨w.heap.size,2,none⟩ (.slice io3 n3 ic3)).setCell ⟨w.heap.size,3,none⟩ (.slice bo3 N3 bc3))=WZ at *;have o0:=NB.c 0 rfl;have o1:=NB.c 1 rfl;have o2:=NB.c 2 rfl;have o3:=NB.c 3 rfl;refine bodyPost_ret (v:= .agg #[.int .i64 m3,.int .i64 d3,.slice io3 n3 ic3,.slice bo3 N3 bc3]) (by simp[results,Tryz.results12,go_sem,o0,o1,o2,o3]) rfl ?_;exact⟨_,rfl,F.out⟩
        · go_upto_region 14 with fail;have E2:=E.step (Below.refl _ w8).drew;obtain⟨i0,hi0,hz0,hz1,hz2⟩:=info_parts Tryz.infoItem;obtain⟨n',xs,hn',hown,hmake⟩:=E2.tq.row;have hob:=E2.tq.own;have hf:=E2.fix;refine qdY (g:=g) (ao:=ao) (n:=n) (cap:=cap) (cs:=cs) (T3:=T3) (m1:=m3) (d1:=d3) (iv:= .slice io3 n3 ic3) (bv:= .slice bo3 N3 bc3) (n1:=n') (xs:=xs) hi0 hz0 hz1 hz2 (by omega) (by omega) (by omega) (fun k hk=>by have:=(hob k hk).1.1;omega) (fun e=>(hob T3 e).1.2 rfl) E2.rdr hown E2.tree rfl rfl rfl rfl ?_;rintro⟨tm,df⟩ wx hz hdf hoff _ _ ⟨W1,W2,v2,sa,sb,sc,sd,hg1,hO2,hob2,R2,K2,rfl⟩;obtain⟨io4,ic4,rfl,EM⟩:=E2.more hmake hg1 hO2 hob2 R2 K2;simp only at hz hdf hoff;subst hdf;have htm:=tmps_fold [73,74,75,76,77,78,79,80] tm _ hz hoff;simp only[List.foldl,List.setIfInBounds_toArray,List.set_cons_zero,List.set_cons_succ] at htm;clear hz hoff E E2 hg1 hO2 hob2 R2 K2 hmake hown hob hi0 hz0 hz1 hz2;generalize tm.getD 73 undef=pz0,tm.getD 74 undef=pz1,tm.getD 75 undef=pz2,tm.getD 76 undef=pz3,tm.getD 77 undef=pz4,tm.getD 78 undef=pz5,tm.getD 79 undef=pz6,tm.getD 80 undef=pz7 at htm;subst htm;generalize W2.setCell ⟨T3,2,none⟩ (.slice io4 (n' +1) ic4)=WN at *;have F:=hfin (by omega) EM;have x0:=EM.tree.c 0 rfl;have x1:=EM.tree.c 1 rfl;have x2:=EM.tree.c 2 rfl;have x3:=EM.tree.c 3 rfl;have z0:=EM.res.c 0 rfl;have z1:=EM.res.c 1 rfl;have z2:=EM.res.c 2 rfl;have z3:=EM.res.c 3 rfl;have v0:=EM.res.f 0 rfl;have v1:=EM.res.f 1 rfl;have v2:=EM.res.f 2 rfl;have v3:=EM.res.f 3 rfl;have NB:=(set4_blk EM.res (.int .i64 m3) (.int .i64 d3) (.slice io4 (n' +1) ic4) (.slice bo3 N3 bc3)).out;clear EM;go_wp2;generalize ((((WN.setCell ⟨w.heap.size,0,none⟩ (.int .i64 m3)).setCell ⟨w.heap.size,1,none⟩ (.int .i64 d3)).setCell ⟨w.heap.size,2,none⟩ (.slice io4 (n' +1) ic4)).setCell ⟨w.heap.size,3,none⟩ (.slice bo3 N3 bc3))=WZ at *;have o0:=NB.c 0 rfl;have o1:=NB.c 1 rfl;have o2:=NB.c 2 rfl;have o3:=NB.c 3 rfl;refine bodyPost_ret (v:= .agg #[.int .i64 m3,.int .i64 d3,.slice io4 (n' +1) ic4,.slice bo3 N3 bc3]) (by simp[results,Tryz.results12,go_sem,o0,o1,o2,o3]) rfl ?_;exact⟨_,rfl,F.out⟩
theorem TqP.use {k:Nat} {ok:Nat→Prop} {v:Value} {W:World} (h:TqP k ok v W):∃(Q:QD) (m d:Int) (io bo:Option Addr) (ic bc A off:Nat) (so:Nat→Option Addr×Nat),v= .agg #[.int .i64 m,.int .i64 d,.slice io Q.m ic,.slice bo Q.N bc]∧Q.m≤k∧Q.N≤2000∧(∀i,i<Q.N→Q.L i≤1048576)∧(0<Q.N→bo=some ⟨A,off,none⟩)∧(∀i,i<Q.N→(so i).1=none→(so i).2=0)∧Q.N≤bc∧(∀A o sp,io=some ⟨A,o,sp⟩→A<W.heap.size)∧ItIn Q W io (List.range Q.m)∧BlIn Q W A off so:=by
 obtain⟨Q,m,d,io,bo,ic,bc,A,off,so,rfl,h2,h3,h4,h5,h6,h7,h8,h9,h10,h11⟩:=h;have hIt:ItIn Q W io (List.range Q.m):=by
  obtain⟨ao9,cap9,e9,hI9⟩:=ItIn.of (Q:=Q) (l:=List.range Q.m) (by rw[List.length_range];exact h8.1);rw[List.length_range] at e9;cases e9;exact hI9
 exact⟨Q,m,d,io,bo,ic,bc,A,off,so,rfl,h2,h3,fun i hi=>by have:=h4 i hi;omega,h5,h6,h7,fun A o sp e=>(h8.1.lt A (by subst e;rfl)).2,hIt,h9⟩
theorem bigK_any (ao:Option Addr) (n cap:Nat) (w:World) (z:Bool) (hz:decide (1048576<n)=z):Calls Tryz.prog 4 #[.slice ao n cap] w (BoolP z w):=by
 subst hz
 go_enter Tryz.func4,Tryz.ntmps4
 go_wp2;go_ret;exact⟨by simp;try omega,Below.refl _ _⟩
structure UsQ (Q:QD) (io bo:Option Addr) (bc A off:Nat) (so:Nat→Option Addr×Nat) (W:World):Prop where
 hm:Q.m≤42
 hN:Q.N≤2000
 hL:∀i,i<Q.N→Q.L i≤1048576
 hbo:0<Q.N→bo=some ⟨A,off,none⟩
 hso:∀i,i<Q.N→(so i).1=none→(so i).2=0
 hc:Q.N≤bc
 ha:∀A o sp,io=some ⟨A,o,sp⟩→A<W.heap.size
 its:ItIn Q W io (List.range Q.m)
 bls:BlIn Q W A off so
theorem UsQ.step {Q:QD} {io bo:Option Addr} {bc A off:Nat} {so:Nat→Option Addr×Nat} {W W2:World} (h:UsQ Q io bo bc A off so W) (hB:Below W.heap.size W W2):UsQ Q io bo bc A off so W2:=
 ⟨h.hm,h.hN,h.hL,h.hbo,h.hso,h.hc,fun A o sp e=>Nat.lt_of_lt_of_le (h.ha A o sp e) hB.size,h.its.step hB,h.bls.below hB⟩
theorem UsQ.put {Q:QD} {io bo:Option Addr} {bc A off:Nat} {so:Nat→Option Addr×Nat} {W:World} (h:UsQ Q io bo bc A off so W) (ic:Nat) (m d id a bb cc dd:Int):Calls Tryz.prog 27 #[.agg #[.int .i64 m,.int .i64 d,.slice io Q.m ic,.slice bo Q.N bc],.int .i64 id,Sg a bb cc dd] W (PutG Q m d id a bb cc dd W):=
 have h1:=h.hm;have h2:=h.hN
 implQuadPut_any W Q io bo ic bc A off so m d (by omega) (by omega) h.hc h.hL h.hbo h.ha h.its h.bls id a bb cc dd
theorem us_told {Q:QD} {L:List WB} {I:List Value} {ok:Nat→Prop} {W:World} {lo ic A bc:Nat} {io:Option Addr} (hm:Q.m≤42) (hL:L.length≤2000) (hp:0<L.length) (hl:∀q∈L,q.l.length≤41) (hv:W.ownsRow lo 40 5 (.slice io Q.m ic) Q.m (itCs Q (List.range Q.m))) (hu:W.ownsRow lo 102 5 (.slice (some ⟨A,0,none⟩) L.length bc) L.length (wbCs L I)) (hI:IvP ok W L I):UsQ (qdOf Q L) io (some ⟨A,0,none⟩) bc A 0 (soL I) W:=by
 have hit:ItIn (qdOf Q L) W io (List.range Q.m):=by
  obtain⟨ao9,cap9,e9,hI9⟩:=ItIn.of (Q:=Q) (l:=List.range Q.m) (by rw[List.length_range];exact hv);rw[List.length_range] at e9;cases e9;exact hI9
 refine⟨hm,hL,fun i hi=>?_,fun _=>rfl,fun i hi e=>?_,?_,fun A o sp e=>(hv.lt A (by subst e;rfl)).2,hit,blIn_of hu hI⟩
 · have h1:=hl (L.getD i ⟨0,0,0,false,[]⟩) (by rw[List.getD_eq_getElem?_getD,List.getElem?_eq_getElem hi];exact List.getElem_mem hi);show(L.getD i ⟨0,0,0,false,[]⟩).l.length≤1048576
   omega
 · obtain⟨ao,c,e1,_,e3,_⟩:=ivP_at hI hi;unfold soL at e⊢;rw[e1] at e⊢;exact e3 e
 · obtain⟨g,cap,e,_,_,h5,_⟩:=ownQ_form hu hp;cases e;exact h5
end Go.Proofs.YthelolpogdcmhaaGreat
