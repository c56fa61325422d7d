/- Part 10 of the walks that the proof leans on. -/
import Derived.Test.YthelolpogdcmhaaGreatQx9
set_option maxRecDepth 100000
set_option maxHeartbeats 16000000
namespace Go.Proofs.YthelolpogdcmhaaGreat
open Go.RowKit
def Vqp8 (P _Sb A kk m cap _base c kn kc en ec:Nat) (ao ko eo:Option Addr) (x y sz z most D a bb cc d:Int) (o:Value) (_Lk:List Value) (_TT:Value→Value→World→Prop) (_Wd:World) (_B:Nat):Nat→Value→World→Prop
 | 0,v,_=>v=o
 | 1,v,_=>v= .pointer (some ⟨P,3,none⟩)
 | 2,v,_=>v= .slice (some ⟨A,0,none⟩) 4 kk
 | 3,v,_=>v= .int .i64 (c:Int)
 | 4,v,_=>v= .pointer (some ⟨A,c*5,none⟩)
 | 5,v,_=>v= .agg #[.int .i64 x,.int .i64 y,.int .i64 sz,.slice ko kn kc,.slice eo en ec]
 | 6,v,_=>v= .slice ao m cap
 | 7,v,_=>v= .int .i64 z
 | 8,v,_=>v=Sg a bb cc d
 | 9,v,_=>v= .int .i64 most
 | 10,v,_=>v= .int .i64 D
 | 11,v,_=>v= .int .i64 (D-1)
 | _,_,_=>True
theorem Vqp8.same {P Sb A kk m cap base c kn kc en ec:Nat} {ao ko eo:Option Addr} {x y sz z most D a bb cc d:Int} {o:Value} {Lk:List Value} {TT:Value→Value→World→Prop} {Wd:World} {B j:Nat} {v:Value} {W W2:World} (h:Vqp8 P Sb A kk m cap base c kn kc en ec ao ko eo x y sz z most D a bb cc d o Lk TT Wd B j v W):Vqp8 P Sb A kk m cap base c kn kc en ec ao ko eo x y sz z most D a bb cc d o Lk TT Wd B j v W2:=by
 unfold Vqp8 at *
 split<;>simp only at h<;>first | exact h | trivial
def Rqp8 (_P _Sb _A _kk _m _cap base c _kn _kc _en _ec:Nat) (_ao _ko _eo:Option Addr) (x y sz _z _most _D _a _bb _cc _d:Int) (o:Value) (Lk:List Value) (TT:Value→Value→World→Prop) (Wd:World):Nat→(Nat→Value)→World→Prop:=fun kq val W=>match kq with
 | 0=>W=Wd∧val 3=o
 | 1=>∃ko1 kn1 kc1 eo1 en1 ec1,val 0= .agg #[.int .i64 x,.int .i64 y,.int .i64 sz,.slice ko1 kn1 kc1,.slice eo1 en1 ec1]∧TT (.slice ko1 kn1 kc1) (.slice eo1 en1 ec1) W∧Below Wd.heap.size Wd W∧val 3=o
 | 2=>∃Wc ko1 kn1 kc1 eo1 en1 ec1,TT (.slice ko1 kn1 kc1) (.slice eo1 en1 ec1) Wc∧Below Wd.heap.size Wd Wc∧W=Wc.alloc (.cells #[.int .i64 x,.int .i64 y,.int .i64 sz,.slice ko1 kn1 kc1,.slice eo1 en1 ec1] 62)∧val 1= .slice (some ⟨Wc.heap.size,0,none⟩) 1 1∧val 3=o
 | 3=>∃Wc ko1 kn1 kc1 eo1 en1 ec1,TT (.slice ko1 kn1 kc1) (.slice eo1 en1 ec1) Wc∧Below Wd.heap.size Wd Wc∧(Wc.grownBy W o.ownBlock∧W.ownsRow base 62 5 (val 2) (c+1) (Lk ++[.int .i64 x,.int .i64 y,.int .i64 sz,.slice ko1 kn1 kc1,.slice eo1 en1 ec1])∧((val 2).ownBlock=o.ownBlock∨(val 2).ownBlock=some (Wc.heap.size+1)))∧val 3=o
 | _=>∃Wc ko1 kn1 kc1 eo1 en1 ec1,TT (.slice ko1 kn1 kc1) (.slice eo1 en1 ec1) Wc∧Below Wd.heap.size Wd Wc∧(Wc.grownBy W o.ownBlock∧W.ownsRow base 62 5 (val 3) (c+1) (Lk ++[.int .i64 x,.int .i64 y,.int .i64 sz,.slice ko1 kn1 kc1,.slice eo1 en1 ec1])∧((val 3).ownBlock=o.ownBlock∨(val 3).ownBlock=some (Wc.heap.size+1)))
def Sqp8 (P Sb A kk m cap base c kn kc en ec:Nat) (ao ko eo:Option Addr) (x y sz z most D a bb cc d:Int) (o:Value) (Lk:List Value) (TT:Value→Value→World→Prop) (Wd:World) (lz:Array Bool) (az:Act) (W:World):Prop:=ChS 16 4 (fun t=>[12,13,14,15].getD t 0) (fun t=>[44,45,46,13].getD t 0) (Rqp8 P Sb A kk m cap base c kn kc en ec ao ko eo x y sz z most D a bb cc d o Lk TT Wd) lz az W∧(True)
def Jqp8 (P Sb A kk m cap base c kn kc en ec:Nat) (ao ko eo:Option Addr) (x y sz z most D a bb cc d:Int) (o:Value) (Lk:List Value) (TT:Value→Value→World→Prop) (Wd:World) (w0:World) (a0:Act) (lz:Array Bool) (az:Act) (W:World):Prop:=InvQ (base) [some 32,some 33,some 34,some 35,some 36,some 37,some 38,some 39,some 40,some 41,some 42,some 43,some 44,some 45,some 46,some 13] (Vqp8 P Sb A kk m cap base c kn kc en ec ao ko eo x y sz z most D a bb cc d o Lk TT Wd (base)) w0 a0 lz az W∧Sqp8 P Sb A kk m cap base c kn kc en ec ao ko eo x y sz z most D a bb cc d o Lk TT Wd lz az W
theorem qp8 {Q:Exit→Act→World→Prop} {P Sb A kk m cap base c kn kc en ec:Nat} {ao ko eo:Option Addr} {x y sz z most D a bb cc d:Int} {o:Value} {Lk:List Value} {TT:Value→Value→World→Prop} {Wd:World} {i0:TypeInfo} {w0:World} {a0:Act} {idq:Nat} {t0 t1 t2 t3 t4 t5 t6 t7 t8 t9 t10 t11 t12 t13 t14 t15:TypeId} {q0 q1 q2 q3 q4 q5 q6 q7 q8 q9 q10 q11 q12 q13 q14 q15:String}
 (hi0:Tryz.prog.info? 62=some i0) (hz0:i0.zero=some (.agg #[.int .i64 0,.int .i64 0,.int .i64 0,.slice none 0 0,.slice none 0 0])) (hz1:i0.size=5) (hz2:i0.bytes=72) (hc4:c<4) (hD1:1≤D) (hD8:D≤8) (hbw:base≤w0.heap.size) (hown0:w0.drew.ownsRow base 62 5 o c Lk) (hput:Calls Tryz.prog 60 #[.agg #[.int .i64 x,.int .i64 y,.int .i64 sz,.slice ko kn kc,.slice eo en ec],.slice ao m cap,.int .i64 z,Sg a bb cc d,.int .i64 most,.int .i64 (D-1)] Wd (fun r W2=>∃ko1 kn1 kc1 eo1 en1 ec1,r= .returned (.agg #[.int .i64 x,.int .i64 y,.int .i64 sz,.slice ko1 kn1 kc1,.slice eo1 en1 ec1])∧TT (.slice ko1 kn1 kc1) (.slice eo1 en1 ec1) W2∧Below Wd.heap.size Wd W2)) (h130:a0.tmps[13]? =some o) (hWe:Wd=w0.drew) (h1:a0.tmps[1]? =some (.slice ao m cap)) (h2:a0.tmps[2]? =some (.int .i64 z)) (h4:a0.tmps[4]? =some (.int .i64 most)) (h5:a0.tmps[5]? =some (.int .i64 D)) (h6:a0.tmps[6]? =some (.pointer (some ⟨P,0,none⟩))) (h9:a0.tmps[9]? =some (.pointer (some ⟨Sb,0,none⟩))) (h14:a0.tmps[14]? =some (.int .i64 (c:Int))) (k0:w0.cell? ⟨P,3,none⟩=some (.slice (some ⟨A,0,none⟩) 4 kk)) (l0:(⟨P,3,none⟩:Addr).block<base) (k1:w0.cell? ⟨Sb,0,none⟩=some (.int .i64 a)) (l1:(⟨Sb,0,none⟩:Addr).block<base) (k2:w0.cell? ⟨Sb,1,none⟩=some (.int .i64 bb)) (l2:(⟨Sb,1,none⟩:Addr).block<base) (k3:w0.cell? ⟨Sb,2,none⟩=some (.int .i64 cc)) (l3:(⟨Sb,2,none⟩:Addr).block<base) (k4:w0.cell? ⟨Sb,3,none⟩=some (.int .i64 d)) (l4:(⟨Sb,3,none⟩:Addr).block<base) (k5:w0.cell? ⟨A,c*5,none⟩=some (.int .i64 x)) (l5:(⟨A,c*5,none⟩:Addr).block<base) (k6:w0.cell? ⟨A,c*5+1,none⟩=some (.int .i64 y)) (l6:(⟨A,c*5+1,none⟩:Addr).block<base) (k7:w0.cell? ⟨A,c*5+2,none⟩=some (.int .i64 sz)) (l7:(⟨A,c*5+2,none⟩:Addr).block<base) (k8:w0.cell? ⟨A,c*5+3,none⟩=some (.slice ko kn kc)) (l8:(⟨A,c*5+3,none⟩:Addr).block<base) (k9:w0.cell? ⟨A,c*5+4,none⟩=some (.slice eo en ec)) (l9:(⟨A,c*5+4,none⟩:Addr).block<base) (hz:a0.tmps.size=125)
 (hQ:∀aq W,aq.tmps.size=a0.tmps.size→aq.defers=a0.defers→(∀e,e∉([32,33,34,35,36,37,38,39,40,41,42,43,44,45,46,13]:List Nat)→aq.tmps[e]? =a0.tmps[e]?)→Vqp8 P Sb A kk m cap base c kn kc en ec ao ko eo x y sz z most D a bb cc d o Lk TT Wd (base) 15 (aq.tmps.getD 13 undef) W→Below (base) w0 W→(∃Wc ko1 kn1 kc1 eo1 en1 ec1,TT (.slice ko1 kn1 kc1) (.slice eo1 en1 ec1) Wc∧Below Wd.heap.size Wd Wc∧(Wc.grownBy W o.ownBlock∧W.ownsRow base 62 5 (aq.tmps.getD 13 undef) (c+1) (Lk ++[.int .i64 x,.int .i64 y,.int .i64 sz,.slice ko1 kn1 kc1,.slice eo1 en1 ec1])∧((aq.tmps.getD 13 undef).ownBlock=o.ownBlock∨(aq.tmps.getD 13 undef).ownBlock=some (Wc.heap.size+1))))→Q .normal aq W) :
 (Code.region idq #[⟨some 32,.move (.tmp 13),t0,q0,#[],none⟩,
 ⟨some 33,.fieldAddr 62 (.tmp 6) 3,t1,q1,#[],none⟩,
 ⟨some 34,.load 60 (.tmp 33),t2,q2,#[⟨1,.data⟩],none⟩,
 ⟨some 35,.move (.tmp 14),t3,q3,#[],none⟩,
 ⟨some 36,.indexAddr 60 (.tmp 34) (.tmp 35),t4,q4,#[⟨2,.data⟩,⟨3,.data⟩],none⟩,
 ⟨some 37,.load 62 (.tmp 36),t5,q5,#[⟨4,.data⟩],none⟩,
 ⟨some 38,.move (.tmp 1),t6,q6,#[],none⟩,
 ⟨some 39,.move (.tmp 2),t7,q7,#[],none⟩,
 ⟨some 40,.load 38 (.tmp 9),t8,q8,#[],none⟩,
 ⟨some 41,.move (.tmp 4),t9,q9,#[],none⟩,
 ⟨some 42,.move (.tmp 5),t10,q10,#[],none⟩,
 ⟨some 43,.binOp .sub 2 (.tmp 42) (.const (.int .i64 1)) 2,t11,q11,#[⟨10,.data⟩],none⟩,
 ⟨some 44,.call {callee:= .value (.func 60),args:=#[.tmp 37,.tmp 38,.tmp 39,.tmp 40,.tmp 41,.tmp 43],argTypes:=#[62,24,2,38,2,2]},t12,q12,#[⟨5,.data⟩,⟨6,.data⟩,⟨7,.data⟩,⟨8,.data⟩,⟨9,.data⟩,⟨11,.data⟩],none⟩,
 ⟨some 45,.buildSlice 60 1 #[(0,.tmp 44)],t13,q13,#[⟨12,.data⟩],none⟩,
 ⟨some 46,.call {callee:= .builtin .append,args:=#[.tmp 32,.tmp 45],argTypes:=#[60,60]},t14,q14,#[⟨0,.data⟩,⟨13,.data⟩,⟨12,.chain⟩],none⟩,
 ⟨some 13,.assign (.tmp 46),t15,q15,#[⟨14,.data⟩,⟨14,.chain⟩,⟨0,.phase⟩,⟨1,.phase⟩,⟨2,.phase⟩,⟨3,.phase⟩,⟨4,.phase⟩,⟨5,.phase⟩,⟨6,.phase⟩,⟨7,.phase⟩,⟨8,.phase⟩,⟨9,.phase⟩,⟨10,.phase⟩,⟨11,.phase⟩,⟨12,.phase⟩,⟨13,.phase⟩,⟨14,.phase⟩],none⟩] true).wp Tryz.prog Q a0 w0:=by
 have hS:distS [some 32,some 33,some 34,some 35,some 36,some 37,some 38,some 39,some 40,some 41,some 42,some 43,some 44,some 45,some 46,some 13]=true:=rfl;refine wp_region_inv (by kernel_rfl) (Jqp8 P Sb A kk m cap base c kn kc en ec ao ko eo x y sz z most D a bb cc d o Lk TT Wd w0 a0) ⟨⟨rfl,rfl,rfl,fun _ _=>rfl,(Below.refl _ w0).drew,fun j d hj=>?_,fun j hj=>?_⟩,⟨ChS.start (by decide) (⟨hWe.symm,by show a0.tmps.getD 13 undef=o;rw[Array.getD_eq_getD_getElem?,h130];rfl⟩),trivial⟩⟩ ?_ ?_
 · exfalso
   rw[Array.getD_eq_getD_getElem?,Array.getElem?_replicate] at hj
   split at hj<;>simp at hj
 · exfalso
   rw[Array.getD_eq_getD_getElem?,Array.getElem?_replicate] at hj
   split at hj<;>simp at hj
 · intro lq aq W iq oq ⟨hJ2,hs⟩ hl ho hall;have z2:=hJ2.2.1;have z5:=hJ2.b;have g1:=hJ2.a h1
   have g2:=hJ2.a h2
   have g4:=hJ2.a h4
   have g5:=hJ2.a h5
   have g6:=hJ2.a h6
   have g9:=hJ2.a h9
   have g14:=hJ2.a h14
   have c0:=hJ2.c k0 l0;have c1:=hJ2.c k1 l1;have c2:=hJ2.c k2 l2;have c3:=hJ2.c k3 l3;have c4:=hJ2.c k4 l4;have c5:=hJ2.c k5 l5;have c6:=hJ2.c k6 l6;have c7:=hJ2.c k7 l7;have c8:=hJ2.c k8 l8;have c9:=hJ2.c k9 l9
   have HK:=fun zi zd h1 h2 zv zW hW hT hv hs=>show Jqp8 P Sb A kk m cap base c kn kc en ec ao ko eo x y sz z most D a bb cc d o Lk TT Wd w0 a0 (lq.setIfInBounds zi true) (aq.put (some zd) zv) zW from⟨hJ2.put hS zi zd h1 h2 hW hT zv hv,hs⟩
   generalize Jqp8 P Sb A kk m cap base c kn kc en ec ao ko eo x y sz z most D a bb cc d o Lk TT Wd w0 a0=JJ at HK⊢
   clear hQ
   match iq,ho with
   | 0,ho=>
    cases ho;refine wpOp_of rfl rfl ?_;have hq:∀v:Value,Sqp8 P Sb A kk m cap base c kn kc en ec ao ko eo x y sz z most D a bb cc d o Lk TT Wd (lq.setIfInBounds 0 true) (aq.put (some 32) v) W:=fun v=>⟨hs.1.quiet 0 32 v (by decide) hl (by decide) (by decide),trivial⟩;obtain⟨cc1,hcc,hRR,hle⟩:=hs.1.some (i:=0) (by decide) hl;have ev13:aq.tmps.getD 13 undef=o:=by
     match cc1,hcc,hRR with
     | 0,_,h=>exact h.2
     | 1,_,h=>obtain⟨_,_,_,_,_,_,_,_,_,h⟩:=h;exact h
     | 2,_,h=>obtain⟨_,_,_,_,_,_,_,_,_,_,_,h⟩:=h;exact h
     | 3,_,h=>obtain⟨_,_,_,_,_,_,_,_,_,_,h⟩:=h;exact h
     | j+4,h,_=>omega
    rw[Array.getD_eq_getD_getElem?] at ev13;clear hRR hle hcc hput hown0;clear hs hWe;have hK:=HK 0 32 rfl (by omega);generalize JJ _=K at hK⊢;clear ho hall hl HK hJ2 hS z2;go_simp;exact hK _ _ z5 (fun _ _ h=>h) rfl (hq _)
   | 1,ho=>
    cases ho;refine wpOp_of rfl rfl ?_;have hq:∀v:Value,Sqp8 P Sb A kk m cap base c kn kc en ec ao ko eo x y sz z most D a bb cc d o Lk TT Wd (lq.setIfInBounds 1 true) (aq.put (some 33) v) W:=fun v=>⟨hs.1.quiet 1 33 v (by decide) hl (by decide) (by decide),trivial⟩;clear hs hWe;have hK:=HK 1 33 rfl (by omega);generalize JJ _=K at hK⊢;clear ho hall hl HK hJ2 hS z2;go_simp;exact hK _ _ z5 (fun _ _ h=>h) rfl (hq _)
   | 2,ho=>
    cases ho;refine wpOp_of rfl rfl ?_;have f1:_=Value.pointer (some ⟨P,3,none⟩):=hJ2.v hall 1 33;have hq:∀v:Value,Sqp8 P Sb A kk m cap base c kn kc en ec ao ko eo x y sz z most D a bb cc d o Lk TT Wd (lq.setIfInBounds 2 true) (aq.put (some 34) v) W:=fun v=>⟨hs.1.quiet 2 34 v (by decide) hl (by decide) (by decide),trivial⟩;clear hs hWe;have hK:=HK 2 34 rfl (by omega);generalize JJ _=K at hK⊢;clear ho hall hl HK hJ2 hS z2;go_simp;exact hK _ _ z5 (fun _ _ h=>h) rfl (hq _)
   | 3,ho=>
    cases ho;refine wpOp_of rfl rfl ?_;have hq:∀v:Value,Sqp8 P Sb A kk m cap base c kn kc en ec ao ko eo x y sz z most D a bb cc d o Lk TT Wd (lq.setIfInBounds 3 true) (aq.put (some 35) v) W:=fun v=>⟨hs.1.quiet 3 35 v (by decide) hl (by decide) (by decide),trivial⟩;clear hs hWe;have hK:=HK 3 35 rfl (by omega);generalize JJ _=K at hK⊢;clear ho hall hl HK hJ2 hS z2;go_simp;exact hK _ _ z5 (fun _ _ h=>h) rfl (hq _)
   | 4,ho=>
    cases ho;refine wpOp_of rfl rfl ?_;have f2:_=Value.slice (some ⟨A,0,none⟩) 4 kk:=hJ2.v hall 2 34;have f3:_=Value.int .i64 (c:Int):=hJ2.v hall 3 35;have hq:∀v:Value,Sqp8 P Sb A kk m cap base c kn kc en ec ao ko eo x y sz z most D a bb cc d o Lk TT Wd (lq.setIfInBounds 4 true) (aq.put (some 36) v) W:=fun v=>⟨hs.1.quiet 4 36 v (by decide) hl (by decide) (by decide),trivial⟩;have hc4:(c:Int)<4:=by omega
    clear hs hWe;have hK:=HK 4 36 rfl (by omega);generalize JJ _=K at hK⊢;clear ho hall hl HK hJ2 hS z2;go_simp;exact hK _ _ z5 (fun _ _ h=>h) rfl (hq _)
   | 5,ho=>
    cases ho;refine wpOp_of rfl rfl ?_;have f4:_=Value.pointer (some ⟨A,c*5,none⟩):=hJ2.v hall 4 36;have hq:∀v:Value,Sqp8 P Sb A kk m cap base c kn kc en ec ao ko eo x y sz z most D a bb cc d o Lk TT Wd (lq.setIfInBounds 5 true) (aq.put (some 37) v) W:=fun v=>⟨hs.1.quiet 5 37 v (by decide) hl (by decide) (by decide),trivial⟩;clear hs hWe;have hK:=HK 5 37 rfl (by omega);generalize JJ _=K at hK⊢;clear ho hall hl HK hJ2 hS z2;go_simp;exact hK _ _ z5 (fun _ _ h=>h) rfl (hq _)
   | 6,ho=>
    cases ho;refine wpOp_of rfl rfl ?_;have hq:∀v:Value,Sqp8 P Sb A kk m cap base c kn kc en ec ao ko eo x y sz z most D a bb cc d o Lk TT Wd (lq.setIfInBounds 6 true) (aq.put (some 38) v) W:=fun v=>⟨hs.1.quiet 6 38 v (by decide) hl (by decide) (by decide),trivial⟩;clear hs hWe;have hK:=HK 6 38 rfl (by omega);generalize JJ _=K at hK⊢;clear ho hall hl HK hJ2 hS z2;go_simp;exact hK _ _ z5 (fun _ _ h=>h) rfl (hq _)
   | 7,ho=>
    cases ho;refine wpOp_of rfl rfl ?_;have hq:∀v:Value,Sqp8 P Sb A kk m cap base c kn kc en ec ao ko eo x y sz z most D a bb cc d o Lk TT Wd (lq.setIfInBounds 7 true) (aq.put (some 39) v) W:=fun v=>⟨hs.1.quiet 7 39 v (by decide) hl (by decide) (by decide),trivial⟩;clear hs hWe;have hK:=HK 7 39 rfl (by omega);generalize JJ _=K at hK⊢;clear ho hall hl HK hJ2 hS z2;go_simp;exact hK _ _ z5 (fun _ _ h=>h) rfl (hq _)
   | 8,ho=>
    cases ho;refine wpOp_of rfl rfl ?_;have hq:∀v:Value,Sqp8 P Sb A kk m cap base c kn kc en ec ao ko eo x y sz z most D a bb cc d o Lk TT Wd (lq.setIfInBounds 8 true) (aq.put (some 40) v) W:=fun v=>⟨hs.1.quiet 8 40 v (by decide) hl (by decide) (by decide),trivial⟩;clear hs hWe;have hK:=HK 8 40 rfl (by omega);generalize JJ _=K at hK⊢;clear ho hall hl HK hJ2 hS z2;go_simp;exact hK _ _ z5 (fun _ _ h=>h) rfl (hq _)
   | 9,ho=>
    cases ho;refine wpOp_of rfl rfl ?_;have hq:∀v:Value,Sqp8 P Sb A kk m cap base c kn kc en ec ao ko eo x y sz z most D a bb cc d o Lk TT Wd (lq.setIfInBounds 9 true) (aq.put (some 41) v) W:=fun v=>⟨hs.1.quiet 9 41 v (by decide) hl (by decide) (by decide),trivial⟩;clear hs hWe;have hK:=HK 9 41 rfl (by omega);generalize JJ _=K at hK⊢;clear ho hall hl HK hJ2 hS z2;go_simp;exact hK _ _ z5 (fun _ _ h=>h) rfl (hq _)
   | 10,ho=>
    cases ho;refine wpOp_of rfl rfl ?_;have hq:∀v:Value,Sqp8 P Sb A kk m cap base c kn kc en ec ao ko eo x y sz z most D a bb cc d o Lk TT Wd (lq.setIfInBounds 10 true) (aq.put (some 42) v) W:=fun v=>⟨hs.1.quiet 10 42 v (by decide) hl (by decide) (by decide),trivial⟩;clear hs hWe;have hK:=HK 10 42 rfl (by omega);generalize JJ _=K at hK⊢;clear ho hall hl HK hJ2 hS z2;go_simp;exact hK _ _ z5 (fun _ _ h=>h) rfl (hq _)
   | 11,ho=>
    cases ho;refine wpOp_of rfl rfl ?_;have f10:_=Value.int .i64 D:=hJ2.v hall 10 42;have hq:∀v:Value,Sqp8 P Sb A kk m cap base c kn kc en ec ao ko eo x y sz z most D a bb cc d o Lk TT Wd (lq.setIfInBounds 11 true) (aq.put (some 43) v) W:=fun v=>⟨hs.1.quiet 11 43 v (by decide) hl (by decide) (by decide),trivial⟩;have hDw:IntKind.i64.wrap (D-1)=D-1:=by rw[IntKind.wrap_i64];omega
    clear hs hWe;have hK:=HK 11 43 rfl (by omega);generalize JJ _=K at hK⊢;clear ho hall hl HK hJ2 hS z2;go_simp;exact hK _ _ z5 (fun _ _ h=>h) rfl (hq _)
   | 12,ho=>
    cases ho;refine wpOp_of rfl rfl ?_;have f5:_=Value.agg #[.int .i64 x,.int .i64 y,.int .i64 sz,.slice ko kn kc,.slice eo en ec]:=hJ2.v hall 5 37;have f6:_=Value.slice ao m cap:=hJ2.v hall 6 38;have f7:_=Value.int .i64 z:=hJ2.v hall 7 39;have f8:_=Sg a bb cc d:=hJ2.v hall 8 40;have f9:_=Value.int .i64 most:=hJ2.v hall 9 41;have f11:_=Value.int .i64 (D-1):=hJ2.v hall 11 43;have hpr:∀t,0=t+1→lq.getD ((fun t=>[12,13,14,15].getD t 0) t) false=true:=(fun t ht=>absurd ht (by omega));have RS:=hs.1.now 0 (by decide) hl hpr;have hq:∀(v:Value) (X:World),Rqp8 P Sb A kk m cap base c kn kc en ec ao ko eo x y sz z most D a bb cc d o Lk TT Wd 1 (fun t=>if t=0 then v else valC 4 (fun t=>[44,45,46,13].getD t 0) aq t) X→Sqp8 P Sb A kk m cap base c kn kc en ec ao ko eo x y sz z most D a bb cc d o Lk TT Wd (lq.setIfInBounds 12 true) (aq.put (some 44) v) X:=fun v X hX=>⟨hs.1.link 0 (by decide) hl hpr (by decide) (by decide) (by rw[z2,hz];decide) (fun e=>absurd e (by decide)) hX,trivial⟩;have eW:W=Wd:=RS.1;have ev:aq.tmps.getD 13 undef=o:=RS.2;have HC:Hid (Calls Tryz.prog 60 #[.agg #[.int .i64 x,.int .i64 y,.int .i64 sz,.slice ko kn kc,.slice eo en ec],.slice ao m cap,.int .i64 z,Sg a bb cc d,.int .i64 most,.int .i64 (D-1)] W (fun r W2=>∃ko1 kn1 kc1 eo1 en1 ec1,r= .returned (.agg #[.int .i64 x,.int .i64 y,.int .i64 sz,.slice ko1 kn1 kc1,.slice eo1 en1 ec1])∧TT (.slice ko1 kn1 kc1) (.slice eo1 en1 ec1) W2∧Below Wd.heap.size Wd W2)):=by rw[eW];exact hput
    have hWs:Wd.heap.size=W.heap.size:=congrArg (fun w:World=>w.heap.size) eW.symm;have hbW:base≤Wd.heap.size:=by have:=z5.size;omega
    have HzB:∀X,Below Wd.heap.size Wd X→Below base w0 X:=fun X h=>by rw[eW] at z5;exact z5.trans (h.mono hbW)
    have hq2:∀(v:Value) (X:World),(∃ko1 kn1 kc1 eo1 en1 ec1,v= .agg #[.int .i64 x,.int .i64 y,.int .i64 sz,.slice ko1 kn1 kc1,.slice eo1 en1 ec1]∧TT (.slice ko1 kn1 kc1) (.slice eo1 en1 ec1) X∧Below Wd.heap.size Wd X)→Sqp8 P Sb A kk m cap base c kn kc en ec ao ko eo x y sz z most D a bb cc d o Lk TT Wd (lq.setIfInBounds 12 true) (aq.put (some 44) v) X:=fun v X ⟨_,_,_,_,_,_,h1,h2,h3⟩=>hq v X ⟨_,_,_,_,_,_,h1,h2,h3,ev⟩;clear eW ev RS hq hWs hbW hput hown0;clear hs hWe;have hK:=HK 12 44 rfl (by omega);generalize JJ _=K at hK⊢;clear ho hall hl HK hJ2 hS z2;go_simp;refine HC.out.mono ?_;rintro e v1 ⟨ko1,kn1,kc1,eo1,en1,ec1,rfl,hT,hBv⟩;exact hK _ _ (HzB _ hBv) (fun _ _ h=>h.same) trivial (hq2 _ _ ⟨_,_,_,_,_,_,rfl,hT,hBv⟩)
   | 13,ho=>
    cases ho;refine wpOp_of rfl rfl ?_;have f12:True:=hJ2.v hall 12 44;have hpr:∀t,1=t+1→lq.getD ((fun t=>[12,13,14,15].getD t 0) t) false=true:=(fun t ht=>by obtain rfl:t=0:=(by omega);exact hall ⟨12,.data⟩ (by simp) rfl);have RS:=hs.1.now 1 (by decide) hl hpr;have hq:∀(v:Value) (X:World),Rqp8 P Sb A kk m cap base c kn kc en ec ao ko eo x y sz z most D a bb cc d o Lk TT Wd 2 (fun t=>if t=1 then v else valC 4 (fun t=>[44,45,46,13].getD t 0) aq t) X→Sqp8 P Sb A kk m cap base c kn kc en ec ao ko eo x y sz z most D a bb cc d o Lk TT Wd (lq.setIfInBounds 13 true) (aq.put (some 45) v) X:=fun v X hX=>⟨hs.1.link 1 (by decide) hl hpr (by decide) (by decide) (by rw[z2,hz];decide) (fun e=>absurd e (by decide)) hX,trivial⟩;obtain⟨ko1,kn1,kc1,eo1,en1,ec1,ev0,hT,hB,ev3⟩:=RS;change aq.tmps.getD 44 undef= .agg #[.int .i64 x,.int .i64 y,.int .i64 sz,.slice ko1 kn1 kc1,.slice eo1 en1 ec1] at ev0;have hq2:∀v:Value,v= .slice (some ⟨W.heap.size,0,none⟩) 1 1→Sqp8 P Sb A kk m cap base c kn kc en ec ao ko eo x y sz z most D a bb cc d o Lk TT Wd (lq.setIfInBounds 13 true) (aq.put (some 45) v) (W.alloc (.cells #[.int .i64 x,.int .i64 y,.int .i64 sz,.slice ko1 kn1 kc1,.slice eo1 en1 ec1] 62)):=fun v h1=>hq v _ ⟨W,_,_,_,_,_,_,hT,hB,rfl,h1,ev3⟩;rw[Array.getD_eq_getD_getElem?] at ev0;have hbW:=z5.size;clear hT hB ev3 hq hput hown0;clear hs hWe;have hK:=HK 13 45 rfl (by omega);generalize JJ _=K at hK⊢;clear ho hall hl HK hJ2 hS z2;go_simp;exact hK _ _ (z5.alloc (by omega) _) (fun _ _ h=>h.same) trivial (hq2 _ rfl)
   | 14,ho=>
    cases ho;refine wpOp_of rfl rfl ?_;have f0:_=o:=hJ2.v hall 0 32;have f13:True:=hJ2.v hall 13 45;have hpr:∀t,2=t+1→lq.getD ((fun t=>[12,13,14,15].getD t 0) t) false=true:=(fun t ht=>by obtain rfl:t=1:=(by omega);exact hall ⟨13,.data⟩ (by simp) rfl);have RS:=hs.1.now 2 (by decide) hl hpr;have hq:∀(v:Value) (X:World),Rqp8 P Sb A kk m cap base c kn kc en ec ao ko eo x y sz z most D a bb cc d o Lk TT Wd 3 (fun t=>if t=2 then v else valC 4 (fun t=>[44,45,46,13].getD t 0) aq t) X→Sqp8 P Sb A kk m cap base c kn kc en ec ao ko eo x y sz z most D a bb cc d o Lk TT Wd (lq.setIfInBounds 14 true) (aq.put (some 46) v) X:=fun v X hX=>⟨hs.1.link 2 (by decide) hl hpr (by decide) (by decide) (by rw[z2,hz];decide) (fun e=>absurd e (by decide)) hX,trivial⟩;obtain⟨Wc,ko1,kn1,kc1,eo1,en1,ec1,hT,hB,eW,ev1,ev3⟩:=RS;change aq.tmps.getD 45 undef= .slice (some ⟨Wc.heap.size,0,none⟩) 1 1 at ev1;have hgA:Wc.grownBy W o.ownBlock:=by rw[eW];exact grown_of ((Below.refl _ Wc).alloc (Nat.le_refl _) _) _
    have hown:W.ownsRow base 62 5 o c Lk:=by rw[eW];exact ownA_step (ownA_step (by rw[hWe];exact hown0) hB) ((Below.refl _ Wc).alloc (Nat.le_refl _) _)
    have hcl:∀j u,[.int .i64 x,.int .i64 y,.int .i64 sz,.slice ko1 kn1 kc1,.slice eo1 en1 ec1][j]? =some u→W.cell? ((⟨Wc.heap.size,0,none⟩:Addr).add j)=some u:=by rw[eW];exact new_cells Wc [.int .i64 x,.int .i64 y,.int .i64 sz,.slice ko1 kn1 kc1,.slice eo1 en1 ec1] 62
    have hWs:W.heap.size=Wc.heap.size+1:=by rw[eW];simp
    have hbs:base≤W.heap.size:=by have:=z5.size;omega
    have hq2:∀(v:Value) (X:World),(W.grownBy X o.ownBlock∧X.ownsRow base 62 5 v (c+1) (Lk ++[.int .i64 x,.int .i64 y,.int .i64 sz,.slice ko1 kn1 kc1,.slice eo1 en1 ec1])∧(v.ownBlock=o.ownBlock∨v.ownBlock=some W.heap.size))→Sqp8 P Sb A kk m cap base c kn kc en ec ao ko eo x y sz z most D a bb cc d o Lk TT Wd (lq.setIfInBounds 14 true) (aq.put (some 46) v) X:=fun v X ⟨h1,h2,h3⟩=>hq v X ⟨Wc,_,_,_,_,_,_,hT,hB,⟨grown_trans hgA h1,h2,by rw[←hWs];exact h3⟩,ev3⟩;clear eW hT hB ev3 hq hput hown0 hgA;clear hs hWe;have hK:=HK 14 46 rfl (by omega);generalize JJ _=K at hK⊢;clear ho hall hl HK hJ2 hS z2;refine wp_append_q (.tmp 32) (.tmp 45) 60 rfl base 62 i0 (.agg #[.int .i64 0,.int .i64 0,.int .i64 0,.slice none 0 0,.slice none 0 0]) 5 72 Tryz.underlying60 hi0 hz0 hz1 hz2 rfl (by decide) _ c _ f0 hown ⟨Wc.heap.size,0,none⟩ 1 1 [.int .i64 x,.int .i64 y,.int .i64 sz,.slice ko1 kn1 kc1,.slice eo1 en1 ec1] ev1 rfl hcl (one5 _ _ _ _ _ _ _ _ _) (by unfold maxLen;omega) (by omega) hbs ?_;intro v1 X r1 r2 r3;exact hK _ _ (z5.grown r2 hbs (fun k hk=>(hown.lt k hk).1)) (fun _ _ h=>h.same) trivial (hq2 _ _ ⟨r2,r1,r3⟩)
   | 15,ho=>
    cases ho;refine wpOp_of rfl rfl ?_;have f14:True:=hJ2.v hall 14 46;have hpr:∀t,3=t+1→lq.getD ((fun t=>[12,13,14,15].getD t 0) t) false=true:=(fun t ht=>by obtain rfl:t=2:=(by omega);exact hall ⟨14,.data⟩ (by simp) rfl);have RS:=hs.1.now 3 (by decide) hl hpr;have hq:∀(v:Value) (X:World),Rqp8 P Sb A kk m cap base c kn kc en ec ao ko eo x y sz z most D a bb cc d o Lk TT Wd 4 (fun t=>if t=3 then v else valC 4 (fun t=>[44,45,46,13].getD t 0) aq t) X→Sqp8 P Sb A kk m cap base c kn kc en ec ao ko eo x y sz z most D a bb cc d o Lk TT Wd (lq.setIfInBounds 15 true) (aq.put (some 13) v) X:=fun v X hX=>⟨hs.1.link 3 (by decide) hl hpr (by decide) (by decide) (by rw[z2,hz];decide) (fun _ j hj hn=>match j,hj,hn with | 0,_,_=>hall ⟨0,.phase⟩ (by simp) rfl | 1,_,_=>hall ⟨1,.phase⟩ (by simp) rfl | 2,_,_=>hall ⟨2,.phase⟩ (by simp) rfl | 3,_,_=>hall ⟨3,.phase⟩ (by simp) rfl | 4,_,_=>hall ⟨4,.phase⟩ (by simp) rfl | 5,_,_=>hall ⟨5,.phase⟩ (by simp) rfl | 6,_,_=>hall ⟨6,.phase⟩ (by simp) rfl | 7,_,_=>hall ⟨7,.phase⟩ (by simp) rfl | 8,_,_=>hall ⟨8,.phase⟩ (by simp) rfl | 9,_,_=>hall ⟨9,.phase⟩ (by simp) rfl | 10,_,_=>hall ⟨10,.phase⟩ (by simp) rfl | 11,_,_=>hall ⟨11,.phase⟩ (by simp) rfl | 12,_,_=>hall ⟨12,.phase⟩ (by simp) rfl | 13,_,_=>hall ⟨13,.phase⟩ (by simp) rfl | 14,_,_=>hall ⟨14,.data⟩ (by simp) rfl | 15,_,hn=>absurd rfl hn | j+16,hj,_=>absurd hj (by omega)) hX,trivial⟩;obtain⟨Wc,ko1,kn1,kc1,eo1,en1,ec1,hT,hB,⟨hg,hown,hob⟩,ev3⟩:=RS;have hq2:∀v:Value,v=aq.tmps[46]?.getD undef→Sqp8 P Sb A kk m cap base c kn kc en ec ao ko eo x y sz z most D a bb cc d o Lk TT Wd (lq.setIfInBounds 15 true) (aq.put (some 13) v) W:=fun v h1=>hq v _ ⟨Wc,_,_,_,_,_,_,hT,hB,by rw[←Array.getD_eq_getD_getElem?] at h1;subst h1;exact⟨hg,hown,hob⟩⟩;clear hT hB ev3 hq hput hown0 hg hown hob;clear hs hWe;have hK:=HK 15 13 rfl (by omega);generalize JJ _=K at hK⊢;clear ho hall hl HK hJ2 hS z2;go_simp;exact hK _ _ z5 (fun _ _ h=>h.same) trivial (hq2 _ rfl)
   | iq+16,ho=>simp at ho
 · intro lq aq W ⟨hJ,hs⟩ hr;obtain⟨z1,z2,z3,z4,z5,z6,z7⟩:=hJ;have hl:=listed_of hr [0,1,2,3,4,5,6,7,8,9,10,11,12,13,14,15] [] (by simp) (by kernel_rfl) (by rw[z1];decide);exact hQ aq W z2 z3 (fun e he=>z4 e (by simpa using he)) (z6 15 13 (hl 15 (by simp)) rfl) z5 (by have hZ:=hl 15 (by simp);exact hs.1.done (by decide) hZ)
def VqlA (A off n cap c:Nat) (x y s:Int) (ko eo:Option Addr) (kn kc en ec:Nat) (a bb cc d:Int) (_B:Nat):Nat→Value→World→Prop
 | 0,v,_=>v= .agg #[.int .i64 x,.int .i64 y,.int .i64 s,.slice ko kn kc,.slice eo en ec]
 | 1,v,_=>v= .slice (some ⟨A,off,none⟩) n cap
 | 2,v,_=>v= .int .i64 (c:Int)
 | 3,v,_=>v= .pointer (some ⟨A,off+c*5,none⟩)
 | 4,v,_=>v= .pointer (some ⟨A,off+c*5+1,none⟩)
 | 5,v,_=>v=Sg a bb cc d
 | 6,v,_=>v= .bool (hitB a bb cc d x y (x+s) (y+s))
 | 7,v,_=>v= .bool (!hitB a bb cc d x y (x+s) (y+s))
 | _,_,_=>True
theorem VqlA.mono {A off n cap c:Nat} {x y s:Int} {ko eo:Option Addr} {kn kc en ec:Nat} {a bb cc d:Int} {B j:Nat} {v:Value} {W W2:World} (_hB:Below W.heap.size W W2) (h:VqlA A off n cap c x y s ko eo kn kc en ec a bb cc d B j v W):VqlA A off n cap c x y s ko eo kn kc en ec a bb cc d B j v W2:=by
 unfold VqlA at *
 split<;>simp only at h<;>first | exact h | trivial
theorem qlA {Q:Exit→Act→World→Prop} {A off n cap c:Nat} {x y s:Int} {ko eo:Option Addr} {kn kc en ec:Nat} {a bb cc d:Int} {F:Nat} {w0:World} {a0:Act} {idq:Nat} {t0 t1 t2 t3 t4 t5 t6 t7:TypeId} {q0 q1 q2 q3 q4 q5 q6 q7:String}
 (hcn:c<n) (hn:n≤1048576) (hq:Sq x y s) (ia:In6 a) (ibb:In6 bb) (icc:In6 cc) (id:In6 d) (h1:a0.tmps[1]? =some (.slice (some ⟨A,off,none⟩) n cap)) (h2:a0.tmps[2]? =some (.pointer (some ⟨F,0,none⟩))) (h7:a0.tmps[7]? =some (.int .i64 (c:Int))) (k0:w0.cell? ⟨F,0,none⟩=some (.int .i64 x)) (l0:(⟨F,0,none⟩:Addr).block<w0.heap.size) (k1:w0.cell? ⟨F,1,none⟩=some (.int .i64 y)) (l1:(⟨F,1,none⟩:Addr).block<w0.heap.size) (k2:w0.cell? ⟨F,2,none⟩=some (.int .i64 s)) (l2:(⟨F,2,none⟩:Addr).block<w0.heap.size) (k3:w0.cell? ⟨F,3,none⟩=some (.slice ko kn kc)) (l3:(⟨F,3,none⟩:Addr).block<w0.heap.size) (k4:w0.cell? ⟨F,4,none⟩=some (.slice eo en ec)) (l4:(⟨F,4,none⟩:Addr).block<w0.heap.size) (k5:w0.cell? ⟨A,off+c*5+1,none⟩=some (.int .i64 a)) (l5:(⟨A,off+c*5+1,none⟩:Addr).block<w0.heap.size) (k6:w0.cell? ⟨A,off+c*5+1+1,none⟩=some (.int .i64 bb)) (l6:(⟨A,off+c*5+1+1,none⟩:Addr).block<w0.heap.size) (k7:w0.cell? ⟨A,off+c*5+1+2,none⟩=some (.int .i64 cc)) (l7:(⟨A,off+c*5+1+2,none⟩:Addr).block<w0.heap.size) (k8:w0.cell? ⟨A,off+c*5+1+3,none⟩=some (.int .i64 d)) (l8:(⟨A,off+c*5+1+3,none⟩:Addr).block<w0.heap.size) (hz:a0.tmps.size=63)
 (hQ:∀aq W,aq.tmps.size=a0.tmps.size→aq.defers=a0.defers→(∀e,e∉([30,31,32,33,34,35,36,37]:List Nat)→aq.tmps[e]? =a0.tmps[e]?)→VqlA A off n cap c x y s ko eo kn kc en ec a bb cc d w0.heap.size 7 (aq.tmps.getD 37 undef) W→Below w0.heap.size w0 W→Q .normal aq W) :
 (Code.region idq #[⟨some 30,.load 62 (.tmp 2),t0,q0,#[],none⟩,
 ⟨some 31,.move (.tmp 1),t1,q1,#[],none⟩,
 ⟨some 32,.move (.tmp 7),t2,q2,#[],none⟩,
 ⟨some 33,.indexAddr 24 (.tmp 31) (.tmp 32),t3,q3,#[⟨1,.data⟩,⟨2,.data⟩],none⟩,
 ⟨some 34,.fieldAddr 40 (.tmp 33) 1,t4,q4,#[⟨3,.data⟩],none⟩,
 ⟨some 35,.load 38 (.tmp 34),t5,q5,#[⟨4,.data⟩],none⟩,
 ⟨some 36,.call {callee:= .value (.func 81),args:=#[.tmp 30,.tmp 35],argTypes:=#[62,38]},t6,q6,#[⟨0,.data⟩,⟨5,.data⟩],none⟩,
 ⟨some 37,.unOp .not 4 (.tmp 36),t7,q7,#[⟨6,.data⟩],none⟩] true).wp Tryz.prog Q a0 w0:=by
 have hS:distS [some 30,some 31,some 32,some 33,some 34,some 35,some 36,some 37]=true:=rfl;refine wp_region_q (by kernel_rfl) w0.heap.size [some 30,some 31,some 32,some 33,some 34,some 35,some 36,some 37] (VqlA A off n cap c x y s ko eo kn kc en ec a bb cc d w0.heap.size) rfl ?_ ?_
 · intro Q lq aq W iq oq hJ2 hl ho hall;have z5:=hJ2.b;have g1:=hJ2.a h1
   have g2:=hJ2.a h2
   have g7:=hJ2.a h7
   have c0:=hJ2.c k0 l0;have c1:=hJ2.c k1 l1;have c2:=hJ2.c k2 l2;have c3:=hJ2.c k3 l3;have c4:=hJ2.c k4 l4;have c5:=hJ2.c k5 l5;have c6:=hJ2.c k6 l6;have c7:=hJ2.c k7 l7;have c8:=hJ2.c k8 l8
   clear hQ
   match iq,ho with
   | 0,ho=>
    cases ho;refine wpOp_of rfl rfl ?_;have hK:=hJ2.gO hS 0 30;generalize InvQ _ _ _ _ _ _=K at hK⊢;clear ho hall hl hJ2 hS;go_simp;exact hK _ rfl
   | 1,ho=>
    cases ho;refine wpOp_of rfl rfl ?_;have hK:=hJ2.gO hS 1 31;generalize InvQ _ _ _ _ _ _=K at hK⊢;clear ho hall hl hJ2 hS;go_simp;exact hK _ rfl
   | 2,ho=>
    cases ho;refine wpOp_of rfl rfl ?_;have hK:=hJ2.gO hS 2 32;generalize InvQ _ _ _ _ _ _=K at hK⊢;clear ho hall hl hJ2 hS;go_simp;exact hK _ rfl
   | 3,ho=>
    cases ho;refine wpOp_of rfl rfl ?_;have f1:_=Value.slice (some ⟨A,off,none⟩) n cap:=hJ2.v hall 1 31;have f2:_=Value.int .i64 (c:Int):=hJ2.v hall 2 32;have hcI:(c:Int)<n:=by omega
    have hnI:(n:Int)≤1048576:=by omega
    have hK:=hJ2.gO hS 3 33;generalize InvQ _ _ _ _ _ _=K at hK⊢;clear ho hall hl hJ2 hS;go_simp;exact hK _ rfl
   | 4,ho=>
    cases ho;refine wpOp_of rfl rfl ?_;have f3:_=Value.pointer (some ⟨A,off+c*5,none⟩):=hJ2.v hall 3 33;have hK:=hJ2.gO hS 4 34;generalize InvQ _ _ _ _ _ _=K at hK⊢;clear ho hall hl hJ2 hS;go_simp;exact hK _ rfl
   | 5,ho=>
    cases ho;refine wpOp_of rfl rfl ?_;have f4:_=Value.pointer (some ⟨A,off+c*5+1,none⟩):=hJ2.v hall 4 34;have hK:=hJ2.gO hS 5 35;generalize InvQ _ _ _ _ _ _=K at hK⊢;clear ho hall hl hJ2 hS;go_simp;exact hK _ rfl
   | 6,ho=>
    cases ho;refine wpOp_of rfl rfl ?_;have f0:_=Value.agg #[.int .i64 x,.int .i64 y,.int .i64 s,.slice ko kn kc,.slice eo en ec]:=hJ2.v hall 0 30;have f5:_=Sg a bb cc d:=hJ2.v hall 5 35;have hK:=hJ2.go hS 6 36;generalize InvQ _ _ _ _ _ _=K at hK⊢;clear ho hall hl hJ2 hS;go_simp;refine(l13Meets_any x y s ko eo kn kc en ec a bb cc d hq ia ibb icc id W).mono ?_;rintro e v1 ⟨rfl,hBv⟩;exact hK _ _ (z5.trans (hBv.mono z5.size)) (fun j v h=>h.mono hBv) rfl
   | 7,ho=>
    cases ho;refine wpOp_of rfl rfl ?_;have f6:_=Value.bool (hitB a bb cc d x y (x+s) (y+s)):=hJ2.v hall 6 36;have hK:=hJ2.gO hS 7 37;generalize InvQ _ _ _ _ _ _=K at hK⊢;clear ho hall hl hJ2 hS;go_simp;exact hK _ rfl
   | iq+8,ho=>simp at ho
 · intro lq aq W hJ hr;obtain⟨z1,z2,z3,z4,z5,z6,z7⟩:=hJ;have hl:=listed_of hr [0,1,2,3,4,5,6,7] [] (by simp) (by kernel_rfl) (by rw[z1];decide);exact hQ aq W z2 z3 (fun e he=>z4 e (by simpa using he)) (z6 7 37 (hl 7 (by simp)) rfl) z5
def VqlB (F k_:Nat) (eo:Option Addr) (en ec:Nat) (_B:Nat):Nat→Value→World→Prop
 | 0,v,_=>v= .int .i64 (k_:Int)
 | 1,v,_=>v= .pointer (some ⟨F,4,none⟩)
 | 2,v,_=>v= .slice eo en ec
 | 3,v,_=>v= .int .i64 (en:Int)
 | 4,v,_=>v= .bool true
 | 5,v,_=>v= .bool true
 | 6,v,_=>v=undef
 | 7,v,_=>v=undef
 | 8,v,_=>v=undef
 | 9,v,_=>v=undef
 | 10,v,_=>v=undef
 | 11,v,_=>v=undef
 | 12,v,_=>v=undef
 | 13,v,_=>v=undef
 | 14,v,_=>v=undef
 | 15,v,_=>v=undef
 | 16,v,_=>v=undef
 | 17,v,_=>v= .bool true
 | _,_,_=>True
theorem qlB {Q:Exit→Act→World→Prop} {F k_:Nat} {eo:Option Addr} {en ec:Nat} {w0:World} {a0:Act} {idq:Nat} {t0 t1 t2 t3 t4 t5 t6 t7 t8 t9 t10 t11 t12 t13 t14 t15 t16 t17:TypeId} {q0 q1 q2 q3 q4 q5 q6 q7 q8 q9 q10 q11 q12 q13 q14 q15 q16 q17:String}
 (hk:en≤k_) (h2:a0.tmps[2]? =some (.pointer (some ⟨F,0,none⟩))) (h6:a0.tmps[6]? =some (.int .i64 (k_:Int))) (k0:w0.cell? ⟨F,4,none⟩=some (.slice eo en ec)) (l0:(⟨F,4,none⟩:Addr).block<w0.heap.size) (hz:a0.tmps.size=63)
 (hQ:∀aq W,aq.tmps.size=a0.tmps.size→aq.defers=a0.defers→(∀e,e∉([38,39,40,41,42,43,44,45,46,47,48,49,50,51,52,53,54,55]:List Nat)→aq.tmps[e]? =a0.tmps[e]?)→VqlB F k_ eo en ec w0.heap.size 17 (aq.tmps.getD 55 undef) W→Below w0.heap.size w0 W→Q .normal aq W) :
 (Code.region idq #[⟨some 38,.move (.tmp 6),t0,q0,#[],none⟩,
 ⟨some 39,.fieldAddr 62 (.tmp 2) 4,t1,q1,#[],none⟩,
 ⟨some 40,.load 32 (.tmp 39),t2,q2,#[⟨1,.data⟩],none⟩,
 ⟨some 41,.call {callee:= .builtin .len,args:=#[.tmp 40],argTypes:=#[32]},t3,q3,#[⟨2,.data⟩],none⟩,
 ⟨some 42,.binOp .geq 3 (.tmp 38) (.tmp 41) 3,t4,q4,#[⟨0,.data⟩,⟨3,.data⟩],none⟩,
 ⟨some 43,.move (.tmp 42),t5,q5,#[⟨4,.data⟩],none⟩,
 ⟨some 44,.fieldAddr 62 (.tmp 2) 4,t6,q6,#[⟨5,.guard⟩],some (5,false)⟩,
 ⟨some 45,.load 32 (.tmp 44),t7,q7,#[⟨6,.data⟩,⟨5,.guard⟩],some (5,false)⟩,
 ⟨some 46,.move (.tmp 6),t8,q8,#[⟨5,.guard⟩],some (5,false)⟩,
 ⟨some 47,.indexAddr 32 (.tmp 45) (.tmp 46),t9,q9,#[⟨7,.data⟩,⟨8,.data⟩,⟨5,.guard⟩],some (5,false)⟩,
 ⟨some 48,.load 2 (.tmp 47),t10,q10,#[⟨9,.data⟩,⟨5,.guard⟩],some (5,false)⟩,
 ⟨some 49,.move (.tmp 1),t11,q11,#[⟨5,.guard⟩],some (5,false)⟩,
 ⟨some 50,.move (.tmp 7),t12,q12,#[⟨5,.guard⟩],some (5,false)⟩,
 ⟨some 51,.indexAddr 24 (.tmp 49) (.tmp 50),t13,q13,#[⟨11,.data⟩,⟨12,.data⟩,⟨5,.guard⟩],some (5,false)⟩,
 ⟨some 52,.fieldAddr 40 (.tmp 51) 0,t14,q14,#[⟨13,.data⟩,⟨5,.guard⟩],some (5,false)⟩,
 ⟨some 53,.load 2 (.tmp 52),t15,q15,#[⟨14,.data⟩,⟨5,.guard⟩],some (5,false)⟩,
 ⟨some 54,.binOp .neq 2 (.tmp 48) (.tmp 53) 2,t16,q16,#[⟨10,.data⟩,⟨15,.data⟩,⟨5,.guard⟩],some (5,false)⟩,
 ⟨some 55,.pick (.tmp 43) (.const (.bool true)) (.tmp 54),t17,q17,#[⟨5,.data⟩,⟨16,.data⟩],none⟩] true).wp Tryz.prog Q a0 w0:=by
 have hS:distS [some 38,some 39,some 40,some 41,some 42,some 43,some 44,some 45,some 46,some 47,some 48,some 49,some 50,some 51,some 52,some 53,some 54,some 55]=true:=rfl;refine wp_region_q (by kernel_rfl) w0.heap.size [some 38,some 39,some 40,some 41,some 42,some 43,some 44,some 45,some 46,some 47,some 48,some 49,some 50,some 51,some 52,some 53,some 54,some 55] (VqlB F k_ eo en ec w0.heap.size) rfl ?_ ?_
 · intro Q lq aq W iq oq hJ2 hl ho hall;have z5:=hJ2.b;have g2:=hJ2.a h2
   have g6:=hJ2.a h6
   have c0:=hJ2.c k0 l0
   clear hQ
   match iq,ho with
   | 0,ho=>
    cases ho;refine wpOp_of rfl rfl ?_;have hK:=hJ2.gO hS 0 38;generalize InvQ _ _ _ _ _ _=K at hK⊢;clear ho hall hl hJ2 hS;go_simp;exact hK _ rfl
   | 1,ho=>
    cases ho;refine wpOp_of rfl rfl ?_;have hK:=hJ2.gO hS 1 39;generalize InvQ _ _ _ _ _ _=K at hK⊢;clear ho hall hl hJ2 hS;go_simp;exact hK _ rfl
   | 2,ho=>
    cases ho;refine wpOp_of rfl rfl ?_;have f1:_=Value.pointer (some ⟨F,4,none⟩):=hJ2.v hall 1 39;have hK:=hJ2.gO hS 2 40;generalize InvQ _ _ _ _ _ _=K at hK⊢;clear ho hall hl hJ2 hS;go_simp;exact hK _ rfl
   | 3,ho=>
    cases ho;refine wpOp_of rfl rfl ?_;have f2:_=Value.slice eo en ec:=hJ2.v hall 2 40;have hK:=hJ2.gO hS 3 41;generalize InvQ _ _ _ _ _ _=K at hK⊢;clear ho hall hl hJ2 hS;go_simp;exact hK _ rfl
   | 4,ho=>
    cases ho;refine wpOp_of rfl rfl ?_;have f0:_=Value.int .i64 (k_:Int):=hJ2.v hall 0 38;have f3:_=Value.int .i64 (en:Int):=hJ2.v hall 3 41;have hgt:(en:Int)≤(k_:Int):=by omega
    have hK:=hJ2.gO hS 4 42;generalize InvQ _ _ _ _ _ _=K at hK⊢;clear ho hall hl hJ2 hS;go_simp;exact hK _ rfl
   | 5,ho=>
    cases ho;refine wpOp_of rfl rfl ?_;have f4:_=Value.bool true:=hJ2.v hall 4 42;have hK:=hJ2.gO hS 5 43;generalize InvQ _ _ _ _ _ _=K at hK⊢;clear ho hall hl hJ2 hS;go_simp;exact hK _ rfl
   | 6,ho=>
    cases ho;have fg:aq.tmps.getD 43 undef= .bool true:=hJ2.v hall 5 43 .guard;refine wpOp_off rfl rfl rfl rfl fg ?_;exact hJ2.put hS 6 44 rfl (by omega) z5 (fun _ _ h=>h) undef rfl
   | 7,ho=>
    cases ho;have fg:aq.tmps.getD 43 undef= .bool true:=hJ2.v hall 5 43 .guard;refine wpOp_off rfl rfl rfl rfl fg ?_;exact hJ2.put hS 7 45 rfl (by omega) z5 (fun _ _ h=>h) undef rfl
   | 8,ho=>
    cases ho;have fg:aq.tmps.getD 43 undef= .bool true:=hJ2.v hall 5 43 .guard;refine wpOp_off rfl rfl rfl rfl fg ?_;exact hJ2.put hS 8 46 rfl (by omega) z5 (fun _ _ h=>h) undef rfl
   | 9,ho=>
    cases ho;have fg:aq.tmps.getD 43 undef= .bool true:=hJ2.v hall 5 43 .guard;refine wpOp_off rfl rfl rfl rfl fg ?_;exact hJ2.put hS 9 47 rfl (by omega) z5 (fun _ _ h=>h) undef rfl
   | 10,ho=>
    cases ho;have fg:aq.tmps.getD 43 undef= .bool true:=hJ2.v hall 5 43 .guard;refine wpOp_off rfl rfl rfl rfl fg ?_;exact hJ2.put hS 10 48 rfl (by omega) z5 (fun _ _ h=>h) undef rfl
   | 11,ho=>
    cases ho;have fg:aq.tmps.getD 43 undef= .bool true:=hJ2.v hall 5 43 .guard;refine wpOp_off rfl rfl rfl rfl fg ?_;exact hJ2.put hS 11 49 rfl (by omega) z5 (fun _ _ h=>h) undef rfl
   | 12,ho=>
    cases ho;have fg:aq.tmps.getD 43 undef= .bool true:=hJ2.v hall 5 43 .guard;refine wpOp_off rfl rfl rfl rfl fg ?_;exact hJ2.put hS 12 50 rfl (by omega) z5 (fun _ _ h=>h) undef rfl
   | 13,ho=>
    cases ho;have fg:aq.tmps.getD 43 undef= .bool true:=hJ2.v hall 5 43 .guard;refine wpOp_off rfl rfl rfl rfl fg ?_;exact hJ2.put hS 13 51 rfl (by omega) z5 (fun _ _ h=>h) undef rfl
   | 14,ho=>
    cases ho;have fg:aq.tmps.getD 43 undef= .bool true:=hJ2.v hall 5 43 .guard;refine wpOp_off rfl rfl rfl rfl fg ?_;exact hJ2.put hS 14 52 rfl (by omega) z5 (fun _ _ h=>h) undef rfl
   | 15,ho=>
    cases ho;have fg:aq.tmps.getD 43 undef= .bool true:=hJ2.v hall 5 43 .guard;refine wpOp_off rfl rfl rfl rfl fg ?_;exact hJ2.put hS 15 53 rfl (by omega) z5 (fun _ _ h=>h) undef rfl
   | 16,ho=>
    cases ho;have fg:aq.tmps.getD 43 undef= .bool true:=hJ2.v hall 5 43 .guard;refine wpOp_off rfl rfl rfl rfl fg ?_;exact hJ2.put hS 16 54 rfl (by omega) z5 (fun _ _ h=>h) undef rfl
   | 17,ho=>
    cases ho;refine wpOp_of rfl rfl ?_;have f5:_=Value.bool true:=hJ2.v hall 5 43;have f16:_=undef:=hJ2.v hall 16 54;have hK:=hJ2.gO hS 17 55;generalize InvQ _ _ _ _ _ _=K at hK⊢;clear ho hall hl hJ2 hS;go_simp;exact hK _ rfl
   | iq+18,ho=>simp at ho
 · intro lq aq W hJ hr;obtain⟨z1,z2,z3,z4,z5,z6,z7⟩:=hJ;have hl:=listed_of hr [0,1,2,3,4,5,6,7,8,9,10,11,12,13,14,15,16,17] [] (by simp) (by kernel_rfl) (by rw[z1];decide);exact hQ aq W z2 z3 (fun e he=>z4 e (by simpa using he)) (z6 17 55 (hl 17 (by simp)) rfl) z5
def VqlC (F A off n cap c k_ E0 eoff:Nat) (en ec:Nat) (ev iv:Int) (_B:Nat):Nat→Value→World→Prop
 | 0,v,_=>v= .int .i64 (k_:Int)
 | 1,v,_=>v= .pointer (some ⟨F,4,none⟩)
 | 2,v,_=>v= .slice (some ⟨E0,eoff,none⟩) en ec
 | 3,v,_=>v= .int .i64 (en:Int)
 | 4,v,_=>v= .bool false
 | 5,v,_=>v= .bool false
 | 6,v,_=>v= .pointer (some ⟨F,4,none⟩)
 | 7,v,_=>v= .slice (some ⟨E0,eoff,none⟩) en ec
 | 8,v,_=>v= .int .i64 (k_:Int)
 | 9,v,_=>v= .pointer (some ⟨E0,eoff+k_,none⟩)
 | 10,v,_=>v= .int .i64 ev
 | 11,v,_=>v= .slice (some ⟨A,off,none⟩) n cap
 | 12,v,_=>v= .int .i64 (c:Int)
 | 13,v,_=>v= .pointer (some ⟨A,off+c*5,none⟩)
 | 14,v,_=>v= .pointer (some ⟨A,off+c*5,none⟩)
 | 15,v,_=>v= .int .i64 iv
 | 16,v,_=>v= .bool (decide (¬(ev=iv)))
 | 17,v,_=>v= .bool (decide (¬(ev=iv)))
 | _,_,_=>True
theorem qlC {Q:Exit→Act→World→Prop} {F A off n cap c k_ E0 eoff:Nat} {en ec:Nat} {ev iv:Int} {w0:World} {a0:Act} {idq:Nat} {t0 t1 t2 t3 t4 t5 t6 t7 t8 t9 t10 t11 t12 t13 t14 t15 t16 t17:TypeId} {q0 q1 q2 q3 q4 q5 q6 q7 q8 q9 q10 q11 q12 q13 q14 q15 q16 q17:String}
 (hk:k_<en) (hen:en≤1048576) (hcn:c<n) (hn:n≤1048576) (h1:a0.tmps[1]? =some (.slice (some ⟨A,off,none⟩) n cap)) (h2:a0.tmps[2]? =some (.pointer (some ⟨F,0,none⟩))) (h6:a0.tmps[6]? =some (.int .i64 (k_:Int))) (h7:a0.tmps[7]? =some (.int .i64 (c:Int))) (k0:w0.cell? ⟨F,4,none⟩=some (.slice (some ⟨E0,eoff,none⟩) en ec)) (l0:(⟨F,4,none⟩:Addr).block<w0.heap.size) (k1:w0.cell? ⟨E0,eoff+k_,none⟩=some (.int .i64 ev)) (l1:(⟨E0,eoff+k_,none⟩:Addr).block<w0.heap.size) (k2:w0.cell? ⟨A,off+c*5,none⟩=some (.int .i64 iv)) (l2:(⟨A,off+c*5,none⟩:Addr).block<w0.heap.size) (hz:a0.tmps.size=63)
 (hQ:∀aq W,aq.tmps.size=a0.tmps.size→aq.defers=a0.defers→(∀e,e∉([38,39,40,41,42,43,44,45,46,47,48,49,50,51,52,53,54,55]:List Nat)→aq.tmps[e]? =a0.tmps[e]?)→VqlC F A off n cap c k_ E0 eoff en ec ev iv w0.heap.size 17 (aq.tmps.getD 55 undef) W→Below w0.heap.size w0 W→Q .normal aq W) :
 (Code.region idq #[⟨some 38,.move (.tmp 6),t0,q0,#[],none⟩,
 ⟨some 39,.fieldAddr 62 (.tmp 2) 4,t1,q1,#[],none⟩,
 ⟨some 40,.load 32 (.tmp 39),t2,q2,#[⟨1,.data⟩],none⟩,
 ⟨some 41,.call {callee:= .builtin .len,args:=#[.tmp 40],argTypes:=#[32]},t3,q3,#[⟨2,.data⟩],none⟩,
 ⟨some 42,.binOp .geq 3 (.tmp 38) (.tmp 41) 3,t4,q4,#[⟨0,.data⟩,⟨3,.data⟩],none⟩,
 ⟨some 43,.move (.tmp 42),t5,q5,#[⟨4,.data⟩],none⟩,
 ⟨some 44,.fieldAddr 62 (.tmp 2) 4,t6,q6,#[⟨5,.guard⟩],some (5,false)⟩,
 ⟨some 45,.load 32 (.tmp 44),t7,q7,#[⟨6,.data⟩,⟨5,.guard⟩],some (5,false)⟩,
 ⟨some 46,.move (.tmp 6),t8,q8,#[⟨5,.guard⟩],some (5,false)⟩,
 ⟨some 47,.indexAddr 32 (.tmp 45) (.tmp 46),t9,q9,#[⟨7,.data⟩,⟨8,.data⟩,⟨5,.guard⟩],some (5,false)⟩,
 ⟨some 48,.load 2 (.tmp 47),t10,q10,#[⟨9,.data⟩,⟨5,.guard⟩],some (5,false)⟩,
 ⟨some 49,.move (.tmp 1),t11,q11,#[⟨5,.guard⟩],some (5,false)⟩,
 ⟨some 50,.move (.tmp 7),t12,q12,#[⟨5,.guard⟩],some (5,false)⟩,
 ⟨some 51,.indexAddr 24 (.tmp 49) (.tmp 50),t13,q13,#[⟨11,.data⟩,⟨12,.data⟩,⟨5,.guard⟩],some (5,false)⟩,
 ⟨some 52,.fieldAddr 40 (.tmp 51) 0,t14,q14,#[⟨13,.data⟩,⟨5,.guard⟩],some (5,false)⟩,
 ⟨some 53,.load 2 (.tmp 52),t15,q15,#[⟨14,.data⟩,⟨5,.guard⟩],some (5,false)⟩,
 ⟨some 54,.binOp .neq 2 (.tmp 48) (.tmp 53) 2,t16,q16,#[⟨10,.data⟩,⟨15,.data⟩,⟨5,.guard⟩],some (5,false)⟩,
 ⟨some 55,.pick (.tmp 43) (.const (.bool true)) (.tmp 54),t17,q17,#[⟨5,.data⟩,⟨16,.data⟩],none⟩] true).wp Tryz.prog Q a0 w0:=by
 have hS:distS [some 38,some 39,some 40,some 41,some 42,some 43,some 44,some 45,some 46,some 47,some 48,some 49,some 50,some 51,some 52,some 53,some 54,some 55]=true:=rfl;refine wp_region_q (by kernel_rfl) w0.heap.size [some 38,some 39,some 40,some 41,some 42,some 43,some 44,some 45,some 46,some 47,some 48,some 49,some 50,some 51,some 52,some 53,some 54,some 55] (VqlC F A off n cap c k_ E0 eoff en ec ev iv w0.heap.size) rfl ?_ ?_
 · intro Q lq aq W iq oq hJ2 hl ho hall;have z5:=hJ2.b;have g1:=hJ2.a h1
   have g2:=hJ2.a h2
   have g6:=hJ2.a h6
   have g7:=hJ2.a h7
   have c0:=hJ2.c k0 l0;have c1:=hJ2.c k1 l1;have c2:=hJ2.c k2 l2
   clear hQ
   match iq,ho with
   | 0,ho=>
    cases ho;refine wpOp_of rfl rfl ?_;have hK:=hJ2.gO hS 0 38;generalize InvQ _ _ _ _ _ _=K at hK⊢;clear ho hall hl hJ2 hS;go_simp;exact hK _ rfl
   | 1,ho=>
    cases ho;refine wpOp_of rfl rfl ?_;have hK:=hJ2.gO hS 1 39;generalize InvQ _ _ _ _ _ _=K at hK⊢;clear ho hall hl hJ2 hS;go_simp;exact hK _ rfl
   | 2,ho=>
    cases ho;refine wpOp_of rfl rfl ?_;have f1:_=Value.pointer (some ⟨F,4,none⟩):=hJ2.v hall 1 39;have hK:=hJ2.gO hS 2 40;generalize InvQ _ _ _ _ _ _=K at hK⊢;clear ho hall hl hJ2 hS;go_simp;exact hK _ rfl
   | 3,ho=>
    cases ho;refine wpOp_of rfl rfl ?_;have f2:_=Value.slice (some ⟨E0,eoff,none⟩) en ec:=hJ2.v hall 2 40;have hK:=hJ2.gO hS 3 41;generalize InvQ _ _ _ _ _ _=K at hK⊢;clear ho hall hl hJ2 hS;go_simp;exact hK _ rfl
   | 4,ho=>
    cases ho;refine wpOp_of rfl rfl ?_;have f0:_=Value.int .i64 (k_:Int):=hJ2.v hall 0 38;have f3:_=Value.int .i64 (en:Int):=hJ2.v hall 3 41;have hgt:(k_:Int)<(en:Int):=by omega
    have hK:=hJ2.go hS 4 42;generalize InvQ _ _ _ _ _ _=K at hK⊢;clear ho hall hl hJ2 hS;go_simp;exact hK _ _ z5 (fun _ _ h=>h) (by show _=_;exact congrArg Value.bool (decide_eq_false (by omega)))
   | 5,ho=>
    cases ho;refine wpOp_of rfl rfl ?_;have f4:_=Value.bool false:=hJ2.v hall 4 42;have hK:=hJ2.gO hS 5 43;generalize InvQ _ _ _ _ _ _=K at hK⊢;clear ho hall hl hJ2 hS;go_simp;exact hK _ rfl
   | 6,ho=>
    cases ho;have fg:aq.tmps.getD 43 undef= .bool false:=hJ2.v hall 5 43 .guard;refine wpOp_on rfl rfl rfl rfl fg ?_;have hK:=hJ2.gO hS 6 44;generalize InvQ _ _ _ _ _ _=K at hK⊢;clear ho hall hl hJ2 hS;go_simp;exact hK _ rfl
   | 7,ho=>
    cases ho;have fg:aq.tmps.getD 43 undef= .bool false:=hJ2.v hall 5 43 .guard;refine wpOp_on rfl rfl rfl rfl fg ?_;have f6:_=Value.pointer (some ⟨F,4,none⟩):=hJ2.v hall 6 44;have hK:=hJ2.gO hS 7 45;generalize InvQ _ _ _ _ _ _=K at hK⊢;clear ho hall hl hJ2 hS;go_simp;exact hK _ rfl
   | 8,ho=>
    cases ho;have fg:aq.tmps.getD 43 undef= .bool false:=hJ2.v hall 5 43 .guard;refine wpOp_on rfl rfl rfl rfl fg ?_;have hK:=hJ2.gO hS 8 46;generalize InvQ _ _ _ _ _ _=K at hK⊢;clear ho hall hl hJ2 hS;go_simp;exact hK _ rfl
   | 9,ho=>
    cases ho;have fg:aq.tmps.getD 43 undef= .bool false:=hJ2.v hall 5 43 .guard;refine wpOp_on rfl rfl rfl rfl fg ?_;have f7:_=Value.slice (some ⟨E0,eoff,none⟩) en ec:=hJ2.v hall 7 45;have f8:_=Value.int .i64 (k_:Int):=hJ2.v hall 8 46;have hkI:(k_:Int)<en:=by omega
    have heI:(en:Int)≤1048576:=by omega
    have hK:=hJ2.gO hS 9 47;generalize InvQ _ _ _ _ _ _=K at hK⊢;clear ho hall hl hJ2 hS;go_simp;exact hK _ rfl
   | 10,ho=>
    cases ho;have fg:aq.tmps.getD 43 undef= .bool false:=hJ2.v hall 5 43 .guard;refine wpOp_on rfl rfl rfl rfl fg ?_;have f9:_=Value.pointer (some ⟨E0,eoff+k_,none⟩):=hJ2.v hall 9 47;have hK:=hJ2.gO hS 10 48;generalize InvQ _ _ _ _ _ _=K at hK⊢;clear ho hall hl hJ2 hS;go_simp;exact hK _ rfl
   | 11,ho=>
    cases ho;have fg:aq.tmps.getD 43 undef= .bool false:=hJ2.v hall 5 43 .guard;refine wpOp_on rfl rfl rfl rfl fg ?_;have hK:=hJ2.gO hS 11 49;generalize InvQ _ _ _ _ _ _=K at hK⊢;clear ho hall hl hJ2 hS;go_simp;exact hK _ rfl
   | 12,ho=>
    cases ho;have fg:aq.tmps.getD 43 undef= .bool false:=hJ2.v hall 5 43 .guard;refine wpOp_on rfl rfl rfl rfl fg ?_;have hK:=hJ2.gO hS 12 50;generalize InvQ _ _ _ _ _ _=K at hK⊢;clear ho hall hl hJ2 hS;go_simp;exact hK _ rfl
   | 13,ho=>
    cases ho;have fg:aq.tmps.getD 43 undef= .bool false:=hJ2.v hall 5 43 .guard;refine wpOp_on rfl rfl rfl rfl fg ?_;have f11:_=Value.slice (some ⟨A,off,none⟩) n cap:=hJ2.v hall 11 49;have f12:_=Value.int .i64 (c:Int):=hJ2.v hall 12 50;have hcI:(c:Int)<n:=by omega
    have hnI:(n:Int)≤1048576:=by omega
    have hK:=hJ2.gO hS 13 51;generalize InvQ _ _ _ _ _ _=K at hK⊢;clear ho hall hl hJ2 hS;go_simp;exact hK _ rfl
   | 14,ho=>
    cases ho;have fg:aq.tmps.getD 43 undef= .bool false:=hJ2.v hall 5 43 .guard;refine wpOp_on rfl rfl rfl rfl fg ?_;have f13:_=Value.pointer (some ⟨A,off+c*5,none⟩):=hJ2.v hall 13 51;have hK:=hJ2.gO hS 14 52;generalize InvQ _ _ _ _ _ _=K at hK⊢;clear ho hall hl hJ2 hS;go_simp;exact hK _ rfl
   | 15,ho=>
    cases ho;have fg:aq.tmps.getD 43 undef= .bool false:=hJ2.v hall 5 43 .guard;refine wpOp_on rfl rfl rfl rfl fg ?_;have f14:_=Value.pointer (some ⟨A,off+c*5,none⟩):=hJ2.v hall 14 52;have hK:=hJ2.gO hS 15 53;generalize InvQ _ _ _ _ _ _=K at hK⊢;clear ho hall hl hJ2 hS;go_simp;exact hK _ rfl
   | 16,ho=>
    cases ho;have fg:aq.tmps.getD 43 undef= .bool false:=hJ2.v hall 5 43 .guard;refine wpOp_on rfl rfl rfl rfl fg ?_;have f10:_=Value.int .i64 ev:=hJ2.v hall 10 48;have f15:_=Value.int .i64 iv:=hJ2.v hall 15 53;have hK:=hJ2.go hS 16 54;generalize InvQ _ _ _ _ _ _=K at hK⊢;clear ho hall hl hJ2 hS;go_simp;exact hK _ _ z5 (fun _ _ h=>h) (by show Value.bool _=Value.bool _;congr 1;rw[Bool.eq_iff_iff];simp)
   | 17,ho=>
    cases ho;refine wpOp_of rfl rfl ?_;have f5:_=Value.bool false:=hJ2.v hall 5 43;have f16:_=Value.bool (decide (¬(ev=iv))):=hJ2.v hall 16 54;have hK:=hJ2.go hS 17 55;generalize InvQ _ _ _ _ _ _=K at hK⊢;clear ho hall hl hJ2 hS;go_simp;exact hK _ _ z5 (fun _ _ h=>h) (by show Value.bool _=Value.bool _;congr 1;rw[Bool.eq_iff_iff];simp)
   | iq+18,ho=>simp at ho
 · intro lq aq W hJ hr;obtain⟨z1,z2,z3,z4,z5,z6,z7⟩:=hJ;have hl:=listed_of hr [0,1,2,3,4,5,6,7,8,9,10,11,12,13,14,15,16,17] [] (by simp) (by kernel_rfl) (by rw[z1];decide);exact hQ aq W z2 z3 (fun e he=>z4 e (by simpa using he)) (z6 17 55 (hl 17 (by simp)) rfl) z5
end Go.Proofs.YthelolpogdcmhaaGreat
