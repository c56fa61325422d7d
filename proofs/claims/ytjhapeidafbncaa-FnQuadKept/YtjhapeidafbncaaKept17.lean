/- Part 17 of the walks that the proof leans on. -/
import Derived.Test.YtjhapeidafbncaaKept16
import Derived.Test.YtjhapeidafbncaaKept8
import Derived.Test.YtjhapeidafbncaaKept14
import Derived.Test.YtjhapeidafbncaaKept12
import Derived.Test.YtjhapeidafbncaaKept15
import Derived.Deep.DeepAppendRoom
import Derived.Deep.RegionLaw
set_option maxRecDepth 100000
set_option maxHeartbeats 16000000
namespace Go.Proofs.Ytjhapeidafbncaa
open Go.RowKit
def Vqc12 (P _Rb _G kn kc en ec n icap:Nat) (ko eo io:Option Addr) (m d id:Int) (_TT:Option Addr→Nat→Nat→Option Addr→Nat→Nat→World→Prop) (_UU:Option Addr→Nat→Nat→World→Prop) (_Wd:World) (_B:Nat):Nat→Value→World→Prop
 | 0,v,_=>v= .pointer (some ⟨P,0,none⟩)
 | 1,v,_=>v= .int .i64 m
 | 2,v,_=>v= .pointer (some ⟨P,1,none⟩)
 | 3,v,_=>v= .int .i64 d
 | 4,v,_=>v= .slice io n icap
 | 5,v,_=>v= .agg #[.int .i64 (-1048576),.int .i64 (-1048576),.int .i64 2097152,.slice ko kn kc,.slice eo en ec]
 | 6,v,_=>v= .int .i64 id
 | 7,v,_=>v= .pointer (some ⟨P,0,none⟩)
 | 8,v,_=>v= .int .i64 m
 | 13,v,_=>v= .bool true
 | _,_,_=>True
theorem Vqc12.same {P Rb G kn kc en ec n icap:Nat} {ko eo io:Option Addr} {m d id:Int} {TT:Option Addr→Nat→Nat→Option Addr→Nat→Nat→World→Prop} {UU:Option Addr→Nat→Nat→World→Prop} {Wd:World} {B j:Nat} {v:Value} {W W2:World} (h:Vqc12 P Rb G kn kc en ec n icap ko eo io m d id TT UU Wd B j v W):Vqc12 P Rb G kn kc en ec n icap ko eo io m d id TT UU Wd B j v W2:=by
 unfold Vqc12 at *
 split<;>simp only at h<;>first | exact h | trivial
def Rqc12 (_P Rb _G _kn _kc _en _ec n icap:Nat) (_ko _eo io:Option Addr) (m d _id:Int) (TT:Option Addr→Nat→Nat→Option Addr→Nat→Nat→World→Prop) (UU:Option Addr→Nat→Nat→World→Prop) (Wd:World):Nat→(Nat→Value)→World→Prop:=fun kq val W=>match kq with
 | 0=>W=Wd
 | 1=>∃ko1 kn1 kc1 eo1 en1 ec1,val 0= .agg #[.int .i64 (-1048576),.int .i64 (-1048576),.int .i64 2097152,.slice ko1 kn1 kc1,.slice eo1 en1 ec1]∧TT ko1 kn1 kc1 eo1 en1 ec1 W∧Below Wd.heap.size Wd W
 | 2=>∃uo un uc,val 1= .slice uo un uc∧UU uo un uc W∧Below Wd.heap.size Wd W
 | 3=>∃uo un uc,val 2= .agg #[.int .i64 m,.int .i64 d,.slice io n icap,.slice uo un uc]∧UU uo un uc W∧Below Wd.heap.size Wd W
 | _=>∃uo un uc W2,UU uo un uc W2∧Below Wd.heap.size Wd W2∧W=((((W2.setCell ⟨Rb,0,none⟩ (.int .i64 m)).setCell ⟨Rb,1,none⟩ (.int .i64 d)).setCell ⟨Rb,2,none⟩ (.slice io n icap)).setCell ⟨Rb,3,none⟩ (.slice uo un uc))
def Sqc12 (P Rb G kn kc en ec n icap:Nat) (ko eo io:Option Addr) (m d id:Int) (TT:Option Addr→Nat→Nat→Option Addr→Nat→Nat→World→Prop) (UU:Option Addr→Nat→Nat→World→Prop) (Wd:World) (lz:Array Bool) (az:Act) (W:World):Prop:=ChS 14 5 (fun t=>[9,10,11,12,13].getD t 0) (fun t=>[58,59,60,1012,5].getD t 0) (Rqc12 P Rb G kn kc en ec n icap ko eo io m d id TT UU Wd) lz az W∧((lz.getD 9 false=true→lz.getD 5 false=true))
def Jqc12 (P Rb G kn kc en ec n icap:Nat) (ko eo io:Option Addr) (m d id:Int) (TT:Option Addr→Nat→Nat→Option Addr→Nat→Nat→World→Prop) (UU:Option Addr→Nat→Nat→World→Prop) (Wd:World) (w0:World) (a0:Act) (lz:Array Bool) (az:Act) (W:World):Prop:=InvQ (Rb) [some 49,some 50,some 51,some 52,some 53,some 54,some 55,some 56,some 57,some 58,some 59,some 60,none,some 5] (Vqc12 P Rb G kn kc en ec n icap ko eo io m d id TT UU Wd (Rb)) w0 a0 lz az W∧Sqc12 P Rb G kn kc en ec n icap ko eo io m d id TT UU Wd lz az W
theorem qc12 {Q:Exit→Act→World→Prop} {P Rb G kn kc en ec n icap:Nat} {ko eo io:Option Addr} {m d id:Int} {TT:Option Addr→Nat→Nat→Option Addr→Nat→Nat→World→Prop} {UU:Option Addr→Nat→Nat→World→Prop} {Wd:World} {w0:World} {a0:Act} {idq:Nat} {t0 t1 t2 t3 t4 t5 t6 t7 t8 t9 t10 t11 t12 t13:TypeId} {q0 q1 q2 q3 q4 q5 q6 q7 q8 q9 q10 q11 q12 q13:String}
   (hbw:Rb<w0.heap.size) (hG:Blk w0.drew G [.int .i64 (-1048576),.int .i64 (-1048576),.int .i64 2097152,.slice ko kn kc,.slice eo en ec]) (hR0:Blk w0.drew Rb [.int .i64 0,.int .i64 0,.slice none 0 0,.slice none 0 0]) (hcut:Calls Try.prog 47 #[.agg #[.int .i64 (-1048576),.int .i64 (-1048576),.int .i64 2097152,.slice ko kn kc,.slice eo en ec],.int .i64 id,.int .i64 m] Wd (fun r W2=>∃ko1 kn1 kc1 eo1 en1 ec1,r= .returned (.agg #[.int .i64 (-1048576),.int .i64 (-1048576),.int .i64 2097152,.slice ko1 kn1 kc1,.slice eo1 en1 ec1])∧TT ko1 kn1 kc1 eo1 en1 ec1 W2∧Below Wd.heap.size Wd W2)) (hwrite:∀ko1 kn1 kc1 eo1 en1 ec1 W,TT ko1 kn1 kc1 eo1 en1 ec1 W→Below Wd.heap.size Wd W→Calls Try.prog 29 #[.agg #[.int .i64 (-1048576),.int .i64 (-1048576),.int .i64 2097152,.slice ko1 kn1 kc1,.slice eo1 en1 ec1]] W (fun r W2=>∃uo un uc,r= .returned (.slice uo un uc)∧UU uo un uc W2∧Below W.heap.size W W2)) (hWe:Wd=w0.drew) (h1:a0.tmps[1]? =some (.int .i64 id)) (h2:a0.tmps[2]? =some (.pointer (some ⟨P,0,none⟩))) (h4:a0.tmps[4]? =some (.pointer (some ⟨Rb,0,none⟩))) (h6:a0.tmps[6]? =some (.pointer (some ⟨G,0,none⟩))) (h8:a0.tmps[8]? =some (.slice io n icap)) (k0:w0.cell? ⟨P,0,none⟩=some (.int .i64 m)) (l0:(⟨P,0,none⟩:Addr).block<Rb) (k1:w0.cell? ⟨P,1,none⟩=some (.int .i64 d)) (l1:(⟨P,1,none⟩:Addr).block<Rb) (hz:a0.tmps.size=61)
   (hQ:∀aq W,aq.tmps.size=a0.tmps.size→aq.defers=a0.defers→(∀e,e∉([49,50,51,52,53,54,55,56,57,58,59,60,5]:List Nat)→aq.tmps[e]? =a0.tmps[e]?)→Vqc12 P Rb G kn kc en ec n icap ko eo io m d id TT UU Wd (Rb) 13 (aq.tmps.getD 5 undef) W→Below (Rb) w0 W→(∃uo un uc W2,UU uo un uc W2∧Below Wd.heap.size Wd W2∧W=((((W2.setCell ⟨Rb,0,none⟩ (.int .i64 m)).setCell ⟨Rb,1,none⟩ (.int .i64 d)).setCell ⟨Rb,2,none⟩ (.slice io n icap)).setCell ⟨Rb,3,none⟩ (.slice uo un uc)))→Q .normal aq W) :
   (Code.region idq #[{dst:=some 49,op:=Op.fieldAddr 34 (.tmp 2) 0,type:=t0,pos:=q0,after:=#[],guard:=none},
   {dst:=some 50,op:=Op.load 2 (.tmp 49),type:=t1,pos:=q1,after:=#[⟨0,.data⟩],guard:=none},
   {dst:=some 51,op:=Op.fieldAddr 34 (.tmp 2) 1,type:=t2,pos:=q2,after:=#[],guard:=none},
   {dst:=some 52,op:=Op.load 2 (.tmp 51),type:=t3,pos:=q3,after:=#[⟨2,.data⟩],guard:=none},
   {dst:=some 53,op:=Op.move (.tmp 8),type:=t4,pos:=q4,after:=#[],guard:=none},
   {dst:=some 54,op:=Op.load 64 (.tmp 6),type:=t5,pos:=q5,after:=#[],guard:=none},
   {dst:=some 55,op:=Op.move (.tmp 1),type:=t6,pos:=q6,after:=#[],guard:=none},
   {dst:=some 56,op:=Op.fieldAddr 34 (.tmp 2) 0,type:=t7,pos:=q7,after:=#[],guard:=none},
   {dst:=some 57,op:=Op.load 2 (.tmp 56),type:=t8,pos:=q8,after:=#[⟨7,.data⟩],guard:=none},
   {dst:=some 58,op:=Op.call {callee:=Callee.value (Operand.func 47),args:=#[.tmp 54,.tmp 55,.tmp 57],argTypes:=#[64,2,2]},type:=t9,pos:=q9,after:=#[⟨5,.data⟩,⟨6,.data⟩,⟨8,.data⟩],guard:=none},
   {dst:=some 59,op:=Op.call {callee:=Callee.value (Operand.func 29),args:=#[.tmp 58],argTypes:=#[64]},type:=t10,pos:=q10,after:=#[⟨9,.data⟩,⟨9,.chain⟩],guard:=none},
   {dst:=some 60,op:=Op.build 34 #[(0,.tmp 50),(1,.tmp 52),(2,.tmp 53),(3,.tmp 59)],type:=t11,pos:=q11,after:=#[⟨1,.data⟩,⟨3,.data⟩,⟨4,.data⟩,⟨10,.data⟩],guard:=none},
   {dst:=none,op:=Op.store 34 (.tmp 4) (.tmp 60),type:=t12,pos:=q12,after:=#[⟨11,.data⟩,⟨10,.chain⟩,⟨0,.phase⟩,⟨1,.phase⟩,⟨2,.phase⟩,⟨3,.phase⟩,⟨4,.phase⟩,⟨5,.phase⟩,⟨6,.phase⟩,⟨7,.phase⟩,⟨8,.phase⟩,⟨9,.phase⟩,⟨10,.phase⟩,⟨11,.phase⟩],guard:=none},
   {dst:=some 5,op:=Op.assign (Operand.const (Value.bool true)),type:=t13,pos:=q13,after:=#[⟨12,.chain⟩,⟨0,.phase⟩,⟨1,.phase⟩,⟨2,.phase⟩,⟨3,.phase⟩,⟨4,.phase⟩,⟨5,.phase⟩,⟨6,.phase⟩,⟨7,.phase⟩,⟨8,.phase⟩,⟨9,.phase⟩,⟨10,.phase⟩,⟨11,.phase⟩,⟨12,.phase⟩],guard:=none}] true).wp Try.prog Q a0 w0:=by
 have hS:distS [some 49,some 50,some 51,some 52,some 53,some 54,some 55,some 56,some 57,some 58,some 59,some 60,none,some 5]=true:=rfl
 refine wp_region_inv (by kernel_rfl) (Jqc12 P Rb G kn kc en ec n icap ko eo io m d id TT UU Wd w0 a0) ⟨⟨rfl,rfl,rfl,fun _ _=>rfl,(Below.refl _ w0).drew,fun j d hj=>?_,fun j hj=>?_⟩,⟨ChS.start (by decide) (hWe.symm),(fun h=>by rw[replD] at h;cases h)⟩⟩ ?_ ?_
 · exfalso
   rw[Array.getD_eq_getD_getElem?,Array.getElem?_replicate] at hj
   split at hj<;>simp at hj
 · exfalso
   rw[Array.getD_eq_getD_getElem?,Array.getElem?_replicate] at hj
   split at hj<;>simp at hj
 · intro lq aq W iq oq ⟨hJ,hs⟩ hl ho hall
   have hJ2:=hJ
   obtain⟨z1,z2,z3,z4,z5,z6,z7⟩:=hJ
   have g1:aq.tmps.getD 1 undef= .int .i64 id:=by rw[Array.getD_eq_getD_getElem?,z4 1 (by decide),h1];rfl
   have g2:aq.tmps.getD 2 undef= .pointer (some ⟨P,0,none⟩):=by rw[Array.getD_eq_getD_getElem?,z4 2 (by decide),h2];rfl
   have g4:aq.tmps.getD 4 undef= .pointer (some ⟨Rb,0,none⟩):=by rw[Array.getD_eq_getD_getElem?,z4 4 (by decide),h4];rfl
   have g6:aq.tmps.getD 6 undef= .pointer (some ⟨G,0,none⟩):=by rw[Array.getD_eq_getD_getElem?,z4 6 (by decide),h6];rfl
   have g8:aq.tmps.getD 8 undef= .slice io n icap:=by rw[Array.getD_eq_getD_getElem?,z4 8 (by decide),h8];rfl
   have c0:W.cell? ⟨P,0,none⟩=some (.int .i64 m):=(z5.cell l0).trans k0
   have c1:W.cell? ⟨P,1,none⟩=some (.int .i64 d):=(z5.cell l1).trans k1
   match iq,ho with
   | 0,ho=>
     cases ho
     refine wpOp_of rfl rfl ?_
     have hq:∀v:Value,Sqc12 P Rb G kn kc en ec n icap ko eo io m d id TT UU Wd (lq.setIfInBounds 0 true) (aq.put (some 49) v) W:=fun v=>⟨hs.1.quiet 0 49 v (by decide) hl (by decide) (by decide),(by rw[getD_set_neq (i:=0) (j:=9) (by decide),getD_set_neq (i:=0) (j:=5) (by decide)];exact hs.2)⟩
     clear hs hWe
     have hK:=fun(v:Value) (W2:World) hW hT hv (hs:Sqc12 P Rb G kn kc en ec n icap ko eo io m d id TT UU Wd (lq.setIfInBounds 0 true) (aq.put (some 49) v) W2)=>show(Jqc12 P Rb G kn kc en ec n icap ko eo io m d id TT UU Wd w0 a0) (lq.setIfInBounds 0 true) (aq.put (some 49) v) W2 from⟨hJ2.put hS 0 49 rfl (by omega) (W' :=W2) hW hT v hv,hs⟩
     clear ho hall hl hQ
     generalize (Jqc12 P Rb G kn kc en ec n icap ko eo io m d id TT UU Wd w0 a0) (lq.setIfInBounds 0 true)=K at hK⊢
     clear hJ2 hS z1 z2 z3 z4 z6 z7
     go_simp
     exact hK _ _ z5 (fun _ _ h=>h) rfl (hq _)
   | 1,ho=>
     cases ho
     refine wpOp_of rfl rfl ?_
     have f0:(aq.tmps.getD 49 undef)= .pointer (some ⟨P,0,none⟩):=z6 0 49 (hall ⟨0,.data⟩ (by simp) rfl) rfl
     have hq:∀v:Value,Sqc12 P Rb G kn kc en ec n icap ko eo io m d id TT UU Wd (lq.setIfInBounds 1 true) (aq.put (some 50) v) W:=fun v=>⟨hs.1.quiet 1 50 v (by decide) hl (by decide) (by decide),(by rw[getD_set_neq (i:=1) (j:=9) (by decide),getD_set_neq (i:=1) (j:=5) (by decide)];exact hs.2)⟩
     clear hs hWe
     have hK:=fun(v:Value) (W2:World) hW hT hv (hs:Sqc12 P Rb G kn kc en ec n icap ko eo io m d id TT UU Wd (lq.setIfInBounds 1 true) (aq.put (some 50) v) W2)=>show(Jqc12 P Rb G kn kc en ec n icap ko eo io m d id TT UU Wd w0 a0) (lq.setIfInBounds 1 true) (aq.put (some 50) v) W2 from⟨hJ2.put hS 1 50 rfl (by omega) (W' :=W2) hW hT v hv,hs⟩
     clear ho hall hl hQ
     generalize (Jqc12 P Rb G kn kc en ec n icap ko eo io m d id TT UU Wd w0 a0) (lq.setIfInBounds 1 true)=K at hK⊢
     clear hJ2 hS z1 z2 z3 z4 z6 z7
     go_simp
     exact hK _ _ z5 (fun _ _ h=>h) rfl (hq _)
   | 2,ho=>
     cases ho
     refine wpOp_of rfl rfl ?_
     have hq:∀v:Value,Sqc12 P Rb G kn kc en ec n icap ko eo io m d id TT UU Wd (lq.setIfInBounds 2 true) (aq.put (some 51) v) W:=fun v=>⟨hs.1.quiet 2 51 v (by decide) hl (by decide) (by decide),(by rw[getD_set_neq (i:=2) (j:=9) (by decide),getD_set_neq (i:=2) (j:=5) (by decide)];exact hs.2)⟩
     clear hs hWe
     have hK:=fun(v:Value) (W2:World) hW hT hv (hs:Sqc12 P Rb G kn kc en ec n icap ko eo io m d id TT UU Wd (lq.setIfInBounds 2 true) (aq.put (some 51) v) W2)=>show(Jqc12 P Rb G kn kc en ec n icap ko eo io m d id TT UU Wd w0 a0) (lq.setIfInBounds 2 true) (aq.put (some 51) v) W2 from⟨hJ2.put hS 2 51 rfl (by omega) (W' :=W2) hW hT v hv,hs⟩
     clear ho hall hl hQ
     generalize (Jqc12 P Rb G kn kc en ec n icap ko eo io m d id TT UU Wd w0 a0) (lq.setIfInBounds 2 true)=K at hK⊢
     clear hJ2 hS z1 z2 z3 z4 z6 z7
     go_simp
     exact hK _ _ z5 (fun _ _ h=>h) rfl (hq _)
   | 3,ho=>
     cases ho
     refine wpOp_of rfl rfl ?_
     have f2:(aq.tmps.getD 51 undef)= .pointer (some ⟨P,1,none⟩):=z6 2 51 (hall ⟨2,.data⟩ (by simp) rfl) rfl
     have hq:∀v:Value,Sqc12 P Rb G kn kc en ec n icap ko eo io m d id TT UU Wd (lq.setIfInBounds 3 true) (aq.put (some 52) v) W:=fun v=>⟨hs.1.quiet 3 52 v (by decide) hl (by decide) (by decide),(by rw[getD_set_neq (i:=3) (j:=9) (by decide),getD_set_neq (i:=3) (j:=5) (by decide)];exact hs.2)⟩
     clear hs hWe
     have hK:=fun(v:Value) (W2:World) hW hT hv (hs:Sqc12 P Rb G kn kc en ec n icap ko eo io m d id TT UU Wd (lq.setIfInBounds 3 true) (aq.put (some 52) v) W2)=>show(Jqc12 P Rb G kn kc en ec n icap ko eo io m d id TT UU Wd w0 a0) (lq.setIfInBounds 3 true) (aq.put (some 52) v) W2 from⟨hJ2.put hS 3 52 rfl (by omega) (W' :=W2) hW hT v hv,hs⟩
     clear ho hall hl hQ
     generalize (Jqc12 P Rb G kn kc en ec n icap ko eo io m d id TT UU Wd w0 a0) (lq.setIfInBounds 3 true)=K at hK⊢
     clear hJ2 hS z1 z2 z3 z4 z6 z7
     go_simp
     exact hK _ _ z5 (fun _ _ h=>h) rfl (hq _)
   | 4,ho=>
     cases ho
     refine wpOp_of rfl rfl ?_
     have hq:∀v:Value,Sqc12 P Rb G kn kc en ec n icap ko eo io m d id TT UU Wd (lq.setIfInBounds 4 true) (aq.put (some 53) v) W:=fun v=>⟨hs.1.quiet 4 53 v (by decide) hl (by decide) (by decide),(by rw[getD_set_neq (i:=4) (j:=9) (by decide),getD_set_neq (i:=4) (j:=5) (by decide)];exact hs.2)⟩
     clear hs hWe
     have hK:=fun(v:Value) (W2:World) hW hT hv (hs:Sqc12 P Rb G kn kc en ec n icap ko eo io m d id TT UU Wd (lq.setIfInBounds 4 true) (aq.put (some 53) v) W2)=>show(Jqc12 P Rb G kn kc en ec n icap ko eo io m d id TT UU Wd w0 a0) (lq.setIfInBounds 4 true) (aq.put (some 53) v) W2 from⟨hJ2.put hS 4 53 rfl (by omega) (W' :=W2) hW hT v hv,hs⟩
     clear ho hall hl hQ
     generalize (Jqc12 P Rb G kn kc en ec n icap ko eo io m d id TT UU Wd w0 a0) (lq.setIfInBounds 4 true)=K at hK⊢
     clear hJ2 hS z1 z2 z3 z4 z6 z7
     go_simp
     exact hK _ _ z5 (fun _ _ h=>h) rfl (hq _)
   | 5,ho=>
     cases ho
     refine wpOp_of rfl rfl ?_
     have hq:∀v:Value,Sqc12 P Rb G kn kc en ec n icap ko eo io m d id TT UU Wd (lq.setIfInBounds 5 true) (aq.put (some 54) v) W:=fun v=>⟨hs.1.quiet 5 54 v (by decide) hl (by decide) (by decide),(fun _=>getD_set_eq hl)⟩
     have h8:lq.getD 9 false=false:=by cases e:lq.getD 9 false with | false=>rfl | true=>have:=hs.2 e;rw[getD_tf hl] at this;cases this
     obtain⟨cc,hcc,hRR,hle⟩:=hs.1.some (i:=5) (by decide) hl
     have hcc1:cc=0:=by have:=hle 0 (by decide) (by show lq.getD 9 true=false;exact getD_ft h8 (by rw[z1];decide));omega
     subst hcc1
     have eW:W=Wd:=hRR
     have j0:W.cell? ⟨G,0,none⟩=some (.int .i64 (-1048576)):=by rw[eW,hWe];exact hG.c 0 rfl
     have j1:W.cell? ⟨G,1,none⟩=some (.int .i64 (-1048576)):=by rw[eW,hWe];exact hG.c 1 rfl
     have j2:W.cell? ⟨G,2,none⟩=some (.int .i64 2097152):=by rw[eW,hWe];exact hG.c 2 rfl
     have j3:W.cell? ⟨G,3,none⟩=some (.slice ko kn kc):=by rw[eW,hWe];exact hG.c 3 rfl
     have j4:W.cell? ⟨G,4,none⟩=some (.slice eo en ec):=by rw[eW,hWe];exact hG.c 4 rfl
     clear hRR hle hcc h8 eW
     clear hs hWe
     have hK:=fun(v:Value) (W2:World) hW hT hv (hs:Sqc12 P Rb G kn kc en ec n icap ko eo io m d id TT UU Wd (lq.setIfInBounds 5 true) (aq.put (some 54) v) W2)=>show(Jqc12 P Rb G kn kc en ec n icap ko eo io m d id TT UU Wd w0 a0) (lq.setIfInBounds 5 true) (aq.put (some 54) v) W2 from⟨hJ2.put hS 5 54 rfl (by omega) (W' :=W2) hW hT v hv,hs⟩
     clear ho hall hl hQ
     generalize (Jqc12 P Rb G kn kc en ec n icap ko eo io m d id TT UU Wd w0 a0) (lq.setIfInBounds 5 true)=K at hK⊢
     clear hJ2 hS z1 z2 z3 z4 z6 z7
     go_simp
     exact hK _ _ z5 (fun _ _ h=>h) rfl (hq _)
   | 6,ho=>
     cases ho
     refine wpOp_of rfl rfl ?_
     have hq:∀v:Value,Sqc12 P Rb G kn kc en ec n icap ko eo io m d id TT UU Wd (lq.setIfInBounds 6 true) (aq.put (some 55) v) W:=fun v=>⟨hs.1.quiet 6 55 v (by decide) hl (by decide) (by decide),(by rw[getD_set_neq (i:=6) (j:=9) (by decide),getD_set_neq (i:=6) (j:=5) (by decide)];exact hs.2)⟩
     clear hs hWe
     have hK:=fun(v:Value) (W2:World) hW hT hv (hs:Sqc12 P Rb G kn kc en ec n icap ko eo io m d id TT UU Wd (lq.setIfInBounds 6 true) (aq.put (some 55) v) W2)=>show(Jqc12 P Rb G kn kc en ec n icap ko eo io m d id TT UU Wd w0 a0) (lq.setIfInBounds 6 true) (aq.put (some 55) v) W2 from⟨hJ2.put hS 6 55 rfl (by omega) (W' :=W2) hW hT v hv,hs⟩
     clear ho hall hl hQ
     generalize (Jqc12 P Rb G kn kc en ec n icap ko eo io m d id TT UU Wd w0 a0) (lq.setIfInBounds 6 true)=K at hK⊢
     clear hJ2 hS z1 z2 z3 z4 z6 z7
     go_simp
     exact hK _ _ z5 (fun _ _ h=>h) rfl (hq _)
   | 7,ho=>
     cases ho
     refine wpOp_of rfl rfl ?_
     have hq:∀v:Value,Sqc12 P Rb G kn kc en ec n icap ko eo io m d id TT UU Wd (lq.setIfInBounds 7 true) (aq.put (some 56) v) W:=fun v=>⟨hs.1.quiet 7 56 v (by decide) hl (by decide) (by decide),(by rw[getD_set_neq (i:=7) (j:=9) (by decide),getD_set_neq (i:=7) (j:=5) (by decide)];exact hs.2)⟩
     clear hs hWe
     have hK:=fun(v:Value) (W2:World) hW hT hv (hs:Sqc12 P Rb G kn kc en ec n icap ko eo io m d id TT UU Wd (lq.setIfInBounds 7 true) (aq.put (some 56) v) W2)=>show(Jqc12 P Rb G kn kc en ec n icap ko eo io m d id TT UU Wd w0 a0) (lq.setIfInBounds 7 true) (aq.put (some 56) v) W2 from⟨hJ2.put hS 7 56 rfl (by omega) (W' :=W2) hW hT v hv,hs⟩
     clear ho hall hl hQ
     generalize (Jqc12 P Rb G kn kc en ec n icap ko eo io m d id TT UU Wd w0 a0) (lq.setIfInBounds 7 true)=K at hK⊢
     clear hJ2 hS z1 z2 z3 z4 z6 z7
     go_simp
     exact hK _ _ z5 (fun _ _ h=>h) rfl (hq _)
   | 8,ho=>
     cases ho
     refine wpOp_of rfl rfl ?_
     have f7:(aq.tmps.getD 56 undef)= .pointer (some ⟨P,0,none⟩):=z6 7 56 (hall ⟨7,.data⟩ (by simp) rfl) rfl
     have hq:∀v:Value,Sqc12 P Rb G kn kc en ec n icap ko eo io m d id TT UU Wd (lq.setIfInBounds 8 true) (aq.put (some 57) v) W:=fun v=>⟨hs.1.quiet 8 57 v (by decide) hl (by decide) (by decide),(by rw[getD_set_neq (i:=8) (j:=9) (by decide),getD_set_neq (i:=8) (j:=5) (by decide)];exact hs.2)⟩
     clear hs hWe
     have hK:=fun(v:Value) (W2:World) hW hT hv (hs:Sqc12 P Rb G kn kc en ec n icap ko eo io m d id TT UU Wd (lq.setIfInBounds 8 true) (aq.put (some 57) v) W2)=>show(Jqc12 P Rb G kn kc en ec n icap ko eo io m d id TT UU Wd w0 a0) (lq.setIfInBounds 8 true) (aq.put (some 57) v) W2 from⟨hJ2.put hS 8 57 rfl (by omega) (W' :=W2) hW hT v hv,hs⟩
     clear ho hall hl hQ
     generalize (Jqc12 P Rb G kn kc en ec n icap ko eo io m d id TT UU Wd w0 a0) (lq.setIfInBounds 8 true)=K at hK⊢
     clear hJ2 hS z1 z2 z3 z4 z6 z7
     go_simp
     exact hK _ _ z5 (fun _ _ h=>h) rfl (hq _)
   | 9,ho=>
     cases ho
     refine wpOp_of rfl rfl ?_
     have f5:(aq.tmps.getD 54 undef)= .agg #[.int .i64 (-1048576),.int .i64 (-1048576),.int .i64 2097152,.slice ko kn kc,.slice eo en ec]:=z6 5 54 (hall ⟨5,.data⟩ (by simp) rfl) rfl
     have f6:(aq.tmps.getD 55 undef)= .int .i64 id:=z6 6 55 (hall ⟨6,.data⟩ (by simp) rfl) rfl
     have f8:(aq.tmps.getD 57 undef)= .int .i64 m:=z6 8 57 (hall ⟨8,.data⟩ (by simp) rfl) rfl
     have hpr:∀t,0=t+1→lq.getD ((fun t=>[9,10,11,12,13].getD t 0) t) false=true:=(fun t ht=>absurd ht (by omega))
     have RS:=hs.1.now 0 (by decide) hl hpr
     have hq:∀(v:Value) (X:World),Rqc12 P Rb G kn kc en ec n icap ko eo io m d id TT UU Wd 1 (fun t=>if t=0 then v else valC 5 (fun t=>[58,59,60,1012,5].getD t 0) aq t) X→Sqc12 P Rb G kn kc en ec n icap ko eo io m d id TT UU Wd (lq.setIfInBounds 9 true) (aq.put (some 58) v) X:=fun v X hX=>⟨hs.1.link 0 (by decide) hl hpr (by decide) (by decide) (by rw[z2,hz];decide) (fun e=>absurd e (by decide)) hX,(fun _=>by rw[getD_set_neq (i:=9) (j:=5) (by decide)];exact hall ⟨5,.data⟩ (by simp) rfl)⟩
     have eW:W=Wd:=RS
     have HC:Hid (Calls Try.prog 47 #[.agg #[.int .i64 (-1048576),.int .i64 (-1048576),.int .i64 2097152,.slice ko kn kc,.slice eo en ec],.int .i64 id,.int .i64 m] W (fun r W2=>∃ko1 kn1 kc1 eo1 en1 ec1,r= .returned (.agg #[.int .i64 (-1048576),.int .i64 (-1048576),.int .i64 2097152,.slice ko1 kn1 kc1,.slice eo1 en1 ec1])∧TT ko1 kn1 kc1 eo1 en1 ec1 W2∧Below Wd.heap.size Wd W2)):=by rw[eW];exact hcut
     have hbW:Rb≤Wd.heap.size:=by have:=z5.size;rw[eW] at this;omega
     have HzB:∀X,Below Wd.heap.size Wd X→Below Rb w0 X:=fun X h=>by rw[eW] at z5;exact z5.trans (h.mono hbW)
     have hq2:∀(v:Value) (X:World),(∃ko1 kn1 kc1 eo1 en1 ec1,v= .agg #[.int .i64 (-1048576),.int .i64 (-1048576),.int .i64 2097152,.slice ko1 kn1 kc1,.slice eo1 en1 ec1]∧TT ko1 kn1 kc1 eo1 en1 ec1 X∧Below Wd.heap.size Wd X)→Sqc12 P Rb G kn kc en ec n icap ko eo io m d id TT UU Wd (lq.setIfInBounds 9 true) (aq.put (some 58) v) X:=fun v X h=>hq v X h
     clear eW RS hq hbW hcut hwrite hG hR0
     clear hs hWe
     have hK:=fun(v:Value) (W2:World) hW hT hv (hs:Sqc12 P Rb G kn kc en ec n icap ko eo io m d id TT UU Wd (lq.setIfInBounds 9 true) (aq.put (some 58) v) W2)=>show(Jqc12 P Rb G kn kc en ec n icap ko eo io m d id TT UU Wd w0 a0) (lq.setIfInBounds 9 true) (aq.put (some 58) v) W2 from⟨hJ2.put hS 9 58 rfl (by omega) (W' :=W2) hW hT v hv,hs⟩
     clear ho hall hl hQ
     generalize (Jqc12 P Rb G kn kc en ec n icap ko eo io m d id TT UU Wd w0 a0) (lq.setIfInBounds 9 true)=K at hK⊢
     clear hJ2 hS z1 z2 z3 z4 z6 z7
     go_simp
     refine HC.out.mono ?_
     rintro e v1 ⟨ko1,kn1,kc1,eo1,en1,ec1,rfl,hT,hBv⟩
     exact hK _ _ (HzB _ hBv) (fun _ _ h=>h.same) trivial (hq2 _ _ ⟨_,_,_,_,_,_,rfl,hT,hBv⟩)
   | 10,ho=>
     cases ho
     refine wpOp_of rfl rfl ?_
     have f9:True:=z6 9 58 (hall ⟨9,.data⟩ (by simp) rfl) rfl
     have hpr:∀t,1=t+1→lq.getD ((fun t=>[9,10,11,12,13].getD t 0) t) false=true:=(fun t ht=>by obtain rfl:t=0:=(by omega);exact hall ⟨9,.data⟩ (by simp) rfl)
     have RS:=hs.1.now 1 (by decide) hl hpr
     have hq:∀(v:Value) (X:World),Rqc12 P Rb G kn kc en ec n icap ko eo io m d id TT UU Wd 2 (fun t=>if t=1 then v else valC 5 (fun t=>[58,59,60,1012,5].getD t 0) aq t) X→Sqc12 P Rb G kn kc en ec n icap ko eo io m d id TT UU Wd (lq.setIfInBounds 10 true) (aq.put (some 59) v) X:=fun v X hX=>⟨hs.1.link 1 (by decide) hl hpr (by decide) (by decide) (by rw[z2,hz];decide) (fun e=>absurd e (by decide)) hX,(by rw[getD_set_neq (i:=10) (j:=9) (by decide),getD_set_neq (i:=10) (j:=5) (by decide)];exact hs.2)⟩
     obtain⟨ko1,kn1,kc1,eo1,en1,ec1,ev0,hT,hB⟩:=RS
     change aq.tmps.getD 58 undef= .agg #[.int .i64 (-1048576),.int .i64 (-1048576),.int .i64 2097152,.slice ko1 kn1 kc1,.slice eo1 en1 ec1] at ev0
     have HC:Hid (Calls Try.prog 29 #[.agg #[.int .i64 (-1048576),.int .i64 (-1048576),.int .i64 2097152,.slice ko1 kn1 kc1,.slice eo1 en1 ec1]] W (fun r W2=>∃uo un uc,r= .returned (.slice uo un uc)∧UU uo un uc W2∧Below W.heap.size W W2)):=hwrite _ _ _ _ _ _ W hT hB
     have hbW:Rb≤W.heap.size:=by have:=z5.size;omega
     have hq2:∀(v:Value) (X:World),(∃uo un uc,v= .slice uo un uc∧UU uo un uc X∧Below W.heap.size W X)→Sqc12 P Rb G kn kc en ec n icap ko eo io m d id TT UU Wd (lq.setIfInBounds 10 true) (aq.put (some 59) v) X:=fun v X ⟨uo,un,uc,h1,h2,h3⟩=>hq v X ⟨uo,un,uc,h1,h2,hB.trans (h3.mono hB.size)⟩
     rw[Array.getD_eq_getD_getElem?] at ev0
     clear hT hB hq hcut hwrite hG hR0
     clear hs hWe
     have hK:=fun(v:Value) (W2:World) hW hT hv (hs:Sqc12 P Rb G kn kc en ec n icap ko eo io m d id TT UU Wd (lq.setIfInBounds 10 true) (aq.put (some 59) v) W2)=>show(Jqc12 P Rb G kn kc en ec n icap ko eo io m d id TT UU Wd w0 a0) (lq.setIfInBounds 10 true) (aq.put (some 59) v) W2 from⟨hJ2.put hS 10 59 rfl (by omega) (W' :=W2) hW hT v hv,hs⟩
     clear ho hall hl hQ
     generalize (Jqc12 P Rb G kn kc en ec n icap ko eo io m d id TT UU Wd w0 a0) (lq.setIfInBounds 10 true)=K at hK⊢
     clear hJ2 hS z1 z2 z3 z4 z6 z7
     go_simp
     refine HC.out.mono ?_
     rintro e v1 ⟨uo,un,uc,rfl,hU,hBv⟩
     exact hK _ _ (z5.trans (hBv.mono hbW)) (fun _ _ h=>h.same) trivial (hq2 _ _ ⟨_,_,_,rfl,hU,hBv⟩)
   | 11,ho=>
     cases ho
     refine wpOp_of rfl rfl ?_
     have f1:(aq.tmps.getD 50 undef)= .int .i64 m:=z6 1 50 (hall ⟨1,.data⟩ (by simp) rfl) rfl
     have f3:(aq.tmps.getD 52 undef)= .int .i64 d:=z6 3 52 (hall ⟨3,.data⟩ (by simp) rfl) rfl
     have f4:(aq.tmps.getD 53 undef)= .slice io n icap:=z6 4 53 (hall ⟨4,.data⟩ (by simp) rfl) rfl
     have f10:True:=z6 10 59 (hall ⟨10,.data⟩ (by simp) rfl) rfl
     have hpr:∀t,2=t+1→lq.getD ((fun t=>[9,10,11,12,13].getD t 0) t) false=true:=(fun t ht=>by obtain rfl:t=1:=(by omega);exact hall ⟨10,.data⟩ (by simp) rfl)
     have RS:=hs.1.now 2 (by decide) hl hpr
     have hq:∀(v:Value) (X:World),Rqc12 P Rb G kn kc en ec n icap ko eo io m d id TT UU Wd 3 (fun t=>if t=2 then v else valC 5 (fun t=>[58,59,60,1012,5].getD t 0) aq t) X→Sqc12 P Rb G kn kc en ec n icap ko eo io m d id TT UU Wd (lq.setIfInBounds 11 true) (aq.put (some 60) v) X:=fun v X hX=>⟨hs.1.link 2 (by decide) hl hpr (by decide) (by decide) (by rw[z2,hz];decide) (fun e=>absurd e (by decide)) hX,(by rw[getD_set_neq (i:=11) (j:=9) (by decide),getD_set_neq (i:=11) (j:=5) (by decide)];exact hs.2)⟩
     obtain⟨uo,un,uc,ev1,hU,hB⟩:=RS
     change aq.tmps.getD 59 undef= .slice uo un uc at ev1
     have hq2:∀v:Value,v= .agg #[.int .i64 m,.int .i64 d,.slice io n icap,.slice uo un uc]→Sqc12 P Rb G kn kc en ec n icap ko eo io m d id TT UU Wd (lq.setIfInBounds 11 true) (aq.put (some 60) v) W:=fun v h1=>hq v W ⟨uo,un,uc,h1,hU,hB⟩
     rw[Array.getD_eq_getD_getElem?] at ev1 f1 f3 f4
     clear hU hB hq hcut hwrite hG hR0
     clear hs hWe
     have hK:=fun(v:Value) (W2:World) hW hT hv (hs:Sqc12 P Rb G kn kc en ec n icap ko eo io m d id TT UU Wd (lq.setIfInBounds 11 true) (aq.put (some 60) v) W2)=>show(Jqc12 P Rb G kn kc en ec n icap ko eo io m d id TT UU Wd w0 a0) (lq.setIfInBounds 11 true) (aq.put (some 60) v) W2 from⟨hJ2.put hS 11 60 rfl (by omega) (W' :=W2) hW hT v hv,hs⟩
     clear ho hall hl hQ
     generalize (Jqc12 P Rb G kn kc en ec n icap ko eo io m d id TT UU Wd w0 a0) (lq.setIfInBounds 11 true)=K at hK⊢
     clear hJ2 hS z1 z2 z3 z4 z6 z7
     go_simp
     exact hK _ _ z5 (fun _ _ h=>h.same) trivial (hq2 _ rfl)
   | 12,ho=>
     cases ho
     refine wpOp_of rfl rfl ?_
     have f11:True:=z6 11 60 (hall ⟨11,.data⟩ (by simp) rfl) rfl
     have hpr:∀t,3=t+1→lq.getD ((fun t=>[9,10,11,12,13].getD t 0) t) false=true:=(fun t ht=>by obtain rfl:t=2:=(by omega);exact hall ⟨11,.data⟩ (by simp) rfl)
     have RS:=hs.1.now 3 (by decide) hl hpr
     have hq:∀(X:World),Rqc12 P Rb G kn kc en ec n icap ko eo io m d id TT UU Wd 4 (valC 5 (fun t=>[58,59,60,1012,5].getD t 0) aq) X→Sqc12 P Rb G kn kc en ec n icap ko eo io m d id TT UU Wd (lq.setIfInBounds 12 true) aq X:=fun X hX=>⟨hs.1.store 3 (by decide) hl hpr (by decide) (fun e=>absurd e (by decide)) hX,(by rw[getD_set_neq (i:=12) (j:=9) (by decide),getD_set_neq (i:=12) (j:=5) (by decide)];exact hs.2)⟩
     obtain⟨uo,un,uc,ev2,hU,hB⟩:=RS
     change aq.tmps.getD 60 undef= .agg #[.int .i64 m,.int .i64 d,.slice io n icap,.slice uo un uc] at ev2
     have hq2:Sqc12 P Rb G kn kc en ec n icap ko eo io m d id TT UU Wd (lq.setIfInBounds 12 true) aq ((((W.setCell ⟨Rb,0,none⟩ (.int .i64 m)).setCell ⟨Rb,1,none⟩ (.int .i64 d)).setCell ⟨Rb,2,none⟩ (.slice io n icap)).setCell ⟨Rb,3,none⟩ (.slice uo un uc)):=hq _ ⟨uo,un,uc,W,hU,hB,rfl⟩
     have BR:Blk W Rb [.int .i64 0,.int .i64 0,.slice none 0 0,.slice none 0 0]:=by rw[←hWe] at hR0;exact hR0.step hB
     have y0:=BR.f 0 rfl;have y1:=BR.f 1 rfl;have y2:=BR.f 2 rfl;have y3:=BR.f 3 rfl;have x0:=BR.c 0 rfl;have x1:=BR.c 1 rfl;have x2:=BR.c 2 rfl;have x3:=BR.c 3 rfl
     rw[Array.getD_eq_getD_getElem?] at ev2
     clear hU hB hq BR hcut hwrite hG hR0
     clear hs hWe
     have hK:=fun(W2:World) hW hT hv (hs:Sqc12 P Rb G kn kc en ec n icap ko eo io m d id TT UU Wd (lq.setIfInBounds 12 true) aq W2)=>show(Jqc12 P Rb G kn kc en ec n icap ko eo io m d id TT UU Wd w0 a0) (lq.setIfInBounds 12 true) aq W2 from⟨hJ2.world 12 rfl (W' :=W2) hW hT hv,hs⟩
     clear ho hall hl hQ
     generalize (Jqc12 P Rb G kn kc en ec n icap ko eo io m d id TT UU Wd w0 a0) (lq.setIfInBounds 12 true)=K at hK⊢
     clear hJ2 hS z1 z2 z3 z4 z6 z7
     go_simp
     exact hK _ ((((z5.setCell (Nat.le_refl _) _).setCell (Nat.le_refl _) _).setCell (Nat.le_refl _) _).setCell (Nat.le_refl _) _) (fun _ _ h=>h.same) trivial hq2
   | 13,ho=>
     cases ho
     refine wpOp_of rfl rfl ?_
     have hpr:∀t,4=t+1→lq.getD ((fun t=>[9,10,11,12,13].getD t 0) t) false=true:=(fun t ht=>by obtain rfl:t=3:=(by omega);exact hall ⟨12,.chain⟩ (by simp) rfl)
     have RS:=hs.1.now 4 (by decide) hl hpr
     have hq:∀(v:Value) (X:World),Rqc12 P Rb G kn kc en ec n icap ko eo io m d id TT UU Wd 5 (fun t=>if t=4 then v else valC 5 (fun t=>[58,59,60,1012,5].getD t 0) aq t) X→Sqc12 P Rb G kn kc en ec n icap ko eo io m d id TT UU Wd (lq.setIfInBounds 13 true) (aq.put (some 5) v) X:=fun v X hX=>⟨hs.1.link 4 (by decide) hl hpr (by decide) (by decide) (by rw[z2,hz];decide) (fun _ j hj hn=>match j,hj,hn with | 0,_,_=>hall ⟨0,.phase⟩ (by simp) rfl | 1,_,_=>hall ⟨1,.phase⟩ (by simp) rfl | 2,_,_=>hall ⟨2,.phase⟩ (by simp) rfl | 3,_,_=>hall ⟨3,.phase⟩ (by simp) rfl | 4,_,_=>hall ⟨4,.phase⟩ (by simp) rfl | 5,_,_=>hall ⟨5,.phase⟩ (by simp) rfl | 6,_,_=>hall ⟨6,.phase⟩ (by simp) rfl | 7,_,_=>hall ⟨7,.phase⟩ (by simp) rfl | 8,_,_=>hall ⟨8,.phase⟩ (by simp) rfl | 9,_,_=>hall ⟨9,.phase⟩ (by simp) rfl | 10,_,_=>hall ⟨10,.phase⟩ (by simp) rfl | 11,_,_=>hall ⟨11,.phase⟩ (by simp) rfl | 12,_,_=>hall ⟨12,.chain⟩ (by simp) rfl | 13,_,hn=>absurd rfl hn | j+14,hj,_=>absurd hj (by omega)) hX,(by rw[getD_set_neq (i:=13) (j:=9) (by decide),getD_set_neq (i:=13) (j:=5) (by decide)];exact hs.2)⟩
     have hq2:∀v:Value,Sqc12 P Rb G kn kc en ec n icap ko eo io m d id TT UU Wd (lq.setIfInBounds 13 true) (aq.put (some 5) v) W:=fun v=>hq v W RS
     clear RS hq hcut hwrite hG hR0
     clear hs hWe
     have hK:=fun(v:Value) (W2:World) hW hT hv (hs:Sqc12 P Rb G kn kc en ec n icap ko eo io m d id TT UU Wd (lq.setIfInBounds 13 true) (aq.put (some 5) v) W2)=>show(Jqc12 P Rb G kn kc en ec n icap ko eo io m d id TT UU Wd w0 a0) (lq.setIfInBounds 13 true) (aq.put (some 5) v) W2 from⟨hJ2.put hS 13 5 rfl (by omega) (W' :=W2) hW hT v hv,hs⟩
     clear ho hall hl hQ
     generalize (Jqc12 P Rb G kn kc en ec n icap ko eo io m d id TT UU Wd w0 a0) (lq.setIfInBounds 13 true)=K at hK⊢
     clear hJ2 hS z1 z2 z3 z4 z6 z7
     go_simp
     exact hK _ _ z5 (fun _ _ h=>h.same) rfl (hq2 _)
   | iq+14,ho=>simp at ho
 · intro lq aq W ⟨hJ,hs⟩ hr
   obtain⟨z1,z2,z3,z4,z5,z6,z7⟩:=hJ
   have hl:=listed_of hr [0,1,2,3,4,5,6,7,8,9,10,11,12,13] [] (by simp) (by kernel_rfl) (by rw[z1];decide)
   exact hQ aq W z2 z3 (fun e he=>z4 e (by simpa using he)) (z6 13 5 (hl 13 (by simp)) rfl) z5 (by have hZ:=hl 13 (by simp);exact hs.1.done (by decide) hZ)
def cutB (Q:QD) (m d id:Int):Bool:=qOk Q m d&& !decide (∀i,i<Q.m→Q.I i≠id)
def cutL (Q:QD) (m d:Int) (j:Nat):List WB:=wrT (setT (delQ Q j) m (trQ Q d.toNat 0 (-1048576) (-1048576) 2097152) (-1048576) (-1048576) 2097152) (-1048576) (-1048576) 2097152
def CutS (Q:QD) (m d id:Int) (w:World) (r:Ending) (w' :World):Prop:=
 Below w.heap.size w w' ∧((cutB Q m d id=false∧r= .returned (.tuple #[.agg #[.int .i64 0,.int .i64 0,.slice none 0 0,.slice none 0 0],.bool false]))∨(cutB Q m d id=true∧∃j,j<Q.m∧Q.I j=id∧∃v u I,r= .returned (.tuple #[.agg #[.int .i64 m,.int .i64 d,v,u],.bool true])∧w'.ownsRow w.heap.size 59 5 v (Q.m-1) (itCs (delQ Q j) (List.range (Q.m-1)))∧w'.ownsRow w.heap.size 55 5 u (cutL Q m d j).length (wbCs (cutL Q m d j) I)∧IvP (fun b=>w.heap.size≤b∧v.ownBlock≠some b) w' (cutL Q m d j) I))
theorem itCs_del {Q:QD} {j:Nat}:∀c,c≤j→itCs (delQ Q j) (List.range c)=itCs Q (List.range c)
 | 0,_=>rfl
 | c+1,h=>by rw[itCs_more,itCs_more,itCs_del c (by omega),it5_eq (delQ_lt (by omega))]
theorem itCs_dgt {Q:QD} {j c:Nat} (h:j≤c):itCs (delQ Q j) (List.range (c+1))=itCs (delQ Q j) (List.range c) ++it5 Q (c+1):=by
 rw[itCs_more,it5_eq (delQ_ge h)]
theorem seg_rise {a b c d:Int} (h:segOk a b c d=true):a≤c:=by
 unfold segOk lessI at h
 simp only[Bool.and_eq_true,decide_eq_true_eq] at h
 omega
theorem cut_tree {Q:QD} {m d:Int} {j:Nat} (h:qOk Q m d=true) (hj:j<Q.m):cutT m (Q.I j) (trQ Q d.toNat 0 (-1048576) (-1048576) 2097152)=setT (delQ Q j) m (trQ Q d.toNat 0 (-1048576) (-1048576) 2097152) (-1048576) (-1048576) 2097152∧(cutL Q m d j).length≤2000∧smT 40 (trQ Q d.toNat 0 (-1048576) (-1048576) 2097152):=by
 obtain⟨⟨hm1,hm8⟩,⟨hd0,hd8⟩,hits,hrt⟩:=qOk_all h
 have hac:∀i,i<Q.m→(Q.S i).1≤(Q.S i).2.2.1:=fun i hi=>seg_rise (of_decide_eq_true ((of_decide_eq_true hits).2 i hi)).2.1
 have hev:evT (trQ Q d.toNat 0 (-1048576) (-1048576) 2097152) 2097152:=by
   have e:(2097152:Int)=2 ^ d.toNat*2 ^ (21-d.toNat):=by
     rw[←Int.pow_add,show d.toNat+(21-d.toNat)=21 by omega]
     rfl
   have:=ev_of d.toNat (trQ Q d.toNat 0 (-1048576) (-1048576) 2097152) (2 ^ (21-d.toNat)) (dp_tr Q d.toNat 0 (-1048576) (-1048576) 2097152)
   rw[←e] at this
   exact this
 have e:=cutT_setT m (rise_of hits) hj hac (trQ Q d.toNat 0 (-1048576) (-1048576) 2097152) (-1048576) (-1048576) 2097152 (by omega) hev hrt
 refine⟨e,?_,?_⟩
 · unfold cutL
   rw[←e]
   refine Nat.le_trans (cut_len m (Q.I j) (trQ Q d.toNat 0 (-1048576) (-1048576) 2097152) (-1048576) (-1048576) 2097152) ?_
   unfold qOk limB at h
   simp only[Bool.and_eq_true,decide_eq_true_eq] at h
   have h2:=((qrd_both Q d.toNat 0 (-1048576) (-1048576) 2097152 Q.N).1 h.2).1
   have h3:=tr_len Q d.toNat 0 (-1048576) (-1048576) 2097152 Q.N h2
   have h4:=h.1.2
   omega
 · have hsm:∀(t:QT) (x y s:Int),rtT Q t x y s=true→smT 40 t:=by
     intro t
     induction t with
     | leaf l=>
       intro x y s h
       have h1:l=canL Q x y s:=of_decide_eq_true h
       have h2:l.length≤Q.m:=by rw[h1];exact canL_len Q x y s
       have h3:=(of_decide_eq_true hits).1
       exact Nat.le_trans h2 h3
     | node K ih=>exact fun x y s h k hk=>ih k _ _ _ ((List.all_eq_true.1 h) k (List.mem_range.2 hk))
   exact hsm _ _ _ _ hrt
theorem specQuadCut_any (w:World) (Q:QD) (ao bo:Option Addr) (cap bcap A off:Nat) (so:Nat→Option Addr×Nat) (m d:Int) (hm:Q.m≤1048576) (hN:Q.N≤1048576) (hL:∀i,i<Q.N→Q.L i≤1048576) (hbo:0<Q.N→bo=some ⟨A,off,none⟩) (hso:∀i,i<Q.N→(so i).1=none→(so i).2=0) (hS:ItIn Q w ao (List.range Q.m)) (hBl:BlIn Q w A off so) (id:Int):Calls Try.prog 15 #[.agg #[.int .i64 m,.int .i64 d,.slice ao Q.m cap,.slice bo Q.N bcap],.int .i64 id] w (CutS Q m d id w):=by
 have B0:Blk ((w.alloc (.cells #[.int .i64 m,.int .i64 d,.slice ao Q.m cap,.slice bo Q.N bcap] 34)).alloc (.cells #[.int .i64 0,.int .i64 0,.slice none 0 0,.slice none 0 0] 34)) w.heap.size [.int .i64 m,.int .i64 d,.slice ao Q.m cap,.slice bo Q.N bcap]:=(Blk.new w [.int .i64 m,.int .i64 d,.slice ao Q.m cap,.slice bo Q.N bcap] 34 rfl).alloc _
 have B2:Blk ((w.alloc (.cells #[.int .i64 m,.int .i64 d,.slice ao Q.m cap,.slice bo Q.N bcap] 34)).alloc (.cells #[.int .i64 0,.int .i64 0,.slice none 0 0,.slice none 0 0] 34)) (w.heap.size+1) [.int .i64 0,.int .i64 0,.slice none 0 0,.slice none 0 0]:=Blk.new (w.alloc (.cells #[.int .i64 m,.int .i64 d,.slice ao Q.m cap,.slice bo Q.N bcap] 34)) [.int .i64 0,.int .i64 0,.slice none 0 0,.slice none 0 0] 34 (by simp)
 have HB:Below w.heap.size w ((w.alloc (.cells #[.int .i64 m,.int .i64 d,.slice ao Q.m cap,.slice bo Q.N bcap] 34)).alloc (.cells #[.int .i64 0,.int .i64 0,.slice none 0 0,.slice none 0 0] 34)):=((Below.refl _ w).alloc (Nat.le_refl _) _).alloc (by simp) _
 have C:=l13Root_any ((w.alloc (.cells #[.int .i64 m,.int .i64 d,.slice ao Q.m cap,.slice bo Q.N bcap] 34)).alloc (.cells #[.int .i64 0,.int .i64 0,.slice none 0 0,.slice none 0 0] 34)) Q ao bo cap bcap A off so m d hm hN hL hbo hso (hS.step HB) (hBl.below HB)
 have HS:Hid (ItIn Q w ao (List.range Q.m)):=hS
 have hmI:(Q.m:Int)≤1048576:=by omega
 obtain⟨i0,hi,hz0,hz1,hz2⟩:=info_item
 clear hS hBl
 go_enter Try.func15,Try.ntmps15
 go_upto_region 1 with fail
 generalize ((w.alloc (.cells #[.int .i64 m,.int .i64 d,.slice ao Q.m cap,.slice bo Q.N bcap] 34)).alloc (.cells #[.int .i64 0,.int .i64 0,.slice none 0 0,.slice none 0 0] 34))=W1 at *
 have c0:=B0.c 0 rfl;have c1:=B0.c 1 rfl;have c2:=B0.c 2 rfl;have c3:=B0.c 3 rfl
 go_wp2_with fail
 refine C.mono ?_
 rintro r w1 ⟨hB1,hC⟩
 have hP2:w.heap.size+1<W1.heap.size:=B2.lt
 have hW1:=hB1.size
 replace B0:=B0.step hB1
 replace B2:=B2.step hB1
 replace HB:=HB.trans (hB1.mono HB.size)
 clear C c0 c1 c2 c3 hB1
 rcases hC with ⟨hq,rfl⟩ | ⟨hq,kv,ev,rfl,hM⟩
 · have HQ:Hid (cutB Q m d id=false):=by show _=_;unfold cutB;rw[hq];rfl
   clear hq
   go_upto_region 2 with fail
   replace B2:=B2.alloc (.cells #[.int .i64 0,.int .i64 0,.int .i64 0,.slice none 0 0,.slice none 0 0] 64)
   replace HB:=HB.alloc (show w.heap.size≤w1.heap.size by omega) (.cells #[.int .i64 0,.int .i64 0,.int .i64 0,.slice none 0 0,.slice none 0 0] 64)
   generalize (w1.alloc (.cells #[.int .i64 0,.int .i64 0,.int .i64 0,.slice none 0 0,.slice none 0 0] 64))=W2 at *
   have y0:=B2.f 0 rfl;have y1:=B2.f 1 rfl;have y2:=B2.f 2 rfl;have y3:=B2.f 3 rfl;have z0:=B2.c 0 rfl;have z1:=B2.c 1 rfl;have z2:=B2.c 2 rfl;have z3:=B2.c 3 rfl
   have BF:=set4_blk B2 (.int .i64 0) (.int .i64 0) (.slice none 0 0) (.slice none 0 0)
   have HF:=set4_below HB (show w.heap.size≤w.heap.size+1 by omega) (.int .i64 0) (.int .i64 0) (.slice none 0 0) (.slice none 0 0)
   go_wp2
   have r0:=BF.out.c 0 rfl;have r1:=BF.out.c 1 rfl;have r2:=BF.out.c 2 rfl;have r3:=BF.out.c 3 rfl
   refine bodyPost_ret (v:= .tuple #[.agg #[.int .i64 0,.int .i64 0,.slice none 0 0,.slice none 0 0],.bool false]) (by simp[results,Try.results15,go_sem,r0,r1,r2,r3]) rfl ?_
   exact⟨HF,.inl ⟨HQ.out,rfl⟩⟩
 · obtain⟨ko,kn,kc,eo,en,ec,rfl,rfl⟩:=hM.vals
   have HQ:Hid (qOk Q m d=true):=hq
   clear hq
   go_upto_region 2 with fail
   have BT:Blk (w1.alloc (.cells #[.int .i64 (-1048576),.int .i64 (-1048576),.int .i64 2097152,.slice ko kn kc,.slice eo en ec] 64)) w1.heap.size [.int .i64 (-1048576),.int .i64 (-1048576),.int .i64 2097152,.slice ko kn kc,.slice eo en ec]:=Blk.new w1 [.int .i64 (-1048576),.int .i64 (-1048576),.int .i64 2097152,.slice ko kn kc,.slice eo en ec] 64 rfl
   have hM2:MTr (fun b=>w.heap.size+1<b∧b<w1.heap.size) (w1.alloc (.cells #[.int .i64 (-1048576),.int .i64 (-1048576),.int .i64 2097152,.slice ko kn kc,.slice eo en ec] 64)) (trQ Q d.toNat 0 (-1048576) (-1048576) 2097152) (-1048576) (-1048576) 2097152 (.slice ko kn kc) (.slice eo en ec):=MTr.keep (by simp) (fun b _ hb=>((Below.refl w1.heap.size w1).alloc (Nat.le_refl _) _).block b hb) (fun b h h2=>⟨by omega,h2⟩) hM
   replace B0:=B0.alloc (.cells #[.int .i64 (-1048576),.int .i64 (-1048576),.int .i64 2097152,.slice ko kn kc,.slice eo en ec] 64)
   replace B2:=B2.alloc (.cells #[.int .i64 (-1048576),.int .i64 (-1048576),.int .i64 2097152,.slice ko kn kc,.slice eo en ec] 64)
   replace HB:=HB.alloc (show w.heap.size≤w1.heap.size by omega) (.cells #[.int .i64 (-1048576),.int .i64 (-1048576),.int .i64 2097152,.slice ko kn kc,.slice eo en ec] 64)
   have hW2:w1.heap.size<(w1.alloc (.cells #[.int .i64 (-1048576),.int .i64 (-1048576),.int .i64 2097152,.slice ko kn kc,.slice eo en ec] 64)).heap.size:=BT.lt
   clear hM
   generalize (w1.alloc (.cells #[.int .i64 (-1048576),.int .i64 (-1048576),.int .i64 2097152,.slice ko kn kc,.slice eo en ec] 64))=W2 at *
   go_upto_region 5 with fail
   have HO0:(W2.alloc (.cells #[] 59)).ownsRow W2.heap.size 59 5 (.slice (some ⟨W2.heap.size,0,none⟩) 0 0) 0 []:=World.ownsRow_made W2 #[] 0 (Nat.le_refl _) (by decide) rfl
   replace B0:=B0.alloc (.cells #[] 59)
   replace B2:=B2.alloc (.cells #[] 59)
   replace BT:=BT.alloc (.cells #[] 59)
   replace HB:=HB.alloc (by omega) (.cells #[] 59)
   replace hM2:=hM2.step ((Below.refl _ W2).alloc (Nat.le_refl _) (.cells #[] 59))
   have hG0:W2.heap.size≤(W2.alloc (.cells #[] 59)).heap.size:=by simp
   generalize (W2.alloc (.cells #[] 59))=W5 at *
   go_wp2_with fail
   go_loopw [8,9] (fun v ic wr=>∃(c:Nat) (vv:Value),vv=v∧c≤Q.m∧ic= .int .i64 c∧(Blk wr w.heap.size [.int .i64 m,.int .i64 d,.slice ao Q.m cap,.slice bo Q.N bcap]∧Blk wr (w.heap.size+1) [.int .i64 0,.int .i64 0,.slice none 0 0,.slice none 0 0]∧Blk wr w1.heap.size [.int .i64 (-1048576),.int .i64 (-1048576),.int .i64 2097152,.slice ko kn kc,.slice eo en ec]∧MTr (fun b=>w.heap.size+1<b∧b<w1.heap.size) wr (trQ Q d.toNat 0 (-1048576) (-1048576) 2097152) (-1048576) (-1048576) 2097152 (.slice ko kn kc) (.slice eo en ec)∧Below w.heap.size w wr∧W2.heap.size≤wr.heap.size)∧(((∀i,i<c→Q.I i≠id)∧wr.ownsRow W2.heap.size 59 5 vv c (itCs Q (List.range c)))∨(∃j e,j≤e∧c=e+1∧Q.I j=id∧wr.ownsRow W2.heap.size 59 5 vv e (itCs (delQ Q j) (List.range e))))) (fun _ i _=>Q.m-(intOf i).toNat)
   case atStart=>exact⟨0,_,rfl,by omega,rfl,⟨B0,B2,BT,hM2,HB,hG0⟩,.inl ⟨fun i hi=>absurd hi (by omega),HO0⟩⟩
   case round=>
     clear B0 B2 BT hM2 HB hG0 HO0
     obtain⟨c,vv,rfl,hc,rfl,⟨B0,B2,BT,hM2,HB,hGr⟩,hCase⟩:=hrel
     have q2:=B0.c 2 rfl
     by_cases hcm:c<Q.m
     · have hcI:(c:Int)<Q.m:=by omega
       obtain⟨A1,off1,rfl,hA1,c0,c1,c2,c3,c4⟩:=HS.out.step HB c c (by simp[hcm])
       rcases hCase with ⟨hne,HO⟩ | ⟨j,e,hje,rfl,hji,HO⟩
       · have HNE:Hid (∀i,i<c→Q.I i≠id):=hne
         clear hne
         by_cases heq:Q.I c=id
         · have hxe:(Q.I c==id)=true:=by simp[heq]
           have hxn:¬(Q.I c≠id):=fun h=>h heq
           have HEQ:Hid (Q.I c=id):=heq
           have hown3:wr.ownsRow W2.heap.size 59 5 vv c (itCs (delQ Q c) (List.range c)):=by rw[itCs_del c (Nat.le_refl _)];exact HO
           clear HO
           go_wp2
           go_roundw
           case rel=>exact⟨c+1,_,rfl,by omega,by go_num,⟨B0,B2,BT,hM2,HB,hGr⟩,.inr ⟨c,c,Nat.le_refl _,rfl,HEQ.out,hown3⟩⟩
           case measure=>simp[intOf];omega
         · have HEQ:Hid (Q.I c≠id):=heq
           have HO6:=ownA_step HO ((Below.refl _ _).alloc (Nat.le_refl _) (.cells #[.int .i64 (Q.I c),.int .i64 (Q.S c).1,.int .i64 (Q.S c).2.1,.int .i64 (Q.S c).2.2.1,.int .i64 (Q.S c).2.2.2] 59))
           have hs6:Hid ((wr.alloc (.cells #[.int .i64 (Q.I c),.int .i64 (Q.S c).1,.int .i64 (Q.S c).2.1,.int .i64 (Q.S c).2.2.1,.int .i64 (Q.S c).2.2.2] 59)).heap.size=wr.heap.size+1):=by show(wr.alloc _).heap.size=_;simp
           go_wp2_with (at_builtin;go_loud (refine wpList_append_own_at _ rfl _ _ 31 rfl W2.heap.size 59 i0 (.agg #[.int .i64 0,.int .i64 0,.int .i64 0,.int .i64 0,.int .i64 0]) 5 40 Try.underlying31 hi hz0 hz1 hz2 rfl (by decide) _ _ _ rfl HO6 ⟨wr.heap.size,0,none⟩ 1 1 [.int .i64 (Q.I c),.int .i64 (Q.S c).1,.int .i64 (Q.S c).2.1,.int .i64 (Q.S c).2.2.1,.int .i64 (Q.S c).2.2.2] rfl rfl (new_cells _ _ _) (int5_one _ _ _ _ _) (by unfold maxLen;omega) (by omega) (by have:=hs6.out;omega) ?_))
           intro v9 wa hown hgrow _ hob
           replace B0:=(B0.alloc (.cells #[.int .i64 (Q.I c),.int .i64 (Q.S c).1,.int .i64 (Q.S c).2.1,.int .i64 (Q.S c).2.2.1,.int .i64 (Q.S c).2.2.2] 59)).grown hgrow (fun e3=>by have:=(HO6.lt _ e3.symm).1;omega)
           replace B2:=(B2.alloc (.cells #[.int .i64 (Q.I c),.int .i64 (Q.S c).1,.int .i64 (Q.S c).2.1,.int .i64 (Q.S c).2.2.1,.int .i64 (Q.S c).2.2.2] 59)).grown hgrow (fun e3=>by have:=(HO6.lt _ e3.symm).1;omega)
           replace BT:=(BT.alloc (.cells #[.int .i64 (Q.I c),.int .i64 (Q.S c).1,.int .i64 (Q.S c).2.1,.int .i64 (Q.S c).2.2.1,.int .i64 (Q.S c).2.2.2] 59)).grown hgrow (fun e3=>by have:=(HO6.lt _ e3.symm).1;omega)
           replace HB:=(HB.alloc (by omega) (.cells #[.int .i64 (Q.I c),.int .i64 (Q.S c).1,.int .i64 (Q.S c).2.1,.int .i64 (Q.S c).2.2.1,.int .i64 (Q.S c).2.2.2] 59)).grown hgrow (by have:=hs6.out;omega) (fun b hb=>by have:=(HO6.lt b hb).1;omega)
           replace hM2:=MTr.keep (ok' :=(fun b=>w.heap.size+1<b∧b<w1.heap.size)) hgrow.size (fun b hb hb2=>hgrow.block b hb2 (fun e3=>by have:=(HO6.lt b e3.symm).1;omega)) (fun _ h _=>h) (hM2.step ((Below.refl _ _).alloc (Nat.le_refl _) (.cells #[.int .i64 (Q.I c),.int .i64 (Q.S c).1,.int .i64 (Q.S c).2.1,.int .i64 (Q.S c).2.2.1,.int .i64 (Q.S c).2.2.2] 59)))
           have hGwa:W2.heap.size≤wa.heap.size:=by have h:=hgrow.size;have:=hs6.out;omega
           clear HO6 hs6 hgrow hob HO
           have hown2:wa.ownsRow W2.heap.size 59 5 v9 (c+1) (itCs Q (List.range (c+1))):=by rw[itCs_more];exact hown
           clear hown q2 c0 c1 c2 c3 c4
           go_wp2
           go_roundw
           case rel=>exact⟨c+1,_,rfl,by omega,by go_num,⟨B0,B2,BT,hM2,HB,hGwa⟩,.inl ⟨fun i hi=>by
             rcases Nat.lt_or_eq_of_le (Nat.le_of_lt_succ hi) with h | h
             · exact HNE.out i h
             · subst h;exact HEQ.out,hown2⟩⟩
           case measure=>simp[intOf];omega
       · have heq:¬(Q.I (e+1)=id):=fun h=>by
           have h1:=rise_to (rise_of (qOk_all HQ.out).2.2.1) (show j<e+1 by omega) hcm
           omega
         have HJI:Hid (Q.I j=id):=hji
         clear hji
         have HO6:=ownA_step HO ((Below.refl _ _).alloc (Nat.le_refl _) (.cells #[.int .i64 (Q.I (e+1)),.int .i64 (Q.S (e+1)).1,.int .i64 (Q.S (e+1)).2.1,.int .i64 (Q.S (e+1)).2.2.1,.int .i64 (Q.S (e+1)).2.2.2] 59))
         have hs6:Hid ((wr.alloc (.cells #[.int .i64 (Q.I (e+1)),.int .i64 (Q.S (e+1)).1,.int .i64 (Q.S (e+1)).2.1,.int .i64 (Q.S (e+1)).2.2.1,.int .i64 (Q.S (e+1)).2.2.2] 59)).heap.size=wr.heap.size+1):=by show(wr.alloc _).heap.size=_;simp
         go_wp2_with (at_builtin;go_loud (refine wpList_append_own_at _ rfl _ _ 31 rfl W2.heap.size 59 i0 (.agg #[.int .i64 0,.int .i64 0,.int .i64 0,.int .i64 0,.int .i64 0]) 5 40 Try.underlying31 hi hz0 hz1 hz2 rfl (by decide) _ _ _ rfl HO6 ⟨wr.heap.size,0,none⟩ 1 1 [.int .i64 (Q.I (e+1)),.int .i64 (Q.S (e+1)).1,.int .i64 (Q.S (e+1)).2.1,.int .i64 (Q.S (e+1)).2.2.1,.int .i64 (Q.S (e+1)).2.2.2] rfl rfl (new_cells _ _ _) (int5_one _ _ _ _ _) (by unfold maxLen;omega) (by omega) (by have:=hs6.out;omega) ?_))
         intro v9 wa hown hgrow _ hob
         replace B0:=(B0.alloc (.cells #[.int .i64 (Q.I (e+1)),.int .i64 (Q.S (e+1)).1,.int .i64 (Q.S (e+1)).2.1,.int .i64 (Q.S (e+1)).2.2.1,.int .i64 (Q.S (e+1)).2.2.2] 59)).grown hgrow (fun e3=>by have:=(HO6.lt _ e3.symm).1;omega)
         replace B2:=(B2.alloc (.cells #[.int .i64 (Q.I (e+1)),.int .i64 (Q.S (e+1)).1,.int .i64 (Q.S (e+1)).2.1,.int .i64 (Q.S (e+1)).2.2.1,.int .i64 (Q.S (e+1)).2.2.2] 59)).grown hgrow (fun e3=>by have:=(HO6.lt _ e3.symm).1;omega)
         replace BT:=(BT.alloc (.cells #[.int .i64 (Q.I (e+1)),.int .i64 (Q.S (e+1)).1,.int .i64 (Q.S (e+1)).2.1,.int .i64 (Q.S (e+1)).2.2.1,.int .i64 (Q.S (e+1)).2.2.2] 59)).grown hgrow (fun e3=>by have:=(HO6.lt _ e3.symm).1;omega)
         replace HB:=(HB.alloc (by omega) (.cells #[.int .i64 (Q.I (e+1)),.int .i64 (Q.S (e+1)).1,.int .i64 (Q.S (e+1)).2.1,.int .i64 (Q.S (e+1)).2.2.1,.int .i64 (Q.S (e+1)).2.2.2] 59)).grown hgrow (by have:=hs6.out;omega) (fun b hb=>by have:=(HO6.lt b hb).1;omega)
         replace hM2:=MTr.keep (ok' :=(fun b=>w.heap.size+1<b∧b<w1.heap.size)) hgrow.size (fun b hb hb2=>hgrow.block b hb2 (fun e3=>by have:=(HO6.lt b e3.symm).1;omega)) (fun _ h _=>h) (hM2.step ((Below.refl _ _).alloc (Nat.le_refl _) (.cells #[.int .i64 (Q.I (e+1)),.int .i64 (Q.S (e+1)).1,.int .i64 (Q.S (e+1)).2.1,.int .i64 (Q.S (e+1)).2.2.1,.int .i64 (Q.S (e+1)).2.2.2] 59)))
         have hGwa:W2.heap.size≤wa.heap.size:=by have h:=hgrow.size;have:=hs6.out;omega
         clear HO6 hs6 hgrow hob HO
         have hown2:wa.ownsRow W2.heap.size 59 5 v9 (e+1) (itCs (delQ Q j) (List.range (e+1))):=by rw[itCs_dgt hje];exact hown
         clear hown q2 c0 c1 c2 c3 c4 heq
         go_wp2
         go_roundw
         case rel=>exact⟨e+1+1,_,rfl,by omega,by go_num,⟨B0,B2,BT,hM2,HB,hGwa⟩,.inr ⟨j,e+1,by omega,rfl,HJI.out,hown2⟩⟩
         case measure=>simp[intOf];omega
     · obtain rfl:c=Q.m:=by omega
       rcases hCase with ⟨hne,HO⟩ | ⟨j,e,hje,hce,hji,HO⟩
       · have HP:Hid (cutB Q m d id=false):=by show _=_;unfold cutB;rw[decide_eq_true hne];simp
         obtain⟨io,icap,rfl⟩:=ownQ_slice HO
         clear hne HO
         have y0:=B2.f 0 rfl;have y1:=B2.f 1 rfl;have y2:=B2.f 2 rfl;have y3:=B2.f 3 rfl;have z0:=B2.c 0 rfl;have z1:=B2.c 1 rfl;have z2:=B2.c 2 rfl;have z3:=B2.c 3 rfl
         have BF:=set4_blk B2 (.int .i64 0) (.int .i64 0) (.slice none 0 0) (.slice none 0 0)
         have HF:=set4_below HB (show w.heap.size≤w.heap.size+1 by omega) (.int .i64 0) (.int .i64 0) (.slice none 0 0) (.slice none 0 0)
         go_wp2
         have r0:=BF.out.c 0 rfl;have r1:=BF.out.c 1 rfl;have r2:=BF.out.c 2 rfl;have r3:=BF.out.c 3 rfl
         refine bodyPost_ret (v:= .tuple #[.agg #[.int .i64 0,.int .i64 0,.slice none 0 0,.slice none 0 0],.bool false]) (by simp[results,Try.results15,go_sem,r0,r1,r2,r3]) rfl ?_
         exact⟨HF,.inl ⟨HP.out,rfl⟩⟩
       · have hjm:j<Q.m:=by omega
         have HP:Hid (cutB Q m d id=true):=by show _=_;unfold cutB;rw[HQ.out,decide_eq_false (fun h=>h j hjm hji)];rfl
         obtain⟨htree,hlen,hsm⟩:=cut_tree HQ.out hjm
         have HLEN:Hid ((cutL Q m d j).length≤2000):=hlen
         have HJI:Hid (Q.I j=id):=hji
         have HCE:Hid (Q.m=e+1):=hce
         have hm8:=(qOk_all HQ.out).1.2
         obtain⟨io,icap,rfl⟩:=ownQ_slice HO
         have HOl:Hid (∀k,(Value.slice io e icap).ownBlock=some k→W2.heap.size≤k∧k<wr.heap.size):=fun k hk=>World.ownsRow.lt HO k hk
         have hem:((e:Int)==(Q.m:Int))=false:=by simp;omega
         have hen:¬((e:Int)=(Q.m:Int)):=by omega
         have hP5:w1.heap.size<wr.heap.size:=by omega
         have hcut:Calls Try.prog 47 #[.agg #[.int .i64 (-1048576),.int .i64 (-1048576),.int .i64 2097152,.slice ko kn kc,.slice eo en ec],.int .i64 id,.int .i64 m] wr.drew (fun r W2=>∃ko1 kn1 kc1 eo1 en1 ec1,r= .returned (.agg #[.int .i64 (-1048576),.int .i64 (-1048576),.int .i64 2097152,.slice ko1 kn1 kc1,.slice eo1 en1 ec1])∧(fun ko1 kn1 kc1 eo1 en1 ec1 W=>MTr (fun b=>(w.heap.size+1<b∧b<w1.heap.size)∨wr.heap.size≤b) W (setT (delQ Q j) m (trQ Q d.toNat 0 (-1048576) (-1048576) 2097152) (-1048576) (-1048576) 2097152) (-1048576) (-1048576) 2097152 (.slice ko1 kn1 kc1) (.slice eo1 en1 ec1)) ko1 kn1 kc1 eo1 en1 ec1 W2∧Below wr.drew.heap.size wr.drew W2):=by
           have C:=l13Cut_any m id 40 (by omega) (by omega) (trQ Q d.toNat 0 (-1048576) (-1048576) 2097152) (-1048576) (-1048576) 2097152 (fun b=>w.heap.size+1<b∧b<w1.heap.size) _ _ wr.drew hsm (hM2.step (Below.refl _ wr).drew)
           rw[←hji,htree] at C
           rw[←hji]
           exact C.mono fun r W2 h=>h
         have hwrite:∀ko1 kn1 kc1 eo1 en1 ec1 W,(fun ko1 kn1 kc1 eo1 en1 ec1 W=>MTr (fun b=>(w.heap.size+1<b∧b<w1.heap.size)∨wr.heap.size≤b) W (setT (delQ Q j) m (trQ Q d.toNat 0 (-1048576) (-1048576) 2097152) (-1048576) (-1048576) 2097152) (-1048576) (-1048576) 2097152 (.slice ko1 kn1 kc1) (.slice eo1 en1 ec1)) ko1 kn1 kc1 eo1 en1 ec1 W→Below wr.drew.heap.size wr.drew W→Calls Try.prog 29 #[.agg #[.int .i64 (-1048576),.int .i64 (-1048576),.int .i64 2097152,.slice ko1 kn1 kc1,.slice eo1 en1 ec1]] W (fun r W2=>∃uo un uc,r= .returned (.slice uo un uc)∧(fun uo un uc W=>un=(cutL Q m d j).length∧∃I,W.ownsRow wr.heap.size 55 5 (.slice uo un uc) (cutL Q m d j).length (wbCs (cutL Q m d j) I)∧IvP (fun b=>(w.heap.size+1<b∧b<w1.heap.size)∨wr.heap.size≤b) W (cutL Q m d j) I) uo un uc W2∧Below W.heap.size W W2):=fun ko1 kn1 kc1 eo1 en1 ec1 W hT hBW=>by
           have CW:=l13Write_any (setT (delQ Q j) m (trQ Q d.toNat 0 (-1048576) (-1048576) 2097152) (-1048576) (-1048576) 2097152) _ (-1048576) (-1048576) 2097152 _ _ W (by have:=HLEN.out;unfold cutL at this;omega) hT
           refine CW.mono ?_
           rintro r wq ⟨u,I,rfl,hOU,hIv,hBq⟩
           obtain⟨uo,uc,rfl⟩:=ownQ_slice hOU
           have hsW:wr.heap.size≤W.heap.size:=hBW.size
           exact⟨_,_,_,rfl,⟨rfl,I,ownQ_mono2 hOU hsW,IvP.keep hBq.size (fun b _ hb2=>hBq.block b hb2) (fun b hb _=>hb) hIv⟩,hBq⟩
         clear hsm htree hlen hji hM2
         go_upto_region 12 with fail
         refine qc12 (P:=w.heap.size) (Rb:=w.heap.size+1) (G:=w1.heap.size) (kn:=kn) (kc:=kc) (en:=en) (ec:=ec) (n:=e) (icap:=icap) (ko:=ko) (eo:=eo) (io:=io) (m:=m) (d:=d) (id:=id) (TT:=(fun ko1 kn1 kc1 eo1 en1 ec1 W=>MTr (fun b=>(w.heap.size+1<b∧b<w1.heap.size)∨wr.heap.size≤b) W (setT (delQ Q j) m (trQ Q d.toNat 0 (-1048576) (-1048576) 2097152) (-1048576) (-1048576) 2097152) (-1048576) (-1048576) 2097152 (.slice ko1 kn1 kc1) (.slice eo1 en1 ec1))) (UU:=(fun uo un uc W=>un=(cutL Q m d j).length∧∃I,W.ownsRow wr.heap.size 55 5 (.slice uo un uc) (cutL Q m d j).length (wbCs (cutL Q m d j) I)∧IvP (fun b=>(w.heap.size+1<b∧b<w1.heap.size)∨wr.heap.size≤b) W (cutL Q m d j) I)) (Wd:=wr.drew) B2.lt (BT.step (Below.refl _ wr).drew) (B2.step (Below.refl _ wr).drew) hcut hwrite rfl rfl rfl rfl rfl rfl (B0.c 0 rfl) (by show w.heap.size<w.heap.size+1;omega) (B0.c 1 rfl) (by show w.heap.size<w.heap.size+1;omega) rfl ?_
         rintro⟨tm,df⟩ Wz hz hdf hoff hV hBz ⟨uo,un,uc,W9,⟨hun,I,hOU,hIv⟩,hB9,rfl⟩
         change tm.getD 5 undef= .bool true at hV
         simp only at hz hdf hoff
         subst hdf
         have htm:=tmps_fold [49,50,51,52,53,54,55,56,57,58,59,60,5] tm _ hz hoff
         simp only[List.foldl,List.setIfInBounds_toArray,List.set_cons_zero,List.set_cons_succ,hV] at htm
         clear hz hoff
         generalize tm.getD 49 undef=pa0,tm.getD 50 undef=pa1,tm.getD 51 undef=pa2,tm.getD 52 undef=pa3,tm.getD 53 undef=pa4,tm.getD 54 undef=pa5,tm.getD 55 undef=pa6,tm.getD 56 undef=pa7,tm.getD 57 undef=pa8,tm.getD 58 undef=pa9,tm.getD 59 undef=pa10,tm.getD 60 undef=pa11 at htm
         subst htm
         have B9:Blk W9 (w.heap.size+1) [.int .i64 0,.int .i64 0,.slice none 0 0,.slice none 0 0]:=(B2.step (Below.refl _ wr).drew).step hB9
         have HB9:Below w.heap.size w W9:=(HB.drew).trans (hB9.mono HB.size)
         have hs9:wr.heap.size≤W9.heap.size:=hB9.size
         have HO9:=ownA_step (ownA_step HO (Below.refl _ wr).drew) hB9
         have BF:=set4_blk B9 (.int .i64 m) (.int .i64 d) (.slice io e icap) (.slice uo un uc)
         have HF:=set4_below HB9 (show w.heap.size≤w.heap.size+1 by omega) (.int .i64 m) (.int .i64 d) (.slice io e icap) (.slice uo un uc)
         have HR1:Hid (((((W9.setCell ⟨w.heap.size+1,0,none⟩ (.int .i64 m)).setCell ⟨w.heap.size+1,1,none⟩ (.int .i64 d)).setCell ⟨w.heap.size+1,2,none⟩ (.slice io e icap)).setCell ⟨w.heap.size+1,3,none⟩ (.slice uo un uc)).ownsRow w.heap.size 59 5 (.slice io e icap) (Q.m-1) (itCs (delQ Q j) (List.range (Q.m-1)))):=by
           rw[show Q.m-1=e by have:=HCE.out;omega]
           exact ownQ_mono2 (ownQ_heap HO9 (fun b hb=>set4_heap (by have:=(HO9.lt b hb).1;omega))) (by omega)
         have HR2:Hid (((((W9.setCell ⟨w.heap.size+1,0,none⟩ (.int .i64 m)).setCell ⟨w.heap.size+1,1,none⟩ (.int .i64 d)).setCell ⟨w.heap.size+1,2,none⟩ (.slice io e icap)).setCell ⟨w.heap.size+1,3,none⟩ (.slice uo un uc)).ownsRow w.heap.size 55 5 (.slice uo un uc) (cutL Q m d j).length (wbCs (cutL Q m d j) I)):=ownQ_mono2 (ownQ_heap hOU (fun b hb=>set4_heap (by have:=(hOU.lt b hb).1;omega))) (by omega)
         have HR3:Hid (IvP (fun b=>w.heap.size≤b∧(Value.slice io e icap).ownBlock≠some b) ((((W9.setCell ⟨w.heap.size+1,0,none⟩ (.int .i64 m)).setCell ⟨w.heap.size+1,1,none⟩ (.int .i64 d)).setCell ⟨w.heap.size+1,2,none⟩ (.slice io e icap)).setCell ⟨w.heap.size+1,3,none⟩ (.slice uo un uc)) (cutL Q m d j) I):=IvP.keep (by simp[World.setCell]) (fun b hb hb2=>set4_heap (by rcases hb with hb | hb<;>omega)) (fun b hb _=>⟨by rcases hb with hb | hb<;>omega,fun e2=>by have:=HOl.out b e2;rcases hb with hb | hb<;>omega⟩) hIv
         clear hun HO9 hOU hIv hB9 hBz HO B0 B2 BT HB B9 HB9
         go_wp2
         have r0:=BF.out.c 0 rfl;have r1:=BF.out.c 1 rfl;have r2:=BF.out.c 2 rfl;have r3:=BF.out.c 3 rfl
         refine bodyPost_ret (v:= .tuple #[.agg #[.int .i64 m,.int .i64 d,.slice io e icap,.slice uo un uc],.bool true]) (by simp[results,Try.results15,go_sem,r0,r1,r2,r3]) rfl ?_
         exact⟨HF,.inr ⟨HP.out,j,hjm,HJI.out,_,_,I,rfl,HR1.out,HR2.out,HR3.out⟩⟩
def okI (ok:Nat→Prop) (lo hi b:Nat):Prop:=ok b∨(lo≤b∧b<hi)
def SetP (Q:QD) (m:Int) (t:QT) (x y s lv:Int) (g:Nat) (ok:Nat→Prop) (w:World) (r:Ending) (w' :World):Prop:=
 r= .returned (.tuple #[])∧STr (okI ok w.heap.size w'.heap.size) w' (setT Q m t x y s) x y s lv g∧Frm ok w w'
theorem settle_leaf (Q:QD) (m d:Int) (gq:Nat) (io:Option Addr) (ic:Nat) (pv:Value) (h6:Its6 Q (List.range Q.m)) (hm:Q.m≤1048576) (g:Nat) (x y s lv:Int) (ids:Value) (ko:Option Addr) (kn kc:Nat) (hk:(ko=none∧kn=0∧kc=0)∨((∃A,ko=some ⟨A,0,none⟩)∧kn=4∧((canL Q x y s).length:Int)≤m)) (hq:Sq x y s) (w:World) (B0:BkB w g x y s lv ids (.slice ko kn kc)) (BQ:Blk w gq [.int .i64 m,.int .i64 d,.slice io Q.m ic,pv]) (hgq:gq≠g) (hS:ItIn Q w io (List.range Q.m)):Calls Try.prog 49 #[.pointer (some ⟨gq,0,none⟩),.pointer (some ⟨g,0,none⟩)] w (fun r w' =>r= .returned (.tuple #[])∧STr (okB g w.heap.size) w' (.leaf (canL Q x y s)) x y s lv g∧w.grownBy w' (some g)):=by
 have q:=fun(w:World) (a:Option Addr) (n c n' c' :Nat)=>Lib.run_eql_slice_nil (P:=Try.prog) w _ _ a n c n' c' Try.underlying96
 have FL:=fill_any Q g x y s lv _ _ io ic (List.range Q.m) hq h6 (by rw[List.length_range];exact hm) w B0 hS
 rw[show(List.range Q.m).length=Q.m from List.length_range] at FL
 have hgl:=B0.lt
 have q2:=BQ.c 2 rfl
 go_enter Try.func49,Try.ntmps49
 go_wp2_with fail
 refine FL.mono ?_
 rintro r w4 ⟨rfl,v4,B4,⟨ao4,c4,rfl,_,_,_⟩,HO4,HG4⟩
 clear FL q2
 obtain⟨n1,hn1⟩:∃n1,(flQ Q (List.range Q.m) x y s).length=n1:=⟨_,rfl⟩
 have HN1:Hid ((canL Q x y s).length=n1):=by show _=_;rw[←canF_len];exact hn1
 have hn1l:n1≤1048576:=by
   rw[←hn1]
   exact Nat.le_trans (List.length_filter_le _ _) (by rw[List.length_range];exact hm)
 have HNF:Hid ((flQ Q (List.range Q.m) x y s).length=n1):=hn1
 rw[hn1] at B4 HO4
 clear hn1
 have BQ4:=BQ.grown HG4 (fun e=>hgq (Option.some.inj e))
 have hs4:=HG4.size
 have hn1I:(n1:Int)≤1048576:=by omega
 have k0:=BQ4.c 0 rfl;have m4:=B4.c 4 rfl;have m5:=B4.c 5 rfl;have y5:=B4.f 5 rfl
 have HL:Hid (∀W:World,w4.heap.size≤W.heap.size→(∀b,b<w4.heap.size→b≠g→W.heap[b]? =w4.heap[b]?)→BkB W g x y s lv (.slice ao4 n1 c4) (.slice none 0 0)→STr (okB g w.heap.size) W (.leaf (canL Q x y s)) x y s lv g):=fun W hW hb BW=>by
   refine leaf_of BW ?_ hgl
   rw[HNF.out]
   exact ownQ_heap HO4 (fun b hb2=>hb b (HO4.lt b hb2).2 (fun e=>by have:=(HO4.lt b hb2).1;omega))
 clear HO4 hS BQ BQ4
 rcases hk with ⟨rfl,rfl,rfl⟩ | ⟨⟨A,rfl⟩,rfl,hle⟩
 · go_wp2_with fail
   refine wp_region_qw (by kernel_rfl) (by kernel_rfl) ?_
   intro W qN qS
   repeat (refine qS _ _ _ (fun K hK=>?_);go_simp;refine hK _ ?_;clear hK K)
   refine qN _ (fun nq=>?_)
   clear qN qS
   have hDN:Below w4.heap.size w4 (w4.drewN nq):=below_drewN (Below.refl _ _) nq
   have B5:=B4.step hDN
   have HGA:w.grownBy (w4.drewN nq) (some g):=grown_trans HG4 (grown_of hDN _)
   have hb5:Hid (∀b,b<w4.heap.size→(w4.drewN nq).heap[b]? =w4.heap[b]?):=fun b hb=>hDN.block b hb
   have hs5:=hDN.size
   generalize (w4.drewN nq)=W5 at *
   clear m4 m5 y5 k0 hDN HG4 B4
   have y5:=B5.f 5 rfl;have z5:=B5.c 5 rfl
   have BN:BkB (W5.setCell ⟨g,5,none⟩ (.slice none 0 0)) g x y s lv (.slice ao4 n1 c4) (.slice none 0 0):=B5.setI 5 (by simp) _
   have HGN:w.grownBy (W5.setCell ⟨g,5,none⟩ (.slice none 0 0)) (some g):=grown_trans HGA (grown_set (Below.refl _ _) 5 _)
   have HLN:=HL.out _ (show w4.heap.size≤(W5.setCell ⟨g,5,none⟩ (.slice none 0 0)).heap.size by simp[World.setCell];omega) (fun b hb hne=>(Below.heap_setCell _ _ _ _ hne).trans (hb5.out b hb)) BN
   clear B5 HGA BN HL hb5
   go_wp2
   refine bodyPost_ret (v:= .tuple #[]) (by simp[results,Try.results49,go_sem]) rfl ?_
   exact⟨rfl,HLN,HGN⟩
 · have hle2:(n1:Int)≤m:=by rw[←HN1.out];exact hle
   clear hle
   go_wp2_with fail
   refine wp_region_qw (by kernel_rfl) (by kernel_rfl) ?_
   intro W qN qS
   repeat (refine qS _ _ _ (fun K hK=>?_);go_simp;refine hK _ ?_;clear hK K)
   refine qN _ (fun nq=>?_)
   clear qN qS
   have hDN:Below w4.heap.size w4 (w4.drewN nq):=below_drewN (Below.refl _ _) nq
   have B5:=B4.step hDN
   have HGA:w.grownBy (w4.drewN nq) (some g):=grown_trans HG4 (grown_of hDN _)
   have hb5:Hid (∀b,b<w4.heap.size→(w4.drewN nq).heap[b]? =w4.heap[b]?):=fun b hb=>hDN.block b hb
   have hs5:=hDN.size
   generalize (w4.drewN nq)=W5 at *
   clear m4 m5 y5 k0 hDN HG4 B4
   have y5:=B5.f 5 rfl;have z5:=B5.c 5 rfl
   have BN:BkB (W5.setCell ⟨g,5,none⟩ (.slice none 0 0)) g x y s lv (.slice ao4 n1 c4) (.slice none 0 0):=B5.setI 5 (by simp) _
   have HGN:w.grownBy (W5.setCell ⟨g,5,none⟩ (.slice none 0 0)) (some g):=grown_trans HGA (grown_set (Below.refl _ _) 5 _)
   have HLN:=HL.out _ (show w4.heap.size≤(W5.setCell ⟨g,5,none⟩ (.slice none 0 0)).heap.size by simp[World.setCell];omega) (fun b hb hne=>(Below.heap_setCell _ _ _ _ hne).trans (hb5.out b hb)) BN
   clear B5 HGA BN HL hb5
   go_wp2
   refine bodyPost_ret (v:= .tuple #[]) (by simp[results,Try.results49,go_sem]) rfl ?_
   exact⟨rfl,HLN,HGN⟩
theorem okB_okI {ok:Nat→Prop} {g lo hi b:Nat} (h:okB g lo b) (hg:ok g) (hb:b<hi):okI ok lo hi b:=by
 rcases h with h | h
 · exact .inl (by rw[h];exact hg)
 · exact .inr ⟨h,hb⟩
theorem Frm.of_grown {ok:Nat→Prop} {w w' :World} {g:Nat} (h:w.grownBy w' (some g)) (hg:ok g):Frm ok w w' :=(Frm.refl ok w).grown h (.inl hg)
theorem settle_any (Q:QD) (m d:Int) (gq:Nat) (io:Option Addr) (ic:Nat) (pv:Value) (h6:Its6 Q (List.range Q.m)) (hm:Q.m≤1048576) (t:QT):∀(ok:Nat→Prop) (x y s lv:Int) (g:Nat) (w:World),Sq x y s→STr ok w t x y s lv g→Blk w gq [.int .i64 m,.int .i64 d,.slice io Q.m ic,pv]→¬ok gq→ItIn Q w io (List.range Q.m)→(∀A o sp,io=some ⟨A,o,sp⟩→¬ok A∧A<w.heap.size)→Calls Try.prog 49 #[.pointer (some ⟨gq,0,none⟩),.pointer (some ⟨g,0,none⟩)] w (SetP Q m t x y s lv g ok w):=by
 have leaf:∀(t:QT) (ok:Nat→Prop) (x y s lv:Int) (g:Nat) (w:World) (ids:Value) (ko:Option Addr) (kn kc:Nat),setT Q m t x y s= .leaf (canL Q x y s)→((ko=none∧kn=0∧kc=0)∨((∃A,ko=some ⟨A,0,none⟩)∧kn=4∧((canL Q x y s).length:Int)≤m))→ok g→Sq x y s→BkB w g x y s lv ids (.slice ko kn kc)→Blk w gq [.int .i64 m,.int .i64 d,.slice io Q.m ic,pv]→¬ok gq→ItIn Q w io (List.range Q.m)→Calls Try.prog 49 #[.pointer (some ⟨gq,0,none⟩),.pointer (some ⟨g,0,none⟩)] w (SetP Q m t x y s lv g ok w):=fun t ok x y s lv g w ids ko kn kc he hk hg hq B0 BQ hgq hS=>by
   refine(settle_leaf Q m d gq io ic pv h6 hm g x y s lv ids ko kn kc hk hq w B0 BQ (fun e=>hgq (by rw[e];exact hg)) hS).mono ?_
   rintro r w' ⟨rfl,hst,hgr⟩
   refine⟨rfl,?_,Frm.of_grown hgr hg⟩
   rw[he]
   exact STr.keep (Nat.le_refl _) (fun _ _ _=>rfl) (fun b hb hl=>okB_okI hb hg hl) hst
 induction t with
 | leaf l=>
   intro ok x y s lv g w hq hT BQ hgq hS hio
   obtain⟨hg,iv,B0,_⟩:=hT
   exact leaf _ ok x y s lv g w iv none 0 0 rfl (.inl ⟨rfl,rfl,rfl⟩) hg hq B0 BQ hgq hS
 | node K ih =>
   intro ok x y s lv g w hq hT BQ hgq0 hS hio
   obtain⟨hg,A,kc,gs,oks,B0,hA,hoA,hAg,hin,hap,hk⟩:=hT
   by_cases hle:((canL Q x y s).length:Int)≤m
   · exact leaf _ ok x y s lv g w _ (some ⟨A,0,none⟩) 4 kc (by unfold setT;rw[if_pos hle]) (.inr ⟨⟨A,rfl⟩,rfl,hle⟩) hg hq B0 BQ hgq0 hS
   clear leaf
   have hgq:gq≠g:=fun e=>hgq0 (by rw[e];exact hg)
   have HSET:Hid (setT Q m (.node K) x y s= .node (fun k=>if k<4 then setT Q m (K k) (kX x (s / 2) k) (kY y (s / 2) k) (s / 2) else K k)):=by show _=_;rw[setT,if_neg hle]
   have HIN:Hid (∀k b,k<4→oks k b→ok b∧b≠g∧b≠A):=hin
   have HAP:Hid (∀i j b,i<4→j<4→i≠j→oks i b→¬oks j b):=hap
   have HK:Hid (∀k,k<4→w.cell? ⟨A,k,none⟩=some (.pointer (some ⟨gs k,0,none⟩))∧STr (oks k) w (K k) (kX x (s / 2) k) (kY y (s / 2) k) (s / 2) (lv+1) (gs k)):=hk
   have HIO:Hid (∀A o sp,io=some ⟨A,o,sp⟩→¬ok A∧A<w.heap.size):=hio
   have HS0:Hid (ItIn Q w io (List.range Q.m)):=hS
   have HBQ:Hid (Blk w gq [.int .i64 m,.int .i64 d,.slice io Q.m ic,pv]):=BQ
   clear hin hap hk hio
   have q:=fun(w:World) (a:Option Addr) (n c n' c' :Nat)=>Lib.run_eql_slice_nil (P:=Try.prog) w _ _ a n c n' c' Try.underlying96
   have FL:=fill_any Q g x y s lv _ _ io ic (List.range Q.m) hq h6 (by rw[List.length_range];exact hm) w B0 hS
   rw[show(List.range Q.m).length=Q.m from List.length_range] at FL
   have hgl:=B0.lt
   have q2:=BQ.c 2 rfl
   go_enter Try.func49,Try.ntmps49
   go_wp2_with fail
   refine FL.mono ?_
   rintro r w4 ⟨rfl,v4,B4,⟨ao4,c4,rfl,_,_,_⟩,HO4,HG4⟩
   clear FL q2
   obtain⟨n1,hn1⟩:∃n1,(flQ Q (List.range Q.m) x y s).length=n1:=⟨_,rfl⟩
   have HN1:Hid ((canL Q x y s).length=n1):=by show _=_;rw[←canF_len];exact hn1
   have hn1l:n1≤1048576:=by
     rw[←hn1]
     exact Nat.le_trans (List.length_filter_le _ _) (by rw[List.length_range];exact hm)
   have HNF:Hid ((flQ Q (List.range Q.m) x y s).length=n1):=hn1
   rw[hn1] at B4 HO4
   clear hn1
   have BQ4:=BQ.grown HG4 (fun e=>hgq (Option.some.inj e))
   have hs4:=HG4.size
   have hn1I:(n1:Int)≤1048576:=by omega
   have hgt:decide ((n1:Int)≤m)=false:=decide_eq_false (by rw[←HN1.out];omega)
   have hgt2:¬((n1:Int)≤m):=by rw[←HN1.out];omega
   clear hle
   have k0:=BQ4.c 0 rfl;have m4:=B4.c 4 rfl;have m5:=B4.c 5 rfl
   clear HO4 hS BQ BQ4 B0
   go_wp2_with fail
   refine wp_region_qw (by kernel_rfl) (by kernel_rfl) ?_
   intro W qN qS
   repeat (refine qS _ _ _ (fun K hK=>?_);go_simp;refine hK _ ?_;clear hK K)
   refine qN _ (fun nq=>?_)
   clear qN qS
   have hDN:Below w4.heap.size w4 (w4.drewN nq):=below_drewN (Below.refl _ _) nq
   have B5:=B4.step hDN
   have HGA:w.grownBy (w4.drewN nq) (some g):=grown_trans HG4 (grown_of hDN _)
   have hs5:=hDN.size
   generalize (w4.drewN nq)=W5 at *
   clear m4 m5 k0 hDN HG4 B4
   have y4:=B5.f 4 rfl;have z4:=B5.c 4 rfl;have z5:=B5.c 5 rfl
   have B6:BkB (W5.setCell ⟨g,4,none⟩ (.slice none 0 0)) g x y s lv (.slice none 0 0) (.slice (some ⟨A,0,none⟩) 4 kc):=B5.setI 4 (by simp) _
   have HG6:w.grownBy (W5.setCell ⟨g,4,none⟩ (.slice none 0 0)) (some g):=grown_trans HGA (grown_set (Below.refl _ _) 4 _)
   clear HGA B5
   go_upto_region 4 with fail
   clear y4 z4 z5
   generalize (W5.setCell ⟨g,4,none⟩ (.slice none 0 0))=W6 at *
   have hs6:=HG6.size
   have hb6:∀b,b<w.heap.size→b≠g→W6.heap[b]? =w.heap[b]? :=fun b hb hne=>HG6.block b hb (fun e=>hne (Option.some.inj e))
   have HK6:Hid (∀k,k<4→W6.cell? ⟨A,k,none⟩=some (.pointer (some ⟨gs k,0,none⟩))∧STr (fun b=>oks k b∧b<w.heap.size) W6 (K k) (kX x (s / 2) k) (kY y (s / 2) k) (s / 2) (lv+1) (gs k)):=fun k hk4=>by
     obtain⟨c0,h1⟩:=HK.out k hk4
     exact⟨(World.cell?_of_block (w:=w) (a:=⟨A,k,none⟩) (hb6 A hA hAg)).trans c0,STr.keep hs6 (fun b hb hl=>hb6 b hl (HIN.out k b hk4 hb).2.1) (fun b hb hl=>⟨hb,hl⟩) h1⟩
   have HBQ6:Hid (Blk W6 gq [.int .i64 m,.int .i64 d,.slice io Q.m ic,pv]):=HBQ.out.grown HG6 (fun e=>hgq (Option.some.inj e))
   have HS6:Hid (ItIn Q W6 io (List.range Q.m)):=HS0.out.grown HG6 (fun A' o sp e e2=>(HIO.out A' o sp e).1 (by rw[e2];exact hg))
   have hA6:A<W6.heap.size:=by omega
   have n5:=B6.c 5 rfl
   have HAPN:Hid (∀i j b,i<4→j<4→i≠j→(oks i b∧b<w.heap.size)→¬(oks j b∧b<w.heap.size)):=fun i j b hi hj hne h1 h2=>HAP.out i j b hi hj hne h1.1 h2.1
   go_wp2_with fail
   go_loopw [40] (fun ic wr=>∃(c:Nat) (okc:Nat→Nat→Prop),c≤4∧ic= .int .i64 c∧Frm (fun b=>∃k,k<4∧oks k b∧b<w.heap.size) W6 wr∧(∀k b,k<4→okc k b→(oks k b∧b<w.heap.size)∨(W6.heap.size≤b∧b<wr.heap.size))∧(∀i j b,i<4→j<4→i≠j→okc i b→¬okc j b)∧(∀k,c≤k→k<4→okc k=fun b=>oks k b∧b<w.heap.size)∧(∀k,k<4→STr (okc k) wr (if k<c then setT Q m (K k) (kX x (s / 2) k) (kY y (s / 2) k) (s / 2) else K k) (kX x (s / 2) k) (kY y (s / 2) k) (s / 2) (lv+1) (gs k))) (fun i _=>4-(intOf i).toNat)
   case atStart=>exact⟨0,fun k b=>oks k b∧b<w.heap.size,by omega,rfl,Frm.refl _ _,fun k b _ h=> .inl h,HAPN.out,fun _ _ _=>rfl,fun k hk4=>by rw[if_neg (by omega)];exact(HK6.out k hk4).2⟩
   case round=>
     obtain⟨c,okc,hc,rfl,hF,hOk,hDj,hRest,hTr⟩:=hrel
     have hsr:=hF.size
     have hAr:∀i,wr.cell? ⟨A,i,none⟩=W6.cell? ⟨A,i,none⟩:=fun i=>World.cell?_of_block (w:=W6) (a:=⟨A,i,none⟩) (hF.block A hA6 (fun⟨k,hk4,hb,_⟩=>(HIN.out k A hk4 hb).2.2 rfl))
     by_cases hc4:c<4
     · have hcI:(c:Int)<4:=by omega
       have e0:=(hAr c).trans (HK6.out c hc4).1
       have hTc:=hTr c hc4
       rw[if_neg (Nat.lt_irrefl c),hRest c (Nat.le_refl _) hc4] at hTc
       have C:=ih c (fun b=>oks c b∧b<w.heap.size) (kX x (s / 2) c) (kY y (s / 2) c) (s / 2) (lv+1) (gs c) wr (hq.kid hc4) hTc (hF.blk HBQ6.out (fun⟨k,hk4,hb,_⟩=>hgq0 (HIN.out k gq hk4 hb).1)) (fun h=>hgq0 (HIN.out c gq hc4 h.1).1) (hF.items HS6.out (fun A' o sp e ⟨k,hk4,hb,_⟩=>(HIO.out A' o sp e).1 (HIN.out k A' hk4 hb).1)) (fun A' o sp e=>⟨fun h=>(HIO.out A' o sp e).1 (HIN.out c A' hc4 h.1).1,by have:=(HIO.out A' o sp e).2;omega⟩)
       have HTR:Hid (∀k,k<4→STr (okc k) wr (if k<c then setT Q m (K k) (kX x (s / 2) k) (kY y (s / 2) k) (s / 2) else K k) (kX x (s / 2) k) (kY y (s / 2) k) (s / 2) (lv+1) (gs k)):=hTr
       have HOKC:Hid (∀k b,k<4→okc k b→(oks k b∧b<w.heap.size)∨(W6.heap.size≤b∧b<wr.heap.size)):=hOk
       have HDJ:Hid (∀i j b,i<4→j<4→i≠j→okc i b→¬okc j b):=hDj
       have HRS:Hid (∀k,c≤k→k<4→okc k=fun b=>oks k b∧b<w.heap.size):=hRest
       have HFR:Hid (Frm (fun b=>∃k,k<4∧oks k b∧b<w.heap.size) W6 wr):=hF
       clear hTr hOk hDj hRest hF hTc hAr
       go_wp2_with fail
       refine C.mono ?_
       rintro r w1 ⟨rfl,hst,hF1⟩
       have hs1:=hF1.size
       have hlt:∀k b,k<4→okc k b→b<wr.heap.size:=fun k b hk4 hb=>by
         rcases HOKC.out k b hk4 hb with h | h<;>omega
       have hoc:∀b,(oks c b∧b<w.heap.size)→okc c b:=fun b hb=>by rw[HRS.out c (Nat.le_refl _) hc4];exact hb
       have HN :Hid (∃okc' :Nat→Nat→Prop,(∀k b,k<4→okc' k b→(oks k b∧b<w.heap.size)∨(W6.heap.size≤b∧b<w1.heap.size))∧(∀i j b,i<4→j<4→i≠j→okc' i b→¬okc' j b)∧(∀k,c+1≤k→k<4→okc' k=fun b=>oks k b∧b<w.heap.size)∧(∀k,k<4→STr (okc' k) w1 (if k<c+1 then setT Q m (K k) (kX x (s / 2) k) (kY y (s / 2) k) (s / 2) else K k) (kX x (s / 2) k) (kY y (s / 2) k) (s / 2) (lv+1) (gs k))):=by
         have hci:∀i j b,i<4→j<4→i≠j→i=c→okI (fun b=>oks c b∧b<w.heap.size) wr.heap.size w1.heap.size b→¬okc j b:=fun i j b hi hj hne e h1 h2=>by
           rcases h1 with h1 | h1
           · exact HDJ.out c j b hc4 hj (by omega) (hoc b h1) h2
           · have:=hlt j b hj h2;omega
         refine⟨fun k b=>if k=c then okI (fun b=>oks c b∧b<w.heap.size) wr.heap.size w1.heap.size b else okc k b,fun k b hk4 hb=>?_,fun i j b hi hj hne h1 h2=>?_,fun k hk hk4=>?_,fun k hk4=>?_⟩
         · by_cases e:k=c
           · simp only[if_pos e] at hb
             rcases hb with hb | hb
             · exact .inl (by rw[e];exact hb)
             · exact .inr (by omega)
           · simp only[if_neg e] at hb
             rcases HOKC.out k b hk4 hb with h | h
             · exact .inl h
             · exact .inr (by omega)
         · by_cases e1:i=c
           · have e2:¬j=c:=by omega
             simp only[if_pos e1] at h1
             simp only[if_neg e2] at h2
             exact hci i j b hi hj hne e1 h1 h2
           · simp only[if_neg e1] at h1
             by_cases e2:j=c
             · simp only[if_pos e2] at h2
               exact hci j i b hj hi (fun e=>hne e.symm) e2 h2 h1
             · simp only[if_neg e2] at h2
               exact HDJ.out i j b hi hj hne h1 h2
         · have e:¬k=c:=by omega
           simp only[if_neg e]
           exact HRS.out k (by omega) hk4
         · by_cases e:k=c
           · subst e
             simp only[if_true]
             rw[if_pos (Nat.lt_succ_self k)]
             exact hst
           · simp only[if_neg e]
             have h1:=HTR.out k hk4
             have h2:(if k<c+1 then setT Q m (K k) (kX x (s / 2) k) (kY y (s / 2) k) (s / 2) else K k)=(if k<c then setT Q m (K k) (kX x (s / 2) k) (kY y (s / 2) k) (s / 2) else K k):=by
               by_cases h3:k<c
               · rw[if_pos h3,if_pos (by omega)]
               · rw[if_neg h3,if_neg (by omega)]
             rw[h2]
             exact STr.keep hs1 (fun b hb hl=>hF1.block b hl (fun h4=>HDJ.out c k b hc4 hk4 (fun e5=>e e5.symm) (hoc b h4) hb)) (fun b hb _=>hb) h1
       have HF1:Hid (Frm (fun b=>∃k,k<4∧oks k b∧b<w.heap.size) W6 w1):=HFR.out.andThen (hF1.mono (fun b hb=>⟨c,hc4,hb⟩))
       clear C hst hF1 hlt hoc HTR HOKC HDJ HRS HFR e0
       go_wp2
       go_roundw
       case rel=>
         obtain⟨okc',n1',n2',n3',n4'⟩:=HN.out
         exact⟨c+1,okc',by omega,by go_num,HF1.out,n1',n2',n3',n4'⟩
       case measure=>simp[intOf];omega
     · obtain rfl:c=4:=by omega
       have HE:Hid (SetP Q m (.node K) x y s lv g ok w (.returned (.tuple #[])) wr):=by
         refine⟨rfl,?_,?_⟩
         · rw[HSET.out]
           refine⟨.inl hg,A,kc,gs,okc,hF.blk B6 (fun⟨k,hk4,hb,_⟩=>(HIN.out k g hk4 hb).2.1 rfl),by omega,.inl hoA,hAg,fun k b hk4 hb=>?_,hDj,fun k hk4=>⟨(hAr k).trans (HK6.out k hk4).1,hTr k hk4⟩⟩
           rcases hOk k b hk4 hb with h | h
           · obtain⟨a1,a2⟩:=HIN.out k b hk4 h.1
             exact⟨.inl a1,a2⟩
           · exact⟨.inr (by omega),by omega,by omega⟩
         · exact(Frm.of_grown HG6 hg).andThen (hF.mono (fun b ⟨k,hk4,hb,_⟩=>(HIN.out k b hk4 hb).1))
       clear hF hOk hDj hRest hTr hAr
       go_wp2
       go_end0
       exact HE.out
theorem step_append_run {P:Program} {ops:Array Oper} {o:Oper} {a:Act} {w:World} {K:Act→World→Prop} {Q:Exit→Act→World→Prop} {E:Prop}
   (hgd:o.guard=none) (s x:Operand) (t:TypeId) (ho:o.op=Op.call {callee:=Callee.builtin Builtin.append,args:=#[s,x],argTypes:=#[t,t]})
   (vs vx v' :Value) (w' :World) (hs:a.eval s=vs) (hx:a.eval x=vx) (hr:(Builtin.append_ #[t,t] o.type #[vs,vx]).run P w= .ok v' w') (hK:K (a.put o.dst v') w') :
   if Region.wanted o (yielded ops a.tmps)=true then Oper.wp P o a w K Q else E:=by
 have hw:Region.wanted o (yielded ops a.tmps)=true:=by simp[Region.wanted,hgd]
 rw[if_pos hw]
 unfold Oper.wp execOp
 simp only[ho,resolve,invoke,builtin,Sem.run_bind,Sem.run_pure,Result.andThen_ok,List.map_toArray,List.map_cons,List.map_nil,hs,hx,hr]
 exact hK
def z5L:List Value:=[.int .i64 0,.int .i64 0,.int .i64 0,.int .i64 0,.int .i64 0]
open Go.Lib in
theorem clear_row5 (w:World) (ty:TypeId) (g o cap n:Nat) (hn:n=1) (cur:Array Value) (t:TypeId) (hg:w.heap[g]? =some (.cells cur t (0,0))) (hfit:o+5≤cur.size):(Builtin.clear_ #[31] ty #[.slice (some ⟨g,o,none⟩) n cap]).run Try.prog w= .ok (.tuple #[]) (w.setRow g (cur.toList.take o ++z5L ++cur.toList.drop (o+5)).toArray):=by
 subst hn
 obtain⟨i0,hi0,hz0,hzs,hzb⟩:=info_item
 have hst:=run_storeCells_at Try.prog g o t z5L 0 cur w hg (by simpa [z5L] using hfit) (fun v hv=>by unfold z5L at hv;simp only[List.mem_cons,List.not_mem_nil,or_false] at hv;rcases hv with h | h | h | h | h<;>subst h<;>rfl)
 have hv:(zeroValue 59).run Try.prog w= .ok (.agg #[.int .i64 0,.int .i64 0,.int .i64 0,.int .i64 0,.int .i64 0]) w:=by
   simp[zeroValue,typeInfo,hi0,hz0]
 have hzc:(Builtin.zeroCells #[.int .i64 0,.int .i64 0,.int .i64 0,.int .i64 0,.int .i64 0] 1).toList=z5L:=by kernel_rfl
 simp only[Nat.add_zero] at hst
 rw[show z5L.length=5 from rfl] at hst
 simp[Builtin.clear_,run_underlying Try.underlying31,hv,Value.cells,hzc,hst]
theorem delIt_any (base b n c i:Nat) (xs:List Value) (w:World) (hi:i<n) (hn:n≤1048576) (hO:w.ownsRow base 59 5 (.slice (some ⟨b,0,none⟩) n c) n xs) (h1x:∀v∈xs,v.oneCell' =true):Calls Try.prog 48 #[.slice (some ⟨b,0,none⟩) n c,.int .i64 (i:Int),.int .i64 ((i:Int)+1)] w (fun r w' =>r= .returned (.slice (some ⟨b,0,none⟩) (n-1) c)∧w'.ownsRow base 59 5 (.slice (some ⟨b,0,none⟩) (n-1) c) (n-1) (xs.take (i*5) ++xs.drop ((i+1)*5))∧w.grownBy w' (some b)):=by
 obtain⟨i0,hi0,hz0,hzs,hzb⟩:=info_item
 obtain⟨hxl,hcase⟩:=hO
 rcases hcase with ⟨e,_⟩ | ⟨g,cap,cur,e,hbg,hg,hnc,hcm,hcs,hct⟩
 · cases e
 cases e
 have hxc:∀j v,xs[j]? =some v→w.cell? ⟨b,j,none⟩=some v:=fun j v hj=>by
   rw[←hct] at hj
   rw[List.getElem?_take] at hj
   split at hj
   · simp[World.cell?,hg];simpa using hj
   · cases hj
 have hnI:(n:Int)≤1048576:=by omega
 have hc63:c≤9223372036854775807:=by have:=hcm;unfold maxLen at this;omega
 obtain⟨news,hnews⟩:∃news,news=xs.drop ((i+1)*5):=⟨_,rfl⟩
 have s1:Hid (news.length=(n-(i+1))*5):=by show _=_;rw[hnews,List.length_drop,hxl];omega
 have s2:Hid (∀u∈news,u.oneCell' =true):=fun u hu=>h1x u (by rw[hnews] at hu;exact List.mem_of_mem_drop hu)
 obtain⟨A,hA,hsrc⟩:∃A:Addr,(if c=i+1 then(some (⟨b,0,none⟩:Addr)) else some ⟨b,(i+1)*5,none⟩)=some A∧Hid (∀t u,news[t]? =some u→w.drew.cell? (A.add t)=some u):=by
   by_cases h:c=i+1
   · refine⟨⟨b,0,none⟩,by simp[h],fun t u hu=>?_⟩
     have h0:news.length=0:=by rw[s1.out];omega
     rw[List.length_eq_zero_iff.1 h0] at hu
     simp at hu
   · refine⟨⟨b,(i+1)*5,none⟩,by simp[h],fun t u hu=>?_⟩
     rw[hnews,List.getElem?_drop] at hu
     rw[Addr.add_lit]
     exact hxc _ _ hu
 have hpre:w.drew.ownsRow base 59 5 (.slice (some ⟨b,0,none⟩) i c) i (xs.take (i*5)):=by
   refine⟨by rw[List.length_take,hxl];omega,.inr ⟨b,c,cur,rfl,hbg,hg,by omega,hcm,hcs,?_⟩⟩
   rw[←hct,List.take_take]
   congr 1
   omega
 have hlist:Hid (xs.take (i*5) ++news=xs.take (i*5) ++xs.drop ((i+1)*5)):=by show _=_;rw[hnews]
 have hne:¬((i:Int)=((i+1:Nat):Int)):=by omega
 have hic:i≤c:=by omega
 have hjc:i+1≤c:=by omega
 have hin:i+1≤n:=by omega
 have hle1:i≤i+1:=by omega
 have hi1:(i:Int)+1≤(n:Int):=by omega
 have hi0I:0≤(i:Int)+1:=by omega
 obtain⟨lo,hlo⟩:∃lo,i+(n-(i+1))=lo:=⟨_,rfl⟩
 have HLO:Hid (n=lo+1):=by show _=_;omega
 have hcl:∀(w1:World) (cur1:Array Value) ty,w1.heap[b]? =some (.cells cur1 59 (0,0))→cur1.size=c*5→(Builtin.clear_ #[31] ty #[.slice (some ⟨b,lo*5,none⟩) (n-lo) (c-lo)]).run Try.prog w1= .ok (.tuple #[]) (w1.setRow b (cur1.toList.take (lo*5) ++z5L ++cur1.toList.drop (lo*5+5)).toArray):=fun w1 cur1 ty h1 h2=>clear_row5 w1 ty b (lo*5) _ _ (by have:=HLO.out;omega) cur1 _ h1 (by rw[h2];have:=HLO.out;omega)
 rw[show((i:Int)+1)=((i+1:Nat):Int) by omega,show n-1=lo by omega]
 obtain⟨w1,hr0,hown1,hgrow1⟩:=run_append_own_spare (P:=Try.prog) w.drew base 31 31 59 i0 5 Try.underlying31 hi0 hzs b i c (xs.take (i*5)) hpre A (n-(i+1)) (c-(i+1)) news s1.out hsrc.out s2.out (by omega)
 rw[hlo] at hr0 hown1
 have hr:Hid ((Builtin.append_ #[31,31] 31 #[.slice (some ⟨b,0,none⟩) i c,.slice (some A) (n-(i+1)) (c-(i+1))]).run Try.prog w.drew= .ok (.slice (some ⟨b,0,none⟩) lo c) w1):=hr0
 clear hnews hxc hct hcs hg hxl h1x hr0
 have mixed:Try.prog.follows .mixedOrders=true:=by kernel_rfl
 go_enter Try.func48,Try.ntmps48
 go_wp2_with fail
 go_region_law_o (refine step_append_run rfl (.tmp 22) (.tmp 25) 31 rfl (.slice (some ⟨b,0,none⟩) i c) (.slice (some A) (n-(i+1)) (c-(i+1))) (.slice (some ⟨b,0,none⟩) lo c) w1 (by simp[Act.eval,Act.put]) (by simp[Act.eval,Act.put]) hr.out ?_)
 rcases hown1.2 with ⟨e,_⟩ | ⟨g1,cap1,cur1,e,_,hg1,hlc,_,hcs1,hct1⟩
 · cases e
 cases e
 have hcl1:=fun ty=>hcl w1 cur1 ty hg1 hcs1
 have hlo1:Hid (w1.heap[b]? =some (.cells cur1 59 (0,0))):=hg1
 have hll:lo≤n:=by have:=HLO.out;omega
 have hllI:(lo:Int)≤(n:Int):=by omega
 have hncI:(n:Int)≤(c:Int):=by omega
 have hlne:¬(c=lo):=by have:=HLO.out;omega
 obtain⟨w2,hw2⟩:∃w2,w2=w1.setRow b (cur1.toList.take (lo*5) ++z5L ++cur1.toList.drop (lo*5+5)).toArray:=⟨_,rfl⟩
 have HW2:Hid (w2=w1.setRow b (cur1.toList.take (lo*5) ++z5L ++cur1.toList.drop (lo*5+5)).toArray):=hw2
 rw[←hw2] at hcl1
 have HCT:Hid (cur1.toList.take (lo*5)=xs.take (i*5) ++news):=hct1
 have HCS:Hid (cur1.size=c*5):=hcs1
 clear hcl hw2 hg1 hct1 hcs1 hr
 go_wp2
 go_ret
 refine⟨rfl,⟨?_,.inr ⟨b,c,_,rfl,hbg,by rw[HW2.out];exact setRow_heap w1 b cur1 _ _ _ hlo1.out,hlc,hcm,?_,?_⟩⟩,?_⟩
 · rw[←hlist.out];exact hown1.1
 · have h1:(cur1.toList.take (lo*5)).length=lo*5:=by rw[List.length_take,Array.length_toList,HCS.out];have:=HLO.out;omega
   simp only[List.size_toArray,List.length_append,h1,List.length_drop,Array.length_toList,HCS.out]
   have h2:z5L.length=5:=rfl
   have:=HLO.out
   omega
 · have h1:(cur1.toList.take (lo*5)).length=lo*5:=by rw[List.length_take,Array.length_toList,HCS.out];have:=HLO.out;omega
   rw[List.append_assoc,List.take_append_of_le_length (by rw[h1];exact Nat.le_refl _),List.take_of_length_le (by rw[h1];exact Nat.le_refl _),HCT.out,hlist.out]
 · have h3:w.drew.grownBy w1 (some b):=hgrow1
   rw[HW2.out]
   exact⟨h3.os,h3.tape,h3.output,by have:=h3.size;simp[World.setRow];exact this,fun k hk hne2=>(setRow_other w1 b k _ (fun e=>hne2 (congrArg some e))).trans (h3.block k hk hne2)⟩
end Go.Proofs.Ytjhapeidafbncaa
