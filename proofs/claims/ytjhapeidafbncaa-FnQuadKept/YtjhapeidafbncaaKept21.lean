/- Part 21 of the walks that the proof leans on. -/
import Derived.Test.YtjhapeidafbncaaKept20
import Derived.Test.YtjhapeidafbncaaKept18
import Derived.Test.YtjhapeidafbncaaKept1
import Derived.Test.YtjhapeidafbncaaKept11
import Derived.Test.YtjhapeidafbncaaRows
import Derived.ProofKit
import Derived.Lib.SmallJoins
set_option maxRecDepth 100000
set_option maxHeartbeats 16000000
namespace Go.Proofs.Ytjhapeidafbncaa
open Go.RowKit
theorem near_112 (g:Nat) (ao:Option Addr) (n cap:Nat) (cs:List Int) (w:World) (h:Rdr w g ao n cap cs) :
   Calls Try.prog 90 #[.pointer (some ⟨g,0,none⟩),.int .i64 1,.int .i64 12] w (RdP g ao n cap cs (IsIn 1 13) w):=by
 go_enter Try.func90,Try.ntmps90
 go_wp2_with fail
 refine(below_any 8 (by decide) (by decide) g ao n cap cs _ h).mono ?_
 rintro e w1 ⟨_,rfl,⟨x,rfl,x0,x1⟩,R,K⟩
 clear h
 by_cases h0:x=0
 · subst h0
   go_wp2
   go_ret
   exact⟨_,rfl,⟨_,rfl,by decide,by decide⟩,R,K⟩
 · by_cases h1:x=1
   · subst h1
     go_wp2
     go_ret
     exact⟨_,rfl,⟨_,rfl,by decide,by decide⟩,R,K⟩
   · have e0:(x==0)=false:=by simpa using h0
     have e1:(x==1)=false:=by simpa using h1
     go_wp2_with fail
     refine(word_any g ao n cap cs _ R).mono ?_
     rintro e w2 ⟨_,rfl,⟨y,rfl,y0,y1⟩,R2,K2⟩
     replace K:=K.trans K2
     clear R K2
     have hw:IntKind.u64.wrap 12=12:=by rw[IntKind.wrap_u64];decide
     go_wp2
     go_ret
     exact⟨_,rfl,⟨_,rfl,by omega,by omega⟩,R2,K⟩
theorem off_112 (g:Nat) (ao:Option Addr) (n cap:Nat) (cs:List Int) (w:World) (R:Rdr w g ao n cap cs) :
   Calls Try.prog 54 #[.pointer (some ⟨g,0,none⟩),.int .i64 1,.int .i64 12] w (RdP g ao n cap cs IsI w):=by
 go_enter Try.func54,Try.ntmps54
 go_wp2_with fail
 refine(once_any 24 (by decide) (by decide) g ao n cap cs _ R).mono ?_
 rintro e w1 ⟨_,rfl,⟨b,rfl⟩,R1,K⟩
 clear R
 cases b
 · go_wp2_with fail
   refine(near_112 g ao n cap cs _ R1).mono ?_
   rintro e w2 ⟨_,rfl,⟨x,rfl,x0,x1⟩,R2,K2⟩
   replace K:=K.trans K2
   clear R1 K2
   go_wp2
   go_ret
   exact⟨_,rfl,⟨x,rfl,by constructor<;>omega⟩,R2,K⟩
 · have G:=Blk.new w1 [.int .i64 0,.int .i64 13,.int .i64 (-9223372036854775808),.int .i64 9223372036854775807] 2 rfl
   rw[show([.int .i64 0,.int .i64 13,.int .i64 (-9223372036854775808),.int .i64 9223372036854775807]:List Value).toArray=#[.int .i64 0,.int .i64 13,.int .i64 (-9223372036854775808),.int .i64 9223372036854775807] from rfl] at G
   have hgl:=R1.lt
   have hgn:w1.heap.size≠g:=by omega
   have R:=R1.alloc (.cells #[.int .i64 0,.int .i64 13,.int .i64 (-9223372036854775808),.int .i64 9223372036854775807] 2)
   replace K:=K.alloc (.cells #[.int .i64 0,.int .i64 13,.int .i64 (-9223372036854775808),.int .i64 9223372036854775807] 2)
   clear R1
   go_wp2_with fail
   refine(below_any 4 (by decide) (by decide) g ao n cap cs _ R).mono ?_
   rintro e w6 ⟨_,rfl,⟨j,rfl,j0,j1⟩,R6,K6⟩
   replace G:=G.kept K6 hgn
   replace K:=K.trans K6
   obtain⟨k,rfl⟩:∃k:Nat,j=k:=⟨j.toNat,by omega⟩
   obtain⟨u,hu,hus⟩:∃u:Int,w6.cell? ⟨w1.heap.size,k,none⟩=some (.int .i64 u)∧I64 u:=by
     rcases(by omega:k=0∨k=1∨k=2∨k=3) with rfl | rfl | rfl | rfl
     · exact⟨_,G.c 0 rfl,by constructor<;>decide⟩
     · exact⟨_,G.c 1 rfl,by constructor<;>decide⟩
     · exact⟨_,G.c 2 rfl,by constructor<;>decide⟩
     · exact⟨_,G.c 3 rfl,by constructor<;>decide⟩
   clear G R K6
   go_wp2
   go_ret
   exact⟨_,rfl,⟨u,rfl,hus⟩,R6,K⟩
theorem Rdr.setK {w:World} {g:Nat} {ao:Option Addr} {n cap:Nat} {cs:List Int} (h:Rdr w g ao n cap cs) {p:Addr} (hp:p.block≠g) (hc:∀i,i<cs.length→∃b off,ao=some ⟨b,off,none⟩∧b<p.block) (u:Value):Rdr (w.setCell p u) g ao n cap cs:=by
 obtain⟨q,hq,B⟩:=h.blk
 refine⟨⟨q,hq,B.setO (by omega) u⟩,fun i hi=>?_,h.len,h.small,h.byte⟩
 obtain⟨b,off,e,hb,hc'⟩:=h.bytes i hi
 obtain⟨b',off',e',hb'⟩:=hc i hi
 rw[e] at e'
 cases e'
 exact⟨b,off,e,hb,(World.cell?_setCell_other _ _ _ _ (by intro e;rw[e] at hb';simp at hb')).trans hc'⟩
structure DkS (P0 P4 T6 g:Nat) (ao:Option Addr) (n cap:Nat) (cs:List Int) (m1 d1:Int) (io1 bo1:Option Addr) (n1 ic1 N1 bc1:Nat) (W:World):Prop where
 tree:Blk W T6 [.int .i64 m1,.int .i64 d1,.slice io1 n1 ic1,.slice bo1 N1 bc1]
 tq:TqP 42 (fun b=>P4<b∧b≠T6∧b≠g) (.agg #[.int .i64 m1,.int .i64 d1,.slice io1 n1 ic1,.slice bo1 N1 bc1]) W
 res:∃(m d:Int) (io bo:Option Addr) (n ic N bc:Nat),Blk W P0 [.int .i64 m,.int .i64 d,.slice io n ic,.slice bo N bc]∧TqP 42 (fun b=>P4<b∧b≠T6∧b≠g) (.agg #[.int .i64 m,.int .i64 d,.slice io n ic,.slice bo N bc]) W
 sg:∃a b c d:Int,Blk W P4 [.int .i64 a,.int .i64 b,.int .i64 c,.int .i64 d]
 rdr:Rdr W g ao n cap cs
 fix:P0<P4∧P4<g∧P4<T6∧T6≠g
 far:∀i,i<cs.length→∃b off,ao=some ⟨b,off,none⟩∧b<P0
theorem DkS.draw {P0 P4 T6 g:Nat} {ao:Option Addr} {n cap:Nat} {cs:List Int} {m1 d1:Int} {io1 bo1:Option Addr} {n1 ic1 N1 bc1:Nat} {W W2:World} (h:DkS P0 P4 T6 g ao n cap cs m1 d1 io1 bo1 n1 ic1 N1 bc1 W) (R:Rdr W2 g ao n cap cs) (K:Kept g W W2):DkS P0 P4 T6 g ao n cap cs m1 d1 io1 bo1 n1 ic1 N1 bc1 W2:=by
 have hf:=h.fix
 obtain⟨m,d,io,bo,n',ic,N,bc,B,T⟩:=h.res
 obtain⟨a,b,c,e,S⟩:=h.sg
 exact⟨h.tree.kept K (by omega),h.tq.kept K (fun e=>e.2.2 rfl),⟨m,d,io,bo,n',ic,N,bc,B.kept K (by omega),T.kept K (fun e=>e.2.2 rfl)⟩,⟨a,b,c,e,S.kept K (by omega)⟩,R,hf,h.far⟩
theorem DkS.store {P0 P4 T6 g:Nat} {ao:Option Addr} {n cap:Nat} {cs:List Int} {m1 d1:Int} {io1 bo1:Option Addr} {n1 ic1 N1 bc1:Nat} {W:World} (h:DkS P0 P4 T6 g ao n cap cs m1 d1 io1 bo1 n1 ic1 N1 bc1 W):DkS P0 P4 T6 g ao n cap cs m1 d1 io1 bo1 n1 ic1 N1 bc1 ((((W.setCell ⟨P0,0,none⟩ (.int .i64 m1)).setCell ⟨P0,1,none⟩ (.int .i64 d1)).setCell ⟨P0,2,none⟩ (.slice io1 n1 ic1)).setCell ⟨P0,3,none⟩ (.slice bo1 N1 bc1)):=by
 have hf:=h.fix
 obtain⟨m,d,io,bo,n',ic,N,bc,B,T⟩:=h.res
 obtain⟨a,b,c,e,S⟩:=h.sg
 have hT:TqP 42 (fun b=>P4<b∧b≠T6∧b≠g) (.agg #[.int .i64 m1,.int .i64 d1,.slice io1 n1 ic1,.slice bo1 N1 bc1]) ((((W.setCell ⟨P0,0,none⟩ (.int .i64 m1)).setCell ⟨P0,1,none⟩ (.int .i64 d1)).setCell ⟨P0,2,none⟩ (.slice io1 n1 ic1)).setCell ⟨P0,3,none⟩ (.slice bo1 N1 bc1)):=h.tq.keep (by simp[World.setCell]) (fun b hb _=>set4_heap (by omega))
 exact⟨((((h.tree.setO (p:=⟨P0,0,none⟩) (by show T6≠P0;omega) _).setO (p:=⟨P0,1,none⟩) (by show T6≠P0;omega) _).setO (p:=⟨P0,2,none⟩) (by show T6≠P0;omega) _).setO (p:=⟨P0,3,none⟩) (by show T6≠P0;omega) _),hT,⟨_,_,_,_,_,_,_,_,(set4_blk B _ _ _ _).out,hT⟩,⟨a,b,c,e,((((S.setO (p:=⟨P0,0,none⟩) (by show P4≠P0;omega) _).setO (p:=⟨P0,1,none⟩) (by show P4≠P0;omega) _).setO (p:=⟨P0,2,none⟩) (by show P4≠P0;omega) _).setO (p:=⟨P0,3,none⟩) (by show P4≠P0;omega) _)⟩,((((h.rdr.setK (p:=⟨P0,0,none⟩) (by show P0≠g;omega) h.far _).setK (p:=⟨P0,1,none⟩) (by show P0≠g;omega) h.far _).setK (p:=⟨P0,2,none⟩) (by show P0≠g;omega) h.far _).setK (p:=⟨P0,3,none⟩) (by show P0≠g;omega) h.far _),hf,h.far⟩
theorem DkS.storeSg {P0 P4 T6 g:Nat} {ao:Option Addr} {n cap:Nat} {cs:List Int} {m1 d1:Int} {io1 bo1:Option Addr} {n1 ic1 N1 bc1:Nat} {W:World} (h:DkS P0 P4 T6 g ao n cap cs m1 d1 io1 bo1 n1 ic1 N1 bc1 W) (za zb zc zd:Int):DkS P0 P4 T6 g ao n cap cs m1 d1 io1 bo1 n1 ic1 N1 bc1 ((((W.setCell ⟨P4,0,none⟩ (.int .i64 za)).setCell ⟨P4,1,none⟩ (.int .i64 zb)).setCell ⟨P4,2,none⟩ (.int .i64 zc)).setCell ⟨P4,3,none⟩ (.int .i64 zd)):=by
 have hf:=h.fix
 obtain⟨m,d,io,bo,n',ic,N,bc,B,T⟩:=h.res
 obtain⟨a,b,c,e,S⟩:=h.sg
 have hfar:∀i,i<cs.length→∃b off,ao=some ⟨b,off,none⟩∧b<P4:=fun i hi=>by
   obtain⟨b,off,e,hb⟩:=h.far i hi
   exact⟨b,off,e,by omega⟩
 exact⟨((((h.tree.setO (p:=⟨P4,0,none⟩) (by show T6≠P4;omega) _).setO (p:=⟨P4,1,none⟩) (by show T6≠P4;omega) _).setO (p:=⟨P4,2,none⟩) (by show T6≠P4;omega) _).setO (p:=⟨P4,3,none⟩) (by show T6≠P4;omega) _),h.tq.keep (by simp[World.setCell]) (fun b hb _=>set4_heap (by omega)),⟨m,d,io,bo,n',ic,N,bc,((((B.setO (p:=⟨P4,0,none⟩) (by show P0≠P4;omega) _).setO (p:=⟨P4,1,none⟩) (by show P0≠P4;omega) _).setO (p:=⟨P4,2,none⟩) (by show P0≠P4;omega) _).setO (p:=⟨P4,3,none⟩) (by show P0≠P4;omega) _),T.keep (by simp[World.setCell]) (fun b hb _=>set4_heap (by omega))⟩,⟨za,zb,zc,zd,(set4_blk S _ _ _ _).out⟩,((((h.rdr.setK (p:=⟨P4,0,none⟩) (by show P4≠g;omega) hfar _).setK (p:=⟨P4,1,none⟩) (by show P4≠g;omega) hfar _).setK (p:=⟨P4,2,none⟩) (by show P4≠g;omega) hfar _).setK (p:=⟨P4,3,none⟩) (by show P4≠g;omega) hfar _),hf,h.far⟩
def VkpR (_P0 _P4 _T6 g:Nat) (_ao:Option Addr) (_n _cap:Nat) (_cs:List Int) (m1 d1:Int) (io1 bo1:Option Addr) (n1 ic1 N1 bc1:Nat) (_B:Nat):Nat→Value→World→Prop
 | 0,v,_=>v= .agg #[.int .i64 m1,.int .i64 d1,.slice io1 n1 ic1,.slice bo1 N1 bc1]
 | 1,v,_=>v= .pointer (some ⟨g,0,none⟩)
 | 2,v,_=>∃z:Int,v= .int .i64 z
 | 3,v,_=>v= .pointer (some ⟨g,0,none⟩)
 | 4,v,_=>∃a b c d:Int,v= .agg #[.int .i64 a,.int .i64 b,.int .i64 c,.int .i64 d]
 | 6,v,_=>∃z:Int,v= .int .i64 z
 | _,_,_=>True
theorem VkpR.same {P0 P4 T6 g:Nat} {ao:Option Addr} {n cap:Nat} {cs:List Int} {m1 d1:Int} {io1 bo1:Option Addr} {n1 ic1 N1 bc1:Nat} {B j:Nat} {v:Value} {W W2:World} (h:VkpR P0 P4 T6 g ao n cap cs m1 d1 io1 bo1 n1 ic1 N1 bc1 B j v W):VkpR P0 P4 T6 g ao n cap cs m1 d1 io1 bo1 n1 ic1 N1 bc1 B j v W2:=by
 unfold VkpR at *
 split<;>simp only at h<;>first | exact h | trivial
def SkpR (P0 P4 T6 g:Nat) (ao:Option Addr) (n cap:Nat) (cs:List Int) (m1 d1:Int) (io1 bo1:Option Addr) (n1 ic1 N1 bc1:Nat) (W:World):Prop:=DkS P0 P4 T6 g ao n cap cs m1 d1 io1 bo1 n1 ic1 N1 bc1 W
def JkpR (P0 P4 T6 g:Nat) (ao:Option Addr) (n cap:Nat) (cs:List Int) (m1 d1:Int) (io1 bo1:Option Addr) (n1 ic1 N1 bc1:Nat) (w0:World) (a0:Act) (lz:Array Bool) (az:Act) (W:World):Prop:=InvQ (P0) [some 11,some 12,some 13,some 14,some 15,none,some 3,none] (VkpR P0 P4 T6 g ao n cap cs m1 d1 io1 bo1 n1 ic1 N1 bc1 (P0)) w0 a0 lz az W∧SkpR P0 P4 T6 g ao n cap cs m1 d1 io1 bo1 n1 ic1 N1 bc1 W
theorem kpR {Q:Exit→Act→World→Prop} {P0 P4 T6 g:Nat} {ao:Option Addr} {n cap:Nat} {cs:List Int} {m1 d1:Int} {io1 bo1:Option Addr} {n1 ic1 N1 bc1:Nat} {w0:World} {a0:Act} {idq:Nat} {t0 t1 t2 t3 t4 t5 t6 t7:TypeId} {q0 q1 q2 q3 q4 q5 q6 q7:String}
    (h6:a0.tmps[6]? =some (.pointer (some ⟨T6,0,none⟩))) (h5:a0.tmps[5]? =some (.pointer (some ⟨g,0,none⟩))) (h2:a0.tmps[2]? =some (.pointer (some ⟨P0,0,none⟩))) (h4:a0.tmps[4]? =some (.pointer (some ⟨P4,0,none⟩))) (hz:a0.tmps.size=16) (hs0:SkpR P0 P4 T6 g ao n cap cs m1 d1 io1 bo1 n1 ic1 N1 bc1 w0.drew)
   (hQ:∀aq W,aq.tmps.size=a0.tmps.size→aq.defers=a0.defers→(∀e,e∉([11,12,13,14,15,3]:List Nat)→aq.tmps[e]? =a0.tmps[e]?)→VkpR P0 P4 T6 g ao n cap cs m1 d1 io1 bo1 n1 ic1 N1 bc1 (P0) 6 (aq.tmps.getD 3 undef) W→Below (P0) w0 W→SkpR P0 P4 T6 g ao n cap cs m1 d1 io1 bo1 n1 ic1 N1 bc1 W→Q .normal aq W) :
   (Code.region idq #[{dst:=some 11,op:=Op.load 34 (.tmp 6),type:=t0,pos:=q0,after:=#[],guard:=none},
   {dst:=some 12,op:=Op.move (.tmp 5),type:=t1,pos:=q1,after:=#[],guard:=none},
   {dst:=some 13,op:=Op.call {callee:=Callee.value (Operand.func 54),args:=#[.tmp 12,Operand.const (Value.int IntKind.i64 1),Operand.const (Value.int IntKind.i64 12)],argTypes:=#[93,2,2]},type:=t2,pos:=q2,after:=#[⟨1,.data⟩],guard:=none},
   {dst:=some 14,op:=Op.move (.tmp 5),type:=t3,pos:=q3,after:=#[],guard:=none},
   {dst:=some 15,op:=Op.call {callee:=Callee.value (Operand.func 55),args:=#[.tmp 14],argTypes:=#[93]},type:=t4,pos:=q4,after:=#[⟨3,.data⟩,⟨2,.chain⟩],guard:=none},
   {dst:=none,op:=Op.store 34 (.tmp 2) (.tmp 11),type:=t5,pos:=q5,after:=#[⟨0,.data⟩,⟨4,.chain⟩,⟨0,.phase⟩,{on:=1,ground:=Ground.textOnly Departure.lateStores},{on:=2,ground:=Ground.textOnly Departure.lateStoresUnsure},{on:=3,ground:=Ground.textOnly Departure.lateStores},{on:=4,ground:=Ground.textOnly Departure.lateStoresUnsure}],guard:=none},
   {dst:=some 3,op:=Op.assign (.tmp 13),type:=t6,pos:=q6,after:=#[⟨2,.data⟩,⟨5,.chain⟩,⟨0,.phase⟩,⟨1,.phase⟩,⟨2,.phase⟩,{on:=3,ground:=Ground.textOnly Departure.lateStores},{on:=4,ground:=Ground.textOnly Departure.lateStoresUnsure},⟨5,.phase⟩],guard:=none},
   {dst:=none,op:=Op.store 40 (.tmp 4) (.tmp 15),type:=t7,pos:=q7,after:=#[⟨4,.data⟩,⟨6,.chain⟩,⟨0,.phase⟩,⟨1,.phase⟩,⟨2,.phase⟩,⟨3,.phase⟩,⟨4,.phase⟩,⟨5,.phase⟩,⟨6,.phase⟩],guard:=none}] true).wp Try.prog Q a0 w0:=by
 have hS:distS [some 11,some 12,some 13,some 14,some 15,none,some 3,none]=true:=rfl
 refine wp_region_inv (by kernel_rfl) (JkpR P0 P4 T6 g ao n cap cs m1 d1 io1 bo1 n1 ic1 N1 bc1 w0 a0) ⟨⟨rfl,rfl,rfl,fun _ _=>rfl,(Below.refl _ w0).drew,fun j d hj=>?_,fun j hj=>?_⟩,hs0⟩ ?_ ?_
 · exfalso
   rw[Array.getD_eq_getD_getElem?,Array.getElem?_replicate] at hj
   split at hj<;>simp at hj
 · exfalso
   rw[Array.getD_eq_getD_getElem?,Array.getElem?_replicate] at hj
   split at hj<;>simp at hj
 · intro lq aq W iq oq ⟨hJ,hs⟩ hl ho hall
   have hJ2:=hJ
   obtain⟨z1,z2,z3,z4,z5,z6,z7⟩:=hJ
   have g6:aq.tmps.getD 6 undef= .pointer (some ⟨T6,0,none⟩):=by rw[Array.getD_eq_getD_getElem?,z4 6 (by decide),h6];rfl
   have g5:aq.tmps.getD 5 undef= .pointer (some ⟨g,0,none⟩):=by rw[Array.getD_eq_getD_getElem?,z4 5 (by decide),h5];rfl
   have g2:aq.tmps.getD 2 undef= .pointer (some ⟨P0,0,none⟩):=by rw[Array.getD_eq_getD_getElem?,z4 2 (by decide),h2];rfl
   have g4:aq.tmps.getD 4 undef= .pointer (some ⟨P4,0,none⟩):=by rw[Array.getD_eq_getD_getElem?,z4 4 (by decide),h4];rfl
   match iq,ho with
   | 0,ho=>
     cases ho
     refine wpOp_of rfl rfl ?_
     have hK:=fun(v:Value) (W2:World) hW hT hv (hs:SkpR P0 P4 T6 g ao n cap cs m1 d1 io1 bo1 n1 ic1 N1 bc1 W2)=>show(JkpR P0 P4 T6 g ao n cap cs m1 d1 io1 bo1 n1 ic1 N1 bc1 w0 a0) (lq.setIfInBounds 0 true) (aq.put (some 11) v) W2 from⟨hJ2.put hS 0 11 rfl (by omega) (W' :=W2) hW hT v hv,hs⟩
     clear ho hall hl hQ
     generalize (JkpR P0 P4 T6 g ao n cap cs m1 d1 io1 bo1 n1 ic1 N1 bc1 w0 a0) (lq.setIfInBounds 0 true)=K at hK⊢
     clear hJ2 hS z1 z2 z3 z4 z6 z7
     have ca0:=hs.tree.c 0 rfl;have ca1:=hs.tree.c 1 rfl;have ca2:=hs.tree.c 2 rfl;have ca3:=hs.tree.c 3 rfl
     go_simp
     exact hK _ _ z5 (fun _ _ h=>h) rfl hs
   | 1,ho=>
     cases ho
     refine wpOp_of rfl rfl ?_
     have hK:=fun(v:Value) (W2:World) hW hT hv (hs:SkpR P0 P4 T6 g ao n cap cs m1 d1 io1 bo1 n1 ic1 N1 bc1 W2)=>show(JkpR P0 P4 T6 g ao n cap cs m1 d1 io1 bo1 n1 ic1 N1 bc1 w0 a0) (lq.setIfInBounds 1 true) (aq.put (some 12) v) W2 from⟨hJ2.put hS 1 12 rfl (by omega) (W' :=W2) hW hT v hv,hs⟩
     clear ho hall hl hQ
     generalize (JkpR P0 P4 T6 g ao n cap cs m1 d1 io1 bo1 n1 ic1 N1 bc1 w0 a0) (lq.setIfInBounds 1 true)=K at hK⊢
     clear hJ2 hS z1 z2 z3 z4 z6 z7
     go_simp
     exact hK _ _ z5 (fun _ _ h=>h) rfl hs
   | 2,ho=>
     cases ho
     refine wpOp_of rfl rfl ?_
     have f1:(aq.tmps.getD 12 undef)= .pointer (some ⟨g,0,none⟩):=z6 1 12 (hall ⟨1,.data⟩ (by simp) rfl) rfl
     have hK:=fun(v:Value) (W2:World) hW hT hv (hs:SkpR P0 P4 T6 g ao n cap cs m1 d1 io1 bo1 n1 ic1 N1 bc1 W2)=>show(JkpR P0 P4 T6 g ao n cap cs m1 d1 io1 bo1 n1 ic1 N1 bc1 w0 a0) (lq.setIfInBounds 2 true) (aq.put (some 13) v) W2 from⟨hJ2.put hS 2 13 rfl (by omega) (W' :=W2) hW hT v hv,hs⟩
     clear ho hall hl hQ
     generalize (JkpR P0 P4 T6 g ao n cap cs m1 d1 io1 bo1 n1 ic1 N1 bc1 w0 a0) (lq.setIfInBounds 2 true)=K at hK⊢
     clear hJ2 hS z1 z2 z3 z4 z6 z7
     have rwl:=hs.rdr.lt
     have hfx:=hs.fix
     go_simp
     refine(off_112 g ao n cap cs _ hs.rdr).mono ?_
     rintro e v1 ⟨_,rfl,⟨z,rfl,iz⟩,xr2,hk⟩
     exact hK _ _ (z5.trans (hk.below (by omega) (by omega))) (fun _ _ h=>VkpR.same h) ⟨z,rfl⟩ (hs.draw xr2 hk)
   | 3,ho=>
     cases ho
     refine wpOp_of rfl rfl ?_
     have hK:=fun(v:Value) (W2:World) hW hT hv (hs:SkpR P0 P4 T6 g ao n cap cs m1 d1 io1 bo1 n1 ic1 N1 bc1 W2)=>show(JkpR P0 P4 T6 g ao n cap cs m1 d1 io1 bo1 n1 ic1 N1 bc1 w0 a0) (lq.setIfInBounds 3 true) (aq.put (some 14) v) W2 from⟨hJ2.put hS 3 14 rfl (by omega) (W' :=W2) hW hT v hv,hs⟩
     clear ho hall hl hQ
     generalize (JkpR P0 P4 T6 g ao n cap cs m1 d1 io1 bo1 n1 ic1 N1 bc1 w0 a0) (lq.setIfInBounds 3 true)=K at hK⊢
     clear hJ2 hS z1 z2 z3 z4 z6 z7
     go_simp
     exact hK _ _ z5 (fun _ _ h=>h) rfl hs
   | 4,ho=>
     cases ho
     refine wpOp_of rfl rfl ?_
     have f3:(aq.tmps.getD 14 undef)= .pointer (some ⟨g,0,none⟩):=z6 3 14 (hall ⟨3,.data⟩ (by simp) rfl) rfl
     have hK:=fun(v:Value) (W2:World) hW hT hv (hs:SkpR P0 P4 T6 g ao n cap cs m1 d1 io1 bo1 n1 ic1 N1 bc1 W2)=>show(JkpR P0 P4 T6 g ao n cap cs m1 d1 io1 bo1 n1 ic1 N1 bc1 w0 a0) (lq.setIfInBounds 4 true) (aq.put (some 15) v) W2 from⟨hJ2.put hS 4 15 rfl (by omega) (W' :=W2) hW hT v hv,hs⟩
     clear ho hall hl hQ
     generalize (JkpR P0 P4 T6 g ao n cap cs m1 d1 io1 bo1 n1 ic1 N1 bc1 w0 a0) (lq.setIfInBounds 4 true)=K at hK⊢
     clear hJ2 hS z1 z2 z3 z4 z6 z7
     have rwl:=hs.rdr.lt
     have hfx:=hs.fix
     go_simp
     refine(farSeg_any g ao n cap cs _ hs.rdr).mono ?_
     rintro e v1 ⟨_,rfl,⟨a,b,c,d,rfl,_,_,_,_⟩,xr2,hk⟩
     exact hK _ _ (z5.trans (hk.below (by omega) (by omega))) (fun _ _ h=>VkpR.same h) ⟨a,b,c,d,rfl⟩ (hs.draw xr2 hk)
   | 5,ho=>
     cases ho
     refine wpOp_of rfl rfl ?_
     have f0:(aq.tmps.getD 11 undef)= .agg #[.int .i64 m1,.int .i64 d1,.slice io1 n1 ic1,.slice bo1 N1 bc1]:=z6 0 11 (hall ⟨0,.data⟩ (by simp) rfl) rfl
     have hK:=fun(W2:World) hW hT hv (hs:SkpR P0 P4 T6 g ao n cap cs m1 d1 io1 bo1 n1 ic1 N1 bc1 W2)=>show(JkpR P0 P4 T6 g ao n cap cs m1 d1 io1 bo1 n1 ic1 N1 bc1 w0 a0) (lq.setIfInBounds 5 true) aq W2 from⟨hJ2.world 5 rfl (W' :=W2) hW hT hv,hs⟩
     clear ho hall hl hQ
     generalize (JkpR P0 P4 T6 g ao n cap cs m1 d1 io1 bo1 n1 ic1 N1 bc1 w0 a0) (lq.setIfInBounds 5 true)=K at hK⊢
     clear hJ2 hS z1 z2 z3 z4 z6 z7
     have ns:=hs.store
     have hfx:=hs.fix
     have nB:Below P0 w0 ((((W.setCell ⟨P0,0,none⟩ (.int .i64 m1)).setCell ⟨P0,1,none⟩ (.int .i64 d1)).setCell ⟨P0,2,none⟩ (.slice io1 n1 ic1)).setCell ⟨P0,3,none⟩ (.slice bo1 N1 bc1)):=((((z5.setCell (p:=⟨P0,0,none⟩) (Nat.le_refl _) _).setCell (p:=⟨P0,1,none⟩) (Nat.le_refl _) _).setCell (p:=⟨P0,2,none⟩) (Nat.le_refl _) _).setCell (p:=⟨P0,3,none⟩) (Nat.le_refl _) _)
     obtain⟨m9,d9,io9,bo9,n9,ic9,N9,bc9,xb,_⟩:=hs.res
     have rc0:=xb.c 0 rfl;have rc1:=xb.c 1 rfl;have rc2:=xb.c 2 rfl;have rc3:=xb.c 3 rfl
     have rf0:=xb.f 0 rfl;have rf1:=xb.f 1 rfl;have rf2:=xb.f 2 rfl;have rf3:=xb.f 3 rfl
     clear xb hs
     go_simp
     exact hK _ nB (fun _ _ h=>VkpR.same h) trivial ns
   | 6,ho=>
     cases ho
     refine wpOp_of rfl rfl ?_
     have f2:∃z:Int,(aq.tmps.getD 13 undef)= .int .i64 z:=z6 2 13 (hall ⟨2,.data⟩ (by simp) rfl) rfl
     obtain⟨zi,ezi⟩:=f2
     rw[Array.getD_eq_getD_getElem?] at ezi
     have hK:=fun(v:Value) (W2:World) hW hT hv (hs:SkpR P0 P4 T6 g ao n cap cs m1 d1 io1 bo1 n1 ic1 N1 bc1 W2)=>show(JkpR P0 P4 T6 g ao n cap cs m1 d1 io1 bo1 n1 ic1 N1 bc1 w0 a0) (lq.setIfInBounds 6 true) (aq.put (some 3) v) W2 from⟨hJ2.put hS 6 3 rfl (by omega) (W' :=W2) hW hT v hv,hs⟩
     clear ho hall hl hQ
     generalize (JkpR P0 P4 T6 g ao n cap cs m1 d1 io1 bo1 n1 ic1 N1 bc1 w0 a0) (lq.setIfInBounds 6 true)=K at hK⊢
     clear hJ2 hS z1 z2 z3 z4 z6 z7
     go_simp
     exact hK _ _ z5 (fun _ _ h=>h) ⟨zi,rfl⟩ hs
   | 7,ho=>
     cases ho
     refine wpOp_of rfl rfl ?_
     have f4:∃a b c d:Int,(aq.tmps.getD 15 undef)= .agg #[.int .i64 a,.int .i64 b,.int .i64 c,.int .i64 d]:=z6 4 15 (hall ⟨4,.data⟩ (by simp) rfl) rfl
     obtain⟨za,zb,zc,zd,e4⟩:=f4
     have hK:=fun(W2:World) hW hT hv (hs:SkpR P0 P4 T6 g ao n cap cs m1 d1 io1 bo1 n1 ic1 N1 bc1 W2)=>show(JkpR P0 P4 T6 g ao n cap cs m1 d1 io1 bo1 n1 ic1 N1 bc1 w0 a0) (lq.setIfInBounds 7 true) aq W2 from⟨hJ2.world 7 rfl (W' :=W2) hW hT hv,hs⟩
     clear ho hall hl hQ
     generalize (JkpR P0 P4 T6 g ao n cap cs m1 d1 io1 bo1 n1 ic1 N1 bc1 w0 a0) (lq.setIfInBounds 7 true)=K at hK⊢
     clear hJ2 hS z1 z2 z3 z4 z6 z7
     have ns:=hs.storeSg za zb zc zd
     have hfx:=hs.fix
     have nB:Below P0 w0 ((((W.setCell ⟨P4,0,none⟩ (.int .i64 za)).setCell ⟨P4,1,none⟩ (.int .i64 zb)).setCell ⟨P4,2,none⟩ (.int .i64 zc)).setCell ⟨P4,3,none⟩ (.int .i64 zd)):=((((z5.setCell (p:=⟨P4,0,none⟩) (Nat.le_of_lt hfx.1) _).setCell (p:=⟨P4,1,none⟩) (Nat.le_of_lt hfx.1) _).setCell (p:=⟨P4,2,none⟩) (Nat.le_of_lt hfx.1) _).setCell (p:=⟨P4,3,none⟩) (Nat.le_of_lt hfx.1) _)
     obtain⟨a9,b9,c9,d9,xb⟩:=hs.sg
     have rc0:=xb.c 0 rfl;have rc1:=xb.c 1 rfl;have rc2:=xb.c 2 rfl;have rc3:=xb.c 3 rfl
     have rf0:=xb.f 0 rfl;have rf1:=xb.f 1 rfl;have rf2:=xb.f 2 rfl;have rf3:=xb.f 3 rfl
     clear xb hs
     go_simp
     exact hK _ nB (fun _ _ h=>VkpR.same h) trivial ns
   | iq+8,ho=>simp at ho
 · intro lq aq W ⟨hJ,hs⟩ hr
   obtain⟨z1,z2,z3,z4,z5,z6,z7⟩:=hJ
   have hl:=listed_of hr [1,2,0,3,4,5,6] [] (by simp) (by kernel_rfl) (by rw[z1];decide)
   exact hQ aq W z2 z3 (fun e he=>z4 e (by simpa using he)) (z6 6 3 (hl 6 (by simp)) rfl) z5 hs
structure UsQ (Q:QD) (io bo:Option Addr) (bc A off:Nat) (so:Nat→Option Addr×Nat) (W:World):Prop where
 hm:Q.m≤42
 hN:Q.N≤2000
 hL:∀i,i<Q.N→Q.L i≤1048576
 hbo:0<Q.N→bo=some ⟨A,off,none⟩
 hso:∀i,i<Q.N→(so i).1=none→(so i).2=0
 hc:Q.N≤bc
 ha:∀A o sp,io=some ⟨A,o,sp⟩→A<W.heap.size
 its:ItIn Q W io (List.range Q.m)
 bls:BlIn Q W A off so
theorem UsQ.step {Q:QD} {io bo:Option Addr} {bc A off:Nat} {so:Nat→Option Addr×Nat} {W W2:World} (h:UsQ Q io bo bc A off so W) (hB:Below W.heap.size W W2):UsQ Q io bo bc A off so W2:=
 ⟨h.hm,h.hN,h.hL,h.hbo,h.hso,h.hc,fun A o sp e=>Nat.lt_of_lt_of_le (h.ha A o sp e) hB.size,h.its.step hB,h.bls.below hB⟩
theorem UsQ.ok {Q:QD} {io bo:Option Addr} {bc A off:Nat} {so:Nat→Option Addr×Nat} {W:World} (h:UsQ Q io bo bc A off so W) (ic:Nat) (m d:Int):Calls Try.prog 21 #[.agg #[.int .i64 m,.int .i64 d,.slice io Q.m ic,.slice bo Q.N bc]] W (VP (.bool (qOk Q m d)) W):=
 have h1:=h.hm
 have h2:=h.hN
 implQuadOk_any W Q io bo ic bc A off so m d (by omega) (by omega) h.hc h.hL h.hbo h.ha h.its h.bls
theorem UsQ.put {Q:QD} {io bo:Option Addr} {bc A off:Nat} {so:Nat→Option Addr×Nat} {W:World} (h:UsQ Q io bo bc A off so W) (ic:Nat) (m d id a bb cc dd:Int):Calls Try.prog 11 #[.agg #[.int .i64 m,.int .i64 d,.slice io Q.m ic,.slice bo Q.N bc],.int .i64 id,Sg a bb cc dd] W (PutG Q m d id a bb cc dd W):=
 have h1:=h.hm
 have h2:=h.hN
 implQuadPut_any W Q io bo ic bc A off so m d (by omega) (by omega) h.hc h.hL h.hbo h.ha h.its h.bls id a bb cc dd
theorem UsQ.putS {Q:QD} {io bo:Option Addr} {bc A off:Nat} {so:Nat→Option Addr×Nat} {W:World} (h:UsQ Q io bo bc A off so W) (ic:Nat) (m d id a bb cc dd:Int):Calls Try.prog 8 #[.agg #[.int .i64 m,.int .i64 d,.slice io Q.m ic,.slice bo Q.N bc],.int .i64 id,Sg a bb cc dd] W (PutS Q m d id a bb cc dd W):=
 have h1:=h.hm
 have h2:=h.hN
 specQuadPut_any W Q io bo ic bc A off so m d (by omega) (by omega) h.hL h.hbo h.hso h.its h.bls id a bb cc dd
theorem UsQ.cut {Q:QD} {io bo:Option Addr} {bc A off:Nat} {so:Nat→Option Addr×Nat} {W:World} (h:UsQ Q io bo bc A off so W) (ic:Nat) (m d id:Int):Calls Try.prog 16 #[.agg #[.int .i64 m,.int .i64 d,.slice io Q.m ic,.slice bo Q.N bc],.int .i64 id] W (CutG Q m d id W):=
 have h1:=h.hm
 have h2:=h.hN
 implQuadCut_any W Q io bo ic bc A off so m d (by omega) (by omega) h.hc h.hL h.hbo h.ha h.its h.bls id
theorem us_told {Q:QD} {L:List WB} {I:List Value} {ok:Nat→Prop} {W:World} {lo ic A bc:Nat} {io:Option Addr} (hm:Q.m≤42) (hL:L.length≤2000) (hp:0<L.length) (hl:∀q∈L,q.l.length≤41) (hv:W.ownsRow lo 59 5 (.slice io Q.m ic) Q.m (itCs Q (List.range Q.m))) (hu:W.ownsRow lo 55 5 (.slice (some ⟨A,0,none⟩) L.length bc) L.length (wbCs L I)) (hI:IvP ok W L I):UsQ (qdOf Q L) io (some ⟨A,0,none⟩) bc A 0 (soL I) W:=by
 have hit:ItIn (qdOf Q L) W io (List.range Q.m):=by
   obtain⟨ao9,cap9,e9,hI9⟩:=ItIn.of (Q:=Q) (l:=List.range Q.m) (by rw[List.length_range];exact hv)
   rw[List.length_range] at e9
   cases e9
   exact hI9
 refine⟨hm,hL,fun i hi=>?_,fun _=>rfl,fun i hi e=>?_,?_,fun A o sp e=>(hv.lt A (by subst e;rfl)).2,hit,blIn_of hu hI⟩
 · have h1:=hl (L.getD i ⟨0,0,0,false,[]⟩) (by rw[List.getD_eq_getElem?_getD,List.getElem?_eq_getElem hi];exact List.getElem_mem hi)
   show(L.getD i ⟨0,0,0,false,[]⟩).l.length≤1048576
   omega
 · obtain⟨ao,c,e1,_,e3,_⟩:=ivP_at hI hi
   unfold soL at e⊢
   rw[e1] at e⊢
   exact e3 e
 · obtain⟨g,cap,e,_,_,h5,_⟩:=ownQ_form hu hp
   cases e
   exact h5
theorem put_told {Q:QD} {m d id a bb cc dd:Int} {u:Value} {lo hi:Nat} {W:World} (hput:PutOk Q m d id a bb cc dd) (h:AnsS true Q m d id a bb cc dd u lo hi W):∃(Qa:QD) (io:Option Addr) (ic A bc:Nat) (so:Nat→Option Addr×Nat) (j:Nat),u= .agg #[.int .i64 m,.int .i64 d,.slice io Qa.m ic,.slice (some ⟨A,0,none⟩) Qa.N bc]∧UsQ Qa io (some ⟨A,0,none⟩) bc A 0 so W∧Qa.m=Q.m+1∧qOk Qa m d=true∧j<Qa.m∧Qa.I j=id∧Qa.S j=(a,bb,cc,dd)∧cutB Qa m d id=true∧∀i,(delQ Qa j).I i=Q.I i∧(delQ Qa j).S i=Q.S i:=by
 rcases h with ⟨h,_⟩ | ⟨_,j,h2,h3,io,ic,A,bc,I,e,h4,h5,h6,h7,h8⟩
 · cases h
 · have hb:=hput.1
   have hq:=put_ok hb h2 h3
   unfold putB at hb
   rw[Bool.and_eq_true] at hb
   have hm:=(of_decide_eq_true hb.2).2.2.1
   have hj:j<Q.m+1:=by have:=h2.1;omega
   have hat:=insQ_at Q j id (a,bb,cc,dd)
   refine⟨qdOf (insQ Q j id (a,bb,cc,dd)) (putL Q m d id (a,bb,cc,dd) j),io,ic,A,bc,soL I,j,e,us_told (Q:=insQ Q j id (a,bb,cc,dd)) (by show Q.m+1≤42;omega) h3 (wrT_pos _ _ _ _) (putL_ll hb.1) h4 h5 h6,rfl,hq,hj,hat.1,hat.2,?_,fun i=>del_ins i⟩
   unfold cutB
   rw[hq,Bool.true_and,Bool.not_eq_true']
   exact decide_eq_false fun h=>h j hj hat.1
theorem cut_told {Q:QD} {m d id:Int} {u:Value} {lo hi j:Nat} {W:World} (hq:qOk Q m d=true) (hj:j<Q.m) (hji:Q.I j=id) (h:CnS true Q m d id u lo hi W):∃(Qb:QD) (io:Option Addr) (ic A bc:Nat) (so:Nat→Option Addr×Nat),u= .agg #[.int .i64 m,.int .i64 d,.slice io Qb.m ic,.slice (some ⟨A,0,none⟩) Qb.N bc]∧UsQ Qb io (some ⟨A,0,none⟩) bc A 0 so W∧Qb.m=Q.m-1∧qOk Qb m d=true∧∀i,Qb.I i=(delQ Q j).I i∧Qb.S i=(delQ Q j).S i:=by
 rcases h with ⟨h,_⟩ | ⟨_,j',h2,h3,io,ic,A,bc,I,e,h4,h5,h6,h7,h8⟩
 · cases h
 · have hits:=(qOk_all hq).2.2.1
   obtain rfl:=CutJ.one h2 ⟨hj,hji⟩ (rise_of hits)
   have hm:Q.m≤40:=(of_decide_eq_true hits).1
   exact⟨qdOf (delQ Q j') (cutL Q m d j'),io,ic,A,bc,soL I,e,us_told (Q:=delQ Q j') (by show Q.m-1≤42;omega) h3 (wrT_pos _ _ _ _) (cutL_ll hq) h4 h5 h6,rfl,cut_ok hq h2.1,fun i=>⟨rfl,rfl⟩⟩
theorem drawQuadPut_any (ao:Option Addr) (n cap:Nat) (cs:List Int) (w:World) (h:Code w ao n cs):Calls Try.prog 23 #[.slice ao n cap] w (fun r w' =>∃(v:Value) (z a b c d:Int),r= .returned (.tuple #[v,.int .i64 z,Sg a b c d])∧TqP 42 (fun _=>True) v w' ∧Below w.heap.size w w'):=by
 have B0:=(Blk.new w [.int .i64 0,.int .i64 0,.slice none 0 0,.slice none 0 0] 34 rfl).alloc (.cells #[.int .i64 0,.int .i64 0,.int .i64 0,.int .i64 0] 40)
 have B1:=Blk.new (w.alloc (.cells #[.int .i64 0,.int .i64 0,.slice none 0 0,.slice none 0 0] 34)) [.int .i64 0,.int .i64 0,.int .i64 0,.int .i64 0] 40 (g:=w.heap.size+1) (by simp)
 rw[show([.int .i64 0,.int .i64 0,.slice none 0 0,.slice none 0 0]:List Value).toArray=#[.int .i64 0,.int .i64 0,.slice none 0 0,.slice none 0 0] from rfl] at B0
 rw[show([.int .i64 0,.int .i64 0,.int .i64 0,.int .i64 0]:List Value).toArray=#[.int .i64 0,.int .i64 0,.int .i64 0,.int .i64 0] from rfl] at B1
 have HB:Below w.heap.size w ((w.alloc (.cells #[.int .i64 0,.int .i64 0,.slice none 0 0,.slice none 0 0] 34)).alloc (.cells #[.int .i64 0,.int .i64 0,.int .i64 0,.int .i64 0] 40)):=((Below.refl _ _).alloc (Nat.le_refl _) _).alloc (by simp) _
 have hcd:∀i,i<cs.length→∃b off,ao=some ⟨b,off,none⟩∧b<w.heap.size:=fun i hi=>by
   obtain⟨b,off,e,hb,_⟩:=h.bytes i hi
   exact⟨b,off,e,hb⟩
 have HCD:Hid (∀i,i<cs.length→∃b off,ao=some ⟨b,off,none⟩∧b<w.heap.size):=hcd
 clear hcd
 replace h:=h.below HB
 go_enter Try.func23,Try.ntmps23
 go_wp2_with fail
 refine(open_any ao n cap cs _ h).mono ?_
 rintro e w1 ⟨g,rfl,hG,R,hB⟩
 simp at hG
 have h0:w.heap.size≠g:=by omega
 have h1:w.heap.size+1≠g:=by omega
 replace B0:=B0.step hB
 replace B1:=B1.step hB
 have bl1:=B1.lt
 replace HB:Below w.heap.size w w1:=HB.trans (hB.mono HB.size)
 clear hB h
 go_wp2_with fail
 refine(quad_any g ao n cap cs _ R).mono ?_
 rintro e w2 ⟨v,rfl,T,R1,K1⟩
 replace B0:=B0.kept K1 h0
 replace B1:=B1.kept K1 h1
 replace HB:=HB.trans (K1.below (by omega) HB.size)
 have hg1:g<w1.heap.size:=R.lt
 clear R K1
 have bl2:=B1.lt
 have gl2:=R1.lt
 obtain⟨m1,d1,io1,n1,ic1,bo1,N1,bc1,rfl,_⟩:=T.form
 have X6:=Blk.new w2 [.int .i64 m1,.int .i64 d1,.slice io1 n1 ic1,.slice bo1 N1 bc1] 34 rfl
 rw[show([.int .i64 m1,.int .i64 d1,.slice io1 n1 ic1,.slice bo1 N1 bc1]:List Value).toArray=#[.int .i64 m1,.int .i64 d1,.slice io1 n1 ic1,.slice bo1 N1 bc1] from rfl] at X6
 have hBa:=(Below.refl w2.heap.size w2).alloc (Nat.le_refl _) (.cells #[.int .i64 m1,.int .i64 d1,.slice io1 n1 ic1,.slice bo1 N1 bc1] 34)
 have R:=R1.alloc (.cells #[.int .i64 m1,.int .i64 d1,.slice io1 n1 ic1,.slice bo1 N1 bc1] 34)
 replace B0:=B0.alloc (.cells #[.int .i64 m1,.int .i64 d1,.slice io1 n1 ic1,.slice bo1 N1 bc1] 34)
 replace B1:=B1.alloc (.cells #[.int .i64 m1,.int .i64 d1,.slice io1 n1 ic1,.slice bo1 N1 bc1] 34)
 replace HB:=HB.alloc HB.size (.cells #[.int .i64 m1,.int .i64 d1,.slice io1 n1 ic1,.slice bo1 N1 bc1] 34)
 have T2:TqP 42 (fun b=>w.heap.size+1<b∧b≠w2.heap.size∧b≠g) (.agg #[.int .i64 m1,.int .i64 d1,.slice io1 n1 ic1,.slice bo1 N1 bc1]) (w2.alloc (.cells #[.int .i64 m1,.int .i64 d1,.slice io1 n1 ic1,.slice bo1 N1 bc1] 34)):=(T.to (fun b hb hl=>⟨by omega,by omega,by omega⟩)).keep hBa.size (fun b _ hl=>hBa.block b hl)
 clear R1 T hBa
 go_upto_region 3 with fail
 generalize (w2.alloc (.cells #[.int .i64 m1,.int .i64 d1,.slice io1 n1 ic1,.slice bo1 N1 bc1] 34))=W3 at *
 have hdr:=(Below.refl W3.heap.size W3).drew
 have T3:=T2.keep hdr.size (fun b _ hl=>hdr.block b hl)
 refine kpR (P0:=w.heap.size) (P4:=w.heap.size+1) (T6:=w2.heap.size) (g:=g) (ao:=ao) (n:=n) (cap:=cap) (cs:=cs) (m1:=m1) (d1:=d1) (io1:=io1) (bo1:=bo1) (n1:=n1) (ic1:=ic1) (N1:=N1) (bc1:=bc1) rfl rfl rfl rfl rfl ⟨X6.drew,T3,⟨0,0,none,none,0,0,0,0,B0.drew,TqP.zero 0 0⟩,⟨0,0,0,0,B1.drew⟩,R.drew,⟨by omega,by omega,by omega,by omega⟩,HCD.out⟩ ?_
 rintro⟨tm,df⟩ Wz hz hdf hoff h6 hBz D
 simp only at hz hdf hoff
 obtain⟨z,h6⟩:∃z:Int,tm.getD 3 undef= .int .i64 z:=h6
 subst hdf
 have htm:=tmps_fold [11,12,13,14,15,3] tm _ hz hoff
 simp only[List.foldl,List.setIfInBounds_toArray,List.set_cons_zero,List.set_cons_succ,h6] at htm
 clear hz hoff
 generalize tm.getD 11 undef=sl0,tm.getD 12 undef=sl1,tm.getD 13 undef=sl2,tm.getD 14 undef=sl3,tm.getD 15 undef=sl4 at htm
 clear h6
 subst htm
 replace HB:=HB.trans hBz
 obtain⟨m,d,io,bo,n',ic,N,bc,F0,TF⟩:=D.res
 obtain⟨a,b,c,dd,F1⟩:=D.sg
 have o0:=F0.c 0 rfl;have o1:=F0.c 1 rfl;have o2:=F0.c 2 rfl;have o3:=F0.c 3 rfl
 have s0:=F1.c 0 rfl;have s1:=F1.c 1 rfl;have s2:=F1.c 2 rfl;have s3:=F1.c 3 rfl
 have TT:Hid (TqP 42 (fun _=>True) (.agg #[.int .i64 m,.int .i64 d,.slice io n' ic,.slice bo N bc]) Wz):=TF.to (fun _ _ _=>trivial)
 clear B0 B1 X6 F0 F1 hBz TF T2 T3 D R hdr
 go_wp2
 refine bodyPost_ret (v:= .tuple #[.agg #[.int .i64 m,.int .i64 d,.slice io n' ic,.slice bo N bc],.int .i64 z,.agg #[.int .i64 a,.int .i64 b,.int .i64 c,.int .i64 dd]]) (by simp[results,Try.results23,go_sem,o0,o1,o2,o3,s0,s1,s2,s3]) rfl ?_
 exact⟨_,z,a,b,c,dd,rfl,TT.out,HB⟩
theorem eqSpK (a b c d:Int) (w:World):(Op.equalIn 9998 38 (.agg #[.int .i64 a,.int .i64 b]) (.agg #[.int .i64 c,.int .i64 d])).run Try.prog w= .ok (a==c&&b==d) w:=by
 have u3:=Try.underlying2
 have a3' :=Try.isAgg2
 have z3:=Try.sizeOf2
 rw[show(9998:Nat)=9997+1 from rfl,Op.equalIn]
 simp only[Sem.run_bind,run_underlying Try.underlying38,Result.andThen_ok]
 go_simp
 by_cases h1:a=c
 · subst h1
   by_cases h0:b=d
   · subst h0
     simp
   · simp[h0]
 · simp[h1]
theorem eqSgK (a b c d p q r s:Int) (w:World):(Op.equalIn 9999 40 (.agg #[.int .i64 a,.int .i64 b,.int .i64 c,.int .i64 d]) (.agg #[.int .i64 p,.int .i64 q,.int .i64 r,.int .i64 s])).run Try.prog w= .ok ((a==p&&b==q)&&(c==r&&d==s)) w:=by
 have E1:=eqSpK a b p q
 have E2:=eqSpK c d r s
 have u3:=Try.underlying38
 have a3:=Try.isAgg38
 have z3:=Try.sizeOf38
 rw[show(9999:Nat)=9998+1 from rfl,Op.equalIn]
 simp only[Sem.run_bind,run_underlying Try.underlying40,Result.andThen_ok]
 go_simp
 clear E1 E2 u3 a3 z3
 by_cases h1:a=p<;>by_cases h2:b=q<;>by_cases h3:c=r<;>by_cases h4:d=s<;>simp[h1,h2,h3,h4]
theorem eqItK (i j a b c d p q r s:Int) (w:World):(Op.equalIn 10000 59 (.agg #[.int .i64 i,.int .i64 a,.int .i64 b,.int .i64 c,.int .i64 d]) (.agg #[.int .i64 j,.int .i64 p,.int .i64 q,.int .i64 r,.int .i64 s])).run Try.prog w= .ok (i==j&&((a==p&&b==q)&&(c==r&&d==s))) w:=by
 have E1:=eqSgK a b c d p q r s
 have u0:=Try.underlying2
 have a0:=Try.isAgg2
 have z0:=Try.sizeOf2
 have u3:=Try.underlying40
 have a3:=Try.isAgg40
 have z3:=Try.sizeOf40
 rw[show(10000:Nat)=9999+1 from rfl,Op.equalIn]
 simp only[Sem.run_bind,run_underlying Try.underlying59,Result.andThen_ok]
 go_simp
 clear E1 u0 a0 z0 u3 a3 z3
 by_cases h0:i=j<;>by_cases h1:a=p<;>by_cases h2:b=q<;>by_cases h3:c=r<;>by_cases h4:d=s<;>simp[h0,h1,h2,h3,h4]
theorem below_kp {w W:World} {B:Nat} (h:Below B w W):∀n,Below B w (W.drewN n)
 | 0=>h
 | n+1=>(below_kp h n).drew
theorem lawQuadKept_any (ao:Option Addr) (n cap:Nat) (cs:List Int) (w:World) (h:n≤1048576→Code w ao n cs):Calls Try.prog 6 #[.slice ao n cap] w (BoolP true w):=by
 by_cases hn:1048576<n
 · go_enter Try.func6,Try.ntmps6
   go_wp2_with fail
   refine(bigK_any ao n cap _ true (by simpa using hn)).mono ?_
   rintro e w1 ⟨rfl,hB⟩
   clear h
   go_wp2
   go_ret
   exact⟨rfl,hB⟩
 · have hc :=h (by omega)
   clear h
   go_enter Try.func6,Try.ntmps6
   go_wp2_with fail
   refine(bigK_any ao n cap _ false (by simpa using hn)).mono ?_
   rintro e w1 ⟨rfl,HB⟩
   replace hc:=hc.below HB
   go_wp2_with fail
   refine(drawQuadPut_any ao n cap cs _ hc).mono ?_
   rintro e w2 ⟨v,id,sa,sb,sc,sd,rfl,T,hB⟩
   replace HB:=HB.trans (hB.mono HB.size)
   clear hB hc hn
   obtain⟨Q,m,d,io,bo,ic,bc,A,off,so,rfl,hm,hN,hL,hbo,hso,hcap,hao,hS,hBl⟩:=T.use
   have U:UsQ Q io bo bc A off so w2:=⟨hm,hN,hL,hbo,hso,hcap,hao,hS,hBl⟩
   clear T hm hN hL hbo hso hcap hao hS hBl
   obtain⟨okn,hokn⟩:∃okn:Bool,okn=true↔PutOk Q m d id sa sb sc sd:=by
     by_cases h:PutOk Q m d id sa sb sc sd
     · exact⟨true,by simp[h]⟩
     · exact⟨false,by simp[h]⟩
   have HOK:Hid (okn=true↔PutOk Q m d id sa sb sc sd):=hokn
   clear hokn
   have B3:=(Blk.new w2 [.int .i64 m,.int .i64 d,.slice io Q.m ic,.slice bo Q.N bc] 34 rfl).alloc (.cells #[.int .i64 sa,.int .i64 sb,.int .i64 sc,.int .i64 sd] 40)
   have B5:=Blk.new (w2.alloc (.cells #[.int .i64 m,.int .i64 d,.slice io Q.m ic,.slice bo Q.N bc] 34)) [.int .i64 sa,.int .i64 sb,.int .i64 sc,.int .i64 sd] 40 (g:=w2.heap.size+1) (by simp)
   rw[show([.int .i64 m,.int .i64 d,.slice io Q.m ic,.slice bo Q.N bc]:List Value).toArray=#[.int .i64 m,.int .i64 d,.slice io Q.m ic,.slice bo Q.N bc] from rfl] at B3
   rw[show([.int .i64 sa,.int .i64 sb,.int .i64 sc,.int .i64 sd]:List Value).toArray=#[.int .i64 sa,.int .i64 sb,.int .i64 sc,.int .i64 sd] from rfl] at B5
   have hB:Below w2.heap.size w2 ((w2.alloc (.cells #[.int .i64 m,.int .i64 d,.slice io Q.m ic,.slice bo Q.N bc] 34)).alloc (.cells #[.int .i64 sa,.int .i64 sb,.int .i64 sc,.int .i64 sd] 40)):=((Below.refl _ _).alloc (Nat.le_refl _) _).alloc (by simp) _
   replace U:=U.step hB
   replace HB:=HB.trans (hB.mono HB.size)
   clear hB
   go_upto_region 4 with fail
   generalize ((w2.alloc (.cells #[.int .i64 m,.int .i64 d,.slice io Q.m ic,.slice bo Q.N bc] 34)).alloc (.cells #[.int .i64 sa,.int .i64 sb,.int .i64 sc,.int .i64 sd] 40))=W3 at *
   generalize w2.heap.size+1=T5 at *
   generalize w2.heap.size=T3 at *
   have x0:=B3.c 0 rfl;have x1:=B3.c 1 rfl;have x2:=B3.c 2 rfl;have x3:=B3.c 3 rfl
   have y0:=B5.c 0 rfl;have y1:=B5.c 1 rfl;have y2:=B5.c 2 rfl;have y3:=B5.c 3 rfl
   go_wp2_with fail
   refine(U.put ic m d id sa sb sc sd).mono ?_
   rintro r w4 hG
   obtain⟨u,rfl,hA,hB⟩:=ans_of_g HOK.out hG
   replace HB:=HB.trans (hB.mono HB.size)
   replace B3:=B3.step hB
   replace B5:=B5.step hB
   replace U:=U.step hB
   clear hB hG x0 x1 x2 x3 y0 y1 y2 y3
   have x0:=B3.c 0 rfl;have x1:=B3.c 1 rfl;have x2:=B3.c 2 rfl;have x3:=B3.c 3 rfl
   have y0:=B5.c 0 rfl;have y1:=B5.c 1 rfl;have y2:=B5.c 2 rfl;have y3:=B5.c 3 rfl
   cases okn with
   | false=>
     obtain rfl:u= .agg #[.int .i64 0,.int .i64 0,.slice none 0 0,.slice none 0 0]:=by
       rcases hA with ⟨_,h⟩ | ⟨h,_⟩
       · exact h
       · cases h
     clear hA
     have B6:=Blk.new w4 [.int .i64 0,.int .i64 0,.slice none 0 0,.slice none 0 0] 34 rfl
     rw[show([.int .i64 0,.int .i64 0,.slice none 0 0,.slice none 0 0]:List Value).toArray=#[.int .i64 0,.int .i64 0,.slice none 0 0,.slice none 0 0] from rfl] at B6
     have hB:Below w4.heap.size w4 (w4.alloc (.cells #[.int .i64 0,.int .i64 0,.slice none 0 0,.slice none 0 0] 34)):=(Below.refl _ _).alloc (Nat.le_refl _) _
     replace HB:=HB.trans (hB.mono HB.size)
     replace B3:=B3.step hB
     replace B5:=B5.step hB
     replace U:=U.step hB
     clear hB x0 x1 x2 x3 y0 y1 y2 y3
     go_upto_region 5 with fail
     generalize (w4.alloc (.cells #[.int .i64 0,.int .i64 0,.slice none 0 0,.slice none 0 0] 34))=W5 at *
     generalize w4.heap.size=T6 at *
     have x0:=B3.c 0 rfl;have x1:=B3.c 1 rfl;have x2:=B3.c 2 rfl;have x3:=B3.c 3 rfl
     have y0:=B5.c 0 rfl;have y1:=B5.c 1 rfl;have y2:=B5.c 2 rfl;have y3:=B5.c 3 rfl
     go_wp2_with fail
     refine(U.putS ic m d id sa sb sc sd).mono ?_
     rintro r w6 hG
     obtain⟨u,rfl,hA,hB⟩:=ans_of_s HOK.out hG
     obtain rfl:u= .agg #[.int .i64 0,.int .i64 0,.slice none 0 0,.slice none 0 0]:=by
       rcases hA with ⟨_,h⟩ | ⟨h,_⟩
       · exact h
       · cases h
     replace HB:=HB.trans (hB.mono HB.size)
     replace B6:=B6.step hB
     clear hB hG hA x0 x1 x2 x3 y0 y1 y2 y3 B3 B5 U HOK
     replace B6:=B6.alloc (.cells #[.int .i64 0,.int .i64 0,.slice none 0 0,.slice none 0 0] 34)
     replace HB:=HB.alloc HB.size (.cells #[.int .i64 0,.int .i64 0,.slice none 0 0,.slice none 0 0] 34)
     go_upto_region 6 with fail
     generalize (w6.alloc (.cells #[.int .i64 0,.int .i64 0,.slice none 0 0,.slice none 0 0] 34))=W7 at *
     have x3:=B6.c 3 rfl
     go_wp2
     go_ret
     exact⟨rfl,HB⟩
   | true=>
     have hput:=HOK.out.1 rfl
     have HPUT:Hid (PutOk Q m d id sa sb sc sd):=hput
     clear HOK
     obtain⟨Qa,ioa,ica,Aa,bca,soa,j,rfl,Ua,hma,hqa,hja,hia,hsa,hcb,hdel⟩:=put_told hput hA.s
     have HMA:Hid (Qa.m=Q.m+1):=hma
     have HQA:Hid (qOk Qa m d=true):=hqa
     have HJA:Hid (j<Qa.m∧Qa.I j=id∧Qa.S j=(sa,sb,sc,sd)):=⟨hja,hia,hsa⟩
     have HCB:Hid (cutB Qa m d id=true):=hcb
     have HDL:Hid (∀i,(delQ Qa j).I i=Q.I i∧(delQ Qa j).S i=Q.S i):=hdel
     clear hA hput hma hqa hja hia hsa hcb hdel
     have B6:=Blk.new w4 [.int .i64 m,.int .i64 d,.slice ioa Qa.m ica,.slice (some ⟨Aa,0,none⟩) Qa.N bca] 34 rfl
     rw[show([.int .i64 m,.int .i64 d,.slice ioa Qa.m ica,.slice (some ⟨Aa,0,none⟩) Qa.N bca]:List Value).toArray=#[.int .i64 m,.int .i64 d,.slice ioa Qa.m ica,.slice (some ⟨Aa,0,none⟩) Qa.N bca] from rfl] at B6
     have hB:Below w4.heap.size w4 (w4.alloc (.cells #[.int .i64 m,.int .i64 d,.slice ioa Qa.m ica,.slice (some ⟨Aa,0,none⟩) Qa.N bca] 34)):=(Below.refl _ _).alloc (Nat.le_refl _) _
     replace HB:=HB.trans (hB.mono HB.size)
     replace B3:=B3.step hB
     replace B5:=B5.step hB
     replace U:=U.step hB
     replace Ua:=Ua.step hB
     clear hB x0 x1 x2 x3 y0 y1 y2 y3
     go_upto_region 5 with fail
     generalize (w4.alloc (.cells #[.int .i64 m,.int .i64 d,.slice ioa Qa.m ica,.slice (some ⟨Aa,0,none⟩) Qa.N bca] 34))=W5 at *
     generalize w4.heap.size=T6 at *
     have x0:=B3.c 0 rfl;have x1:=B3.c 1 rfl;have x2:=B3.c 2 rfl;have x3:=B3.c 3 rfl
     have y0:=B5.c 0 rfl;have y1:=B5.c 1 rfl;have y2:=B5.c 2 rfl;have y3:=B5.c 3 rfl
     go_wp2_with fail
     refine(U.putS ic m d id sa sb sc sd).mono ?_
     rintro r w6 hG
     obtain⟨u,rfl,hA,hB⟩:=ans_of_s (okn:=true) (Q:=Q) (m:=m) (d:=d) (id:=id) (a:=sa) (bb:=sb) (cc:=sc) (dd:=sd) ⟨fun _=>HPUT.out,fun _=>rfl⟩ hG
     obtain⟨m9,d9,io9,n9,ic9,bo9,N9,bc9,rfl⟩:=hA.form
     replace HB:=HB.trans (hB.mono HB.size)
     replace B3:=B3.step hB
     replace B5:=B5.step hB
     replace B6:=B6.step hB
     replace U:=U.step hB
     replace Ua:=Ua.step hB
     clear hB hG hA x0 x1 x2 x3 y0 y1 y2 y3
     have hB:Below w6.heap.size w6 (w6.alloc (.cells #[.int .i64 m9,.int .i64 d9,.slice io9 n9 ic9,.slice bo9 N9 bc9] 34)):=(Below.refl _ _).alloc (Nat.le_refl _) _
     replace HB:=HB.trans (hB.mono HB.size)
     replace B3:=B3.step hB
     replace B5:=B5.step hB
     replace B6:=B6.step hB
     replace U:=U.step hB
     replace Ua:=Ua.step hB
     clear hB
     go_upto_region 6 with fail
     generalize (w6.alloc (.cells #[.int .i64 m9,.int .i64 d9,.slice io9 n9 ic9,.slice bo9 N9 bc9] 34))=W7 at *
     obtain⟨mq,hmq⟩:∃mq,Q.m=mq:=⟨_,rfl⟩
     have HMQ:Hid (Q.m=mq):=hmq
     rw[hmq] at B3
     clear hmq
     have hm42:mq≤42:=by rw[←HMQ.out];exact U.hm
     obtain⟨ma,hmm⟩:∃ma,ma=mq+1:=⟨_,rfl⟩
     have HMM:Hid (Qa.m=ma):=by show Qa.m=ma;rw[hmm,HMA.out,HMQ.out]
     have hw1:IntKind.i64.wrap ((mq:Int)+1)=(ma:Int):=by rw[IntKind.wrap_i64];omega
     have HMI:Hid ((ma:Int)=mq+1):=by show _=_;omega
     have hma43:ma≤43:=by omega
     clear hmm
     have x0:=B6.c 0 rfl;have x1:=B6.c 1 rfl;have x2:=B6.c 2 rfl;have x3:=B6.c 3 rfl
     have y2:=B3.c 2 rfl
     go_wp2_with fail
     refine(Ua.ok ica m d).mono ?_
     rintro r w8 ⟨rfl,hB⟩
     rw[HQA.out]
     replace HB:=HB.trans (hB.mono HB.size)
     replace B3:=B3.step hB
     replace B5:=B5.step hB
     replace B6:=B6.step hB
     replace U:=U.step hB
     replace Ua:=Ua.step hB
     clear hB x0 x1 x2 x3 y2
     have B6a:Hid (Blk w8 T6 [.int .i64 m,.int .i64 d,.slice ioa Qa.m ica,.slice (some ⟨Aa,0,none⟩) Qa.N bca]):=B6
     rw[HMM.out] at B6
     have x2:=B6.c 2 rfl
     have y2:=B3.c 2 rfl
     have z0:=B5.c 0 rfl;have z1:=B5.c 1 rfl;have z2:=B5.c 2 rfl;have z3:=B5.c 3 rfl
     go_wp2_with fail
     go_loopw [10,11] (fun hv i wr=>∃(c:Nat) (t:Bool),c≤ma∧i= .int .i64 c∧hv= .bool t∧(j<c→t=true)∧Below w8.heap.size w8 wr) (fun _ i _=>ma-(intOf i).toNat)
     case atStart=>exact⟨0,false,by omega,rfl,rfl,fun h=>absurd h (Nat.not_lt_zero j),Below.refl _ _⟩
     case round=>
       clear x2 y2 z0 z1 z2 z3
       obtain⟨c,t,hcm,rfl,rfl,ht,hB⟩:=hrel
       have HT:Hid (j<c→t=true):=ht
       have HBw:Hid (Below w8.heap.size w8 wr):=hB
       clear ht
       replace B3:=B3.step hB
       replace B5:=B5.step hB
       replace B6:=B6.step hB
       have x2:=B6.c 2 rfl
       have z0:=B5.c 0 rfl;have z1:=B5.c 1 rfl;have z2:=B5.c 2 rfl;have z3:=B5.c 3 rfl
       by_cases hlt:c<ma
       · obtain⟨A1,o1,rfl,hA1,q0,q1,q2,q3,q4⟩:=(Ua.its.step hB) c c (by rw[HMM.out];simp[hlt])
         have hcI:(c:Int)<ma:=by omega
         clear hB
         cases t
         · have E:=eqItK (Qa.I c) id (Qa.S c).1 (Qa.S c).2.1 (Qa.S c).2.2.1 (Qa.S c).2.2.2 sa sb sc sd
           obtain⟨tt,htt⟩:∃tt,(Qa.I c==id&&(((Qa.S c).1==sa&&(Qa.S c).2.1==sb)&&((Qa.S c).2.2.1==sc&&(Qa.S c).2.2.2==sd)))=tt:=⟨_,rfl⟩
           have HTT:Hid (j<c+1→tt=true):=fun h=>by
             have h1:¬j<c:=fun h=>by cases HT.out h
             obtain rfl:j=c:=by omega
             rw[←htt,HJA.out.2.1,HJA.out.2.2]
             simp
           rw[htt] at E
           clear htt
           generalize Qa.I c=ic1 at *
           generalize (Qa.S c).1=s1 at *
           generalize (Qa.S c).2.1=s2 at *
           generalize (Qa.S c).2.2.1=s3 at *
           generalize (Qa.S c).2.2.2=s4 at *
           go_upto_region 14 with fail
           refine wp_region_qw (by kernel_rfl) (by kernel_rfl) ?_
           intro W qN qS
           repeat (refine qS _ _ _ (fun K hK=>?_);go_simp;refine hK _ ?_;clear hK K)
           refine qN _ (fun nq=>?_)
           clear qN qS
           go_wp2
           go_roundw
           case rel=>exact⟨c+1,tt,by omega,by go_num,rfl,HTT.out,below_kp HBw.out nq⟩
           case measure=>simp[intOf];omega
         · go_upto_region 14 with fail
           refine wp_region_qw (by kernel_rfl) (by kernel_rfl) ?_
           intro W qN qS
           repeat (refine qS _ _ _ (fun K hK=>?_);go_simp;refine hK _ ?_;clear hK K)
           refine qN _ (fun nq=>?_)
           clear qN qS
           go_wp2
           go_roundw
           case rel=>exact⟨c+1,true,by omega,by go_num,rfl,fun _=>rfl,below_kp HBw.out nq⟩
           case measure=>simp[intOf];omega
       · obtain rfl:c=ma:=by omega
         obtain rfl:t=true:=HT.out (by have:=HJA.out.1;rw[HMM.out] at this;exact this)
         replace HB:=HB.trans (hB.mono HB.size)
         replace U:=U.step hB
         replace Ua:=Ua.step hB
         replace B6a:Blk wr T6 [.int .i64 m,.int .i64 d,.slice ioa Qa.m ica,.slice (some ⟨Aa,0,none⟩) Qa.N bca]:=B6a.out.step hB
         clear hB HT HBw x2 z0 z1 z2 z3 B5 B6
         have x0:=B6a.c 0 rfl;have x1:=B6a.c 1 rfl;have x2:=B6a.c 2 rfl;have x3:=B6a.c 3 rfl
         have hlf:¬((c:Int)<((Qa.m:Nat):Int)):=by rw[HMM.out];omega
         obtain⟨wk,hwk⟩:∃wk,wk=wr:=⟨_,rfl⟩
         subst hwk
         go_wp2_with fail
         refine(Ua.cut ica m d id).mono ?_
         rintro r w9 hG
         obtain⟨u,rfl,hA,hB⟩:=cn_of_g (okn:=true) HCB.out hG
         obtain⟨Qb,iob,icb,Ab,bcb,sob,rfl,Ub,hmb,hqb,hbe⟩:=cut_told HQA.out HJA.out.1 HJA.out.2.1 hA.s
         have HQB:Hid (qOk Qb m d=true):=hqb
         have HBE:Hid (∀i,Qb.I i=Q.I i∧Qb.S i=Q.S i):=fun i=>⟨(hbe i).1.trans (HDL.out i).1,(hbe i).2.trans (HDL.out i).2⟩
         have HMB:Hid (Qb.m=mq):=by
           have h1:=HMA.out
           have h2:=HMQ.out
           show Qb.m=mq
           omega
         replace HB:=HB.trans (hB.mono HB.size)
         replace B3:=B3.step hB
         replace U:=U.step hB
         clear hB hG hA hmb hqb hbe x0 x1 x2 x3 B6a Ua HCB HQA HJA HMA HDL HPUT
         have B12:=Blk.new w9 [.int .i64 m,.int .i64 d,.slice iob Qb.m icb,.slice (some ⟨Ab,0,none⟩) Qb.N bcb] 34 rfl
         rw[show([.int .i64 m,.int .i64 d,.slice iob Qb.m icb,.slice (some ⟨Ab,0,none⟩) Qb.N bcb]:List Value).toArray=#[.int .i64 m,.int .i64 d,.slice iob Qb.m icb,.slice (some ⟨Ab,0,none⟩) Qb.N bcb] from rfl] at B12
         have hB:Below w9.heap.size w9 (w9.alloc (.cells #[.int .i64 m,.int .i64 d,.slice iob Qb.m icb,.slice (some ⟨Ab,0,none⟩) Qb.N bcb] 34)):=(Below.refl _ _).alloc (Nat.le_refl _) _
         replace HB:=HB.trans (hB.mono HB.size)
         replace B3:=B3.step hB
         replace U:=U.step hB
         replace Ub:=Ub.step hB
         clear hB
         go_upto_region 16 with fail
         generalize (w9.alloc (.cells #[.int .i64 m,.int .i64 d,.slice iob Qb.m icb,.slice (some ⟨Ab,0,none⟩) Qb.N bcb] 34))=W10 at *
         generalize w9.heap.size=T12 at *
         have x0:=B12.c 0 rfl;have x1:=B12.c 1 rfl;have x2:=B12.c 2 rfl;have x3:=B12.c 3 rfl
         go_wp2_with fail
         refine(Ub.ok icb m d).mono ?_
         rintro r w11 ⟨rfl,hB⟩
         rw[HQB.out]
         replace HB:=HB.trans (hB.mono HB.size)
         replace B3:=B3.step hB
         replace B12:=B12.step hB
         replace U:=U.step hB
         replace Ub:=Ub.step hB
         clear hB x0 x1 x2 x3 HQB
         rw[HMB.out] at B12
         have x2:=B12.c 2 rfl
         have y2:=B3.c 2 rfl
         go_wp2_with fail
         go_loopw [14] (fun i wr=>∃k:Nat,k≤mq∧i= .int .i64 k∧Below w11.heap.size w11 wr) (fun i _=>mq-(intOf i).toNat)
         case atStart=>exact⟨0,by omega,rfl,Below.refl _ _⟩
         case round=>
           clear x2 y2
           obtain⟨k,hkm,rfl,hB⟩:=hrel
           have HBw:Hid (Below w11.heap.size w11 wr):=hB
           replace HB:=HB.trans (hB.mono HB.size)
           replace B3:=B3.step hB
           replace B12:=B12.step hB
           have x2:=B12.c 2 rfl
           have y2:=B3.c 2 rfl
           by_cases hlt:k<mq
           · obtain⟨A1,o1,rfl,hA1,q0,q1,q2,q3,q4⟩:=(Ub.its.step hB) k k (by rw[HMB.out];simp[hlt])
             obtain⟨A2,o2,rfl,hA2,r0,r1,r2,r3,r4⟩:=(U.its.step hB) k k (by rw[HMQ.out];simp[hlt])
             rw[(HBE.out k).1] at q0
             rw[(HBE.out k).2] at q1 q2 q3 q4
             have hkI:(k:Int)<mq:=by omega
             have E:=eqItK (Q.I k) (Q.I k) (Q.S k).1 (Q.S k).2.1 (Q.S k).2.2.1 (Q.S k).2.2.2 (Q.S k).1 (Q.S k).2.1 (Q.S k).2.2.1 (Q.S k).2.2.2
             simp only[beq_self_eq_true,Bool.and_self] at E
             clear hB HB
             generalize Q.I k=ic1 at *
             generalize (Q.S k).1=s1 at *
             generalize (Q.S k).2.1=s2 at *
             generalize (Q.S k).2.2.1=s3 at *
             generalize (Q.S k).2.2.2=s4 at *
             go_upto_region 21 with fail
             refine wp_region_qw (by kernel_rfl) (by kernel_rfl) ?_
             intro W qN qS
             repeat (refine qS _ _ _ (fun K hK=>?_);go_simp;refine hK _ ?_;clear hK K)
             refine qN _ (fun nq=>?_)
             clear qN qS
             go_wp2
             go_roundw
             case rel=>exact⟨k+1,by omega,by go_num,below_kp HBw.out nq⟩
             case measure=>simp[intOf];omega
           · obtain rfl:k=mq:=by omega
             clear hB HBw U Ub
             go_wp2
             go_ret
             exact⟨rfl,HB⟩
open Go.ChangeShapes Go.WideShapes Go.ChangeAt Go.RowKit Go.Joins
theorem jn_laid:laidOutB Try.pinned.checked.prog=true:=by kernel_rfl
theorem jn_maps:mapsRowed Try.pinned.checked.prog=true:=by kernel_rfl
theorem jn_enter:Try.pinned.checked.prog.mayEnter=true:=by kernel_rfl
theorem jn_heard:Try.pinned.checked.prog.stopsHeard=true:=by kernel_rfl
end Go.Proofs.Ytjhapeidafbncaa
