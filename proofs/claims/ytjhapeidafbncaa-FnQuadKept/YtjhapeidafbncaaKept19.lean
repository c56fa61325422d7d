/- Part 19 of the walks that the proof leans on. -/
import Derived.Test.YtjhapeidafbncaaKept18
import Derived.Test.YtjhapeidafbncaaKept7
import Derived.Test.YtjhapeidafbncaaKept15
set_option maxRecDepth 100000
set_option maxHeartbeats 16000000
namespace Go.Proofs.Ytjhapeidafbncaa
open Go.RowKit
def farK (j:Int):Int:=if j=0 then 1 else if j=1 then 1000 else if j=2 then 50000 else 160000
theorem farK_le (j:Int):1≤farK j∧farK j≤160000:=by
 unfold farK
 split
 · omega
 · split
   · omega
   · split<;>omega
theorem far_mul {k x:Int} (hk:1≤k∧k≤160000) (hx: -6≤x) (hx2:x≤7): -960000≤k*x∧k*x≤1120000:=by
 constructor
 · have h1:k*(-6)≤k*x:=Int.mul_le_mul_of_nonneg_left hx (by omega)
   omega
 · have h1:k*x≤k*7:=Int.mul_le_mul_of_nonneg_left hx2 (by omega)
   omega
theorem farSeg_any (g:Nat) (ao:Option Addr) (n cap:Nat) (cs:List Int) (w:World) (h:Rdr w g ao n cap cs) :
   Calls Try.prog 55 #[.pointer (some ⟨g,0,none⟩)] w (RdP g ao n cap cs IsSg w):=by
 have hg:=h.lt
 have hne:w.heap.size≠g:=by omega
 have B:=Blk.new w [.int .i64 0,.int .i64 0,.int .i64 0,.int .i64 0] 40 rfl
 rw[show([.int .i64 0,.int .i64 0,.int .i64 0,.int .i64 0]:List Value).toArray=#[.int .i64 0,.int .i64 0,.int .i64 0,.int .i64 0] from rfl] at B
 have R:=h.alloc (.cells #[.int .i64 0,.int .i64 0,.int .i64 0,.int .i64 0] 40)
 have K:=(Kept.refl g w).alloc (.cells #[.int .i64 0,.int .i64 0,.int .i64 0,.int .i64 0] 40)
 clear h
 go_enter Try.func55,Try.ntmps55
 go_wp2_with fail
 refine(once_any 3 (by decide) (by decide) g ao n cap cs _ R).mono ?_
 rintro e w1 ⟨_,rfl,⟨b,rfl⟩,R1,K1⟩
 replace K:=K.trans K1
 replace B:=B.kept K1 hne
 clear R K1
 have R:=R1
 clear R1
 cases b
 rotate_left
 · go_wp2_with fail
   refine(seg_any g ao n cap cs _ R).mono ?_
   rintro e w2 ⟨_,rfl,⟨a,b,c,d,rfl,ia,ib,ic,id⟩,R1,K1⟩
   replace K:=K.trans K1
   replace B:=B.kept K1 hne
   clear R K1
   have R:=R1
   clear R1
   have o0:=B.c 0 rfl;have f0:=B.f 0 rfl;have o1:=B.c 1 rfl;have f1:=B.f 1 rfl;have o2:=B.c 2 rfl;have f2:=B.f 2 rfl;have o3:=B.c 3 rfl;have f3:=B.f 3 rfl;have ol:=B.lt
   clear B
   go_wp2
   refine bodyPost_ret (v:= .agg #[.int .i64 a,.int .i64 b,.int .i64 c,.int .i64 d]) (by simp[results,Try.results55,go_sem,o0,o1,o2,o3]) rfl ?_
   exact⟨_,rfl,⟨_,_,_,_,rfl,ia,ib,ic,id⟩,(((R.setN (by exact hg) _).setN (by exact hg) _).setN (by exact hg) _).setN (by exact hg) _,(((K.setN (by simp) (by simp;omega) _).setN (by simp) (by simp;omega) _).setN (by simp) (by simp;omega) _).setN (by simp) (by simp;omega) _⟩
 · have G:=Blk.new w1 [.int .i64 1,.int .i64 1000,.int .i64 50000,.int .i64 160000] 2 rfl
   rw[show([.int .i64 1,.int .i64 1000,.int .i64 50000,.int .i64 160000]:List Value).toArray=#[.int .i64 1,.int .i64 1000,.int .i64 50000,.int .i64 160000] from rfl] at G
   have hgl:=R.lt
   have hgn:w1.heap.size≠g:=by omega
   replace B:=B.alloc (.cells #[.int .i64 1,.int .i64 1000,.int .i64 50000,.int .i64 160000] 2)
   replace R:=R.alloc (.cells #[.int .i64 1,.int .i64 1000,.int .i64 50000,.int .i64 160000] 2)
   replace K:=K.alloc (.cells #[.int .i64 1,.int .i64 1000,.int .i64 50000,.int .i64 160000] 2)
   go_wp2_with fail
   refine(below_any 4 (by decide) (by decide) g ao n cap cs _ R).mono ?_
   rintro e w2 ⟨_,rfl,⟨j,rfl,j0,j1⟩,R1,K1⟩
   replace K:=K.trans K1
   replace B:=B.kept K1 hne
   replace G:=G.kept K1 hgn
   clear R K1
   have R:=R1
   clear R1
   obtain⟨jn,rfl⟩:∃jn:Nat,j=(jn:Int):=⟨j.toNat,by omega⟩
   have hj4:jn<4:=by omega
   have hG:w2.cell? ⟨w1.heap.size,jn,none⟩=some (.int .i64 (farK (jn:Int))):=by
     rcases(show jn=0∨jn=1∨jn=2∨jn=3 by omega) with e | e | e | e<;>subst e
     · exact G.c 0 rfl
     · exact G.c 1 rfl
     · exact G.c 2 rfl
     · exact G.c 3 rfl
   have hfk:=farK_le (jn:Int)
   obtain⟨k,hk⟩:∃k,farK (jn:Int)=k:=⟨_,rfl⟩
   rw[hk] at hG hfk
   have hj4I:(jn:Int)<4:=by omega
   clear G hk j0 j1
   go_wp2_with fail
   refine(spot_any g ao n cap cs _ R).mono ?_
   rintro e w3 ⟨_,rfl,⟨x,y,rfl,x0,x1,y0,y1⟩,R1,K1⟩
   replace K:=K.trans K1
   replace B:=B.kept K1 hne
   clear R K1
   have R:=R1
   clear R1
   have A4:=Blk.new w3 [.int .i64 x,.int .i64 y] 38 rfl
   rw[show([.int .i64 x,.int .i64 y]:List Value).toArray=#[.int .i64 x,.int .i64 y] from rfl] at A4
   have h3g:w3.heap.size≠g:=by have:=R.lt;omega
   replace B:=B.alloc (.cells #[.int .i64 x,.int .i64 y] 38)
   replace R:=R.alloc (.cells #[.int .i64 x,.int .i64 y] 38)
   replace K:=K.alloc (.cells #[.int .i64 x,.int .i64 y] 38)
   go_upto_region 5 with fail
   generalize (w3.alloc (.cells #[.int .i64 x,.int .i64 y] 38))=W4 at *
   go_wp2_with fail
   refine(spot_any g ao n cap cs _ R).mono ?_
   rintro e w5 ⟨_,rfl,⟨u,v,rfl,u0,u1,v0,v1⟩,R1,K1⟩
   replace K:=K.trans K1
   replace B:=B.kept K1 hne
   replace A4:=A4.kept K1 h3g
   clear R K1
   have R:=R1
   clear R1
   have A5:=Blk.new w5 [.int .i64 u,.int .i64 v] 38 rfl
   rw[show([.int .i64 u,.int .i64 v]:List Value).toArray=#[.int .i64 u,.int .i64 v] from rfl] at A5
   have h5g:w5.heap.size≠g:=by have:=R.lt;omega
   have h35:w3.heap.size<w5.heap.size:=A4.lt
   have hs5:w.heap.size<w5.heap.size:=B.lt
   have hgs:g<w5.heap.size:=R.lt
   replace B:=B.alloc (.cells #[.int .i64 u,.int .i64 v] 38)
   replace R:=R.alloc (.cells #[.int .i64 u,.int .i64 v] 38)
   replace K:=K.alloc (.cells #[.int .i64 u,.int .i64 v] 38)
   replace A4:=A4.alloc (.cells #[.int .i64 u,.int .i64 v] 38)
   go_upto_region 6 with fail
   generalize (w5.alloc (.cells #[.int .i64 u,.int .i64 v] 38))=W6 at *
   have EQ:=eqSpo x y u v
   by_cases hxu:x=u
   rotate_left
   · have dx:decide (x=u)=false:=decide_eq_false hxu
     have a0:=A4.c 0 rfl;have a1:=A4.c 1 rfl;have c0:=A5.c 0 rfl;have c1:=A5.c 1 rfl
     go_upto_region 8 with fail
     clear EQ dx a0 a1 c0 c1 hxu
     have mx:=far_mul hfk (x:=x) (by omega) (by omega)
     have my:=far_mul hfk (x:=y) (by omega) (by omega)
     have mu:=far_mul hfk (x:=u) (by omega) (by omega)
     have mv:=far_mul hfk (x:=v) (by omega) (by omega)
     obtain⟨kx,hkx⟩:∃z,k*x=z:=⟨_,rfl⟩
     obtain⟨ky,hky⟩:∃z,k*y=z:=⟨_,rfl⟩
     obtain⟨ku,hku⟩:∃z,k*(u)=z:=⟨_,rfl⟩
     obtain⟨kv,hkv⟩:∃z,k*v=z:=⟨_,rfl⟩
     rw[hkx] at mx
     rw[hky] at my
     rw[hku] at mu
     rw[hkv] at mv
     have wx:IntKind.i64.wrap (k*x)=kx:=by rw[hkx,IntKind.wrap_i64];omega
     have wy:IntKind.i64.wrap (k*y)=ky:=by rw[hky,IntKind.wrap_i64];omega
     have wu:IntKind.i64.wrap (k*(u))=ku:=by rw[hku,IntKind.wrap_i64];omega
     have wv:IntKind.i64.wrap (k*v)=kv:=by rw[hkv,IntKind.wrap_i64];omega
     obtain⟨sa,sb,sc,sd,sk,isa,isb,isc,isd,SO⟩:=segOf_ex kx ky ku kv (by constructor<;>omega) (by constructor<;>omega) (by constructor<;>omega) (by constructor<;>omega)
     have a0:=A4.c 0 rfl;have a1:=A4.c 1 rfl;have c0:=A5.c 0 rfl;have c1:=A5.c 1 rfl
     clear hkx hky hku hkv mx my mu mv A4 A5
     go_wp2_with fail
     refine(SO W6).mono ?_
     rintro e w7 ⟨rfl,hB7⟩
     clear SO a0 a1 c0 c1 wx wy wu wv
     replace B:=B.step hB7
     replace R:=R.step hB7
     replace K:=K.trans (Kept.of hB7)
     clear hB7
     have B8:=B.alloc (.cells #[.int .i64 sa,.int .i64 sb,.int .i64 sc,.int .i64 sd] 40)
     have R8:=R.alloc (.cells #[.int .i64 sa,.int .i64 sb,.int .i64 sc,.int .i64 sd] 40)
     have K8:=K.alloc (.cells #[.int .i64 sa,.int .i64 sb,.int .i64 sc,.int .i64 sd] 40)
     have D8:=Blk.new w7 [.int .i64 sa,.int .i64 sb,.int .i64 sc,.int .i64 sd] 40 rfl
     rw[show([.int .i64 sa,.int .i64 sb,.int .i64 sc,.int .i64 sd]:List Value).toArray=#[.int .i64 sa,.int .i64 sb,.int .i64 sc,.int .i64 sd] from rfl] at D8
     clear B R K
     go_upto_region 9 with fail
     generalize (w7.alloc (.cells #[.int .i64 sa,.int .i64 sb,.int .i64 sc,.int .i64 sd] 40))=W8 at *
     have d0:=D8.c 0 rfl;have d1:=D8.c 1 rfl;have d2:=D8.c 2 rfl;have d3:=D8.c 3 rfl
     have B:=B8
     have R:=R8
     have K:=K8
     clear B8 R8 K8 D8
     have o0:=B.c 0 rfl;have f0:=B.f 0 rfl;have o1:=B.c 1 rfl;have f1:=B.f 1 rfl;have o2:=B.c 2 rfl;have f2:=B.f 2 rfl;have o3:=B.c 3 rfl;have f3:=B.f 3 rfl;have ol:=B.lt
     clear B
     go_wp2
     refine bodyPost_ret (v:= .agg #[.int .i64 sa,.int .i64 sb,.int .i64 sc,.int .i64 sd]) (by simp[results,Try.results55,go_sem,o0,o1,o2,o3]) rfl ?_
     exact⟨_,rfl,⟨_,_,_,_,rfl,isa,isb,isc,isd⟩,(((R.setN (by exact hg) _).setN (by exact hg) _).setN (by exact hg) _).setN (by exact hg) _,(((K.setN (by simp) (by simp;omega) _).setN (by simp) (by simp;omega) _).setN (by simp) (by simp;omega) _).setN (by simp) (by simp;omega) _⟩
   by_cases hyv:y=v
   rotate_left
   · have dx:decide (x=u)=true:=decide_eq_true hxu
     have dy:decide (y=v)=false:=decide_eq_false hyv
     have a0:=A4.c 0 rfl;have a1:=A4.c 1 rfl;have c0:=A5.c 0 rfl;have c1:=A5.c 1 rfl
     go_upto_region 8 with fail
     clear EQ dx dy a0 a1 c0 c1 hxu hyv
     have mx:=far_mul hfk (x:=x) (by omega) (by omega)
     have my:=far_mul hfk (x:=y) (by omega) (by omega)
     have mu:=far_mul hfk (x:=u) (by omega) (by omega)
     have mv:=far_mul hfk (x:=v) (by omega) (by omega)
     obtain⟨kx,hkx⟩:∃z,k*x=z:=⟨_,rfl⟩
     obtain⟨ky,hky⟩:∃z,k*y=z:=⟨_,rfl⟩
     obtain⟨ku,hku⟩:∃z,k*(u)=z:=⟨_,rfl⟩
     obtain⟨kv,hkv⟩:∃z,k*v=z:=⟨_,rfl⟩
     rw[hkx] at mx
     rw[hky] at my
     rw[hku] at mu
     rw[hkv] at mv
     have wx:IntKind.i64.wrap (k*x)=kx:=by rw[hkx,IntKind.wrap_i64];omega
     have wy:IntKind.i64.wrap (k*y)=ky:=by rw[hky,IntKind.wrap_i64];omega
     have wu:IntKind.i64.wrap (k*(u))=ku:=by rw[hku,IntKind.wrap_i64];omega
     have wv:IntKind.i64.wrap (k*v)=kv:=by rw[hkv,IntKind.wrap_i64];omega
     obtain⟨sa,sb,sc,sd,sk,isa,isb,isc,isd,SO⟩:=segOf_ex kx ky ku kv (by constructor<;>omega) (by constructor<;>omega) (by constructor<;>omega) (by constructor<;>omega)
     have a0:=A4.c 0 rfl;have a1:=A4.c 1 rfl;have c0:=A5.c 0 rfl;have c1:=A5.c 1 rfl
     clear hkx hky hku hkv mx my mu mv A4 A5
     go_wp2_with fail
     refine(SO W6).mono ?_
     rintro e w7 ⟨rfl,hB7⟩
     clear SO a0 a1 c0 c1 wx wy wu wv
     replace B:=B.step hB7
     replace R:=R.step hB7
     replace K:=K.trans (Kept.of hB7)
     clear hB7
     have B8:=B.alloc (.cells #[.int .i64 sa,.int .i64 sb,.int .i64 sc,.int .i64 sd] 40)
     have R8:=R.alloc (.cells #[.int .i64 sa,.int .i64 sb,.int .i64 sc,.int .i64 sd] 40)
     have K8:=K.alloc (.cells #[.int .i64 sa,.int .i64 sb,.int .i64 sc,.int .i64 sd] 40)
     have D8:=Blk.new w7 [.int .i64 sa,.int .i64 sb,.int .i64 sc,.int .i64 sd] 40 rfl
     rw[show([.int .i64 sa,.int .i64 sb,.int .i64 sc,.int .i64 sd]:List Value).toArray=#[.int .i64 sa,.int .i64 sb,.int .i64 sc,.int .i64 sd] from rfl] at D8
     clear B R K
     go_upto_region 9 with fail
     generalize (w7.alloc (.cells #[.int .i64 sa,.int .i64 sb,.int .i64 sc,.int .i64 sd] 40))=W8 at *
     have d0:=D8.c 0 rfl;have d1:=D8.c 1 rfl;have d2:=D8.c 2 rfl;have d3:=D8.c 3 rfl
     have B:=B8
     have R:=R8
     have K:=K8
     clear B8 R8 K8 D8
     have o0:=B.c 0 rfl;have f0:=B.f 0 rfl;have o1:=B.c 1 rfl;have f1:=B.f 1 rfl;have o2:=B.c 2 rfl;have f2:=B.f 2 rfl;have o3:=B.c 3 rfl;have f3:=B.f 3 rfl;have ol:=B.lt
     clear B
     go_wp2
     refine bodyPost_ret (v:= .agg #[.int .i64 sa,.int .i64 sb,.int .i64 sc,.int .i64 sd]) (by simp[results,Try.results55,go_sem,o0,o1,o2,o3]) rfl ?_
     exact⟨_,rfl,⟨_,_,_,_,rfl,isa,isb,isc,isd⟩,(((R.setN (by exact hg) _).setN (by exact hg) _).setN (by exact hg) _).setN (by exact hg) _,(((K.setN (by simp) (by simp;omega) _).setN (by simp) (by simp;omega) _).setN (by simp) (by simp;omega) _).setN (by simp) (by simp;omega) _⟩
   have dx:decide (x=u)=true:=decide_eq_true hxu
   have dy:decide (y=v)=true:=decide_eq_true hyv
   have a0:=A4.c 0 rfl;have a1:=A4.c 1 rfl;have c0:=A5.c 0 rfl;have c1:=A5.c 1 rfl;have e0:=A5.f 0 rfl
   go_upto_region 8 with fail
   clear EQ dx dy a0 a1 c0 c1 hxu hyv e0
   have A5N:Blk (W6.setCell ⟨w5.heap.size,0,none⟩ (.int .i64 (u+1))) w5.heap.size [.int .i64 (u+1),.int .i64 v]:=A5.setI 0 (by simp) _
   replace A4:=A4.setO (p:=⟨w5.heap.size,0,none⟩) (by show w3.heap.size≠w5.heap.size;omega) (.int .i64 (u+1))
   replace B:=B.setO (p:=⟨w5.heap.size,0,none⟩) (by show w.heap.size≠w5.heap.size;omega) (.int .i64 (u+1))
   replace R:=R.setN (p:=⟨w5.heap.size,0,none⟩) hgs (.int .i64 (u+1))
   replace K:=K.setN (p:=⟨w5.heap.size,0,none⟩) (by show w.heap.size≤w5.heap.size;omega) (fun e=>h5g e.symm) (.int .i64 (u+1))
   clear A5
   have A5:=A5N
   clear A5N
   generalize (W6.setCell ⟨w5.heap.size,0,none⟩ (.int .i64 (u+1)))=W7 at *
   have mx:=far_mul hfk (x:=x) (by omega) (by omega)
   have my:=far_mul hfk (x:=y) (by omega) (by omega)
   have mu:=far_mul hfk (x:=u+1) (by omega) (by omega)
   have mv:=far_mul hfk (x:=v) (by omega) (by omega)
   obtain⟨kx,hkx⟩:∃z,k*x=z:=⟨_,rfl⟩
   obtain⟨ky,hky⟩:∃z,k*y=z:=⟨_,rfl⟩
   obtain⟨ku,hku⟩:∃z,k*(u+1)=z:=⟨_,rfl⟩
   obtain⟨kv,hkv⟩:∃z,k*v=z:=⟨_,rfl⟩
   rw[hkx] at mx
   rw[hky] at my
   rw[hku] at mu
   rw[hkv] at mv
   have wx:IntKind.i64.wrap (k*x)=kx:=by rw[hkx,IntKind.wrap_i64];omega
   have wy:IntKind.i64.wrap (k*y)=ky:=by rw[hky,IntKind.wrap_i64];omega
   have wu:IntKind.i64.wrap (k*(u+1))=ku:=by rw[hku,IntKind.wrap_i64];omega
   have wv:IntKind.i64.wrap (k*v)=kv:=by rw[hkv,IntKind.wrap_i64];omega
   obtain⟨sa,sb,sc,sd,sk,isa,isb,isc,isd,SO⟩:=segOf_ex kx ky ku kv (by constructor<;>omega) (by constructor<;>omega) (by constructor<;>omega) (by constructor<;>omega)
   have a0:=A4.c 0 rfl;have a1:=A4.c 1 rfl;have c0:=A5.c 0 rfl;have c1:=A5.c 1 rfl
   clear hkx hky hku hkv mx my mu mv A4 A5
   go_wp2_with fail
   refine(SO W7).mono ?_
   rintro e w7 ⟨rfl,hB7⟩
   clear SO a0 a1 c0 c1 wx wy wu wv
   replace B:=B.step hB7
   replace R:=R.step hB7
   replace K:=K.trans (Kept.of hB7)
   clear hB7
   have B8:=B.alloc (.cells #[.int .i64 sa,.int .i64 sb,.int .i64 sc,.int .i64 sd] 40)
   have R8:=R.alloc (.cells #[.int .i64 sa,.int .i64 sb,.int .i64 sc,.int .i64 sd] 40)
   have K8:=K.alloc (.cells #[.int .i64 sa,.int .i64 sb,.int .i64 sc,.int .i64 sd] 40)
   have D8:=Blk.new w7 [.int .i64 sa,.int .i64 sb,.int .i64 sc,.int .i64 sd] 40 rfl
   rw[show([.int .i64 sa,.int .i64 sb,.int .i64 sc,.int .i64 sd]:List Value).toArray=#[.int .i64 sa,.int .i64 sb,.int .i64 sc,.int .i64 sd] from rfl] at D8
   clear B R K
   go_upto_region 9 with fail
   generalize (w7.alloc (.cells #[.int .i64 sa,.int .i64 sb,.int .i64 sc,.int .i64 sd] 40))=W8 at *
   have d0:=D8.c 0 rfl;have d1:=D8.c 1 rfl;have d2:=D8.c 2 rfl;have d3:=D8.c 3 rfl
   have B:=B8
   have R:=R8
   have K:=K8
   clear B8 R8 K8 D8
   have o0:=B.c 0 rfl;have f0:=B.f 0 rfl;have o1:=B.c 1 rfl;have f1:=B.f 1 rfl;have o2:=B.c 2 rfl;have f2:=B.f 2 rfl;have o3:=B.c 3 rfl;have f3:=B.f 3 rfl;have ol:=B.lt
   clear B
   go_wp2
   refine bodyPost_ret (v:= .agg #[.int .i64 sa,.int .i64 sb,.int .i64 sc,.int .i64 sd]) (by simp[results,Try.results55,go_sem,o0,o1,o2,o3]) rfl ?_
   exact⟨_,rfl,⟨_,_,_,_,rfl,isa,isb,isc,isd⟩,(((R.setN (by exact hg) _).setN (by exact hg) _).setN (by exact hg) _).setN (by exact hg) _,(((K.setN (by simp) (by simp;omega) _).setN (by simp) (by simp;omega) _).setN (by simp) (by simp;omega) _).setN (by simp) (by simp;omega) _⟩
def QnP (m d:Int) (w:World) (e:Ending) (w' :World):Prop:=∃h,e= .returned (.tuple #[.agg #[.int .i64 m,.int .i64 d,.slice none 0 0,.slice (some ⟨h,0,none⟩) 1 1],.bool true])∧w.heap.size≤h∧Blk w' h [.int .i64 (-1048576),.int .i64 (-1048576),.int .i64 2097152,.bool false,.slice none 0 0]∧Below w.heap.size w w'
theorem specQuadNew_no (m d:Int) (hl:limB m d=false) (w:World):Calls Try.prog 86 #[.int .i64 m,.int .i64 d] w (VP (.tuple #[.agg #[.int .i64 0,.int .i64 0,.slice none 0 0,.slice none 0 0],.bool false]) w):=by
 have H1:Below w.heap.size w (w.alloc (.cells #[.int .i64 0,.int .i64 0,.slice none 0 0,.slice none 0 0] 34)):=(Below.refl _ w).alloc (Nat.le_refl _) _
 have BZ:=Blk.new w [.int .i64 0,.int .i64 0,.slice none 0 0,.slice none 0 0] 34 rfl
 have RL:=l13Limits_any m d
 go_enter Try.func86,Try.ntmps86
 go_upto_region 1 with fail
 generalize (w.alloc (.cells #[.int .i64 0,.int .i64 0,.slice none 0 0,.slice none 0 0] 34))=W at *
 go_wp2_with fail
 refine(RL _).mono ?_
 rintro e w1 ⟨rfl,hB⟩
 replace BZ:=BZ.step hB
 replace H1:=H1.trans (hB.mono H1.size)
 clear hB RL
 rw[hl]
 have z0:=BZ.c 0 rfl;have z1:=BZ.c 1 rfl;have z2:=BZ.c 2 rfl;have z3:=BZ.c 3 rfl;have y0:=BZ.f 0 rfl;have y1:=BZ.f 1 rfl;have y2:=BZ.f 2 rfl;have y3:=BZ.f 3 rfl;have zl:=BZ.lt
 have RN:Blk ((((w1.setCell ⟨w.heap.size,0,none⟩ (.int .i64 0)).setCell ⟨w.heap.size,1,none⟩ (.int .i64 0)).setCell ⟨w.heap.size,2,none⟩ (.slice none 0 0)).setCell ⟨w.heap.size,3,none⟩ (.slice none 0 0)) w.heap.size [.int .i64 0,.int .i64 0,.slice none 0 0,.slice none 0 0]:=((((BZ.setI 0 (by simp) _).setI 1 (by simp) _).setI 2 (by simp) _).setI 3 (by simp) _)
 have HN:Below w.heap.size w ((((w1.setCell ⟨w.heap.size,0,none⟩ (.int .i64 0)).setCell ⟨w.heap.size,1,none⟩ (.int .i64 0)).setCell ⟨w.heap.size,2,none⟩ (.slice none 0 0)).setCell ⟨w.heap.size,3,none⟩ (.slice none 0 0)):=((((H1.setCell (p:=⟨w.heap.size,0,none⟩) (Nat.le_refl _) _).setCell (p:=⟨w.heap.size,1,none⟩) (Nat.le_refl _) _).setCell (p:=⟨w.heap.size,2,none⟩) (Nat.le_refl _) _).setCell (p:=⟨w.heap.size,3,none⟩) (Nat.le_refl _) _)
 clear BZ H1
 have r0:=RN.c 0 rfl;have r1:=RN.c 1 rfl;have r2:=RN.c 2 rfl;have r3:=RN.c 3 rfl
 go_wp2
 refine bodyPost_ret (v:= .tuple #[.agg #[.int .i64 0,.int .i64 0,.slice none 0 0,.slice none 0 0],.bool false]) (by simp[results,Try.results86,go_sem,r0,r1,r2,r3]) rfl ?_
 exact⟨rfl,HN⟩
theorem specQuadNew_yes (m d:Int) (hl:limB m d=true) (w:World):Calls Try.prog 86 #[.int .i64 m,.int .i64 d] w (QnP m d w):=by
 have H1:Below w.heap.size w (w.alloc (.cells #[.int .i64 0,.int .i64 0,.slice none 0 0,.slice none 0 0] 34)):=(Below.refl _ w).alloc (Nat.le_refl _) _
 have BZ:=Blk.new w [.int .i64 0,.int .i64 0,.slice none 0 0,.slice none 0 0] 34 rfl
 have RL:=l13Limits_any m d
 go_enter Try.func86,Try.ntmps86
 go_upto_region 1 with fail
 generalize (w.alloc (.cells #[.int .i64 0,.int .i64 0,.slice none 0 0,.slice none 0 0] 34))=W at *
 go_wp2_with fail
 refine(RL _).mono ?_
 rintro e w1 ⟨rfl,hB⟩
 replace BZ:=BZ.step hB
 replace H1:=H1.trans (hB.mono H1.size)
 clear hB RL
 rw[hl]
 have BH:=Blk.new w1 [.int .i64 (-1048576),.int .i64 (-1048576),.int .i64 2097152,.bool false,.slice none 0 0] 55 rfl
 have hz:=BZ.lt
 have z0:=BZ.c 0 rfl;have z1:=BZ.c 1 rfl;have z2:=BZ.c 2 rfl;have z3:=BZ.c 3 rfl;have y0:=BZ.f 0 rfl;have y1:=BZ.f 1 rfl;have y2:=BZ.f 2 rfl;have y3:=BZ.f 3 rfl;have zl:=BZ.lt
 have hh:=H1.size
 go_upto_region 3 with fail
 have QL:Hid (w.heap.size≤w1.heap.size):=hh
 have SN:Blk ((((w1.setCell ⟨w.heap.size,0,none⟩ (.int .i64 m)).setCell ⟨w.heap.size,1,none⟩ (.int .i64 d)).setCell ⟨w.heap.size,2,none⟩ (.slice none 0 0)).setCell ⟨w.heap.size,3,none⟩ (.slice (some ⟨w1.heap.size,0,none⟩) 1 1)) w.heap.size [.int .i64 m,.int .i64 d,.slice none 0 0,.slice (some ⟨w1.heap.size,0,none⟩) 1 1]:=((((BZ.setI 0 (by simp) _).setI 1 (by simp) _).setI 2 (by simp) _).setI 3 (by simp) _)
 have hsn:((((w1.setCell ⟨w.heap.size,0,none⟩ (.int .i64 m)).setCell ⟨w.heap.size,1,none⟩ (.int .i64 d)).setCell ⟨w.heap.size,2,none⟩ (.slice none 0 0)).setCell ⟨w.heap.size,3,none⟩ (.slice (some ⟨w1.heap.size,0,none⟩) 1 1)).heap.size=w1.heap.size:=by simp
 have RN:=SN.alloc (.cells #[.int .i64 (-1048576),.int .i64 (-1048576),.int .i64 2097152,.bool false,.slice none 0 0] 55)
 have BN:Blk (((((w1.setCell ⟨w.heap.size,0,none⟩ (.int .i64 m)).setCell ⟨w.heap.size,1,none⟩ (.int .i64 d)).setCell ⟨w.heap.size,2,none⟩ (.slice none 0 0)).setCell ⟨w.heap.size,3,none⟩ (.slice (some ⟨w1.heap.size,0,none⟩) 1 1)).alloc (.cells #[.int .i64 (-1048576),.int .i64 (-1048576),.int .i64 2097152,.bool false,.slice none 0 0] 55)) w1.heap.size [.int .i64 (-1048576),.int .i64 (-1048576),.int .i64 2097152,.bool false,.slice none 0 0]:=Blk.new _ [.int .i64 (-1048576),.int .i64 (-1048576),.int .i64 2097152,.bool false,.slice none 0 0] _ hsn.symm
 have HN:Below w.heap.size w (((((w1.setCell ⟨w.heap.size,0,none⟩ (.int .i64 m)).setCell ⟨w.heap.size,1,none⟩ (.int .i64 d)).setCell ⟨w.heap.size,2,none⟩ (.slice none 0 0)).setCell ⟨w.heap.size,3,none⟩ (.slice (some ⟨w1.heap.size,0,none⟩) 1 1)).alloc (.cells #[.int .i64 (-1048576),.int .i64 (-1048576),.int .i64 2097152,.bool false,.slice none 0 0] 55)):=Below.alloc ((((H1.setCell (p:=⟨w.heap.size,0,none⟩) (Nat.le_refl _) _).setCell (p:=⟨w.heap.size,1,none⟩) (Nat.le_refl _) _).setCell (p:=⟨w.heap.size,2,none⟩) (Nat.le_refl _) _).setCell (p:=⟨w.heap.size,3,none⟩) (Nat.le_refl _) _) (by rw[hsn];exact hh) _
 have BN2:Blk (((((w1.alloc (.cells #[.int .i64 (-1048576),.int .i64 (-1048576),.int .i64 2097152,.bool false,.slice none 0 0] 55)).setCell ⟨w.heap.size,0,none⟩ (.int .i64 m)).setCell ⟨w.heap.size,1,none⟩ (.int .i64 d)).setCell ⟨w.heap.size,2,none⟩ (.slice none 0 0)).setCell ⟨w.heap.size,3,none⟩ (.slice (some ⟨w1.heap.size,0,none⟩) 1 1)) w1.heap.size [.int .i64 (-1048576),.int .i64 (-1048576),.int .i64 2097152,.bool false,.slice none 0 0]:=((((BH.setO (by show w1.heap.size≠w.heap.size;omega) _).setO (by show w1.heap.size≠w.heap.size;omega) _).setO (by show w1.heap.size≠w.heap.size;omega) _).setO (by show w1.heap.size≠w.heap.size;omega) _)
 have HN2:Below w.heap.size w (((((w1.alloc (.cells #[.int .i64 (-1048576),.int .i64 (-1048576),.int .i64 2097152,.bool false,.slice none 0 0] 55)).setCell ⟨w.heap.size,0,none⟩ (.int .i64 m)).setCell ⟨w.heap.size,1,none⟩ (.int .i64 d)).setCell ⟨w.heap.size,2,none⟩ (.slice none 0 0)).setCell ⟨w.heap.size,3,none⟩ (.slice (some ⟨w1.heap.size,0,none⟩) 1 1)):=(((((H1.alloc H1.size _).setCell (p:=⟨w.heap.size,0,none⟩) (Nat.le_refl _) _).setCell (p:=⟨w.heap.size,1,none⟩) (Nat.le_refl _) _).setCell (p:=⟨w.heap.size,2,none⟩) (Nat.le_refl _) _).setCell (p:=⟨w.heap.size,3,none⟩) (Nat.le_refl _) _)
 clear BZ H1 BH hsn
 go_wp2
 have r0:=RN.c 0 rfl;have r1:=RN.c 1 rfl;have r2:=RN.c 2 rfl;have r3:=RN.c 3 rfl
 refine bodyPost_ret (v:= .tuple #[.agg #[.int .i64 m,.int .i64 d,.slice none 0 0,.slice (some ⟨w1.heap.size,0,none⟩) 1 1],.bool true]) (by simp[results,Try.results86,go_sem,r0,r1,r2,r3]) rfl ?_
 exact⟨_,rfl,QL.out,(by first | exact BN | exact BN2),(by first | exact HN | exact HN2)⟩
def TqP (k:Nat) (ok:Nat→Prop) (v:Value) (W:World):Prop:=∃(Q:QD) (m d:Int) (io bo:Option Addr) (ic bc A off:Nat) (so:Nat→Option Addr×Nat),v= .agg #[.int .i64 m,.int .i64 d,.slice io Q.m ic,.slice bo Q.N bc]∧Q.m≤k∧Q.N≤2000∧(∀i,i<Q.N→Q.L i≤41)∧(0<Q.N→bo=some ⟨A,off,none⟩)∧(∀i,i<Q.N→(so i).1=none→(so i).2=0)∧Q.N≤bc∧(W.ownsRow 0 59 5 (.slice io Q.m ic) Q.m (itCs Q (List.range Q.m))∧∀c,(Value.slice io Q.m ic).ownBlock=some c→ok c)∧BlIn Q W A off so∧(0<Q.N→ok A∧A<W.heap.size∧(Value.slice io Q.m ic).ownBlock≠some A)∧∀i,i<Q.N→∀B o sp,(so i).1=some ⟨B,o,sp⟩→ok B∧B<W.heap.size∧(Value.slice io Q.m ic).ownBlock≠some B
theorem noIn_swap {w w' :World} {ao:Option Addr} {n:Nat} {e:Nat→Int} (h:NoIn w ao n e) (hs:w.heap.size≤w'.heap.size) (hk:∀B o sp,ao=some ⟨B,o,sp⟩→w'.heap[B]? =w.heap[B]?):NoIn w' ao n e:=fun i hi=>by
 obtain⟨A,o,e1,hA,hc⟩:=h i hi
 exact⟨A,o,e1,Nat.lt_of_lt_of_le hA hs,(World.cell?_of_block (w:=w) (a:=⟨A,o+i,none⟩) (hk A o none e1)).trans hc⟩
theorem blIn_swap {Q:QD} {w w' :World} {A off:Nat} {so:Nat→Option Addr×Nat} (h:BlIn Q w A off so) (hs:w.heap.size≤w'.heap.size) (hA:0<Q.N→w'.heap[A]? =w.heap[A]?) (hk:∀i,i<Q.N→∀B o sp,(so i).1=some ⟨B,o,sp⟩→w'.heap[B]? =w.heap[B]?):BlIn Q w' A off so:=fun i hi=>by
 have hA2:=hA (by omega)
 have hc:∀k,w'.cell? ⟨A,k,none⟩=w.cell? ⟨A,k,none⟩:=fun k=>World.cell?_of_block (w:=w) (a:=⟨A,k,none⟩) hA2
 obtain⟨h1,h2,h3,h4,h5,h6,h7⟩:=h i hi
 exact⟨Nat.lt_of_lt_of_le h1 hs,(hc _).trans h2,(hc _).trans h3,(hc _).trans h4,(hc _).trans h5,(hc _).trans h6,noIn_swap h7 hs (hk i hi)⟩
theorem TqP.keep {k:Nat} {ok:Nat→Prop} {v:Value} {W W2:World} (h:TqP k ok v W) (hs:W.heap.size≤W2.heap.size) (hk:∀b,ok b→b<W.heap.size→W2.heap[b]? =W.heap[b]?):TqP k ok v W2:=by
 obtain⟨Q,m,d,io,bo,ic,bc,A,off,so,h1,h2,h3,h4,h5,h6,h7,h8,h9,h10,h11⟩:=h
 exact⟨Q,m,d,io,bo,ic,bc,A,off,so,h1,h2,h3,h4,h5,h6,h7,⟨ownQ_heap h8.1 (fun c e=>hk c (h8.2 c e) (World.ownsRow.lt h8.1 c e).2),h8.2⟩,blIn_swap h9 hs (fun h=>hk A (h10 h).1 (h10 h).2.1) (fun i hi B o sp e=>hk B (h11 i hi B o sp e).1 (h11 i hi B o sp e).2.1),fun h=>⟨(h10 h).1,Nat.lt_of_lt_of_le (h10 h).2.1 hs,(h10 h).2.2⟩,fun i hi B o sp e=>⟨(h11 i hi B o sp e).1,Nat.lt_of_lt_of_le (h11 i hi B o sp e).2.1 hs,(h11 i hi B o sp e).2.2⟩⟩
theorem TqP.to {k:Nat} {ok ok' :Nat→Prop} {v:Value} {W:World} (h:TqP k ok v W) (ho:∀b,ok b→b<W.heap.size→ok' b):TqP k ok' v W:=by
 obtain⟨Q,m,d,io,bo,ic,bc,A,off,so,h1,h2,h3,h4,h5,h6,h7,h8,h9,h10,h11⟩:=h
 exact⟨Q,m,d,io,bo,ic,bc,A,off,so,h1,h2,h3,h4,h5,h6,h7,⟨h8.1,fun c e=>ho c (h8.2 c e) (World.ownsRow.lt h8.1 c e).2⟩,h9,fun h=>⟨ho A (h10 h).1 (h10 h).2.1,(h10 h).2⟩,fun i hi B o sp e=>⟨ho B (h11 i hi B o sp e).1 (h11 i hi B o sp e).2.1,(h11 i hi B o sp e).2⟩⟩
theorem TqP.kept {k g:Nat} {ok:Nat→Prop} {v:Value} {W W2:World} (h:TqP k ok v W) (hK:Kept g W W2) (hg:¬ok g):TqP k ok v W2:=h.keep hK.size (fun b h1 h2=>hK.block b h2 (fun e=>hg (by rw[←e];exact h1)))
theorem TqP.mono {k k' :Nat} {ok:Nat→Prop} {v:Value} {W:World} (h:TqP k ok v W) (hk:k≤k'):TqP k' ok v W:=by
 obtain⟨Q,m,d,io,bo,ic,bc,A,off,so,h1,h2,h3⟩:=h
 exact⟨Q,m,d,io,bo,ic,bc,A,off,so,h1,Nat.le_trans h2 hk,h3⟩
theorem own_types {w:World} {b b' s s' n n' :Nat} {e e' :TypeId} {v v' :Value} {xs xs' :List Value} (h:w.ownsRow b e s v n xs) (h' :w.ownsRow b' e' s' v' n' xs') (hne:e≠e'):∀c,v.ownBlock=some c→v'.ownBlock≠some c:=fun c hc hc' =>by
 rcases h.2 with ⟨h1,_⟩ | ⟨g,cap,cur,h1,_,h2,_⟩
 · rw[h1] at hc;cases hc
 · rcases h'.2 with ⟨k1,_⟩ | ⟨g',cap',cur',k1,_,k2,_⟩
   · rw[k1] at hc';cases hc'
   · rw[h1] at hc
     rw[k1] at hc'
     have e1:g=c:=Option.some.inj hc
     have e2:g' =c:=Option.some.inj hc'
     rw[e1] at h2
     rw[e2] at k2
     rw[h2] at k2
     injection k2 with k2
     injection k2 with _ k2
     exact hne k2
def qZero:QD:=⟨0,0,fun _=>0,fun _=>(0,0,0,0),fun _=>0,fun _=>0,fun _=>0,fun _=>false,fun _=>0,fun _ _=>0⟩
theorem TqP.zero {k:Nat} {ok:Nat→Prop} {W:World} (m d:Int):TqP k ok (.agg #[.int .i64 m,.int .i64 d,.slice none 0 0,.slice none 0 0]) W:=
 ⟨qZero,m,d,none,none,0,0,0,0,fun _=>(none,0),rfl,Nat.zero_le _,Nat.zero_le _,fun i hi=>absurd hi (Nat.not_lt_zero i),fun h=>absurd h (Nat.lt_irrefl 0),fun _ _ _=>rfl,Nat.le_refl _,⟨World.ownsRow_nil _ _ _ _,fun c e=>by cases e⟩,fun i hi=>absurd hi (Nat.not_lt_zero i),fun h=>absurd h (Nat.lt_irrefl 0),fun i hi=>absurd hi (Nat.not_lt_zero i)⟩
theorem TqP.told {k lo:Nat} {ok:Nat→Prop} {W:World} {Q:QD} {m d:Int} {v u:Value} {L:List WB} {I:List Value} (hb:∀b,lo≤b→ok b) (hk:Q.m≤k) (hL:L.length≤2000) (hp:0<L.length) (hl:∀q∈L,q.l.length≤41) (hv:W.ownsRow lo 59 5 v Q.m (itCs Q (List.range Q.m))) (hu:W.ownsRow lo 55 5 u L.length (wbCs L I)) (hI:IvP (fun b=>lo≤b∧v.ownBlock≠some b) W L I):TqP k ok (.agg #[.int .i64 m,.int .i64 d,v,u]) W:=by
 obtain⟨io,ic,rfl⟩:=ownQ_slice hv
 obtain⟨A,bc,rfl,hA1,hA2,hbc,_⟩:=ownQ_form hu hp
 have hso:∀i,i<L.length→∀B o sp,(soL I i).1=some ⟨B,o,sp⟩→(lo≤B∧(Value.slice io Q.m ic).ownBlock≠some B)∧B<W.heap.size:=fun i hi B o sp e=>by
   obtain⟨ao,c,e1,_,_,e4⟩:=ivP_at hI hi
   unfold soL at e
   rw[e1] at e
   exact e4 B o sp e
 refine⟨qdOf Q L,m,d,io,_,ic,bc,A,0,soL I,rfl,hk,hL,fun i hi=>?_,fun _=>rfl,fun i hi e=>?_,hbc,⟨ownQ_mono2 hv (Nat.zero_le _),fun c e=>hb c (World.ownsRow.lt hv c e).1⟩,blIn_of hu hI,fun _=>⟨hb A hA1,hA2,fun e=>own_types hv hu (by decide) A e rfl⟩,fun i hi B o sp e=>⟨hb B (hso i hi B o sp e).1.1,(hso i hi B o sp e).2,(hso i hi B o sp e).1.2⟩⟩
 · exact hl _ (by rw[List.getD_eq_getElem?_getD,List.getElem?_eq_getElem hi];exact List.getElem_mem hi)
 · obtain⟨ao,c,e1,_,e3,_⟩:=ivP_at hI hi
   unfold soL at e⊢
   rw[e1] at e⊢
   exact e3 e
theorem TqP.fresh {k:Nat} {ok:Nat→Prop} {m d:Int} {w w' :World} {h:Nat} (hb:∀b,w.heap.size≤b→ok b) (hh:w.heap.size≤h) (B:Blk w' h [.int .i64 (-1048576),.int .i64 (-1048576),.int .i64 2097152,.bool false,.slice none 0 0]):TqP k ok (.agg #[.int .i64 m,.int .i64 d,.slice none 0 0,.slice (some ⟨h,0,none⟩) 1 1]) w' :=
 ⟨⟨0,1,fun _=>0,fun _=>(0,0,0,0),fun _=>-1048576,fun _=>-1048576,fun _=>2097152,fun _=>false,fun _=>0,fun _ _=>0⟩,m,d,none,some ⟨h,0,none⟩,0,1,h,0,fun _=>(none,0),rfl,Nat.zero_le _,by show 1≤2000;omega,fun i _=>Nat.zero_le _,fun _=>rfl,fun _ _ _=>rfl,Nat.le_refl _,⟨World.ownsRow_nil _ _ _ _,fun c e=>by cases e⟩,fun i hi=>by
   have hi1:i<1:=hi
   obtain rfl:i=0:=by omega
   exact⟨B.lt,B.c 0 rfl,B.c 1 rfl,B.c 2 rfl,B.c 3 rfl,B.c 4 rfl,fun j hj=>absurd hj (Nat.not_lt_zero j)⟩,fun _=>⟨hb h hh,B.lt,fun e=>by cases e⟩,fun i _ B o sp e=>by cases e⟩
theorem newT_any (ok:Nat→Prop) (m d:Int) (w:World) (hb:∀b,w.heap.size≤b→ok b):Calls Try.prog 86 #[.int .i64 m,.int .i64 d] w (fun r w' =>∃u b,r= .returned (.tuple #[u,.bool b])∧TqP 0 ok u w' ∧Below w.heap.size w w'):=by
 cases hl:limB m d with
 | false=>
   refine(specQuadNew_no m d hl w).mono ?_
   rintro r w' ⟨rfl,hB⟩
   exact⟨_,_,rfl,TqP.zero 0 0,hB⟩
 | true=>
   refine(specQuadNew_yes m d hl w).mono ?_
   rintro r w' ⟨h,rfl,h1,h2,hB⟩
   exact⟨_,_,rfl,TqP.fresh hb h1 h2,hB⟩
theorem putT_draw {k:Nat} {ok ok' :Nat→Prop} (hk:k≤1000) (id a bb cc dd:Int) {v:Value} (W:World) (hb:∀b,W.heap.size≤b→ok' b) (h:TqP k ok v W):Calls Try.prog 8 #[v,.int .i64 id,Sg a bb cc dd] W (fun r w' =>∃u b,r= .returned (.tuple #[u,.bool b])∧TqP 41 ok' u w' ∧Below W.heap.size W w'):=by
 obtain⟨Q,m,d,io,bo,ic,bc,A,off,so,rfl,h2,h3,h4,h5,h6,h7,h8,h9,h10,h11⟩:=h
 have hIt:ItIn Q W io (List.range Q.m):=by
   obtain⟨ao9,cap9,e9,hI9⟩:=ItIn.of (Q:=Q) (l:=List.range Q.m) (by rw[List.length_range];exact h8.1)
   rw[List.length_range] at e9
   cases e9
   exact hI9
 refine(specQuadPut_any W Q io bo ic bc A off so m d (by omega) (by omega) (fun i hi=>by have:=h4 i hi;omega) h5 h6 hIt h9 id a bb cc dd).mono ?_
 rintro r w' ⟨hB,⟨_,rfl⟩ | ⟨p1,j,_,⟨_,rfl⟩ | ⟨p3,v,u,I,rfl,p4,p5,p6⟩⟩⟩
 · exact⟨_,_,rfl,TqP.zero 0 0,hB⟩
 · exact⟨_,_,rfl,TqP.zero 0 0,hB⟩
 · unfold putB at p1
   rw[Bool.and_eq_true] at p1
   have hm:=(of_decide_eq_true p1.2).2.2.1
   exact⟨_,_,rfl,TqP.told (Q:=insQ Q j id (a,bb,cc,dd)) hb (show Q.m+1≤41 by omega) p3 (wrT_pos _ _ _ _) (putL_ll p1.1) p4 p5 p6,hB⟩
theorem cutT_draw {k:Nat} {ok ok' :Nat→Prop} (hk:k≤1000) (id:Int) {v:Value} (W:World) (hb:∀b,W.heap.size≤b→ok' b) (h:TqP k ok v W):Calls Try.prog 15 #[v,.int .i64 id] W (fun r w' =>∃u b,r= .returned (.tuple #[u,.bool b])∧TqP k ok' u w' ∧Below W.heap.size W w'):=by
 obtain⟨Q,m,d,io,bo,ic,bc,A,off,so,rfl,h2,h3,h4,h5,h6,h7,h8,h9,h10,h11⟩:=h
 have hIt:ItIn Q W io (List.range Q.m):=by
   obtain⟨ao9,cap9,e9,hI9⟩:=ItIn.of (Q:=Q) (l:=List.range Q.m) (by rw[List.length_range];exact h8.1)
   rw[List.length_range] at e9
   cases e9
   exact hI9
 refine(specQuadCut_any W Q io bo ic bc A off so m d (by omega) (by omega) (fun i hi=>by have:=h4 i hi;omega) h5 h6 hIt h9 id).mono ?_
 rintro r w' ⟨hB,⟨_,rfl⟩ | ⟨p1,j,hj,_,v,u,I,rfl,p4,p5,p6⟩⟩
 · exact⟨_,_,rfl,TqP.zero 0 0,hB⟩
 · unfold cutB at p1
   rw[Bool.and_eq_true] at p1
   exact⟨_,_,rfl,TqP.told (Q:=delQ Q j) hb (show Q.m-1≤k by omega) (cut_tree p1.1 hj).2.1 (wrT_pos _ _ _ _) (cutL_ll p1.1) p4 p5 p6,hB⟩
theorem TqP.form {k:Nat} {ok:Nat→Prop} {v:Value} {W:World} (h:TqP k ok v W):∃m d io n ic bo N bc,v= .agg #[.int .i64 m,.int .i64 d,.slice io n ic,.slice bo N bc]∧n≤k∧N≤bc∧N≤2000∧(0<N→∃A off,bo=some ⟨A,off,none⟩):=by
 obtain⟨Q,m,d,io,bo,ic,bc,A,off,so,rfl,h2,h3,h4,h5,h6,h7,_⟩:=h
 exact⟨_,_,_,_,_,_,_,_,rfl,h2,h7,h3,fun h=>⟨A,off,h5 h⟩⟩
theorem TqP.first {k:Nat} {ok:Nat→Prop} {m d:Int} {io:Option Addr} {n ic:Nat} {bv:Value} {W:World} (h:TqP k ok (.agg #[.int .i64 m,.int .i64 d,.slice io n ic,bv]) W) (hn:0<n):∃g id,io=some ⟨g,0,none⟩∧g<W.heap.size∧W.cell? ⟨g,0,none⟩=some (.int .i64 id):=by
 obtain⟨Q,m',d',io',bo,ic',bc,A,off,so,e,h2,h3,h4,h5,h6,h7,h8,_⟩:=h
 have e1:=Value.agg.inj e
 simp only[Array.mk.injEq,List.cons.injEq,Value.slice.injEq] at e1
 obtain⟨_,_,⟨rfl,rfl,rfl⟩,_⟩:=e1
 obtain⟨g,cap,e2,_,hg,_,_⟩:=ownQ_form h8.1 hn
 cases e2
 obtain⟨p,hp⟩:∃p,Q.m=p+1:=⟨Q.m-1,by omega⟩
 refine⟨g,Q.I 0,rfl,hg,?_⟩
 have h9:=h8.1.cells rfl 0 (.int .i64 (Q.I 0)) (by
   have h10:=itCs_at Q (List.range Q.m) 0 0 0 (by simp[hp]) (by omega)
   exact h10)
 exact h9
theorem TqP.less {k:Nat} {ok:Nat→Prop} {m d:Int} {iv:Value} {bo:Option Addr} {N bc:Nat} {W:World} (h:TqP k ok (.agg #[.int .i64 m,.int .i64 d,iv,.slice bo N bc]) W):TqP k ok (.agg #[.int .i64 m,.int .i64 d,iv,.slice bo (N-1) bc]) W:=by
 obtain⟨Q,m',d',io',bo',ic',bc',A,off,so,e,h2,h3,h4,h5,h6,h7,h8,h9,h10,h11⟩:=h
 have e1:=Value.agg.inj e
 simp only[Array.mk.injEq,List.cons.injEq,Value.slice.injEq,Value.int.injEq] at e1
 obtain⟨⟨_,rfl⟩,⟨_,rfl⟩,rfl,⟨rfl,rfl,rfl⟩,_⟩:=e1
 exact⟨⟨Q.m,Q.N-1,Q.I,Q.S,Q.X,Q.Y,Q.Z,Q.T,Q.L,Q.E⟩,m,d,io',bo,ic',bc,A,off,so,rfl,h2,Nat.le_trans (Nat.sub_le _ _) h3,fun i hi=>h4 i (Nat.lt_of_lt_of_le hi (Nat.sub_le _ _)),fun hp=>h5 (Nat.lt_of_lt_of_le hp (Nat.sub_le _ _)),fun i hi=>h6 i (Nat.lt_of_lt_of_le hi (Nat.sub_le _ _)),Nat.le_trans (Nat.sub_le _ _) h7,h8,fun i hi=>h9 i (Nat.lt_of_lt_of_le hi (Nat.sub_le _ _)),fun hp=>h10 (Nat.lt_of_lt_of_le hp (Nat.sub_le _ _)),fun i hi=>h11 i (Nat.lt_of_lt_of_le hi (Nat.sub_le _ _))⟩
theorem TqP.row {k:Nat} {ok:Nat→Prop} {m d:Int} {iv bv:Value} {W:World} (h:TqP k ok (.agg #[.int .i64 m,.int .i64 d,iv,bv]) W):∃n xs,n≤k∧W.ownsRow 0 59 5 iv n xs∧∀(W2:World) (v' :Value) (id a b c e:Int),W2.ownsRow 0 59 5 v' (n+1) (xs ++[.int .i64 id,.int .i64 a,.int .i64 b,.int .i64 c,.int .i64 e])→W.heap.size≤W2.heap.size→(∀x,ok x→x<W.heap.size→some x≠iv.ownBlock→W2.heap[x]? =W.heap[x]?)→(v'.ownBlock=iv.ownBlock∨∀x,v'.ownBlock=some x→W.heap.size≤x∧ok x)→TqP (k+1) ok (.agg #[.int .i64 m,.int .i64 d,v',bv]) W2:=by
 obtain⟨Q,m',d',io',bo',ic',bc',A,off,so,e,h2,h3,h4,h5,h6,h7,h8,h9,h10,h11⟩:=h
 have e1:=Value.agg.inj e
 simp only[Array.mk.injEq,List.cons.injEq,Value.int.injEq] at e1
 obtain⟨⟨_,rfl⟩,⟨_,rfl⟩,rfl,rfl,_⟩:=e1
 refine⟨Q.m,_,h2,h8.1,fun W2 v' id a b c e hO hs hk hob=>?_⟩
 obtain⟨io2,ic2,rfl⟩:=ownQ_slice hO
 have hne:∀x,x<W.heap.size→(Value.slice io' Q.m ic').ownBlock≠some x→(Value.slice io2 (Q.m+1) ic2).ownBlock≠some x:=fun x hx h12 h13=>by
   rcases hob with h | h
   · rw[h] at h13;exact h12 h13
   · have:=(h x h13).1;omega
 refine⟨insQ Q Q.m id (a,b,c,e),m,d,io2,bo',ic2,bc',A,off,so,rfl,Nat.succ_le_succ h2,h3,h4,h5,h6,h7,⟨?_,fun x e=>?_⟩,?_,fun hp=>⟨(h10 hp).1,Nat.lt_of_lt_of_le (h10 hp).2.1 hs,hne A (h10 hp).2.1 (h10 hp).2.2⟩,fun i hi B o sp e=>⟨(h11 i hi B o sp e).1,Nat.lt_of_lt_of_le (h11 i hi B o sp e).2.1 hs,hne B (h11 i hi B o sp e).2.1 (h11 i hi B o sp e).2.2⟩⟩
 · show W2.ownsRow 0 _ 5 _ (Q.m+1) (itCs (insQ Q Q.m id (a,b,c,e)) (List.range (Q.m+1)))
   rw[itCs_put]
   exact hO
 · have e3:(Value.slice io2 (Q.m+1) ic2).ownBlock=some x:=e
   rcases hob with h | h
   · rw[h] at e3;exact h8.2 x e3
   · exact(h x e3).2
 · exact blIn_swap (Q:=Q) h9 hs (fun hp=>hk A (h10 hp).1 (h10 hp).2.1 (fun e=>(h10 hp).2.2 e.symm)) (fun i hi B o sp e=>hk B (h11 i hi B o sp e).1 (h11 i hi B o sp e).2.1 (fun e2=>(h11 i hi B o sp e).2.2 e2.symm))
def AnE (B0:Nat) (Z:List Value) (XP:Value→World→Prop) (TG:Value→Nat→Nat→World→Prop) (e c m x a s de dc dm dx da:Nat) (lz:Array Bool) (az:Act) (W:World):Prop:=
 (lz.getD a false=true→∃g,az.tmps.getD da undef= .pointer (some ⟨g,0,none⟩)∧B0≤g∧g<W.heap.size∧(lz.getD s false=false→Blk W g Z))∧
 (lz.getD c false=true→lz.getD s false=false→∃(u:Value) (okn:Bool) (lo hi:Nat),az.tmps.getD dc undef= .tuple #[u,.bool okn]∧TG u lo hi W∧B0≤lo∧hi≤W.heap.size∧(lz.getD a false=true→∀g,az.tmps.getD da undef= .pointer (some ⟨g,0,none⟩)→g<lo∨hi≤g))∧
 (lz.getD m false=true→lz.getD c false=true∧az.tmps.getD dm undef=az.tmps.getD dc undef)∧
 (lz.getD x false=true→lz.getD c false=true∧∃(u:Value) (okn:Bool),az.tmps.getD dc undef= .tuple #[u,.bool okn]∧az.tmps.getD dx undef=u)∧
 (lz.getD s false=true→lz.getD a false=true∧lz.getD c false=true∧∃g vs lo hi,az.tmps.getD da undef= .pointer (some ⟨g,0,none⟩)∧B0≤g∧Blk W g vs∧TG (.agg vs.toArray) lo hi W∧B0≤lo∧hi≤W.heap.size∧(g<lo∨hi≤g))∧
 (lz.getD e false=true→lz.getD s false=false→XP (az.tmps.getD de undef) W)
theorem AnE.start {B0:Nat} {Z:List Value} {XP:Value→World→Prop} {TG:Value→Nat→Nat→World→Prop} {e c m x a s de dc dm dx da n:Nat} {az:Act} {W:World}:AnE B0 Z XP TG e c m x a s de dc dm dx da (Array.replicate n false) az W:=
 ⟨fun h=>absurd h (by rw[replD];decide),fun h=>absurd h (by rw[replD];decide),fun h=>absurd h (by rw[replD];decide),fun h=>absurd h (by rw[replD];decide),fun h=>absurd h (by rw[replD];decide),fun h=>absurd h (by rw[replD];decide)⟩
theorem AnE.step {B0:Nat} {Z:List Value} {XP:Value→World→Prop} {TG:Value→Nat→Nat→World→Prop} {e c m x a s de dc dm dx da:Nat} {lz:Array Bool} {az:Act} {W W2:World} (hT:TgK XP TG) (h:AnE B0 Z XP TG e c m x a s de dc dm dx da lz az W) (hB:Below W.heap.size W W2):AnE B0 Z XP TG e c m x a s de dc dm dx da lz az W2:=by
 obtain⟨h1,h2,h3,h4,h5,h6⟩:=h
 have hsz:=hB.size
 refine⟨fun hl=>?_,fun hl hs=>?_,h3,h4,fun hl=>?_,fun hl hs=>hT.1 _ _ _ (h6 hl hs) hB⟩
 · obtain⟨g,k1,k2,k3,k4⟩:=h1 hl
   exact⟨g,k1,k2,by omega,fun hs=>(k4 hs).step hB⟩
 · obtain⟨u,okn,lo,hi,k1,k2,k3,k4,k5⟩:=h2 hl hs
   exact⟨u,okn,lo,hi,k1,hT.2 _ _ _ _ _ k2 hsz (fun b _ hb=>hB.block b (by omega)),k3,by omega,k5⟩
 · obtain⟨q1,q2,g,vs,lo,hi,k1,k2,k3,k4,k5,k6,k7⟩:=h5 hl
   exact⟨q1,q2,g,vs,lo,hi,k1,k2,k3.step hB,hT.2 _ _ _ _ _ k4 hsz (fun b _ hb=>hB.block b (by omega)),k5,by omega,k7⟩
theorem AnE.quiet {B0:Nat} {Z:List Value} {XP:Value→World→Prop} {TG:Value→Nat→Nat→World→Prop} {e c m x a s de dc dm dx da:Nat} {lz:Array Bool} {az:Act} {W:World} (h:AnE B0 Z XP TG e c m x a s de dc dm dx da lz az W) (i d:Nat) (v:Value) (hi:i≠e∧i≠c∧i≠m∧i≠x∧i≠a∧i≠s) (hd:d≠de∧d≠dc∧d≠dm∧d≠dx∧d≠da):AnE B0 Z XP TG e c m x a s de dc dm dx da (lz.setIfInBounds i true) (az.put (some d) v) W:=by
 unfold AnE
 rw[getD_set_neq hi.1,getD_set_neq hi.2.1,getD_set_neq hi.2.2.1,getD_set_neq hi.2.2.2.1,getD_set_neq hi.2.2.2.2.1,getD_set_neq hi.2.2.2.2.2,put_getD_ne hd.1,put_getD_ne hd.2.1,put_getD_ne hd.2.2.1,put_getD_ne hd.2.2.2.1,put_getD_ne hd.2.2.2.2]
 exact h
theorem AnE.ask {B0:Nat} {Z:List Value} {XP:Value→World→Prop} {TG:Value→Nat→Nat→World→Prop} {e c m x a s de dc dm dx da:Nat} {lz:Array Bool} {az:Act} {W:World} (h:AnE B0 Z XP TG e c m x a s de dc dm dx da lz az W) (v:Value) (hD:AnD e c m x a s de dc dm dx da) (hz:de<az.tmps.size) (hv:XP v W):AnE B0 Z XP TG e c m x a s de dc dm dx da (lz.setIfInBounds e true) (az.put (some de) v) W:=by
 obtain⟨hne,hde⟩:=hD
 obtain⟨h1,h2,h3,h4,h5,h6⟩:=h
 unfold AnE
 rw[getD_set_neq (i:=e) (j:=c) (by omega),getD_set_neq (i:=e) (j:=m) (by omega),getD_set_neq (i:=e) (j:=x) (by omega),getD_set_neq (i:=e) (j:=a) (by omega),getD_set_neq (i:=e) (j:=s) (by omega),put_getD_ne (d:=de) (e:=dc) (by omega),put_getD_ne (d:=de) (e:=dm) (by omega),put_getD_ne (d:=de) (e:=dx) (by omega),put_getD_ne (d:=de) (e:=da) (by omega),put_getD_same hz]
 exact⟨h1,h2,h3,h4,h5,fun _ _=>hv⟩
theorem AnE.call {B0:Nat} {Z:List Value} {XP:Value→World→Prop} {TG:Value→Nat→Nat→World→Prop} {e c m x a s de dc dm dx da:Nat} {lz:Array Bool} {az:Act} {W W2:World} (hT:TgK XP TG) (h:AnE B0 Z XP TG e c m x a s de dc dm dx da lz az W) (hD:AnD e c m x a s de dc dm dx da) (hz:dc<az.tmps.size) (hl:lz.getD c true=false) (hB:Below W.heap.size W W2) {u:Value} (okn:Bool) {lo hi:Nat} (hu:TG u lo hi W2) (hlo:W.heap.size≤lo) (hhi:hi≤W2.heap.size) (hB0:B0≤W.heap.size):AnE B0 Z XP TG e c m x a s de dc dm dx da (lz.setIfInBounds c true) (az.put (some dc) (.tuple #[u,.bool okn])) W2:=by
 obtain⟨hne,hde⟩:=hD
 have hlc:lz.getD c false=false:=by
   rcases Nat.lt_or_ge c lz.size with h' | h'
   · simpa [Array.getD,h'] using hl
   · simp[Array.getD,Nat.not_lt.2 h'] at hl
 obtain⟨h1,h2,h3,h4,h5,h6⟩:=h.step hT hB
 have h1o:=h.1
 unfold AnE
 rw[getD_set_neq (i:=c) (j:=e) (by omega),getD_set_neq (i:=c) (j:=m) (by omega),getD_set_neq (i:=c) (j:=x) (by omega),getD_set_neq (i:=c) (j:=a) (by omega),getD_set_neq (i:=c) (j:=s) (by omega),put_getD_ne (d:=dc) (e:=de) (by omega),put_getD_ne (d:=dc) (e:=dm) (by omega),put_getD_ne (d:=dc) (e:=dx) (by omega),put_getD_ne (d:=dc) (e:=da) (by omega),put_getD_same hz]
 refine⟨h1,fun _ _=>⟨u,okn,lo,hi,rfl,hu,by omega,hhi,fun ha g hg=>?_⟩,fun hm=>?_,fun hx=>?_,fun hs=>?_,h6⟩
 · obtain⟨g2,k1,_,k3,_⟩:=h1o ha
   rw[k1] at hg
   cases hg
   exact .inl (by omega)
 · have:=(h3 hm).1;rw[hlc] at this;cases this
 · have:=(h4 hx).1;rw[hlc] at this;cases this
 · have:=(h5 hs).2.1;rw[hlc] at this;cases this
theorem AnE.move {B0:Nat} {Z:List Value} {XP:Value→World→Prop} {TG:Value→Nat→Nat→World→Prop} {e c m x a s de dc dm dx da:Nat} {lz:Array Bool} {az:Act} {W:World} (h:AnE B0 Z XP TG e c m x a s de dc dm dx da lz az W) (hD:AnD e c m x a s de dc dm dx da) (hz:dm<az.tmps.size) (hc:lz.getD c false=true) {v:Value} (hv:v=az.tmps.getD dc undef):AnE B0 Z XP TG e c m x a s de dc dm dx da (lz.setIfInBounds m true) (az.put (some dm) v) W:=by
 obtain⟨hne,hde⟩:=hD
 obtain⟨h1,h2,h3,h4,h5,h6⟩:=h
 unfold AnE
 rw[getD_set_neq (i:=m) (j:=e) (by omega),getD_set_neq (i:=m) (j:=c) (by omega),getD_set_neq (i:=m) (j:=x) (by omega),getD_set_neq (i:=m) (j:=a) (by omega),getD_set_neq (i:=m) (j:=s) (by omega),put_getD_ne (d:=dm) (e:=de) (by omega),put_getD_ne (d:=dm) (e:=dc) (by omega),put_getD_ne (d:=dm) (e:=dx) (by omega),put_getD_ne (d:=dm) (e:=da) (by omega),put_getD_same hz]
 exact⟨h1,h2,fun _=>⟨hc,hv⟩,h4,h5,h6⟩
theorem AnE.take {B0:Nat} {Z:List Value} {XP:Value→World→Prop} {TG:Value→Nat→Nat→World→Prop} {e c m x a s de dc dm dx da:Nat} {lz:Array Bool} {az:Act} {W:World} (h:AnE B0 Z XP TG e c m x a s de dc dm dx da lz az W) (hD:AnD e c m x a s de dc dm dx da) (hz:dx<az.tmps.size) (hm:lz.getD m false=true) {v:Value} {okn:Bool} (hv:az.tmps.getD dm undef= .tuple #[v,.bool okn]):AnE B0 Z XP TG e c m x a s de dc dm dx da (lz.setIfInBounds x true) (az.put (some dx) v) W:=by
 obtain⟨hne,hde⟩:=hD
 obtain⟨h1,h2,h3,h4,h5,h6⟩:=h
 have hcm:=h3 hm
 unfold AnE
 rw[getD_set_neq (i:=x) (j:=e) (by omega),getD_set_neq (i:=x) (j:=c) (by omega),getD_set_neq (i:=x) (j:=m) (by omega),getD_set_neq (i:=x) (j:=a) (by omega),getD_set_neq (i:=x) (j:=s) (by omega),put_getD_ne (d:=dx) (e:=de) (by omega),put_getD_ne (d:=dx) (e:=dc) (by omega),put_getD_ne (d:=dx) (e:=dm) (by omega),put_getD_ne (d:=dx) (e:=da) (by omega),put_getD_same hz]
 exact⟨h1,h2,h3,fun _=>⟨hcm.1,v,okn,hcm.2.symm.trans hv,rfl⟩,h5,h6⟩
theorem AnE.lay {B0:Nat} {Z:List Value} {XP:Value→World→Prop} {TG:Value→Nat→Nat→World→Prop} {e c m x a s de dc dm dx da:Nat} {lz:Array Bool} {az:Act} {W:World} (hT:TgK XP TG) (h:AnE B0 Z XP TG e c m x a s de dc dm dx da lz az W) (hD:AnD e c m x a s de dc dm dx da) (hz:da<az.tmps.size) (hl:lz.getD a true=false) (hB0:B0≤W.heap.size) (T:TypeId):AnE B0 Z XP TG e c m x a s de dc dm dx da (lz.setIfInBounds a true) (az.put (some da) (.pointer (some ⟨W.heap.size,0,none⟩))) (W.alloc (.cells Z.toArray T)):=by
 obtain⟨hne,hde⟩:=hD
 have hla:lz.getD a false=false:=by
   rcases Nat.lt_or_ge a lz.size with h' | h'
   · simpa [Array.getD,h'] using hl
   · simp[Array.getD,Nat.not_lt.2 h'] at hl
 have h2o:=h.2.1
 obtain⟨h1,h2,h3,h4,h5,h6⟩:=h.step hT ((Below.refl _ W).alloc (Nat.le_refl _) (.cells Z.toArray T))
 unfold AnE
 rw[getD_set_neq (i:=a) (j:=e) (by omega),getD_set_neq (i:=a) (j:=c) (by omega),getD_set_neq (i:=a) (j:=m) (by omega),getD_set_neq (i:=a) (j:=x) (by omega),getD_set_neq (i:=a) (j:=s) (by omega),put_getD_ne (d:=da) (e:=de) (by omega),put_getD_ne (d:=da) (e:=dc) (by omega),put_getD_ne (d:=da) (e:=dm) (by omega),put_getD_ne (d:=da) (e:=dx) (by omega),put_getD_same hz]
 refine⟨fun _=>⟨W.heap.size,rfl,hB0,by simp,fun _=>Blk.new W Z T rfl⟩,fun hc hs=>?_,h3,h4,fun hs=>?_,h6⟩
 · obtain⟨u,okn,lo,hi,k1,k2,k3,k4,_⟩:=h2o hc hs
   refine⟨u,okn,lo,hi,k1,hT.2 _ _ _ _ _ k2 (by simp) (fun b _ hb=>((Below.refl W.heap.size W).alloc (Nat.le_refl _) (.cells Z.toArray T)).block b (by omega)),k3,by simp;omega,fun _ g hg=>?_⟩
   cases hg
   exact .inr k4
 · have:=(h5 hs).1;rw[hla] at this;cases this
theorem AnE.store {B0:Nat} {Z:List Value} {XP:Value→World→Prop} {TG:Value→Nat→Nat→World→Prop} {e c m x a s de dc dm dx da:Nat} {lz:Array Bool} {az:Act} {W W2:World} (hT:TgK XP TG) (h:AnE B0 Z XP TG e c m x a s de dc dm dx da lz az W) (hD:AnD e c m x a s de dc dm dx da) (hl:lz.getD s true=false) (ha:lz.getD a false=true) (hx:lz.getD x false=true) {g:Nat} {vs:List Value} (hg:az.tmps.getD da undef= .pointer (some ⟨g,0,none⟩)) (hv:az.tmps.getD dx undef= .agg vs.toArray) (hs:W2.heap.size=W.heap.size) (hne:∀b,b≠g→W2.heap[b]? =W.heap[b]?) (hb:Blk W2 g vs):AnE B0 Z XP TG e c m x a s de dc dm dx da (lz.setIfInBounds s true) az W2:=by
 obtain⟨hnd,hde⟩:=hD
 have hls:lz.getD s false=false:=by
   rcases Nat.lt_or_ge s lz.size with h' | h'
   · simpa [Array.getD,h'] using hl
   · simp[Array.getD,Nat.not_lt.2 h'] at hl
 obtain⟨h1,h2,h3,h4,h5,h6⟩:=h
 obtain⟨hc,u,okn,e1,e2⟩:=h4 hx
 obtain⟨u',okn',lo,hi,k1,k2,k3,k4,k5⟩:=h2 hc hls
 rw[e1] at k1
 have e3:u=u' :=by injection k1 with k1;simp at k1;exact k1.1
 subst e3
 rw[←e2,hv] at k2
 obtain⟨g2,p1,p2,p3,_⟩:=h1 ha
 rw[hg] at p1
 cases p1
 have hsep:=k5 ha g hg
 unfold AnE
 rw[getD_set_neq (i:=s) (j:=e) (by omega),getD_set_neq (i:=s) (j:=c) (by omega),getD_set_neq (i:=s) (j:=m) (by omega),getD_set_neq (i:=s) (j:=x) (by omega),getD_set_neq (i:=s) (j:=a) (by omega),getD_set_eq hl]
 refine⟨fun _=>⟨g,hg,p2,by omega,fun e=>(by cases e)⟩,fun _ e=>(by cases e),h3,h4,fun _=>⟨ha,hc,g,vs,lo,hi,hg,p2,hb,hT.2 _ _ _ _ _ k2 (by omega) (fun b h1 h2=>hne b (by omega)),k3,by omega,hsep⟩,fun _ e=>(by cases e)⟩
theorem AnE.laid {B0:Nat} {Z:List Value} {XP:Value→World→Prop} {TG:Value→Nat→Nat→World→Prop} {e c m x a s de dc dm dx da:Nat} {lz:Array Bool} {az:Act} {W:World} (h:AnE B0 Z XP TG e c m x a s de dc dm dx da lz az W) (ha:lz.getD a false=true) (hl:lz.getD s true=false):∃g,az.tmps.getD da undef= .pointer (some ⟨g,0,none⟩)∧B0≤g∧Blk W g Z:=by
 have hls:lz.getD s false=false:=by
   rcases Nat.lt_or_ge s lz.size with h' | h'
   · simpa [Array.getD,h'] using hl
   · simp[Array.getD,Nat.not_lt.2 h'] at hl
 obtain⟨g,k1,k2,_,k4⟩:=h.1 ha
 exact⟨g,k1,k2,k4 hls⟩
theorem AnE.taken {B0:Nat} {Z:List Value} {XP:Value→World→Prop} {TG:Value→Nat→Nat→World→Prop} {e c m x a s de dc dm dx da:Nat} {lz:Array Bool} {az:Act} {W:World} (h:AnE B0 Z XP TG e c m x a s de dc dm dx da lz az W) (hx:lz.getD x false=true) (hl:lz.getD s true=false):∃u lo hi,az.tmps.getD dx undef=u∧TG u lo hi W:=by
 have hls:lz.getD s false=false:=by
   rcases Nat.lt_or_ge s lz.size with h' | h'
   · simpa [Array.getD,h'] using hl
   · simp[Array.getD,Nat.not_lt.2 h'] at hl
 obtain⟨hc,u,okn,e1,e2⟩:=h.2.2.2.1 hx
 obtain⟨u',okn',lo,hi,k1,k2,_⟩:=h.2.1 hc hls
 rw[e1] at k1
 have e3:u=u' :=by injection k1 with k1;simp at k1;exact k1.1
 subst e3
 exact⟨u,lo,hi,e2,k2⟩
theorem AnE.done {B0:Nat} {Z:List Value} {XP:Value→World→Prop} {TG:Value→Nat→Nat→World→Prop} {e c m x a s de dc dm dx da:Nat} {lz:Array Bool} {az:Act} {W:World} (h:AnE B0 Z XP TG e c m x a s de dc dm dx da lz az W) (hs:lz.getD s false=true):∃g vs lo hi,az.tmps.getD da undef= .pointer (some ⟨g,0,none⟩)∧B0≤g∧Blk W g vs∧TG (.agg vs.toArray) lo hi W∧B0≤lo∧hi≤W.heap.size∧(g<lo∨hi≤g):=by
 obtain⟨_,_,h⟩:=h.2.2.2.2.1 hs
 exact h
theorem AnE.stepK {B0:Nat} {Z:List Value} {XP:Value→World→Prop} {TG:Value→Nat→Nat→World→Prop} {e c m x a s de dc dm dx da:Nat} {lz:Array Bool} {az:Act} {W W2:World} (hT:TgK XP TG) (hX:∀v,XP v W→XP v W2) (h:AnE B0 Z XP TG e c m x a s de dc dm dx da lz az W) (hsz:W.heap.size≤W2.heap.size) (hk:∀b,B0≤b→b<W.heap.size→W2.heap[b]? =W.heap[b]?):AnE B0 Z XP TG e c m x a s de dc dm dx da lz az W2:=by
 obtain⟨h1,h2,h3,h4,h5,h6⟩:=h
 have hB:∀g vs,B0≤g→Blk W g vs→Blk W2 g vs:=fun g vs hg hb=>⟨Nat.lt_of_lt_of_le hb.lt hsz,fun i _ hi=>⟨(World.cell?_of_block (w:=W) (a:=⟨g,i,none⟩) (hk g hg hb.lt)).trans (hb.c i hi),(World.frozen?_of_block (w:=W) (a:=⟨g,i,none⟩) (hk g hg hb.lt)).trans (hb.f i hi)⟩⟩
 refine⟨fun hl=>?_,fun hl hs=>?_,h3,h4,fun hl=>?_,fun hl hs=>hX _ (h6 hl hs)⟩
 · obtain⟨g,k1,k2,k3,k4⟩:=h1 hl
   exact⟨g,k1,k2,by omega,fun hs=>hB g _ k2 (k4 hs)⟩
 · obtain⟨u,okn,lo,hi,k1,k2,k3,k4,k5⟩:=h2 hl hs
   exact⟨u,okn,lo,hi,k1,hT.2 _ _ _ _ _ k2 hsz (fun b hb1 hb=>hk b (by omega) (by omega)),k3,by omega,k5⟩
 · obtain⟨q1,q2,g,vs,lo,hi,k1,k2,k3,k4,k5,k6,k7⟩:=h5 hl
   exact⟨q1,q2,g,vs,lo,hi,k1,k2,hB g _ k2 k3,hT.2 _ _ _ _ _ k4 hsz (fun b hb1 hb=>hk b (by omega) (by omega)),k5,by omega,k7⟩
def XqF (_v:Value) (_W:World):Prop:=True
def TgF (u:Value) (lo hi:Nat) (W:World):Prop:=TqP 41 (fun b=>lo≤b∧b<hi) u W
theorem tgF_keep:TgK XqF TgF:=⟨fun _ _ _ _ _=>trivial,fun _ _ _ _ _ h hs hk=>TqP.keep h hs (fun b hb _=>hk b hb.1 hb.2)⟩
structure PqF (g:Nat) (ao:Option Addr) (n cap:Nat) (cs:List Int) (wz:World) (T3 P0:Nat) (OK:Nat→Prop) (m1 d1:Int) (io1 bo1:Option Addr) (n1 ic1 N1 bc1:Nat) (B4:Nat) (W:World):Prop where
 rdr:Rdr W g ao n cap cs
 kep:Kept g wz W
 tree:Blk W T3 [.int .i64 m1,.int .i64 d1,.slice io1 n1 ic1,.slice bo1 N1 bc1]
 res:Blk W P0 [.int .i64 0,.int .i64 0,.slice none 0 0,.slice none 0 0]
 old:TqP 41 (fun b=>OK b∧b<B4) (.agg #[.int .i64 m1,.int .i64 d1,.slice io1 n1 ic1,.slice bo1 N1 bc1]) W
 size:B4≤W.heap.size
 apart:T3≠g∧P0≠g∧¬OK g
theorem PqF.step {g:Nat} {ao:Option Addr} {n cap:Nat} {cs:List Int} {wz:World} {T3 P0:Nat} {OK:Nat→Prop} {m1 d1:Int} {io1 bo1:Option Addr} {n1 ic1 N1 bc1:Nat} {B4:Nat} {W W2:World} (h:PqF g ao n cap cs wz T3 P0 OK m1 d1 io1 bo1 n1 ic1 N1 bc1 B4 W) (hB:Below W.heap.size W W2):PqF g ao n cap cs wz T3 P0 OK m1 d1 io1 bo1 n1 ic1 N1 bc1 B4 W2:=
 ⟨h.rdr.step hB,h.kep.trans (Kept.of hB),h.tree.step hB,h.res.step hB,h.old.keep hB.size (fun b _ hl=>hB.block b hl),Nat.le_trans h.size hB.size,h.apart⟩
theorem PqF.kept {g:Nat} {ao:Option Addr} {n cap:Nat} {cs:List Int} {wz:World} {T3 P0:Nat} {OK:Nat→Prop} {m1 d1:Int} {io1 bo1:Option Addr} {n1 ic1 N1 bc1:Nat} {B4:Nat} {W W2:World} (h:PqF g ao n cap cs wz T3 P0 OK m1 d1 io1 bo1 n1 ic1 N1 bc1 B4 W) (_hg:g<B4) (R:Rdr W2 g ao n cap cs) (K:Kept g W W2):PqF g ao n cap cs wz T3 P0 OK m1 d1 io1 bo1 n1 ic1 N1 bc1 B4 W2:=
 ⟨R,h.kep.trans K,h.tree.kept K h.apart.1,h.res.kept K h.apart.2.1,h.old.kept K (fun e=>h.apart.2.2 e.1),Nat.le_trans h.size K.size,h.apart⟩
theorem PqF.set4 {g:Nat} {ao:Option Addr} {n cap:Nat} {cs:List Int} {wz:World} {T3 P0:Nat} {OK:Nat→Prop} {m1 d1:Int} {io1 bo1:Option Addr} {n1 ic1 N1 bc1:Nat} {B4:Nat} {W:World} {gz:Nat} (h:PqF g ao n cap cs wz T3 P0 OK m1 d1 io1 bo1 n1 ic1 N1 bc1 B4 W) (hg:g<B4) (hB:T3<B4∧P0<B4∧wz.heap.size≤B4) (hz:B4≤gz) (v0 v1 v2 v3:Value):PqF g ao n cap cs wz T3 P0 OK m1 d1 io1 bo1 n1 ic1 N1 bc1 B4 ((((W.setCell ⟨gz,0,none⟩ v0).setCell ⟨gz,1,none⟩ v1).setCell ⟨gz,2,none⟩ v2).setCell ⟨gz,3,none⟩ v3):=by
 have hgz:g<gz:=by omega
 have hwz:wz.heap.size≤gz:=by omega
 have hne:∀{V0:World} {j:Nat} {u:Value},Rdr V0 g ao n cap cs→Rdr (V0.setCell ⟨gz,j,none⟩ u) g ao n cap cs:=fun h=>h.setN hgz _
 have hke:∀{V0:World} {j:Nat} {u:Value},Kept g wz V0→Kept g wz (V0.setCell ⟨gz,j,none⟩ u):=fun h=>h.setN hwz (by show g≠gz;omega) _
 have hbl:∀{V0:World} {j b:Nat} {u:Value} {vs:List Value},b<B4→Blk V0 b vs→Blk (V0.setCell ⟨gz,j,none⟩ u) b vs:=fun hb h=>h.setO (by show _≠gz;omega) _
 exact⟨hne (hne (hne (hne h.rdr))),hke (hke (hke (hke h.kep))),hbl hB.1 (hbl hB.1 (hbl hB.1 (hbl hB.1 h.tree))),hbl hB.2.1 (hbl hB.2.1 (hbl hB.2.1 (hbl hB.2.1 h.res))),h.old.keep (by simp[World.setCell]) (fun b hb _=>set4_heap (by have:=hb.2;omega)),by simp[World.setCell];exact h.size,h.apart⟩
def VqdR (g:Nat) (_ao:Option Addr) (_n _cap:Nat) (_cs:List Int) (_wz:World) (_T3 _P0:Nat) (_OK:Nat→Prop) (m1 d1:Int) (io1 bo1:Option Addr) (n1 ic1 N1 bc1:Nat) (_B4:Nat) (_B:Nat):Nat→Value→World→Prop
 | 0,v,_=>v= .agg #[.int .i64 m1,.int .i64 d1,.slice io1 n1 ic1,.slice bo1 N1 bc1]
 | 1,v,_=>v= .pointer (some ⟨g,0,none⟩)
 | 2,v,_=>∃x:Int,v= .int .i64 x∧0≤x∧x<9
 | 3,v,_=>∃x:Int,v= .int .i64 x
 | 4,v,_=>v= .pointer (some ⟨g,0,none⟩)
 | 5,v,_=>∃x y zz t:Int,v= .agg #[.int .i64 x,.int .i64 y,.int .i64 zz,.int .i64 t]
 | 6,v,_=>∃(u:Value) (b:Bool),v= .tuple #[u,.bool b]
 | 7,v,_=>∃(u:Value) (b:Bool),v= .tuple #[u,.bool b]
 | 9,v,_=>∃b:Bool,v= .bool b
 | 12,v,_=>∃b:Bool,v= .bool b
 | _,_,_=>True
theorem VqdR.same {g:Nat} {ao:Option Addr} {n cap:Nat} {cs:List Int} {wz:World} {T3 P0:Nat} {OK:Nat→Prop} {m1 d1:Int} {io1 bo1:Option Addr} {n1 ic1 N1 bc1:Nat} {B4:Nat} {B j' :Nat} {v:Value} {W W2:World} (h:VqdR g ao n cap cs wz T3 P0 OK m1 d1 io1 bo1 n1 ic1 N1 bc1 B4 B j' v W):VqdR g ao n cap cs wz T3 P0 OK m1 d1 io1 bo1 n1 ic1 N1 bc1 B4 B j' v W2:=by
 unfold VqdR at *
 split<;>simp only at h<;>first | exact h | trivial
def SqdR (g:Nat) (ao:Option Addr) (n cap:Nat) (cs:List Int) (wz:World) (T3 P0:Nat) (OK:Nat→Prop) (m1 d1:Int) (io1 bo1:Option Addr) (n1 ic1 N1 bc1:Nat) (B4:Nat) (lz:Array Bool) (az:Act) (W:World):Prop:=PqF g ao n cap cs wz T3 P0 OK m1 d1 io1 bo1 n1 ic1 N1 bc1 B4 W∧AnE B4 [.int .i64 0,.int .i64 0,.slice none 0 0,.slice none 0 0] XqF TgF 5 6 7 8 10 11 31 32 25 33 7 lz az W
def JqdR (g:Nat) (ao:Option Addr) (n cap:Nat) (cs:List Int) (wz:World) (T3 P0:Nat) (OK:Nat→Prop) (m1 d1:Int) (io1 bo1:Option Addr) (n1 ic1 N1 bc1:Nat) (B4:Nat) (w0:World) (a0:Act) (lz:Array Bool) (az:Act) (W:World):Prop:=InvQ (g) [some 26,some 27,some 28,some 29,some 30,some 31,some 32,some 25,some 33,some 34,some 7,none,some 8] (VqdR g ao n cap cs wz T3 P0 OK m1 d1 io1 bo1 n1 ic1 N1 bc1 B4 (g)) w0 a0 lz az W∧SqdR g ao n cap cs wz T3 P0 OK m1 d1 io1 bo1 n1 ic1 N1 bc1 B4 lz az W
theorem qdR {Q:Exit→Act→World→Prop} {g:Nat} {ao:Option Addr} {n cap:Nat} {cs:List Int} {wz:World} {T3 P0:Nat} {OK:Nat→Prop} {m1 d1:Int} {io1 bo1:Option Addr} {n1 ic1 N1 bc1:Nat} {B4:Nat} {w0:World} {a0:Act} {idq:Nat} {t0 t1 t2 t3 t4 t5 t6 t7 t8 t9 t10 t11 t12:TypeId} {q0 q1 q2 q3 q4 q5 q6 q7 q8 q9 q10 q11 q12:String}
   (hB4:T3<B4∧P0<B4∧wz.heap.size≤B4) (hB4g:g<B4) (hg0:B4=w0.heap.size) (hTG:TgK XqF TgF) (hP0:PqF g ao n cap cs wz T3 P0 OK m1 d1 io1 bo1 n1 ic1 N1 bc1 B4 w0.drew) (h0:a0.tmps[0]? =some (.pointer (some ⟨g,0,none⟩))) (h3:a0.tmps[3]? =some (.pointer (some ⟨T3,0,none⟩))) (hz:a0.tmps.size=82)
   (hQ:∀aq W,aq.tmps.size=a0.tmps.size→aq.defers=a0.defers→(∀e,e∉([26,27,28,29,30,31,32,25,33,34,7,8]:List Nat)→aq.tmps[e]? =a0.tmps[e]?)→VqdR g ao n cap cs wz T3 P0 OK m1 d1 io1 bo1 n1 ic1 N1 bc1 B4 (g) 12 (aq.tmps.getD 8 undef) W→Below (g) w0 W→((∃gg vs lo hi,aq.tmps.getD 7 undef= .pointer (some ⟨gg,0,none⟩)∧B4≤gg∧Blk W gg vs∧TgF (.agg vs.toArray) lo hi W∧B4≤lo∧hi≤W.heap.size∧(gg<lo∨hi≤gg))∧PqF g ao n cap cs wz T3 P0 OK m1 d1 io1 bo1 n1 ic1 N1 bc1 B4 W)→Q .normal aq W) :
   (Code.region idq #[{dst:=some 26,op:=Op.load 34 (.tmp 3),type:=t0,pos:=q0,after:=#[],guard:=none},
   {dst:=some 27,op:=Op.move (.tmp 0),type:=t1,pos:=q1,after:=#[],guard:=none},
   {dst:=some 28,op:=Op.call {callee:=Callee.value (Operand.func 87),args:=#[.tmp 27,Operand.const (Value.int IntKind.i64 9)],argTypes:=#[93,3]},type:=t2,pos:=q2,after:=#[⟨1,.data⟩],guard:=none},
   {dst:=some 29,op:=Op.binOp BinOp.add 3 (Operand.const (Value.int IntKind.i64 1)) (.tmp 28) 3,type:=t3,pos:=q3,after:=#[⟨2,.data⟩],guard:=none},
   {dst:=some 30,op:=Op.move (.tmp 0),type:=t4,pos:=q4,after:=#[],guard:=none},
   {dst:=some 31,op:=Op.call {callee:=Callee.value (Operand.func 55),args:=#[.tmp 30],argTypes:=#[93]},type:=t5,pos:=q5,after:=#[⟨4,.data⟩,⟨2,.chain⟩],guard:=none},
   {dst:=some 32,op:=Op.call {callee:=Callee.value (Operand.func 8),args:=#[.tmp 26,.tmp 29,.tmp 31],argTypes:=#[34,2,40]},type:=t6,pos:=q6,after:=#[⟨0,.data⟩,⟨3,.data⟩,⟨5,.data⟩,⟨5,.chain⟩],guard:=none},
   {dst:=some 25,op:=Op.move (.tmp 32),type:=t7,pos:=q7,after:=#[⟨6,.data⟩],guard:=none},
   {dst:=some 33,op:=Op.extract (.tmp 25) 0,type:=t8,pos:=q8,after:=#[⟨7,.data⟩],guard:=none},
   {dst:=some 34,op:=Op.extract (.tmp 25) 1,type:=t9,pos:=q9,after:=#[⟨7,.data⟩,{on:=11,ground:=Ground.gcOnly Departure.lateStores}],guard:=none},
   {dst:=some 7,op:=Op.alloc 34,type:=t10,pos:=q10,after:=#[],guard:=none},
   {dst:=none,op:=Op.store 34 (.tmp 7) (.tmp 33),type:=t11,pos:=q11,after:=#[⟨10,.data⟩,⟨8,.data⟩,⟨6,.chain⟩,⟨0,.phase⟩,⟨1,.phase⟩,⟨2,.phase⟩,⟨3,.phase⟩,⟨4,.phase⟩,⟨5,.phase⟩,⟨6,.phase⟩,⟨7,.phase⟩,⟨8,.phase⟩,{on:=9,ground:=Ground.textOnly Departure.lateStores},⟨10,.phase⟩],guard:=none},
   {dst:=some 8,op:=Op.assign (.tmp 34),type:=t12,pos:=q12,after:=#[⟨9,.data⟩,⟨11,.chain⟩,⟨0,.phase⟩,⟨1,.phase⟩,⟨2,.phase⟩,⟨3,.phase⟩,⟨4,.phase⟩,⟨5,.phase⟩,⟨6,.phase⟩,⟨7,.phase⟩,⟨8,.phase⟩,⟨9,.phase⟩,⟨10,.phase⟩,⟨11,.phase⟩],guard:=none}] true).wp Try.prog Q a0 w0:=by
 have hS:distS [some 26,some 27,some 28,some 29,some 30,some 31,some 32,some 25,some 33,some 34,some 7,none,some 8]=true:=rfl
 refine wp_region_inv (by kernel_rfl) (JqdR g ao n cap cs wz T3 P0 OK m1 d1 io1 bo1 n1 ic1 N1 bc1 B4 w0 a0) ⟨⟨rfl,rfl,rfl,fun _ _=>rfl,(Below.refl _ w0).drew,fun j d hj=>?_,fun j hj=>?_⟩,⟨hP0,AnE.start⟩⟩ ?_ ?_
 · exfalso
   rw[Array.getD_eq_getD_getElem?,Array.getElem?_replicate] at hj
   split at hj<;>simp at hj
 · exfalso
   rw[Array.getD_eq_getD_getElem?,Array.getElem?_replicate] at hj
   split at hj<;>simp at hj
 · intro lq aq W iq oq ⟨hJ,hs⟩ hl ho hall
   have hJ2:=hJ
   obtain⟨z1,z2,z3,z4,z5,z6,z7⟩:=hJ
   have g0:aq.tmps.getD 0 undef= .pointer (some ⟨g,0,none⟩):=by rw[Array.getD_eq_getD_getElem?,z4 0 (by decide),h0];rfl
   have g3:aq.tmps.getD 3 undef= .pointer (some ⟨T3,0,none⟩):=by rw[Array.getD_eq_getD_getElem?,z4 3 (by decide),h3];rfl
   match iq,ho with
   | 0,ho=>
     cases ho
     refine wpOp_of rfl rfl ?_
     have hT3:=hs.1.tree
     have v0:=hT3.c 0 rfl;have v1:=hT3.c 1 rfl;have v2:=hT3.c 2 rfl;have v3:=hT3.c 3 rfl
     clear hT3
     have hK:=fun(v:Value) (W2:World) hW hT hv (hs:SqdR g ao n cap cs wz T3 P0 OK m1 d1 io1 bo1 n1 ic1 N1 bc1 B4 (lq.setIfInBounds 0 true) (aq.put (some 26) v) W2)=>show(JqdR g ao n cap cs wz T3 P0 OK m1 d1 io1 bo1 n1 ic1 N1 bc1 B4 w0 a0) (lq.setIfInBounds 0 true) (aq.put (some 26) v) W2 from⟨hJ2.put hS 0 26 rfl (by omega) (W' :=W2) hW hT v hv,hs⟩
     clear ho hall hl hQ
     generalize (JqdR g ao n cap cs wz T3 P0 OK m1 d1 io1 bo1 n1 ic1 N1 bc1 B4 w0 a0) (lq.setIfInBounds 0 true)=K at hK⊢
     clear hJ2 hS z1 z2 z3 z4 z6 z7
     go_simp
     exact hK _ _ z5 (fun _ _ h=>h) rfl ⟨hs.1,AnE.quiet hs.2 0 26 _ (by decide) (by decide)⟩
   | 1,ho=>
     cases ho
     refine wpOp_of rfl rfl ?_
     have hK:=fun(v:Value) (W2:World) hW hT hv (hs:SqdR g ao n cap cs wz T3 P0 OK m1 d1 io1 bo1 n1 ic1 N1 bc1 B4 (lq.setIfInBounds 1 true) (aq.put (some 27) v) W2)=>show(JqdR g ao n cap cs wz T3 P0 OK m1 d1 io1 bo1 n1 ic1 N1 bc1 B4 w0 a0) (lq.setIfInBounds 1 true) (aq.put (some 27) v) W2 from⟨hJ2.put hS 1 27 rfl (by omega) (W' :=W2) hW hT v hv,hs⟩
     clear ho hall hl hQ
     generalize (JqdR g ao n cap cs wz T3 P0 OK m1 d1 io1 bo1 n1 ic1 N1 bc1 B4 w0 a0) (lq.setIfInBounds 1 true)=K at hK⊢
     clear hJ2 hS z1 z2 z3 z4 z6 z7
     go_simp
     exact hK _ _ z5 (fun _ _ h=>h) rfl (⟨hs.1,AnE.quiet hs.2 1 27 _ (by decide) (by decide)⟩)
   | 2,ho=>
     cases ho
     refine wpOp_of rfl rfl ?_
     have f1:(aq.tmps.getD 27 undef)= .pointer (some ⟨g,0,none⟩):=z6 1 27 (hall ⟨1,.data⟩ (by simp) rfl) rfl
     have hK:=fun(v:Value) (W2:World) hW hT hv (hs:SqdR g ao n cap cs wz T3 P0 OK m1 d1 io1 bo1 n1 ic1 N1 bc1 B4 (lq.setIfInBounds 2 true) (aq.put (some 28) v) W2)=>show(JqdR g ao n cap cs wz T3 P0 OK m1 d1 io1 bo1 n1 ic1 N1 bc1 B4 w0 a0) (lq.setIfInBounds 2 true) (aq.put (some 28) v) W2 from⟨hJ2.put hS 2 28 rfl (by omega) (W' :=W2) hW hT v hv,hs⟩
     clear ho hall hl hQ
     generalize (JqdR g ao n cap cs wz T3 P0 OK m1 d1 io1 bo1 n1 ic1 N1 bc1 B4 w0 a0) (lq.setIfInBounds 2 true)=K at hK⊢
     clear hJ2 hS z1 z2 z3 z4 z6 z7
     go_simp
     refine(below_any 9 (by decide) (by decide) g ao n cap cs W hs.1.rdr).mono ?_
     rintro r v1 ⟨_,rfl,⟨y2,rfl,y20,y21⟩,R1,K1⟩
     exact hK _ _ (z5.trans (K1.below (Nat.le_refl _) (Nat.le_of_lt (Rdr.lt hs.1.rdr)))) (fun j v h=>VqdR.same h) ⟨y2,rfl,y20,y21⟩ ⟨hs.1.kept hB4g R1 K1,AnE.quiet (AnE.stepK (W2:=v1) hTG (fun _ _=>trivial) hs.2 K1.size (fun b h1 h2=>K1.block b h2 (by omega))) 2 28 _ (by decide) (by decide)⟩
   | 3,ho=>
     cases ho
     refine wpOp_of rfl rfl ?_
     have f2:∃x:Int,(aq.tmps.getD 28 undef)= .int .i64 x∧0≤x∧x<9:=z6 2 28 (hall ⟨2,.data⟩ (by simp) rfl) rfl
     obtain⟨x2,e2,x20,x21⟩:=f2
     rw[Array.getD_eq_getD_getElem?] at e2
     have hK:=fun(v:Value) (W2:World) hW hT hv (hs:SqdR g ao n cap cs wz T3 P0 OK m1 d1 io1 bo1 n1 ic1 N1 bc1 B4 (lq.setIfInBounds 3 true) (aq.put (some 29) v) W2)=>show(JqdR g ao n cap cs wz T3 P0 OK m1 d1 io1 bo1 n1 ic1 N1 bc1 B4 w0 a0) (lq.setIfInBounds 3 true) (aq.put (some 29) v) W2 from⟨hJ2.put hS 3 29 rfl (by omega) (W' :=W2) hW hT v hv,hs⟩
     clear ho hall hl hQ
     generalize (JqdR g ao n cap cs wz T3 P0 OK m1 d1 io1 bo1 n1 ic1 N1 bc1 B4 w0 a0) (lq.setIfInBounds 3 true)=K at hK⊢
     clear hJ2 hS z1 z2 z3 z4 z6 z7
     go_simp
     exact hK _ _ z5 (fun _ _ h=>h) ⟨_,rfl⟩ ⟨hs.1,AnE.quiet hs.2 3 29 _ (by decide) (by decide)⟩
   | 4,ho=>
     cases ho
     refine wpOp_of rfl rfl ?_
     have hK:=fun(v:Value) (W2:World) hW hT hv (hs:SqdR g ao n cap cs wz T3 P0 OK m1 d1 io1 bo1 n1 ic1 N1 bc1 B4 (lq.setIfInBounds 4 true) (aq.put (some 30) v) W2)=>show(JqdR g ao n cap cs wz T3 P0 OK m1 d1 io1 bo1 n1 ic1 N1 bc1 B4 w0 a0) (lq.setIfInBounds 4 true) (aq.put (some 30) v) W2 from⟨hJ2.put hS 4 30 rfl (by omega) (W' :=W2) hW hT v hv,hs⟩
     clear ho hall hl hQ
     generalize (JqdR g ao n cap cs wz T3 P0 OK m1 d1 io1 bo1 n1 ic1 N1 bc1 B4 w0 a0) (lq.setIfInBounds 4 true)=K at hK⊢
     clear hJ2 hS z1 z2 z3 z4 z6 z7
     go_simp
     exact hK _ _ z5 (fun _ _ h=>h) rfl (⟨hs.1,AnE.quiet hs.2 4 30 _ (by decide) (by decide)⟩)
   | 5,ho=>
     cases ho
     refine wpOp_of rfl rfl ?_
     have f4:(aq.tmps.getD 30 undef)= .pointer (some ⟨g,0,none⟩):=z6 4 30 (hall ⟨4,.data⟩ (by simp) rfl) rfl
     have hsz31:31<aq.tmps.size:=by omega
     have hK:=fun(v:Value) (W2:World) hW hT hv (hs:SqdR g ao n cap cs wz T3 P0 OK m1 d1 io1 bo1 n1 ic1 N1 bc1 B4 (lq.setIfInBounds 5 true) (aq.put (some 31) v) W2)=>show(JqdR g ao n cap cs wz T3 P0 OK m1 d1 io1 bo1 n1 ic1 N1 bc1 B4 w0 a0) (lq.setIfInBounds 5 true) (aq.put (some 31) v) W2 from⟨hJ2.put hS 5 31 rfl (by omega) (W' :=W2) hW hT v hv,hs⟩
     clear ho hall hl hQ
     generalize (JqdR g ao n cap cs wz T3 P0 OK m1 d1 io1 bo1 n1 ic1 N1 bc1 B4 w0 a0) (lq.setIfInBounds 5 true)=K at hK⊢
     clear hJ2 hS z1 z2 z3 z4 z6 z7
     go_simp
     refine(farSeg_any g ao n cap cs W hs.1.rdr).mono ?_
     rintro r v1 ⟨_,rfl,⟨ya,yb,yc,yd,rfl,_,_,_,_⟩,R1,K1⟩
     exact hK _ _ (z5.trans (K1.below (Nat.le_refl _) (Nat.le_of_lt (Rdr.lt hs.1.rdr)))) (fun j v h=>VqdR.same h) ⟨ya,yb,yc,yd,rfl⟩ ⟨hs.1.kept hB4g R1 K1,AnE.ask (AnE.stepK (W2:=v1) hTG (fun _ _=>trivial) hs.2 K1.size (fun b h1 h2=>K1.block b h2 (by omega))) _ (show AnD 5 6 7 8 10 11 31 32 25 33 7 by unfold AnD;omega) hsz31 trivial⟩
   | 6,ho=>
     cases ho
     refine wpOp_of rfl rfl ?_
     have f0:(aq.tmps.getD 26 undef)= .agg #[.int .i64 m1,.int .i64 d1,.slice io1 n1 ic1,.slice bo1 N1 bc1]:=z6 0 26 (hall ⟨0,.data⟩ (by simp) rfl) rfl
     have f3:∃x:Int,(aq.tmps.getD 29 undef)= .int .i64 x:=z6 3 29 (hall ⟨3,.data⟩ (by simp) rfl) rfl
     obtain⟨x3,e3⟩:=f3
     have f5:∃x y zz t:Int,(aq.tmps.getD 31 undef)= .agg #[.int .i64 x,.int .i64 y,.int .i64 zz,.int .i64 t]:=z6 5 31 (hall ⟨5,.data⟩ (by simp) rfl) rfl
     obtain⟨sa,sb,sc,sd,e5⟩:=f5
     have hl6:=hl
     have hsz32:32<aq.tmps.size:=by omega
     rw[Array.getD_eq_getD_getElem?] at e3 e5
     have hK:=fun(v:Value) (W2:World) hW hT hv (hs:SqdR g ao n cap cs wz T3 P0 OK m1 d1 io1 bo1 n1 ic1 N1 bc1 B4 (lq.setIfInBounds 6 true) (aq.put (some 32) v) W2)=>show(JqdR g ao n cap cs wz T3 P0 OK m1 d1 io1 bo1 n1 ic1 N1 bc1 B4 w0 a0) (lq.setIfInBounds 6 true) (aq.put (some 32) v) W2 from⟨hJ2.put hS 6 32 rfl (by omega) (W' :=W2) hW hT v hv,hs⟩
     clear ho hall hl hQ
     generalize (JqdR g ao n cap cs wz T3 P0 OK m1 d1 io1 bo1 n1 ic1 N1 bc1 B4 w0 a0) (lq.setIfInBounds 6 true)=K at hK⊢
     clear hJ2 hS z1 z2 z3 z4 z6 z7
     go_simp
     refine(putT_draw (k:=41) (by omega) x3 sa sb sc sd W (fun y hy=>hy) hs.1.old).mono ?_
     rintro r v1 ⟨u1,b1,rfl,hT,hBv⟩
     exact hK _ _ (z5.trans (hBv.mono (Nat.le_of_lt (Rdr.lt hs.1.rdr)))) (fun j v h=>VqdR.same h) ⟨u1,b1,rfl⟩ ⟨hs.1.step hBv,AnE.call hTG hs.2 (show AnD 5 6 7 8 10 11 31 32 25 33 7 by unfold AnD;omega) hsz32 hl6 hBv b1 (show TgF u1 W.heap.size v1.heap.size v1 from hT.to (fun b h1 h2=>⟨h1,h2⟩)) (Nat.le_refl _) (Nat.le_refl _) hs.1.size⟩
   | 7,ho=>
     cases ho
     refine wpOp_of rfl rfl ?_
     have f6:∃(u:Value) (b:Bool),(aq.tmps.getD 32 undef)= .tuple #[u,.bool b]:=z6 6 32 (hall ⟨6,.data⟩ (by simp) rfl) rfl
     obtain⟨u6,b6,e6⟩:=f6
     have hc5:lq.getD 6 false=true:=hall ⟨6,.data⟩ (by simp) rfl
     have hsz25:25<aq.tmps.size:=by omega
     have e6o:=e6
     rw[Array.getD_eq_getD_getElem?] at e6
     have hK:=fun(v:Value) (W2:World) hW hT hv (hs:SqdR g ao n cap cs wz T3 P0 OK m1 d1 io1 bo1 n1 ic1 N1 bc1 B4 (lq.setIfInBounds 7 true) (aq.put (some 25) v) W2)=>show(JqdR g ao n cap cs wz T3 P0 OK m1 d1 io1 bo1 n1 ic1 N1 bc1 B4 w0 a0) (lq.setIfInBounds 7 true) (aq.put (some 25) v) W2 from⟨hJ2.put hS 7 25 rfl (by omega) (W' :=W2) hW hT v hv,hs⟩
     clear ho hall hl hQ
     generalize (JqdR g ao n cap cs wz T3 P0 OK m1 d1 io1 bo1 n1 ic1 N1 bc1 B4 w0 a0) (lq.setIfInBounds 7 true)=K at hK⊢
     clear hJ2 hS z1 z2 z3 z4 z6 z7
     go_simp
     exact hK _ _ z5 (fun _ _ h=>h) ⟨u6,b6,rfl⟩ (⟨hs.1,AnE.move hs.2 (show AnD 5 6 7 8 10 11 31 32 25 33 7 by unfold AnD;omega) hsz25 hc5 e6o.symm⟩)
   | 8,ho=>
     cases ho
     refine wpOp_of rfl rfl ?_
     have f7:∃(u:Value) (b:Bool),(aq.tmps.getD 25 undef)= .tuple #[u,.bool b]:=z6 7 25 (hall ⟨7,.data⟩ (by simp) rfl) rfl
     obtain⟨u7,b7,e7⟩:=f7
     have hm6:lq.getD 7 false=true:=hall ⟨7,.data⟩ (by simp) rfl
     have hsz33:33<aq.tmps.size:=by omega
     have e7o:=e7
     rw[Array.getD_eq_getD_getElem?] at e7
     have hK:=fun(v:Value) (W2:World) hW hT hv (hs:SqdR g ao n cap cs wz T3 P0 OK m1 d1 io1 bo1 n1 ic1 N1 bc1 B4 (lq.setIfInBounds 8 true) (aq.put (some 33) v) W2)=>show(JqdR g ao n cap cs wz T3 P0 OK m1 d1 io1 bo1 n1 ic1 N1 bc1 B4 w0 a0) (lq.setIfInBounds 8 true) (aq.put (some 33) v) W2 from⟨hJ2.put hS 8 33 rfl (by omega) (W' :=W2) hW hT v hv,hs⟩
     clear ho hall hl hQ
     generalize (JqdR g ao n cap cs wz T3 P0 OK m1 d1 io1 bo1 n1 ic1 N1 bc1 B4 w0 a0) (lq.setIfInBounds 8 true)=K at hK⊢
     clear hJ2 hS z1 z2 z3 z4 z6 z7
     go_simp
     exact hK _ _ z5 (fun _ _ h=>h) trivial (⟨hs.1,AnE.take hs.2 (show AnD 5 6 7 8 10 11 31 32 25 33 7 by unfold AnD;omega) hsz33 hm6 e7o⟩)
   | 9,ho=>
     cases ho
     refine wpOp_of rfl rfl ?_
     have f7:∃(u:Value) (b:Bool),(aq.tmps.getD 25 undef)= .tuple #[u,.bool b]:=z6 7 25 (hall ⟨7,.data⟩ (by simp) rfl) rfl
     obtain⟨u7,b7,e7⟩:=f7
     rw[Array.getD_eq_getD_getElem?] at e7
     have hK:=fun(v:Value) (W2:World) hW hT hv (hs:SqdR g ao n cap cs wz T3 P0 OK m1 d1 io1 bo1 n1 ic1 N1 bc1 B4 (lq.setIfInBounds 9 true) (aq.put (some 34) v) W2)=>show(JqdR g ao n cap cs wz T3 P0 OK m1 d1 io1 bo1 n1 ic1 N1 bc1 B4 w0 a0) (lq.setIfInBounds 9 true) (aq.put (some 34) v) W2 from⟨hJ2.put hS 9 34 rfl (by omega) (W' :=W2) hW hT v hv,hs⟩
     clear ho hall hl hQ
     generalize (JqdR g ao n cap cs wz T3 P0 OK m1 d1 io1 bo1 n1 ic1 N1 bc1 B4 w0 a0) (lq.setIfInBounds 9 true)=K at hK⊢
     clear hJ2 hS z1 z2 z3 z4 z6 z7
     go_simp
     exact hK _ _ z5 (fun _ _ h=>h) ⟨b7,rfl⟩ (⟨hs.1,AnE.quiet hs.2 9 34 _ (by decide) (by decide)⟩)
   | 10,ho=>
     cases ho
     refine wpOp_of rfl rfl ?_
     have hl9:=hl
     have hsz7:7<aq.tmps.size:=by omega
     have hK:=fun(v:Value) (W2:World) hW hT hv (hs:SqdR g ao n cap cs wz T3 P0 OK m1 d1 io1 bo1 n1 ic1 N1 bc1 B4 (lq.setIfInBounds 10 true) (aq.put (some 7) v) W2)=>show(JqdR g ao n cap cs wz T3 P0 OK m1 d1 io1 bo1 n1 ic1 N1 bc1 B4 w0 a0) (lq.setIfInBounds 10 true) (aq.put (some 7) v) W2 from⟨hJ2.put hS 10 7 rfl (by omega) (W' :=W2) hW hT v hv,hs⟩
     clear ho hall hl hQ
     generalize (JqdR g ao n cap cs wz T3 P0 OK m1 d1 io1 bo1 n1 ic1 N1 bc1 B4 w0 a0) (lq.setIfInBounds 10 true)=K at hK⊢
     clear hJ2 hS z1 z2 z3 z4 z6 z7
     go_simp
     exact hK _ _ (z5.alloc (by have:=hs.1.rdr.lt;omega) _) (fun j v h=>VqdR.same h) trivial ⟨hs.1.step ((Below.refl _ _).alloc (Nat.le_refl _) _),AnE.lay hTG hs.2 (show AnD 5 6 7 8 10 11 31 32 25 33 7 by unfold AnD;omega) hsz7 hl9 hs.1.size _⟩
   | 11,ho=>
     cases ho
     refine wpOp_of rfl rfl ?_
     have l9:lq.getD 10 false=true:=hall ⟨10,.data⟩ (by simp) rfl
     have l7:lq.getD 8 false=true:=hall ⟨8,.data⟩ (by simp) rfl
     have hl10:=hl
     obtain⟨gz,e9,hgz,GZ⟩:=AnE.laid hs.2 l9 hl10
     obtain⟨u7,lo7,hi7,e7,hT7⟩:=AnE.taken hs.2 l7 hl10
     obtain⟨m7,d7,io7,n7,ic7,bo7,N7,bc7,rfl,_⟩:=TqP.form hT7
     have gl:=GZ.lt
     have c0z:=GZ.c 0 rfl;have d0z:=GZ.f 0 rfl;have c1z:=GZ.c 1 rfl;have d1z:=GZ.f 1 rfl;have c2z:=GZ.c 2 rfl;have d2z:=GZ.f 2 rfl;have c3z:=GZ.c 3 rfl;have d3z:=GZ.f 3 rfl
     have NB:=(set4_blk GZ (.int .i64 m7) (.int .i64 d7) (.slice io7 n7 ic7) (.slice bo7 N7 bc7)).out
     have NL:Below g w0 ((((W.setCell ⟨gz,0,none⟩ (.int .i64 m7)).setCell ⟨gz,1,none⟩ (.int .i64 d7)).setCell ⟨gz,2,none⟩ (.slice io7 n7 ic7)).setCell ⟨gz,3,none⟩ (.slice bo7 N7 bc7)):=set4_below z5 (by omega) _ _ _ _
     have HS:SqdR g ao n cap cs wz T3 P0 OK m1 d1 io1 bo1 n1 ic1 N1 bc1 B4 (lq.setIfInBounds 11 true) aq ((((W.setCell ⟨gz,0,none⟩ (.int .i64 m7)).setCell ⟨gz,1,none⟩ (.int .i64 d7)).setCell ⟨gz,2,none⟩ (.slice io7 n7 ic7)).setCell ⟨gz,3,none⟩ (.slice bo7 N7 bc7)):=⟨hs.1.set4 hB4g hB4 hgz _ _ _ _,AnE.store hTG hs.2 (show AnD 5 6 7 8 10 11 31 32 25 33 7 by unfold AnD;omega) hl10 l9 l7 e9 e7 (by simp[World.setCell]) (fun b hb=>set4_heap hb) NB⟩
     rw[Array.getD_eq_getD_getElem?] at e9 e7
     clear GZ NB hT7
     have hK:=fun(W2:World) hW hT hv (hs:SqdR g ao n cap cs wz T3 P0 OK m1 d1 io1 bo1 n1 ic1 N1 bc1 B4 (lq.setIfInBounds 11 true) aq W2)=>show(JqdR g ao n cap cs wz T3 P0 OK m1 d1 io1 bo1 n1 ic1 N1 bc1 B4 w0 a0) (lq.setIfInBounds 11 true) aq W2 from⟨hJ2.world 11 rfl (W' :=W2) hW hT hv,hs⟩
     clear ho hall hl hQ
     generalize (JqdR g ao n cap cs wz T3 P0 OK m1 d1 io1 bo1 n1 ic1 N1 bc1 B4 w0 a0) (lq.setIfInBounds 11 true)=K at hK⊢
     clear hJ2 hS z1 z2 z3 z4 z6 z7
     go_simp
     exact hK _ NL (fun j v h=>VqdR.same h) trivial HS
   | 12,ho=>
     cases ho
     refine wpOp_of rfl rfl ?_
     have f9:∃b:Bool,(aq.tmps.getD 34 undef)= .bool b:=z6 9 34 (hall ⟨9,.data⟩ (by simp) rfl) rfl
     obtain⟨b9,e9⟩:=f9
     rw[Array.getD_eq_getD_getElem?] at e9
     have hK:=fun(v:Value) (W2:World) hW hT hv (hs:SqdR g ao n cap cs wz T3 P0 OK m1 d1 io1 bo1 n1 ic1 N1 bc1 B4 (lq.setIfInBounds 12 true) (aq.put (some 8) v) W2)=>show(JqdR g ao n cap cs wz T3 P0 OK m1 d1 io1 bo1 n1 ic1 N1 bc1 B4 w0 a0) (lq.setIfInBounds 12 true) (aq.put (some 8) v) W2 from⟨hJ2.put hS 12 8 rfl (by omega) (W' :=W2) hW hT v hv,hs⟩
     clear ho hall hl hQ
     generalize (JqdR g ao n cap cs wz T3 P0 OK m1 d1 io1 bo1 n1 ic1 N1 bc1 B4 w0 a0) (lq.setIfInBounds 12 true)=K at hK⊢
     clear hJ2 hS z1 z2 z3 z4 z6 z7
     go_simp
     exact hK _ _ z5 (fun _ _ h=>h) ⟨b9,rfl⟩ (⟨hs.1,AnE.quiet hs.2 12 8 _ (by decide) (by decide)⟩)
   | iq+13,ho=>simp at ho
 · intro lq aq W ⟨hJ,hs⟩ hr
   obtain⟨z1,z2,z3,z4,z5,z6,z7⟩:=hJ
   have hl:=listed_of hr [0,1,2,3,4,5,6,7,9,10,8,11,12] [] (by simp) (by kernel_rfl) (by rw[z1];decide)
   exact hQ aq W z2 z3 (fun e he=>z4 e (by simpa using he)) (z6 12 8 (hl 12 (by simp)) rfl) z5 (⟨AnE.done hs.2 (hl 11 (by simp)),hs.1⟩)
end Go.Proofs.Ytjhapeidafbncaa
