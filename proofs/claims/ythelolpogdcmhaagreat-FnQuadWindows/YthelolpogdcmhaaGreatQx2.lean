/- Part 2 of the walks that the proof leans on. -/
import Derived.Test.YthelolpogdcmhaaGreatQx1
import Derived.Deep.OwnRows
import Derived.Deep.RegionHeld3
import Derived.Deep.DeepCutAuto
set_option maxRecDepth 100000
set_option maxHeartbeats 16000000
namespace Go.Proofs.YthelolpogdcmhaaGreat
open Go.RowKit
def farK (j:Int):Int:=if j=0 then 1 else if j=1 then 1000 else if j=2 then 50000 else 160000
theorem farK_le (j:Int):1≤farK j∧farK j≤160000:=by
 unfold farK
 split
 · omega
 · split
   · omega
   · split<;>omega
theorem far_mul {k x:Int} (hk:1≤k∧k≤160000) (hx: -6≤x) (hx2:x≤7): -960000≤k*x∧k*x≤1120000:=by
 constructor
 · have h1:k*(-6)≤k*x:=Int.mul_le_mul_of_nonneg_left hx (by omega)
   omega
 · have h1:k*x≤k*7:=Int.mul_le_mul_of_nonneg_left hx2 (by omega)
   omega
theorem farSeg_any (g:Nat) (ao:Option Addr) (n cap:Nat) (cs:List Int) (w:World) (h:Rdr w g ao n cap cs) :
 Calls Tryz.prog 30 #[.pointer (some ⟨g,0,none⟩)] w (RdP g ao n cap cs IsSg w):=by
 have hg:=h.lt;have hne:w.heap.size≠g:=by omega
 have B:=Blk.new w [.int .i64 0,.int .i64 0,.int .i64 0,.int .i64 0] 38 rfl;rw[show([.int .i64 0,.int .i64 0,.int .i64 0,.int .i64 0]:List Value).toArray=#[.int .i64 0,.int .i64 0,.int .i64 0,.int .i64 0] from rfl] at B;have R:=h.alloc (.cells #[.int .i64 0,.int .i64 0,.int .i64 0,.int .i64 0] 38);have K:=(Kept.refl g w).alloc (.cells #[.int .i64 0,.int .i64 0,.int .i64 0,.int .i64 0] 38);clear h
 go_enter Tryz.func30,Tryz.ntmps30
 go_wp2_with fail;refine(once_any 3 (by decide) (by decide) g ao n cap cs _ R).mono ?_;rintro e w1 ⟨_,rfl,⟨b,rfl⟩,R1,K1⟩;replace K:=K.trans K1;replace B:=B.kept K1 hne;clear R K1;have R:=R1;clear R1;cases b
 rotate_left
 · go_wp2_with fail;refine(seg_any g ao n cap cs _ R).mono ?_;rintro e w2 ⟨_,rfl,⟨a,b,c,d,rfl,ia,ib,ic,id⟩,R1,K1⟩;replace K:=K.trans K1;replace B:=B.kept K1 hne;clear R K1;have R:=R1;clear R1;have o0:=B.c 0 rfl;have f0:=B.f 0 rfl;have o1:=B.c 1 rfl;have f1:=B.f 1 rfl;have o2:=B.c 2 rfl;have f2:=B.f 2 rfl;have o3:=B.c 3 rfl;have f3:=B.f 3 rfl;have ol:=B.lt;clear B;go_wp2;refine bodyPost_ret (v:= .agg #[.int .i64 a,.int .i64 b,.int .i64 c,.int .i64 d]) (by simp[results,Tryz.results30,go_sem,o0,o1,o2,o3]) rfl ?_;exact⟨_,rfl,⟨_,_,_,_,rfl,ia,ib,ic,id⟩,(((R.setN (by exact hg) _).setN (by exact hg) _).setN (by exact hg) _).setN (by exact hg) _,(((K.setN (by simp) (by simp;omega) _).setN (by simp) (by simp;omega) _).setN (by simp) (by simp;omega) _).setN (by simp) (by simp;omega) _⟩
 · have G:=Blk.new w1 [.int .i64 1,.int .i64 1000,.int .i64 50000,.int .i64 160000] 2 rfl;rw[show([.int .i64 1,.int .i64 1000,.int .i64 50000,.int .i64 160000]:List Value).toArray=#[.int .i64 1,.int .i64 1000,.int .i64 50000,.int .i64 160000] from rfl] at G;have hgl:=R.lt;have hgn:w1.heap.size≠g:=by omega
   replace B:=B.alloc (.cells #[.int .i64 1,.int .i64 1000,.int .i64 50000,.int .i64 160000] 2);replace R:=R.alloc (.cells #[.int .i64 1,.int .i64 1000,.int .i64 50000,.int .i64 160000] 2);replace K:=K.alloc (.cells #[.int .i64 1,.int .i64 1000,.int .i64 50000,.int .i64 160000] 2);go_wp2_with fail;refine(below_any 4 (by decide) (by decide) g ao n cap cs _ R).mono ?_;rintro e w2 ⟨_,rfl,⟨j,rfl,j0,j1⟩,R1,K1⟩;replace K:=K.trans K1;replace B:=B.kept K1 hne;replace G:=G.kept K1 hgn;clear R K1;have R:=R1;clear R1;obtain⟨jn,rfl⟩:∃jn:Nat,j=(jn:Int):=⟨j.toNat,by omega⟩;have hj4:jn<4:=by omega
   have hG:w2.cell? ⟨w1.heap.size,jn,none⟩=some (.int .i64 (farK (jn:Int))):=by
    rcases(show jn=0∨jn=1∨jn=2∨jn=3 by omega) with e | e | e | e<;>subst e
    · exact G.c 0 rfl
    · exact G.c 1 rfl
    · exact G.c 2 rfl
    · exact G.c 3 rfl
   have hfk:=farK_le (jn:Int);obtain⟨k,hk⟩:∃k,farK (jn:Int)=k:=⟨_,rfl⟩;rw[hk] at hG hfk;have hj4I:(jn:Int)<4:=by omega
   clear G hk j0 j1;go_wp2_with fail;refine(spot_any g ao n cap cs _ R).mono ?_;rintro e w3 ⟨_,rfl,⟨x,y,rfl,x0,x1,y0,y1⟩,R1,K1⟩;replace K:=K.trans K1;replace B:=B.kept K1 hne;clear R K1;have R:=R1;clear R1;have A4:=Blk.new w3 [.int .i64 x,.int .i64 y] 29 rfl;rw[show([.int .i64 x,.int .i64 y]:List Value).toArray=#[.int .i64 x,.int .i64 y] from rfl] at A4;have h3g:w3.heap.size≠g:=by have:=R.lt;omega
   replace B:=B.alloc (.cells #[.int .i64 x,.int .i64 y] 29);replace R:=R.alloc (.cells #[.int .i64 x,.int .i64 y] 29);replace K:=K.alloc (.cells #[.int .i64 x,.int .i64 y] 29);go_upto_region 5 with fail;generalize (w3.alloc (.cells #[.int .i64 x,.int .i64 y] 29))=W4 at *;go_wp2_with fail;refine(spot_any g ao n cap cs _ R).mono ?_;rintro e w5 ⟨_,rfl,⟨u,v,rfl,u0,u1,v0,v1⟩,R1,K1⟩;replace K:=K.trans K1;replace B:=B.kept K1 hne;replace A4:=A4.kept K1 h3g;clear R K1;have R:=R1;clear R1;have A5:=Blk.new w5 [.int .i64 u,.int .i64 v] 29 rfl;rw[show([.int .i64 u,.int .i64 v]:List Value).toArray=#[.int .i64 u,.int .i64 v] from rfl] at A5;have h5g:w5.heap.size≠g:=by have:=R.lt;omega
   have h35:w3.heap.size<w5.heap.size:=A4.lt;have hs5:w.heap.size<w5.heap.size:=B.lt;have hgs:g<w5.heap.size:=R.lt;replace B:=B.alloc (.cells #[.int .i64 u,.int .i64 v] 29);replace R:=R.alloc (.cells #[.int .i64 u,.int .i64 v] 29);replace K:=K.alloc (.cells #[.int .i64 u,.int .i64 v] 29);replace A4:=A4.alloc (.cells #[.int .i64 u,.int .i64 v] 29);go_upto_region 6 with fail;generalize (w5.alloc (.cells #[.int .i64 u,.int .i64 v] 29))=W6 at *;have EQ:=eqSpo x y u v
   by_cases hxu:x=u
   rotate_left
   · have dx:decide (x=u)=false:=decide_eq_false hxu;have a0:=A4.c 0 rfl;have a1:=A4.c 1 rfl;have c0:=A5.c 0 rfl;have c1:=A5.c 1 rfl;go_upto_region 8 with fail;clear EQ dx a0 a1 c0 c1 hxu;have mx:=far_mul hfk (x:=x) (by omega) (by omega);have my:=far_mul hfk (x:=y) (by omega) (by omega);have mu:=far_mul hfk (x:=u) (by omega) (by omega);have mv:=far_mul hfk (x:=v) (by omega) (by omega);obtain⟨kx,hkx⟩:∃z,k*x=z:=⟨_,rfl⟩;obtain⟨ky,hky⟩:∃z,k*y=z:=⟨_,rfl⟩;obtain⟨ku,hku⟩:∃z,k*(u)=z:=⟨_,rfl⟩;obtain⟨kv,hkv⟩:∃z,k*v=z:=⟨_,rfl⟩;rw[hkx] at mx;rw[hky] at my;rw[hku] at mu;rw[hkv] at mv;have wx:IntKind.i64.wrap (k*x)=kx:=by rw[hkx,IntKind.wrap_i64];omega
     have wy:IntKind.i64.wrap (k*y)=ky:=by rw[hky,IntKind.wrap_i64];omega
     have wu:IntKind.i64.wrap (k*(u))=ku:=by rw[hku,IntKind.wrap_i64];omega
     have wv:IntKind.i64.wrap (k*v)=kv:=by rw[hkv,IntKind.wrap_i64];omega
     obtain⟨sa,sb,sc,sd,sk,isa,isb,isc,isd,SO⟩:=segOf_ex kx ky ku kv (by constructor<;>omega) (by constructor<;>omega) (by constructor<;>omega) (by constructor<;>omega);have a0:=A4.c 0 rfl;have a1:=A4.c 1 rfl;have c0:=A5.c 0 rfl;have c1:=A5.c 1 rfl;clear hkx hky hku hkv mx my mu mv A4 A5;go_wp2_with fail;refine(SO W6).mono ?_;rintro e w7 ⟨rfl,hB7⟩;clear SO a0 a1 c0 c1 wx wy wu wv;replace B:=B.step hB7;replace R:=R.step hB7;replace K:=K.trans (Kept.of hB7);clear hB7;have B8:=B.alloc (.cells #[.int .i64 sa,.int .i64 sb,.int .i64 sc,.int .i64 sd] 38);have R8:=R.alloc (.cells #[.int .i64 sa,.int .i64 sb,.int .i64 sc,.int .i64 sd] 38);have K8:=K.alloc (.cells #[.int .i64 sa,.int .i64 sb,.int .i64 sc,.int .i64 sd] 38);have D8:=Blk.new w7 [.int .i64 sa,.int .i64 sb,.int .i64 sc,.int .i64 sd] 38 rfl;rw[show([.int .i64 sa,.int .i64 sb,.int .i64 sc,.int .i64 sd]:List Value).toArray=#[.int .i64 sa,.int .i64 sb,.int .i64 sc,.int .i64 sd] from rfl] at D8;clear B R K;go_upto_region 9 with fail;generalize (w7.alloc (.cells #[.int .i64 sa,.int .i64 sb,.int .i64 sc,.int .i64 sd] 38))=W8 at *;have d0:=D8.c 0 rfl;have d1:=D8.c 1 rfl;have d2:=D8.c 2 rfl;have d3:=D8.c 3 rfl;have B:=B8;have R:=R8;have K:=K8;clear B8 R8 K8 D8;have o0:=B.c 0 rfl;have f0:=B.f 0 rfl;have o1:=B.c 1 rfl;have f1:=B.f 1 rfl;have o2:=B.c 2 rfl;have f2:=B.f 2 rfl;have o3:=B.c 3 rfl;have f3:=B.f 3 rfl;have ol:=B.lt;clear B;go_wp2;refine bodyPost_ret (v:= .agg #[.int .i64 sa,.int .i64 sb,.int .i64 sc,.int .i64 sd]) (by simp[results,Tryz.results30,go_sem,o0,o1,o2,o3]) rfl ?_;exact⟨_,rfl,⟨_,_,_,_,rfl,isa,isb,isc,isd⟩,(((R.setN (by exact hg) _).setN (by exact hg) _).setN (by exact hg) _).setN (by exact hg) _,(((K.setN (by simp) (by simp;omega) _).setN (by simp) (by simp;omega) _).setN (by simp) (by simp;omega) _).setN (by simp) (by simp;omega) _⟩
   by_cases hyv:y=v
   rotate_left
   · have dx:decide (x=u)=true:=decide_eq_true hxu;have dy:decide (y=v)=false:=decide_eq_false hyv;have a0:=A4.c 0 rfl;have a1:=A4.c 1 rfl;have c0:=A5.c 0 rfl;have c1:=A5.c 1 rfl;go_upto_region 8 with fail;clear EQ dx dy a0 a1 c0 c1 hxu hyv;have mx:=far_mul hfk (x:=x) (by omega) (by omega);have my:=far_mul hfk (x:=y) (by omega) (by omega);have mu:=far_mul hfk (x:=u) (by omega) (by omega);have mv:=far_mul hfk (x:=v) (by omega) (by omega);obtain⟨kx,hkx⟩:∃z,k*x=z:=⟨_,rfl⟩;obtain⟨ky,hky⟩:∃z,k*y=z:=⟨_,rfl⟩;obtain⟨ku,hku⟩:∃z,k*(u)=z:=⟨_,rfl⟩;obtain⟨kv,hkv⟩:∃z,k*v=z:=⟨_,rfl⟩;rw[hkx] at mx;rw[hky] at my;rw[hku] at mu;rw[hkv] at mv;have wx:IntKind.i64.wrap (k*x)=kx:=by rw[hkx,IntKind.wrap_i64];omega
     have wy:IntKind.i64.wrap (k*y)=ky:=by rw[hky,IntKind.wrap_i64];omega
     have wu:IntKind.i64.wrap (k*(u))=ku:=by rw[hku,IntKind.wrap_i64];omega
     have wv:IntKind.i64.wrap (k*v)=kv:=by rw[hkv,IntKind.wrap_i64];omega
     obtain⟨sa,sb,sc,sd,sk,isa,isb,isc,isd,SO⟩:=segOf_ex kx ky ku kv (by constructor<;>omega) (by constructor<;>omega) (by constructor<;>omega) (by constructor<;>omega);have a0:=A4.c 0 rfl;have a1:=A4.c 1 rfl;have c0:=A5.c 0 rfl;have c1:=A5.c 1 rfl;clear hkx hky hku hkv mx my mu mv A4 A5;go_wp2_with fail;refine(SO W6).mono ?_;rintro e w7 ⟨rfl,hB7⟩;clear SO a0 a1 c0 c1 wx wy wu wv;replace B:=B.step hB7;replace R:=R.step hB7;replace K:=K.trans (Kept.of hB7);clear hB7;have B8:=B.alloc (.cells #[.int .i64 sa,.int .i64 sb,.int .i64 sc,.int .i64 sd] 38);have R8:=R.alloc (.cells #[.int .i64 sa,.int .i64 sb,.int .i64 sc,.int .i64 sd] 38);have K8:=K.alloc (.cells #[.int .i64 sa,.int .i64 sb,.int .i64 sc,.int .i64 sd] 38);have D8:=Blk.new w7 [.int .i64 sa,.int .i64 sb,.int .i64 sc,.int .i64 sd] 38 rfl;rw[show([.int .i64 sa,.int .i64 sb,.int .i64 sc,.int .i64 sd]:List Value).toArray=#[.int .i64 sa,.int .i64 sb,.int .i64 sc,.int .i64 sd] from rfl] at D8;clear B R K;go_upto_region 9 with fail;generalize (w7.alloc (.cells #[.int .i64 sa,.int .i64 sb,.int .i64 sc,.int .i64 sd] 38))=W8 at *;have d0:=D8.c 0 rfl;have d1:=D8.c 1 rfl;have d2:=D8.c 2 rfl;have d3:=D8.c 3 rfl;have B:=B8;have R:=R8;have K:=K8;clear B8 R8 K8 D8;have o0:=B.c 0 rfl;have f0:=B.f 0 rfl;have o1:=B.c 1 rfl;have f1:=B.f 1 rfl;have o2:=B.c 2 rfl;have f2:=B.f 2 rfl;have o3:=B.c 3 rfl;have f3:=B.f 3 rfl;have ol:=B.lt;clear B;go_wp2;refine bodyPost_ret (v:= .agg #[.int .i64 sa,.int .i64 sb,.int .i64 sc,.int .i64 sd]) (by simp[results,Tryz.results30,go_sem,o0,o1,o2,o3]) rfl ?_;exact⟨_,rfl,⟨_,_,_,_,rfl,isa,isb,isc,isd⟩,(((R.setN (by exact hg) _).setN (by exact hg) _).setN (by exact hg) _).setN (by exact hg) _,(((K.setN (by simp) (by simp;omega) _).setN (by simp) (by simp;omega) _).setN (by simp) (by simp;omega) _).setN (by simp) (by simp;omega) _⟩
   have dx:decide (x=u)=true:=decide_eq_true hxu;have dy:decide (y=v)=true:=decide_eq_true hyv;have a0:=A4.c 0 rfl;have a1:=A4.c 1 rfl;have c0:=A5.c 0 rfl;have c1:=A5.c 1 rfl;have e0:=A5.f 0 rfl;go_upto_region 8 with fail;clear EQ dx dy a0 a1 c0 c1 hxu hyv e0;have A5N:Blk (W6.setCell ⟨w5.heap.size,0,none⟩ (.int .i64 (u+1))) w5.heap.size [.int .i64 (u+1),.int .i64 v]:=A5.setI 0 (by simp) _;replace A4:=A4.setO (p:=⟨w5.heap.size,0,none⟩) (by show w3.heap.size≠w5.heap.size;omega) (.int .i64 (u+1));replace B:=B.setO (p:=⟨w5.heap.size,0,none⟩) (by show w.heap.size≠w5.heap.size;omega) (.int .i64 (u+1));replace R:=R.setN (p:=⟨w5.heap.size,0,none⟩) hgs (.int .i64 (u+1));replace K:=K.setN (p:=⟨w5.heap.size,0,none⟩) (by show w.heap.size≤w5.heap.size;omega) (fun e=>h5g e.symm) (.int .i64 (u+1));clear A5;have A5:=A5N;clear A5N;generalize (W6.setCell ⟨w5.heap.size,0,none⟩ (.int .i64 (u+1)))=W7 at *;have mx:=far_mul hfk (x:=x) (by omega) (by omega);have my:=far_mul hfk (x:=y) (by omega) (by omega);have mu:=far_mul hfk (x:=u+1) (by omega) (by omega);have mv:=far_mul hfk (x:=v) (by omega) (by omega);obtain⟨kx,hkx⟩:∃z,k*x=z:=⟨_,rfl⟩;obtain⟨ky,hky⟩:∃z,k*y=z:=⟨_,rfl⟩;obtain⟨ku,hku⟩:∃z,k*(u+1)=z:=⟨_,rfl⟩;obtain⟨kv,hkv⟩:∃z,k*v=z:=⟨_,rfl⟩;rw[hkx] at mx;rw[hky] at my;rw[hku] at mu;rw[hkv] at mv;have wx:IntKind.i64.wrap (k*x)=kx:=by rw[hkx,IntKind.wrap_i64];omega
   have wy:IntKind.i64.wrap (k*y)=ky:=by rw[hky,IntKind.wrap_i64];omega
   have wu:IntKind.i64.wrap (k*(u+1))=ku:=by rw[hku,IntKind.wrap_i64];omega
   have wv:IntKind.i64.wrap (k*v)=kv:=by rw[hkv,IntKind.wrap_i64];omega
   obtain⟨sa,sb,sc,sd,sk,isa,isb,isc,isd,SO⟩:=segOf_ex kx ky ku kv (by constructor<;>omega) (by constructor<;>omega) (by constructor<;>omega) (by constructor<;>omega);have a0:=A4.c 0 rfl;have a1:=A4.c 1 rfl;have c0:=A5.c 0 rfl;have c1:=A5.c 1 rfl;clear hkx hky hku hkv mx my mu mv A4 A5;go_wp2_with fail;refine(SO W7).mono ?_;rintro e w7 ⟨rfl,hB7⟩;clear SO a0 a1 c0 c1 wx wy wu wv;replace B:=B.step hB7;replace R:=R.step hB7;replace K:=K.trans (Kept.of hB7);clear hB7;have B8:=B.alloc (.cells #[.int .i64 sa,.int .i64 sb,.int .i64 sc,.int .i64 sd] 38);have R8:=R.alloc (.cells #[.int .i64 sa,.int .i64 sb,.int .i64 sc,.int .i64 sd] 38);have K8:=K.alloc (.cells #[.int .i64 sa,.int .i64 sb,.int .i64 sc,.int .i64 sd] 38);have D8:=Blk.new w7 [.int .i64 sa,.int .i64 sb,.int .i64 sc,.int .i64 sd] 38 rfl;rw[show([.int .i64 sa,.int .i64 sb,.int .i64 sc,.int .i64 sd]:List Value).toArray=#[.int .i64 sa,.int .i64 sb,.int .i64 sc,.int .i64 sd] from rfl] at D8;clear B R K;go_upto_region 9 with fail;generalize (w7.alloc (.cells #[.int .i64 sa,.int .i64 sb,.int .i64 sc,.int .i64 sd] 38))=W8 at *;have d0:=D8.c 0 rfl;have d1:=D8.c 1 rfl;have d2:=D8.c 2 rfl;have d3:=D8.c 3 rfl;have B:=B8;have R:=R8;have K:=K8;clear B8 R8 K8 D8;have o0:=B.c 0 rfl;have f0:=B.f 0 rfl;have o1:=B.c 1 rfl;have f1:=B.f 1 rfl;have o2:=B.c 2 rfl;have f2:=B.f 2 rfl;have o3:=B.c 3 rfl;have f3:=B.f 3 rfl;have ol:=B.lt;clear B;go_wp2;refine bodyPost_ret (v:= .agg #[.int .i64 sa,.int .i64 sb,.int .i64 sc,.int .i64 sd]) (by simp[results,Tryz.results30,go_sem,o0,o1,o2,o3]) rfl ?_;exact⟨_,rfl,⟨_,_,_,_,rfl,isa,isb,isc,isd⟩,(((R.setN (by exact hg) _).setN (by exact hg) _).setN (by exact hg) _).setN (by exact hg) _,(((K.setN (by simp) (by simp;omega) _).setN (by simp) (by simp;omega) _).setN (by simp) (by simp;omega) _).setN (by simp) (by simp;omega) _⟩
def NoIn (w:World) (ao:Option Addr) (n:Nat) (x:Nat→Int):Prop:=
 ∀i,i<n→∃A off,ao=some ⟨A,off,none⟩∧A<w.heap.size∧w.cell? ⟨A,off+i,none⟩=some (.int .i64 (x i))
theorem NoIn.step {w w' :World} {ao:Option Addr} {n:Nat} {x:Nat→Int} (h:NoIn w ao n x) (hB:Below w.heap.size w w'):NoIn w' ao n x:=fun i hi=>by
 obtain⟨A,off,e,hA,hc⟩:=h i hi;exact⟨A,off,e,Nat.lt_of_lt_of_le hA hB.size,(hB.cell (p:=⟨A,off+i,none⟩) hA).trans hc⟩
theorem Tryz.infoNo:(Tryz.prog.info? 2).map (fun i=>(i.zero,i.size,i.bytes))=some (some (.int .i64 0),1,8):=by kernel_rfl
def NoOwn (w:World) (base:Nat) (v:Value) (L:List Int):Prop:=
 (v= .slice none 0 0∧L=[])∨∃g cap f,v= .slice (some ⟨g,0,none⟩) L.length cap∧base≤g∧L.length≤cap∧w.rowIs g 2 cap f∧∀i,i<L.length→f i= .int .i64 (L.getD i 0)
theorem NoOwn.of {w:World} {base:Nat} {v:Value} {L:List Int} (h:w.ownsRow base 2 1 v L.length (L.map (Value.int .i64))):NoOwn w base v L:=by
 rcases h.2 with ⟨h1,h2⟩ | ⟨g,cap,cur,h1,h2,h3,h4,h5,h6,h7⟩
 · exact .inl ⟨h1,List.length_eq_zero_iff.1 h2⟩
 · refine .inr ⟨g,cap,fun i=>cur.getD i undef,h1,h2,h4,⟨cur,h3,by omega,fun i hi=>?_⟩,fun i hi=>?_⟩
   · simp[Array.getD_eq_getD_getElem?,show i<cur.size by omega]
   · have e:(cur.toList.take (L.length*1))[i]? =(L.map (Value.int .i64))[i]? :=by rw[h7]
     rw[List.getElem?_take_of_lt (by omega),List.getElem?_map,List.getElem?_eq_getElem hi] at e;simp only[Array.getElem?_toList,Option.map_some] at e;show cur.getD i undef=_;rw[Array.getD_eq_getD_getElem?,e]
     simp[List.getD_eq_getElem?_getD,hi]
theorem NoOwn.in {w:World} {base:Nat} {v:Value} {L:List Int} (h:NoOwn w base v L):∃ao cap,v= .slice ao L.length cap∧NoIn w ao L.length (fun i=>L.getD i 0):=by
 rcases h with ⟨h1,h2⟩ | ⟨g,cap,f,h1,h2,h3,h4,h5⟩
 · subst h2;exact⟨none,0,h1,fun i hi=>by simp at hi⟩
 · exact⟨some ⟨g,0,none⟩,cap,h1,fun i hi=>⟨g,0,rfl,h4.lt,by rw[Nat.zero_add,h4.cell (by omega),h5 i hi]⟩⟩
def In6 (x:Int):Prop:=-1048576≤x∧x≤1048576
theorem mul_inS {p q M N:Int} (h1: -M≤p) (h2:p≤M) (h3: -N≤q) (h4:q≤N): -(M*N)≤p*q∧p*q≤M*N:=by
 have hM:0≤M:=by omega
 have hN:0≤N:=by omega
 have a1:0≤(M-p)*(N-q):=Int.mul_nonneg (by omega) (by omega);have a2:0≤(M+p)*(N+q):=Int.mul_nonneg (by omega) (by omega);have a3:0≤(M-p)*(N+q):=Int.mul_nonneg (by omega) (by omega);have a4:0≤(M+p)*(N-q):=Int.mul_nonneg (by omega) (by omega)
 constructor<;>grind
theorem minusSp_any (x y u v:Int) (hx:In6 x) (hy:In6 y) (hu:In6 u) (hv:In6 v) (w:World):Calls Tryz.prog 101 #[Sp x y,Sp u v] w (SpotP (x-u) (y-v) w):=by
 obtain⟨x1,x2⟩:=hx;obtain⟨y1,y2⟩:=hy;obtain⟨u1,u2⟩:=hu;obtain⟨v1,v2⟩:=hv
 go_enter Tryz.func101,Tryz.ntmps101
 go_wp2;refine bodyPost_ret (v:=Sp (x-u) (y-v)) (by simp[results,Tryz.results101,go_sem]) rfl ?_;exact⟨rfl,(((Below.refl _ _).alloc (Nat.le_refl _) _).alloc (by simp) _).alloc (by simp;omega) _⟩
theorem crossSp_any (x y u v p q:Int) (hp:x*v=p) (hq:y*u=q) (hpb: -4398046511104≤p∧p≤4398046511104) (hqb: -4398046511104≤q∧q≤4398046511104) (w:World):Calls Tryz.prog 102 #[Sp x y,Sp u v] w (IntP (p-q) w):=by
 obtain⟨p1,p2⟩:=hpb;obtain⟨q1,q2⟩:=hqb
 go_enter Tryz.func102,Tryz.ntmps102
 go_wp2;go_ret;exact⟨rfl,((Below.refl _ _).alloc (Nat.le_refl _) _).alloc (by simp) _⟩
def turnSp (a b c d x y:Int):Int:=(c-a)*(y-b)-(d-b)*(x-a)
def sgnSp (z:Int):Int:=if z<0 then -1 else if 0<z then 1 else 0
theorem l4Turn_any (a b c d x y:Int) (ha:In6 a) (hb:In6 b) (hc:In6 c) (hd:In6 d) (hx:In6 x) (hy:In6 y) (w:World) :
 Calls Tryz.prog 51 #[Sp a b,Sp c d,Sp x y] w (IntP (sgnSp (turnSp a b c d x y)) w):=by
 have HR:turnSp a b c d x y=(c-a)*(y-b)-(d-b)*(x-a):=rfl;obtain⟨a1,a2⟩:=ha;obtain⟨b1,b2⟩:=hb;obtain⟨c1,c2⟩:=hc;obtain⟨d1,d2⟩:=hd;obtain⟨x1,x2⟩:=hx;obtain⟨y1,y2⟩:=hy;obtain⟨p1,p2⟩:=mul_inS (p:=c-a) (q:=y-b) (M:=2097152) (N:=2097152) (by omega) (by omega) (by omega) (by omega);obtain⟨q1,q2⟩:=mul_inS (p:=d-b) (q:=x-a) (M:=2097152) (N:=2097152) (by omega) (by omega) (by omega) (by omega);obtain⟨p,hp⟩:∃p,(c-a)*(y-b)=p:=⟨_,rfl⟩;obtain⟨q,hq⟩:∃q,(d-b)*(x-a)=q:=⟨_,rfl⟩;rw[hp] at p1 p2 HR;rw[hq] at q1 q2 HR;rw[HR];clear HR
 go_enter Tryz.func51,Tryz.ntmps51
 go_wp2
 all_goals go_ret
 all_goals exact⟨ret_int (by unfold sgnSp;split<;>(try split)<;>omega),(((Below.refl _ _).alloc (Nat.le_refl _) _).alloc (by simp) _).alloc (by simp;omega) _⟩
theorem turnTo_cells {a b c d x y:Int} {w W:World} (h:ArgsB w W [[.int .i64 a,.int .i64 b,.int .i64 c,.int .i64 d],[.int .i64 x,.int .i64 y]]):(fun w' =>w'.cell? ⟨w.heap.size,0,none⟩=some (.int .i64 a)∧w'.cell? ⟨w.heap.size,1,none⟩=some (.int .i64 b)∧w'.cell? ⟨w.heap.size,2,none⟩=some (.int .i64 c)∧w'.cell? ⟨w.heap.size,3,none⟩=some (.int .i64 d)∧w'.cell? ⟨w.heap.size+1,0,none⟩=some (.int .i64 x)∧w'.cell? ⟨w.heap.size+1,1,none⟩=some (.int .i64 y)) W:=
 ⟨(h.b 0 rfl).c 0 rfl,(h.b 0 rfl).c 1 rfl,(h.b 0 rfl).c 2 rfl,(h.b 0 rfl).c 3 rfl,(h.b 1 rfl).c 0 rfl,(h.b 1 rfl).c 1 rfl⟩
theorem turnTo_start (a b c d x y:Int) (w:World):ArgsB w ((w.alloc (.cells #[.int .i64 a,.int .i64 b,.int .i64 c,.int .i64 d] 38)).alloc (.cells #[.int .i64 x,.int .i64 y] 29)) [[.int .i64 a,.int .i64 b,.int .i64 c,.int .i64 d],[.int .i64 x,.int .i64 y]]:=by
 refine⟨((Below.refl _ _).alloc (Nat.le_refl _) _).alloc (by simp) _,fun j vs hj=>?_⟩
 match j,hj with
 | 0,hj=>cases hj;exact(Blk.new w [.int .i64 a,.int .i64 b,.int .i64 c,.int .i64 d] 38 rfl).alloc _
 | 1,hj=>cases hj;exact Blk.new (w.alloc (.cells #[.int .i64 a,.int .i64 b,.int .i64 c,.int .i64 d] 38)) [.int .i64 x,.int .i64 y] 29 (by simp)
 | j+2,hj=>simp at hj
theorem turnTo_any (a b c d x y:Int) (ha:In6 a) (hb:In6 b) (hc:In6 c) (hd:In6 d) (hx:In6 x) (hy:In6 y) (w:World) :
 Calls Tryz.prog 82 #[Sg a b c d,Sp x y] w (IntP (turnSp a b c d x y) w):=by
 have HP: -4398046511104≤(c-a)*(y-b)∧(c-a)*(y-b)≤4398046511104:=mul_inS (M:=2097152) (N:=2097152) (by have:=ha.1;have:=ha.2;have:=hc.1;have:=hc.2;omega) (by have:=ha.1;have:=ha.2;have:=hc.1;have:=hc.2;omega) (by have:=hb.1;have:=hb.2;have:=hy.1;have:=hy.2;omega) (by have:=hb.1;have:=hb.2;have:=hy.1;have:=hy.2;omega);have HQ: -4398046511104≤(d-b)*(x-a)∧(d-b)*(x-a)≤4398046511104:=mul_inS (M:=2097152) (N:=2097152) (by have:=hb.1;have:=hb.2;have:=hd.1;have:=hd.2;omega) (by have:=hb.1;have:=hb.2;have:=hd.1;have:=hd.2;omega) (by have:=ha.1;have:=ha.2;have:=hx.1;have:=hx.2;omega) (by have:=ha.1;have:=ha.2;have:=hx.1;have:=hx.2;omega);have T0:=turnTo_start a b c d x y w;have tok1:True:=trivial
 go_enter Tryz.func82,Tryz.ntmps82
 go_upto_region 1 with fail;generalize ((w.alloc (.cells #[.int .i64 a,.int .i64 b,.int .i64 c,.int .i64 d] 38)).alloc (.cells #[.int .i64 x,.int .i64 y] 29))=W at *
 go_region_held3 (fun w' =>w'.cell? ⟨w.heap.size,0,none⟩=some (.int .i64 a)∧w'.cell? ⟨w.heap.size,1,none⟩=some (.int .i64 b)∧w'.cell? ⟨w.heap.size,2,none⟩=some (.int .i64 c)∧w'.cell? ⟨w.heap.size,3,none⟩=some (.int .i64 d)∧w'.cell? ⟨w.heap.size+1,0,none⟩=some (.int .i64 x)∧w'.cell? ⟨w.heap.size+1,1,none⟩=some (.int .i64 y)) (first | (with_reducible exact turnTo_cells T0) | (with_reducible exact turnTo_cells T0.drew))
  (first
   | (go_at_call 101;have _t:=tok1;refine(minusSp_any c d a b hc hd ha hb _).mono ?_;rintro e w1 ⟨rfl,hB⟩;(first | (have T1:=T0.step hB) | (have T1:=T0.drew.step hB));clear T0;have T0:=T1;clear T1;clear hB tok1 _t)
   | (go_at_call 101;refine(minusSp_any x y a b hx hy ha hb _).mono ?_;rintro e w2 ⟨rfl,hB⟩;(first | (have T1:=T0.step hB) | (have T1:=T0.drew.step hB));clear T0;have T0:=T1;clear T1;clear hB)
   | (go_at_call 102;refine(crossSp_any (c-a) (d-b) (x-a) (y-b) _ _ rfl rfl HP HQ _).mono ?_;rintro e w3 ⟨rfl,hB⟩;(first | (have T1:=T0.step hB) | (have T1:=T0.drew.step hB));clear T0;have T0:=T1;clear T1;clear hB))
 all_goals go_wp2
 all_goals go_ret
 all_goals first | exact⟨rfl,T0.below⟩ | exact⟨rfl,T0.drew.below⟩
structure PartI (w wr:World) (g:Nat) (sg sl:List Value):Prop where
 below:Below w.heap.size w wr
 seg:Blk wr w.heap.size sg
 row:Blk wr g sl
theorem PartI.step {w wr wr' :World} {g:Nat} {sg sl:List Value} (h:PartI w wr g sg sl) (hB:Below wr.heap.size wr wr'):PartI w wr' g sg sl:=⟨h.below.trans (hB.mono h.below.size),h.seg.step hB,h.row.step hB⟩
theorem PartI.alloc {w wr:World} {g:Nat} {sg sl:List Value} (h:PartI w wr g sg sl) (o:Obj):PartI w (wr.alloc o) g sg sl:=h.step ((Below.refl _ _).alloc (Nat.le_refl _) o)
def lefts (ts:List Int) (k:Nat):Bool:=(ts.take k).any (fun t=>decide (0≤t))
def rights (ts:List Int) (k:Nat):Bool:=(ts.take k).any (fun t=>decide (t≤0))
theorem lefts_succ (ts:List Int) (k:Nat) (t:Int) (h:ts[k]? =some t):lefts ts (k+1)=(lefts ts k||decide (0≤t)):=by
 unfold lefts;rw[List.take_add_one,h]
 simp
theorem rights_succ (ts:List Int) (k:Nat) (t:Int) (h:ts[k]? =some t):rights ts (k+1)=(rights ts k||decide (t≤0)):=by
 unfold rights;rw[List.take_add_one,h]
 simp
theorem parts_any (a b c d x0 y0 x1 y1 x2 y2 x3 y3:Int) (ha:In6 a) (hb:In6 b) (hc:In6 c) (hd:In6 d) (hx0:In6 x0) (hy0:In6 y0) (hx1:In6 x1) (hy1:In6 y1) (hx2:In6 x2) (hy2:In6 y2) (hx3:In6 x3) (hy3:In6 y3) (g:Nat) (w:World) (hS:Blk w g [.int .i64 x0,.int .i64 y0,.int .i64 x1,.int .i64 y1,.int .i64 x2,.int .i64 y2,.int .i64 x3,.int .i64 y3]) :
 Calls Tryz.prog 53 #[Sg a b c d,.slice (some ⟨g,0,none⟩) 4 4] w (BoolP (lefts [turnSp a b c d x0 y0,turnSp a b c d x1 y1,turnSp a b c d x2 y2,turnSp a b c d x3 y3] 4&&rights [turnSp a b c d x0 y0,turnSp a b c d x1 y1,turnSp a b c d x2 y2,turnSp a b c d x3 y3] 4) w):=by
 obtain⟨ts,hts⟩:∃ts,[turnSp a b c d x0 y0,turnSp a b c d x1 y1,turnSp a b c d x2 y2,turnSp a b c d x3 y3]=ts:=⟨_,rfl⟩;rw[hts];have I0:PartI w (w.alloc (.cells #[.int .i64 a,.int .i64 b,.int .i64 c,.int .i64 d] 38)) g [.int .i64 a,.int .i64 b,.int .i64 c,.int .i64 d] [.int .i64 x0,.int .i64 y0,.int .i64 x1,.int .i64 y1,.int .i64 x2,.int .i64 y2,.int .i64 x3,.int .i64 y3]:=
  ⟨(Below.refl _ _).alloc (Nat.le_refl _) _,Blk.new w [.int .i64 a,.int .i64 b,.int .i64 c,.int .i64 d] 38 rfl,hS.alloc _⟩
 go_enter Tryz.func53,Tryz.ntmps53
 go_wp2;generalize (w.alloc (.cells #[.int .i64 a,.int .i64 b,.int .i64 c,.int .i64 d] 38))=W at *
 go_loopw [5,6,12] (fun l r i wr=>∃k:Nat,k≤4∧i= .int .i64 k∧l= .bool (lefts ts k)∧r= .bool (rights ts k)∧PartI w wr g [.int .i64 a,.int .i64 b,.int .i64 c,.int .i64 d] [.int .i64 x0,.int .i64 y0,.int .i64 x1,.int .i64 y1,.int .i64 x2,.int .i64 y2,.int .i64 x3,.int .i64 y3]) (fun _ _ i _=>4-(intOf i).toNat)
 case atStart=>exact⟨0,by omega,rfl,rfl,rfl,I0⟩
 case round=>
  clear I0;obtain⟨k,hk,rfl,rfl,rfl,I0⟩:=hrel;have ca0:=I0.seg.c 0 rfl;have ca1:=I0.seg.c 1 rfl;have ca2:=I0.seg.c 2 rfl;have ca3:=I0.seg.c 3 rfl;have calt:=I0.seg.lt
  rcases(by omega:k=0∨k=1∨k=2∨k=3∨k=4) with rfl | rfl | rfl | rfl | rfl
  · have e1:=I0.row.c 0 rfl;have e2:=I0.row.c 1 rfl;have K1:=lefts_succ ts 0 (turnSp a b c d x0 y0) (by rw[←hts];rfl);have K2:=rights_succ ts 0 (turnSp a b c d x0 y0) (by rw[←hts];rfl);obtain⟨L,hL⟩:∃L,lefts ts 0=L:=⟨_,rfl⟩;obtain⟨R,hR⟩:∃R,rights ts 0=R:=⟨_,rfl⟩;rw[hL] at K1⊢;rw[hR] at K2⊢;clear hL hR hts hS;go_wp2_with fail;refine(turnTo_any a b c d x0 y0 ha hb hc hd hx0 hy0 _).mono ?_;rintro e w1 ⟨rfl,hB⟩;replace I0:=(I0.alloc _).step hB;clear ca0 ca1 ca2 ca3 calt e1 e2 hB;generalize turnSp a b c d x0 y0=t at *;cases L<;>cases R
    all_goals go_wp2
    all_goals go_roundw
    all_goals first | exact⟨0+1,by omega,rfl,by rw[K1];simp,by rw[K2];simp,I0⟩ | simp[intOf]
  · have e1:=I0.row.c 2 rfl;have e2:=I0.row.c 3 rfl;have K1:=lefts_succ ts 1 (turnSp a b c d x1 y1) (by rw[←hts];rfl);have K2:=rights_succ ts 1 (turnSp a b c d x1 y1) (by rw[←hts];rfl);obtain⟨L,hL⟩:∃L,lefts ts 1=L:=⟨_,rfl⟩;obtain⟨R,hR⟩:∃R,rights ts 1=R:=⟨_,rfl⟩;rw[hL] at K1⊢;rw[hR] at K2⊢;clear hL hR hts hS;go_wp2_with fail;refine(turnTo_any a b c d x1 y1 ha hb hc hd hx1 hy1 _).mono ?_;rintro e w1 ⟨rfl,hB⟩;replace I0:=(I0.alloc _).step hB;clear ca0 ca1 ca2 ca3 calt e1 e2 hB;generalize turnSp a b c d x1 y1=t at *;cases L<;>cases R
    all_goals go_wp2
    all_goals go_roundw
    all_goals first | exact⟨1+1,by omega,rfl,by rw[K1];simp,by rw[K2];simp,I0⟩ | simp[intOf]
  · have e1:=I0.row.c 4 rfl;have e2:=I0.row.c 5 rfl;have K1:=lefts_succ ts 2 (turnSp a b c d x2 y2) (by rw[←hts];rfl);have K2:=rights_succ ts 2 (turnSp a b c d x2 y2) (by rw[←hts];rfl);obtain⟨L,hL⟩:∃L,lefts ts 2=L:=⟨_,rfl⟩;obtain⟨R,hR⟩:∃R,rights ts 2=R:=⟨_,rfl⟩;rw[hL] at K1⊢;rw[hR] at K2⊢;clear hL hR hts hS;go_wp2_with fail;refine(turnTo_any a b c d x2 y2 ha hb hc hd hx2 hy2 _).mono ?_;rintro e w1 ⟨rfl,hB⟩;replace I0:=(I0.alloc _).step hB;clear ca0 ca1 ca2 ca3 calt e1 e2 hB;generalize turnSp a b c d x2 y2=t at *;cases L<;>cases R
    all_goals go_wp2
    all_goals go_roundw
    all_goals first | exact⟨2+1,by omega,rfl,by rw[K1];simp,by rw[K2];simp,I0⟩ | simp[intOf]
  · have e1:=I0.row.c 6 rfl;have e2:=I0.row.c 7 rfl;have K1:=lefts_succ ts 3 (turnSp a b c d x3 y3) (by rw[←hts];rfl);have K2:=rights_succ ts 3 (turnSp a b c d x3 y3) (by rw[←hts];rfl);obtain⟨L,hL⟩:∃L,lefts ts 3=L:=⟨_,rfl⟩;obtain⟨R,hR⟩:∃R,rights ts 3=R:=⟨_,rfl⟩;rw[hL] at K1⊢;rw[hR] at K2⊢;clear hL hR hts hS;go_wp2_with fail;refine(turnTo_any a b c d x3 y3 ha hb hc hd hx3 hy3 _).mono ?_;rintro e w1 ⟨rfl,hB⟩;replace I0:=(I0.alloc _).step hB;clear ca0 ca1 ca2 ca3 calt e1 e2 hB;generalize turnSp a b c d x3 y3=t at *;cases L<;>cases R
    all_goals go_wp2
    all_goals go_roundw
    all_goals first | exact⟨3+1,by omega,rfl,by rw[K1];simp,by rw[K2];simp,I0⟩ | simp[intOf]
  · obtain⟨L,hL⟩:∃L,lefts ts 4=L:=⟨_,rfl⟩;obtain⟨R,hR⟩:∃R,rights ts 4=R:=⟨_,rfl⟩;rw[hL,hR];clear hts hS;cases L<;>cases R
    all_goals go_wp2
    all_goals go_ret
    all_goals exact⟨ret_bool (by rw[hL,hR];rfl),I0.below⟩
def boxOut (a b c d x y u v:Int):Bool:=decide (c<x∨u<a∨(b<y∧d<y)∨(v<b∧v<d))
def ups (ts:List Int) (k:Nat):Nat:=(ts.take k).countP (fun t=>decide (0<t))
def downs (ts:List Int) (k:Nat):Nat:=(ts.take k).countP (fun t=>decide (t<0))
theorem ups_succ (ts:List Int) (k:Nat) (t:Int) (h:ts[k]? =some t):ups ts (k+1)=ups ts k+(if 0<t then 1 else 0):=by
 unfold ups;rw[List.take_add_one,h]
 simp[List.countP_append,List.countP_cons]
theorem downs_succ (ts:List Int) (k:Nat) (t:Int) (h:ts[k]? =some t):downs ts (k+1)=downs ts k+(if t<0 then 1 else 0):=by
 unfold downs;rw[List.take_add_one,h]
 simp[List.countP_append,List.countP_cons]
theorem ups_le (ts:List Int) (k:Nat):ups ts k≤k:=by
 unfold ups;exact Nat.le_trans List.countP_le_length (by simp;omega)
theorem downs_le (ts:List Int) (k:Nat):downs ts k≤k:=by
 unfold downs;exact Nat.le_trans List.countP_le_length (by simp;omega)
theorem ups_four (p q r s:Int):decide (ups [p,q,r,s] 4<4)=rights [p,q,r,s] 4:=by
 unfold ups rights
 by_cases h0:0<p<;>by_cases h1:0<q<;>by_cases h2:0<r<;>by_cases h3:0<s<;>simp[h0,h1,h2,h3]<;>omega
theorem downs_four (p q r s:Int):decide (downs [p,q,r,s] 4<4)=lefts [p,q,r,s] 4:=by
 unfold downs lefts
 by_cases h0:p<0<;>by_cases h1:q<0<;>by_cases h2:r<0<;>by_cases h3:s<0<;>simp[h0,h1,h2,h3]<;>omega
theorem box_start (a b c d x y u v:Int) (w:World) (t1 t2 t3:TypeId):ArgsB w (((w.alloc (.cells #[.int .i64 a,.int .i64 b,.int .i64 c,.int .i64 d] t1)).alloc (.cells #[.int .i64 x,.int .i64 y] t2)).alloc (.cells #[.int .i64 u,.int .i64 v] t3)) [[.int .i64 a,.int .i64 b,.int .i64 c,.int .i64 d],[.int .i64 x,.int .i64 y],[.int .i64 u,.int .i64 v]]:=by
 refine⟨(((Below.refl _ _).alloc (Nat.le_refl _) _).alloc (by simp) _).alloc (by simp;omega) _,fun j vs hj=>?_⟩
 match j,hj with
 | 0,hj=>cases hj;exact((Blk.new w [.int .i64 a,.int .i64 b,.int .i64 c,.int .i64 d] t1 rfl).alloc _).alloc _
 | 1,hj=>cases hj;exact(Blk.new (w.alloc (.cells #[.int .i64 a,.int .i64 b,.int .i64 c,.int .i64 d] t1)) [.int .i64 x,.int .i64 y] t2 (by simp)).alloc _
 | 2,hj=>cases hj;exact Blk.new ((w.alloc (.cells #[.int .i64 a,.int .i64 b,.int .i64 c,.int .i64 d] t1)).alloc (.cells #[.int .i64 x,.int .i64 y] t2)) [.int .i64 u,.int .i64 v] t3 (by simp)
 | j+3,hj=>simp at hj
theorem l4MeetsBox_any (a b c d x y u v:Int) (ha:In6 a) (hb:In6 b) (hc:In6 c) (hd:In6 d) (hx:In6 x) (hy:In6 y) (hu:In6 u) (hv:In6 v) (w:World) :
 Calls Tryz.prog 23 #[Sg a b c d,Sp x y,Sp u v] w (BoolP (!boxOut a b c d x y u v&&(lefts [turnSp a b c d x y,turnSp a b c d u v,turnSp a b c d x v,turnSp a b c d u y] 4&&rights [turnSp a b c d x y,turnSp a b c d u v,turnSp a b c d x v,turnSp a b c d u y] 4)) w):=by
 obtain⟨ts,hts⟩:∃ts,[turnSp a b c d x y,turnSp a b c d u v,turnSp a b c d x v,turnSp a b c d u y]=ts:=⟨_,rfl⟩;have HF1:=ups_four (turnSp a b c d x y) (turnSp a b c d u v) (turnSp a b c d x v) (turnSp a b c d u y);have HF2:=downs_four (turnSp a b c d x y) (turnSp a b c d u v) (turnSp a b c d x v) (turnSp a b c d u y);rw[hts] at HF1 HF2⊢;have T0:=box_start a b c d x y u v w 38 29 29
 go_enter Tryz.func23,Tryz.ntmps23
 go_upto_region 1 with fail;generalize (((w.alloc (.cells #[.int .i64 a,.int .i64 b,.int .i64 c,.int .i64 d] 38)).alloc (.cells #[.int .i64 x,.int .i64 y] 29)).alloc (.cells #[.int .i64 u,.int .i64 v] 29))=W at *
 go_cut [56] (fun q wx=>q= .bool (boxOut a b c d x y u v)∧ArgsB w wx [[.int .i64 a,.int .i64 b,.int .i64 c,.int .i64 d],[.int .i64 x,.int .i64 y],[.int .i64 u,.int .i64 v]])
 case first=>
  have a0:=(T0.b 0 rfl).c 0 rfl;have a1:=(T0.b 0 rfl).c 1 rfl;have a2:=(T0.b 0 rfl).c 2 rfl;have a3:=(T0.b 0 rfl).c 3 rfl;have b0:=(T0.b 1 rfl).c 0 rfl;have b1:=(T0.b 1 rfl).c 1 rfl;have c0:=(T0.b 2 rfl).c 0 rfl;have c1:=(T0.b 2 rfl).c 1 rfl;have alt:=(T0.b 2 rfl).lt;simp only[Nat.add_zero] at a0 a1 a2 a3;go_wp2
  all_goals go_meet
  all_goals refine⟨?_,T0⟩
  all_goals (apply congrArg Value.bool;unfold boxOut;rw[Bool.eq_iff_iff];simp;try omega)
 case rest=>
  clear T0;obtain⟨hq,T0⟩:=hcut;subst hq;have a0:=(T0.b 0 rfl).c 0 rfl;have a1:=(T0.b 0 rfl).c 1 rfl;have a2:=(T0.b 0 rfl).c 2 rfl;have a3:=(T0.b 0 rfl).c 3 rfl;have b0:=(T0.b 1 rfl).c 0 rfl;have b1:=(T0.b 1 rfl).c 1 rfl;have c0:=(T0.b 2 rfl).c 0 rfl;have c1:=(T0.b 2 rfl).c 1 rfl;have alt:=(T0.b 2 rfl).lt;simp only[Nat.add_zero] at a0 a1 a2 a3;obtain⟨O,hO⟩:∃O,boxOut a b c d x y u v=O:=⟨_,rfl⟩;rw[hO];cases O
  · go_wp2;have I0:PartI w (wc.alloc (.cells #[.int .i64 x,.int .i64 y,.int .i64 u,.int .i64 v,.int .i64 x,.int .i64 v,.int .i64 u,.int .i64 y] 29)) wc.heap.size [.int .i64 a,.int .i64 b,.int .i64 c,.int .i64 d] [.int .i64 x,.int .i64 y,.int .i64 u,.int .i64 v,.int .i64 x,.int .i64 v,.int .i64 u,.int .i64 y]:=
     ⟨T0.below.alloc T0.below.size _,(T0.b 0 rfl).alloc _,Blk.new wc [.int .i64 x,.int .i64 y,.int .i64 u,.int .i64 v,.int .i64 x,.int .i64 v,.int .i64 u,.int .i64 y] 29 rfl⟩
    clear a0 a1 a2 a3 b0 b1 c0 c1 alt T0;generalize wc.alloc (.cells #[.int .i64 x,.int .i64 y,.int .i64 u,.int .i64 v,.int .i64 x,.int .i64 v,.int .i64 u,.int .i64 y] 29)=W1 at *;generalize wc.heap.size=g at *
    go_loopw [7,8,71] (fun o p i wr=>∃k:Nat,k≤4∧i= .int .i64 k∧o= .int .i64 (ups ts k)∧p= .int .i64 (downs ts k)∧PartI w wr g [.int .i64 a,.int .i64 b,.int .i64 c,.int .i64 d] [.int .i64 x,.int .i64 y,.int .i64 u,.int .i64 v,.int .i64 x,.int .i64 v,.int .i64 u,.int .i64 y]) (fun _ _ i _=>4-(intOf i).toNat)
    case atStart=>exact⟨0,by omega,rfl,rfl,rfl,I0⟩
    case round=>
     clear I0;obtain⟨k,hk,rfl,rfl,rfl,I0⟩:=hrel;have ca0:=I0.seg.c 0 rfl;have ca1:=I0.seg.c 1 rfl;have ca2:=I0.seg.c 2 rfl;have ca3:=I0.seg.c 3 rfl;have calt:=I0.seg.lt;have U:=ups_le ts k;have D:=downs_le ts k
     rcases(by omega:k=0∨k=1∨k=2∨k=3∨k=4) with rfl | rfl | rfl | rfl | rfl
     · have e1:=I0.row.c 0 rfl;have e2:=I0.row.c 1 rfl;have K1:=ups_succ ts 0 (turnSp a b c d x y) (by rw[←hts];rfl);have K2:=downs_succ ts 0 (turnSp a b c d x y) (by rw[←hts];rfl);obtain⟨L,hL⟩:∃L,ups ts 0=L:=⟨_,rfl⟩;obtain⟨R,hR⟩:∃R,downs ts 0=R:=⟨_,rfl⟩;rw[hL] at K1 U⊢;rw[hR] at K2 D⊢;clear hL hR hts HF1 HF2;go_wp2_with fail;refine(l4Turn_any a b c d x y ha hb hc hd hx hy _).mono ?_;rintro e w1 ⟨rfl,hB⟩;replace I0:=(I0.alloc _).step hB;clear ca0 ca1 ca2 ca3 calt e1 e2 hB;generalize turnSp a b c d x y=t at *
       rcases Int.lt_trichotomy t 0 with ht | ht | ht
       · have hs:sgnSp t= -1:=by unfold sgnSp;rw[if_pos ht]
         rw[if_neg (by omega)] at K1;rw[if_pos ht] at K2;rw[hs];go_wp2
         all_goals go_roundw
         all_goals first | exact⟨0+1,by omega,rfl,by rw[K1];simp,by rw[K2];simp,I0⟩ | simp[intOf]
       · have hs:sgnSp t=0:=by unfold sgnSp;rw[if_neg (by omega),if_neg (by omega)]
         rw[if_neg (by omega)] at K1;rw[if_neg (by omega)] at K2;rw[hs];go_wp2
         all_goals go_roundw
         all_goals first | exact⟨0+1,by omega,rfl,by rw[K1];simp,by rw[K2];simp,I0⟩ | simp[intOf]
       · have hs:sgnSp t=1:=by unfold sgnSp;rw[if_neg (by omega),if_pos ht]
         rw[if_pos ht] at K1;rw[if_neg (by omega)] at K2;rw[hs];go_wp2
         all_goals go_roundw
         all_goals first | exact⟨0+1,by omega,rfl,by rw[K1];simp,by rw[K2];simp,I0⟩ | simp[intOf]
     · have e1:=I0.row.c 2 rfl;have e2:=I0.row.c 3 rfl;have K1:=ups_succ ts 1 (turnSp a b c d u v) (by rw[←hts];rfl);have K2:=downs_succ ts 1 (turnSp a b c d u v) (by rw[←hts];rfl);obtain⟨L,hL⟩:∃L,ups ts 1=L:=⟨_,rfl⟩;obtain⟨R,hR⟩:∃R,downs ts 1=R:=⟨_,rfl⟩;rw[hL] at K1 U⊢;rw[hR] at K2 D⊢;clear hL hR hts HF1 HF2;go_wp2_with fail;refine(l4Turn_any a b c d u v ha hb hc hd hu hv _).mono ?_;rintro e w1 ⟨rfl,hB⟩;replace I0:=(I0.alloc _).step hB;clear ca0 ca1 ca2 ca3 calt e1 e2 hB;generalize turnSp a b c d u v=t at *
       rcases Int.lt_trichotomy t 0 with ht | ht | ht
       · have hs:sgnSp t= -1:=by unfold sgnSp;rw[if_pos ht]
         rw[if_neg (by omega)] at K1;rw[if_pos ht] at K2;rw[hs];go_wp2
         all_goals go_roundw
         all_goals first | exact⟨1+1,by omega,rfl,by rw[K1];simp,by rw[K2];simp,I0⟩ | simp[intOf]
       · have hs:sgnSp t=0:=by unfold sgnSp;rw[if_neg (by omega),if_neg (by omega)]
         rw[if_neg (by omega)] at K1;rw[if_neg (by omega)] at K2;rw[hs];go_wp2
         all_goals go_roundw
         all_goals first | exact⟨1+1,by omega,rfl,by rw[K1];simp,by rw[K2];simp,I0⟩ | simp[intOf]
       · have hs:sgnSp t=1:=by unfold sgnSp;rw[if_neg (by omega),if_pos ht]
         rw[if_pos ht] at K1;rw[if_neg (by omega)] at K2;rw[hs];go_wp2
         all_goals go_roundw
         all_goals first | exact⟨1+1,by omega,rfl,by rw[K1];simp,by rw[K2];simp,I0⟩ | simp[intOf]
     · have e1:=I0.row.c 4 rfl;have e2:=I0.row.c 5 rfl;have K1:=ups_succ ts 2 (turnSp a b c d x v) (by rw[←hts];rfl);have K2:=downs_succ ts 2 (turnSp a b c d x v) (by rw[←hts];rfl);obtain⟨L,hL⟩:∃L,ups ts 2=L:=⟨_,rfl⟩;obtain⟨R,hR⟩:∃R,downs ts 2=R:=⟨_,rfl⟩;rw[hL] at K1 U⊢;rw[hR] at K2 D⊢;clear hL hR hts HF1 HF2;go_wp2_with fail;refine(l4Turn_any a b c d x v ha hb hc hd hx hv _).mono ?_;rintro e w1 ⟨rfl,hB⟩;replace I0:=(I0.alloc _).step hB;clear ca0 ca1 ca2 ca3 calt e1 e2 hB;generalize turnSp a b c d x v=t at *
       rcases Int.lt_trichotomy t 0 with ht | ht | ht
       · have hs:sgnSp t= -1:=by unfold sgnSp;rw[if_pos ht]
         rw[if_neg (by omega)] at K1;rw[if_pos ht] at K2;rw[hs];go_wp2
         all_goals go_roundw
         all_goals first | exact⟨2+1,by omega,rfl,by rw[K1];simp,by rw[K2];simp,I0⟩ | simp[intOf]
       · have hs:sgnSp t=0:=by unfold sgnSp;rw[if_neg (by omega),if_neg (by omega)]
         rw[if_neg (by omega)] at K1;rw[if_neg (by omega)] at K2;rw[hs];go_wp2
         all_goals go_roundw
         all_goals first | exact⟨2+1,by omega,rfl,by rw[K1];simp,by rw[K2];simp,I0⟩ | simp[intOf]
       · have hs:sgnSp t=1:=by unfold sgnSp;rw[if_neg (by omega),if_pos ht]
         rw[if_pos ht] at K1;rw[if_neg (by omega)] at K2;rw[hs];go_wp2
         all_goals go_roundw
         all_goals first | exact⟨2+1,by omega,rfl,by rw[K1];simp,by rw[K2];simp,I0⟩ | simp[intOf]
     · have e1:=I0.row.c 6 rfl;have e2:=I0.row.c 7 rfl;have K1:=ups_succ ts 3 (turnSp a b c d u y) (by rw[←hts];rfl);have K2:=downs_succ ts 3 (turnSp a b c d u y) (by rw[←hts];rfl);obtain⟨L,hL⟩:∃L,ups ts 3=L:=⟨_,rfl⟩;obtain⟨R,hR⟩:∃R,downs ts 3=R:=⟨_,rfl⟩;rw[hL] at K1 U⊢;rw[hR] at K2 D⊢;clear hL hR hts HF1 HF2;go_wp2_with fail;refine(l4Turn_any a b c d u y ha hb hc hd hu hy _).mono ?_;rintro e w1 ⟨rfl,hB⟩;replace I0:=(I0.alloc _).step hB;clear ca0 ca1 ca2 ca3 calt e1 e2 hB;generalize turnSp a b c d u y=t at *
       rcases Int.lt_trichotomy t 0 with ht | ht | ht
       · have hs:sgnSp t= -1:=by unfold sgnSp;rw[if_pos ht]
         rw[if_neg (by omega)] at K1;rw[if_pos ht] at K2;rw[hs];go_wp2
         all_goals go_roundw
         all_goals first | exact⟨3+1,by omega,rfl,by rw[K1];simp,by rw[K2];simp,I0⟩ | simp[intOf]
       · have hs:sgnSp t=0:=by unfold sgnSp;rw[if_neg (by omega),if_neg (by omega)]
         rw[if_neg (by omega)] at K1;rw[if_neg (by omega)] at K2;rw[hs];go_wp2
         all_goals go_roundw
         all_goals first | exact⟨3+1,by omega,rfl,by rw[K1];simp,by rw[K2];simp,I0⟩ | simp[intOf]
       · have hs:sgnSp t=1:=by unfold sgnSp;rw[if_neg (by omega),if_pos ht]
         rw[if_pos ht] at K1;rw[if_neg (by omega)] at K2;rw[hs];go_wp2
         all_goals go_roundw
         all_goals first | exact⟨3+1,by omega,rfl,by rw[K1];simp,by rw[K2];simp,I0⟩ | simp[intOf]
     · obtain⟨L,hL⟩:∃L,ups ts 4=L:=⟨_,rfl⟩;obtain⟨R,hR⟩:∃R,downs ts 4=R:=⟨_,rfl⟩;rw[hL] at HF1 U⊢;rw[hR] at HF2 D⊢;clear hL hR hts;go_wp2
       all_goals go_ret
       all_goals exact⟨ret_bool (by first | (rw[hO,←HF1,←HF2,Bool.eq_iff_iff];simp;done) | (rw[hO,←HF1,←HF2,Bool.eq_iff_iff];simp;omega) | (rw[←HF1,←HF2,Bool.eq_iff_iff];simp;done) | (rw[←HF1,←HF2,Bool.eq_iff_iff];simp;omega)),I0.below⟩
  · go_wp2;go_ret;exact⟨ret_bool (by rw[hO];rfl),T0.below⟩
def boxOk (x y u v:Int):Bool:=spotOk x y&&spotOk u v&&decide (x≤u)&&decide (y≤v)
def meetsBx (a b c d x y u v:Int):Bool:=segOk a b c d&&boxOk x y u v&&(!boxOut a b c d x y u v&&(lefts [turnSp a b c d x y,turnSp a b c d u v,turnSp a b c d x v,turnSp a b c d u y] 4&&rights [turnSp a b c d x y,turnSp a b c d u v,turnSp a b c d x v,turnSp a b c d u y] 4))
theorem in6_of_spot {x y:Int} (h:spotOk x y=true):In6 x∧In6 y:=by
 unfold spotOk at h
 simp at h
 exact⟨⟨by omega,by omega⟩,⟨by omega,by omega⟩⟩
theorem spots_of_seg {a b c d:Int} (h:segOk a b c d=true):spotOk a b=true∧spotOk c d=true:=by
 unfold segOk at h
 simp at h
 exact⟨h.1.1,h.1.2⟩
theorem l4Box_any (x y u v:Int) (z:Bool) (hz:boxOk x y u v=z) (w:World):Calls Tryz.prog 22 #[Sp x y,Sp u v] w (BoolP z w):=by
 have B0:=(Blk.new w [.int .i64 x,.int .i64 y] 29 rfl).alloc (.cells #[.int .i64 u,.int .i64 v] 29);have B1:=Blk.new (w.alloc (.cells #[.int .i64 x,.int .i64 y] 29)) [.int .i64 u,.int .i64 v] 29 (g:=w.heap.size+1) (by simp);have HB0:=((Below.refl _ w).alloc (Nat.le_refl _) (.cells #[.int .i64 x,.int .i64 y] 29)).alloc (by simp) (.cells #[.int .i64 u,.int .i64 v] 29)
 by_cases h1:spotOk x y=true
 · by_cases h2:spotOk u v=true
   · go_enter Tryz.func22,Tryz.ntmps22
     go_wp2_with fail;refine(specSpotOk_any _ _ true h1 _).mono ?_;rintro e w1 ⟨rfl,hB⟩;replace B0:=B0.step hB;replace B1:=B1.step hB;have HB:Below w.heap.size w w1:=HB0.trans (hB.mono HB0.size);clear hB HB0;have p0:=B0.c 0 rfl;have p1:=B0.c 1 rfl;have q0:=B1.c 0 rfl;have q1:=B1.c 1 rfl;go_wp2_with fail;refine(specSpotOk_any _ _ true h2 _).mono ?_;rintro e w2 ⟨rfl,hB⟩;have HB2:Below w.heap.size w w2:=HB.trans (hB.mono HB.size);replace B0:=B0.step hB;replace B1:=B1.step hB;clear hB HB p0 p1 q0 q1;have p0:=B0.c 0 rfl;have p1:=B0.c 1 rfl;have q0:=B1.c 0 rfl;have q1:=B1.c 1 rfl;go_wp2
     all_goals go_ret
     all_goals exact⟨ret_bool (by rw[←hz];unfold boxOk;rw[h1,h2,Bool.eq_iff_iff];simp;try omega),HB2⟩
   · have h2:=Bool.eq_false_iff.2 h2
     go_enter Tryz.func22,Tryz.ntmps22
     go_wp2_with fail;refine(specSpotOk_any _ _ true h1 _).mono ?_;rintro e w1 ⟨rfl,hB⟩;replace B0:=B0.step hB;replace B1:=B1.step hB;have HB:Below w.heap.size w w1:=HB0.trans (hB.mono HB0.size);clear hB HB0;have p0:=B0.c 0 rfl;have p1:=B0.c 1 rfl;have q0:=B1.c 0 rfl;have q1:=B1.c 1 rfl;go_wp2_with fail;refine(specSpotOk_any _ _ false h2 _).mono ?_;rintro e w2 ⟨rfl,hB⟩;have HB2:Below w.heap.size w w2:=HB.trans (hB.mono HB.size);clear hB HB p0 p1 q0 q1;go_wp2;go_ret;exact⟨ret_bool (by rw[←hz];simp[boxOk,h1,h2]),HB2⟩
 · have h1:=Bool.eq_false_iff.2 h1
   go_enter Tryz.func22,Tryz.ntmps22
   go_wp2_with fail;refine(specSpotOk_any _ _ false h1 _).mono ?_;rintro e w1 ⟨rfl,hB⟩;have HB:Below w.heap.size w w1:=HB0.trans (hB.mono HB0.size);clear hB HB0;go_wp2;go_ret;exact⟨ret_bool (by rw[←hz];simp[boxOk,h1]),HB⟩
theorem isBox_any (x y u v:Int) (w:World):Calls Tryz.prog 17 #[Sp x y,Sp u v] w (BoolP (boxOk x y u v) w):=by
 have B0:=(Blk.new w [.int .i64 x,.int .i64 y] 29 rfl).alloc (.cells #[.int .i64 u,.int .i64 v] 29);have B1:=Blk.new (w.alloc (.cells #[.int .i64 x,.int .i64 y] 29)) [.int .i64 u,.int .i64 v] 29 (g:=w.heap.size+1) (by simp);have HB:Below w.heap.size w ((w.alloc (.cells #[.int .i64 x,.int .i64 y] 29)).alloc (.cells #[.int .i64 u,.int .i64 v] 29)):=((Below.refl _ w).alloc (Nat.le_refl _) _).alloc (by simp) _
 go_enter Tryz.func17,Tryz.ntmps17
 go_upto_region 1 with fail;generalize ((w.alloc (.cells #[.int .i64 x,.int .i64 y] 29)).alloc (.cells #[.int .i64 u,.int .i64 v] 29))=W at *;have b0:=B0.c 0 rfl;have b1:=B0.c 1 rfl;have c0:=B1.c 0 rfl;have c1:=B1.c 1 rfl
 by_cases h2:spotOk x y=true
 · by_cases h3:spotOk u v=true
   · skip
     go_wp2_with fail;refine(implSpotOk_any _ _ true h2 _).mono ?_;rintro e w1 ⟨rfl,hB⟩;replace B0:=B0.step hB;replace B1:=B1.step hB;replace HB:=HB.trans (hB.mono HB.size);clear hB;clear b0 b1 c0 c1;have b0:=B0.c 0 rfl;have b1:=B0.c 1 rfl;have c0:=B1.c 0 rfl;have c1:=B1.c 1 rfl;go_wp2_with fail;refine(implSpotOk_any _ _ true h3 _).mono ?_;rintro e w2 ⟨rfl,hB⟩;replace B0:=B0.step hB;replace B1:=B1.step hB;replace HB:=HB.trans (hB.mono HB.size);clear hB;clear b0 b1 c0 c1;have b0:=B0.c 0 rfl;have b1:=B0.c 1 rfl;have c0:=B1.c 0 rfl;have c1:=B1.c 1 rfl
     by_cases h4:x≤u
     · have HO:Hid (boxOk x y u v=decide (y≤v)):=by show _=_;simp[boxOk,h2,h3,h4]
       clear h2 h3;go_wp2
       all_goals go_ret
       all_goals exact⟨ret_bool (by rw[HO.out]),HB⟩
     · have HO:Hid (boxOk x y u v=false):=by show _=_;simp[boxOk,h4]
       have h4' :u<x:=by omega
       clear h2 h3 h4;go_wp2
       all_goals go_ret
       all_goals exact⟨ret_bool (by rw[HO.out]),HB⟩
   · have h3:=Bool.eq_false_iff.2 h3;have HO:Hid (boxOk x y u v=false):=by show _=_;simp[boxOk,h3]
     go_wp2_with fail;refine(implSpotOk_any _ _ true h2 _).mono ?_;rintro e w1 ⟨rfl,hB⟩;replace B0:=B0.step hB;replace B1:=B1.step hB;replace HB:=HB.trans (hB.mono HB.size);clear hB;clear b0 b1 c0 c1;have b0:=B0.c 0 rfl;have b1:=B0.c 1 rfl;have c0:=B1.c 0 rfl;have c1:=B1.c 1 rfl;go_wp2_with fail;refine(implSpotOk_any _ _ false h3 _).mono ?_;rintro e w2 ⟨rfl,hB⟩;replace B0:=B0.step hB;replace B1:=B1.step hB;replace HB:=HB.trans (hB.mono HB.size);clear hB;clear b0 b1 c0 c1 h2 h3;go_wp2
     all_goals go_ret
     all_goals exact⟨ret_bool (by rw[HO.out]),HB⟩
 · have h2:=Bool.eq_false_iff.2 h2;have HO:Hid (boxOk x y u v=false):=by show _=_;simp[boxOk,h2]
   go_wp2_with fail;refine(implSpotOk_any _ _ false h2 _).mono ?_;rintro e w1 ⟨rfl,hB⟩;replace B0:=B0.step hB;replace B1:=B1.step hB;replace HB:=HB.trans (hB.mono HB.size);clear hB;clear b0 b1 c0 c1 h2;go_wp2
   all_goals go_ret
   all_goals exact⟨ret_bool (by rw[HO.out]),HB⟩
theorem meetsBox_any (a b c d x y u v:Int) (ha:In6 a) (hb:In6 b) (hc:In6 c) (hd:In6 d) (hx:In6 x) (hy:In6 y) (hu:In6 u) (hv:In6 v) (w:World):Calls Tryz.prog 25 #[Sg a b c d,Sp x y,Sp u v] w (BoolP (!boxOut a b c d x y u v&&(lefts [turnSp a b c d x y,turnSp a b c d u v,turnSp a b c d x v,turnSp a b c d u y] 4&&rights [turnSp a b c d x y,turnSp a b c d u v,turnSp a b c d x v,turnSp a b c d u y] 4)) w):=by
 have T0:=box_start a b c d x y u v w 38 29 29
 go_enter Tryz.func25,Tryz.ntmps25
 go_upto_region 1 with fail;generalize (((w.alloc (.cells #[.int .i64 a,.int .i64 b,.int .i64 c,.int .i64 d] 38)).alloc (.cells #[.int .i64 x,.int .i64 y] 29)).alloc (.cells #[.int .i64 u,.int .i64 v] 29))=W at *;have a0:=(T0.b 0 rfl).c 0 rfl;have a1:=(T0.b 0 rfl).c 1 rfl;have a2:=(T0.b 0 rfl).c 2 rfl;have a3:=(T0.b 0 rfl).c 3 rfl;have b0:=(T0.b 1 rfl).c 0 rfl;have b1:=(T0.b 1 rfl).c 1 rfl;have c0:=(T0.b 2 rfl).c 0 rfl;have c1:=(T0.b 2 rfl).c 1 rfl;have alt:=(T0.b 2 rfl).lt;simp only[Nat.add_zero] at a0 a1 a2 a3
 go_cut [44] (fun q wx=>q= .bool (boxOut a b c d x y u v)∧ArgsB w wx [[.int .i64 a,.int .i64 b,.int .i64 c,.int .i64 d],[.int .i64 x,.int .i64 y],[.int .i64 u,.int .i64 v]])
 case first=>
  go_wp2
  all_goals go_meet
  all_goals refine⟨?_,T0⟩
  all_goals (apply congrArg Value.bool;unfold boxOut;rw[Bool.eq_iff_iff];simp;try omega)
 case rest=>
  clear a0 a1 a2 a3 b0 b1 c0 c1 alt T0;obtain⟨hq,T0⟩:=hcut;subst hq;have a0:=(T0.b 0 rfl).c 0 rfl;have a1:=(T0.b 0 rfl).c 1 rfl;have a2:=(T0.b 0 rfl).c 2 rfl;have a3:=(T0.b 0 rfl).c 3 rfl;have b0:=(T0.b 1 rfl).c 0 rfl;have b1:=(T0.b 1 rfl).c 1 rfl;have c0:=(T0.b 2 rfl).c 0 rfl;have c1:=(T0.b 2 rfl).c 1 rfl;have alt:=(T0.b 2 rfl).lt;simp only[Nat.add_zero] at a0 a1 a2 a3;obtain⟨M,hM⟩:∃M,boxOut a b c d x y u v=M:=⟨_,rfl⟩;rw[hM];cases M
  · go_wp2_with fail;refine(parts_any a b c d x y u v x v u y ha hb hc hd hx hy hu hv hx hv hu hy wc.heap.size _ (Blk.new wc [.int .i64 x,.int .i64 y,.int .i64 u,.int .i64 v,.int .i64 x,.int .i64 v,.int .i64 u,.int .i64 y] 29 rfl)).mono ?_;rintro e w4 ⟨rfl,hB⟩;have HB:Below w.heap.size w w4:=(T0.alloc _).below.trans (hB.mono (T0.alloc _).below.size);clear hB a0 a1 a2 a3 b0 b1 c0 c1 alt T0;go_wp2;go_ret;exact⟨ret_bool (by simp[hM]),HB⟩
  · have HBF:=T0.below;clear a0 a1 a2 a3 b0 b1 c0 c1 alt T0;go_wp2;go_ret;exact⟨ret_bool (by simp[hM]),HBF⟩
theorem implMeetsBox_any (a b c d x y u v:Int) (z:Bool) (hz:meetsBx a b c d x y u v=z) (w:World):Calls Tryz.prog 9 #[Sg a b c d,Sp x y,Sp u v] w (BoolP z w):=by
 have T0:=box_start a b c d x y u v w 38 29 29
 go_enter Tryz.func9,Tryz.ntmps9
 go_upto_region 1 with fail;generalize (((w.alloc (.cells #[.int .i64 a,.int .i64 b,.int .i64 c,.int .i64 d] 38)).alloc (.cells #[.int .i64 x,.int .i64 y] 29)).alloc (.cells #[.int .i64 u,.int .i64 v] 29))=W at *;have a0:=(T0.b 0 rfl).c 0 rfl;have a1:=(T0.b 0 rfl).c 1 rfl;have a2:=(T0.b 0 rfl).c 2 rfl;have a3:=(T0.b 0 rfl).c 3 rfl;have b0:=(T0.b 1 rfl).c 0 rfl;have b1:=(T0.b 1 rfl).c 1 rfl;have c0:=(T0.b 2 rfl).c 0 rfl;have c1:=(T0.b 2 rfl).c 1 rfl;have alt:=(T0.b 2 rfl).lt;simp only[Nat.add_zero] at a0 a1 a2 a3
 by_cases h1:segOk a b c d=true
 · go_wp2_with fail;refine(implSegOk_any _ _ _ _ true h1 _).mono ?_;rintro e w1 ⟨rfl,hB⟩;replace T0:=T0.step hB;clear hB a0 a1 a2 a3 b0 b1 c0 c1 alt;have a0:=(T0.b 0 rfl).c 0 rfl;have a1:=(T0.b 0 rfl).c 1 rfl;have a2:=(T0.b 0 rfl).c 2 rfl;have a3:=(T0.b 0 rfl).c 3 rfl;have b0:=(T0.b 1 rfl).c 0 rfl;have b1:=(T0.b 1 rfl).c 1 rfl;have c0:=(T0.b 2 rfl).c 0 rfl;have c1:=(T0.b 2 rfl).c 1 rfl;have alt:=(T0.b 2 rfl).lt;simp only[Nat.add_zero] at a0 a1 a2 a3;have IB:=isBox_any x y u v
   by_cases h2:boxOk x y u v=true
   · rw[h2] at IB;go_wp2_with fail;refine(IB _).mono ?_;rintro e w2 ⟨rfl,hB⟩;replace T0:=T0.step hB;clear hB a0 a1 a2 a3 b0 b1 c0 c1 alt IB;have a0:=(T0.b 0 rfl).c 0 rfl;have a1:=(T0.b 0 rfl).c 1 rfl;have a2:=(T0.b 0 rfl).c 2 rfl;have a3:=(T0.b 0 rfl).c 3 rfl;have b0:=(T0.b 1 rfl).c 0 rfl;have b1:=(T0.b 1 rfl).c 1 rfl;have c0:=(T0.b 2 rfl).c 0 rfl;have c1:=(T0.b 2 rfl).c 1 rfl;have alt:=(T0.b 2 rfl).lt;simp only[Nat.add_zero] at a0 a1 a2 a3;have s12:spotOk x y=true∧spotOk u v=true:=by
      have:=h2;simp only[boxOk,Bool.and_eq_true] at this;exact⟨this.1.1.1,this.1.1.2⟩
     obtain⟨s1,s2⟩:=spots_of_seg h1;obtain⟨ha,hb⟩:=in6_of_spot s1;obtain⟨hc,hd⟩:=in6_of_spot s2;obtain⟨hx,hy⟩:=in6_of_spot s12.1;obtain⟨hu,hv⟩:=in6_of_spot s12.2;have HO:Hid (z=(!boxOut a b c d x y u v&&(lefts [turnSp a b c d x y,turnSp a b c d u v,turnSp a b c d x v,turnSp a b c d u y] 4&&rights [turnSp a b c d x y,turnSp a b c d u v,turnSp a b c d x v,turnSp a b c d u y] 4))):=by show _=_;rw[←hz];simp only[meetsBx,h1,h2,Bool.true_and]
     have MB:=meetsBox_any a b c d x y u v ha hb hc hd hx hy hu hv;clear ha hb hc hd hx hy hu hv s1 s2 s12 h1 h2 hz;generalize (!boxOut a b c d x y u v&&(lefts [turnSp a b c d x y,turnSp a b c d u v,turnSp a b c d x v,turnSp a b c d u y] 4&&rights [turnSp a b c d x y,turnSp a b c d u v,turnSp a b c d x v,turnSp a b c d u y] 4))=m at *;go_wp2_with fail;refine(MB _).mono ?_;rintro e w3 ⟨rfl,hB⟩;replace T0:=T0.step hB;clear hB a0 a1 a2 a3 b0 b1 c0 c1 alt MB;have HBF:=T0.below;clear T0;go_wp2;go_ret;exact⟨ret_bool HO.out,HBF⟩
   · have h2:=Bool.eq_false_iff.2 h2;rw[h2] at IB;have HO:Hid (z=false):=by show _=_;rw[←hz];simp[meetsBx,h2]
     go_wp2_with fail;refine(IB _).mono ?_;rintro e w2 ⟨rfl,hB⟩;replace T0:=T0.step hB;have HBF:=T0.below;clear hB a0 a1 a2 a3 b0 b1 c0 c1 alt IB T0;go_wp2;go_ret;exact⟨ret_bool (by rw[HO.out]),HBF⟩
 · have h1:=Bool.eq_false_iff.2 h1;have HO:Hid (z=false):=by show _=_;rw[←hz];simp[meetsBx,h1]
   go_wp2_with fail;refine(implSegOk_any _ _ _ _ false h1 _).mono ?_;rintro e w1 ⟨rfl,hB⟩;replace T0:=T0.step hB;have HBF:=T0.below;clear hB a0 a1 a2 a3 b0 b1 c0 c1 alt T0;go_wp2;go_ret;exact⟨ret_bool (by rw[HO.out]),HBF⟩
def hitB (a b c d x y u v:Int):Bool:=!boxOut a b c d x y u v&&(lefts [turnSp a b c d x y,turnSp a b c d u v,turnSp a b c d x v,turnSp a b c d u y] 4&&rights [turnSp a b c d x y,turnSp a b c d u v,turnSp a b c d x v,turnSp a b c d u y] 4)
theorem turn_parts (a b c d X Y P Q:Int):turnSp a b c d P Q=turnSp a b c d X Y+(c-a)*(Q-Y)+(d-b)*(X-P):=by
 unfold turnSp
 grind
theorem mul_nn {p q:Int} (hp:0≤p) (hq:0≤q):0≤p*q:=Int.mul_nonneg hp hq
theorem mul_pp {p q:Int} (hp:p≤0) (hq:q≤0):0≤p*q:=Int.mul_nonneg_of_nonpos_of_nonpos hp hq
theorem mul_np {p q:Int} (hp:0≤p) (hq:q≤0):p*q≤0:=Int.mul_nonpos_of_nonneg_of_nonpos hp hq
theorem mul_pn {p q:Int} (hp:p≤0) (hq:0≤q):p*q≤0:=Int.mul_nonpos_of_nonpos_of_nonneg hp hq
theorem turn_up {a b c d X Y x y u v:Int} (h1:x≤X) (h2:X≤u) (h3:y≤Y) (h4:Y≤v) (h:0≤turnSp a b c d X Y):0≤turnSp a b c d x y∨0≤turnSp a b c d u v∨0≤turnSp a b c d x v∨0≤turnSp a b c d u y:=by
 rcases Int.le_total 0 (c-a) with hA | hA<;>rcases Int.le_total 0 (d-b) with hD | hD
 · refine .inr (.inr (.inl ?_));rw[turn_parts a b c d X Y];have:=mul_nn hA (show 0≤v-Y by omega);have:=mul_nn hD (show 0≤X-x by omega)
   omega
 · refine .inr (.inl ?_);rw[turn_parts a b c d X Y];have:=mul_nn hA (show 0≤v-Y by omega);have:=mul_pp hD (show X-u≤0 by omega)
   omega
 · refine .inl ?_;rw[turn_parts a b c d X Y];have:=mul_pp hA (show y-Y≤0 by omega);have:=mul_nn hD (show 0≤X-x by omega)
   omega
 · refine .inr (.inr (.inr ?_));rw[turn_parts a b c d X Y];have:=mul_pp hA (show y-Y≤0 by omega);have:=mul_pp hD (show X-u≤0 by omega)
   omega
theorem turn_down {a b c d X Y x y u v:Int} (h1:x≤X) (h2:X≤u) (h3:y≤Y) (h4:Y≤v) (h:turnSp a b c d X Y≤0):turnSp a b c d x y≤0∨turnSp a b c d u v≤0∨turnSp a b c d x v≤0∨turnSp a b c d u y≤0:=by
 rcases Int.le_total 0 (c-a) with hA | hA<;>rcases Int.le_total 0 (d-b) with hD | hD
 · refine .inr (.inr (.inr ?_));rw[turn_parts a b c d X Y];have:=mul_np hA (show y-Y≤0 by omega);have:=mul_np hD (show X-u≤0 by omega)
   omega
 · refine .inl ?_;rw[turn_parts a b c d X Y];have:=mul_np hA (show y-Y≤0 by omega);have:=mul_pn hD (show 0≤X-x by omega)
   omega
 · refine .inr (.inl ?_);rw[turn_parts a b c d X Y];have:=mul_pn hA (show 0≤v-Y by omega);have:=mul_np hD (show X-u≤0 by omega)
   omega
 · refine .inr (.inr (.inl ?_));rw[turn_parts a b c d X Y];have:=mul_pn hA (show 0≤v-Y by omega);have:=mul_pn hD (show 0≤X-x by omega)
   omega
theorem lefts4 (p q r s:Int):lefts [p,q,r,s] 4=true↔0≤p∨0≤q∨0≤r∨0≤s:=by simp[lefts]
theorem rights4 (p q r s:Int):rights [p,q,r,s] 4=true↔p≤0∨q≤0∨r≤0∨s≤0:=by simp[rights]
theorem hit_wider {a b c d x y u v x' y' u' v' :Int} (hx:x' ≤x) (hy:y' ≤y) (hu:u≤u') (hv:v≤v') (hxu:x≤u) (hyv:y≤v) (h:hitB a b c d x y u v=true):hitB a b c d x' y' u' v' =true:=by
 unfold hitB at h⊢;simp only[Bool.and_eq_true,Bool.not_eq_true',lefts4,rights4] at h⊢;obtain⟨h1,h2,h3⟩:=h;refine⟨?_,?_,?_⟩
 · unfold boxOut at h1⊢;rw[decide_eq_false_iff_not] at h1⊢
   omega
 · rcases h2 with h2 | h2 | h2 | h2<;>exact turn_up (by omega) (by omega) (by omega) (by omega) h2
 · rcases h3 with h3 | h3 | h3 | h3<;>exact turn_down (by omega) (by omega) (by omega) (by omega) h3
structure QD where
 m:Nat
 N:Nat
 I:Nat→Int
 S:Nat→Int×Int×Int×Int
 X:Nat→Int
 Y:Nat→Int
 Z:Nat→Int
 T:Nat→Bool
 L:Nat→Nat
 E:Nat→Nat→Int
def hitQ (Q:QD) (x y s:Int) (i:Nat):Bool:=hitB (Q.S i).1 (Q.S i).2.1 (Q.S i).2.2.1 (Q.S i).2.2.2 x y (x+s) (y+s)
def flQ (Q:QD) (l:List Nat) (x y s:Int):List Nat:=l.filter (hitQ Q x y s)
def idL (Q:QD) (l:List Nat):List Int:=l.map Q.I
def blL (Q:QD) (at_:Nat):List Int:=(List.range (Q.L at_)).map (Q.E at_)
def leafB (Q:QD) (at_:Nat) (x y s:Int):Bool:=decide (blL Q at_=idL Q (flQ Q (List.range Q.m) x y s))
def baseB (Q:QD) (at_:Nat) (x y s:Int):Bool:=decide (at_<Q.N∧Q.X at_=x∧Q.Y at_=y∧Q.Z at_=s)
def kX (x h:Int) (k:Nat):Int:=x+((k%2:Nat):Int)*h
def kY (y h:Int) (k:Nat):Int:=y+((k / 2:Nat):Int)*h
def kp (f:Nat→Int→Int→Option Nat) (at_:Nat) (x y h:Int):Nat→Option Nat
 | 0=>some at_
 | k+1=>(kp f at_ x y h k).bind fun a=>f a (kX x h k) (kY y h k)
def qrd (Q:QD):Nat→Nat→Int→Int→Int→Option Nat
 | 0,at_,x,y,s=>if baseB Q at_ x y s=true∧Q.T at_=false∧leafB Q at_ x y s=true then some (at_+1) else none
 | d+1,at_,x,y,s=>if baseB Q at_ x y s=true then(if Q.T at_=true then(if Q.L at_=0 then kp (fun a x y=>qrd Q d a x y (s / 2)) (at_+1) x y (s / 2) 4 else none) else if leafB Q at_ x y s=true then some (at_+1) else none) else none
def mrd (Q:QD):Nat→Nat→Int→Int→Int→Option Nat
 | 0,at_,x,y,s=>if baseB Q at_ x y s=true∧Q.T at_=false then some (at_+1) else none
 | d+1,at_,x,y,s=>if baseB Q at_ x y s=true then(if Q.T at_=true then(if Q.L at_=0 then kp (fun a x y=>mrd Q d a x y (s / 2)) (at_+1) x y (s / 2) 4 else none) else some (at_+1)) else none
def rtB (Q:QD):Nat→Nat→Int→Int→Int→Bool
 | 0,at_,x,y,s=>leafB Q at_ x y s
 | d+1,at_,x,y,s=>if Q.T at_=true then(List.range 4).all (fun k=>match kp (fun a x y=>mrd Q d a x y (s / 2)) (at_+1) x y (s / 2) k with | some a=>rtB Q d a (kX x (s / 2) k) (kY y (s / 2) k) (s / 2) | none=>true) else leafB Q at_ x y s
theorem kp_both {f g:Nat→Int→Int→Option Nat} {r:Nat→Int→Int→Bool} (h:∀a x y e,f a x y=some e↔g a x y=some e∧r a x y=true) (at_:Nat) (x y s:Int):∀k e,kp f at_ x y s k=some e↔kp g at_ x y s k=some e∧∀j,j<k→∀a,kp g at_ x y s j=some a→r a (kX x s j) (kY y s j)=true
 | 0,e=>⟨fun h0=>⟨h0,fun j hj=>absurd hj (by omega)⟩,fun h0=>h0.1⟩
 | k+1,e=>by
  show(kp f at_ x y s k).bind _=some e↔(kp g at_ x y s k).bind _=some e∧_;simp only[Option.bind_eq_some_iff]
  constructor
  · rintro⟨a,h1,h2⟩;obtain⟨h3,h4⟩:=(kp_both h at_ x y s k a).1 h1;obtain⟨h5,h6⟩:=(h _ _ _ _).1 h2;refine⟨⟨a,h3,h5⟩,fun j hj b hb=>?_⟩
    rcases Nat.lt_or_ge j k with hjk | hjk
    · exact h4 j hjk b hb
    · obtain rfl:j=k:=by omega
      rw[h3] at hb;cases hb;exact h6
  · rintro⟨⟨a,h1,h2⟩,h3⟩;exact⟨a,(kp_both h at_ x y s k a).2 ⟨h1,fun j hj=>h3 j (by omega)⟩,(h _ _ _ _).2 ⟨h2,h3 k (by omega) a h1⟩⟩
theorem qrd_both (Q:QD):∀d at_ x y s e,qrd Q d at_ x y s=some e↔mrd Q d at_ x y s=some e∧rtB Q d at_ x y s=true
 | 0,at_,x,y,s,e=>by
  unfold qrd mrd rtB
  by_cases h1:baseB Q at_ x y s=true∧Q.T at_=false
  · rw[if_pos h1]
    by_cases h2:leafB Q at_ x y s=true
    · rw[if_pos ⟨h1.1,h1.2,h2⟩];simp[h2]
    · rw[if_neg (fun h=>h2 h.2.2)];simp[h2]
  · rw[if_neg h1,if_neg (fun h=>h1 ⟨h.1,h.2.1⟩)];simp
 | d + 1, at_,x,y,s,e=>by
  unfold qrd mrd rtB
  by_cases h1:baseB Q at_ x y s=true
  · rw[if_pos h1,if_pos h1]
    by_cases h2:Q.T at_=true
    · rw[if_pos h2,if_pos h2,if_pos h2]
      by_cases h3:Q.L at_=0
      · rw[if_pos h3,if_pos h3,kp_both (g:=fun a x y=>mrd Q d a x y (s / 2)) (r:=fun a x y=>rtB Q d a x y (s / 2)) (fun a x y e=>qrd_both Q d a x y (s / 2) e)];refine and_congr_right fun _=>?_;rw[List.all_eq_true]
        constructor
        · intro h k hk;have hk:=List.mem_range.1 hk
          split
          · rename_i a ha;exact h k hk a ha
          · rfl
        · intro h k hk a ha;have:=h k (List.mem_range.2 hk);rw[ha] at this;exact this
      · rw[if_neg h3,if_neg h3];simp
    · rw[if_neg h2,if_neg h2,if_neg h2]
      by_cases h3:leafB Q at_ x y s=true
      · rw[if_pos h3];simp[h3]
      · rw[if_neg h3];simp[h3]
  · rw[if_neg h1,if_neg h1];simp
theorem kid_in {x y s:Int} (hs:0≤s) {k:Nat} (hk:k<4):x≤kX x (s / 2) k∧y≤kY y (s / 2) k∧kX x (s / 2) k+s / 2≤x+s∧kY y (s / 2) k+s / 2≤y+s:=by
 unfold kX kY
 rcases(show k=0∨k=1∨k=2∨k=3 by omega) with h | h | h | h<;>subst h<;>simp<;>omega
theorem hit_kid {Q:QD} {x y s:Int} (hs:0≤s) {k:Nat} (hk:k<4) {i:Nat} (h:hitQ Q (kX x (s / 2) k) (kY y (s / 2) k) (s / 2) i=true):hitQ Q x y s i=true:=by
 obtain⟨h1,h2,h3,h4⟩:=kid_in (x:=x) (y:=y) hs hk;exact hit_wider h1 h2 h3 h4 (by omega) (by omega) h
theorem fl_kid {Q:QD} {x y s:Int} (hs:0≤s) {k:Nat} (hk:k<4) (l:List Nat):flQ Q (flQ Q l x y s) (kX x (s / 2) k) (kY y (s / 2) k) (s / 2)=flQ Q l (kX x (s / 2) k) (kY y (s / 2) k) (s / 2):=by
 unfold flQ;rw[List.filter_filter]
 congr 1
 funext i
 cases h:hitQ Q (kX x (s / 2) k) (kY y (s / 2) k) (s / 2) i
 · rfl
 · rw[hit_kid hs hk h];rfl
end Go.Proofs.YthelolpogdcmhaaGreat
namespace Go.Proofs.YthelolpogdcmhaaGreat
variable {P:Program} {ops:Array Oper} {Q:Exit→Act→World→Prop} {md:Region.Mode}
def open_ (l:Array Bool):Nat:=l.toList.countP (fun b=>!b)
theorem open_set {l:Array Bool} {i:Nat} (h:l.getD i true=false):open_ (l.setIfInBounds i true)+1=open_ l:=by
 obtain⟨xs⟩:=l;have hi:i<xs.length:=by
  rcases Nat.lt_or_ge i xs.length with h' | h'
  · exact h'
  · simp[Array.getD,Nat.not_lt.2 h'] at h
 have hv:xs[i]=false:=by simpa [Array.getD,hi] using h
 have hp:0<xs.countP (fun b=>!b):=List.countP_pos_iff.2 ⟨xs[i],List.getElem_mem hi,by simp[hv]⟩;simp only[open_,List.setIfInBounds_toArray,List.countP_set hi,hv]
 simp
 omega
theorem wpAny_inv (J:Array Bool→Act→World→Prop) (hs:∀l a w i o,J l a w→l.getD i true=false→ops[i]? =some o→(∀e∈o.after,Region.binds md e=true→l.getD e.on false=true)→wpOp P ops Q i (J (l.setIfInBounds i true)) a w)
 (hd:∀l a w,J l a w→Region.ready md ops l=[]→Q .normal a w):∀(fuel:Nat) (l:Array Bool) (a:Act) (w:World),open_ l≤fuel→J l a w→wpAny P md ops Q fuel l a w:=by
 intro fuel
 induction fuel with
 | zero=>
  intro l a w hf hJ;have hr:Region.ready md ops l=[]:=by
   rw[List.eq_nil_iff_forall_not_mem];intro i hi;have:=open_set (mem_ready.1 hi).1
   omega
  exact⟨hr,hd l a w hJ hr⟩
 | succ fuel ih=>
  intro l a w hf hJ;refine⟨fun hr=>hd l a w hJ hr,fun i hi=>?_⟩;obtain⟨h0,o,ho,hall⟩:=mem_ready.1 hi;exact wpOp_mono (fun a' w' h' =>ih _ a' w' (by have:=open_set h0;omega) h') (hs l a w i o hJ h0 ho hall)
theorem wp_region_inv {id:Nat} {a:Act} {w:World} (hm:P.follows .mixedOrders=true) (J:Array Bool→Act→World→Prop)
 (h0:J (Array.replicate ops.size false) a {w with drawn:=w.drawn+1})
 (hs:∀l a w i o,J l a w→l.getD i true=false→ops[i]? =some o→(∀e∈o.after,Region.binds .any e=true→l.getD e.on false=true)→wpOp P ops Q i (J (l.setIfInBounds i true)) a w)
 (hd:∀l a w,J l a w→Region.ready .any ops l=[]→Q .normal a w):(Code.region id ops true).wp P Q a w:=
 wp_region_any hm (wpAny_inv J hs hd _ _ _ _ (by
  unfold open_;refine Nat.le_trans List.countP_le_length ?_
  simp) h0)
def waits (md:Region.Mode) (ops:Array Oper):List Nat→List Nat→Bool
 | _,[]=>true
 | acc,i::r=>((ops[i]?).map (fun o=>o.after.all (fun e=>!Region.binds md e||acc.contains e.on))).getD false&&waits md ops (i::acc) r
theorem listed_of {l:Array Bool} (hr:Region.ready md ops l=[]):∀(r acc:List Nat),(∀k∈acc,l.getD k false=true)→waits md ops acc r=true→(∀k∈r,k<l.size)→∀k∈r,l.getD k false=true
 | [],_,_,_,_=>fun k hk=>by simp at hk
 | i ::r,acc,ha,hw,hz=>by
  simp only[waits,Bool.and_eq_true] at hw;obtain⟨hw1,hw2⟩:=hw;have hi:l.getD i false=true:=by
   cases ho:ops[i]? with
   | none=>rw[ho] at hw1;simp at hw1
   | some o=>
    rw[ho] at hw1;have hall:∀e∈o.after,Region.binds md e=true→l.getD e.on false=true:=fun e he hb=>by
     have h2:o.after.all (fun e=>!Region.binds md e||acc.contains e.on)=true:=by simpa using hw1
     rw[Array.all_eq_true'] at h2;have h3:=h2 e he;rw[hb] at h3;exact ha _ (by simpa using h3)
    have hz' :=hz i (by simp)
    by_cases hc:l.getD i true=false
    · have:i∈Region.ready md ops l:=mem_ready.2 ⟨hc,o,ho,hall⟩;rw[hr] at this
      simp at this
    · simpa [Array.getD,hz'] using hc
  intro k hk
  rcases List.mem_cons.1 hk with rfl | hk
  · exact hi
  · exact listed_of hr r (i::acc) (fun k hk=>by
     rcases List.mem_cons.1 hk with rfl | hk
     · exact hi
     · exact ha k hk) hw2 (fun k hk=>hz k (by simp[hk])) k hk
theorem wpOp_of {i:Nat} {o:Oper} {a:Act} {w:World} {K:Act→World→Prop} (ho:ops[i]? =some o) (hg:o.guard=none) (h:o.wp P a w K Q):wpOp P ops Q i K a w:=by
 unfold wpOp;simp only[ho];have hw:Region.wanted o (yielded ops a.tmps)=true:=by unfold Region.wanted;rw[hg]
 rw[if_pos hw];exact .inl h
theorem tmps_fold:∀(D:List Nat) (t s:Array Value),t.size=s.size→(∀d,d∉D→t[d]? =s[d]?)→t=D.foldl (fun u d=>u.setIfInBounds d (t.getD d undef)) s
 | [],t,s,_,h=>Array.ext_getElem? (fun d=>h d (by simp))
 | d::D,t,s,hz,h=>by
  rw[List.foldl_cons];refine tmps_fold D t _ (by simpa using hz) (fun e he=>?_)
  by_cases hed:e=d
  · subst hed
    rcases Nat.lt_or_ge e t.size with h' | h'
    · simp[Array.getD,h',←hz]
    · simp[←hz,h']
  · rw[Array.getElem?_setIfInBounds_ne (fun hh=>hed hh.symm)];exact h e (by simp[hed,he])
theorem put_getD_ne {a:Act} {d e:Nat} {v:Value} (h:d≠e):(a.put (some d) v).tmps.getD e undef=a.tmps.getD e undef:=by
 simp[Act.put,Array.getD_eq_getD_getElem?,Array.getElem?_setIfInBounds_ne h]
theorem put_getD_same {a:Act} {d:Nat} {v:Value} (h:d<a.tmps.size):(a.put (some d) v).tmps.getD d undef=v:=by
 simp[Act.put,Array.getD_eq_getD_getElem?,h]
end Go.Proofs.YthelolpogdcmhaaGreat
namespace Go.Proofs.YthelolpogdcmhaaGreat
variable {P:Program} {ops:Array Oper} {Q:Exit→Act→World→Prop}
theorem yielded_of {j d:Nat} {o:Oper} {t:Array Value} {b:Bool} (ho:ops[j]? =some o) (hd:o.dst=some d) (ht:t.getD d undef= .bool b):yielded ops t j=some b:=by
 have h:t[d]? =some (.bool b):=by
  rcases Nat.lt_or_ge d t.size with h | h
  · simpa [Array.getD,h] using ht
  · simp[Array.getD,Nat.not_lt.2 h,undef] at ht
 unfold yielded;rw[ho];simp only[Option.bind_some,hd];rw[h]
theorem wpOp_off {i k d:Nat} {b:Bool} {o ok:Oper} {a:Act} {w:World} {K:Act→World→Prop} (ho:ops[i]? =some o) (hg:o.guard=some (k,b)) (hk:ops[k]? =some ok) (hd:ok.dst=some d) (ht:a.tmps.getD d undef= .bool (!b)) (h:K (a.put o.dst undef) w):wpOp P ops Q i K a w:=by
 unfold wpOp;simp only[ho];have hw:Region.wanted o (yielded ops a.tmps)=false:=by
  unfold Region.wanted;rw[hg];simp only[yielded_of hk hd ht];cases b<;>rfl
 rw[hw];exact h
theorem wpOp_on {i k d:Nat} {b:Bool} {o ok:Oper} {a:Act} {w:World} {K:Act→World→Prop} (ho:ops[i]? =some o) (hg:o.guard=some (k,b)) (hk:ops[k]? =some ok) (hd:ok.dst=some d) (ht:a.tmps.getD d undef= .bool b) (h:o.wp P a w K Q):wpOp P ops Q i K a w:=by
 unfold wpOp;simp only[ho];have hw:Region.wanted o (yielded ops a.tmps)=true:=by
  unfold Region.wanted;rw[hg];simp only[yielded_of hk hd ht];cases b<;>rfl
 rw[if_pos hw];exact .inl h
end Go.Proofs.YthelolpogdcmhaaGreat
namespace Go.Proofs.YthelolpogdcmhaaGreat
open Go.RowKit
variable {P:Program} {ops:Array Oper}
def distS:List (Option Nat)→Bool
 | []=>true
 | none::r=>distS r
 | some d::r=>!(r.contains (some d))&&distS r
theorem distS_inj:∀(S:List (Option Nat)) (i j d:Nat),distS S=true→S[i]? =some (some d)→S[j]? =some (some d)→i=j
 | [],i,_,_,_,h,_=>by simp at h
 | o::r,i,j,d,hd,hi,hj=>by
  have hr:distS r=true:=by
   cases o with
   | none=>exact hd
   | some d' =>simp only[distS,Bool.and_eq_true] at hd;exact hd.2
  have hno:∀k,o=some d→r[k]? =some (some d)→False:=fun k ho hk=>by
   subst ho;simp only[distS,Bool.and_eq_true,Bool.not_eq_true'] at hd;have hm:some d∈r:=List.mem_of_getElem? hk;rw[←List.contains_iff_mem,hd.1] at hm;cases hm
  match i,j with
  | 0,0=>rfl
  | 0,j+1=>exact(hno j (by simpa using hi) (by simpa using hj)).elim
  | i+1,0=>exact(hno i (by simpa using hj) (by simpa using hi)).elim
  | i+1,j+1=>exact congrArg (· +1) (distS_inj r i j d hr (by simpa using hi) (by simpa using hj))
def InvQ (B:Nat) (S:List (Option Nat)) (V:Nat→Value→World→Prop) (w0:World) (a0:Act) (l:Array Bool) (a:Act) (W:World):Prop:=
 l.size=S.length∧a.tmps.size=a0.tmps.size∧a.defers=a0.defers∧(∀e,some e∉S→a.tmps[e]? =a0.tmps[e]?)∧Below B w0 W∧(∀j d,l.getD j false=true→S[j]? =some (some d)→V j (a.tmps.getD d undef) W)∧(∀j,l.getD j false=true→S[j]? =some none→V j undef W)
theorem getD_set_q {l:Array Bool} {i j:Nat} (h:(l.setIfInBounds i true).getD j false=true) (hne:j≠i):l.getD j false=true:=by
 rw[getD_set_ne false (Ne.symm hne)] at h;exact h
theorem InvQ.put {B:Nat} {S:List (Option Nat)} {V:Nat→Value→World→Prop} {w0:World} {a0:Act} {l:Array Bool} {a:Act} {W W' :World} (h:InvQ B S V w0 a0 l a W) (hS:distS S=true) (i d:Nat) (hi:S[i]? =some (some d)) (hlt:d<a0.tmps.size)
 (hW:Below B w0 W') (hT:∀j v,V j v W→V j v W') (v:Value) (hv:V i v W'):InvQ B S V w0 a0 (l.setIfInBounds i true) (a.put (some d) v) W' :=by
 obtain⟨h1,h2,h3,h4,h5,h6,h7⟩:=h;refine⟨by simpa using h1,by simpa [Act.put] using h2,h3,fun e he=>?_,hW,fun j d' hj hd' =>?_,fun j hj hn=>?_⟩
 · have hne:d≠e:=fun hh=>he (hh▸List.mem_of_getElem? hi);simp only[Act.put];rw[Array.getElem?_setIfInBounds_ne hne];exact h4 e he
 · by_cases hji:j=i
   · subst hji;rw[hi] at hd';cases hd';rw[put_getD_same (by omega)];exact hv
   · have hne:d≠d' :=fun hh=>hji (distS_inj S j i d hS (hh▸hd') hi);rw[put_getD_ne hne];exact hT _ _ (h6 j d' (getD_set_q hj hji) hd')
 · have hji:j≠i:=fun hh=>by subst hh;rw[hi] at hn;cases hn
   exact hT _ _ (h7 j (getD_set_q hj hji) hn)
theorem InvQ.go {B:Nat} {S:List (Option Nat)} {V:Nat→Value→World→Prop} {w0:World} {a0:Act} {l:Array Bool} {a:Act} {W:World} (h:InvQ B S V w0 a0 l a W) (hS:distS S=true) (i d:Nat) (hi:S[i]? =some (some d):=by rfl) (hlt:d<a0.tmps.size:=by omega) (v:Value) (W' :World) (hW:Below B w0 W') (hT:∀j v,V j v W→V j v W') (hv:V i v W'):InvQ B S V w0 a0 (l.setIfInBounds i true) (a.put (some d) v) W' :=h.put hS i d hi hlt hW hT v hv
theorem InvQ.world {B:Nat} {S:List (Option Nat)} {V:Nat→Value→World→Prop} {w0:World} {a0:Act} {l:Array Bool} {a:Act} {W W' :World} (h:InvQ B S V w0 a0 l a W) (i:Nat) (hi:S[i]? =some none)
 (hW:Below B w0 W') (hT:∀j v,V j v W→V j v W') (hv:V i undef W'):InvQ B S V w0 a0 (l.setIfInBounds i true) a W' :=by
 obtain⟨h1,h2,h3,h4,h5,h6,h7⟩:=h;refine⟨by simpa using h1,h2,h3,h4,hW,fun j d hj hd=>?_,fun j hj hn=>?_⟩
 · have hji:j≠i:=fun hh=>by subst hh;rw[hi] at hd;cases hd
   exact hT _ _ (h6 j d (getD_set_q hj hji) hd)
 · by_cases hji:j=i
   · subst hji;exact hv
   · exact hT _ _ (h7 j (getD_set_q hj hji) hn)
theorem InvQ.b {B:Nat} {S:List (Option Nat)} {V:Nat→Value→World→Prop} {w0:World} {a0:Act} {l:Array Bool} {a:Act} {W:World} (h:InvQ B S V w0 a0 l a W):Below B w0 W:=h.2.2.2.2.1
theorem InvQ.gO {B:Nat} {S:List (Option Nat)} {V:Nat→Value→World→Prop} {w0:World} {a0:Act} {l:Array Bool} {a:Act} {W:World} (h:InvQ B S V w0 a0 l a W) (hS:distS S=true) (i d:Nat) (hi:S[i]? =some (some d):=by rfl) (hlt:d<a0.tmps.size:=by omega) (v:Value) (hv:V i v W):InvQ B S V w0 a0 (l.setIfInBounds i true) (a.put (some d) v) W:=h.put hS i d hi hlt h.b (fun _ _ h=>h) v hv
theorem InvQ.v {B:Nat} {S:List (Option Nat)} {V:Nat→Value→World→Prop} {w0:World} {a0:Act} {l:Array Bool} {a:Act} {W:World} (h:InvQ B S V w0 a0 l a W) {A:Array Edge} (hall:∀e∈A,Region.binds .any e=true→l.getD e.on false=true) (j d:Nat) (g:Ground:= .data) (hm:⟨j,g⟩∈A:=by simp) (hb:Region.binds .any ⟨j,g⟩=true:=by rfl) (hs:S[j]? =some (some d):=by rfl):V j (a.tmps.getD d undef) W:=h.2.2.2.2.2.1 j d (hall _ hm hb) hs
theorem InvQ.a {B:Nat} {S:List (Option Nat)} {V:Nat→Value→World→Prop} {w0:World} {a0:Act} {l:Array Bool} {a:Act} {W:World} (h:InvQ B S V w0 a0 l a W) {e:Nat} {v:Value} (he:a0.tmps[e]? =some v) (hn:some e∉S:=by decide):a.tmps.getD e undef=v:=by rw[Array.getD_eq_getD_getElem?,h.2.2.2.1 e hn,he];rfl
theorem InvQ.c {B:Nat} {S:List (Option Nat)} {V:Nat→Value→World→Prop} {w0:World} {a0:Act} {l:Array Bool} {a:Act} {W:World} (h:InvQ B S V w0 a0 l a W) {p:Addr} {v:Value} (k:w0.cell? p=some v) (hl:p.block<B):W.cell? p=some v:=(h.b.cell hl).trans k
theorem wp_region_q {Q:Exit→Act→World→Prop} {id:Nat} {a0:Act} {w0:World} (hm:P.follows .mixedOrders=true) (B:Nat) (S:List (Option Nat)) (V:Nat→Value→World→Prop) (hSz:ops.size=S.length)
 (hs:∀(Q:Exit→Act→World→Prop) l a W i o,InvQ B S V w0 a0 l a W→l.getD i true=false→ops[i]? =some o→(∀e∈o.after,Region.binds .any e=true→l.getD e.on false=true)→wpOp P ops Q i (InvQ B S V w0 a0 (l.setIfInBounds i true)) a W)
 (hd:∀l a W,InvQ B S V w0 a0 l a W→Region.ready .any ops l=[]→Q .normal a W):(Code.region id ops true).wp P Q a0 w0:=by
 refine wp_region_inv hm (InvQ B S V w0 a0) ⟨by simpa using hSz,rfl,rfl,fun _ _=>rfl,(Below.refl _ w0).drew,fun j d hj=>?_,fun j hj=>?_⟩ (hs Q) hd
 all_goals
  exfalso
  rw[Array.getD_eq_getD_getElem?,Array.getElem?_replicate] at hj
  split at hj<;>simp at hj
end Go.Proofs.YthelolpogdcmhaaGreat
namespace Go.Proofs.YthelolpogdcmhaaGreat
open Go.RowKit
theorem getD_tf {l:Array Bool} {i:Nat} (h:l.getD i true=false):l.getD i false=false:=by
 rw[Array.getD_eq_getD_getElem?] at *;cases hh:l[i]? with
 | none=>rw[hh] at h;cases h
 | some b=>rw[hh] at h;exact h
theorem getD_set_neq {l:Array Bool} {i j:Nat} (h:i≠j):(l.setIfInBounds i true).getD j false=l.getD j false:=by
 simp[Array.getD_eq_getD_getElem?,Array.getElem?_setIfInBounds_ne h]
theorem gn {l:Array Bool} (i j:Nat) (h:i≠j:=by decide):(l.setIfInBounds i true).getD j false=l.getD j false:=getD_set_neq h
theorem getD_set_eq {l:Array Bool} {i:Nat} (h:l.getD i true=false):(l.setIfInBounds i true).getD i false=true:=by
 rw[Array.getD_eq_getD_getElem?] at *;cases hh:l[i]? with
 | none=>rw[hh] at h;cases h
 | some b=>simp[(Array.getElem?_eq_some_iff.1 hh).1]
theorem ownA_step {w w' :World} {base n:Nat} {e:TypeId} {size:Nat} {v:Value} {xs:List Value} (h:w.ownsRow base e size v n xs) (hB:Below w.heap.size w w'):w'.ownsRow base e size v n xs:=by
 rcases h with ⟨h0,h1 | ⟨g,cap,cur,h1,h2,h3,h4⟩⟩
 · exact⟨h0,.inl h1⟩
 · refine⟨h0,.inr ⟨g,cap,cur,h1,h2,?_,h4⟩⟩;rw[hB.block g (Array.getElem?_eq_some_iff.1 h3).1];exact h3
theorem replD (n j:Nat):(Array.replicate n false).getD j false=false:=by
 rw[Array.getD_eq_getD_getElem?,Array.getElem?_replicate]
 split<;>rfl
end Go.Proofs.YthelolpogdcmhaaGreat
namespace Go.Proofs.YthelolpogdcmhaaGreat
variable {P:Program} {ops:Array Oper} {Q:Exit→Act→World→Prop}
theorem yielded_un {j d:Nat} {o:Oper} {t:Array Value} (ho:ops[j]? =some o) (hd:o.dst=some d) (ht:t.getD d undef=undef):yielded ops t j=none:=by
 unfold yielded;rw[ho];simp only[Option.bind_some,hd]
 rcases Nat.lt_or_ge d t.size with h | h
 · have h2:t[d]? =some undef:=by simpa [Array.getD,h] using ht
   rw[h2]
   rfl
 · have h2:t[d]? =none:=by simp[h]
   rw[h2]
theorem wpOp_offu {i k d:Nat} {b:Bool} {o ok:Oper} {a:Act} {w:World} {K:Act→World→Prop} (ho:ops[i]? =some o) (hg:o.guard=some (k,b)) (hk:ops[k]? =some ok) (hd:ok.dst=some d) (ht:a.tmps.getD d undef=undef) (h:K (a.put o.dst undef) w):wpOp P ops Q i K a w:=by
 unfold wpOp;simp only[ho];have hw:Region.wanted o (yielded ops a.tmps)=false:=by
  unfold Region.wanted;rw[hg];simp only[yielded_un hk hd ht];cases b<;>rfl
 rw[hw];exact h
end Go.Proofs.YthelolpogdcmhaaGreat
