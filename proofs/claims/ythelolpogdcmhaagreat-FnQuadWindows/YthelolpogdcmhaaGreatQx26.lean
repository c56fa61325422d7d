/- Part 26 of the walks that the proof leans on. -/
import Derived.Test.YthelolpogdcmhaaGreatQx25
import Derived.Test.YthelolpogdcmhaaGreatQx2
import Derived.Test.YthelolpogdcmhaaGreatQx24
import Derived.Test.YthelolpogdcmhaaGreatQx12
import Derived.Test.YthelolpogdcmhaaGreatRows
import Derived.ProofKit
import Derived.Lib.SmallJoins
set_option maxRecDepth 100000
set_option maxHeartbeats 16000000
namespace Go.Proofs.YthelolpogdcmhaaGreat
open Go.RowKit
theorem drawQuadWindow_any (ao:Option Addr) (n cap:Nat) (cs:List Int) (w:World) (h:Code w ao n cs):Calls Tryz.prog 5 #[.slice ao n cap] w (fun r w' =>∃(v:Value) (a b c d:Int),r= .returned (.tuple #[v,Sp a b,Sp c d])∧TqP 42 (fun _=>True) v w' ∧Below w.heap.size w w'):=by
 have B2:=((Blk.new w [.int .i64 0,.int .i64 0,.slice none 0 0,.slice none 0 0] 27 rfl).alloc (.cells #[.int .i64 0,.int .i64 0] 29)).alloc (.cells #[.int .i64 0,.int .i64 0] 29);have B3:=(Blk.new (w.alloc (.cells #[.int .i64 0,.int .i64 0,.slice none 0 0,.slice none 0 0] 27)) [.int .i64 0,.int .i64 0] 29 rfl).alloc (.cells #[.int .i64 0,.int .i64 0] 29);have B4:=Blk.new ((w.alloc (.cells #[.int .i64 0,.int .i64 0,.slice none 0 0,.slice none 0 0] 27)).alloc (.cells #[.int .i64 0,.int .i64 0] 29)) [.int .i64 0,.int .i64 0] 29 rfl;simp only[World.size_alloc] at B3 B4;have HB:Below w.heap.size w (((w.alloc (.cells #[.int .i64 0,.int .i64 0,.slice none 0 0,.slice none 0 0] 27)).alloc (.cells #[.int .i64 0,.int .i64 0] 29)).alloc (.cells #[.int .i64 0,.int .i64 0] 29)):=(((Below.refl _ _).alloc (Nat.le_refl _) _).alloc (by simp) _).alloc (by simp;omega) _;replace h:=h.below HB
 go_enter Tryz.func5,Tryz.ntmps5
 go_upto_region 1 with fail;change Blk (((w.alloc (.cells #[.int .i64 0,.int .i64 0,.slice none 0 0,.slice none 0 0] 27)).alloc (.cells #[.int .i64 0,.int .i64 0] 29)).alloc (.cells #[.int .i64 0,.int .i64 0] 29)) w.heap.size [.int .i64 0,.int .i64 0,.slice none 0 0,.slice none 0 0] at B2;change Blk (((w.alloc (.cells #[.int .i64 0,.int .i64 0,.slice none 0 0,.slice none 0 0] 27)).alloc (.cells #[.int .i64 0,.int .i64 0] 29)).alloc (.cells #[.int .i64 0,.int .i64 0] 29)) (w.heap.size+1) [.int .i64 0,.int .i64 0] at B3;change Blk (((w.alloc (.cells #[.int .i64 0,.int .i64 0,.slice none 0 0,.slice none 0 0] 27)).alloc (.cells #[.int .i64 0,.int .i64 0] 29)).alloc (.cells #[.int .i64 0,.int .i64 0] 29)) (w.heap.size+1+1) [.int .i64 0,.int .i64 0] at B4;generalize (((w.alloc (.cells #[.int .i64 0,.int .i64 0,.slice none 0 0,.slice none 0 0] 27)).alloc (.cells #[.int .i64 0,.int .i64 0] 29)).alloc (.cells #[.int .i64 0,.int .i64 0] 29))=W1 at *;have bl4:=B4.lt;go_wp2_with fail;refine(open_any ao n cap cs _ h).mono ?_;rintro e w1 ⟨g,rfl,hG,R,hB⟩;have h0:w.heap.size≠g:=by omega
 have h1:w.heap.size+1≠g:=by omega
 have h2:w.heap.size+1+1≠g:=by omega
 have hgl:w.heap.size+1+1<g:=by omega
 replace B2:=B2.step hB;replace B3:=B3.step hB;replace B4:=B4.step hB;replace HB:Below w.heap.size w w1:=HB.trans (hB.mono HB.size);have hsW:=hB.size;clear hB h;go_wp2_with fail;refine(quad_any g ao n cap cs _ R).mono ?_;rintro e w2 ⟨v0,rfl,T,R1,K1⟩;have hgw:=R.lt;have hs12:=K1.size;replace B2:=B2.kept K1 h0;replace B3:=B3.kept K1 h1;replace B4:=B4.kept K1 h2;replace HB:=HB.trans (K1.below (by omega) HB.size);clear R K1;obtain⟨m1,d1,io1,n1,ic1,bo1,N1,bc1,rfl,_⟩:=T.form;have X6:Blk (w2.alloc (.cells #[.int .i64 m1,.int .i64 d1,.slice io1 n1 ic1,.slice bo1 N1 bc1] 27)) w2.heap.size [.int .i64 m1,.int .i64 d1,.slice io1 n1 ic1,.slice bo1 N1 bc1]:=Blk.new w2 [.int .i64 m1,.int .i64 d1,.slice io1 n1 ic1,.slice bo1 N1 bc1] 27 rfl;have hBa:Below w2.heap.size w2 (w2.alloc (.cells #[.int .i64 m1,.int .i64 d1,.slice io1 n1 ic1,.slice bo1 N1 bc1] 27)):=(Below.refl w2.heap.size w2).alloc (Nat.le_refl _) _;have R:=R1.alloc (.cells #[.int .i64 m1,.int .i64 d1,.slice io1 n1 ic1,.slice bo1 N1 bc1] 27);replace B2:=B2.step hBa;replace B3:=B3.step hBa;replace B4:=B4.step hBa;replace HB:=HB.trans (hBa.mono HB.size);have T2:TqP 42 (fun b=>w.heap.size+1+1<b∧b<w2.heap.size∧b≠g) (.agg #[.int .i64 m1,.int .i64 d1,.slice io1 n1 ic1,.slice bo1 N1 bc1]) (w2.alloc (.cells #[.int .i64 m1,.int .i64 d1,.slice io1 n1 ic1,.slice bo1 N1 bc1] 27)):=(T.to (fun b hb hl=>⟨by omega,hl,by omega⟩)).keep hBa.size (fun b _ hl=>hBa.block b hl);have hs23:w2.heap.size<(w2.alloc (.cells #[.int .i64 m1,.int .i64 d1,.slice io1 n1 ic1,.slice bo1 N1 bc1] 27)).heap.size:=X6.lt;clear R1 T hBa;go_upto_region 3 with fail;change Blk (w2.alloc (.cells #[.int .i64 m1,.int .i64 d1,.slice io1 n1 ic1,.slice bo1 N1 bc1] 27)) w2.heap.size [.int .i64 m1,.int .i64 d1,.slice io1 n1 ic1,.slice bo1 N1 bc1] at X6;generalize (w2.alloc (.cells #[.int .i64 m1,.int .i64 d1,.slice io1 n1 ic1,.slice bo1 N1 bc1] 27))=W3 at *;go_wp2_with fail;refine(box_any g ao n cap cs _ R).mono ?_;rintro e w3 ⟨p,q,u,v,rfl,_,_,_,_,R2,K2⟩;have hs33:=K2.size;have hgW:=R.lt;replace B2:=B2.kept K2 h0;replace B3:=B3.kept K2 h1;replace B4:=B4.kept K2 h2;replace X6:=X6.kept K2 (by omega);replace T2:=T2.kept K2 (fun e=>e.2.2 rfl);replace HB:=HB.trans (K2.below (by omega) HB.size);clear R K2;have X7:=(Blk.new w3 [.int .i64 p,.int .i64 q] 29 rfl).alloc (.cells #[.int .i64 u,.int .i64 v] 29);have X8:=Blk.new (w3.alloc (.cells #[.int .i64 p,.int .i64 q] 29)) [.int .i64 u,.int .i64 v] 29 rfl;simp only[World.size_alloc] at X8;have hBb:Below w3.heap.size w3 ((w3.alloc (.cells #[.int .i64 p,.int .i64 q] 29)).alloc (.cells #[.int .i64 u,.int .i64 v] 29)):=((Below.refl _ w3).alloc (Nat.le_refl _) _).alloc (by simp) _;have R3:=(R2.alloc (.cells #[.int .i64 p,.int .i64 q] 29)).alloc (.cells #[.int .i64 u,.int .i64 v] 29);replace B2:=B2.step hBb;replace B3:=B3.step hBb;replace B4:=B4.step hBb;replace X6:=X6.step hBb;replace T2:=T2.keep hBb.size (fun b _ hl=>hBb.block b hl);replace HB:=HB.trans (hBb.mono HB.size);clear R2 hBb;go_upto_region 4 with fail;change Blk ((w3.alloc (.cells #[.int .i64 p,.int .i64 q] 29)).alloc (.cells #[.int .i64 u,.int .i64 v] 29)) w3.heap.size [.int .i64 p,.int .i64 q] at X7;change Blk ((w3.alloc (.cells #[.int .i64 p,.int .i64 q] 29)).alloc (.cells #[.int .i64 u,.int .i64 v] 29)) (w3.heap.size+1) [.int .i64 u,.int .i64 v] at X8;generalize ((w3.alloc (.cells #[.int .i64 p,.int .i64 q] 29)).alloc (.cells #[.int .i64 u,.int .i64 v] 29))=W4 at *;go_wp2_with fail;refine(once_any 2 (by decide) (by decide) g ao n cap cs _ R3).mono ?_;rintro e w4 ⟨_,rfl,⟨bb,rfl⟩,R4,K4⟩;have hs44:=K4.size;have hx8:=X8.lt;replace B2:=B2.kept K4 h0;replace B3:=B3.kept K4 h1;replace B4:=B4.kept K4 h2;replace X6:=X6.kept K4 (by omega);have X7:∃a b:Int,Blk w4 w3.heap.size [.int .i64 a,.int .i64 b]:=⟨_,_,X7.kept K4 (by omega)⟩;have X8:∃a b:Int,Blk w4 (w3.heap.size+1) [.int .i64 a,.int .i64 b]:=⟨_,_,X8.kept K4 (by omega)⟩;replace T2:=T2.kept K4 (fun e=>e.2.2 rfl);replace HB:=HB.trans (K4.below (by omega) HB.size);clear R3 K4;cases bb with
 | false=>
  obtain⟨W9,rfl⟩:∃W9,W9=w4:=⟨w4,rfl⟩;clear R4;go_upto_region 7 with fail;have hdr:=(Below.refl W9.heap.size W9).drew;refine qxG (P2:=w.heap.size) (P3:=w.heap.size+1) (P4:=w.heap.size+1+1) (P6:=w2.heap.size) (P7:=w3.heap.size) (P8:=w3.heap.size+1) (m1:=m1) (d1:=d1) (io1:=io1) (bo1:=bo1) (n1:=n1) (ic1:=ic1) (N1:=N1) (bc1:=bc1) rfl rfl rfl rfl rfl rfl rfl ⟨X6.drew,(T2.to (ok' :=(fun b=>w.heap.size+1+1<b∧b≠w2.heap.size∧b≠w3.heap.size∧b≠w3.heap.size+1)) (fun b hb _=>⟨hb.1,by omega,by omega,by omega⟩)).keep hdr.size (fun b _ hl=>hdr.block b hl),⟨0,0,none,none,0,0,0,0,B2.drew,TqP.zero 0 0⟩,⟨0,0,B3.drew⟩,⟨0,0,B4.drew⟩,(by obtain⟨a,b,h⟩:=X7;exact⟨a,b,h.drew⟩),(by obtain⟨a,b,h⟩:=X8;exact⟨a,b,h.drew⟩),⟨by omega,by omega,by omega,by omega,by omega⟩⟩ ?_;rintro⟨tm,df⟩ Wf hz hdf hoff hBf D;simp only at hz hdf hoff;subst hdf;have htm:=tmps_fold [44,45,46] tm _ hz hoff;simp only[List.foldl,List.setIfInBounds_toArray,List.set_cons_zero,List.set_cons_succ] at htm;clear hz hoff;generalize tm.getD 44 undef=pt0,tm.getD 45 undef=pt1,tm.getD 46 undef=pt2 at htm;subst htm;have HBF:=HB.trans hBf;obtain⟨m,d,io,bo,n',ic,N,bc,F0,TF⟩:=D.res;obtain⟨a3,b3,F3⟩:=D.r3;obtain⟨a4,b4,F4⟩:=D.r4;have o0:=F0.c 0 rfl;have o1:=F0.c 1 rfl;have o2:=F0.c 2 rfl;have o3:=F0.c 3 rfl;have s0:=F3.c 0 rfl;have s1:=F3.c 1 rfl;have s2:=F4.c 0 rfl;have s3:=F4.c 1 rfl;have TT:Hid (TqP 42 (fun _=>True) (.agg #[.int .i64 m,.int .i64 d,.slice io n' ic,.slice bo N bc]) Wf):=TF.to (fun _ _ _=>trivial);clear B2 B3 B4 X6 X7 X8 F0 F3 F4 hBf TF T2 D hdr HB;go_wp2;refine bodyPost_ret (v:= .tuple #[.agg #[.int .i64 m,.int .i64 d,.slice io n' ic,.slice bo N bc],.agg #[.int .i64 a3,.int .i64 b3],.agg #[.int .i64 a4,.int .i64 b4]]) (by simp[results,Tryz.results5,go_sem,o0,o1,o2,o3,s0,s1,s2,s3]) rfl ?_;exact⟨_,a3,b3,a4,b4,rfl,TT.out,HBF⟩
 | true=>
  have B9:=Blk.new w4 [.int .i64 1000,.int .i64 50000,.int .i64 160000] 2 rfl;have hBc:Below w4.heap.size w4 (w4.alloc (.cells #[.int .i64 1000,.int .i64 50000,.int .i64 160000] 2)):=(Below.refl _ w4).alloc (Nat.le_refl _) _;have R5:=R4.alloc (.cells #[.int .i64 1000,.int .i64 50000,.int .i64 160000] 2);replace B2:=B2.step hBc;replace B3:=B3.step hBc;replace B4:=B4.step hBc;replace X6:=X6.step hBc;replace X7:∃a b:Int,Blk (w4.alloc (.cells #[.int .i64 1000,.int .i64 50000,.int .i64 160000] 2)) w3.heap.size [.int .i64 a,.int .i64 b]:=by obtain⟨a,b,h⟩:=X7;exact⟨a,b,Blk.step h hBc⟩
  replace X8:∃a b:Int,Blk (w4.alloc (.cells #[.int .i64 1000,.int .i64 50000,.int .i64 160000] 2)) (w3.heap.size+1) [.int .i64 a,.int .i64 b]:=by obtain⟨a,b,h⟩:=X8;exact⟨a,b,Blk.step h hBc⟩
  replace T2:=T2.keep hBc.size (fun b _ hl=>hBc.block b hl);replace HB:=HB.trans (hBc.mono HB.size);have hs4c:=hBc.size;clear R4 hBc;go_wp2_with fail;refine(below_any 3 (by decide) (by decide) g ao n cap cs _ R5).mono ?_;rintro e w5 ⟨_,rfl,⟨x,rfl,hx0,hx3⟩,R6,K6⟩;have hs45:=K6.size;obtain⟨xn,rfl⟩:=Int.eq_ofNat_of_zero_le hx0;have hb9:w4.heap.size<(w4.alloc (.cells #[.int .i64 1000,.int .i64 50000,.int .i64 160000] 2)).heap.size:=B9.lt;replace B9:=B9.kept K6 (by omega);replace B2:=B2.kept K6 h0;replace B3:=B3.kept K6 h1;replace B4:=B4.kept K6 h2;replace X6:=X6.kept K6 (by omega);replace X7:∃a b:Int,Blk w5 w3.heap.size [.int .i64 a,.int .i64 b]:=by obtain⟨a,b,h⟩:=X7;exact⟨a,b,h.kept K6 (by omega)⟩
  replace X8:∃a b:Int,Blk w5 (w3.heap.size+1) [.int .i64 a,.int .i64 b]:=by obtain⟨a,b,h⟩:=X8;exact⟨a,b,h.kept K6 (by omega)⟩
  replace T2:=T2.kept K6 (fun e=>e.2.2 rfl);replace HB:=HB.trans (K6.below (by omega) HB.size);obtain⟨kk,kc⟩:∃kk:Int,w5.cell? ⟨w4.heap.size,xn,none⟩=some (.int .i64 kk):=by
   rcases(show xn=0∨xn=1∨xn=2 by omega) with e | e | e<;>subst e
   · exact⟨_,B9.c 0 rfl⟩
   · exact⟨_,B9.c 1 rfl⟩
   · exact⟨_,B9.c 2 rfl⟩
  have hxI:(xn:Int)<3:=hx3;clear R5 K6 R6 B9;go_upto_region 6 with fail;obtain⟨a7,b7,X7⟩:=X7;obtain⟨a8,b8,X8⟩:=X8;refine qxF (P7:=w3.heap.size) (P8:=w3.heap.size+1) (kk:=kk) rfl rfl rfl rfl ⟨⟨a7,b7,X7.drew⟩,⟨a8,b8,X8.drew⟩,by omega⟩ ?_;rintro⟨tm,df⟩ W9 hz hdf hoff hB9 D9;simp only at hz hdf hoff;subst hdf;have htm:=tmps_fold [26,27,28,29,30,31,32,33,34,35,36,37,38,39,40,41,42,43] tm _ hz hoff;simp only[List.foldl,List.setIfInBounds_toArray,List.set_cons_zero,List.set_cons_succ] at htm;clear hz hoff;generalize tm.getD 26 undef=ps0,tm.getD 27 undef=ps1,tm.getD 28 undef=ps2,tm.getD 29 undef=ps3,tm.getD 30 undef=ps4,tm.getD 31 undef=ps5,tm.getD 32 undef=ps6,tm.getD 33 undef=ps7,tm.getD 34 undef=ps8,tm.getD 35 undef=ps9,tm.getD 36 undef=ps10,tm.getD 37 undef=ps11,tm.getD 38 undef=ps12,tm.getD 39 undef=ps13,tm.getD 40 undef=ps14,tm.getD 41 undef=ps15,tm.getD 42 undef=ps16,tm.getD 43 undef=ps17 at htm;subst htm;have hs99:=hB9.size;replace B2:=B2.below hB9 (by omega);replace B3:=B3.below hB9 (by omega);replace B4:=B4.below hB9 (by omega);replace X6:=X6.below hB9 (by omega);replace T2:=T2.keep hB9.size (fun b hb _=>hB9.block b (by omega));replace HB:=HB.trans (hB9.mono (by omega));clear X7 X8;have X7:=D9.lo;have X8:=D9.hi;clear D9 hB9 kc;go_upto_region 7 with fail;have hdr:=(Below.refl W9.heap.size W9).drew;refine qxG (P2:=w.heap.size) (P3:=w.heap.size+1) (P4:=w.heap.size+1+1) (P6:=w2.heap.size) (P7:=w3.heap.size) (P8:=w3.heap.size+1) (m1:=m1) (d1:=d1) (io1:=io1) (bo1:=bo1) (n1:=n1) (ic1:=ic1) (N1:=N1) (bc1:=bc1) rfl rfl rfl rfl rfl rfl rfl ⟨X6.drew,(T2.to (ok' :=(fun b=>w.heap.size+1+1<b∧b≠w2.heap.size∧b≠w3.heap.size∧b≠w3.heap.size+1)) (fun b hb _=>⟨hb.1,by omega,by omega,by omega⟩)).keep hdr.size (fun b _ hl=>hdr.block b hl),⟨0,0,none,none,0,0,0,0,B2.drew,TqP.zero 0 0⟩,⟨0,0,B3.drew⟩,⟨0,0,B4.drew⟩,(by obtain⟨a,b,h⟩:=X7;exact⟨a,b,h.drew⟩),(by obtain⟨a,b,h⟩:=X8;exact⟨a,b,h.drew⟩),⟨by omega,by omega,by omega,by omega,by omega⟩⟩ ?_;rintro⟨tm,df⟩ Wf hz hdf hoff hBf D;simp only at hz hdf hoff;subst hdf;have htm:=tmps_fold [44,45,46] tm _ hz hoff;simp only[List.foldl,List.setIfInBounds_toArray,List.set_cons_zero,List.set_cons_succ] at htm;clear hz hoff;generalize tm.getD 44 undef=pt0,tm.getD 45 undef=pt1,tm.getD 46 undef=pt2 at htm;subst htm;have HBF:=HB.trans hBf;obtain⟨m,d,io,bo,n',ic,N,bc,F0,TF⟩:=D.res;obtain⟨a3,b3,F3⟩:=D.r3;obtain⟨a4,b4,F4⟩:=D.r4;have o0:=F0.c 0 rfl;have o1:=F0.c 1 rfl;have o2:=F0.c 2 rfl;have o3:=F0.c 3 rfl;have s0:=F3.c 0 rfl;have s1:=F3.c 1 rfl;have s2:=F4.c 0 rfl;have s3:=F4.c 1 rfl;have TT:Hid (TqP 42 (fun _=>True) (.agg #[.int .i64 m,.int .i64 d,.slice io n' ic,.slice bo N bc]) Wf):=TF.to (fun _ _ _=>trivial);clear B2 B3 B4 X6 X7 X8 F0 F3 F4 hBf TF T2 D hdr HB;go_wp2;refine bodyPost_ret (v:= .tuple #[.agg #[.int .i64 m,.int .i64 d,.slice io n' ic,.slice bo N bc],.agg #[.int .i64 a3,.int .i64 b3],.agg #[.int .i64 a4,.int .i64 b4]]) (by simp[results,Tryz.results5,go_sem,o0,o1,o2,o3,s0,s1,s2,s3]) rfl ?_;exact⟨_,a3,b3,a4,b4,rfl,TT.out,HBF⟩
theorem sameInts_any (ao bo:Option Addr) (n ca cb:Nat) (x:Nat→Int) (hn:n≤1048576) (w:World) (hA:NoIn w ao n x) (hC:NoIn w bo n x):Calls Tryz.prog 8 #[.slice ao n ca,.slice bo n cb] w (BoolP true w):=by
 have HA:Hid (NoIn w ao n x):=hA;have HC:Hid (NoIn w bo n x):=hC;have hnI:(n:Int)≤1048576:=by omega
 have hnn:((n:Int) != (n:Int))=false:=by simp
 clear hA hC
 go_enter Tryz.func8,Tryz.ntmps8
 go_wp2_with fail
 go_loopw [5] (fun i wr=>∃c:Nat,c≤n∧i= .int .i64 c∧Below w.heap.size w wr) (fun i _=>n-(intOf i).toNat)
 case atStart=>exact⟨0,by omega,rfl,Below.refl _ _⟩
 case round=>
  obtain⟨c,hc,rfl,HB⟩:=hrel
  by_cases hcn:c<n
  · obtain⟨A,off,rfl,hA,q0⟩:=HA.out.step HB c hcn;obtain⟨B,of2,rfl,hB',r0⟩:=HC.out.step HB c hcn;have hcI:(c:Int)<n:=by omega
    have KS:(fun w' =>w'.cell? ⟨A,off+c,none⟩=some (.int .i64 (x c))∧w'.cell? ⟨B,of2+c,none⟩=some (.int .i64 (x c))) wr:=⟨q0,r0⟩;have hxx:(x c != x c)=false:=by simp
    go_wp2_with fail
    go_region_held3 (fun w' =>w'.cell? ⟨A,off+c,none⟩=some (.int .i64 (x c))∧w'.cell? ⟨B,of2+c,none⟩=some (.int .i64 (x c))) (exact KS)
     (first | fail)
    all_goals clear KS q0 r0
    all_goals go_wp2
    all_goals go_roundw
    all_goals first | exact⟨c+1,by omega,by go_num,HB⟩ | exact⟨c+1,by omega,by go_num,HB.drew⟩ | (simp[intOf];omega)
  · obtain rfl:c=n:=by omega
    clear HA HC;go_wp2;go_ret;exact⟨rfl,HB⟩
theorem below_qx {w W:World} {B:Nat} (h:Below B w W):∀n,Below B w (W.drewN n)
 | 0=>h
 | n+1=>(below_qx h n).drew
theorem win_pre (Q:QD) (p q u v:Int) (c:Nat):∀k,∃r,idL Q ((List.range (c+k)).filter (hitW Q p q u v))=idL Q ((List.range c).filter (hitW Q p q u v)) ++r
 | 0=>⟨[],by rw[List.append_nil];rfl⟩
 | k+1=>by
  obtain⟨r,hr⟩:=win_pre Q p q u v c k;refine⟨r ++(if hitW Q p q u v (c+k)=true then[Q.I (c+k)] else[]),?_⟩;rw[show c+(k+1)=c+k+1 from rfl,win_more,hr,List.append_assoc]
theorem qwL_le {Q:QD} {m d wa wb wc wd:Int}:(qwL Q m d wa wb wc wd).length≤1048576:=by
 unfold qwL
 split
 · rename_i h
   unfold qwB at h;rw[Bool.and_eq_true] at h;have hm:Q.m≤40:=(of_decide_eq_true (qOk_all h.1).2.2.1).1;unfold winQ idL;rw[List.length_map];have:=List.length_filter_le (hitW Q wa wb wc wd) (List.range Q.m);rw[List.length_range] at this
   omega
 · simp
theorem win_cnt (Q:QD) (p q u v:Int):∃cnt:Nat→Nat,cnt 0=0∧cnt Q.m=(winQ Q p q u v).length∧(∀c,c<Q.m→hitW Q p q u v c=true→cnt (c+1)=cnt c+1∧cnt c<(winQ Q p q u v).length∧(winQ Q p q u v).getD (cnt c) 0=Q.I c)∧(∀c,hitW Q p q u v c=false→cnt (c+1)=cnt c)∧∀c,cnt c≤c:=by
 refine⟨fun c=>(idL Q ((List.range c).filter (hitW Q p q u v))).length,rfl,rfl,fun c hc hh=>?_,fun c hh=>?_,fun c=>?_⟩
 · have e1:=win_more Q p q u v c;rw[if_pos hh] at e1;obtain⟨r,hr⟩:=win_pre Q p q u v (c+1) (Q.m-(c+1));rw[show c+1+(Q.m-(c+1))=Q.m by omega,e1] at hr;refine⟨by show(idL Q ((List.range (c+1)).filter (hitW Q p q u v))).length=_;rw[e1];simp,?_,?_⟩
   · show _<(winQ Q p q u v).length;unfold winQ;rw[hr]
     simp
   · unfold winQ;rw[hr,List.getD_eq_getElem?_getD]
     simp
 · show(idL Q ((List.range (c+1)).filter (hitW Q p q u v))).length=_;rw[win_more,hh]
   simp
 · show(idL Q ((List.range c).filter (hitW Q p q u v))).length≤c;unfold idL;rw[List.length_map];exact Nat.le_trans (List.length_filter_le _ _) (by rw[List.length_range];exact Nat.le_refl _)
def VqxM (P A off n cap kk:Nat) (sa sb sc sd wa wb wc wd:Int) (bh:Bool) (_B:Nat):Nat→Value→World→Prop
 | 0,v,_=>v= .pointer (some ⟨P,2,none⟩)
 | 1,v,_=>v= .slice (some ⟨A,off,none⟩) n cap
 | 2,v,_=>v= .int .i64 (kk:Int)
 | 3,v,_=>v= .pointer (some ⟨A,off+kk*5,none⟩)
 | 4,v,_=>v= .pointer (some ⟨A,off+kk*5+1,none⟩)
 | 5,v,_=>v=Sg sa sb sc sd
 | 6,v,_=>v=Sp wa wb
 | 7,v,_=>v=Sp wc wd
 | 8,v,_=>v= .bool bh
 | _,_,_=>True
theorem VqxM.mono {P A off n cap kk:Nat} {sa sb sc sd wa wb wc wd:Int} {bh:Bool} {B j:Nat} {v:Value} {W W2:World} (_hB:Below W.heap.size W W2) (h:VqxM P A off n cap kk sa sb sc sd wa wb wc wd bh B j v W):VqxM P A off n cap kk sa sb sc sd wa wb wc wd bh B j v W2:=by
 unfold VqxM at *
 split<;>simp only at h<;>first | exact h | trivial
theorem qxM {Q:Exit→Act→World→Prop} {P A off n cap kk:Nat} {sa sb sc sd wa wb wc wd:Int} {bh:Bool} {Lb Hb:Nat} {w0:World} {a0:Act} {idq:Nat} {t0 t1 t2 t3 t4 t5 t6 t7 t8:TypeId} {q0 q1 q2 q3 q4 q5 q6 q7 q8:String}
 (hkn:kk<n) (hn:n≤42) (CM:∀W2:World,Calls Tryz.prog 9 #[Sg sa sb sc sd,Sp wa wb,Sp wc wd] W2 (BoolP bh W2)) (h3:a0.tmps[3]? =some (.pointer (some ⟨P,0,none⟩))) (h4:a0.tmps[4]? =some (.pointer (some ⟨Lb,0,none⟩))) (h5:a0.tmps[5]? =some (.pointer (some ⟨Hb,0,none⟩))) (h11:a0.tmps[11]? =some (.int .i64 (kk:Int))) (k0:w0.cell? ⟨P,2,none⟩=some (.slice (some ⟨A,off,none⟩) n cap)) (l0:(⟨P,2,none⟩:Addr).block<w0.heap.size) (k1:w0.cell? ⟨A,off+kk*5+1,none⟩=some (.int .i64 sa)) (l1:(⟨A,off+kk*5+1,none⟩:Addr).block<w0.heap.size) (k2:w0.cell? ⟨A,off+kk*5+1+1,none⟩=some (.int .i64 sb)) (l2:(⟨A,off+kk*5+1+1,none⟩:Addr).block<w0.heap.size) (k3:w0.cell? ⟨A,off+kk*5+1+2,none⟩=some (.int .i64 sc)) (l3:(⟨A,off+kk*5+1+2,none⟩:Addr).block<w0.heap.size) (k4:w0.cell? ⟨A,off+kk*5+1+3,none⟩=some (.int .i64 sd)) (l4:(⟨A,off+kk*5+1+3,none⟩:Addr).block<w0.heap.size) (k5:w0.cell? ⟨Lb,0,none⟩=some (.int .i64 wa)) (l5:(⟨Lb,0,none⟩:Addr).block<w0.heap.size) (k6:w0.cell? ⟨Lb,1,none⟩=some (.int .i64 wb)) (l6:(⟨Lb,1,none⟩:Addr).block<w0.heap.size) (k7:w0.cell? ⟨Hb,0,none⟩=some (.int .i64 wc)) (l7:(⟨Hb,0,none⟩:Addr).block<w0.heap.size) (k8:w0.cell? ⟨Hb,1,none⟩=some (.int .i64 wd)) (l8:(⟨Hb,1,none⟩:Addr).block<w0.heap.size) (hz:a0.tmps.size=129)
 (hQ:∀aq W,aq.tmps.size=a0.tmps.size→aq.defers=a0.defers→(∀e,e∉([66,67,68,69,70,71,72,73,74]:List Nat)→aq.tmps[e]? =a0.tmps[e]?)→VqxM P A off n cap kk sa sb sc sd wa wb wc wd bh w0.heap.size 8 (aq.tmps.getD 74 undef) W→Below w0.heap.size w0 W→Q .normal aq W) :
 (Code.region idq #[⟨some 66,.fieldAddr 27 (.tmp 3) 2,t0,q0,#[],none⟩,
 ⟨some 67,.load 24 (.tmp 66),t1,q1,#[⟨0,.data⟩],none⟩,
 ⟨some 68,.move (.tmp 11),t2,q2,#[],none⟩,
 ⟨some 69,.indexAddr 24 (.tmp 67) (.tmp 68),t3,q3,#[⟨1,.data⟩,⟨2,.data⟩],none⟩,
 ⟨some 70,.fieldAddr 40 (.tmp 69) 1,t4,q4,#[⟨3,.data⟩],none⟩,
 ⟨some 71,.load 38 (.tmp 70),t5,q5,#[⟨4,.data⟩],none⟩,
 ⟨some 72,.load 29 (.tmp 4),t6,q6,#[],none⟩,
 ⟨some 73,.load 29 (.tmp 5),t7,q7,#[],none⟩,
 ⟨some 74,.call {callee:= .value (.func 9),args:=#[.tmp 71,.tmp 72,.tmp 73],argTypes:=#[38,29,29]},t8,q8,#[⟨5,.data⟩,⟨6,.data⟩,⟨7,.data⟩],none⟩] true).wp Tryz.prog Q a0 w0:=by
 have hS:distS [some 66,some 67,some 68,some 69,some 70,some 71,some 72,some 73,some 74]=true:=rfl;refine wp_region_q (by kernel_rfl) w0.heap.size [some 66,some 67,some 68,some 69,some 70,some 71,some 72,some 73,some 74] (VqxM P A off n cap kk sa sb sc sd wa wb wc wd bh w0.heap.size) rfl ?_ ?_
 · intro Q lq aq W iq oq hJ2 hl ho hall;have z5:=hJ2.b;have g3:=hJ2.a h3
   have g4:=hJ2.a h4
   have g5:=hJ2.a h5
   have g11:=hJ2.a h11
   have c0:=hJ2.c k0 l0;have c1:=hJ2.c k1 l1;have c2:=hJ2.c k2 l2;have c3:=hJ2.c k3 l3;have c4:=hJ2.c k4 l4;have c5:=hJ2.c k5 l5;have c6:=hJ2.c k6 l6;have c7:=hJ2.c k7 l7;have c8:=hJ2.c k8 l8
   clear hQ
   match iq,ho with
   | 0,ho=>
    cases ho;refine wpOp_of rfl rfl ?_;have hK:=hJ2.gO hS 0 66;generalize InvQ _ _ _ _ _ _=K at hK⊢;clear ho hall hl hJ2 hS;go_simp;exact hK _ rfl
   | 1,ho=>
    cases ho;refine wpOp_of rfl rfl ?_;have f0:_=Value.pointer (some ⟨P,2,none⟩):=hJ2.v hall 0 66;have hK:=hJ2.gO hS 1 67;generalize InvQ _ _ _ _ _ _=K at hK⊢;clear ho hall hl hJ2 hS;go_simp;exact hK _ rfl
   | 2,ho=>
    cases ho;refine wpOp_of rfl rfl ?_;have hK:=hJ2.gO hS 2 68;generalize InvQ _ _ _ _ _ _=K at hK⊢;clear ho hall hl hJ2 hS;go_simp;exact hK _ rfl
   | 3,ho=>
    cases ho;refine wpOp_of rfl rfl ?_;have f1:_=Value.slice (some ⟨A,off,none⟩) n cap:=hJ2.v hall 1 67;have f2:_=Value.int .i64 (kk:Int):=hJ2.v hall 2 68;have hkI0:(kk:Int)<n:=by omega
    have hnI0:(n:Int)≤42:=by omega
    have hK:=hJ2.gO hS 3 69;generalize InvQ _ _ _ _ _ _=K at hK⊢;clear ho hall hl hJ2 hS;go_simp;exact hK _ rfl
   | 4,ho=>
    cases ho;refine wpOp_of rfl rfl ?_;have f3:_=Value.pointer (some ⟨A,off+kk*5,none⟩):=hJ2.v hall 3 69;have hK:=hJ2.gO hS 4 70;generalize InvQ _ _ _ _ _ _=K at hK⊢;clear ho hall hl hJ2 hS;go_simp;exact hK _ rfl
   | 5,ho=>
    cases ho;refine wpOp_of rfl rfl ?_;have f4:_=Value.pointer (some ⟨A,off+kk*5+1,none⟩):=hJ2.v hall 4 70;have hK:=hJ2.gO hS 5 71;generalize InvQ _ _ _ _ _ _=K at hK⊢;clear ho hall hl hJ2 hS;go_simp;exact hK _ rfl
   | 6,ho=>
    cases ho;refine wpOp_of rfl rfl ?_;have hK:=hJ2.gO hS 6 72;generalize InvQ _ _ _ _ _ _=K at hK⊢;clear ho hall hl hJ2 hS;go_simp;exact hK _ rfl
   | 7,ho=>
    cases ho;refine wpOp_of rfl rfl ?_;have hK:=hJ2.gO hS 7 73;generalize InvQ _ _ _ _ _ _=K at hK⊢;clear ho hall hl hJ2 hS;go_simp;exact hK _ rfl
   | 8,ho=>
    cases ho;refine wpOp_of rfl rfl ?_;have f5:_=Sg sa sb sc sd:=hJ2.v hall 5 71;have f6:_=Sp wa wb:=hJ2.v hall 6 72;have f7:_=Sp wc wd:=hJ2.v hall 7 73;have hK:=hJ2.go hS 8 74;generalize InvQ _ _ _ _ _ _=K at hK⊢;clear ho hall hl hJ2 hS;go_simp;refine(CM W).mono ?_;rintro e v1 ⟨rfl,hBv⟩;exact hK _ _ (z5.trans (hBv.mono z5.size)) (fun j v h=>h.mono hBv) rfl
   | iq+9,ho=>simp at ho
 · intro lq aq W hJ hr;obtain⟨z1,z2,z3,z4,z5,z6,z7⟩:=hJ;have hl:=listed_of hr [0,1,2,3,4,5,6,7,8] [] (by simp) (by kernel_rfl) (by rw[z1];decide);exact hQ aq W z2 z3 (fun e he=>z4 e (by simpa using he)) (z6 8 74 (hl 8 (by simp)) rfl) z5
theorem lawQuadWindows_any (ao:Option Addr) (n cap:Nat) (cs:List Int) (w:World) (h:n≤1048576→Code w ao n cs):Calls Tryz.prog 3 #[.slice ao n cap] w (BoolP true w):=by
 by_cases hn:1048576<n
 · go_enter Tryz.func3,Tryz.ntmps3
   go_wp2_with fail;refine(bigK_any ao n cap _ true (by simpa using hn)).mono ?_;rintro e w1 ⟨rfl,hB⟩;clear h;go_wp2;go_ret;exact⟨rfl,hB⟩
 · have hc:=h (by omega);clear h
   go_enter Tryz.func3,Tryz.ntmps3
   go_wp2_with fail;refine(bigK_any ao n cap _ false (by simpa using hn)).mono ?_;rintro e w1 ⟨rfl,HB⟩;replace hc:=hc.below HB;go_wp2_with fail;refine(drawQuadWindow_any ao n cap cs _ hc).mono ?_;rintro e w2 ⟨v,wa,wb,wc,wd,rfl,T,hB⟩;replace HB:=HB.trans (hB.mono HB.size);clear hB hc;obtain⟨Q,m,d,io,bo,ic,bc,A,off,so,rfl,hm,hN,hL,hbo,hso,hcap,hao,hS,hBl⟩:=T.use;have U:UsQ Q io bo bc A off so w2:=⟨hm,hN,hL,hbo,hso,hcap,hao,hS,hBl⟩;clear T hm hN hL hbo hso hcap hao hS hBl;have B3:=((Blk.new w2 [.int .i64 m,.int .i64 d,.slice io Q.m ic,.slice bo Q.N bc] 27 rfl).alloc (.cells #[.int .i64 wa,.int .i64 wb] 29)).alloc (.cells #[.int .i64 wc,.int .i64 wd] 29);have B4:=(Blk.new (w2.alloc (.cells #[.int .i64 m,.int .i64 d,.slice io Q.m ic,.slice bo Q.N bc] 27)) [.int .i64 wa,.int .i64 wb] 29 rfl).alloc (.cells #[.int .i64 wc,.int .i64 wd] 29);have B5:=Blk.new ((w2.alloc (.cells #[.int .i64 m,.int .i64 d,.slice io Q.m ic,.slice bo Q.N bc] 27)).alloc (.cells #[.int .i64 wa,.int .i64 wb] 29)) [.int .i64 wc,.int .i64 wd] 29 rfl;simp only[World.size_alloc] at B4 B5;have hB:Below w2.heap.size w2 (((w2.alloc (.cells #[.int .i64 m,.int .i64 d,.slice io Q.m ic,.slice bo Q.N bc] 27)).alloc (.cells #[.int .i64 wa,.int .i64 wb] 29)).alloc (.cells #[.int .i64 wc,.int .i64 wd] 29)):=(((Below.refl _ _).alloc (Nat.le_refl _) _).alloc (by simp) _).alloc (by simp;omega) _;replace U:=U.step hB;replace HB:=HB.trans (hB.mono HB.size);clear hB;go_upto_region 4 with fail;change Blk (((w2.alloc (.cells #[.int .i64 m,.int .i64 d,.slice io Q.m ic,.slice bo Q.N bc] 27)).alloc (.cells #[.int .i64 wa,.int .i64 wb] 29)).alloc (.cells #[.int .i64 wc,.int .i64 wd] 29)) w2.heap.size [.int .i64 m,.int .i64 d,.slice io Q.m ic,.slice bo Q.N bc] at B3;change Blk (((w2.alloc (.cells #[.int .i64 m,.int .i64 d,.slice io Q.m ic,.slice bo Q.N bc] 27)).alloc (.cells #[.int .i64 wa,.int .i64 wb] 29)).alloc (.cells #[.int .i64 wc,.int .i64 wd] 29)) (w2.heap.size+1) [.int .i64 wa,.int .i64 wb] at B4;change Blk (((w2.alloc (.cells #[.int .i64 m,.int .i64 d,.slice io Q.m ic,.slice bo Q.N bc] 27)).alloc (.cells #[.int .i64 wa,.int .i64 wb] 29)).alloc (.cells #[.int .i64 wc,.int .i64 wd] 29)) (w2.heap.size+1+1) [.int .i64 wc,.int .i64 wd] at B5;generalize (((w2.alloc (.cells #[.int .i64 m,.int .i64 d,.slice io Q.m ic,.slice bo Q.N bc] 27)).alloc (.cells #[.int .i64 wa,.int .i64 wb] 29)).alloc (.cells #[.int .i64 wc,.int .i64 wd] 29))=W3 at *;obtain⟨okb,hokb⟩:∃okb,qwB Q m d wa wb wc wd=okb:=⟨_,rfl⟩;obtain⟨LL,hLL⟩:∃LL,qwL Q m d wa wb wc wd=LL:=⟨_,rfl⟩;have HOK:Hid (qwB Q m d wa wb wc wd=okb):=hokb;have HLL:Hid (qwL Q m d wa wb wc wd=LL):=hLL;have hl48:LL.length≤1048576:=by rw[←hLL];exact qwL_le
   have x0:=B3.c 0 rfl;have x1:=B3.c 1 rfl;have x2:=B3.c 2 rfl;have x3:=B3.c 3 rfl;have y0:=B4.c 0 rfl;have y1:=B4.c 1 rfl;have z0:=B5.c 0 rfl;have z1:=B5.c 1 rfl;go_wp2_with fail;refine(U.win ic m d wa wb wc wd).mono ?_;rintro r w4 ⟨v1,rfl,O1,hB⟩;rw[hLL] at O1;rw[hokb];obtain⟨la,lc,rfl,I1⟩:=(NoOwn.of O1).in;replace HB:=HB.trans (hB.mono HB.size);replace B3:=B3.step hB;replace B4:=B4.step hB;replace B5:=B5.step hB;replace U:=U.step hB;clear hB O1 x0 x1 x2 x3 y0 y1 z0 z1;have x0:=B3.c 0 rfl;have x1:=B3.c 1 rfl;have x2:=B3.c 2 rfl;have x3:=B3.c 3 rfl;have y0:=B4.c 0 rfl;have y1:=B4.c 1 rfl;have z0:=B5.c 0 rfl;have z1:=B5.c 1 rfl;go_wp2_with fail;refine(U.winS ic m d wa wb wc wd).mono ?_;rintro r w5 ⟨v2,rfl,O2,hB⟩;rw[hLL] at O2;rw[hokb];obtain⟨lb,ld,rfl,I2⟩:=(NoOwn.of O2).in;replace HB:=HB.trans (hB.mono HB.size);replace B3:=B3.step hB;replace B4:=B4.step hB;replace B5:=B5.step hB;replace U:=U.step hB;replace I1:=I1.step hB;clear hB O2 hLL hokb x0 x1 x2 x3 y0 y1 z0 z1;cases okb with
   | false=>
    go_wp2_with fail;refine(sameInts_any la lb LL.length lc ld (fun i=>LL.getD i 0) hl48 _ I1 I2).mono ?_;rintro r w6 ⟨rfl,hB⟩;replace HB:=HB.trans (hB.mono HB.size);replace I1:=I1.step hB;replace I2:=I2.step hB;clear hB;go_wp2_with fail;refine(sameInts_any la lb LL.length lc ld (fun i=>LL.getD i 0) hl48 _ I1 I2).mono ?_;rintro r w7 ⟨rfl,hB⟩;replace HB:=HB.trans (hB.mono HB.size);clear hB I1 I2 U B3 B4 B5;go_wp2;go_ret;exact⟨rfl,HB⟩
   | true=>
    go_wp2_with fail;refine(sameInts_any la lb LL.length lc ld (fun i=>LL.getD i 0) hl48 _ I1 I2).mono ?_;rintro r w6 ⟨rfl,hB⟩;replace HB:=HB.trans (hB.mono HB.size);replace B3:=B3.step hB;replace B4:=B4.step hB;replace B5:=B5.step hB;replace U:=U.step hB;replace I1:=I1.step hB;clear hB I2;have hqb:=HOK.out;unfold qwB at hqb;rw[Bool.and_eq_true] at hqb;have HQ:Hid (qOk Q m d=true):=hqb.1;have HX:Hid (boxOk wa wb wc wd=true):=hqb.2;have HWL:Hid (winQ Q wa wb wc wd=LL):=by
     have e:=HLL.out;unfold qwL at e;rw[if_pos HOK.out] at e;exact e
    clear hqb HLL HOK;obtain⟨cnt,k0,k1,k2,k3,k4⟩:=win_cnt Q wa wb wc wd;rw[HWL.out] at k1 k2;have K0:Hid (cnt 0=0):=k0;have K1:Hid (cnt Q.m=LL.length):=k1;have K2:Hid (∀c,c<Q.m→hitW Q wa wb wc wd c=true→cnt (c+1)=cnt c+1∧cnt c<LL.length∧LL.getD (cnt c) 0=Q.I c):=k2;have K3:Hid (∀c,hitW Q wa wb wc wd c=false→cnt (c+1)=cnt c):=k3;have K4:Hid (∀c,cnt c≤c):=k4;clear k0 k1 k2 k3 k4;have hm42:=U.hm;have hm42I:(Q.m:Int)≤42:=by omega
    have x2:=B3.c 2 rfl;generalize hT3:w2.heap.size=T3 at *;clear hT3;go_wp2_with fail
    go_loopw [10,11] (fun nv i wr=>∃c:Nat,c≤Q.m∧i= .int .i64 c∧nv= .int .i64 ((cnt c:Nat):Int)∧Below w6.heap.size w6 wr) (fun _ i _=>Q.m-(intOf i).toNat)
    case atStart=>exact⟨0,Nat.zero_le _,rfl,by rw[K0.out];rfl,Below.refl _ _⟩
    case round=>
     clear x2;obtain⟨c,hcm,rfl,rfl,hB⟩:=hrel;have HBw:Hid (Below w6.heap.size w6 wr):=hB;replace HB:=HB.trans (hB.mono HB.size);replace B3:=B3.step hB;replace B4:=B4.step hB;replace B5:=B5.step hB;replace U:=U.step hB;replace I1:=I1.step hB;have hc4:=K4.out c;have hcI:(c:Int)≤42:=by omega
     by_cases hlt:c<Q.m
     · have hltI:(c:Int)<(Q.m:Int):=by omega
       obtain⟨A2,o2,e,hA2,q0,q1,q2,q3,q4⟩:=U.its c c (by simp[hlt]);obtain⟨bh,hbh⟩:∃bh,hitW Q wa wb wc wd c=bh:=⟨_,rfl⟩;have HBH:Hid (hitW Q wa wb wc wd c=bh):=hbh;have hsg:segOk (Q.S c).1 (Q.S c).2.1 (Q.S c).2.2.1 (Q.S c).2.2.2=true:=(of_decide_eq_true ((of_decide_eq_true (qOk_all HQ.out).2.2.1).2 c hlt)).2.1;have MB:=implMeetsBox_any (Q.S c).1 (Q.S c).2.1 (Q.S c).2.2.1 (Q.S c).2.2.2 wa wb wc wd bh (by unfold meetsBx;rw[hsg,HX.out,Bool.true_and];exact hbh);clear hbh hsg hB;have y2:=B3.c 2 rfl;have E3:Hid (io=some ⟨A2,o2,none⟩):=e;rw[e] at y2;go_upto_region 12 with fail;refine qxM (P:=T3) (A:=A2) (off:=o2) (n:=Q.m) (cap:=ic) (kk:=c) (sa:=(Q.S c).1) (sb:=(Q.S c).2.1) (sc:=(Q.S c).2.2.1) (sd:=(Q.S c).2.2.2) (wa:=wa) (wb:=wb) (wc:=wc) (wd:=wd) (bh:=bh) (Lb:=T3+1) (Hb:=T3+1+1) hlt hm42 MB rfl rfl rfl rfl y2 B3.lt q1 hA2 q2 hA2 q3 hA2 q4 hA2 (B4.c 0 rfl) B4.lt (B4.c 1 rfl) B4.lt (B5.c 0 rfl) B5.lt (B5.c 1 rfl) B5.lt rfl ?_;rintro⟨tm,df⟩ Wz hz hdf hoff h74 hBz;simp only at hz hdf hoff h74;change tm.getD 74 undef= .bool bh at h74;subst hdf;have htm:=tmps_fold [66,67,68,69,70,71,72,73,74] tm _ hz hoff;simp only[List.foldl,List.setIfInBounds_toArray,List.set_cons_zero,List.set_cons_succ,h74] at htm;clear hz hoff;generalize tm.getD 66 undef=pz0,tm.getD 67 undef=pz1,tm.getD 68 undef=pz2,tm.getD 69 undef=pz3,tm.getD 70 undef=pz4,tm.getD 71 undef=pz5,tm.getD 72 undef=pz6,tm.getD 73 undef=pz7 at htm;clear h74;subst htm;have y2z:=(hBz.cell (p:=⟨T3,2,none⟩) B3.lt).trans y2;have q0z:=(hBz.cell (p:=⟨A2,o2+c*5,none⟩) hA2).trans q0;have HBz:Hid (Below w6.heap.size w6 Wz):=HBw.out.trans (hBz.mono HBw.out.size);have J1:=I1.step hBz;clear hBz HBw q0 q1 q2 q3 q4 y2 MB I1 U B3 B4 B5 HB;cases bh with
       | false=>
        go_wp2;go_roundw
        case rel=>exact⟨c+1,hlt,by go_num,by rw[K3.out c HBH.out],HBz.out⟩
        case measure=>simp[intOf];omega
       | true=>
        obtain⟨k2,k5,k6⟩:=K2.out c hlt HBH.out;obtain⟨LA,lo,e1,hLA,r0⟩:=J1 (cnt c) k5;replace r0:Wz.cell? ⟨LA,lo+cnt c,none⟩=some (.int .i64 (LL.getD (cnt c) 0)):=r0;rw[k6] at r0;have k5I:((cnt c:Nat):Int)<(LL.length:Int):=by omega
        have hge:¬((LL.length:Int)≤((cnt c:Nat):Int)):=by omega
        have hsame:(Q.I c != Q.I c)=false:=by simp
        have HNW:Hid (cnt (c+1)=cnt c+1):=k2;clear J1 k2 k6;subst e1;go_upto_region 13 with fail;refine wp_region_qw (by kernel_rfl) (by kernel_rfl) ?_;intro W qN qS
        repeat (refine qS _ _ _ (fun K hK=>?_);go_simp;refine hK _ ?_;clear hK K)
        refine qN _ (fun nq=>?_);clear qN qS;go_wp2;go_roundw
        case rel=>exact⟨_,_,_,⟨c+1,hlt,rfl,by rw[HNW.out];rfl,below_qx HBz.out nq⟩,rfl,rfl,rfl⟩
        case measure=>simp[intOf];omega
     · obtain rfl:c=Q.m:=by omega
       have hnI:(n:Int)≤1048576:=by omega
       have hm1:IntKind.i64.wrap (1+Int.tmod (n:Int) 8)=1+Int.tmod (n:Int) 8:=by
        have h8:=Int.tmod_nonneg 8 (Int.natCast_nonneg n);have h9:=Int.tmod_lt_of_pos (n:Int) (show(0:Int)<8 by decide);rw[IntKind.wrap_i64]
        omega
       have hlim:limB (1+Int.tmod (n:Int) 8) (Int.tmod (n:Int) 5)=true:=by
        have h8:=Int.tmod_nonneg 8 (Int.natCast_nonneg n);have h9:=Int.tmod_lt_of_pos (n:Int) (show(0:Int)<8 by decide);have h6:=Int.tmod_nonneg 5 (Int.natCast_nonneg n);have h7:=Int.tmod_lt_of_pos (n:Int) (show(0:Int)<5 by decide);unfold limB
        simp
        omega
       have AG:=fun w U=>again_any Q io bo ic bc A off so m d (1+Int.tmod (n:Int) 8) (Int.tmod (n:Int) 5) w hlim (rise_of (qOk_all HQ.out).2.2.1) U;clear hlim;clear hB HBw;have x0:=B3.c 0 rfl;have x1:=B3.c 1 rfl;have x2:=B3.c 2 rfl;have x3:=B3.c 3 rfl;go_wp2_with fail;refine(AG _ U).mono ?_;rintro r w7 ⟨fine,m1,d1,Qp,io1,bo1,ic1,bc1,A1,off1,so1,rfl,UP,hfin,hB⟩;have HFI:Hid (fine=true→m1=1+Int.tmod (n:Int) 8∧d1=Int.tmod (n:Int) 5∧qOk Qp (1+Int.tmod (n:Int) 8) (Int.tmod (n:Int) 5)=true∧Tail Qp Q 0):=hfin;have hBa:Below w7.heap.size w7 (w7.alloc (.cells #[.int .i64 m1,.int .i64 d1,.slice io1 Qp.m ic1,.slice bo1 Qp.N bc1] 27)):=(Below.refl _ _).alloc (Nat.le_refl _) _;have B12:=Blk.new w7 [.int .i64 m1,.int .i64 d1,.slice io1 Qp.m ic1,.slice bo1 Qp.N bc1] 27 rfl;replace HB:=(HB.trans (hB.mono HB.size)).trans (hBa.mono (HB.trans (hB.mono HB.size)).size);replace B4:=(B4.step hB).step hBa;replace B5:=(B5.step hB).step hBa;replace I1:=(I1.step hB).step hBa;replace UP:=UP.step hBa;clear x0 x1 x2 x3 B3 U AG hm1 hfin hB hBa;go_upto_region 17 with fail;change Blk (w7.alloc (.cells #[.int .i64 m1,.int .i64 d1,.slice io1 Qp.m ic1,.slice bo1 Qp.N bc1] 27)) w7.heap.size [.int .i64 m1,.int .i64 d1,.slice io1 Qp.m ic1,.slice bo1 Qp.N bc1] at B12;generalize (w7.alloc (.cells #[.int .i64 m1,.int .i64 d1,.slice io1 Qp.m ic1,.slice bo1 Qp.N bc1] 27))=W8 at *;generalize w7.heap.size=T12 at *;have p0:=B12.c 0 rfl;have p1:=B12.c 1 rfl;have p2:=B12.c 2 rfl;have p3:=B12.c 3 rfl;have y0:=B4.c 0 rfl;have y1:=B4.c 1 rfl;have z0:=B5.c 0 rfl;have z1:=B5.c 1 rfl;go_wp2_with fail;refine(UP.win ic1 m1 d1 wa wb wc wd).mono ?_;rintro r w9 ⟨v3,rfl,O3,hB⟩;replace HB:=HB.trans (hB.mono HB.size);replace I1:=I1.step hB;clear p0 p1 p2 p3 y0 y1 z0 z1 B4 B5 B12 UP hB;have hk1:((cnt Q.m:Nat):Int)=(LL.length:Int):=by rw[K1.out]
       rw[hk1];clear hk1;cases fine with
       | false=>
        clear O3 I1;go_wp2;go_ret;exact⟨rfl,HB⟩
       | true=>
        obtain⟨e1,e2,hq,hT⟩:=HFI.out rfl;have hqw:qwB Qp m1 d1 wa wb wc wd=true:=by unfold qwB;rw[e1,e2,hq,HX.out];rfl
        have hql:qwL Qp m1 d1 wa wb wc wd=LL:=by unfold qwL;rw[if_pos hqw,win_tail hT,HWL.out]
        rw[hql] at O3;rw[hqw];obtain⟨l3,c3,rfl,I3⟩:=(NoOwn.of O3).in;clear O3 e1 e2 hq hT hqw hql HFI;go_wp2_with fail;refine(sameInts_any l3 la LL.length c3 lc (fun i=>LL.getD i 0) hl48 _ I3 I1).mono ?_;rintro r w10 ⟨rfl,hB⟩;replace HB:=HB.trans (hB.mono HB.size);clear hB I1 I3;go_wp2;go_ret;exact⟨rfl,HB⟩
open Go.ChangeShapes Go.WideShapes Go.ChangeAt Go.RowKit Go.Joins
theorem jn_laid:laidOutB Tryz.pinned.checked.prog=true:=by kernel_rfl
theorem jn_maps:mapsRowed Tryz.pinned.checked.prog=true:=by kernel_rfl
theorem jn_enter:Tryz.pinned.checked.prog.mayEnter=true:=by kernel_rfl
theorem jn_heard:Tryz.pinned.checked.prog.stopsHeard=true:=by kernel_rfl
end Go.Proofs.YthelolpogdcmhaaGreat
