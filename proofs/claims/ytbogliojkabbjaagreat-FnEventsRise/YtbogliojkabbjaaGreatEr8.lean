/- Part 8 of the walks that the proof leans on. -/
import Derived.Test.YtbogliojkabbjaaGreatEr7
import Derived.Test.YtbogliojkabbjaaGreatEr6
import Derived.Deep.RegionHeld3
import Derived.Test.YtbogliojkabbjaaGreatEr2
set_option maxRecDepth 100000
set_option maxHeartbeats 16000000
namespace Go.Proofs.YtbogliojkabbjaaGreat
open Go.RowKit
theorem from_det (x:Int) (hx:told x=true) (w:World):Calls Tryz.prog 61 #[W4 x] w (NumP 8 x w):=by
 obtain⟨p3,p2,p1,p0⟩:=ww_words x;have h:=from_any (ww3 x) (ww2 x) (ww1 x) (ww0 x) p3 p2 p1 p0 w;rw[ww_sw hx] at h;exact h
theorem ArgsB.set6g {w W:World} {vss:List (List Value)} (h:ArgsB w W vss) {g:Nat} (hg:w.heap.size+vss.length≤g) (v0 v1 v2 v3 v4 v5:Value):ArgsB w ((((((W.setCell ⟨g,0,none⟩ v0).setCell ⟨g,1,none⟩ v1).setCell ⟨g,2,none⟩ v2).setCell ⟨g,3,none⟩ v3).setCell ⟨g,4,none⟩ v4).setCell ⟨g,5,none⟩ v5) vss:=(((((h.set (by exact hg) _).set (by exact hg) _).set (by exact hg) _).set (by exact hg) _).set (by exact hg) _).set (by exact hg) _
theorem l3o_cells {x y z:Int} {w W:World} (T0:ArgsB w W [[.int .u64 (ww3 x),.int .u64 (ww2 x),.int .u64 (ww1 x),.int .u64 (ww0 x),.int .u64 (ww3 y),.int .u64 (ww2 y),.int .u64 (ww1 y),.int .u64 (ww0 y),.int .u64 (ww3 z),.int .u64 (ww2 z),.int .u64 (ww1 z),.int .u64 (ww0 z)]]):(fun w' =>w'.cell? ⟨w.heap.size,0,none⟩=some (.int .u64 (ww3 x))∧w'.cell? ⟨w.heap.size,1,none⟩=some (.int .u64 (ww2 x))∧w'.cell? ⟨w.heap.size,2,none⟩=some (.int .u64 (ww1 x))∧w'.cell? ⟨w.heap.size,3,none⟩=some (.int .u64 (ww0 x))∧w'.cell? ⟨w.heap.size,4,none⟩=some (.int .u64 (ww3 y))∧w'.cell? ⟨w.heap.size,5,none⟩=some (.int .u64 (ww2 y))∧w'.cell? ⟨w.heap.size,6,none⟩=some (.int .u64 (ww1 y))∧w'.cell? ⟨w.heap.size,7,none⟩=some (.int .u64 (ww0 y))∧w'.cell? ⟨w.heap.size,8,none⟩=some (.int .u64 (ww3 z))∧w'.cell? ⟨w.heap.size,9,none⟩=some (.int .u64 (ww2 z))∧w'.cell? ⟨w.heap.size,10,none⟩=some (.int .u64 (ww1 z))∧w'.cell? ⟨w.heap.size,11,none⟩=some (.int .u64 (ww0 z))) W:=⟨(T0.b 0 rfl).c 0 rfl,(T0.b 0 rfl).c 1 rfl,(T0.b 0 rfl).c 2 rfl,(T0.b 0 rfl).c 3 rfl,(T0.b 0 rfl).c 4 rfl,(T0.b 0 rfl).c 5 rfl,(T0.b 0 rfl).c 6 rfl,(T0.b 0 rfl).c 7 rfl,(T0.b 0 rfl).c 8 rfl,(T0.b 0 rfl).c 9 rfl,(T0.b 0 rfl).c 10 rfl,(T0.b 0 rfl).c 11 rfl⟩
theorem l3Of_det (x y z:Int) (hx:told x=true) (hy:told y=true) (hz:told z=true) (w:World):Calls Tryz.prog 32 #[PV x y z] w (L3P 8 x y z w):=by
 have T5:ArgsB w ((w.alloc (.cells #[.int .u64 (ww3 x),.int .u64 (ww2 x),.int .u64 (ww1 x),.int .u64 (ww0 x),.int .u64 (ww3 y),.int .u64 (ww2 y),.int .u64 (ww1 y),.int .u64 (ww0 y),.int .u64 (ww3 z),.int .u64 (ww2 z),.int .u64 (ww1 z),.int .u64 (ww0 z)] 29)).alloc (.cells #[.bool false,.slice none 0 0,.bool false,.slice none 0 0,.bool false,.slice none 0 0] 66)) [[.int .u64 (ww3 x),.int .u64 (ww2 x),.int .u64 (ww1 x),.int .u64 (ww0 x),.int .u64 (ww3 y),.int .u64 (ww2 y),.int .u64 (ww1 y),.int .u64 (ww0 y),.int .u64 (ww3 z),.int .u64 (ww2 z),.int .u64 (ww1 z),.int .u64 (ww0 z)],[.bool false,.slice none 0 0,.bool false,.slice none 0 0,.bool false,.slice none 0 0]]:=ar2 _ _ _ _ w;have R0:=T5.b 1 rfl;have T0:ArgsB w _ [[.int .u64 (ww3 x),.int .u64 (ww2 x),.int .u64 (ww1 x),.int .u64 (ww0 x),.int .u64 (ww3 y),.int .u64 (ww2 y),.int .u64 (ww1 y),.int .u64 (ww0 y),.int .u64 (ww3 z),.int .u64 (ww2 z),.int .u64 (ww1 z),.int .u64 (ww0 z)]]:=T5.left (vs:=[[.bool false,.slice none 0 0,.bool false,.slice none 0 0,.bool false,.slice none 0 0]]);clear T5;have F1:=from_det x hx;have F2:=from_det y hy;have F3:=from_det z hz;clear hx hy hz;have tok1:True:=trivial;have tok2:True:=trivial
 go_enter Tryz.func32,Tryz.ntmps32
 go_upto_region 1 with fail;generalize ((w.alloc (.cells #[.int .u64 (ww3 x),.int .u64 (ww2 x),.int .u64 (ww1 x),.int .u64 (ww0 x),.int .u64 (ww3 y),.int .u64 (ww2 y),.int .u64 (ww1 y),.int .u64 (ww0 y),.int .u64 (ww3 z),.int .u64 (ww2 z),.int .u64 (ww1 z),.int .u64 (ww0 z)] 29)).alloc (.cells #[.bool false,.slice none 0 0,.bool false,.slice none 0 0,.bool false,.slice none 0 0] 66))=W at *
 go_region_held3 (fun w' =>w'.cell? ⟨w.heap.size,0,none⟩=some (.int .u64 (ww3 x))∧w'.cell? ⟨w.heap.size,1,none⟩=some (.int .u64 (ww2 x))∧w'.cell? ⟨w.heap.size,2,none⟩=some (.int .u64 (ww1 x))∧w'.cell? ⟨w.heap.size,3,none⟩=some (.int .u64 (ww0 x))∧w'.cell? ⟨w.heap.size,4,none⟩=some (.int .u64 (ww3 y))∧w'.cell? ⟨w.heap.size,5,none⟩=some (.int .u64 (ww2 y))∧w'.cell? ⟨w.heap.size,6,none⟩=some (.int .u64 (ww1 y))∧w'.cell? ⟨w.heap.size,7,none⟩=some (.int .u64 (ww0 y))∧w'.cell? ⟨w.heap.size,8,none⟩=some (.int .u64 (ww3 z))∧w'.cell? ⟨w.heap.size,9,none⟩=some (.int .u64 (ww2 z))∧w'.cell? ⟨w.heap.size,10,none⟩=some (.int .u64 (ww1 z))∧w'.cell? ⟨w.heap.size,11,none⟩=some (.int .u64 (ww0 z))) ((refine l3o_cells ?_<;>repeat (first | (with_reducible exact T0) | (with_reducible refine ArgsB.drew ?_) | (with_reducible refine ArgsB.set6g ?_ (by simp;try omega) _ _ _ _ _ _))))
  (first
   | (go_at_call 61;have _t:=tok1;refine(F1 _).mono ?_;rintro e w1 ⟨s1,o1,n1,c1,d1,rfl,N1,hB⟩;(first | (have T1:ArgsB w w1 [[.int .u64 (ww3 x),.int .u64 (ww2 x),.int .u64 (ww1 x),.int .u64 (ww0 x),.int .u64 (ww3 y),.int .u64 (ww2 y),.int .u64 (ww1 y),.int .u64 (ww0 y),.int .u64 (ww3 z),.int .u64 (ww2 z),.int .u64 (ww1 z),.int .u64 (ww0 z)]]:=(by with_reducible exact T0.step hB);have tltw1:=(T0.b 0 rfl).lt;have lR0w1:=R0.lt;replace R0:=R0.step hB;skip) | (have T1:ArgsB w w1 [[.int .u64 (ww3 x),.int .u64 (ww2 x),.int .u64 (ww1 x),.int .u64 (ww0 x),.int .u64 (ww3 y),.int .u64 (ww2 y),.int .u64 (ww1 y),.int .u64 (ww0 y),.int .u64 (ww3 z),.int .u64 (ww2 z),.int .u64 (ww1 z),.int .u64 (ww0 z)]]:=(by with_reducible exact T0.drew.step hB);have tltw1:=(T0.b 0 rfl).lt;have lR0w1:=R0.lt;replace R0:=R0.drew.step hB;skip));clear T0;have T0:=T1;clear T1;clear hB tok1 _t)
   | (go_at_call 61;have _t:=tok2;refine(F2 _).mono ?_;rintro e w2 ⟨s2,o2,n2,c2,d2,rfl,N2,hB⟩;(first | (replace N1:=N1.below hB;skip) | (replace N1:=N1.drew.below hB;skip));(first | (have T1:ArgsB w w2 [[.int .u64 (ww3 x),.int .u64 (ww2 x),.int .u64 (ww1 x),.int .u64 (ww0 x),.int .u64 (ww3 y),.int .u64 (ww2 y),.int .u64 (ww1 y),.int .u64 (ww0 y),.int .u64 (ww3 z),.int .u64 (ww2 z),.int .u64 (ww1 z),.int .u64 (ww0 z)]]:=(by with_reducible exact T0.step hB);have tltw2:=(T0.b 0 rfl).lt;have lR0w2:=R0.lt;replace R0:=R0.step hB;skip) | (have T1:ArgsB w w2 [[.int .u64 (ww3 x),.int .u64 (ww2 x),.int .u64 (ww1 x),.int .u64 (ww0 x),.int .u64 (ww3 y),.int .u64 (ww2 y),.int .u64 (ww1 y),.int .u64 (ww0 y),.int .u64 (ww3 z),.int .u64 (ww2 z),.int .u64 (ww1 z),.int .u64 (ww0 z)]]:=(by with_reducible exact T0.drew.step hB);have tltw2:=(T0.b 0 rfl).lt;have lR0w2:=R0.lt;replace R0:=R0.drew.step hB;skip));clear T0;have T0:=T1;clear T1;clear hB tok2 _t)
   | (go_at_call 61;refine(F3 _).mono ?_;rintro e w3 ⟨s3,o3,n3,c3,d3,rfl,N3,hB⟩;(first | (replace N1:=N1.below hB;replace N2:=N2.below hB;skip) | (replace N1:=N1.drew.below hB;replace N2:=N2.drew.below hB;skip));(first | (have T1:ArgsB w w3 [[.int .u64 (ww3 x),.int .u64 (ww2 x),.int .u64 (ww1 x),.int .u64 (ww0 x),.int .u64 (ww3 y),.int .u64 (ww2 y),.int .u64 (ww1 y),.int .u64 (ww0 y),.int .u64 (ww3 z),.int .u64 (ww2 z),.int .u64 (ww1 z),.int .u64 (ww0 z)]]:=(by with_reducible exact T0.step hB);have tltw3:=(T0.b 0 rfl).lt;have lR0w3:=R0.lt;replace R0:=R0.step hB;skip) | (have T1:ArgsB w w3 [[.int .u64 (ww3 x),.int .u64 (ww2 x),.int .u64 (ww1 x),.int .u64 (ww0 x),.int .u64 (ww3 y),.int .u64 (ww2 y),.int .u64 (ww1 y),.int .u64 (ww0 y),.int .u64 (ww3 z),.int .u64 (ww2 z),.int .u64 (ww1 z),.int .u64 (ww0 z)]]:=(by with_reducible exact T0.drew.step hB);have tltw3:=(T0.b 0 rfl).lt;have lR0w3:=R0.lt;replace R0:=R0.drew.step hB;skip));clear T0;have T0:=T1;clear T1;clear hB;have rc0:=R0.c 0 rfl;have rf0:=R0.f 0 rfl;have rc1:=R0.c 1 rfl;have rf1:=R0.f 1 rfl;have rc2:=R0.c 2 rfl;have rf2:=R0.f 2 rfl;have rc3:=R0.c 3 rfl;have rf3:=R0.f 3 rfl;have rc4:=R0.c 4 rfl;have rf4:=R0.f 4 rfl;have rc5:=R0.c 5 rfl;have rf5:=R0.f 5 rfl;have rl:=R0.lt))
 all_goals have HB:=T0.below
 all_goals have M1:=num_set6 N1 R0 (.bool s1) (.slice o1 n1 c1) (.bool s2) (.slice o2 n2 c2) (.bool s3) (.slice o3 n3 c3)
 all_goals have M2:=num_set6 N2 R0 (.bool s1) (.slice o1 n1 c1) (.bool s2) (.slice o2 n2 c2) (.bool s3) (.slice o3 n3 c3)
 all_goals have M3:=num_set6 N3 R0 (.bool s1) (.slice o1 n1 c1) (.bool s2) (.slice o2 n2 c2) (.bool s3) (.slice o3 n3 c3)
 all_goals clear T0 R0 N1 N2 N3 F1 F2 F3
 all_goals go_wp2
 all_goals refine bodyPost_ret (v:= .agg #[.bool s1,.slice o1 n1 c1,.bool s2,.slice o2 n2 c2,.bool s3,.slice o3 n3 c3]) (by simp[results,Tryz.results32,go_sem,rc0,rc1,rc2,rc3,rc4,rc5]) rfl ?_
 all_goals refine⟨s1,o1,n1,c1,d1,s2,o2,n2,c2,d2,s3,o3,n3,c3,d3,rfl,by first | exact M1 | exact M1.drew,by first | exact M2 | exact M2.drew,by first | exact M3 | exact M3.drew,?_⟩
 all_goals repeat' (refine Below.setCell ?_ (by simp;try omega) _)
 all_goals first | exact HB | exact HB.drew
theorem l3_cells0 {s1 s2 s3:Bool} {o1 o2 o3:Option Addr} {n1 n2 n3 c1 c2 c3:Nat} {W:World} {gx:Nat} (X0:Blk W gx [.bool s1,.slice o1 n1 c1,.bool s2,.slice o2 n2 c2,.bool s3,.slice o3 n3 c3]):(fun w' =>w'.cell? ⟨gx,0,none⟩=some (.bool s1)∧w'.cell? ⟨gx,1,none⟩=some (.slice o1 n1 c1)∧w'.cell? ⟨gx,2,none⟩=some (.bool s2)∧w'.cell? ⟨gx,3,none⟩=some (.slice o2 n2 c2)∧w'.cell? ⟨gx,4,none⟩=some (.bool s3)∧w'.cell? ⟨gx,5,none⟩=some (.slice o3 n3 c3)) W:=⟨X0.c 0 rfl,X0.c 1 rfl,X0.c 2 rfl,X0.c 3 rfl,X0.c 4 rfl,X0.c 5 rfl⟩
theorem specPointOk_det (x y z:Int) (hx:told x=true) (hy:told y=true) (hz:told z=true) (w:World):Calls Tryz.prog 28 #[PV x y z] w (VP (.bool (ptB x y z)) w):=by
 have HB:=(Below.refl _ w).alloc (Nat.le_refl _) (.cells #[.int .u64 (ww3 x),.int .u64 (ww2 x),.int .u64 (ww1 x),.int .u64 (ww0 x),.int .u64 (ww3 y),.int .u64 (ww2 y),.int .u64 (ww1 y),.int .u64 (ww0 y),.int .u64 (ww3 z),.int .u64 (ww2 z),.int .u64 (ww1 z),.int .u64 (ww0 z)] 29);have OF:=l3Of_det x y z hx hy hz;clear hx hy hz
 go_enter Tryz.func28,Tryz.ntmps28
 go_wp2_with fail;refine(OF _).mono ?_;rintro e w1 ⟨s1,o1,n1,c1,d1,s2,o2,n2,c2,d2,s3,o3,n3,c3,d3,rfl,N1,N2,N3,hB⟩;replace HB:=HB.trans (hB.mono HB.size);clear hB OF;go_upto_region 2 with fail;have X0:Blk (w1.alloc (.cells #[.bool s1,.slice o1 n1 c1,.bool s2,.slice o2 n2 c2,.bool s3,.slice o3 n3 c3] 66)) w1.heap.size [.bool s1,.slice o1 n1 c1,.bool s2,.slice o2 n2 c2,.bool s3,.slice o3 n3 c3]:=Blk.new w1 _ _ rfl;have hb0:=(Below.refl w1.heap.size w1).alloc (Nat.le_refl _) (.cells #[.bool s1,.slice o1 n1 c1,.bool s2,.slice o2 n2 c2,.bool s3,.slice o3 n3 c3] 66);replace N1:=N1.below hb0;replace N2:=N2.below hb0;replace N3:=N3.below hb0;replace HB:=HB.alloc HB.size (.cells #[.bool s1,.slice o1 n1 c1,.bool s2,.slice o2 n2 c2,.bool s3,.slice o3 n3 c3] 66);clear hb0;generalize w1.alloc (.cells #[.bool s1,.slice o1 n1 c1,.bool s2,.slice o2 n2 c2,.bool s3,.slice o3 n3 c3] 66)=W at *;generalize w1.heap.size=gx at *;replace N1:=N1.drew;replace N2:=N2.drew;replace N3:=N3.drew
 by_cases hs:0<z
 · by_cases h1:(small x&&small y&&small z)=true
   · have HR:Hid (ptB x y z=(cmpI (Int.gcd (Int.gcd x y) z:Int) 1==0)):=by
      show _=_;unfold ptB;rw[h1,Bool.eq_iff_iff];simp only[hs,decide_true,Bool.true_and,decide_eq_true_eq,beq_iff_eq];unfold cmpI
      split
      · constructor
        · intro h;omega
        · intro h;exact absurd h (by decide)
      · split
        · constructor
          · intro h;omega
          · intro h;exact absurd h (by decide)
        · exact⟨fun _=>rfl,fun _=>by omega⟩
     obtain⟨q,hq⟩:∃q,cmpI (Int.gcd (Int.gcd x y) z:Int) 1=q:=⟨_,rfl⟩;rw[hq] at HR;have tok1:True:=trivial
     go_region_held3 (fun w' =>w'.cell? ⟨gx,0,none⟩=some (.bool s1)∧w'.cell? ⟨gx,1,none⟩=some (.slice o1 n1 c1)∧w'.cell? ⟨gx,2,none⟩=some (.bool s2)∧w'.cell? ⟨gx,3,none⟩=some (.slice o2 n2 c2)∧w'.cell? ⟨gx,4,none⟩=some (.bool s3)∧w'.cell? ⟨gx,5,none⟩=some (.slice o3 n3 c3)) (first | (with_reducible exact l3_cells0 X0) | (with_reducible exact l3_cells0 X0.drew))
      (first
       | (go_at_call 54;refine(sign_any s3 o3 n3 c3 d3 _ 8 _ N3).mono ?_;rintro e w2 ⟨rfl,hB⟩;rw[cmpI_gt hs];(first | (replace X0:=X0.step hB;replace HB:=HB.trans (hB.mono HB.size)) | (replace X0:=X0.drew.step hB;replace HB:=HB.drew.trans (hB.mono HB.size)));replace N1:=N1.below hB;replace N2:=N2.below hB;replace N3:=N3.below hB;clear hB)
       | (go_at_call 55;refine(l3Small_any s1 o1 n1 c1 d1 s2 o2 n2 c2 d2 s3 o3 n3 c3 d3 x y z 8 (by omega) _ N1 N2 N3).mono ?_;rintro e w3 ⟨rfl,hB⟩;rw[h1];(first | (replace X0:=X0.step hB;replace HB:=HB.trans (hB.mono HB.size)) | (replace X0:=X0.drew.step hB;replace HB:=HB.drew.trans (hB.mono HB.size)));replace N1:=N1.below hB;replace N2:=N2.below hB;replace N3:=N3.below hB;clear hB)
       | (go_at_call 57;have _t:=tok1;refine(gcd_any s1 s2 o1 o2 n1 n2 c1 c2 8 d1 d2 _ _ _ N1 N2 (by omega)).mono ?_;rintro e w4 ⟨s4,o4,n4,c4,d4,rfl,N4,hB⟩;(first | (replace X0:=X0.step hB;replace HB:=HB.trans (hB.mono HB.size)) | (replace X0:=X0.drew.step hB;replace HB:=HB.drew.trans (hB.mono HB.size)));replace N3:=N3.below hB;clear hB;clear tok1 _t N1 N2)
       | (go_at_call 57;refine(gcd_any s4 s3 o4 o3 n4 n3 c4 c3 8 d4 d3 _ _ _ N4 N3 (by omega)).mono ?_;rintro e w5 ⟨s5,o5,n5,c5,d5,rfl,N5,hB⟩;(first | (replace X0:=X0.step hB;replace HB:=HB.trans (hB.mono HB.size)) | (replace X0:=X0.drew.step hB;replace HB:=HB.drew.trans (hB.mono HB.size)));clear hB;clear N3 N4)
       | (go_at_call 58;refine(int_any 1 _ (by decide) (by decide)).mono ?_;rintro e w6 ⟨s6,o6,n6,c6,d6,rfl,N6,hB⟩;(first | (replace X0:=X0.step hB;replace HB:=HB.trans (hB.mono HB.size)) | (replace X0:=X0.drew.step hB;replace HB:=HB.drew.trans (hB.mono HB.size)));replace N5:=N5.below hB;clear hB)
       | (go_at_call 56;refine(cmp_any s5 s6 o5 o6 n5 n6 c5 c6 8 d5 d6 _ _ _ N5 (num_more N6 (by decide)) (by omega)).mono ?_;rintro e w7 ⟨rfl,hB⟩;rw[hq];(first | (replace X0:=X0.step hB;replace HB:=HB.trans (hB.mono HB.size)) | (replace X0:=X0.drew.step hB;replace HB:=HB.drew.trans (hB.mono HB.size)));clear hB))
     all_goals clear hq hs h1 X0
     all_goals go_wp2
     all_goals go_ret
     all_goals exact⟨by rw[HR.out];simp,by first | exact HB | exact HB.drew⟩
   · replace h1:=Bool.eq_false_iff.2 h1;have HR:Hid (ptB x y z=false):=by show _=_;unfold ptB;rw[h1];simp
     have q0:=X0.c 0 rfl;have q1:=X0.c 1 rfl;have q2:=X0.c 2 rfl;have q3:=X0.c 3 rfl;have q4:=X0.c 4 rfl;have q5:=X0.c 5 rfl;refine wp_region_any (by kernel_rfl) ?_
     try (change wpAny _ _ _ _ _ _ _ (World.drew _))
     refine wpAny_ready (rs:=[0]) (by kernel_rfl) (by simp) ?_;refine AllReady.cons rfl (fun K hK=>?_) AllReady.nil;go_simp;refine hK _ _ ?_;clear hK K;refine wpAny_ready (rs:=[1]) (by kernel_rfl) (by simp) ?_;refine AllReady.cons rfl (fun K hK=>?_) AllReady.nil;go_simp;refine hK _ _ ?_;clear hK K;refine wpAny_ready (rs:=[2]) (by kernel_rfl) (by simp) ?_;refine AllReady.cons rfl (fun K hK=>?_) AllReady.nil;go_simp
     go_wp2_with (go_at_call 54;refine(sign_any s3 o3 n3 c3 d3 _ 8 _ N3).mono ?_;rintro e w2 ⟨rfl,hB⟩;rw[cmpI_gt hs];(first | (replace X0:=X0.step hB;replace HB:=HB.trans (hB.mono HB.size)) | (replace X0:=X0.drew.step hB;replace HB:=HB.drew.trans (hB.mono HB.size)));replace N1:=N1.below hB;replace N2:=N2.below hB;replace N3:=N3.below hB;clear hB;clear q0 q1 q2 q3 q4 q5;have q0:=X0.c 0 rfl;have q1:=X0.c 1 rfl;have q2:=X0.c 2 rfl;have q3:=X0.c 3 rfl;have q4:=X0.c 4 rfl;have q5:=X0.c 5 rfl)
     (try (refine hK _ _ ?_;clear hK K))
     refine wpAny_ready (rs:=[3]) (by kernel_rfl) (by simp) ?_;refine AllReady.cons rfl (fun K hK=>?_) AllReady.nil;go_simp;refine hK _ _ ?_;clear hK K;refine wpAny_ready (rs:=[4]) (by kernel_rfl) (by simp) ?_;refine AllReady.cons rfl (fun K hK=>?_) AllReady.nil;go_simp;refine hK _ _ ?_;clear hK K;refine wpAny_ready (rs:=[5]) (by kernel_rfl) (by simp) ?_;refine AllReady.cons rfl (fun K hK=>?_) AllReady.nil;go_simp;refine hK _ _ ?_;clear hK K;refine wpAny_ready (rs:=[6]) (by kernel_rfl) (by simp) ?_;refine AllReady.cons rfl (fun K hK=>?_) AllReady.nil;go_simp
     go_wp2_with (go_at_call 55;refine(l3Small_any s1 o1 n1 c1 d1 s2 o2 n2 c2 d2 s3 o3 n3 c3 d3 x y z 8 (by omega) _ N1 N2 N3).mono ?_;rintro e w3 ⟨rfl,hB⟩;rw[h1];(first | (replace X0:=X0.step hB;replace HB:=HB.trans (hB.mono HB.size)) | (replace X0:=X0.drew.step hB;replace HB:=HB.drew.trans (hB.mono HB.size)));clear hB;clear q0 q1 q2 q3 q4 q5 X0 N1 N2 N3)
     (try (refine hK _ _ ?_;clear hK K))
     refine wpAny_ready (rs:=[7]) (by kernel_rfl) (by simp) ?_;refine AllReady.cons rfl (fun K hK=>?_) AllReady.nil;go_simp;refine hK _ _ ?_;clear hK K;refine wpAny_ready (rs:=[8]) (by kernel_rfl) (by simp) ?_;refine AllReady.cons rfl (fun K hK=>?_) AllReady.nil;go_simp;refine hK _ _ ?_;clear hK K;refine wpAny_take (i:=9) (v:=undef) rfl (by kernel_rfl) (by kernel_rfl) (by kernel_rfl) (fun _ _ _ h=>h) (Or.inr ⟨by kernel_rfl,rfl⟩) ?_;refine wpAny_take (i:=10) (v:=undef) rfl (by kernel_rfl) (by kernel_rfl) (by kernel_rfl) (fun _ _ _ h=>h) (Or.inr ⟨by kernel_rfl,rfl⟩) ?_;refine wpAny_take (i:=11) (v:=undef) rfl (by kernel_rfl) (by kernel_rfl) (by kernel_rfl) (fun _ _ _ h=>h) (Or.inr ⟨by kernel_rfl,rfl⟩) ?_;refine wpAny_take (i:=12) (v:=undef) rfl (by kernel_rfl) (by kernel_rfl) (by kernel_rfl) (fun _ _ _ h=>h) (Or.inr ⟨by kernel_rfl,rfl⟩) ?_;refine wpAny_take (i:=13) (v:=undef) rfl (by kernel_rfl) (by kernel_rfl) (by kernel_rfl) (fun _ _ _ h=>h) (Or.inr ⟨by kernel_rfl,rfl⟩) ?_;refine wpAny_take (i:=14) (v:=undef) rfl (by kernel_rfl) (by kernel_rfl) (by kernel_rfl) (fun _ _ _ h=>h) (Or.inr ⟨by kernel_rfl,rfl⟩) ?_;refine wpAny_take (i:=15) (v:=undef) rfl (by kernel_rfl) (by kernel_rfl) (by kernel_rfl) (fun _ _ _ h=>h) (Or.inr ⟨by kernel_rfl,rfl⟩) ?_;refine wpAny_take (i:=16) (v:=undef) rfl (by kernel_rfl) (by kernel_rfl) (by kernel_rfl) (fun _ _ _ h=>h) (Or.inr ⟨by kernel_rfl,rfl⟩) ?_;refine wpAny_take (i:=17) (v:=undef) rfl (by kernel_rfl) (by kernel_rfl) (by kernel_rfl) (fun _ _ _ h=>h) (Or.inr ⟨by kernel_rfl,rfl⟩) ?_;refine wpAny_take (i:=18) (v:=undef) rfl (by kernel_rfl) (by kernel_rfl) (by kernel_rfl) (fun _ _ _ h=>h) (Or.inr ⟨by kernel_rfl,rfl⟩) ?_;refine wpAny_take (i:=19) (v:=undef) rfl (by kernel_rfl) (by kernel_rfl) (by kernel_rfl) (fun _ _ _ h=>h) (Or.inr ⟨by kernel_rfl,rfl⟩) ?_;refine wpAny_ready (rs:=[20]) (by kernel_rfl) (by simp) ?_;refine AllReady.cons rfl (fun K hK=>?_) AllReady.nil;go_simp;refine hK _ _ ?_;clear hK K;refine wpAny_ready (rs:=[21]) (by kernel_rfl) (by simp) ?_;refine AllReady.cons rfl (fun K hK=>?_) AllReady.nil;go_simp;refine hK _ _ ?_;clear hK K;refine wpAny_done (by kernel_rfl) ?_ _;go_wp2;go_ret;exact⟨by rw[HR.out];rfl,by first | exact HB | exact HB.drew⟩
 · have HR:Hid (ptB x y z=false):=by show _=_;unfold ptB;simp[hs]
   have hcs:cmpI z 0= -1∨cmpI z 0=0:=by
    rcases Int.lt_trichotomy z 0 with h | h | h
    · exact Or.inl (cmpI_lt h)
    · exact Or.inr (cmpI_eq h)
    · exact absurd h hs
   have q0:=X0.c 0 rfl;have q1:=X0.c 1 rfl;have q2:=X0.c 2 rfl;have q3:=X0.c 3 rfl;have q4:=X0.c 4 rfl;have q5:=X0.c 5 rfl;obtain⟨q,hq⟩:∃q,cmpI z 0=q:=⟨_,rfl⟩;rw[hq] at hcs;have hd1:decide (0<q)=false:=by rcases hcs with rfl | rfl<;>rfl
   clear hcs hs;refine wp_region_any (by kernel_rfl) ?_
   try (change wpAny _ _ _ _ _ _ _ (World.drew _))
   refine wpAny_ready (rs:=[0]) (by kernel_rfl) (by simp) ?_;refine AllReady.cons rfl (fun K hK=>?_) AllReady.nil;go_simp;refine hK _ _ ?_;clear hK K;refine wpAny_ready (rs:=[1]) (by kernel_rfl) (by simp) ?_;refine AllReady.cons rfl (fun K hK=>?_) AllReady.nil;go_simp;refine hK _ _ ?_;clear hK K;refine wpAny_ready (rs:=[2]) (by kernel_rfl) (by simp) ?_;refine AllReady.cons rfl (fun K hK=>?_) AllReady.nil;go_simp
   go_wp2_with (go_at_call 54;refine(sign_any s3 o3 n3 c3 d3 _ 8 _ N3).mono ?_;rintro e w2 ⟨rfl,hB⟩;rw[hq];(first | (replace X0:=X0.step hB;replace HB:=HB.trans (hB.mono HB.size)) | (replace X0:=X0.drew.step hB;replace HB:=HB.drew.trans (hB.mono HB.size)));clear hB;clear q0 q1 q2 q3 q4 q5 X0 N1 N2 N3)
   (try (refine hK _ _ ?_;clear hK K))
   refine wpAny_ready (rs:=[3]) (by kernel_rfl) (by simp) ?_;refine AllReady.cons rfl (fun K hK=>?_) AllReady.nil;go_simp;refine hK _ _ ?_;clear hK K;refine wpAny_ready (rs:=[4]) (by kernel_rfl) (by simp) ?_;refine AllReady.cons rfl (fun K hK=>?_) AllReady.nil;go_simp;refine hK _ _ ?_;clear hK K;refine wpAny_take (i:=5) (v:=undef) rfl (by kernel_rfl) (by kernel_rfl) (by kernel_rfl) (fun _ _ _ h=>h) (Or.inr ⟨by kernel_rfl,rfl⟩) ?_;refine wpAny_take (i:=6) (v:=undef) rfl (by kernel_rfl) (by kernel_rfl) (by kernel_rfl) (fun _ _ _ h=>h) (Or.inr ⟨by kernel_rfl,rfl⟩) ?_;refine wpAny_ready (rs:=[7]) (by kernel_rfl) (by simp) ?_;refine AllReady.cons rfl (fun K hK=>?_) AllReady.nil;go_simp;refine hK _ _ ?_;clear hK K;refine wpAny_ready (rs:=[8]) (by kernel_rfl) (by simp) ?_;refine AllReady.cons rfl (fun K hK=>?_) AllReady.nil;go_simp;refine hK _ _ ?_;clear hK K;refine wpAny_take (i:=9) (v:=undef) rfl (by kernel_rfl) (by kernel_rfl) (by kernel_rfl) (fun _ _ _ h=>h) (Or.inr ⟨by kernel_rfl,rfl⟩) ?_;refine wpAny_take (i:=10) (v:=undef) rfl (by kernel_rfl) (by kernel_rfl) (by kernel_rfl) (fun _ _ _ h=>h) (Or.inr ⟨by kernel_rfl,rfl⟩) ?_;refine wpAny_take (i:=11) (v:=undef) rfl (by kernel_rfl) (by kernel_rfl) (by kernel_rfl) (fun _ _ _ h=>h) (Or.inr ⟨by kernel_rfl,rfl⟩) ?_;refine wpAny_take (i:=12) (v:=undef) rfl (by kernel_rfl) (by kernel_rfl) (by kernel_rfl) (fun _ _ _ h=>h) (Or.inr ⟨by kernel_rfl,rfl⟩) ?_;refine wpAny_take (i:=13) (v:=undef) rfl (by kernel_rfl) (by kernel_rfl) (by kernel_rfl) (fun _ _ _ h=>h) (Or.inr ⟨by kernel_rfl,rfl⟩) ?_;refine wpAny_take (i:=14) (v:=undef) rfl (by kernel_rfl) (by kernel_rfl) (by kernel_rfl) (fun _ _ _ h=>h) (Or.inr ⟨by kernel_rfl,rfl⟩) ?_;refine wpAny_take (i:=15) (v:=undef) rfl (by kernel_rfl) (by kernel_rfl) (by kernel_rfl) (fun _ _ _ h=>h) (Or.inr ⟨by kernel_rfl,rfl⟩) ?_;refine wpAny_take (i:=16) (v:=undef) rfl (by kernel_rfl) (by kernel_rfl) (by kernel_rfl) (fun _ _ _ h=>h) (Or.inr ⟨by kernel_rfl,rfl⟩) ?_;refine wpAny_take (i:=17) (v:=undef) rfl (by kernel_rfl) (by kernel_rfl) (by kernel_rfl) (fun _ _ _ h=>h) (Or.inr ⟨by kernel_rfl,rfl⟩) ?_;refine wpAny_take (i:=18) (v:=undef) rfl (by kernel_rfl) (by kernel_rfl) (by kernel_rfl) (fun _ _ _ h=>h) (Or.inr ⟨by kernel_rfl,rfl⟩) ?_;refine wpAny_take (i:=19) (v:=undef) rfl (by kernel_rfl) (by kernel_rfl) (by kernel_rfl) (fun _ _ _ h=>h) (Or.inr ⟨by kernel_rfl,rfl⟩) ?_;refine wpAny_ready (rs:=[20]) (by kernel_rfl) (by simp) ?_;refine AllReady.cons rfl (fun K hK=>?_) AllReady.nil;go_simp;refine hK _ _ ?_;clear hK K;refine wpAny_ready (rs:=[21]) (by kernel_rfl) (by simp) ?_;refine AllReady.cons rfl (fun K hK=>?_) AllReady.nil;go_simp;refine hK _ _ ?_;clear hK K;refine wpAny_done (by kernel_rfl) ?_ _;go_wp2;go_ret;exact⟨by rw[HR.out];rfl,by first | exact HB | exact HB.drew⟩
end Go.Proofs.YtbogliojkabbjaaGreat
namespace Go.Proofs.YtbogliojkabbjaaGreat
open Go.RowKit
theorem eqW4 (a3 a2 a1 a0 b3 b2 b1 b0:Int) (w:World):(Op.equalIn 9999 27 (.agg #[.int .u64 a3,.int .u64 a2,.int .u64 a1,.int .u64 a0]) (.agg #[.int .u64 b3,.int .u64 b2,.int .u64 b1,.int .u64 b0])).run Tryz.prog w= .ok (a3==b3&&a2==b2&&a1==b1&&a0==b0) w:=by
 have u3:=Tryz.underlying25;have a3' :=Tryz.isAgg25;have z3:=Tryz.sizeOf25;rw[show(9999:Nat)=9998+1 from rfl,Op.equalIn];simp only[Sem.run_bind,run_underlying Tryz.underlying27,Result.andThen_ok];go_simp
 by_cases h3:a3=b3
 · subst h3
   by_cases h2:a2=b2
   · subst h2
     by_cases h1:a1=b1
     · subst h1
       by_cases h0:a0=b0
       · subst h0
         simp
       · simp[h0]
     · simp[h1]
   · simp[h2]
 · simp[h3]
theorem eqWW (x u:Int) (hx:told x=true) (hu:told u=true) (w:World):(Op.equalIn 9999 27 (W4 x) (W4 u)).run Tryz.prog w= .ok (decide (x=u)) w:=by
 rw[eqW4]
 congr 1
 rw[Bool.eq_iff_iff];simp only[Bool.and_eq_true,beq_iff_eq,decide_eq_true_eq]
 constructor
 · rintro⟨⟨⟨e3,e2⟩,e1⟩,e0⟩;rw[←ww_sw hx,←ww_sw hu,e3,e2,e1,e0]
 · rintro rfl;exact⟨⟨⟨rfl,rfl⟩,rfl⟩,rfl⟩
theorem eqPV (x y z u v t:Int) (hx:told x=true) (hy:told y=true) (hz:told z=true) (hu:told u=true) (hv:told v=true) (ht:told t=true) (w:World):(Op.equalIn 10000 29 (PV x y z) (PV u v t)).run Tryz.prog w= .ok (decide (x=u)&&decide (y=v)&&decide (z=t)) w:=by
 have E1:=eqWW x u hx hu;have E2:=eqWW y v hy hv;have E3:=eqWW z t hz ht;have u3:=Tryz.underlying27;have a3:=Tryz.isAgg27;have z3:=Tryz.sizeOf27;rw[show(10000:Nat)=9999+1 from rfl,Op.equalIn];simp only[Sem.run_bind,run_underlying Tryz.underlying29,Result.andThen_ok];go_simp
 by_cases h1:x=u
 · by_cases h2:y=v
   · by_cases h3:z=t
     · simp[h1,h2,h3]
     · simp[h1,h2,h3]
   · simp[h1,h2]
 · simp[h1]
theorem sm_lt {a:Int} (h:small a=true):(a.natAbs:Int)≤1208925819614629174706176:=by
 unfold small at h;rw[decide_eq_true_iff] at h
 omega
theorem abs_mul {a b:Int} {m n:Nat} (ha:a.natAbs≤m) (hb:b.natAbs≤n):(a*b).natAbs≤m*n:=by
 rw[Int.natAbs_mul];exact Nat.mul_le_mul ha hb
theorem sm_prod {a b:Int} (ha:small a=true) (hb:small b=true):(a*b).natAbs≤1461501637330902918203684832716283019655932542976:=by
 have:=abs_mul (show a.natAbs≤1208925819614629174706176 by have:=sm_lt ha;omega) (show b.natAbs≤1208925819614629174706176 by have:=sm_lt hb;omega)
 omega
theorem lr_abs {a:Int} (h:a.natAbs≤3273390607896141870013189696827599152216642046043064789483291368096133796404674554883270092325904157150886684127560071009217256545885393053328527589376):LR a:=by
 unfold LR
 omega
theorem told_of {a:Int} (h:a.natAbs≤1809251394333065553493296640760748560207343510400633813116524750123642650624):told a=true:=by
 unfold told
 apply decide_eq_true
 omega
theorem cmp_sub (a b:Int):cmpI (a-b) 0=cmpI a b:=by
 rcases Int.lt_trichotomy a b with h | h | h
 · rw[cmpI_lt h,cmpI_lt (by omega)]
 · rw[cmpI_eq h,cmpI_eq (by omega)]
 · rw[cmpI_gt h,cmpI_gt (by omega)]
theorem minor_sm (a b c d:Int) (ha:small a=true) (hb:small b=true) (hc:small c=true) (hd:small d=true) (w:World):Calls Tryz.prog 84 #[W4 a,W4 b,W4 c,W4 d] w (VP (W4 (a*d-b*c)) w):=by
 have h1:=sm_prod ha hd;have h2:=sm_prod hb hc;exact minor_det a b c d (told_small ha) (told_small hb) (told_small hc) (told_small hd) (lr_abs (by omega)) (lr_abs (by omega)) (told_of (by omega)) w
theorem minor_abs {a b c d:Int} (ha:small a=true) (hb:small b=true) (hc:small c=true) (hd:small d=true):(a*d-b*c).natAbs≤2923003274661805836407369665432566039311865085952:=by
 have h1:=sm_prod ha hd;have h2:=sm_prod hb hc
 omega
theorem byX_det (x y z u v t:Int) (sx:small x=true) (sz:small z=true) (su:small u=true) (st:small t=true) (w:World):Calls Tryz.prog 62 #[PV x y z,PV u v t] w (VP (.int .i64 (cmpI (x*t) (u*z))) w):=by
 have T0:ArgsB w ((w.alloc (.cells #[.int .u64 (ww3 x),.int .u64 (ww2 x),.int .u64 (ww1 x),.int .u64 (ww0 x),.int .u64 (ww3 y),.int .u64 (ww2 y),.int .u64 (ww1 y),.int .u64 (ww0 y),.int .u64 (ww3 z),.int .u64 (ww2 z),.int .u64 (ww1 z),.int .u64 (ww0 z)] 29)).alloc (.cells #[.int .u64 (ww3 u),.int .u64 (ww2 u),.int .u64 (ww1 u),.int .u64 (ww0 u),.int .u64 (ww3 v),.int .u64 (ww2 v),.int .u64 (ww1 v),.int .u64 (ww0 v),.int .u64 (ww3 t),.int .u64 (ww2 t),.int .u64 (ww1 t),.int .u64 (ww0 t)] 29)) [[.int .u64 (ww3 x),.int .u64 (ww2 x),.int .u64 (ww1 x),.int .u64 (ww0 x),.int .u64 (ww3 y),.int .u64 (ww2 y),.int .u64 (ww1 y),.int .u64 (ww0 y),.int .u64 (ww3 z),.int .u64 (ww2 z),.int .u64 (ww1 z),.int .u64 (ww0 z)],[.int .u64 (ww3 u),.int .u64 (ww2 u),.int .u64 (ww1 u),.int .u64 (ww0 u),.int .u64 (ww3 v),.int .u64 (ww2 v),.int .u64 (ww1 v),.int .u64 (ww0 v),.int .u64 (ww3 t),.int .u64 (ww2 t),.int .u64 (ww1 t),.int .u64 (ww0 t)]]:=ar2 _ _ _ _ w;have C1:=minor_sm x z u t sx sz su st;have C2:=sign_det (x*t-z*u) (told_of (by have:=minor_abs sx sz su st;omega));rw[cmp_sub,Int.mul_comm z u] at C2;rw[Int.mul_comm z u] at C1;clear sx su sz st
 go_enter Tryz.func62,Tryz.ntmps62
 go_wp2_with fail;refine(C1 _).mono ?_;rintro e w1 ⟨rfl,hB⟩;replace T0:=T0.step hB;clear hB;go_wp2_with fail;refine(C2 _).mono ?_;rintro e w2 ⟨rfl,hB⟩;have HB:=(T0.step hB).below;clear hB T0 C1 C2;go_wp2;go_ret;exact⟨rfl,HB⟩
theorem byY_det (x y z u v t:Int) (sy:small y=true) (sz:small z=true) (sv:small v=true) (st:small t=true) (w:World):Calls Tryz.prog 63 #[PV x y z,PV u v t] w (VP (.int .i64 (cmpI (y*t) (v*z))) w):=by
 have T0:ArgsB w ((w.alloc (.cells #[.int .u64 (ww3 x),.int .u64 (ww2 x),.int .u64 (ww1 x),.int .u64 (ww0 x),.int .u64 (ww3 y),.int .u64 (ww2 y),.int .u64 (ww1 y),.int .u64 (ww0 y),.int .u64 (ww3 z),.int .u64 (ww2 z),.int .u64 (ww1 z),.int .u64 (ww0 z)] 29)).alloc (.cells #[.int .u64 (ww3 u),.int .u64 (ww2 u),.int .u64 (ww1 u),.int .u64 (ww0 u),.int .u64 (ww3 v),.int .u64 (ww2 v),.int .u64 (ww1 v),.int .u64 (ww0 v),.int .u64 (ww3 t),.int .u64 (ww2 t),.int .u64 (ww1 t),.int .u64 (ww0 t)] 29)) [[.int .u64 (ww3 x),.int .u64 (ww2 x),.int .u64 (ww1 x),.int .u64 (ww0 x),.int .u64 (ww3 y),.int .u64 (ww2 y),.int .u64 (ww1 y),.int .u64 (ww0 y),.int .u64 (ww3 z),.int .u64 (ww2 z),.int .u64 (ww1 z),.int .u64 (ww0 z)],[.int .u64 (ww3 u),.int .u64 (ww2 u),.int .u64 (ww1 u),.int .u64 (ww0 u),.int .u64 (ww3 v),.int .u64 (ww2 v),.int .u64 (ww1 v),.int .u64 (ww0 v),.int .u64 (ww3 t),.int .u64 (ww2 t),.int .u64 (ww1 t),.int .u64 (ww0 t)]]:=ar2 _ _ _ _ w;have C1:=minor_sm y z v t sy sz sv st;have C2:=sign_det (y*t-z*v) (told_of (by have:=minor_abs sy sz sv st;omega));rw[cmp_sub,Int.mul_comm z v] at C2;rw[Int.mul_comm z v] at C1;clear sy sv sz st
 go_enter Tryz.func63,Tryz.ntmps63
 go_wp2_with fail;refine(C1 _).mono ?_;rintro e w1 ⟨rfl,hB⟩;replace T0:=T0.step hB;clear hB;go_wp2_with fail;refine(C2 _).mono ?_;rintro e w2 ⟨rfl,hB⟩;have HB:=(T0.step hB).below;clear hB T0 C1 C2;go_wp2;go_ret;exact⟨rfl,HB⟩
def ordI (x y z u v t:Int):Int:=if cmpI (x*t) (u*z)=0 then cmpI (y*t) (v*z) else cmpI (x*t) (u*z)
theorem order_det (x y z u v t:Int) (sx:small x=true) (sy:small y=true) (sz:small z=true) (su:small u=true) (sv:small v=true) (st:small t=true) (w:World):Calls Tryz.prog 35 #[PV x y z,PV u v t] w (VP (.int .i64 (ordI x y z u v t)) w):=by
 have T0:ArgsB w ((w.alloc (.cells #[.int .u64 (ww3 x),.int .u64 (ww2 x),.int .u64 (ww1 x),.int .u64 (ww0 x),.int .u64 (ww3 y),.int .u64 (ww2 y),.int .u64 (ww1 y),.int .u64 (ww0 y),.int .u64 (ww3 z),.int .u64 (ww2 z),.int .u64 (ww1 z),.int .u64 (ww0 z)] 29)).alloc (.cells #[.int .u64 (ww3 u),.int .u64 (ww2 u),.int .u64 (ww1 u),.int .u64 (ww0 u),.int .u64 (ww3 v),.int .u64 (ww2 v),.int .u64 (ww1 v),.int .u64 (ww0 v),.int .u64 (ww3 t),.int .u64 (ww2 t),.int .u64 (ww1 t),.int .u64 (ww0 t)] 29)) [[.int .u64 (ww3 x),.int .u64 (ww2 x),.int .u64 (ww1 x),.int .u64 (ww0 x),.int .u64 (ww3 y),.int .u64 (ww2 y),.int .u64 (ww1 y),.int .u64 (ww0 y),.int .u64 (ww3 z),.int .u64 (ww2 z),.int .u64 (ww1 z),.int .u64 (ww0 z)],[.int .u64 (ww3 u),.int .u64 (ww2 u),.int .u64 (ww1 u),.int .u64 (ww0 u),.int .u64 (ww3 v),.int .u64 (ww2 v),.int .u64 (ww1 v),.int .u64 (ww0 v),.int .u64 (ww3 t),.int .u64 (ww2 t),.int .u64 (ww1 t),.int .u64 (ww0 t)]]:=ar2 _ _ _ _ w;have EQ:=eqPV x y z u v t (told_small sx) (told_small sy) (told_small sz) (told_small su) (told_small sv) (told_small st);have C1:=byX_det x y z u v t sx sz su st;have C2:=byY_det x y z u v t sy sz sv st;obtain⟨B,hB0⟩:∃B,(decide (x=u)&&decide (y=v)&&decide (z=t))=B:=⟨_,rfl⟩;simp only[hB0] at EQ;clear sx sy sz su sv st
 go_enter Tryz.func35,Tryz.ntmps35
 cases B
 · have HO:Hid (ordI x y z u v t=if cmpI (x*t) (u*z)=0 then cmpI (y*t) (v*z) else cmpI (x*t) (u*z)):=rfl;clear hB0;generalize cmpI (x*t) (u*z)=a at *;generalize cmpI (y*t) (v*z)=b at *;go_wp2_with fail;refine(C1 _).mono ?_;rintro e w1 ⟨rfl,hB⟩;replace T0:=T0.step hB;clear hB
   by_cases ha:a=0
   · subst ha;have X0:Blk _ w.heap.size _:=T0.b 0 rfl;have Y0:Blk _ (w.heap.size+1) _:=T0.b 1 rfl;have p0:=X0.c 0 rfl;have q0:=Y0.c 0 rfl;have p1:=X0.c 1 rfl;have q1:=Y0.c 1 rfl;have p2:=X0.c 2 rfl;have q2:=Y0.c 2 rfl;have p3:=X0.c 3 rfl;have q3:=Y0.c 3 rfl;have p4:=X0.c 4 rfl;have q4:=Y0.c 4 rfl;have p5:=X0.c 5 rfl;have q5:=Y0.c 5 rfl;have p6:=X0.c 6 rfl;have q6:=Y0.c 6 rfl;have p7:=X0.c 7 rfl;have q7:=Y0.c 7 rfl;have p8:=X0.c 8 rfl;have q8:=Y0.c 8 rfl;have p9:=X0.c 9 rfl;have q9:=Y0.c 9 rfl;have p10:=X0.c 10 rfl;have q10:=Y0.c 10 rfl;have p11:=X0.c 11 rfl;have q11:=Y0.c 11 rfl;clear X0 Y0;go_wp2_with fail;refine(C2 _).mono ?_;rintro e w2 ⟨rfl,hB⟩;have HB:=(T0.step hB).below;clear hB T0 C1 C2 EQ p0 q0 p1 q1 p2 q2 p3 q3 p4 q4 p5 q5 p6 q6 p7 q7 p8 q8 p9 q9 p10 q10 p11 q11;go_wp2;go_ret;exact⟨by rw[HO.out];rfl,HB⟩
   · have ha' :(a==0)=false:=beq_eq_false_iff_ne.2 ha;have HB:=T0.below;clear T0 C1 C2 EQ;go_wp2;go_ret;exact⟨by rw[HO.out,if_neg ha];rfl,HB⟩
 · have HO:Hid (ordI x y z u v t=0):=by
    show _=_;simp only[Bool.and_eq_true,decide_eq_true_eq] at hB0;obtain⟨⟨rfl,rfl⟩,rfl⟩:=hB0;unfold ordI;rw[cmpI_eq rfl,if_pos rfl,cmpI_eq rfl]
   have HB:=T0.below;clear hB0 C1 C2;have X0:Blk _ w.heap.size _:=T0.b 0 rfl;have Y0:Blk _ (w.heap.size+1) _:=T0.b 1 rfl;have p0:=X0.c 0 rfl;have q0:=Y0.c 0 rfl;have p1:=X0.c 1 rfl;have q1:=Y0.c 1 rfl;have p2:=X0.c 2 rfl;have q2:=Y0.c 2 rfl;have p3:=X0.c 3 rfl;have q3:=Y0.c 3 rfl;have p4:=X0.c 4 rfl;have q4:=Y0.c 4 rfl;have p5:=X0.c 5 rfl;have q5:=Y0.c 5 rfl;have p6:=X0.c 6 rfl;have q6:=Y0.c 6 rfl;have p7:=X0.c 7 rfl;have q7:=Y0.c 7 rfl;have p8:=X0.c 8 rfl;have q8:=Y0.c 8 rfl;have p9:=X0.c 9 rfl;have q9:=Y0.c 9 rfl;have p10:=X0.c 10 rfl;have q10:=Y0.c 10 rfl;have p11:=X0.c 11 rfl;have q11:=Y0.c 11 rfl;clear X0 Y0;clear T0;go_wp2;go_ret;exact⟨by rw[HO.out];rfl,HB⟩
def ptCmp (x y z u v t:Int):Int:=if ptB x y z&&ptB u v t then ordI x y z u v t else 0
theorem ptB_small {x y z:Int} (h:ptB x y z=true):0<z∧small x=true∧small y=true∧small z=true:=by
 unfold ptB at h;simp only[Bool.and_eq_true,decide_eq_true_eq] at h;exact⟨h.1.1,h.1.2.1.1,h.1.2.1.2,h.1.2.2⟩
theorem implPointCmp_det (x y z u v t:Int) (hx:told x=true) (hy:told y=true) (hz:told z=true) (hu:told u=true) (hv:told v=true) (ht:told t=true) (w:World):Calls Tryz.prog 11 #[PV x y z,PV u v t] w (VP (.int .i64 (ptCmp x y z u v t)) w):=by
 have T0:ArgsB w ((w.alloc (.cells #[.int .u64 (ww3 x),.int .u64 (ww2 x),.int .u64 (ww1 x),.int .u64 (ww0 x),.int .u64 (ww3 y),.int .u64 (ww2 y),.int .u64 (ww1 y),.int .u64 (ww0 y),.int .u64 (ww3 z),.int .u64 (ww2 z),.int .u64 (ww1 z),.int .u64 (ww0 z)] 29)).alloc (.cells #[.int .u64 (ww3 u),.int .u64 (ww2 u),.int .u64 (ww1 u),.int .u64 (ww0 u),.int .u64 (ww3 v),.int .u64 (ww2 v),.int .u64 (ww1 v),.int .u64 (ww0 v),.int .u64 (ww3 t),.int .u64 (ww2 t),.int .u64 (ww1 t),.int .u64 (ww0 t)] 29)) [[.int .u64 (ww3 x),.int .u64 (ww2 x),.int .u64 (ww1 x),.int .u64 (ww0 x),.int .u64 (ww3 y),.int .u64 (ww2 y),.int .u64 (ww1 y),.int .u64 (ww0 y),.int .u64 (ww3 z),.int .u64 (ww2 z),.int .u64 (ww1 z),.int .u64 (ww0 z)],[.int .u64 (ww3 u),.int .u64 (ww2 u),.int .u64 (ww1 u),.int .u64 (ww0 u),.int .u64 (ww3 v),.int .u64 (ww2 v),.int .u64 (ww1 v),.int .u64 (ww0 v),.int .u64 (ww3 t),.int .u64 (ww2 t),.int .u64 (ww1 t),.int .u64 (ww0 t)]]:=ar2 _ _ _ _ w;have R1:=pright_det x y z hx hy hz;have R2:=pright_det u v t hu hv ht;clear hx hy hz hu hv ht
 go_enter Tryz.func11,Tryz.ntmps11
 go_wp2_with fail;refine(R1 _).mono ?_;rintro e w1 ⟨rfl,hB⟩;replace T0:=T0.step hB;clear hB
 by_cases h1:ptB x y z=true
 · rw[h1];have X0:Blk _ w.heap.size _:=T0.b 0 rfl;have Y0:Blk _ (w.heap.size+1) _:=T0.b 1 rfl;have p0:=X0.c 0 rfl;have q0:=Y0.c 0 rfl;have p1:=X0.c 1 rfl;have q1:=Y0.c 1 rfl;have p2:=X0.c 2 rfl;have q2:=Y0.c 2 rfl;have p3:=X0.c 3 rfl;have q3:=Y0.c 3 rfl;have p4:=X0.c 4 rfl;have q4:=Y0.c 4 rfl;have p5:=X0.c 5 rfl;have q5:=Y0.c 5 rfl;have p6:=X0.c 6 rfl;have q6:=Y0.c 6 rfl;have p7:=X0.c 7 rfl;have q7:=Y0.c 7 rfl;have p8:=X0.c 8 rfl;have q8:=Y0.c 8 rfl;have p9:=X0.c 9 rfl;have q9:=Y0.c 9 rfl;have p10:=X0.c 10 rfl;have q10:=Y0.c 10 rfl;have p11:=X0.c 11 rfl;have q11:=Y0.c 11 rfl;clear X0 Y0;go_wp2_with fail;refine(R2 _).mono ?_;rintro e w2 ⟨rfl,hB⟩;replace T0:=T0.step hB;clear hB p0 q0 p1 q1 p2 q2 p3 q3 p4 q4 p5 q5 p6 q6 p7 q7 p8 q8 p9 q9 p10 q10 p11 q11
   by_cases h2:ptB u v t=true
   · rw[h2];have HO:Hid (ptCmp x y z u v t=ordI x y z u v t):=by show _=_;unfold ptCmp;rw[h1,h2];rfl
     obtain⟨-,sx,sy,sz⟩:=ptB_small h1;obtain⟨-,su,sv,st⟩:=ptB_small h2;have C:=order_det x y z u v t sx sy sz su sv st;clear h1 h2 R1 R2 sx sy sz su sv st;generalize ordI x y z u v t=o at *;have X0:Blk _ w.heap.size _:=T0.b 0 rfl;have Y0:Blk _ (w.heap.size+1) _:=T0.b 1 rfl;have p0:=X0.c 0 rfl;have q0:=Y0.c 0 rfl;have p1:=X0.c 1 rfl;have q1:=Y0.c 1 rfl;have p2:=X0.c 2 rfl;have q2:=Y0.c 2 rfl;have p3:=X0.c 3 rfl;have q3:=Y0.c 3 rfl;have p4:=X0.c 4 rfl;have q4:=Y0.c 4 rfl;have p5:=X0.c 5 rfl;have q5:=Y0.c 5 rfl;have p6:=X0.c 6 rfl;have q6:=Y0.c 6 rfl;have p7:=X0.c 7 rfl;have q7:=Y0.c 7 rfl;have p8:=X0.c 8 rfl;have q8:=Y0.c 8 rfl;have p9:=X0.c 9 rfl;have q9:=Y0.c 9 rfl;have p10:=X0.c 10 rfl;have q10:=Y0.c 10 rfl;have p11:=X0.c 11 rfl;have q11:=Y0.c 11 rfl;clear X0 Y0;go_wp2_with fail;refine(C _).mono ?_;rintro e w3 ⟨rfl,hB⟩;have HB:=(T0.step hB).below;clear hB T0 C p0 q0 p1 q1 p2 q2 p3 q3 p4 q4 p5 q5 p6 q6 p7 q7 p8 q8 p9 q9 p10 q10 p11 q11;go_wp2;go_ret;exact⟨by rw[HO.out];rfl,HB⟩
   · replace h2:=Bool.eq_false_iff.2 h2;rw[h2];have HO:Hid (ptCmp x y z u v t=0):=by show _=_;unfold ptCmp;rw[h2];simp
     have HB:=T0.below;clear T0 h1 h2 R1 R2;go_wp2;go_ret;exact⟨by rw[HO.out];rfl,HB⟩
 · replace h1:=Bool.eq_false_iff.2 h1;rw[h1];have HO:Hid (ptCmp x y z u v t=0):=by show _=_;unfold ptCmp;rw[h1];simp
   have HB:=T0.below;clear T0 h1 R1 R2;go_wp2;go_ret;exact⟨by rw[HO.out];rfl,HB⟩
theorem m2_cells {ps1 ps2 ps3:Bool} {po1 po2 po3:Option Addr} {pn1 pc1 pn2 pc2 pn3 pc3:Nat} {qs1 qs2 qs3:Bool} {qo1 qo2 qo3:Option Addr} {qn1 qc1 qn2 qc2 qn3 qc3:Nat} {w W:World} (T0:ArgsB w W [[.bool ps1,.slice po1 pn1 pc1,.bool ps2,.slice po2 pn2 pc2,.bool ps3,.slice po3 pn3 pc3],[.bool qs1,.slice qo1 qn1 qc1,.bool qs2,.slice qo2 qn2 qc2,.bool qs3,.slice qo3 qn3 qc3]]):(fun w' =>w'.cell? ⟨w.heap.size,0,none⟩=some (.bool ps1)∧w'.cell? ⟨w.heap.size,1,none⟩=some (.slice po1 pn1 pc1)∧w'.cell? ⟨w.heap.size,2,none⟩=some (.bool ps2)∧w'.cell? ⟨w.heap.size,3,none⟩=some (.slice po2 pn2 pc2)∧w'.cell? ⟨w.heap.size,4,none⟩=some (.bool ps3)∧w'.cell? ⟨w.heap.size,5,none⟩=some (.slice po3 pn3 pc3)∧w'.cell? ⟨w.heap.size+1,0,none⟩=some (.bool qs1)∧w'.cell? ⟨w.heap.size+1,1,none⟩=some (.slice qo1 qn1 qc1)∧w'.cell? ⟨w.heap.size+1,2,none⟩=some (.bool qs2)∧w'.cell? ⟨w.heap.size+1,3,none⟩=some (.slice qo2 qn2 qc2)∧w'.cell? ⟨w.heap.size+1,4,none⟩=some (.bool qs3)∧w'.cell? ⟨w.heap.size+1,5,none⟩=some (.slice qo3 qn3 qc3)) W:=⟨(T0.b 0 rfl).c 0 rfl,(T0.b 0 rfl).c 1 rfl,(T0.b 0 rfl).c 2 rfl,(T0.b 0 rfl).c 3 rfl,(T0.b 0 rfl).c 4 rfl,(T0.b 0 rfl).c 5 rfl,(T0.b 1 rfl).c 0 rfl,(T0.b 1 rfl).c 1 rfl,(T0.b 1 rfl).c 2 rfl,(T0.b 1 rfl).c 3 rfl,(T0.b 1 rfl).c 4 rfl,(T0.b 1 rfl).c 5 rfl⟩
theorem l3CmpX_any (ps1 ps2 ps3:Bool) (po1 po2 po3:Option Addr) (pn1 pc1 pn2 pc2 pn3 pc3:Nat) (qs1 qs2 qs3:Bool) (qo1 qo2 qo3:Option Addr) (qn1 qc1 qn2 qc2 qn3 qc3:Nat) (pd1 pd3 qd1 qd3:List Int) (x z u t:Int) (k:Nat) (hk:k≤1000) (w:World) (Np1:IsNum w ps1 po1 pn1 pc1 pd1 x k) (Np3:IsNum w ps3 po3 pn3 pc3 pd3 z k) (Nq1:IsNum w qs1 qo1 qn1 qc1 qd1 u k) (Nq3:IsNum w qs3 qo3 qn3 qc3 qd3 t k):Calls Tryz.prog 59 #[.agg #[.bool ps1,.slice po1 pn1 pc1,.bool ps2,.slice po2 pn2 pc2,.bool ps3,.slice po3 pn3 pc3],.agg #[.bool qs1,.slice qo1 qn1 qc1,.bool qs2,.slice qo2 qn2 qc2,.bool qs3,.slice qo3 qn3 qc3]] w (VP (.int .i64 (cmpI (x*t) (u*z))) w):=by
 have T0:ArgsB w ((w.alloc (.cells #[.bool ps1,.slice po1 pn1 pc1,.bool ps2,.slice po2 pn2 pc2,.bool ps3,.slice po3 pn3 pc3] 66)).alloc (.cells #[.bool qs1,.slice qo1 qn1 qc1,.bool qs2,.slice qo2 qn2 qc2,.bool qs3,.slice qo3 qn3 qc3] 66)) [[.bool ps1,.slice po1 pn1 pc1,.bool ps2,.slice po2 pn2 pc2,.bool ps3,.slice po3 pn3 pc3],[.bool qs1,.slice qo1 qn1 qc1,.bool qs2,.slice qo2 qn2 qc2,.bool qs3,.slice qo3 qn3 qc3]]:=ar2 _ _ _ _ w;replace Np1:=(Np1.below T0.below).drew;replace Np3:=(Np3.below T0.below).drew;replace Nq1:=(Nq1.below T0.below).drew;replace Nq3:=(Nq3.below T0.below).drew;have tok1:True:=trivial
 go_enter Tryz.func59,Tryz.ntmps59
 go_upto_region 1 with fail;generalize ((w.alloc (.cells #[.bool ps1,.slice po1 pn1 pc1,.bool ps2,.slice po2 pn2 pc2,.bool ps3,.slice po3 pn3 pc3] 66)).alloc (.cells #[.bool qs1,.slice qo1 qn1 qc1,.bool qs2,.slice qo2 qn2 qc2,.bool qs3,.slice qo3 qn3 qc3] 66))=W at *
 go_region_held3 (fun w' =>w'.cell? ⟨w.heap.size,0,none⟩=some (.bool ps1)∧w'.cell? ⟨w.heap.size,1,none⟩=some (.slice po1 pn1 pc1)∧w'.cell? ⟨w.heap.size,2,none⟩=some (.bool ps2)∧w'.cell? ⟨w.heap.size,3,none⟩=some (.slice po2 pn2 pc2)∧w'.cell? ⟨w.heap.size,4,none⟩=some (.bool ps3)∧w'.cell? ⟨w.heap.size,5,none⟩=some (.slice po3 pn3 pc3)∧w'.cell? ⟨w.heap.size+1,0,none⟩=some (.bool qs1)∧w'.cell? ⟨w.heap.size+1,1,none⟩=some (.slice qo1 qn1 qc1)∧w'.cell? ⟨w.heap.size+1,2,none⟩=some (.bool qs2)∧w'.cell? ⟨w.heap.size+1,3,none⟩=some (.slice qo2 qn2 qc2)∧w'.cell? ⟨w.heap.size+1,4,none⟩=some (.bool qs3)∧w'.cell? ⟨w.heap.size+1,5,none⟩=some (.slice qo3 qn3 qc3)) (first | (with_reducible exact m2_cells T0) | (with_reducible exact m2_cells T0.drew))
  (first
   | (go_at_call 70;have _t:=tok1;refine(mul_any ps1 qs3 po1 qo3 pn1 qn3 pc1 qc3 (k) pd1 qd3 _ _ _ Np1 Nq3 (by omega)).mono ?_;rintro e w1 ⟨fs,fo,fn,fc,fd,rfl,Nf,hB⟩;(first | (have T1:=T0.step hB) | (have T1:=T0.drew.step hB));clear T0;have T0:=T1;clear T1;replace Np3:=Np3.below hB;replace Nq1:=Nq1.below hB;clear hB tok1 _t)
   | (go_at_call 70;refine(mul_any qs1 ps3 qo1 po3 qn1 pn3 qc1 pc3 (k) qd1 pd3 _ _ _ Nq1 Np3 (by omega)).mono ?_;rintro e w2 ⟨gs,go,gn,gc,gd,rfl,Ng,hB⟩;(first | (have T1:=T0.step hB) | (have T1:=T0.drew.step hB));clear T0;have T0:=T1;clear T1;replace Nf:=Nf.below hB;clear hB)
   | (go_at_call 56;refine(cmp_any fs gs fo go fn gn fc gc (k+k) fd gd _ _ _ Nf Ng (by omega)).mono ?_;rintro e w3 ⟨rfl,hB⟩;(first | (have T1:=T0.step hB) | (have T1:=T0.drew.step hB));clear T0;have T0:=T1;clear T1;clear hB))
 all_goals have HB:=T0.below
 all_goals clear T0
 all_goals go_wp2
 all_goals go_ret
 all_goals exact⟨rfl,by first | exact HB | exact HB.drew⟩
theorem l3CmpY_any (ps1 ps2 ps3:Bool) (po1 po2 po3:Option Addr) (pn1 pc1 pn2 pc2 pn3 pc3:Nat) (qs1 qs2 qs3:Bool) (qo1 qo2 qo3:Option Addr) (qn1 qc1 qn2 qc2 qn3 qc3:Nat) (pd2 pd3 qd2 qd3:List Int) (y z v t:Int) (k:Nat) (hk:k≤1000) (w:World) (Np2:IsNum w ps2 po2 pn2 pc2 pd2 y k) (Np3:IsNum w ps3 po3 pn3 pc3 pd3 z k) (Nq2:IsNum w qs2 qo2 qn2 qc2 qd2 v k) (Nq3:IsNum w qs3 qo3 qn3 qc3 qd3 t k):Calls Tryz.prog 60 #[.agg #[.bool ps1,.slice po1 pn1 pc1,.bool ps2,.slice po2 pn2 pc2,.bool ps3,.slice po3 pn3 pc3],.agg #[.bool qs1,.slice qo1 qn1 qc1,.bool qs2,.slice qo2 qn2 qc2,.bool qs3,.slice qo3 qn3 qc3]] w (VP (.int .i64 (cmpI (y*t) (v*z))) w):=by
 have T0:ArgsB w ((w.alloc (.cells #[.bool ps1,.slice po1 pn1 pc1,.bool ps2,.slice po2 pn2 pc2,.bool ps3,.slice po3 pn3 pc3] 66)).alloc (.cells #[.bool qs1,.slice qo1 qn1 qc1,.bool qs2,.slice qo2 qn2 qc2,.bool qs3,.slice qo3 qn3 qc3] 66)) [[.bool ps1,.slice po1 pn1 pc1,.bool ps2,.slice po2 pn2 pc2,.bool ps3,.slice po3 pn3 pc3],[.bool qs1,.slice qo1 qn1 qc1,.bool qs2,.slice qo2 qn2 qc2,.bool qs3,.slice qo3 qn3 qc3]]:=ar2 _ _ _ _ w;replace Np2:=(Np2.below T0.below).drew;replace Np3:=(Np3.below T0.below).drew;replace Nq2:=(Nq2.below T0.below).drew;replace Nq3:=(Nq3.below T0.below).drew;have tok1:True:=trivial
 go_enter Tryz.func60,Tryz.ntmps60
 go_upto_region 1 with fail;generalize ((w.alloc (.cells #[.bool ps1,.slice po1 pn1 pc1,.bool ps2,.slice po2 pn2 pc2,.bool ps3,.slice po3 pn3 pc3] 66)).alloc (.cells #[.bool qs1,.slice qo1 qn1 qc1,.bool qs2,.slice qo2 qn2 qc2,.bool qs3,.slice qo3 qn3 qc3] 66))=W at *
 go_region_held3 (fun w' =>w'.cell? ⟨w.heap.size,0,none⟩=some (.bool ps1)∧w'.cell? ⟨w.heap.size,1,none⟩=some (.slice po1 pn1 pc1)∧w'.cell? ⟨w.heap.size,2,none⟩=some (.bool ps2)∧w'.cell? ⟨w.heap.size,3,none⟩=some (.slice po2 pn2 pc2)∧w'.cell? ⟨w.heap.size,4,none⟩=some (.bool ps3)∧w'.cell? ⟨w.heap.size,5,none⟩=some (.slice po3 pn3 pc3)∧w'.cell? ⟨w.heap.size+1,0,none⟩=some (.bool qs1)∧w'.cell? ⟨w.heap.size+1,1,none⟩=some (.slice qo1 qn1 qc1)∧w'.cell? ⟨w.heap.size+1,2,none⟩=some (.bool qs2)∧w'.cell? ⟨w.heap.size+1,3,none⟩=some (.slice qo2 qn2 qc2)∧w'.cell? ⟨w.heap.size+1,4,none⟩=some (.bool qs3)∧w'.cell? ⟨w.heap.size+1,5,none⟩=some (.slice qo3 qn3 qc3)) (first | (with_reducible exact m2_cells T0) | (with_reducible exact m2_cells T0.drew))
  (first
   | (go_at_call 70;have _t:=tok1;refine(mul_any ps2 qs3 po2 qo3 pn2 qn3 pc2 qc3 (k) pd2 qd3 _ _ _ Np2 Nq3 (by omega)).mono ?_;rintro e w1 ⟨fs,fo,fn,fc,fd,rfl,Nf,hB⟩;(first | (have T1:=T0.step hB) | (have T1:=T0.drew.step hB));clear T0;have T0:=T1;clear T1;replace Np3:=Np3.below hB;replace Nq2:=Nq2.below hB;clear hB tok1 _t)
   | (go_at_call 70;refine(mul_any qs2 ps3 qo2 po3 qn2 pn3 qc2 pc3 (k) qd2 pd3 _ _ _ Nq2 Np3 (by omega)).mono ?_;rintro e w2 ⟨gs,go,gn,gc,gd,rfl,Ng,hB⟩;(first | (have T1:=T0.step hB) | (have T1:=T0.drew.step hB));clear T0;have T0:=T1;clear T1;replace Nf:=Nf.below hB;clear hB)
   | (go_at_call 56;refine(cmp_any fs gs fo go fn gn fc gc (k+k) fd gd _ _ _ Nf Ng (by omega)).mono ?_;rintro e w3 ⟨rfl,hB⟩;(first | (have T1:=T0.step hB) | (have T1:=T0.drew.step hB));clear T0;have T0:=T1;clear T1;clear hB))
 all_goals have HB:=T0.below
 all_goals clear T0
 all_goals go_wp2
 all_goals go_ret
 all_goals exact⟨rfl,by first | exact HB | exact HB.drew⟩
theorem l3Cmp_any (ps1 ps2 ps3:Bool) (po1 po2 po3:Option Addr) (pn1 pc1 pn2 pc2 pn3 pc3:Nat) (qs1 qs2 qs3:Bool) (qo1 qo2 qo3:Option Addr) (qn1 qc1 qn2 qc2 qn3 qc3:Nat) (pd1 pd2 pd3 qd1 qd2 qd3:List Int) (x y z u v t:Int) (k:Nat) (hk:k≤1000) (w:World) (Np1:IsNum w ps1 po1 pn1 pc1 pd1 x k) (Np2:IsNum w ps2 po2 pn2 pc2 pd2 y k) (Np3:IsNum w ps3 po3 pn3 pc3 pd3 z k) (Nq1:IsNum w qs1 qo1 qn1 qc1 qd1 u k) (Nq2:IsNum w qs2 qo2 qn2 qc2 qd2 v k) (Nq3:IsNum w qs3 qo3 qn3 qc3 qd3 t k):Calls Tryz.prog 31 #[.agg #[.bool ps1,.slice po1 pn1 pc1,.bool ps2,.slice po2 pn2 pc2,.bool ps3,.slice po3 pn3 pc3],.agg #[.bool qs1,.slice qo1 qn1 qc1,.bool qs2,.slice qo2 qn2 qc2,.bool qs3,.slice qo3 qn3 qc3]] w (VP (.int .i64 (ordI x y z u v t)) w):=by
 have T0:ArgsB w ((w.alloc (.cells #[.bool ps1,.slice po1 pn1 pc1,.bool ps2,.slice po2 pn2 pc2,.bool ps3,.slice po3 pn3 pc3] 66)).alloc (.cells #[.bool qs1,.slice qo1 qn1 qc1,.bool qs2,.slice qo2 qn2 qc2,.bool qs3,.slice qo3 qn3 qc3] 66)) [[.bool ps1,.slice po1 pn1 pc1,.bool ps2,.slice po2 pn2 pc2,.bool ps3,.slice po3 pn3 pc3],[.bool qs1,.slice qo1 qn1 qc1,.bool qs2,.slice qo2 qn2 qc2,.bool qs3,.slice qo3 qn3 qc3]]:=ar2 _ _ _ _ w;replace Np1:=Np1.below T0.below;replace Np2:=Np2.below T0.below;replace Np3:=Np3.below T0.below;replace Nq1:=Nq1.below T0.below;replace Nq2:=Nq2.below T0.below;replace Nq3:=Nq3.below T0.below;have HO:Hid (ordI x y z u v t=if cmpI (x*t) (u*z)=0 then cmpI (y*t) (v*z) else cmpI (x*t) (u*z)):=rfl
 go_enter Tryz.func31,Tryz.ntmps31
 go_wp2_with fail;generalize ((w.alloc (.cells #[.bool ps1,.slice po1 pn1 pc1,.bool ps2,.slice po2 pn2 pc2,.bool ps3,.slice po3 pn3 pc3] 66)).alloc (.cells #[.bool qs1,.slice qo1 qn1 qc1,.bool qs2,.slice qo2 qn2 qc2,.bool qs3,.slice qo3 qn3 qc3] 66))=W at *;refine(l3CmpX_any ps1 ps2 ps3 po1 po2 po3 pn1 pc1 pn2 pc2 pn3 pc3 qs1 qs2 qs3 qo1 qo2 qo3 qn1 qc1 qn2 qc2 qn3 qc3 pd1 pd3 qd1 qd3 x z u t k hk _ Np1 Np3 Nq1 Nq3).mono ?_;rintro e w1 ⟨rfl,hB⟩;replace T0:=T0.step hB;replace Np1:=Np1.below hB;replace Np2:=Np2.below hB;replace Np3:=Np3.below hB;replace Nq1:=Nq1.below hB;replace Nq2:=Nq2.below hB;replace Nq3:=Nq3.below hB;clear hB;generalize cmpI (x*t) (u*z)=a at *
 by_cases ha:a=0
 · subst ha;have X0:Blk _ w.heap.size _:=T0.b 0 rfl;have Y0:Blk _ (w.heap.size+1) _:=T0.b 1 rfl;have p0:=X0.c 0 rfl;have q0:=Y0.c 0 rfl;have p1:=X0.c 1 rfl;have q1:=Y0.c 1 rfl;have p2:=X0.c 2 rfl;have q2:=Y0.c 2 rfl;have p3:=X0.c 3 rfl;have q3:=Y0.c 3 rfl;have p4:=X0.c 4 rfl;have q4:=Y0.c 4 rfl;have p5:=X0.c 5 rfl;have q5:=Y0.c 5 rfl;clear X0 Y0;go_wp2_with fail;refine(l3CmpY_any ps1 ps2 ps3 po1 po2 po3 pn1 pc1 pn2 pc2 pn3 pc3 qs1 qs2 qs3 qo1 qo2 qo3 qn1 qc1 qn2 qc2 qn3 qc3 pd2 pd3 qd2 qd3 y z v t k hk _ Np2 Np3 Nq2 Nq3).mono ?_;rintro e w2 ⟨rfl,hB⟩;have HB:=(T0.step hB).below;clear hB T0 p0 q0 p1 q1 p2 q2 p3 q3 p4 q4 p5 q5 Np1 Np2 Np3 Nq1 Nq2 Nq3;go_wp2;go_ret;exact⟨by rw[HO.out];rfl,HB⟩
 · have ha' :(a==0)=false:=beq_eq_false_iff_ne.2 ha;have HB:=T0.below;clear T0 Np1 Np2 Np3 Nq1 Nq2 Nq3;go_wp2;go_ret;exact⟨by rw[HO.out,if_neg ha];rfl,HB⟩
end Go.Proofs.YtbogliojkabbjaaGreat
namespace Go.Proofs.YtbogliojkabbjaaGreat
variable {P:Program} {ops:Array Oper} {Q:Exit→Act→World→Prop} {md:Region.Mode}
def open_ (l:Array Bool):Nat:=l.toList.countP (fun b=>!b)
theorem open_set {l:Array Bool} {i:Nat} (h:l.getD i true=false):open_ (l.setIfInBounds i true)+1=open_ l:=by
 obtain⟨xs⟩:=l;have hi:i<xs.length:=by
  rcases Nat.lt_or_ge i xs.length with h' | h'
  · exact h'
  · simp[Array.getD,Nat.not_lt.2 h'] at h
 have hv:xs[i]=false:=by simpa [Array.getD,hi] using h
 have hp:0<xs.countP (fun b=>!b):=List.countP_pos_iff.2 ⟨xs[i],List.getElem_mem hi,by simp[hv]⟩;simp only[open_,List.setIfInBounds_toArray,List.countP_set hi,hv]
 simp
 omega
theorem wpAny_inv (J:Array Bool→Act→World→Prop) (hs:∀l a w i o,J l a w→l.getD i true=false→ops[i]? =some o→(∀e∈o.after,Region.binds md e=true→l.getD e.on false=true)→wpOp P ops Q i (J (l.setIfInBounds i true)) a w)
 (hd:∀l a w,J l a w→Region.ready md ops l=[]→Q .normal a w):∀(fuel:Nat) (l:Array Bool) (a:Act) (w:World),open_ l≤fuel→J l a w→wpAny P md ops Q fuel l a w:=by
 intro fuel
 induction fuel with
 | zero=>
  intro l a w hf hJ;have hr:Region.ready md ops l=[]:=by
   rw[List.eq_nil_iff_forall_not_mem];intro i hi;have:=open_set (mem_ready.1 hi).1
   omega
  exact⟨hr,hd l a w hJ hr⟩
 | succ fuel ih=>
  intro l a w hf hJ;refine⟨fun hr=>hd l a w hJ hr,fun i hi=>?_⟩;obtain⟨h0,o,ho,hall⟩:=mem_ready.1 hi;exact wpOp_mono (fun a' w' h' =>ih _ a' w' (by have:=open_set h0;omega) h') (hs l a w i o hJ h0 ho hall)
theorem wp_region_inv {id:Nat} {a:Act} {w:World} (hm:P.follows .mixedOrders=true) (J:Array Bool→Act→World→Prop)
 (h0:J (Array.replicate ops.size false) a {w with drawn:=w.drawn+1})
 (hs:∀l a w i o,J l a w→l.getD i true=false→ops[i]? =some o→(∀e∈o.after,Region.binds .any e=true→l.getD e.on false=true)→wpOp P ops Q i (J (l.setIfInBounds i true)) a w)
 (hd:∀l a w,J l a w→Region.ready .any ops l=[]→Q .normal a w):(Code.region id ops true).wp P Q a w:=
 wp_region_any hm (wpAny_inv J hs hd _ _ _ _ (by
  unfold open_;refine Nat.le_trans List.countP_le_length ?_
  simp) h0)
def waits (md:Region.Mode) (ops:Array Oper):List Nat→List Nat→Bool
 | _,[]=>true
 | acc,i::r=>((ops[i]?).map (fun o=>o.after.all (fun e=>!Region.binds md e||acc.contains e.on))).getD false&&waits md ops (i::acc) r
theorem listed_of {l:Array Bool} (hr:Region.ready md ops l=[]):∀(r acc:List Nat),(∀k∈acc,l.getD k false=true)→waits md ops acc r=true→(∀k∈r,k<l.size)→∀k∈r,l.getD k false=true
 | [],_,_,_,_=>fun k hk=>by simp at hk
 | i ::r,acc,ha,hw,hz=>by
  simp only[waits,Bool.and_eq_true] at hw;obtain⟨hw1,hw2⟩:=hw;have hi:l.getD i false=true:=by
   cases ho:ops[i]? with
   | none=>rw[ho] at hw1;simp at hw1
   | some o=>
    rw[ho] at hw1;have hall:∀e∈o.after,Region.binds md e=true→l.getD e.on false=true:=fun e he hb=>by
     have h2:o.after.all (fun e=>!Region.binds md e||acc.contains e.on)=true:=by simpa using hw1
     rw[Array.all_eq_true'] at h2;have h3:=h2 e he;rw[hb] at h3;exact ha _ (by simpa using h3)
    have hz' :=hz i (by simp)
    by_cases hc:l.getD i true=false
    · have:i∈Region.ready md ops l:=mem_ready.2 ⟨hc,o,ho,hall⟩;rw[hr] at this
      simp at this
    · simpa [Array.getD,hz'] using hc
  intro k hk
  rcases List.mem_cons.1 hk with rfl | hk
  · exact hi
  · exact listed_of hr r (i::acc) (fun k hk=>by
     rcases List.mem_cons.1 hk with rfl | hk
     · exact hi
     · exact ha k hk) hw2 (fun k hk=>hz k (by simp[hk])) k hk
theorem wpOp_of {i:Nat} {o:Oper} {a:Act} {w:World} {K:Act→World→Prop} (ho:ops[i]? =some o) (hg:o.guard=none) (h:o.wp P a w K Q):wpOp P ops Q i K a w:=by
 unfold wpOp;simp only[ho];have hw:Region.wanted o (yielded ops a.tmps)=true:=by unfold Region.wanted;rw[hg]
 rw[if_pos hw];exact .inl h
theorem tmps_fold:∀(D:List Nat) (t s:Array Value),t.size=s.size→(∀d,d∉D→t[d]? =s[d]?)→t=D.foldl (fun u d=>u.setIfInBounds d (t.getD d undef)) s
 | [],t,s,_,h=>Array.ext_getElem? (fun d=>h d (by simp))
 | d::D,t,s,hz,h=>by
  rw[List.foldl_cons];refine tmps_fold D t _ (by simpa using hz) (fun e he=>?_)
  by_cases hed:e=d
  · subst hed
    rcases Nat.lt_or_ge e t.size with h' | h'
    · simp[Array.getD,h',←hz]
    · simp[←hz,h']
  · rw[Array.getElem?_setIfInBounds_ne (fun hh=>hed hh.symm)];exact h e (by simp[hed,he])
theorem put_getD_ne {a:Act} {d e:Nat} {v:Value} (h:d≠e):(a.put (some d) v).tmps.getD e undef=a.tmps.getD e undef:=by
 simp[Act.put,Array.getD_eq_getD_getElem?,Array.getElem?_setIfInBounds_ne h]
theorem put_getD_same {a:Act} {d:Nat} {v:Value} (h:d<a.tmps.size):(a.put (some d) v).tmps.getD d undef=v:=by
 simp[Act.put,Array.getD_eq_getD_getElem?,h]
end Go.Proofs.YtbogliojkabbjaaGreat
namespace Go.Proofs.YtbogliojkabbjaaGreat
variable {P:Program} {ops:Array Oper} {Q:Exit→Act→World→Prop}
theorem yielded_of {j d:Nat} {o:Oper} {t:Array Value} {b:Bool} (ho:ops[j]? =some o) (hd:o.dst=some d) (ht:t.getD d undef= .bool b):yielded ops t j=some b:=by
 have h:t[d]? =some (.bool b):=by
  rcases Nat.lt_or_ge d t.size with h | h
  · simpa [Array.getD,h] using ht
  · simp[Array.getD,Nat.not_lt.2 h,undef] at ht
 unfold yielded;rw[ho];simp only[Option.bind_some,hd];rw[h]
theorem wpOp_off {i k d:Nat} {b:Bool} {o ok:Oper} {a:Act} {w:World} {K:Act→World→Prop} (ho:ops[i]? =some o) (hg:o.guard=some (k,b)) (hk:ops[k]? =some ok) (hd:ok.dst=some d) (ht:a.tmps.getD d undef= .bool (!b)) (h:K (a.put o.dst undef) w):wpOp P ops Q i K a w:=by
 unfold wpOp;simp only[ho];have hw:Region.wanted o (yielded ops a.tmps)=false:=by
  unfold Region.wanted;rw[hg];simp only[yielded_of hk hd ht];cases b<;>rfl
 rw[hw];exact h
theorem wpOp_on {i k d:Nat} {b:Bool} {o ok:Oper} {a:Act} {w:World} {K:Act→World→Prop} (ho:ops[i]? =some o) (hg:o.guard=some (k,b)) (hk:ops[k]? =some ok) (hd:ok.dst=some d) (ht:a.tmps.getD d undef= .bool b) (h:o.wp P a w K Q):wpOp P ops Q i K a w:=by
 unfold wpOp;simp only[ho];have hw:Region.wanted o (yielded ops a.tmps)=true:=by
  unfold Region.wanted;rw[hg];simp only[yielded_of hk hd ht];cases b<;>rfl
 rw[if_pos hw];exact .inl h
end Go.Proofs.YtbogliojkabbjaaGreat
namespace Go.Proofs.YtbogliojkabbjaaGreat
open Go.RowKit
variable {P:Program} {ops:Array Oper}
def distS:List (Option Nat)→Bool
 | []=>true
 | none::r=>distS r
 | some d::r=>!(r.contains (some d))&&distS r
theorem distS_inj:∀(S:List (Option Nat)) (i j d:Nat),distS S=true→S[i]? =some (some d)→S[j]? =some (some d)→i=j
 | [],i,_,_,_,h,_=>by simp at h
 | o::r,i,j,d,hd,hi,hj=>by
  have hr:distS r=true:=by
   cases o with
   | none=>exact hd
   | some d' =>simp only[distS,Bool.and_eq_true] at hd;exact hd.2
  have hno:∀k,o=some d→r[k]? =some (some d)→False:=fun k ho hk=>by
   subst ho;simp only[distS,Bool.and_eq_true,Bool.not_eq_true'] at hd;have hm:some d∈r:=List.mem_of_getElem? hk;rw[←List.contains_iff_mem,hd.1] at hm;cases hm
  match i,j with
  | 0,0=>rfl
  | 0,j+1=>exact(hno j (by simpa using hi) (by simpa using hj)).elim
  | i+1,0=>exact(hno i (by simpa using hj) (by simpa using hi)).elim
  | i+1,j+1=>exact congrArg (· +1) (distS_inj r i j d hr (by simpa using hi) (by simpa using hj))
def InvQ (B:Nat) (S:List (Option Nat)) (V:Nat→Value→World→Prop) (w0:World) (a0:Act) (l:Array Bool) (a:Act) (W:World):Prop:=
 l.size=S.length∧a.tmps.size=a0.tmps.size∧a.defers=a0.defers∧(∀e,some e∉S→a.tmps[e]? =a0.tmps[e]?)∧Below B w0 W∧(∀j d,l.getD j false=true→S[j]? =some (some d)→V j (a.tmps.getD d undef) W)∧(∀j,l.getD j false=true→S[j]? =some none→V j undef W)
theorem getD_set_q {l:Array Bool} {i j:Nat} (h:(l.setIfInBounds i true).getD j false=true) (hne:j≠i):l.getD j false=true:=by
 rw[getD_set_ne false (Ne.symm hne)] at h;exact h
theorem InvQ.put {B:Nat} {S:List (Option Nat)} {V:Nat→Value→World→Prop} {w0:World} {a0:Act} {l:Array Bool} {a:Act} {W W' :World} (h:InvQ B S V w0 a0 l a W) (hS:distS S=true) (i d:Nat) (hi:S[i]? =some (some d)) (hlt:d<a0.tmps.size)
 (hW:Below B w0 W') (hT:∀j v,V j v W→V j v W') (v:Value) (hv:V i v W'):InvQ B S V w0 a0 (l.setIfInBounds i true) (a.put (some d) v) W' :=by
 obtain⟨h1,h2,h3,h4,h5,h6,h7⟩:=h;refine⟨by simpa using h1,by simpa [Act.put] using h2,h3,fun e he=>?_,hW,fun j d' hj hd' =>?_,fun j hj hn=>?_⟩
 · have hne:d≠e:=fun hh=>he (hh▸List.mem_of_getElem? hi);simp only[Act.put];rw[Array.getElem?_setIfInBounds_ne hne];exact h4 e he
 · by_cases hji:j=i
   · subst hji;rw[hi] at hd';cases hd';rw[put_getD_same (by omega)];exact hv
   · have hne:d≠d' :=fun hh=>hji (distS_inj S j i d hS (hh▸hd') hi);rw[put_getD_ne hne];exact hT _ _ (h6 j d' (getD_set_q hj hji) hd')
 · have hji:j≠i:=fun hh=>by subst hh;rw[hi] at hn;cases hn
   exact hT _ _ (h7 j (getD_set_q hj hji) hn)
theorem InvQ.go {B:Nat} {S:List (Option Nat)} {V:Nat→Value→World→Prop} {w0:World} {a0:Act} {l:Array Bool} {a:Act} {W:World} (h:InvQ B S V w0 a0 l a W) (hS:distS S=true) (i d:Nat) (hi:S[i]? =some (some d):=by rfl) (hlt:d<a0.tmps.size:=by omega) (v:Value) (W' :World) (hW:Below B w0 W') (hT:∀j v,V j v W→V j v W') (hv:V i v W'):InvQ B S V w0 a0 (l.setIfInBounds i true) (a.put (some d) v) W' :=h.put hS i d hi hlt hW hT v hv
theorem InvQ.world {B:Nat} {S:List (Option Nat)} {V:Nat→Value→World→Prop} {w0:World} {a0:Act} {l:Array Bool} {a:Act} {W W' :World} (h:InvQ B S V w0 a0 l a W) (i:Nat) (hi:S[i]? =some none)
 (hW:Below B w0 W') (hT:∀j v,V j v W→V j v W') (hv:V i undef W'):InvQ B S V w0 a0 (l.setIfInBounds i true) a W' :=by
 obtain⟨h1,h2,h3,h4,h5,h6,h7⟩:=h;refine⟨by simpa using h1,h2,h3,h4,hW,fun j d hj hd=>?_,fun j hj hn=>?_⟩
 · have hji:j≠i:=fun hh=>by subst hh;rw[hi] at hd;cases hd
   exact hT _ _ (h6 j d (getD_set_q hj hji) hd)
 · by_cases hji:j=i
   · subst hji;exact hv
   · exact hT _ _ (h7 j (getD_set_q hj hji) hn)
theorem InvQ.b {B:Nat} {S:List (Option Nat)} {V:Nat→Value→World→Prop} {w0:World} {a0:Act} {l:Array Bool} {a:Act} {W:World} (h:InvQ B S V w0 a0 l a W):Below B w0 W:=h.2.2.2.2.1
theorem InvQ.gO {B:Nat} {S:List (Option Nat)} {V:Nat→Value→World→Prop} {w0:World} {a0:Act} {l:Array Bool} {a:Act} {W:World} (h:InvQ B S V w0 a0 l a W) (hS:distS S=true) (i d:Nat) (hi:S[i]? =some (some d):=by rfl) (hlt:d<a0.tmps.size:=by omega) (v:Value) (hv:V i v W):InvQ B S V w0 a0 (l.setIfInBounds i true) (a.put (some d) v) W:=h.put hS i d hi hlt h.b (fun _ _ h=>h) v hv
theorem InvQ.v {B:Nat} {S:List (Option Nat)} {V:Nat→Value→World→Prop} {w0:World} {a0:Act} {l:Array Bool} {a:Act} {W:World} (h:InvQ B S V w0 a0 l a W) {A:Array Edge} (hall:∀e∈A,Region.binds .any e=true→l.getD e.on false=true) (j d:Nat) (g:Ground:= .data) (hm:⟨j,g⟩∈A:=by simp) (hb:Region.binds .any ⟨j,g⟩=true:=by rfl) (hs:S[j]? =some (some d):=by rfl):V j (a.tmps.getD d undef) W:=h.2.2.2.2.2.1 j d (hall _ hm hb) hs
theorem InvQ.a {B:Nat} {S:List (Option Nat)} {V:Nat→Value→World→Prop} {w0:World} {a0:Act} {l:Array Bool} {a:Act} {W:World} (h:InvQ B S V w0 a0 l a W) {e:Nat} {v:Value} (he:a0.tmps[e]? =some v) (hn:some e∉S:=by decide):a.tmps.getD e undef=v:=by rw[Array.getD_eq_getD_getElem?,h.2.2.2.1 e hn,he];rfl
theorem InvQ.c {B:Nat} {S:List (Option Nat)} {V:Nat→Value→World→Prop} {w0:World} {a0:Act} {l:Array Bool} {a:Act} {W:World} (h:InvQ B S V w0 a0 l a W) {p:Addr} {v:Value} (k:w0.cell? p=some v) (hl:p.block<B):W.cell? p=some v:=(h.b.cell hl).trans k
theorem wp_region_q {Q:Exit→Act→World→Prop} {id:Nat} {a0:Act} {w0:World} (hm:P.follows .mixedOrders=true) (B:Nat) (S:List (Option Nat)) (V:Nat→Value→World→Prop) (hSz:ops.size=S.length)
 (hs:∀(Q:Exit→Act→World→Prop) l a W i o,InvQ B S V w0 a0 l a W→l.getD i true=false→ops[i]? =some o→(∀e∈o.after,Region.binds .any e=true→l.getD e.on false=true)→wpOp P ops Q i (InvQ B S V w0 a0 (l.setIfInBounds i true)) a W)
 (hd:∀l a W,InvQ B S V w0 a0 l a W→Region.ready .any ops l=[]→Q .normal a W):(Code.region id ops true).wp P Q a0 w0:=by
 refine wp_region_inv hm (InvQ B S V w0 a0) ⟨by simpa using hSz,rfl,rfl,fun _ _=>rfl,(Below.refl _ w0).drew,fun j d hj=>?_,fun j hj=>?_⟩ (hs Q) hd
 all_goals
  exfalso
  rw[Array.getD_eq_getD_getElem?,Array.getElem?_replicate] at hj
  split at hj<;>simp at hj
end Go.Proofs.YtbogliojkabbjaaGreat
namespace Go.Proofs.YtbogliojkabbjaaGreat
variable {P:Program} {ops:Array Oper} {Q:Exit→Act→World→Prop}
theorem yielded_un {j d:Nat} {o:Oper} {t:Array Value} (ho:ops[j]? =some o) (hd:o.dst=some d) (ht:t.getD d undef=undef):yielded ops t j=none:=by
 unfold yielded;rw[ho];simp only[Option.bind_some,hd]
 rcases Nat.lt_or_ge d t.size with h | h
 · have h2:t[d]? =some undef:=by simpa [Array.getD,h] using ht
   rw[h2]
   rfl
 · have h2:t[d]? =none:=by simp[h]
   rw[h2]
theorem wpOp_offu {i k d:Nat} {b:Bool} {o ok:Oper} {a:Act} {w:World} {K:Act→World→Prop} (ho:ops[i]? =some o) (hg:o.guard=some (k,b)) (hk:ops[k]? =some ok) (hd:ok.dst=some d) (ht:a.tmps.getD d undef=undef) (h:K (a.put o.dst undef) w):wpOp P ops Q i K a w:=by
 unfold wpOp;simp only[ho];have hw:Region.wanted o (yielded ops a.tmps)=false:=by
  unfold Region.wanted;rw[hg];simp only[yielded_un hk hd ht];cases b<;>rfl
 rw[hw];exact h
end Go.Proofs.YtbogliojkabbjaaGreat
