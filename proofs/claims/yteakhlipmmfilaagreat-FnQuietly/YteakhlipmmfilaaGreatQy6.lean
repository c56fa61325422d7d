/- Part 6 of the walks that the proof leans on. -/
import Derived.Test.YteakhlipmmfilaaGreatQy5
namespace Go.Proofs.YteakhlipmmfilaaGreat
open Go.RowKit
set_option maxRecDepth 100000 in
set_option maxHeartbeats 16000000 in
theorem l4Meet_along (a b c d p q u v : Int) (ha : In1 a) (hb : In1 b) (hc : In1 c) (hd : In1 d) (hp : In1 p) (hq : In1 q) (hu : In1 u) (hv : In1 v) (hb0 : turnZ a b c d p q = 0 ∧ turnZ a b c d u v = 0) (w : World) : Calls Tryz.prog 50 #[Sg a b c d, Sg p q u v] w (MtP a b c d p q u v w) := by
 have HS1 := l4TurnZ_det a b c d p q ha hb hc hd hp hq
 have HS2 := l4TurnZ_det a b c d u v ha hb hc hd hu hv
 have HS3 := l4TurnZ_det p q u v a b hp hq hu hv ha hb
 have HS4 := l4TurnZ_det p q u v c d hp hq hu hv hc hd
 have T0 : ArgsB w ((((w.alloc (.cells #[.int .i64 a, .int .i64 b, .int .i64 c, .int .i64 d] 53)).alloc (.cells #[.int .i64 p, .int .i64 q, .int .i64 u, .int .i64 v] 53)).alloc (.cells #[.bool false, .slice none 0 0, .bool false, .slice none 0 0, .bool false, .slice none 0 0] 90)).alloc (.cells #[.bool false, .slice none 0 0, .bool false, .slice none 0 0, .bool false, .slice none 0 0] 90)) [[.int .i64 a, .int .i64 b, .int .i64 c, .int .i64 d], [.int .i64 p, .int .i64 q, .int .i64 u, .int .i64 v], [.bool false, .slice none 0 0, .bool false, .slice none 0 0, .bool false, .slice none 0 0], [.bool false, .slice none 0 0, .bool false, .slice none 0 0, .bool false, .slice none 0 0]] := ar4 _ _ _ _ _ _ _ _ w
 go_enter Tryz.func50, Tryz.ntmps50
 go_upto_region 1 with fail
 generalize ((((w.alloc (.cells #[.int .i64 a, .int .i64 b, .int .i64 c, .int .i64 d] 53)).alloc (.cells #[.int .i64 p, .int .i64 q, .int .i64 u, .int .i64 v] 53)).alloc (.cells #[.bool false, .slice none 0 0, .bool false, .slice none 0 0, .bool false, .slice none 0 0] 90)).alloc (.cells #[.bool false, .slice none 0 0, .bool false, .slice none 0 0, .bool false, .slice none 0 0] 90)) = W at *
 have Y0 : Blk _ w.heap.size _ := T0.b 0 rfl; have Y1 : Blk _ (w.heap.size + 1) _ := T0.b 1 rfl; obtain ⟨sc0, sc1, sc2, sc3⟩ := Y0.cs4; obtain ⟨tc0, tc1, tc2, tc3⟩ := Y1.cs4; clear Y0 Y1
 go_wp2_with fail
 refine (HS1 _).mono ?_
 rintro e w1 ⟨rfl, hB⟩
 replace T0 := T0.step hB
 clear hB sc0 tc0 sc1 tc1 sc2 tc2 sc3 tc3
 have Y0 : Blk _ w.heap.size _ := T0.b 0 rfl; have Y1 : Blk _ (w.heap.size + 1) _ := T0.b 1 rfl; obtain ⟨sc0, sc1, sc2, sc3⟩ := Y0.cs4; obtain ⟨tc0, tc1, tc2, tc3⟩ := Y1.cs4; clear Y0 Y1
 go_wp2_with fail
 refine (HS2 _).mono ?_
 rintro e w2 ⟨rfl, hB⟩
 replace T0 := T0.step hB
 clear hB sc0 tc0 sc1 tc1 sc2 tc2 sc3 tc3
 have Y0 : Blk _ w.heap.size _ := T0.b 0 rfl; have Y1 : Blk _ (w.heap.size + 1) _ := T0.b 1 rfl; obtain ⟨sc0, sc1, sc2, sc3⟩ := Y0.cs4; obtain ⟨tc0, tc1, tc2, tc3⟩ := Y1.cs4; clear Y0 Y1
 go_wp2_with fail
 refine (HS3 _).mono ?_
 rintro e w3 ⟨rfl, hB⟩
 replace T0 := T0.step hB
 clear hB sc0 tc0 sc1 tc1 sc2 tc2 sc3 tc3
 have Y0 : Blk _ w.heap.size _ := T0.b 0 rfl; have Y1 : Blk _ (w.heap.size + 1) _ := T0.b 1 rfl; obtain ⟨sc0, sc1, sc2, sc3⟩ := Y0.cs4; obtain ⟨tc0, tc1, tc2, tc3⟩ := Y1.cs4; clear Y0 Y1
 go_wp2_with fail
 refine (HS4 _).mono ?_
 rintro e w4 ⟨rfl, hB⟩
 replace T0 := T0.step hB
 clear hB sc0 tc0 sc1 tc1 sc2 tc2 sc3 tc3
 obtain ⟨hz1, hz2⟩ := hb0
 have z1 : (sgZ (turnZ a b c d p q) == 0) = true := by rw [hz1]; rfl
 have z2 : (sgZ (turnZ a b c d u v) == 0) = true := by rw [hz2]; rfl
 have HW : Hid (meetW a b c d p q u v = alongV a b c d p q u v) := meet_along hz1 hz2
 have HT : Hid (turnZ a b c d p q = 0) := hz1
 clear hz1 hz2 HS1 HS2 HS3 HS4
 generalize sgZ (turnZ a b c d p q) = s1 at *
 generalize sgZ (turnZ a b c d u v) = s2 at *
 generalize sgZ (turnZ p q u v a b) = s3 at *
 generalize sgZ (turnZ p q u v c d) = s4 at *
 have BS : Blk _ w.heap.size _ := T0.b 0 rfl; have BT : Blk _ (w.heap.size + 1) _ := T0.b 1 rfl; have BP : Blk _ (w.heap.size + 1 + 1) _ := T0.b 2 rfl; have BQ : Blk _ (w.heap.size + 1 + 1 + 1) _ := T0.b 3 rfl; have HB := T0.below
 clear T0
 have hgFx : (w.heap.size + 1 + 1 + 1) < w4.heap.size := BQ.lt
 obtain ⟨sc0, sc1, sc2, sc3⟩ := BS.cs4; have sl := BS.lt; obtain ⟨tc0, tc1, tc2, tc3⟩ := BT.cs4; have tl := BT.lt
 have gFh := HB.size
 go_wp2_with fail
 refine (l4Less_any a b p q _ rfl _).mono ?_
 rintro e a1 ⟨rfl, hB⟩
 replace BS := (BS.alloc (.cells #[.int .i64 a, .int .i64 b] 51)).step hB
 replace BT := (BT.alloc (.cells #[.int .i64 a, .int .i64 b] 51)).step hB
 replace BP := (BP.alloc (.cells #[.int .i64 a, .int .i64 b] 51)).step hB
 replace BQ := (BQ.alloc (.cells #[.int .i64 a, .int .i64 b] 51)).step hB
 have BF := (Blk.new w4 [.int .i64 a, .int .i64 b] 51 rfl).step hB
 replace HB := (HB.alloc HB.size (.cells #[.int .i64 a, .int .i64 b] 51)).trans (hB.mono (HB.alloc HB.size (.cells #[.int .i64 a, .int .i64 b] 51)).size)
 clear hB sc0 sc1 sc2 sc3 sl tc0 tc1 tc2 tc3 tl
 generalize w4.heap.size = gF at *
 by_cases h1 : lessI a b p q = true
 · rw [h1]
   have H1 : Hid (lessI a b p q = true) := h1
   clear h1
   obtain ⟨sc0, sc1, sc2, sc3⟩ := BS.cs4; have sl := BS.lt; obtain ⟨tc0, tc1, tc2, tc3⟩ := BT.cs4; have tl := BT.lt; obtain ⟨fc0, ff0, fc1, ff1⟩ := BF.cf2; have fl := BF.lt
   go_upto_region 9 with fail
   clear sc0 sc1 sc2 sc3 sl tc0 tc1 tc2 tc3 tl fc0 ff0 fc1 ff1 fl
   replace BF := BF.stored2 (.int .i64 p) (.int .i64 q)
   replace BS : Blk ((a1.setCell ⟨gF, 0, none⟩ (.int .i64 p)).setCell ⟨gF, 1, none⟩ (.int .i64 q)) _ _ := BS.set2 (by omega)
   replace BT : Blk ((a1.setCell ⟨gF, 0, none⟩ (.int .i64 p)).setCell ⟨gF, 1, none⟩ (.int .i64 q)) _ _ := BT.set2 (by omega)
   replace BP : Blk ((a1.setCell ⟨gF, 0, none⟩ (.int .i64 p)).setCell ⟨gF, 1, none⟩ (.int .i64 q)) _ _ := BP.set2 (by omega)
   replace BQ : Blk ((a1.setCell ⟨gF, 0, none⟩ (.int .i64 p)).setCell ⟨gF, 1, none⟩ (.int .i64 q)) _ _ := BQ.set2 (by omega)
   replace HB : Below w.heap.size w ((a1.setCell ⟨gF, 0, none⟩ (.int .i64 p)).setCell ⟨gF, 1, none⟩ (.int .i64 q)) := Below.setCell (Below.setCell HB (by show _ ≤ gF; omega) _) (by show _ ≤ gF; omega) _
   generalize ((a1.setCell ⟨gF, 0, none⟩ (.int .i64 p)).setCell ⟨gF, 1, none⟩ (.int .i64 q)) = WN at *
   have hgLx : (w.heap.size + 1 + 1 + 1) < WN.heap.size := BQ.lt
   have hgL : gF < WN.heap.size := BF.lt
   obtain ⟨sc0, sc1, sc2, sc3⟩ := BS.cs4; have sl := BS.lt; obtain ⟨tc0, tc1, tc2, tc3⟩ := BT.cs4; have tl := BT.lt; obtain ⟨fc0, ff0, fc1, ff1⟩ := BF.cf2; have fl := BF.lt
   have gLh := HB.size
   go_wp2_with fail
   refine (l4Less_any u v c d _ rfl _).mono ?_
   rintro e a2 ⟨rfl, hB⟩
   replace BS := (BS.alloc (.cells #[.int .i64 c, .int .i64 d] 51)).step hB
   replace BT := (BT.alloc (.cells #[.int .i64 c, .int .i64 d] 51)).step hB
   replace BF := (BF.alloc (.cells #[.int .i64 c, .int .i64 d] 51)).step hB
   replace BP := (BP.alloc (.cells #[.int .i64 c, .int .i64 d] 51)).step hB
   replace BQ := (BQ.alloc (.cells #[.int .i64 c, .int .i64 d] 51)).step hB
   have BL := (Blk.new WN [.int .i64 c, .int .i64 d] 51 rfl).step hB
   replace HB := (HB.alloc HB.size (.cells #[.int .i64 c, .int .i64 d] 51)).trans (hB.mono (HB.alloc HB.size (.cells #[.int .i64 c, .int .i64 d] 51)).size)
   clear hB sc0 sc1 sc2 sc3 sl tc0 tc1 tc2 tc3 tl fc0 ff0 fc1 ff1 fl
   have hgL2 : (w.heap.size + 1 + 1 + 1) < WN.heap.size := hgLx
   generalize WN.heap.size = gL at *
   by_cases h2 : lessI u v c d = true
   · rw [h2]
     have H2 : Hid (lessI u v c d = true) := h2
     clear h2
     obtain ⟨sc0, sc1, sc2, sc3⟩ := BS.cs4; have sl := BS.lt; obtain ⟨tc0, tc1, tc2, tc3⟩ := BT.cs4; have tl := BT.lt; obtain ⟨fc0, ff0, fc1, ff1⟩ := BF.cf2; have fl := BF.lt; obtain ⟨lc0, lf0, lc1, lf1⟩ := BL.cf2; have ll := BL.lt
     go_upto_region 12 with fail
     clear sc0 sc1 sc2 sc3 sl tc0 tc1 tc2 tc3 tl fc0 ff0 fc1 ff1 fl lc0 lf0 lc1 lf1 ll
     replace BL := BL.stored2 (.int .i64 u) (.int .i64 v)
     replace BF : Blk ((a2.setCell ⟨gL, 0, none⟩ (.int .i64 u)).setCell ⟨gL, 1, none⟩ (.int .i64 v)) _ _ := BF.set2 (by omega)
     replace BS : Blk ((a2.setCell ⟨gL, 0, none⟩ (.int .i64 u)).setCell ⟨gL, 1, none⟩ (.int .i64 v)) _ _ := BS.set2 (by omega)
     replace BT : Blk ((a2.setCell ⟨gL, 0, none⟩ (.int .i64 u)).setCell ⟨gL, 1, none⟩ (.int .i64 v)) _ _ := BT.set2 (by omega)
     replace BP : Blk ((a2.setCell ⟨gL, 0, none⟩ (.int .i64 u)).setCell ⟨gL, 1, none⟩ (.int .i64 v)) _ _ := BP.set2 (by omega)
     replace BQ : Blk ((a2.setCell ⟨gL, 0, none⟩ (.int .i64 u)).setCell ⟨gL, 1, none⟩ (.int .i64 v)) _ _ := BQ.set2 (by omega)
     replace HB : Below w.heap.size w ((a2.setCell ⟨gL, 0, none⟩ (.int .i64 u)).setCell ⟨gL, 1, none⟩ (.int .i64 v)) := Below.setCell (Below.setCell HB (by show _ ≤ gL; omega) _) (by show _ ≤ gL; omega) _
     generalize ((a2.setCell ⟨gL, 0, none⟩ (.int .i64 u)).setCell ⟨gL, 1, none⟩ (.int .i64 v)) = WN2 at *
     obtain ⟨sc0, sc1, sc2, sc3⟩ := BS.cs4; have sl := BS.lt; obtain ⟨tc0, tc1, tc2, tc3⟩ := BT.cs4; have tl := BT.lt; obtain ⟨fc0, ff0, fc1, ff1⟩ := BF.cf2; have fl := BF.lt; obtain ⟨lc0, lf0, lc1, lf1⟩ := BL.cf2; have ll := BL.lt
     go_wp2_with fail
     refine (l4Less_any u v p q _ rfl _).mono ?_
     rintro e a3 ⟨rfl, hB⟩
     replace BS := BS.step hB
     replace BT := BT.step hB
     replace BF := BF.step hB
     replace BL := BL.step hB
     replace BP := BP.step hB
     replace BQ := BQ.step hB
     replace HB := HB.trans (hB.mono HB.size)
     clear hB sc0 sc1 sc2 sc3 sl tc0 tc1 tc2 tc3 tl fc0 ff0 fc1 ff1 fl lc0 lf0 lc1 lf1 ll
     by_cases hA : lessI u v p q = true
     · rw [hA]
       have HO : Hid (meetW a b c d p q u v = .tuple #[.int .i64 0, .agg #[.int .u64 0, .int .u64 0, .int .u64 0, .int .u64 0, .int .u64 0, .int .u64 0, .int .u64 0, .int .u64 0, .int .u64 0, .int .u64 0, .int .u64 0, .int .u64 0], .agg #[.int .u64 0, .int .u64 0, .int .u64 0, .int .u64 0, .int .u64 0, .int .u64 0, .int .u64 0, .int .u64 0, .int .u64 0, .int .u64 0, .int .u64 0, .int .u64 0]]) := by show _ = _; rw [HW.out]; unfold alongV; rw [show (if lessI a b p q = true then p else a) = p by rw [H1.out]; rfl, show (if lessI a b p q = true then q else b) = q by rw [H1.out]; rfl, show (if lessI u v c d = true then u else c) = u by rw [H2.out]; rfl, show (if lessI u v c d = true then v else d) = v by rw [H2.out]; rfl, if_pos (Or.inr hA)]
       clear hA BS BT BF BL
       obtain ⟨xc0, xf0, xc1, xf1, xc2, xf2, xc3, xf3, xc4, xf4, xc5, xf5⟩ := BP.cf6; have xl := BP.lt; obtain ⟨yc0, yf0, yc1, yf1, yc2, yf2, yc3, yf3, yc4, yf4, yc5, yf5⟩ := BQ.cf6; have yl := BQ.lt
       go_wp2
       refine bodyPost_ret (v := .tuple #[.int .i64 0, .agg #[.bool false, .slice none 0 0, .bool false, .slice none 0 0, .bool false, .slice none 0 0], .agg #[.bool false, .slice none 0 0, .bool false, .slice none 0 0, .bool false, .slice none 0 0]]) (by simp [results, Tryz.results50, go_sem, xc0, yc0, xc1, yc1, xc2, yc2, xc3, yc3, xc4, yc4, xc5, yc5]) rfl ?_
       refine ⟨?_, Or.inl ⟨HO.out, rfl⟩⟩
       repeat' (refine Below.setCell ?_ (by simp; try omega) _)
       exact HB
     · have hA' := Bool.eq_false_iff.2 hA
       rw [hA']
       have EQ := eqSp p q u v
       by_cases hE : p = u ∧ q = v
       · have HO : Hid (meetW a b c d p q u v = .tuple #[.int .i64 1, .agg #[.int .u64 (ww3 p), .int .u64 (ww2 p), .int .u64 (ww1 p), .int .u64 (ww0 p), .int .u64 (ww3 q), .int .u64 (ww2 q), .int .u64 (ww1 q), .int .u64 (ww0 q), .int .u64 (ww3 1), .int .u64 (ww2 1), .int .u64 (ww1 1), .int .u64 (ww0 1)], .agg #[.int .u64 0, .int .u64 0, .int .u64 0, .int .u64 0, .int .u64 0, .int .u64 0, .int .u64 0, .int .u64 0, .int .u64 0, .int .u64 0, .int .u64 0, .int .u64 0]]) := by show _ = _; rw [HW.out]; unfold alongV; rw [show (if lessI a b p q = true then p else a) = p by rw [H1.out]; rfl, show (if lessI a b p q = true then q else b) = q by rw [H1.out]; rfl, show (if lessI u v c d = true then u else c) = u by rw [H2.out]; rfl, show (if lessI u v c d = true then v else d) = v by rw [H2.out]; rfl, if_neg (by rw [hA']; rintro (h | h); exact h HT.out; cases h), if_pos hE]
         rw [show (decide (p = u) && decide (q = v)) = true by rw [hE.1, hE.2]; simp] at EQ
         have PO := l3Spot_det p q (by omega) (by omega)
         clear hA hA' hE
         obtain ⟨sc0, sc1, sc2, sc3⟩ := BS.cs4; have sl := BS.lt; obtain ⟨tc0, tc1, tc2, tc3⟩ := BT.cs4; have tl := BT.lt; obtain ⟨fc0, ff0, fc1, ff1⟩ := BF.cf2; have fl := BF.lt; obtain ⟨lc0, lf0, lc1, lf1⟩ := BL.cf2; have ll := BL.lt
         go_wp2_with fail
         refine (PO _).mono ?_
         rintro e a4 ⟨js1, jo1, jn1, jc1, jd1, js2, jo2, jn2, jc2, jd2, js3, jo3, jn3, jc3, jd3, rfl, Nj1, Nj2, Nj3, hB⟩
         replace BP := BP.step hB; replace BQ := BQ.step hB; replace HB := HB.trans (hB.mono HB.size)
         clear hB sc0 sc1 sc2 sc3 sl tc0 tc1 tc2 tc3 tl fc0 ff0 fc1 ff1 fl lc0 lf0 lc1 lf1 ll BS BT BF BL PO EQ
         obtain ⟨xc0, xf0, xc1, xf1, xc2, xf2, xc3, xf3, xc4, xf4, xc5, xf5⟩ := BP.cf6; have xl := BP.lt; obtain ⟨yc0, yf0, yc1, yf1, yc2, yf2, yc3, yf3, yc4, yf4, yc5, yf5⟩ := BQ.cf6; have yl := BQ.lt
         have BQ6 := BQ.set6 (g := (w.heap.size + 1 + 1)) (v0 := .bool js1) (v1 := .slice jo1 jn1 jc1) (v2 := .bool js2) (v3 := .slice jo2 jn2 jc2) (v4 := .bool js3) (v5 := .slice jo3 jn3 jc3) (by omega)
         go_wp2
         refine bodyPost_ret (v := .tuple #[.int .i64 1, .agg #[.bool js1, .slice jo1 jn1 jc1, .bool js2, .slice jo2 jn2 jc2, .bool js3, .slice jo3 jn3 jc3], .agg #[.bool false, .slice none 0 0, .bool false, .slice none 0 0, .bool false, .slice none 0 0]]) (by simp [results, Tryz.results50, go_sem, xc0, yc0, xc1, yc1, xc2, yc2, xc3, yc3, xc4, yc4, xc5, yc5]) rfl ?_
         refine ⟨?_, Or.inr (Or.inl ⟨p, q, 1, _, HO.out, small_int (by omega) (by omega), small_int (by omega) (by omega), small_int (by omega) (by omega), rfl, js1, jo1, jn1, jc1, jd1, js2, jo2, jn2, jc2, jd2, js3, jo3, jn3, jc3, jd3, rfl, ?_, ?_, ?_⟩)⟩
         · repeat' (refine Below.setCell ?_ (by simp; try omega) _)
           exact HB
         · exact num_set6 (num_set6 Nj1 BP (.bool js1) (.slice jo1 jn1 jc1) (.bool js2) (.slice jo2 jn2 jc2) (.bool js3) (.slice jo3 jn3 jc3)) BQ6 (.bool false) (.slice none 0 0) (.bool false) (.slice none 0 0) (.bool false) (.slice none 0 0)
         · exact num_set6 (num_set6 Nj2 BP (.bool js1) (.slice jo1 jn1 jc1) (.bool js2) (.slice jo2 jn2 jc2) (.bool js3) (.slice jo3 jn3 jc3)) BQ6 (.bool false) (.slice none 0 0) (.bool false) (.slice none 0 0) (.bool false) (.slice none 0 0)
         · exact num_set6 (num_set6 Nj3 BP (.bool js1) (.slice jo1 jn1 jc1) (.bool js2) (.slice jo2 jn2 jc2) (.bool js3) (.slice jo3 jn3 jc3)) BQ6 (.bool false) (.slice none 0 0) (.bool false) (.slice none 0 0) (.bool false) (.slice none 0 0)
       · have HO : Hid (meetW a b c d p q u v = .tuple #[.int .i64 2, .agg #[.int .u64 (ww3 p), .int .u64 (ww2 p), .int .u64 (ww1 p), .int .u64 (ww0 p), .int .u64 (ww3 q), .int .u64 (ww2 q), .int .u64 (ww1 q), .int .u64 (ww0 q), .int .u64 (ww3 1), .int .u64 (ww2 1), .int .u64 (ww1 1), .int .u64 (ww0 1)], .agg #[.int .u64 (ww3 u), .int .u64 (ww2 u), .int .u64 (ww1 u), .int .u64 (ww0 u), .int .u64 (ww3 v), .int .u64 (ww2 v), .int .u64 (ww1 v), .int .u64 (ww0 v), .int .u64 (ww3 1), .int .u64 (ww2 1), .int .u64 (ww1 1), .int .u64 (ww0 1)]]) := by show _ = _; rw [HW.out]; unfold alongV; rw [show (if lessI a b p q = true then p else a) = p by rw [H1.out]; rfl, show (if lessI a b p q = true then q else b) = q by rw [H1.out]; rfl, show (if lessI u v c d = true then u else c) = u by rw [H2.out]; rfl, show (if lessI u v c d = true then v else d) = v by rw [H2.out]; rfl, if_neg (by rw [hA']; rintro (h | h); exact h HT.out; cases h), if_neg hE]
         rw [show (decide (p = u) && decide (q = v)) = false by rw [← Bool.decide_and]; exact decide_eq_false hE] at EQ
         have PO := l3Spot_det p q (by omega) (by omega)
         have PL := l3Spot_det u v (by omega) (by omega)
         clear hA hA' hE BS BT
         have tok1 : True := trivial
         obtain ⟨fc0, ff0, fc1, ff1⟩ := BF.cf2; have fl := BF.lt; obtain ⟨lc0, lf0, lc1, lf1⟩ := BL.cf2; have ll := BL.lt
         go_upto_region 16 with fail
         clear fc0 ff0 fc1 ff1 fl lc0 lf0 lc1 lf1 ll EQ
         go_region_held3 (fun w' => w'.cell? ⟨gF, 0, none⟩ = some (.int .i64 p) ∧ w'.cell? ⟨gF, 1, none⟩ = some (.int .i64 q) ∧ w'.cell? ⟨gL, 0, none⟩ = some (.int .i64 u) ∧ w'.cell? ⟨gL, 1, none⟩ = some (.int .i64 v)) ((refine al_cells ?_ ?_ <;> repeat (first | (with_reducible exact BF) | (with_reducible exact BL) | (with_reducible refine Blk.drew ?_) | (with_reducible refine Blk.set6 ?_ (by omega)))))
           (first
             | (go_at_call 90; have _t := tok1; refine (PO _).mono ?_; rintro e a5 ⟨js1, jo1, jn1, jc1, jd1, js2, jo2, jn2, jc2, jd2, js3, jo3, jn3, jc3, jd3, rfl, Nj1, Nj2, Nj3, hB⟩; (first | (replace BF := BF.step hB; replace BL := BL.step hB; replace BP := BP.step hB; replace BQ := BQ.step hB; replace HB := HB.trans (hB.mono HB.size)) | (replace BF := BF.drew.step hB; replace BL := BL.drew.step hB; replace BP := BP.drew.step hB; replace BQ := BQ.drew.step hB; replace HB := HB.drew.trans (hB.mono HB.drew.size))); clear hB; clear tok1 _t)
             | (go_at_call 90; refine (PL _).mono ?_; rintro e a6 ⟨ks1, ko1, kn1, kc1, kd1, ks2, ko2, kn2, kc2, kd2, ks3, ko3, kn3, kc3, kd3, rfl, Nk1, Nk2, Nk3, hB⟩; (first | (replace BF := BF.step hB; replace BL := BL.step hB; replace BP := BP.step hB; replace BQ := BQ.step hB; replace HB := HB.trans (hB.mono HB.size)) | (replace BF := BF.drew.step hB; replace BL := BL.drew.step hB; replace BP := BP.drew.step hB; replace BQ := BQ.drew.step hB; replace HB := HB.drew.trans (hB.mono HB.drew.size))); replace Nj1 := Nj1.below hB; replace Nj2 := Nj2.below hB; replace Nj3 := Nj3.below hB; clear hB; obtain ⟨xc0, xf0, xc1, xf1, xc2, xf2, xc3, xf3, xc4, xf4, xc5, xf5⟩ := BP.cf6; have xl := BP.lt; obtain ⟨yc0, yf0, yc1, yf1, yc2, yf2, yc3, yf3, yc4, yf4, yc5, yf5⟩ := BQ.cf6; have yl := BQ.lt))
         all_goals clear BF BL PO PL
         all_goals (
           have BQ6 := BQ.set6 (g := (w.heap.size + 1 + 1)) (v0 := .bool js1) (v1 := .slice jo1 jn1 jc1) (v2 := .bool js2) (v3 := .slice jo2 jn2 jc2) (v4 := .bool js3) (v5 := .slice jo3 jn3 jc3) (by omega)
           go_wp2
           refine bodyPost_ret (v := .tuple #[.int .i64 2, .agg #[.bool js1, .slice jo1 jn1 jc1, .bool js2, .slice jo2 jn2 jc2, .bool js3, .slice jo3 jn3 jc3], .agg #[.bool ks1, .slice ko1 kn1 kc1, .bool ks2, .slice ko2 kn2 kc2, .bool ks3, .slice ko3 kn3 kc3]]) (by simp [results, Tryz.results50, go_sem, xc0, yc0, xc1, yc1, xc2, yc2, xc3, yc3, xc4, yc4, xc5, yc5]) rfl ?_
           refine ⟨?_, Or.inr (Or.inr ⟨p, q, u, v, _, _, HO.out, small_int (by omega) (by omega), small_int (by omega) (by omega), small_int (by omega) (by omega), small_int (by omega) (by omega), rfl, ⟨js1, jo1, jn1, jc1, jd1, js2, jo2, jn2, jc2, jd2, js3, jo3, jn3, jc3, jd3, rfl, ?_, ?_, ?_⟩, ks1, ko1, kn1, kc1, kd1, ks2, ko2, kn2, kc2, kd2, ks3, ko3, kn3, kc3, kd3, rfl, ?_, ?_, ?_⟩)⟩
           · repeat' (refine Below.setCell ?_ (by simp; try omega) _)
             first | exact HB | exact HB.drew
           · first | exact num_set6 (num_set6 Nj1 BP (.bool js1) (.slice jo1 jn1 jc1) (.bool js2) (.slice jo2 jn2 jc2) (.bool js3) (.slice jo3 jn3 jc3)) BQ6 (.bool ks1) (.slice ko1 kn1 kc1) (.bool ks2) (.slice ko2 kn2 kc2) (.bool ks3) (.slice ko3 kn3 kc3) | exact num_set6 (num_set6 Nj1.drew BP (.bool js1) (.slice jo1 jn1 jc1) (.bool js2) (.slice jo2 jn2 jc2) (.bool js3) (.slice jo3 jn3 jc3)) BQ6 (.bool ks1) (.slice ko1 kn1 kc1) (.bool ks2) (.slice ko2 kn2 kc2) (.bool ks3) (.slice ko3 kn3 kc3)
           · first | exact num_set6 (num_set6 Nj2 BP (.bool js1) (.slice jo1 jn1 jc1) (.bool js2) (.slice jo2 jn2 jc2) (.bool js3) (.slice jo3 jn3 jc3)) BQ6 (.bool ks1) (.slice ko1 kn1 kc1) (.bool ks2) (.slice ko2 kn2 kc2) (.bool ks3) (.slice ko3 kn3 kc3) | exact num_set6 (num_set6 Nj2.drew BP (.bool js1) (.slice jo1 jn1 jc1) (.bool js2) (.slice jo2 jn2 jc2) (.bool js3) (.slice jo3 jn3 jc3)) BQ6 (.bool ks1) (.slice ko1 kn1 kc1) (.bool ks2) (.slice ko2 kn2 kc2) (.bool ks3) (.slice ko3 kn3 kc3)
           · first | exact num_set6 (num_set6 Nj3 BP (.bool js1) (.slice jo1 jn1 jc1) (.bool js2) (.slice jo2 jn2 jc2) (.bool js3) (.slice jo3 jn3 jc3)) BQ6 (.bool ks1) (.slice ko1 kn1 kc1) (.bool ks2) (.slice ko2 kn2 kc2) (.bool ks3) (.slice ko3 kn3 kc3) | exact num_set6 (num_set6 Nj3.drew BP (.bool js1) (.slice jo1 jn1 jc1) (.bool js2) (.slice jo2 jn2 jc2) (.bool js3) (.slice jo3 jn3 jc3)) BQ6 (.bool ks1) (.slice ko1 kn1 kc1) (.bool ks2) (.slice ko2 kn2 kc2) (.bool ks3) (.slice ko3 kn3 kc3)
           · first | exact num_set6 (num_set6 Nk1 BP (.bool js1) (.slice jo1 jn1 jc1) (.bool js2) (.slice jo2 jn2 jc2) (.bool js3) (.slice jo3 jn3 jc3)) BQ6 (.bool ks1) (.slice ko1 kn1 kc1) (.bool ks2) (.slice ko2 kn2 kc2) (.bool ks3) (.slice ko3 kn3 kc3) | exact num_set6 (num_set6 Nk1.drew BP (.bool js1) (.slice jo1 jn1 jc1) (.bool js2) (.slice jo2 jn2 jc2) (.bool js3) (.slice jo3 jn3 jc3)) BQ6 (.bool ks1) (.slice ko1 kn1 kc1) (.bool ks2) (.slice ko2 kn2 kc2) (.bool ks3) (.slice ko3 kn3 kc3)
           · first | exact num_set6 (num_set6 Nk2 BP (.bool js1) (.slice jo1 jn1 jc1) (.bool js2) (.slice jo2 jn2 jc2) (.bool js3) (.slice jo3 jn3 jc3)) BQ6 (.bool ks1) (.slice ko1 kn1 kc1) (.bool ks2) (.slice ko2 kn2 kc2) (.bool ks3) (.slice ko3 kn3 kc3) | exact num_set6 (num_set6 Nk2.drew BP (.bool js1) (.slice jo1 jn1 jc1) (.bool js2) (.slice jo2 jn2 jc2) (.bool js3) (.slice jo3 jn3 jc3)) BQ6 (.bool ks1) (.slice ko1 kn1 kc1) (.bool ks2) (.slice ko2 kn2 kc2) (.bool ks3) (.slice ko3 kn3 kc3)
           · first | exact num_set6 (num_set6 Nk3 BP (.bool js1) (.slice jo1 jn1 jc1) (.bool js2) (.slice jo2 jn2 jc2) (.bool js3) (.slice jo3 jn3 jc3)) BQ6 (.bool ks1) (.slice ko1 kn1 kc1) (.bool ks2) (.slice ko2 kn2 kc2) (.bool ks3) (.slice ko3 kn3 kc3) | exact num_set6 (num_set6 Nk3.drew BP (.bool js1) (.slice jo1 jn1 jc1) (.bool js2) (.slice jo2 jn2 jc2) (.bool js3) (.slice jo3 jn3 jc3)) BQ6 (.bool ks1) (.slice ko1 kn1 kc1) (.bool ks2) (.slice ko2 kn2 kc2) (.bool ks3) (.slice ko3 kn3 kc3))
   · have h2' := Bool.eq_false_iff.2 h2
     rw [h2']
     have H2 : Hid (lessI u v c d = false) := h2'
     clear h2 h2'
     obtain ⟨sc0, sc1, sc2, sc3⟩ := BS.cs4; have sl := BS.lt; obtain ⟨tc0, tc1, tc2, tc3⟩ := BT.cs4; have tl := BT.lt; obtain ⟨fc0, ff0, fc1, ff1⟩ := BF.cf2; have fl := BF.lt; obtain ⟨lc0, lf0, lc1, lf1⟩ := BL.cf2; have ll := BL.lt
     go_wp2_with fail
     refine (l4Less_any c d p q _ rfl _).mono ?_
     rintro e a7 ⟨rfl, hB⟩
     replace BS := BS.step hB
     replace BT := BT.step hB
     replace BF := BF.step hB
     replace BL := BL.step hB
     replace BP := BP.step hB
     replace BQ := BQ.step hB
     replace HB := HB.trans (hB.mono HB.size)
     clear hB sc0 sc1 sc2 sc3 sl tc0 tc1 tc2 tc3 tl fc0 ff0 fc1 ff1 fl lc0 lf0 lc1 lf1 ll
     by_cases hA : lessI c d p q = true
     · rw [hA]
       have HO : Hid (meetW a b c d p q u v = .tuple #[.int .i64 0, .agg #[.int .u64 0, .int .u64 0, .int .u64 0, .int .u64 0, .int .u64 0, .int .u64 0, .int .u64 0, .int .u64 0, .int .u64 0, .int .u64 0, .int .u64 0, .int .u64 0], .agg #[.int .u64 0, .int .u64 0, .int .u64 0, .int .u64 0, .int .u64 0, .int .u64 0, .int .u64 0, .int .u64 0, .int .u64 0, .int .u64 0, .int .u64 0, .int .u64 0]]) := by show _ = _; rw [HW.out]; unfold alongV; rw [show (if lessI a b p q = true then p else a) = p by rw [H1.out]; rfl, show (if lessI a b p q = true then q else b) = q by rw [H1.out]; rfl, show (if lessI u v c d = true then u else c) = c by rw [H2.out]; rfl, show (if lessI u v c d = true then v else d) = d by rw [H2.out]; rfl, if_pos (Or.inr hA)]
       clear hA BS BT BF BL
       obtain ⟨xc0, xf0, xc1, xf1, xc2, xf2, xc3, xf3, xc4, xf4, xc5, xf5⟩ := BP.cf6; have xl := BP.lt; obtain ⟨yc0, yf0, yc1, yf1, yc2, yf2, yc3, yf3, yc4, yf4, yc5, yf5⟩ := BQ.cf6; have yl := BQ.lt
       go_wp2
       refine bodyPost_ret (v := .tuple #[.int .i64 0, .agg #[.bool false, .slice none 0 0, .bool false, .slice none 0 0, .bool false, .slice none 0 0], .agg #[.bool false, .slice none 0 0, .bool false, .slice none 0 0, .bool false, .slice none 0 0]]) (by simp [results, Tryz.results50, go_sem, xc0, yc0, xc1, yc1, xc2, yc2, xc3, yc3, xc4, yc4, xc5, yc5]) rfl ?_
       refine ⟨?_, Or.inl ⟨HO.out, rfl⟩⟩
       repeat' (refine Below.setCell ?_ (by simp; try omega) _)
       exact HB
     · have hA' := Bool.eq_false_iff.2 hA
       rw [hA']
       have EQ := eqSp p q c d
       by_cases hE : p = c ∧ q = d
       · have HO : Hid (meetW a b c d p q u v = .tuple #[.int .i64 1, .agg #[.int .u64 (ww3 p), .int .u64 (ww2 p), .int .u64 (ww1 p), .int .u64 (ww0 p), .int .u64 (ww3 q), .int .u64 (ww2 q), .int .u64 (ww1 q), .int .u64 (ww0 q), .int .u64 (ww3 1), .int .u64 (ww2 1), .int .u64 (ww1 1), .int .u64 (ww0 1)], .agg #[.int .u64 0, .int .u64 0, .int .u64 0, .int .u64 0, .int .u64 0, .int .u64 0, .int .u64 0, .int .u64 0, .int .u64 0, .int .u64 0, .int .u64 0, .int .u64 0]]) := by show _ = _; rw [HW.out]; unfold alongV; rw [show (if lessI a b p q = true then p else a) = p by rw [H1.out]; rfl, show (if lessI a b p q = true then q else b) = q by rw [H1.out]; rfl, show (if lessI u v c d = true then u else c) = c by rw [H2.out]; rfl, show (if lessI u v c d = true then v else d) = d by rw [H2.out]; rfl, if_neg (by rw [hA']; rintro (h | h); exact h HT.out; cases h), if_pos hE]
         rw [show (decide (p = c) && decide (q = d)) = true by rw [hE.1, hE.2]; simp] at EQ
         have PO := l3Spot_det p q (by omega) (by omega)
         clear hA hA' hE
         obtain ⟨sc0, sc1, sc2, sc3⟩ := BS.cs4; have sl := BS.lt; obtain ⟨tc0, tc1, tc2, tc3⟩ := BT.cs4; have tl := BT.lt; obtain ⟨fc0, ff0, fc1, ff1⟩ := BF.cf2; have fl := BF.lt; obtain ⟨lc0, lf0, lc1, lf1⟩ := BL.cf2; have ll := BL.lt
         go_wp2_with fail
         refine (PO _).mono ?_
         rintro e a8 ⟨js1, jo1, jn1, jc1, jd1, js2, jo2, jn2, jc2, jd2, js3, jo3, jn3, jc3, jd3, rfl, Nj1, Nj2, Nj3, hB⟩
         replace BP := BP.step hB; replace BQ := BQ.step hB; replace HB := HB.trans (hB.mono HB.size)
         clear hB sc0 sc1 sc2 sc3 sl tc0 tc1 tc2 tc3 tl fc0 ff0 fc1 ff1 fl lc0 lf0 lc1 lf1 ll BS BT BF BL PO EQ
         obtain ⟨xc0, xf0, xc1, xf1, xc2, xf2, xc3, xf3, xc4, xf4, xc5, xf5⟩ := BP.cf6; have xl := BP.lt; obtain ⟨yc0, yf0, yc1, yf1, yc2, yf2, yc3, yf3, yc4, yf4, yc5, yf5⟩ := BQ.cf6; have yl := BQ.lt
         have BQ6 := BQ.set6 (g := (w.heap.size + 1 + 1)) (v0 := .bool js1) (v1 := .slice jo1 jn1 jc1) (v2 := .bool js2) (v3 := .slice jo2 jn2 jc2) (v4 := .bool js3) (v5 := .slice jo3 jn3 jc3) (by omega)
         go_wp2
         refine bodyPost_ret (v := .tuple #[.int .i64 1, .agg #[.bool js1, .slice jo1 jn1 jc1, .bool js2, .slice jo2 jn2 jc2, .bool js3, .slice jo3 jn3 jc3], .agg #[.bool false, .slice none 0 0, .bool false, .slice none 0 0, .bool false, .slice none 0 0]]) (by simp [results, Tryz.results50, go_sem, xc0, yc0, xc1, yc1, xc2, yc2, xc3, yc3, xc4, yc4, xc5, yc5]) rfl ?_
         refine ⟨?_, Or.inr (Or.inl ⟨p, q, 1, _, HO.out, small_int (by omega) (by omega), small_int (by omega) (by omega), small_int (by omega) (by omega), rfl, js1, jo1, jn1, jc1, jd1, js2, jo2, jn2, jc2, jd2, js3, jo3, jn3, jc3, jd3, rfl, ?_, ?_, ?_⟩)⟩
         · repeat' (refine Below.setCell ?_ (by simp; try omega) _)
           exact HB
         · exact num_set6 (num_set6 Nj1 BP (.bool js1) (.slice jo1 jn1 jc1) (.bool js2) (.slice jo2 jn2 jc2) (.bool js3) (.slice jo3 jn3 jc3)) BQ6 (.bool false) (.slice none 0 0) (.bool false) (.slice none 0 0) (.bool false) (.slice none 0 0)
         · exact num_set6 (num_set6 Nj2 BP (.bool js1) (.slice jo1 jn1 jc1) (.bool js2) (.slice jo2 jn2 jc2) (.bool js3) (.slice jo3 jn3 jc3)) BQ6 (.bool false) (.slice none 0 0) (.bool false) (.slice none 0 0) (.bool false) (.slice none 0 0)
         · exact num_set6 (num_set6 Nj3 BP (.bool js1) (.slice jo1 jn1 jc1) (.bool js2) (.slice jo2 jn2 jc2) (.bool js3) (.slice jo3 jn3 jc3)) BQ6 (.bool false) (.slice none 0 0) (.bool false) (.slice none 0 0) (.bool false) (.slice none 0 0)
       · have HO : Hid (meetW a b c d p q u v = .tuple #[.int .i64 2, .agg #[.int .u64 (ww3 p), .int .u64 (ww2 p), .int .u64 (ww1 p), .int .u64 (ww0 p), .int .u64 (ww3 q), .int .u64 (ww2 q), .int .u64 (ww1 q), .int .u64 (ww0 q), .int .u64 (ww3 1), .int .u64 (ww2 1), .int .u64 (ww1 1), .int .u64 (ww0 1)], .agg #[.int .u64 (ww3 c), .int .u64 (ww2 c), .int .u64 (ww1 c), .int .u64 (ww0 c), .int .u64 (ww3 d), .int .u64 (ww2 d), .int .u64 (ww1 d), .int .u64 (ww0 d), .int .u64 (ww3 1), .int .u64 (ww2 1), .int .u64 (ww1 1), .int .u64 (ww0 1)]]) := by show _ = _; rw [HW.out]; unfold alongV; rw [show (if lessI a b p q = true then p else a) = p by rw [H1.out]; rfl, show (if lessI a b p q = true then q else b) = q by rw [H1.out]; rfl, show (if lessI u v c d = true then u else c) = c by rw [H2.out]; rfl, show (if lessI u v c d = true then v else d) = d by rw [H2.out]; rfl, if_neg (by rw [hA']; rintro (h | h); exact h HT.out; cases h), if_neg hE]
         rw [show (decide (p = c) && decide (q = d)) = false by rw [← Bool.decide_and]; exact decide_eq_false hE] at EQ
         have PO := l3Spot_det p q (by omega) (by omega)
         have PL := l3Spot_det c d (by omega) (by omega)
         clear hA hA' hE BS BT
         have tok1 : True := trivial
         obtain ⟨fc0, ff0, fc1, ff1⟩ := BF.cf2; have fl := BF.lt; obtain ⟨lc0, lf0, lc1, lf1⟩ := BL.cf2; have ll := BL.lt
         go_upto_region 16 with fail
         clear fc0 ff0 fc1 ff1 fl lc0 lf0 lc1 lf1 ll EQ
         go_region_held3 (fun w' => w'.cell? ⟨gF, 0, none⟩ = some (.int .i64 p) ∧ w'.cell? ⟨gF, 1, none⟩ = some (.int .i64 q) ∧ w'.cell? ⟨gL, 0, none⟩ = some (.int .i64 c) ∧ w'.cell? ⟨gL, 1, none⟩ = some (.int .i64 d)) ((refine al_cells ?_ ?_ <;> repeat (first | (with_reducible exact BF) | (with_reducible exact BL) | (with_reducible refine Blk.drew ?_) | (with_reducible refine Blk.set6 ?_ (by omega)))))
           (first
             | (go_at_call 90; have _t := tok1; refine (PO _).mono ?_; rintro e a9 ⟨js1, jo1, jn1, jc1, jd1, js2, jo2, jn2, jc2, jd2, js3, jo3, jn3, jc3, jd3, rfl, Nj1, Nj2, Nj3, hB⟩; (first | (replace BF := BF.step hB; replace BL := BL.step hB; replace BP := BP.step hB; replace BQ := BQ.step hB; replace HB := HB.trans (hB.mono HB.size)) | (replace BF := BF.drew.step hB; replace BL := BL.drew.step hB; replace BP := BP.drew.step hB; replace BQ := BQ.drew.step hB; replace HB := HB.drew.trans (hB.mono HB.drew.size))); clear hB; clear tok1 _t)
             | (go_at_call 90; refine (PL _).mono ?_; rintro e a10 ⟨ks1, ko1, kn1, kc1, kd1, ks2, ko2, kn2, kc2, kd2, ks3, ko3, kn3, kc3, kd3, rfl, Nk1, Nk2, Nk3, hB⟩; (first | (replace BF := BF.step hB; replace BL := BL.step hB; replace BP := BP.step hB; replace BQ := BQ.step hB; replace HB := HB.trans (hB.mono HB.size)) | (replace BF := BF.drew.step hB; replace BL := BL.drew.step hB; replace BP := BP.drew.step hB; replace BQ := BQ.drew.step hB; replace HB := HB.drew.trans (hB.mono HB.drew.size))); replace Nj1 := Nj1.below hB; replace Nj2 := Nj2.below hB; replace Nj3 := Nj3.below hB; clear hB; obtain ⟨xc0, xf0, xc1, xf1, xc2, xf2, xc3, xf3, xc4, xf4, xc5, xf5⟩ := BP.cf6; have xl := BP.lt; obtain ⟨yc0, yf0, yc1, yf1, yc2, yf2, yc3, yf3, yc4, yf4, yc5, yf5⟩ := BQ.cf6; have yl := BQ.lt))
         all_goals clear BF BL PO PL
         all_goals (
           have BQ6 := BQ.set6 (g := (w.heap.size + 1 + 1)) (v0 := .bool js1) (v1 := .slice jo1 jn1 jc1) (v2 := .bool js2) (v3 := .slice jo2 jn2 jc2) (v4 := .bool js3) (v5 := .slice jo3 jn3 jc3) (by omega)
           go_wp2
           refine bodyPost_ret (v := .tuple #[.int .i64 2, .agg #[.bool js1, .slice jo1 jn1 jc1, .bool js2, .slice jo2 jn2 jc2, .bool js3, .slice jo3 jn3 jc3], .agg #[.bool ks1, .slice ko1 kn1 kc1, .bool ks2, .slice ko2 kn2 kc2, .bool ks3, .slice ko3 kn3 kc3]]) (by simp [results, Tryz.results50, go_sem, xc0, yc0, xc1, yc1, xc2, yc2, xc3, yc3, xc4, yc4, xc5, yc5]) rfl ?_
           refine ⟨?_, Or.inr (Or.inr ⟨p, q, c, d, _, _, HO.out, small_int (by omega) (by omega), small_int (by omega) (by omega), small_int (by omega) (by omega), small_int (by omega) (by omega), rfl, ⟨js1, jo1, jn1, jc1, jd1, js2, jo2, jn2, jc2, jd2, js3, jo3, jn3, jc3, jd3, rfl, ?_, ?_, ?_⟩, ks1, ko1, kn1, kc1, kd1, ks2, ko2, kn2, kc2, kd2, ks3, ko3, kn3, kc3, kd3, rfl, ?_, ?_, ?_⟩)⟩
           · repeat' (refine Below.setCell ?_ (by simp; try omega) _)
             first | exact HB | exact HB.drew
           · first | exact num_set6 (num_set6 Nj1 BP (.bool js1) (.slice jo1 jn1 jc1) (.bool js2) (.slice jo2 jn2 jc2) (.bool js3) (.slice jo3 jn3 jc3)) BQ6 (.bool ks1) (.slice ko1 kn1 kc1) (.bool ks2) (.slice ko2 kn2 kc2) (.bool ks3) (.slice ko3 kn3 kc3) | exact num_set6 (num_set6 Nj1.drew BP (.bool js1) (.slice jo1 jn1 jc1) (.bool js2) (.slice jo2 jn2 jc2) (.bool js3) (.slice jo3 jn3 jc3)) BQ6 (.bool ks1) (.slice ko1 kn1 kc1) (.bool ks2) (.slice ko2 kn2 kc2) (.bool ks3) (.slice ko3 kn3 kc3)
           · first | exact num_set6 (num_set6 Nj2 BP (.bool js1) (.slice jo1 jn1 jc1) (.bool js2) (.slice jo2 jn2 jc2) (.bool js3) (.slice jo3 jn3 jc3)) BQ6 (.bool ks1) (.slice ko1 kn1 kc1) (.bool ks2) (.slice ko2 kn2 kc2) (.bool ks3) (.slice ko3 kn3 kc3) | exact num_set6 (num_set6 Nj2.drew BP (.bool js1) (.slice jo1 jn1 jc1) (.bool js2) (.slice jo2 jn2 jc2) (.bool js3) (.slice jo3 jn3 jc3)) BQ6 (.bool ks1) (.slice ko1 kn1 kc1) (.bool ks2) (.slice ko2 kn2 kc2) (.bool ks3) (.slice ko3 kn3 kc3)
           · first | exact num_set6 (num_set6 Nj3 BP (.bool js1) (.slice jo1 jn1 jc1) (.bool js2) (.slice jo2 jn2 jc2) (.bool js3) (.slice jo3 jn3 jc3)) BQ6 (.bool ks1) (.slice ko1 kn1 kc1) (.bool ks2) (.slice ko2 kn2 kc2) (.bool ks3) (.slice ko3 kn3 kc3) | exact num_set6 (num_set6 Nj3.drew BP (.bool js1) (.slice jo1 jn1 jc1) (.bool js2) (.slice jo2 jn2 jc2) (.bool js3) (.slice jo3 jn3 jc3)) BQ6 (.bool ks1) (.slice ko1 kn1 kc1) (.bool ks2) (.slice ko2 kn2 kc2) (.bool ks3) (.slice ko3 kn3 kc3)
           · first | exact num_set6 (num_set6 Nk1 BP (.bool js1) (.slice jo1 jn1 jc1) (.bool js2) (.slice jo2 jn2 jc2) (.bool js3) (.slice jo3 jn3 jc3)) BQ6 (.bool ks1) (.slice ko1 kn1 kc1) (.bool ks2) (.slice ko2 kn2 kc2) (.bool ks3) (.slice ko3 kn3 kc3) | exact num_set6 (num_set6 Nk1.drew BP (.bool js1) (.slice jo1 jn1 jc1) (.bool js2) (.slice jo2 jn2 jc2) (.bool js3) (.slice jo3 jn3 jc3)) BQ6 (.bool ks1) (.slice ko1 kn1 kc1) (.bool ks2) (.slice ko2 kn2 kc2) (.bool ks3) (.slice ko3 kn3 kc3)
           · first | exact num_set6 (num_set6 Nk2 BP (.bool js1) (.slice jo1 jn1 jc1) (.bool js2) (.slice jo2 jn2 jc2) (.bool js3) (.slice jo3 jn3 jc3)) BQ6 (.bool ks1) (.slice ko1 kn1 kc1) (.bool ks2) (.slice ko2 kn2 kc2) (.bool ks3) (.slice ko3 kn3 kc3) | exact num_set6 (num_set6 Nk2.drew BP (.bool js1) (.slice jo1 jn1 jc1) (.bool js2) (.slice jo2 jn2 jc2) (.bool js3) (.slice jo3 jn3 jc3)) BQ6 (.bool ks1) (.slice ko1 kn1 kc1) (.bool ks2) (.slice ko2 kn2 kc2) (.bool ks3) (.slice ko3 kn3 kc3)
           · first | exact num_set6 (num_set6 Nk3 BP (.bool js1) (.slice jo1 jn1 jc1) (.bool js2) (.slice jo2 jn2 jc2) (.bool js3) (.slice jo3 jn3 jc3)) BQ6 (.bool ks1) (.slice ko1 kn1 kc1) (.bool ks2) (.slice ko2 kn2 kc2) (.bool ks3) (.slice ko3 kn3 kc3) | exact num_set6 (num_set6 Nk3.drew BP (.bool js1) (.slice jo1 jn1 jc1) (.bool js2) (.slice jo2 jn2 jc2) (.bool js3) (.slice jo3 jn3 jc3)) BQ6 (.bool ks1) (.slice ko1 kn1 kc1) (.bool ks2) (.slice ko2 kn2 kc2) (.bool ks3) (.slice ko3 kn3 kc3))
 · have h1' := Bool.eq_false_iff.2 h1
   rw [h1']
   have H1 : Hid (lessI a b p q = false) := h1'
   clear h1 h1'
   have hgLx : (w.heap.size + 1 + 1 + 1) < a1.heap.size := BQ.lt
   have hgL : gF < a1.heap.size := BF.lt
   obtain ⟨sc0, sc1, sc2, sc3⟩ := BS.cs4; have sl := BS.lt; obtain ⟨tc0, tc1, tc2, tc3⟩ := BT.cs4; have tl := BT.lt; obtain ⟨fc0, ff0, fc1, ff1⟩ := BF.cf2; have fl := BF.lt
   have gLh := HB.size
   go_wp2_with fail
   refine (l4Less_any u v c d _ rfl _).mono ?_
   rintro e a11 ⟨rfl, hB⟩
   replace BS := (BS.alloc (.cells #[.int .i64 c, .int .i64 d] 51)).step hB
   replace BT := (BT.alloc (.cells #[.int .i64 c, .int .i64 d] 51)).step hB
   replace BF := (BF.alloc (.cells #[.int .i64 c, .int .i64 d] 51)).step hB
   replace BP := (BP.alloc (.cells #[.int .i64 c, .int .i64 d] 51)).step hB
   replace BQ := (BQ.alloc (.cells #[.int .i64 c, .int .i64 d] 51)).step hB
   have BL := (Blk.new a1 [.int .i64 c, .int .i64 d] 51 rfl).step hB
   replace HB := (HB.alloc HB.size (.cells #[.int .i64 c, .int .i64 d] 51)).trans (hB.mono (HB.alloc HB.size (.cells #[.int .i64 c, .int .i64 d] 51)).size)
   clear hB sc0 sc1 sc2 sc3 sl tc0 tc1 tc2 tc3 tl fc0 ff0 fc1 ff1 fl
   have hgL2 : (w.heap.size + 1 + 1 + 1) < a1.heap.size := hgLx
   generalize a1.heap.size = gL at *
   by_cases h2 : lessI u v c d = true
   · rw [h2]
     have H2 : Hid (lessI u v c d = true) := h2
     clear h2
     obtain ⟨sc0, sc1, sc2, sc3⟩ := BS.cs4; have sl := BS.lt; obtain ⟨tc0, tc1, tc2, tc3⟩ := BT.cs4; have tl := BT.lt; obtain ⟨fc0, ff0, fc1, ff1⟩ := BF.cf2; have fl := BF.lt; obtain ⟨lc0, lf0, lc1, lf1⟩ := BL.cf2; have ll := BL.lt
     go_upto_region 12 with fail
     clear sc0 sc1 sc2 sc3 sl tc0 tc1 tc2 tc3 tl fc0 ff0 fc1 ff1 fl lc0 lf0 lc1 lf1 ll
     replace BL := BL.stored2 (.int .i64 u) (.int .i64 v)
     replace BF : Blk ((a11.setCell ⟨gL, 0, none⟩ (.int .i64 u)).setCell ⟨gL, 1, none⟩ (.int .i64 v)) _ _ := BF.set2 (by omega)
     replace BS : Blk ((a11.setCell ⟨gL, 0, none⟩ (.int .i64 u)).setCell ⟨gL, 1, none⟩ (.int .i64 v)) _ _ := BS.set2 (by omega)
     replace BT : Blk ((a11.setCell ⟨gL, 0, none⟩ (.int .i64 u)).setCell ⟨gL, 1, none⟩ (.int .i64 v)) _ _ := BT.set2 (by omega)
     replace BP : Blk ((a11.setCell ⟨gL, 0, none⟩ (.int .i64 u)).setCell ⟨gL, 1, none⟩ (.int .i64 v)) _ _ := BP.set2 (by omega)
     replace BQ : Blk ((a11.setCell ⟨gL, 0, none⟩ (.int .i64 u)).setCell ⟨gL, 1, none⟩ (.int .i64 v)) _ _ := BQ.set2 (by omega)
     replace HB : Below w.heap.size w ((a11.setCell ⟨gL, 0, none⟩ (.int .i64 u)).setCell ⟨gL, 1, none⟩ (.int .i64 v)) := Below.setCell (Below.setCell HB (by show _ ≤ gL; omega) _) (by show _ ≤ gL; omega) _
     generalize ((a11.setCell ⟨gL, 0, none⟩ (.int .i64 u)).setCell ⟨gL, 1, none⟩ (.int .i64 v)) = WN at *
     obtain ⟨sc0, sc1, sc2, sc3⟩ := BS.cs4; have sl := BS.lt; obtain ⟨tc0, tc1, tc2, tc3⟩ := BT.cs4; have tl := BT.lt; obtain ⟨fc0, ff0, fc1, ff1⟩ := BF.cf2; have fl := BF.lt; obtain ⟨lc0, lf0, lc1, lf1⟩ := BL.cf2; have ll := BL.lt
     go_wp2_with fail
     refine (l4Less_any u v a b _ rfl _).mono ?_
     rintro e a12 ⟨rfl, hB⟩
     replace BS := BS.step hB
     replace BT := BT.step hB
     replace BF := BF.step hB
     replace BL := BL.step hB
     replace BP := BP.step hB
     replace BQ := BQ.step hB
     replace HB := HB.trans (hB.mono HB.size)
     clear hB sc0 sc1 sc2 sc3 sl tc0 tc1 tc2 tc3 tl fc0 ff0 fc1 ff1 fl lc0 lf0 lc1 lf1 ll
     by_cases hA : lessI u v a b = true
     · rw [hA]
       have HO : Hid (meetW a b c d p q u v = .tuple #[.int .i64 0, .agg #[.int .u64 0, .int .u64 0, .int .u64 0, .int .u64 0, .int .u64 0, .int .u64 0, .int .u64 0, .int .u64 0, .int .u64 0, .int .u64 0, .int .u64 0, .int .u64 0], .agg #[.int .u64 0, .int .u64 0, .int .u64 0, .int .u64 0, .int .u64 0, .int .u64 0, .int .u64 0, .int .u64 0, .int .u64 0, .int .u64 0, .int .u64 0, .int .u64 0]]) := by show _ = _; rw [HW.out]; unfold alongV; rw [show (if lessI a b p q = true then p else a) = a by rw [H1.out]; rfl, show (if lessI a b p q = true then q else b) = b by rw [H1.out]; rfl, show (if lessI u v c d = true then u else c) = u by rw [H2.out]; rfl, show (if lessI u v c d = true then v else d) = v by rw [H2.out]; rfl, if_pos (Or.inr hA)]
       clear hA BS BT BF BL
       obtain ⟨xc0, xf0, xc1, xf1, xc2, xf2, xc3, xf3, xc4, xf4, xc5, xf5⟩ := BP.cf6; have xl := BP.lt; obtain ⟨yc0, yf0, yc1, yf1, yc2, yf2, yc3, yf3, yc4, yf4, yc5, yf5⟩ := BQ.cf6; have yl := BQ.lt
       go_wp2
       refine bodyPost_ret (v := .tuple #[.int .i64 0, .agg #[.bool false, .slice none 0 0, .bool false, .slice none 0 0, .bool false, .slice none 0 0], .agg #[.bool false, .slice none 0 0, .bool false, .slice none 0 0, .bool false, .slice none 0 0]]) (by simp [results, Tryz.results50, go_sem, xc0, yc0, xc1, yc1, xc2, yc2, xc3, yc3, xc4, yc4, xc5, yc5]) rfl ?_
       refine ⟨?_, Or.inl ⟨HO.out, rfl⟩⟩
       repeat' (refine Below.setCell ?_ (by simp; try omega) _)
       exact HB
     · have hA' := Bool.eq_false_iff.2 hA
       rw [hA']
       have EQ := eqSp a b u v
       by_cases hE : a = u ∧ b = v
       · have HO : Hid (meetW a b c d p q u v = .tuple #[.int .i64 1, .agg #[.int .u64 (ww3 a), .int .u64 (ww2 a), .int .u64 (ww1 a), .int .u64 (ww0 a), .int .u64 (ww3 b), .int .u64 (ww2 b), .int .u64 (ww1 b), .int .u64 (ww0 b), .int .u64 (ww3 1), .int .u64 (ww2 1), .int .u64 (ww1 1), .int .u64 (ww0 1)], .agg #[.int .u64 0, .int .u64 0, .int .u64 0, .int .u64 0, .int .u64 0, .int .u64 0, .int .u64 0, .int .u64 0, .int .u64 0, .int .u64 0, .int .u64 0, .int .u64 0]]) := by show _ = _; rw [HW.out]; unfold alongV; rw [show (if lessI a b p q = true then p else a) = a by rw [H1.out]; rfl, show (if lessI a b p q = true then q else b) = b by rw [H1.out]; rfl, show (if lessI u v c d = true then u else c) = u by rw [H2.out]; rfl, show (if lessI u v c d = true then v else d) = v by rw [H2.out]; rfl, if_neg (by rw [hA']; rintro (h | h); exact h HT.out; cases h), if_pos hE]
         rw [show (decide (a = u) && decide (b = v)) = true by rw [hE.1, hE.2]; simp] at EQ
         have PO := l3Spot_det a b (by omega) (by omega)
         clear hA hA' hE
         obtain ⟨sc0, sc1, sc2, sc3⟩ := BS.cs4; have sl := BS.lt; obtain ⟨tc0, tc1, tc2, tc3⟩ := BT.cs4; have tl := BT.lt; obtain ⟨fc0, ff0, fc1, ff1⟩ := BF.cf2; have fl := BF.lt; obtain ⟨lc0, lf0, lc1, lf1⟩ := BL.cf2; have ll := BL.lt
         go_wp2_with fail
         refine (PO _).mono ?_
         rintro e a13 ⟨js1, jo1, jn1, jc1, jd1, js2, jo2, jn2, jc2, jd2, js3, jo3, jn3, jc3, jd3, rfl, Nj1, Nj2, Nj3, hB⟩
         replace BP := BP.step hB; replace BQ := BQ.step hB; replace HB := HB.trans (hB.mono HB.size)
         clear hB sc0 sc1 sc2 sc3 sl tc0 tc1 tc2 tc3 tl fc0 ff0 fc1 ff1 fl lc0 lf0 lc1 lf1 ll BS BT BF BL PO EQ
         obtain ⟨xc0, xf0, xc1, xf1, xc2, xf2, xc3, xf3, xc4, xf4, xc5, xf5⟩ := BP.cf6; have xl := BP.lt; obtain ⟨yc0, yf0, yc1, yf1, yc2, yf2, yc3, yf3, yc4, yf4, yc5, yf5⟩ := BQ.cf6; have yl := BQ.lt
         have BQ6 := BQ.set6 (g := (w.heap.size + 1 + 1)) (v0 := .bool js1) (v1 := .slice jo1 jn1 jc1) (v2 := .bool js2) (v3 := .slice jo2 jn2 jc2) (v4 := .bool js3) (v5 := .slice jo3 jn3 jc3) (by omega)
         go_wp2
         refine bodyPost_ret (v := .tuple #[.int .i64 1, .agg #[.bool js1, .slice jo1 jn1 jc1, .bool js2, .slice jo2 jn2 jc2, .bool js3, .slice jo3 jn3 jc3], .agg #[.bool false, .slice none 0 0, .bool false, .slice none 0 0, .bool false, .slice none 0 0]]) (by simp [results, Tryz.results50, go_sem, xc0, yc0, xc1, yc1, xc2, yc2, xc3, yc3, xc4, yc4, xc5, yc5]) rfl ?_
         refine ⟨?_, Or.inr (Or.inl ⟨a, b, 1, _, HO.out, small_int (by omega) (by omega), small_int (by omega) (by omega), small_int (by omega) (by omega), rfl, js1, jo1, jn1, jc1, jd1, js2, jo2, jn2, jc2, jd2, js3, jo3, jn3, jc3, jd3, rfl, ?_, ?_, ?_⟩)⟩
         · repeat' (refine Below.setCell ?_ (by simp; try omega) _)
           exact HB
         · exact num_set6 (num_set6 Nj1 BP (.bool js1) (.slice jo1 jn1 jc1) (.bool js2) (.slice jo2 jn2 jc2) (.bool js3) (.slice jo3 jn3 jc3)) BQ6 (.bool false) (.slice none 0 0) (.bool false) (.slice none 0 0) (.bool false) (.slice none 0 0)
         · exact num_set6 (num_set6 Nj2 BP (.bool js1) (.slice jo1 jn1 jc1) (.bool js2) (.slice jo2 jn2 jc2) (.bool js3) (.slice jo3 jn3 jc3)) BQ6 (.bool false) (.slice none 0 0) (.bool false) (.slice none 0 0) (.bool false) (.slice none 0 0)
         · exact num_set6 (num_set6 Nj3 BP (.bool js1) (.slice jo1 jn1 jc1) (.bool js2) (.slice jo2 jn2 jc2) (.bool js3) (.slice jo3 jn3 jc3)) BQ6 (.bool false) (.slice none 0 0) (.bool false) (.slice none 0 0) (.bool false) (.slice none 0 0)
       · have HO : Hid (meetW a b c d p q u v = .tuple #[.int .i64 2, .agg #[.int .u64 (ww3 a), .int .u64 (ww2 a), .int .u64 (ww1 a), .int .u64 (ww0 a), .int .u64 (ww3 b), .int .u64 (ww2 b), .int .u64 (ww1 b), .int .u64 (ww0 b), .int .u64 (ww3 1), .int .u64 (ww2 1), .int .u64 (ww1 1), .int .u64 (ww0 1)], .agg #[.int .u64 (ww3 u), .int .u64 (ww2 u), .int .u64 (ww1 u), .int .u64 (ww0 u), .int .u64 (ww3 v), .int .u64 (ww2 v), .int .u64 (ww1 v), .int .u64 (ww0 v), .int .u64 (ww3 1), .int .u64 (ww2 1), .int .u64 (ww1 1), .int .u64 (ww0 1)]]) := by show _ = _; rw [HW.out]; unfold alongV; rw [show (if lessI a b p q = true then p else a) = a by rw [H1.out]; rfl, show (if lessI a b p q = true then q else b) = b by rw [H1.out]; rfl, show (if lessI u v c d = true then u else c) = u by rw [H2.out]; rfl, show (if lessI u v c d = true then v else d) = v by rw [H2.out]; rfl, if_neg (by rw [hA']; rintro (h | h); exact h HT.out; cases h), if_neg hE]
         rw [show (decide (a = u) && decide (b = v)) = false by rw [← Bool.decide_and]; exact decide_eq_false hE] at EQ
         have PO := l3Spot_det a b (by omega) (by omega)
         have PL := l3Spot_det u v (by omega) (by omega)
         clear hA hA' hE BS BT
         have tok1 : True := trivial
         obtain ⟨fc0, ff0, fc1, ff1⟩ := BF.cf2; have fl := BF.lt; obtain ⟨lc0, lf0, lc1, lf1⟩ := BL.cf2; have ll := BL.lt
         go_upto_region 16 with fail
         clear fc0 ff0 fc1 ff1 fl lc0 lf0 lc1 lf1 ll EQ
         go_region_held3 (fun w' => w'.cell? ⟨gF, 0, none⟩ = some (.int .i64 a) ∧ w'.cell? ⟨gF, 1, none⟩ = some (.int .i64 b) ∧ w'.cell? ⟨gL, 0, none⟩ = some (.int .i64 u) ∧ w'.cell? ⟨gL, 1, none⟩ = some (.int .i64 v)) ((refine al_cells ?_ ?_ <;> repeat (first | (with_reducible exact BF) | (with_reducible exact BL) | (with_reducible refine Blk.drew ?_) | (with_reducible refine Blk.set6 ?_ (by omega)))))
           (first
             | (go_at_call 90; have _t := tok1; refine (PO _).mono ?_; rintro e a14 ⟨js1, jo1, jn1, jc1, jd1, js2, jo2, jn2, jc2, jd2, js3, jo3, jn3, jc3, jd3, rfl, Nj1, Nj2, Nj3, hB⟩; (first | (replace BF := BF.step hB; replace BL := BL.step hB; replace BP := BP.step hB; replace BQ := BQ.step hB; replace HB := HB.trans (hB.mono HB.size)) | (replace BF := BF.drew.step hB; replace BL := BL.drew.step hB; replace BP := BP.drew.step hB; replace BQ := BQ.drew.step hB; replace HB := HB.drew.trans (hB.mono HB.drew.size))); clear hB; clear tok1 _t)
             | (go_at_call 90; refine (PL _).mono ?_; rintro e a15 ⟨ks1, ko1, kn1, kc1, kd1, ks2, ko2, kn2, kc2, kd2, ks3, ko3, kn3, kc3, kd3, rfl, Nk1, Nk2, Nk3, hB⟩; (first | (replace BF := BF.step hB; replace BL := BL.step hB; replace BP := BP.step hB; replace BQ := BQ.step hB; replace HB := HB.trans (hB.mono HB.size)) | (replace BF := BF.drew.step hB; replace BL := BL.drew.step hB; replace BP := BP.drew.step hB; replace BQ := BQ.drew.step hB; replace HB := HB.drew.trans (hB.mono HB.drew.size))); replace Nj1 := Nj1.below hB; replace Nj2 := Nj2.below hB; replace Nj3 := Nj3.below hB; clear hB; obtain ⟨xc0, xf0, xc1, xf1, xc2, xf2, xc3, xf3, xc4, xf4, xc5, xf5⟩ := BP.cf6; have xl := BP.lt; obtain ⟨yc0, yf0, yc1, yf1, yc2, yf2, yc3, yf3, yc4, yf4, yc5, yf5⟩ := BQ.cf6; have yl := BQ.lt))
         all_goals clear BF BL PO PL
         all_goals (
           have BQ6 := BQ.set6 (g := (w.heap.size + 1 + 1)) (v0 := .bool js1) (v1 := .slice jo1 jn1 jc1) (v2 := .bool js2) (v3 := .slice jo2 jn2 jc2) (v4 := .bool js3) (v5 := .slice jo3 jn3 jc3) (by omega)
           go_wp2
           refine bodyPost_ret (v := .tuple #[.int .i64 2, .agg #[.bool js1, .slice jo1 jn1 jc1, .bool js2, .slice jo2 jn2 jc2, .bool js3, .slice jo3 jn3 jc3], .agg #[.bool ks1, .slice ko1 kn1 kc1, .bool ks2, .slice ko2 kn2 kc2, .bool ks3, .slice ko3 kn3 kc3]]) (by simp [results, Tryz.results50, go_sem, xc0, yc0, xc1, yc1, xc2, yc2, xc3, yc3, xc4, yc4, xc5, yc5]) rfl ?_
           refine ⟨?_, Or.inr (Or.inr ⟨a, b, u, v, _, _, HO.out, small_int (by omega) (by omega), small_int (by omega) (by omega), small_int (by omega) (by omega), small_int (by omega) (by omega), rfl, ⟨js1, jo1, jn1, jc1, jd1, js2, jo2, jn2, jc2, jd2, js3, jo3, jn3, jc3, jd3, rfl, ?_, ?_, ?_⟩, ks1, ko1, kn1, kc1, kd1, ks2, ko2, kn2, kc2, kd2, ks3, ko3, kn3, kc3, kd3, rfl, ?_, ?_, ?_⟩)⟩
           · repeat' (refine Below.setCell ?_ (by simp; try omega) _)
             first | exact HB | exact HB.drew
           · first | exact num_set6 (num_set6 Nj1 BP (.bool js1) (.slice jo1 jn1 jc1) (.bool js2) (.slice jo2 jn2 jc2) (.bool js3) (.slice jo3 jn3 jc3)) BQ6 (.bool ks1) (.slice ko1 kn1 kc1) (.bool ks2) (.slice ko2 kn2 kc2) (.bool ks3) (.slice ko3 kn3 kc3) | exact num_set6 (num_set6 Nj1.drew BP (.bool js1) (.slice jo1 jn1 jc1) (.bool js2) (.slice jo2 jn2 jc2) (.bool js3) (.slice jo3 jn3 jc3)) BQ6 (.bool ks1) (.slice ko1 kn1 kc1) (.bool ks2) (.slice ko2 kn2 kc2) (.bool ks3) (.slice ko3 kn3 kc3)
           · first | exact num_set6 (num_set6 Nj2 BP (.bool js1) (.slice jo1 jn1 jc1) (.bool js2) (.slice jo2 jn2 jc2) (.bool js3) (.slice jo3 jn3 jc3)) BQ6 (.bool ks1) (.slice ko1 kn1 kc1) (.bool ks2) (.slice ko2 kn2 kc2) (.bool ks3) (.slice ko3 kn3 kc3) | exact num_set6 (num_set6 Nj2.drew BP (.bool js1) (.slice jo1 jn1 jc1) (.bool js2) (.slice jo2 jn2 jc2) (.bool js3) (.slice jo3 jn3 jc3)) BQ6 (.bool ks1) (.slice ko1 kn1 kc1) (.bool ks2) (.slice ko2 kn2 kc2) (.bool ks3) (.slice ko3 kn3 kc3)
           · first | exact num_set6 (num_set6 Nj3 BP (.bool js1) (.slice jo1 jn1 jc1) (.bool js2) (.slice jo2 jn2 jc2) (.bool js3) (.slice jo3 jn3 jc3)) BQ6 (.bool ks1) (.slice ko1 kn1 kc1) (.bool ks2) (.slice ko2 kn2 kc2) (.bool ks3) (.slice ko3 kn3 kc3) | exact num_set6 (num_set6 Nj3.drew BP (.bool js1) (.slice jo1 jn1 jc1) (.bool js2) (.slice jo2 jn2 jc2) (.bool js3) (.slice jo3 jn3 jc3)) BQ6 (.bool ks1) (.slice ko1 kn1 kc1) (.bool ks2) (.slice ko2 kn2 kc2) (.bool ks3) (.slice ko3 kn3 kc3)
           · first | exact num_set6 (num_set6 Nk1 BP (.bool js1) (.slice jo1 jn1 jc1) (.bool js2) (.slice jo2 jn2 jc2) (.bool js3) (.slice jo3 jn3 jc3)) BQ6 (.bool ks1) (.slice ko1 kn1 kc1) (.bool ks2) (.slice ko2 kn2 kc2) (.bool ks3) (.slice ko3 kn3 kc3) | exact num_set6 (num_set6 Nk1.drew BP (.bool js1) (.slice jo1 jn1 jc1) (.bool js2) (.slice jo2 jn2 jc2) (.bool js3) (.slice jo3 jn3 jc3)) BQ6 (.bool ks1) (.slice ko1 kn1 kc1) (.bool ks2) (.slice ko2 kn2 kc2) (.bool ks3) (.slice ko3 kn3 kc3)
           · first | exact num_set6 (num_set6 Nk2 BP (.bool js1) (.slice jo1 jn1 jc1) (.bool js2) (.slice jo2 jn2 jc2) (.bool js3) (.slice jo3 jn3 jc3)) BQ6 (.bool ks1) (.slice ko1 kn1 kc1) (.bool ks2) (.slice ko2 kn2 kc2) (.bool ks3) (.slice ko3 kn3 kc3) | exact num_set6 (num_set6 Nk2.drew BP (.bool js1) (.slice jo1 jn1 jc1) (.bool js2) (.slice jo2 jn2 jc2) (.bool js3) (.slice jo3 jn3 jc3)) BQ6 (.bool ks1) (.slice ko1 kn1 kc1) (.bool ks2) (.slice ko2 kn2 kc2) (.bool ks3) (.slice ko3 kn3 kc3)
           · first | exact num_set6 (num_set6 Nk3 BP (.bool js1) (.slice jo1 jn1 jc1) (.bool js2) (.slice jo2 jn2 jc2) (.bool js3) (.slice jo3 jn3 jc3)) BQ6 (.bool ks1) (.slice ko1 kn1 kc1) (.bool ks2) (.slice ko2 kn2 kc2) (.bool ks3) (.slice ko3 kn3 kc3) | exact num_set6 (num_set6 Nk3.drew BP (.bool js1) (.slice jo1 jn1 jc1) (.bool js2) (.slice jo2 jn2 jc2) (.bool js3) (.slice jo3 jn3 jc3)) BQ6 (.bool ks1) (.slice ko1 kn1 kc1) (.bool ks2) (.slice ko2 kn2 kc2) (.bool ks3) (.slice ko3 kn3 kc3))
   · have h2' := Bool.eq_false_iff.2 h2
     rw [h2']
     have H2 : Hid (lessI u v c d = false) := h2'
     clear h2 h2'
     obtain ⟨sc0, sc1, sc2, sc3⟩ := BS.cs4; have sl := BS.lt; obtain ⟨tc0, tc1, tc2, tc3⟩ := BT.cs4; have tl := BT.lt; obtain ⟨fc0, ff0, fc1, ff1⟩ := BF.cf2; have fl := BF.lt; obtain ⟨lc0, lf0, lc1, lf1⟩ := BL.cf2; have ll := BL.lt
     go_wp2_with fail
     refine (l4Less_any c d a b _ rfl _).mono ?_
     rintro e a16 ⟨rfl, hB⟩
     replace BS := BS.step hB
     replace BT := BT.step hB
     replace BF := BF.step hB
     replace BL := BL.step hB
     replace BP := BP.step hB
     replace BQ := BQ.step hB
     replace HB := HB.trans (hB.mono HB.size)
     clear hB sc0 sc1 sc2 sc3 sl tc0 tc1 tc2 tc3 tl fc0 ff0 fc1 ff1 fl lc0 lf0 lc1 lf1 ll
     by_cases hA : lessI c d a b = true
     · rw [hA]
       have HO : Hid (meetW a b c d p q u v = .tuple #[.int .i64 0, .agg #[.int .u64 0, .int .u64 0, .int .u64 0, .int .u64 0, .int .u64 0, .int .u64 0, .int .u64 0, .int .u64 0, .int .u64 0, .int .u64 0, .int .u64 0, .int .u64 0], .agg #[.int .u64 0, .int .u64 0, .int .u64 0, .int .u64 0, .int .u64 0, .int .u64 0, .int .u64 0, .int .u64 0, .int .u64 0, .int .u64 0, .int .u64 0, .int .u64 0]]) := by show _ = _; rw [HW.out]; unfold alongV; rw [show (if lessI a b p q = true then p else a) = a by rw [H1.out]; rfl, show (if lessI a b p q = true then q else b) = b by rw [H1.out]; rfl, show (if lessI u v c d = true then u else c) = c by rw [H2.out]; rfl, show (if lessI u v c d = true then v else d) = d by rw [H2.out]; rfl, if_pos (Or.inr hA)]
       clear hA BS BT BF BL
       obtain ⟨xc0, xf0, xc1, xf1, xc2, xf2, xc3, xf3, xc4, xf4, xc5, xf5⟩ := BP.cf6; have xl := BP.lt; obtain ⟨yc0, yf0, yc1, yf1, yc2, yf2, yc3, yf3, yc4, yf4, yc5, yf5⟩ := BQ.cf6; have yl := BQ.lt
       go_wp2
       refine bodyPost_ret (v := .tuple #[.int .i64 0, .agg #[.bool false, .slice none 0 0, .bool false, .slice none 0 0, .bool false, .slice none 0 0], .agg #[.bool false, .slice none 0 0, .bool false, .slice none 0 0, .bool false, .slice none 0 0]]) (by simp [results, Tryz.results50, go_sem, xc0, yc0, xc1, yc1, xc2, yc2, xc3, yc3, xc4, yc4, xc5, yc5]) rfl ?_
       refine ⟨?_, Or.inl ⟨HO.out, rfl⟩⟩
       repeat' (refine Below.setCell ?_ (by simp; try omega) _)
       exact HB
     · have hA' := Bool.eq_false_iff.2 hA
       rw [hA']
       have EQ := eqSp a b c d
       by_cases hE : a = c ∧ b = d
       · have HO : Hid (meetW a b c d p q u v = .tuple #[.int .i64 1, .agg #[.int .u64 (ww3 a), .int .u64 (ww2 a), .int .u64 (ww1 a), .int .u64 (ww0 a), .int .u64 (ww3 b), .int .u64 (ww2 b), .int .u64 (ww1 b), .int .u64 (ww0 b), .int .u64 (ww3 1), .int .u64 (ww2 1), .int .u64 (ww1 1), .int .u64 (ww0 1)], .agg #[.int .u64 0, .int .u64 0, .int .u64 0, .int .u64 0, .int .u64 0, .int .u64 0, .int .u64 0, .int .u64 0, .int .u64 0, .int .u64 0, .int .u64 0, .int .u64 0]]) := by show _ = _; rw [HW.out]; unfold alongV; rw [show (if lessI a b p q = true then p else a) = a by rw [H1.out]; rfl, show (if lessI a b p q = true then q else b) = b by rw [H1.out]; rfl, show (if lessI u v c d = true then u else c) = c by rw [H2.out]; rfl, show (if lessI u v c d = true then v else d) = d by rw [H2.out]; rfl, if_neg (by rw [hA']; rintro (h | h); exact h HT.out; cases h), if_pos hE]
         rw [show (decide (a = c) && decide (b = d)) = true by rw [hE.1, hE.2]; simp] at EQ
         have PO := l3Spot_det a b (by omega) (by omega)
         clear hA hA' hE
         obtain ⟨sc0, sc1, sc2, sc3⟩ := BS.cs4; have sl := BS.lt; obtain ⟨tc0, tc1, tc2, tc3⟩ := BT.cs4; have tl := BT.lt; obtain ⟨fc0, ff0, fc1, ff1⟩ := BF.cf2; have fl := BF.lt; obtain ⟨lc0, lf0, lc1, lf1⟩ := BL.cf2; have ll := BL.lt
         go_wp2_with fail
         refine (PO _).mono ?_
         rintro e a17 ⟨js1, jo1, jn1, jc1, jd1, js2, jo2, jn2, jc2, jd2, js3, jo3, jn3, jc3, jd3, rfl, Nj1, Nj2, Nj3, hB⟩
         replace BP := BP.step hB; replace BQ := BQ.step hB; replace HB := HB.trans (hB.mono HB.size)
         clear hB sc0 sc1 sc2 sc3 sl tc0 tc1 tc2 tc3 tl fc0 ff0 fc1 ff1 fl lc0 lf0 lc1 lf1 ll BS BT BF BL PO EQ
         obtain ⟨xc0, xf0, xc1, xf1, xc2, xf2, xc3, xf3, xc4, xf4, xc5, xf5⟩ := BP.cf6; have xl := BP.lt; obtain ⟨yc0, yf0, yc1, yf1, yc2, yf2, yc3, yf3, yc4, yf4, yc5, yf5⟩ := BQ.cf6; have yl := BQ.lt
         have BQ6 := BQ.set6 (g := (w.heap.size + 1 + 1)) (v0 := .bool js1) (v1 := .slice jo1 jn1 jc1) (v2 := .bool js2) (v3 := .slice jo2 jn2 jc2) (v4 := .bool js3) (v5 := .slice jo3 jn3 jc3) (by omega)
         go_wp2
         refine bodyPost_ret (v := .tuple #[.int .i64 1, .agg #[.bool js1, .slice jo1 jn1 jc1, .bool js2, .slice jo2 jn2 jc2, .bool js3, .slice jo3 jn3 jc3], .agg #[.bool false, .slice none 0 0, .bool false, .slice none 0 0, .bool false, .slice none 0 0]]) (by simp [results, Tryz.results50, go_sem, xc0, yc0, xc1, yc1, xc2, yc2, xc3, yc3, xc4, yc4, xc5, yc5]) rfl ?_
         refine ⟨?_, Or.inr (Or.inl ⟨a, b, 1, _, HO.out, small_int (by omega) (by omega), small_int (by omega) (by omega), small_int (by omega) (by omega), rfl, js1, jo1, jn1, jc1, jd1, js2, jo2, jn2, jc2, jd2, js3, jo3, jn3, jc3, jd3, rfl, ?_, ?_, ?_⟩)⟩
         · repeat' (refine Below.setCell ?_ (by simp; try omega) _)
           exact HB
         · exact num_set6 (num_set6 Nj1 BP (.bool js1) (.slice jo1 jn1 jc1) (.bool js2) (.slice jo2 jn2 jc2) (.bool js3) (.slice jo3 jn3 jc3)) BQ6 (.bool false) (.slice none 0 0) (.bool false) (.slice none 0 0) (.bool false) (.slice none 0 0)
         · exact num_set6 (num_set6 Nj2 BP (.bool js1) (.slice jo1 jn1 jc1) (.bool js2) (.slice jo2 jn2 jc2) (.bool js3) (.slice jo3 jn3 jc3)) BQ6 (.bool false) (.slice none 0 0) (.bool false) (.slice none 0 0) (.bool false) (.slice none 0 0)
         · exact num_set6 (num_set6 Nj3 BP (.bool js1) (.slice jo1 jn1 jc1) (.bool js2) (.slice jo2 jn2 jc2) (.bool js3) (.slice jo3 jn3 jc3)) BQ6 (.bool false) (.slice none 0 0) (.bool false) (.slice none 0 0) (.bool false) (.slice none 0 0)
       · have HO : Hid (meetW a b c d p q u v = .tuple #[.int .i64 2, .agg #[.int .u64 (ww3 a), .int .u64 (ww2 a), .int .u64 (ww1 a), .int .u64 (ww0 a), .int .u64 (ww3 b), .int .u64 (ww2 b), .int .u64 (ww1 b), .int .u64 (ww0 b), .int .u64 (ww3 1), .int .u64 (ww2 1), .int .u64 (ww1 1), .int .u64 (ww0 1)], .agg #[.int .u64 (ww3 c), .int .u64 (ww2 c), .int .u64 (ww1 c), .int .u64 (ww0 c), .int .u64 (ww3 d), .int .u64 (ww2 d), .int .u64 (ww1 d), .int .u64 (ww0 d), .int .u64 (ww3 1), .int .u64 (ww2 1), .int .u64 (ww1 1), .int .u64 (ww0 1)]]) := by show _ = _; rw [HW.out]; unfold alongV; rw [show (if lessI a b p q = true then p else a) = a by rw [H1.out]; rfl, show (if lessI a b p q = true then q else b) = b by rw [H1.out]; rfl, show (if lessI u v c d = true then u else c) = c by rw [H2.out]; rfl, show (if lessI u v c d = true then v else d) = d by rw [H2.out]; rfl, if_neg (by rw [hA']; rintro (h | h); exact h HT.out; cases h), if_neg hE]
         rw [show (decide (a = c) && decide (b = d)) = false by rw [← Bool.decide_and]; exact decide_eq_false hE] at EQ
         have PO := l3Spot_det a b (by omega) (by omega)
         have PL := l3Spot_det c d (by omega) (by omega)
         clear hA hA' hE BS BT
         have tok1 : True := trivial
         obtain ⟨fc0, ff0, fc1, ff1⟩ := BF.cf2; have fl := BF.lt; obtain ⟨lc0, lf0, lc1, lf1⟩ := BL.cf2; have ll := BL.lt
         go_upto_region 16 with fail
         clear fc0 ff0 fc1 ff1 fl lc0 lf0 lc1 lf1 ll EQ
         go_region_held3 (fun w' => w'.cell? ⟨gF, 0, none⟩ = some (.int .i64 a) ∧ w'.cell? ⟨gF, 1, none⟩ = some (.int .i64 b) ∧ w'.cell? ⟨gL, 0, none⟩ = some (.int .i64 c) ∧ w'.cell? ⟨gL, 1, none⟩ = some (.int .i64 d)) ((refine al_cells ?_ ?_ <;> repeat (first | (with_reducible exact BF) | (with_reducible exact BL) | (with_reducible refine Blk.drew ?_) | (with_reducible refine Blk.set6 ?_ (by omega)))))
           (first
             | (go_at_call 90; have _t := tok1; refine (PO _).mono ?_; rintro e a18 ⟨js1, jo1, jn1, jc1, jd1, js2, jo2, jn2, jc2, jd2, js3, jo3, jn3, jc3, jd3, rfl, Nj1, Nj2, Nj3, hB⟩; (first | (replace BF := BF.step hB; replace BL := BL.step hB; replace BP := BP.step hB; replace BQ := BQ.step hB; replace HB := HB.trans (hB.mono HB.size)) | (replace BF := BF.drew.step hB; replace BL := BL.drew.step hB; replace BP := BP.drew.step hB; replace BQ := BQ.drew.step hB; replace HB := HB.drew.trans (hB.mono HB.drew.size))); clear hB; clear tok1 _t)
             | (go_at_call 90; refine (PL _).mono ?_; rintro e a19 ⟨ks1, ko1, kn1, kc1, kd1, ks2, ko2, kn2, kc2, kd2, ks3, ko3, kn3, kc3, kd3, rfl, Nk1, Nk2, Nk3, hB⟩; (first | (replace BF := BF.step hB; replace BL := BL.step hB; replace BP := BP.step hB; replace BQ := BQ.step hB; replace HB := HB.trans (hB.mono HB.size)) | (replace BF := BF.drew.step hB; replace BL := BL.drew.step hB; replace BP := BP.drew.step hB; replace BQ := BQ.drew.step hB; replace HB := HB.drew.trans (hB.mono HB.drew.size))); replace Nj1 := Nj1.below hB; replace Nj2 := Nj2.below hB; replace Nj3 := Nj3.below hB; clear hB; obtain ⟨xc0, xf0, xc1, xf1, xc2, xf2, xc3, xf3, xc4, xf4, xc5, xf5⟩ := BP.cf6; have xl := BP.lt; obtain ⟨yc0, yf0, yc1, yf1, yc2, yf2, yc3, yf3, yc4, yf4, yc5, yf5⟩ := BQ.cf6; have yl := BQ.lt))
         all_goals clear BF BL PO PL
         all_goals (
           have BQ6 := BQ.set6 (g := (w.heap.size + 1 + 1)) (v0 := .bool js1) (v1 := .slice jo1 jn1 jc1) (v2 := .bool js2) (v3 := .slice jo2 jn2 jc2) (v4 := .bool js3) (v5 := .slice jo3 jn3 jc3) (by omega)
           go_wp2
           refine bodyPost_ret (v := .tuple #[.int .i64 2, .agg #[.bool js1, .slice jo1 jn1 jc1, .bool js2, .slice jo2 jn2 jc2, .bool js3, .slice jo3 jn3 jc3], .agg #[.bool ks1, .slice ko1 kn1 kc1, .bool ks2, .slice ko2 kn2 kc2, .bool ks3, .slice ko3 kn3 kc3]]) (by simp [results, Tryz.results50, go_sem, xc0, yc0, xc1, yc1, xc2, yc2, xc3, yc3, xc4, yc4, xc5, yc5]) rfl ?_
           refine ⟨?_, Or.inr (Or.inr ⟨a, b, c, d, _, _, HO.out, small_int (by omega) (by omega), small_int (by omega) (by omega), small_int (by omega) (by omega), small_int (by omega) (by omega), rfl, ⟨js1, jo1, jn1, jc1, jd1, js2, jo2, jn2, jc2, jd2, js3, jo3, jn3, jc3, jd3, rfl, ?_, ?_, ?_⟩, ks1, ko1, kn1, kc1, kd1, ks2, ko2, kn2, kc2, kd2, ks3, ko3, kn3, kc3, kd3, rfl, ?_, ?_, ?_⟩)⟩
           · repeat' (refine Below.setCell ?_ (by simp; try omega) _)
             first | exact HB | exact HB.drew
           · first | exact num_set6 (num_set6 Nj1 BP (.bool js1) (.slice jo1 jn1 jc1) (.bool js2) (.slice jo2 jn2 jc2) (.bool js3) (.slice jo3 jn3 jc3)) BQ6 (.bool ks1) (.slice ko1 kn1 kc1) (.bool ks2) (.slice ko2 kn2 kc2) (.bool ks3) (.slice ko3 kn3 kc3) | exact num_set6 (num_set6 Nj1.drew BP (.bool js1) (.slice jo1 jn1 jc1) (.bool js2) (.slice jo2 jn2 jc2) (.bool js3) (.slice jo3 jn3 jc3)) BQ6 (.bool ks1) (.slice ko1 kn1 kc1) (.bool ks2) (.slice ko2 kn2 kc2) (.bool ks3) (.slice ko3 kn3 kc3)
           · first | exact num_set6 (num_set6 Nj2 BP (.bool js1) (.slice jo1 jn1 jc1) (.bool js2) (.slice jo2 jn2 jc2) (.bool js3) (.slice jo3 jn3 jc3)) BQ6 (.bool ks1) (.slice ko1 kn1 kc1) (.bool ks2) (.slice ko2 kn2 kc2) (.bool ks3) (.slice ko3 kn3 kc3) | exact num_set6 (num_set6 Nj2.drew BP (.bool js1) (.slice jo1 jn1 jc1) (.bool js2) (.slice jo2 jn2 jc2) (.bool js3) (.slice jo3 jn3 jc3)) BQ6 (.bool ks1) (.slice ko1 kn1 kc1) (.bool ks2) (.slice ko2 kn2 kc2) (.bool ks3) (.slice ko3 kn3 kc3)
           · first | exact num_set6 (num_set6 Nj3 BP (.bool js1) (.slice jo1 jn1 jc1) (.bool js2) (.slice jo2 jn2 jc2) (.bool js3) (.slice jo3 jn3 jc3)) BQ6 (.bool ks1) (.slice ko1 kn1 kc1) (.bool ks2) (.slice ko2 kn2 kc2) (.bool ks3) (.slice ko3 kn3 kc3) | exact num_set6 (num_set6 Nj3.drew BP (.bool js1) (.slice jo1 jn1 jc1) (.bool js2) (.slice jo2 jn2 jc2) (.bool js3) (.slice jo3 jn3 jc3)) BQ6 (.bool ks1) (.slice ko1 kn1 kc1) (.bool ks2) (.slice ko2 kn2 kc2) (.bool ks3) (.slice ko3 kn3 kc3)
           · first | exact num_set6 (num_set6 Nk1 BP (.bool js1) (.slice jo1 jn1 jc1) (.bool js2) (.slice jo2 jn2 jc2) (.bool js3) (.slice jo3 jn3 jc3)) BQ6 (.bool ks1) (.slice ko1 kn1 kc1) (.bool ks2) (.slice ko2 kn2 kc2) (.bool ks3) (.slice ko3 kn3 kc3) | exact num_set6 (num_set6 Nk1.drew BP (.bool js1) (.slice jo1 jn1 jc1) (.bool js2) (.slice jo2 jn2 jc2) (.bool js3) (.slice jo3 jn3 jc3)) BQ6 (.bool ks1) (.slice ko1 kn1 kc1) (.bool ks2) (.slice ko2 kn2 kc2) (.bool ks3) (.slice ko3 kn3 kc3)
           · first | exact num_set6 (num_set6 Nk2 BP (.bool js1) (.slice jo1 jn1 jc1) (.bool js2) (.slice jo2 jn2 jc2) (.bool js3) (.slice jo3 jn3 jc3)) BQ6 (.bool ks1) (.slice ko1 kn1 kc1) (.bool ks2) (.slice ko2 kn2 kc2) (.bool ks3) (.slice ko3 kn3 kc3) | exact num_set6 (num_set6 Nk2.drew BP (.bool js1) (.slice jo1 jn1 jc1) (.bool js2) (.slice jo2 jn2 jc2) (.bool js3) (.slice jo3 jn3 jc3)) BQ6 (.bool ks1) (.slice ko1 kn1 kc1) (.bool ks2) (.slice ko2 kn2 kc2) (.bool ks3) (.slice ko3 kn3 kc3)
           · first | exact num_set6 (num_set6 Nk3 BP (.bool js1) (.slice jo1 jn1 jc1) (.bool js2) (.slice jo2 jn2 jc2) (.bool js3) (.slice jo3 jn3 jc3)) BQ6 (.bool ks1) (.slice ko1 kn1 kc1) (.bool ks2) (.slice ko2 kn2 kc2) (.bool ks3) (.slice ko3 kn3 kc3) | exact num_set6 (num_set6 Nk3.drew BP (.bool js1) (.slice jo1 jn1 jc1) (.bool js2) (.slice jo2 jn2 jc2) (.bool js3) (.slice jo3 jn3 jc3)) BQ6 (.bool ks1) (.slice ko1 kn1 kc1) (.bool ks2) (.slice ko2 kn2 kc2) (.bool ks3) (.slice ko3 kn3 kc3))
end Go.Proofs.YteakhlipmmfilaaGreat
