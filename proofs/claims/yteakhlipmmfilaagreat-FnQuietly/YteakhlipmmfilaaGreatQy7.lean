/- Part 7 of the walks that the proof leans on. -/
import Derived.Test.YteakhlipmmfilaaGreatQy5
import Derived.Test.YteakhlipmmfilaaGreatQy6
import Derived.Test.YteakhlipmmfilaaGreatQy3
import Derived.Deep.RegionHeld3
namespace Go.Proofs.YteakhlipmmfilaaGreat
open Go.RowKit
set_option maxRecDepth 100000 in
set_option maxHeartbeats 16000000 in
theorem l4Meet_cross (a b c d p q u v : Int) (ha : In1 a) (hb : In1 b) (hc : In1 c) (hd : In1 d) (hp : In1 p) (hq : In1 q) (hu : In1 u) (hv : In1 v) (hb0 : ¬ (turnZ a b c d p q = 0 ∧ turnZ a b c d u v = 0)) (w : World) : Calls Tryz.prog 50 #[Sg a b c d, Sg p q u v] w (MtP a b c d p q u v w) := by
 have HS1 := l4TurnZ_det a b c d p q ha hb hc hd hp hq
 have HS2 := l4TurnZ_det a b c d u v ha hb hc hd hu hv
 have HS3 := l4TurnZ_det p q u v a b hp hq hu hv ha hb
 have HS4 := l4TurnZ_det p q u v c d hp hq hu hv hc hd
 have T0 : ArgsB w ((((w.alloc (.cells #[.int .i64 a, .int .i64 b, .int .i64 c, .int .i64 d] 53)).alloc (.cells #[.int .i64 p, .int .i64 q, .int .i64 u, .int .i64 v] 53)).alloc (.cells #[.bool false, .slice none 0 0, .bool false, .slice none 0 0, .bool false, .slice none 0 0] 90)).alloc (.cells #[.bool false, .slice none 0 0, .bool false, .slice none 0 0, .bool false, .slice none 0 0] 90)) [[.int .i64 a, .int .i64 b, .int .i64 c, .int .i64 d], [.int .i64 p, .int .i64 q, .int .i64 u, .int .i64 v], [.bool false, .slice none 0 0, .bool false, .slice none 0 0, .bool false, .slice none 0 0], [.bool false, .slice none 0 0, .bool false, .slice none 0 0, .bool false, .slice none 0 0]] := ar4 _ _ _ _ _ _ _ _ w
 go_enter Tryz.func50, Tryz.ntmps50
 go_upto_region 1 with fail
 generalize ((((w.alloc (.cells #[.int .i64 a, .int .i64 b, .int .i64 c, .int .i64 d] 53)).alloc (.cells #[.int .i64 p, .int .i64 q, .int .i64 u, .int .i64 v] 53)).alloc (.cells #[.bool false, .slice none 0 0, .bool false, .slice none 0 0, .bool false, .slice none 0 0] 90)).alloc (.cells #[.bool false, .slice none 0 0, .bool false, .slice none 0 0, .bool false, .slice none 0 0] 90)) = W at *
 have Y0 : Blk _ w.heap.size _ := T0.b 0 rfl; have Y1 : Blk _ (w.heap.size + 1) _ := T0.b 1 rfl; obtain ⟨sc0, sc1, sc2, sc3⟩ := Y0.cs4; obtain ⟨tc0, tc1, tc2, tc3⟩ := Y1.cs4; clear Y0 Y1
 go_wp2_with fail
 refine (HS1 _).mono ?_
 rintro e w1 ⟨rfl, hB⟩
 replace T0 := T0.step hB
 clear hB sc0 tc0 sc1 tc1 sc2 tc2 sc3 tc3
 have Y0 : Blk _ w.heap.size _ := T0.b 0 rfl; have Y1 : Blk _ (w.heap.size + 1) _ := T0.b 1 rfl; obtain ⟨sc0, sc1, sc2, sc3⟩ := Y0.cs4; obtain ⟨tc0, tc1, tc2, tc3⟩ := Y1.cs4; clear Y0 Y1
 go_wp2_with fail
 refine (HS2 _).mono ?_
 rintro e w2 ⟨rfl, hB⟩
 replace T0 := T0.step hB
 clear hB sc0 tc0 sc1 tc1 sc2 tc2 sc3 tc3
 have Y0 : Blk _ w.heap.size _ := T0.b 0 rfl; have Y1 : Blk _ (w.heap.size + 1) _ := T0.b 1 rfl; obtain ⟨sc0, sc1, sc2, sc3⟩ := Y0.cs4; obtain ⟨tc0, tc1, tc2, tc3⟩ := Y1.cs4; clear Y0 Y1
 go_wp2_with fail
 refine (HS3 _).mono ?_
 rintro e w3 ⟨rfl, hB⟩
 replace T0 := T0.step hB
 clear hB sc0 tc0 sc1 tc1 sc2 tc2 sc3 tc3
 have Y0 : Blk _ w.heap.size _ := T0.b 0 rfl; have Y1 : Blk _ (w.heap.size + 1) _ := T0.b 1 rfl; obtain ⟨sc0, sc1, sc2, sc3⟩ := Y0.cs4; obtain ⟨tc0, tc1, tc2, tc3⟩ := Y1.cs4; clear Y0 Y1
 go_wp2_with fail
 refine (HS4 _).mono ?_
 rintro e w4 ⟨rfl, hB⟩
 replace T0 := T0.step hB
 clear hB sc0 tc0 sc1 tc1 sc2 tc2 sc3 tc3
 go_upto_region 5 with fail
 go_cut [54] (fun p' wx => p' = .bool false ∧ wx = w4)
 case first =>
   by_cases hz1 : turnZ a b c d p q = 0
   · have z1 : (sgZ (turnZ a b c d p q) == 0) = true := by rw [hz1]; rfl
     have z2 : (sgZ (turnZ a b c d u v) == 0) = false := by
       rw [beq_eq_false_iff_ne]
       intro h
       exact hb0 ⟨hz1, sgZ_z.1 h⟩
     clear hz1 hb0 HS1 HS2 HS3 HS4
     generalize sgZ (turnZ a b c d p q) = s1 at *
     generalize sgZ (turnZ a b c d u v) = s2 at *
     go_wp2_with fail
     go_meet
     exact ⟨rfl, rfl⟩
   · have z1 : (sgZ (turnZ a b c d p q) == 0) = false := by
       rw [beq_eq_false_iff_ne]
       intro h
       exact hz1 (sgZ_z.1 h)
     clear hz1 hb0 HS1 HS2 HS3 HS4
     generalize sgZ (turnZ a b c d p q) = s1 at *
     go_wp2_with fail
     go_meet
     exact ⟨rfl, rfl⟩
 case rest =>
   obtain ⟨hp', hw'⟩ := hcut
   subst hp'; subst hw'
   by_cases g1 : 0 < sgZ (turnZ a b c d p q) * sgZ (turnZ a b c d u v)
   · have HO : Hid (meetW a b c d p q u v = .tuple #[.int .i64 0, .agg #[.int .u64 0, .int .u64 0, .int .u64 0, .int .u64 0, .int .u64 0, .int .u64 0, .int .u64 0, .int .u64 0, .int .u64 0, .int .u64 0, .int .u64 0, .int .u64 0], .agg #[.int .u64 0, .int .u64 0, .int .u64 0, .int .u64 0, .int .u64 0, .int .u64 0, .int .u64 0, .int .u64 0, .int .u64 0, .int .u64 0, .int .u64 0, .int .u64 0]]) := meet_none1 hb0 g1
     have m1 := (sgZ_mul (turnZ a b c d p q) (turnZ a b c d u v)).2
     clear HS1 HS2 HS3 HS4 hb0
     generalize sgZ (turnZ a b c d p q) = s1 at *
     generalize sgZ (turnZ a b c d u v) = s2 at *
     generalize sgZ (turnZ p q u v a b) = s3 at *
     generalize sgZ (turnZ p q u v c d) = s4 at *
     have BS : Blk _ w.heap.size _ := T0.b 0 rfl; have BT : Blk _ (w.heap.size + 1) _ := T0.b 1 rfl; have BP : Blk _ (w.heap.size + 1 + 1) _ := T0.b 2 rfl; have BQ : Blk _ (w.heap.size + 1 + 1 + 1) _ := T0.b 3 rfl; have HB := T0.below
     clear T0
     clear BS BT
     obtain ⟨m12, hm12⟩ : ∃ m, s1 * s2 = m := ⟨_, rfl⟩
     rw [hm12] at g1 m1
     obtain ⟨xc0, xf0, xc1, xf1, xc2, xf2, xc3, xf3, xc4, xf4, xc5, xf5⟩ := BP.cf6; have xl := BP.lt; obtain ⟨yc0, yf0, yc1, yf1, yc2, yf2, yc3, yf3, yc4, yf4, yc5, yf5⟩ := BQ.cf6; have yl := BQ.lt
     go_wp2
     refine bodyPost_ret (v := .tuple #[.int .i64 0, .agg #[.bool false, .slice none 0 0, .bool false, .slice none 0 0, .bool false, .slice none 0 0], .agg #[.bool false, .slice none 0 0, .bool false, .slice none 0 0, .bool false, .slice none 0 0]]) (by simp [results, Tryz.results50, go_sem, xc0, yc0, xc1, yc1, xc2, yc2, xc3, yc3, xc4, yc4, xc5, yc5]) rfl ?_
     refine ⟨?_, Or.inl ⟨HO.out, rfl⟩⟩
     repeat' (refine Below.setCell ?_ (by simp; try omega) _)
     exact HB
   · by_cases g2 : 0 < sgZ (turnZ p q u v a b) * sgZ (turnZ p q u v c d)
     · have HO : Hid (meetW a b c d p q u v = .tuple #[.int .i64 0, .agg #[.int .u64 0, .int .u64 0, .int .u64 0, .int .u64 0, .int .u64 0, .int .u64 0, .int .u64 0, .int .u64 0, .int .u64 0, .int .u64 0, .int .u64 0, .int .u64 0], .agg #[.int .u64 0, .int .u64 0, .int .u64 0, .int .u64 0, .int .u64 0, .int .u64 0, .int .u64 0, .int .u64 0, .int .u64 0, .int .u64 0, .int .u64 0, .int .u64 0]]) := meet_none2 hb0 g1 g2
       have m1 := (sgZ_mul (turnZ a b c d p q) (turnZ a b c d u v)).2
       have m2 := (sgZ_mul (turnZ p q u v a b) (turnZ p q u v c d)).2
       clear HS1 HS2 HS3 HS4 hb0
       generalize sgZ (turnZ a b c d p q) = s1 at *
       generalize sgZ (turnZ a b c d u v) = s2 at *
       generalize sgZ (turnZ p q u v a b) = s3 at *
       generalize sgZ (turnZ p q u v c d) = s4 at *
       have BS : Blk _ w.heap.size _ := T0.b 0 rfl; have BT : Blk _ (w.heap.size + 1) _ := T0.b 1 rfl; have BP : Blk _ (w.heap.size + 1 + 1) _ := T0.b 2 rfl; have BQ : Blk _ (w.heap.size + 1 + 1 + 1) _ := T0.b 3 rfl; have HB := T0.below
       clear T0
       clear BS BT
       obtain ⟨m12, hm12⟩ : ∃ m, s1 * s2 = m := ⟨_, rfl⟩
       rw [hm12] at g1 m1
       obtain ⟨m34, hm34⟩ : ∃ m, s3 * s4 = m := ⟨_, rfl⟩
       rw [hm34] at g2 m2
       obtain ⟨xc0, xf0, xc1, xf1, xc2, xf2, xc3, xf3, xc4, xf4, xc5, xf5⟩ := BP.cf6; have xl := BP.lt; obtain ⟨yc0, yf0, yc1, yf1, yc2, yf2, yc3, yf3, yc4, yf4, yc5, yf5⟩ := BQ.cf6; have yl := BQ.lt
       go_wp2
       refine bodyPost_ret (v := .tuple #[.int .i64 0, .agg #[.bool false, .slice none 0 0, .bool false, .slice none 0 0, .bool false, .slice none 0 0], .agg #[.bool false, .slice none 0 0, .bool false, .slice none 0 0, .bool false, .slice none 0 0]]) (by simp [results, Tryz.results50, go_sem, xc0, yc0, xc1, yc1, xc2, yc2, xc3, yc3, xc4, yc4, xc5, yc5]) rfl ?_
       refine ⟨?_, Or.inl ⟨HO.out, rfl⟩⟩
       repeat' (refine Below.setCell ?_ (by simp; try omega) _)
       exact HB
     · have HP := meet_pt hb0 g1 g2
       have hW0 := meet_w0 hb0 g1
       have m1 := (sgZ_mul (turnZ a b c d p q) (turnZ a b c d u v)).2
       have m2 := (sgZ_mul (turnZ p q u v a b) (turnZ p q u v c d)).2
       clear HS1 HS2 HS3 HS4 hb0
       generalize sgZ (turnZ a b c d p q) = s1 at *
       generalize sgZ (turnZ a b c d u v) = s2 at *
       generalize sgZ (turnZ p q u v a b) = s3 at *
       generalize sgZ (turnZ p q u v c d) = s4 at *
       obtain ⟨m12, hm12⟩ : ∃ m, s1 * s2 = m := ⟨_, rfl⟩
       rw [hm12] at g1 m1
       obtain ⟨m34, hm34⟩ : ∃ m, s3 * s4 = m := ⟨_, rfl⟩
       rw [hm34] at g2 m2
       obtain ⟨q1, q2⟩ := mul_in (p := c - a) (q := v - q) (M := 2000000) (N := 2000000) (by omega) (by omega) (by omega) (by omega)
       obtain ⟨q3, q4⟩ := mul_in (p := d - b) (q := u - p) (M := 2000000) (N := 2000000) (by omega) (by omega) (by omega) (by omega)
       obtain ⟨q5, q6⟩ := mul_in (p := p - a) (q := v - q) (M := 2000000) (N := 2000000) (by omega) (by omega) (by omega) (by omega)
       obtain ⟨q7, q8⟩ := mul_in (p := q - b) (q := u - p) (M := 2000000) (N := 2000000) (by omega) (by omega) (by omega) (by omega)
       have eW : (c - a) * (v - q) - (d - b) * (u - p) = ((b - d) * (u - p) - (q - v) * (c - a)) := by grind
       have eX : a * ((c - a) * (v - q) - (d - b) * (u - p)) + (c - a) * ((p - a) * (v - q) - (q - b) * (u - p)) = ((c - a) * (p * v - q * u) - (u - p) * (a * d - b * c)) := by grind
       have eY : b * ((c - a) * (v - q) - (d - b) * (u - p)) + (d - b) * ((p - a) * (v - q) - (q - b) * (u - p)) = ((a * d - b * c) * (q - v) - (p * v - q * u) * (b - d)) := by grind
       have bX := bnd_x a b c d p q u v ha hb hc hd hp hq hu hv
       have bY := bnd_y a b c d p q u v ha hb hc hd hp hq hu hv
       have bW := bnd_w a b c d p q u v ha hb hc hd hp hq hu hv
       obtain ⟨pa, hpa⟩ : ∃ m, (c - a) * (v - q) = m := ⟨_, rfl⟩
       obtain ⟨pb, hpb⟩ : ∃ m, (d - b) * (u - p) = m := ⟨_, rfl⟩
       obtain ⟨pc, hpc⟩ : ∃ m, (p - a) * (v - q) = m := ⟨_, rfl⟩
       obtain ⟨pd, hpd⟩ : ∃ m, (q - b) * (u - p) = m := ⟨_, rfl⟩
       rw [hpa, hpb] at eW
       rw [hpa, hpb, hpc, hpd] at eX eY
       rw [hpa] at q1 q2
       rw [hpb] at q3 q4
       rw [hpc] at q5 q6
       rw [hpd] at q7 q8
       rw [← eX, ← eY, ← eW] at HP
       rw [← eX] at bX
       rw [← eY] at bY
       rw [← eW] at bW hW0
       have HO : Hid (meetW a b c d p q u v = .tuple #[.int .i64 1, .agg #[.int .u64 (ww3 (shareZ (a * (pa - pb) + (c - a) * (pc - pd)) (Int.gcd (Int.gcd (a * (pa - pb) + (c - a) * (pc - pd)) (b * (pa - pb) + (d - b) * (pc - pd)) : Int) (pa - pb) : Int) (decide ((pa - pb) < 0)))), .int .u64 (ww2 (shareZ (a * (pa - pb) + (c - a) * (pc - pd)) (Int.gcd (Int.gcd (a * (pa - pb) + (c - a) * (pc - pd)) (b * (pa - pb) + (d - b) * (pc - pd)) : Int) (pa - pb) : Int) (decide ((pa - pb) < 0)))), .int .u64 (ww1 (shareZ (a * (pa - pb) + (c - a) * (pc - pd)) (Int.gcd (Int.gcd (a * (pa - pb) + (c - a) * (pc - pd)) (b * (pa - pb) + (d - b) * (pc - pd)) : Int) (pa - pb) : Int) (decide ((pa - pb) < 0)))), .int .u64 (ww0 (shareZ (a * (pa - pb) + (c - a) * (pc - pd)) (Int.gcd (Int.gcd (a * (pa - pb) + (c - a) * (pc - pd)) (b * (pa - pb) + (d - b) * (pc - pd)) : Int) (pa - pb) : Int) (decide ((pa - pb) < 0)))), .int .u64 (ww3 (shareZ (b * (pa - pb) + (d - b) * (pc - pd)) (Int.gcd (Int.gcd (a * (pa - pb) + (c - a) * (pc - pd)) (b * (pa - pb) + (d - b) * (pc - pd)) : Int) (pa - pb) : Int) (decide ((pa - pb) < 0)))), .int .u64 (ww2 (shareZ (b * (pa - pb) + (d - b) * (pc - pd)) (Int.gcd (Int.gcd (a * (pa - pb) + (c - a) * (pc - pd)) (b * (pa - pb) + (d - b) * (pc - pd)) : Int) (pa - pb) : Int) (decide ((pa - pb) < 0)))), .int .u64 (ww1 (shareZ (b * (pa - pb) + (d - b) * (pc - pd)) (Int.gcd (Int.gcd (a * (pa - pb) + (c - a) * (pc - pd)) (b * (pa - pb) + (d - b) * (pc - pd)) : Int) (pa - pb) : Int) (decide ((pa - pb) < 0)))), .int .u64 (ww0 (shareZ (b * (pa - pb) + (d - b) * (pc - pd)) (Int.gcd (Int.gcd (a * (pa - pb) + (c - a) * (pc - pd)) (b * (pa - pb) + (d - b) * (pc - pd)) : Int) (pa - pb) : Int) (decide ((pa - pb) < 0)))), .int .u64 (ww3 (shareZ (pa - pb) (Int.gcd (Int.gcd (a * (pa - pb) + (c - a) * (pc - pd)) (b * (pa - pb) + (d - b) * (pc - pd)) : Int) (pa - pb) : Int) (decide ((pa - pb) < 0)))), .int .u64 (ww2 (shareZ (pa - pb) (Int.gcd (Int.gcd (a * (pa - pb) + (c - a) * (pc - pd)) (b * (pa - pb) + (d - b) * (pc - pd)) : Int) (pa - pb) : Int) (decide ((pa - pb) < 0)))), .int .u64 (ww1 (shareZ (pa - pb) (Int.gcd (Int.gcd (a * (pa - pb) + (c - a) * (pc - pd)) (b * (pa - pb) + (d - b) * (pc - pd)) : Int) (pa - pb) : Int) (decide ((pa - pb) < 0)))), .int .u64 (ww0 (shareZ (pa - pb) (Int.gcd (Int.gcd (a * (pa - pb) + (c - a) * (pc - pd)) (b * (pa - pb) + (d - b) * (pc - pd)) : Int) (pa - pb) : Int) (decide ((pa - pb) < 0))))], .agg #[.int .u64 0, .int .u64 0, .int .u64 0, .int .u64 0, .int .u64 0, .int .u64 0, .int .u64 0, .int .u64 0, .int .u64 0, .int .u64 0, .int .u64 0, .int .u64 0]]) := HP
       clear HP eX eY eW
       have D1 := fun w => int_any (pa - pb) w (by omega) (by omega)
       have D2 := fun w => int_any (pc - pd) w (by omega) (by omega)
       have tk251 : True := trivial
       have tk252 : True := trivial
       have tk261 : True := trivial
       have tk262 : True := trivial
       have Y0 : Blk _ w.heap.size _ := T0.b 0 rfl; have Y1 : Blk _ (w.heap.size + 1) _ := T0.b 1 rfl; obtain ⟨sc0, sc1, sc2, sc3⟩ := Y0.cs4; obtain ⟨tc0, tc1, tc2, tc3⟩ := Y1.cs4; clear Y0 Y1
       go_wp2_with fail
       refine (D1 _).mono ?_
       rintro e k1 ⟨ds, do1, dn, dc, dd, rfl, Md, hB⟩
       have hgd : (w.heap.size + 1 + 1 + 1) + 1 ≤ k1.heap.size := ((T0.step hB).b 3 rfl).lt
       replace T0 := (T0.step hB).alloc (.cells #[.bool ds, .slice do1 dn dc] 88)
       replace Md := Md.alloc (.cells #[.bool ds, .slice do1 dn dc] 88)
       have Bd := Blk.new k1 [.bool ds, .slice do1 dn dc] 88 rfl
       clear hB sc0 tc0 sc1 tc1 sc2 tc2 sc3 tc3 D1
       have Y0 : Blk _ w.heap.size _ := T0.b 0 rfl; have Y1 : Blk _ (w.heap.size + 1) _ := T0.b 1 rfl; obtain ⟨sc0, sc1, sc2, sc3⟩ := Y0.cs4; obtain ⟨tc0, tc1, tc2, tc3⟩ := Y1.cs4; clear Y0 Y1
       go_wp2_with fail
       refine (D2 _).mono ?_
       rintro e k2 ⟨ns, no, nn, nc, nd, rfl, Mn, hB⟩
       have hgn : k1.heap.size + 1 ≤ k2.heap.size := (Bd.step hB).lt
       replace T0 := (T0.step hB).alloc (.cells #[.bool ns, .slice no nn nc] 88)
       replace Md := (Md.below hB).alloc (.cells #[.bool ns, .slice no nn nc] 88)
       replace Bd := (Bd.step hB).alloc (.cells #[.bool ns, .slice no nn nc] 88)
       replace Mn := Mn.alloc (.cells #[.bool ns, .slice no nn nc] 88)
       have Bn := Blk.new k2 [.bool ns, .slice no nn nc] 88 rfl
       clear hB sc0 tc0 sc1 tc1 sc2 tc2 sc3 tc3 D2
       have Y0 : Blk _ w.heap.size _ := T0.b 0 rfl; have Y1 : Blk _ (w.heap.size + 1) _ := T0.b 1 rfl; obtain ⟨sc0, sc1, sc2, sc3⟩ := Y0.cs4; obtain ⟨tc0, tc1, tc2, tc3⟩ := Y1.cs4; clear Y0 Y1
       go_upto_region 25 with fail
       clear sc0 tc0 sc1 tc1 sc2 tc2 sc3 tc3
       generalize k2.alloc (.cells #[.bool ns, .slice no nn nc] 88) = W2 at *
       generalize k2.heap.size = gn at *
       generalize k1.heap.size = gd at *
       have h0 := (T0.b 3 rfl).lt
       go_cut [19] (fun p' wx => CutN w wx [[.int .i64 a, .int .i64 b, .int .i64 c, .int .i64 d], [.int .i64 p, .int .i64 q, .int .i64 u, .int .i64 v], [.bool false, .slice none 0 0, .bool false, .slice none 0 0, .bool false, .slice none 0 0], [.bool false, .slice none 0 0, .bool false, .slice none 0 0, .bool false, .slice none 0 0]] (a * (pa - pb) + (c - a) * (pc - pd)) (2 + 2 + 1) (gn + 1) p' ∧ Blk wx gd [.bool ds, .slice do1 dn dc] ∧ Blk wx gn [.bool ns, .slice no nn nc] ∧ IsNum wx ds do1 dn dc dd (pa - pb) 2 ∧ IsNum wx ns no nn nc nd (pc - pd) 2)
       case first =>
         as_aux_lemma =>
           go_region_held3 (fun w' => w'.cell? ⟨w.heap.size, 0, none⟩ = some (.int .i64 a) ∧ w'.cell? ⟨gd, 0, none⟩ = some (.bool ds) ∧ w'.cell? ⟨gd, 1, none⟩ = some (.slice do1 dn dc) ∧ w'.cell? ⟨gn, 0, none⟩ = some (.bool ns) ∧ w'.cell? ⟨gn, 1, none⟩ = some (.slice no nn nc)) ((refine m4_keep0 (a := a) (b := b) (c := c) (d := d) (p := p) (q := q) (u := u) (v := v) ?_ ?_ ?_ <;> repeat (first | (with_reducible exact T0) | (with_reducible exact Bd) | (with_reducible exact Bn) | (with_reducible refine ArgsB.drew ?_) | (with_reducible refine Blk.drew ?_) | (with_reducible refine ArgsB.alloc ?_ _) | (with_reducible refine Blk.alloc ?_ _) | (with_reducible refine ArgsB.set2g ?_ (by simp; omega) _ _) | (with_reducible refine Blk.set2 ?_ (by omega)))))
             (first
               | (go_at_call 91; have _t := tk251; refine (int_any a _ (by omega) (by omega)).mono ?_; rintro e e251 ⟨fs, fo, fn, fc, fd, rfl, Nf, hB⟩; (first | (have T1 : ArgsB w e251 _ := (by with_reducible exact T0.step hB); have tlte251 := (T0.b 3 rfl).lt; have lBde251 := Bd.lt; replace Bd := Bd.step hB; have lBne251 := Bn.lt; replace Bn := Bn.step hB; replace Md := Md.below hB; replace Mn := Mn.below hB; (try (replace G0 := G0.step hB; obtain ⟨j0c, j0f, j1c, j1f⟩ := G0.cf2; have jlt := G0.lt))) | (have T1 : ArgsB w e251 _ := (by with_reducible exact T0.drew.step hB); have tlte251 := (T0.b 3 rfl).lt; have lBde251 := Bd.lt; replace Bd := Bd.drew.step hB; have lBne251 := Bn.lt; replace Bn := Bn.drew.step hB; replace Md := Md.drew.below hB; replace Mn := Mn.drew.below hB; (try (replace G0 := G0.drew.step hB; obtain ⟨j0c, j0f, j1c, j1f⟩ := G0.cf2; have jlt := G0.lt))) | (have T1 : ArgsB w e251 _ := (by with_reducible exact (T0.alloc _).step hB); have tlte251 := (T0.b 3 rfl).lt; have lBde251 := Bd.lt; replace Bd := (Bd.alloc _).step hB; have lBne251 := Bn.lt; replace Bn := (Bn.alloc _).step hB; replace Md := (Md.alloc _).below hB; replace Mn := (Mn.alloc _).below hB; (have G0 := (Blk.new _ [.bool false, .slice none 0 0] _ rfl).step hB; obtain ⟨j0c, j0f, j1c, j1f⟩ := G0.cf2; have jlt := G0.lt)) | (have T1 : ArgsB w e251 _ := (by with_reducible exact (T0.alloc _).drew.step hB); have tlte251 := (T0.b 3 rfl).lt; have lBde251 := Bd.lt; replace Bd := (Bd.alloc _).drew.step hB; have lBne251 := Bn.lt; replace Bn := (Bn.alloc _).drew.step hB; replace Md := (Md.alloc _).drew.below hB; replace Mn := (Mn.alloc _).drew.below hB; (have G0 := (Blk.new _ [.bool false, .slice none 0 0] _ rfl).drew.step hB; obtain ⟨j0c, j0f, j1c, j1f⟩ := G0.cf2; have jlt := G0.lt))); clear T0; have T0 := T1; clear T1; clear hB tk251 _t)
               | (go_at_call 93; have _t := tk252; refine (mul_any fs ds fo do1 fn dn fc dc (2) fd dd _ _ _ (by with_reducible first | exact Nf | exact Nf.drew | exact Nf.alloc _ | exact (Nf.alloc _).drew) (by with_reducible first | exact Md | exact Md.drew | exact Md.alloc _ | exact (Md.alloc _).drew) (by omega)).mono ?_; rintro e e252 ⟨gs, go, gn, gc, gd, rfl, Ng, hB⟩; (first | (have T1 : ArgsB w e252 _ := (by with_reducible exact T0.step hB); have tlte252 := (T0.b 3 rfl).lt; have lBde252 := Bd.lt; replace Bd := Bd.step hB; have lBne252 := Bn.lt; replace Bn := Bn.step hB; replace Md := Md.below hB; replace Mn := Mn.below hB; (try (replace G0 := G0.step hB; obtain ⟨j0c, j0f, j1c, j1f⟩ := G0.cf2; have jlt := G0.lt))) | (have T1 : ArgsB w e252 _ := (by with_reducible exact T0.drew.step hB); have tlte252 := (T0.b 3 rfl).lt; have lBde252 := Bd.lt; replace Bd := Bd.drew.step hB; have lBne252 := Bn.lt; replace Bn := Bn.drew.step hB; replace Md := Md.drew.below hB; replace Mn := Mn.drew.below hB; (try (replace G0 := G0.drew.step hB; obtain ⟨j0c, j0f, j1c, j1f⟩ := G0.cf2; have jlt := G0.lt))) | (have T1 : ArgsB w e252 _ := (by with_reducible exact (T0.alloc _).step hB); have tlte252 := (T0.b 3 rfl).lt; have lBde252 := Bd.lt; replace Bd := (Bd.alloc _).step hB; have lBne252 := Bn.lt; replace Bn := (Bn.alloc _).step hB; replace Md := (Md.alloc _).below hB; replace Mn := (Mn.alloc _).below hB; (have G0 := (Blk.new _ [.bool false, .slice none 0 0] _ rfl).step hB; obtain ⟨j0c, j0f, j1c, j1f⟩ := G0.cf2; have jlt := G0.lt)) | (have T1 : ArgsB w e252 _ := (by with_reducible exact (T0.alloc _).drew.step hB); have tlte252 := (T0.b 3 rfl).lt; have lBde252 := Bd.lt; replace Bd := (Bd.alloc _).drew.step hB; have lBne252 := Bn.lt; replace Bn := (Bn.alloc _).drew.step hB; replace Md := (Md.alloc _).drew.below hB; replace Mn := (Mn.alloc _).drew.below hB; (have G0 := (Blk.new _ [.bool false, .slice none 0 0] _ rfl).drew.step hB; obtain ⟨j0c, j0f, j1c, j1f⟩ := G0.cf2; have jlt := G0.lt))); clear T0; have T0 := T1; clear T1; clear hB tk252 _t; clear Nf)
               | (go_at_call 91; refine (int_any (c - a) _ (by omega) (by omega)).mono ?_; rintro e e253 ⟨zs, zo, zn, zc, zd, rfl, Nz, hB⟩; (first | (have T1 : ArgsB w e253 _ := (by with_reducible exact T0.step hB); have tlte253 := (T0.b 3 rfl).lt; have lBde253 := Bd.lt; replace Bd := Bd.step hB; have lBne253 := Bn.lt; replace Bn := Bn.step hB; replace Md := Md.below hB; replace Mn := Mn.below hB; replace Ng := Ng.below hB; (try (replace G0 := G0.step hB; obtain ⟨j0c, j0f, j1c, j1f⟩ := G0.cf2; have jlt := G0.lt))) | (have T1 : ArgsB w e253 _ := (by with_reducible exact T0.drew.step hB); have tlte253 := (T0.b 3 rfl).lt; have lBde253 := Bd.lt; replace Bd := Bd.drew.step hB; have lBne253 := Bn.lt; replace Bn := Bn.drew.step hB; replace Md := Md.drew.below hB; replace Mn := Mn.drew.below hB; replace Ng := Ng.drew.below hB; (try (replace G0 := G0.drew.step hB; obtain ⟨j0c, j0f, j1c, j1f⟩ := G0.cf2; have jlt := G0.lt))) | (have T1 : ArgsB w e253 _ := (by with_reducible exact (T0.alloc _).step hB); have tlte253 := (T0.b 3 rfl).lt; have lBde253 := Bd.lt; replace Bd := (Bd.alloc _).step hB; have lBne253 := Bn.lt; replace Bn := (Bn.alloc _).step hB; replace Md := (Md.alloc _).below hB; replace Mn := (Mn.alloc _).below hB; replace Ng := (Ng.alloc _).below hB; (have G0 := (Blk.new _ [.bool false, .slice none 0 0] _ rfl).step hB; obtain ⟨j0c, j0f, j1c, j1f⟩ := G0.cf2; have jlt := G0.lt)) | (have T1 : ArgsB w e253 _ := (by with_reducible exact (T0.alloc _).drew.step hB); have tlte253 := (T0.b 3 rfl).lt; have lBde253 := Bd.lt; replace Bd := (Bd.alloc _).drew.step hB; have lBne253 := Bn.lt; replace Bn := (Bn.alloc _).drew.step hB; replace Md := (Md.alloc _).drew.below hB; replace Mn := (Mn.alloc _).drew.below hB; replace Ng := (Ng.alloc _).drew.below hB; (have G0 := (Blk.new _ [.bool false, .slice none 0 0] _ rfl).drew.step hB; obtain ⟨j0c, j0f, j1c, j1f⟩ := G0.cf2; have jlt := G0.lt))); clear T0; have T0 := T1; clear T1; clear hB)
               | (go_at_call 93; refine (mul_any zs ns zo no zn nn zc nc (2) zd nd _ _ _ (by with_reducible first | exact Nz | exact Nz.drew | exact Nz.alloc _ | exact (Nz.alloc _).drew) (by with_reducible first | exact Mn | exact Mn.drew | exact Mn.alloc _ | exact (Mn.alloc _).drew) (by omega)).mono ?_; rintro e e254 ⟨ls, lo, ln, lc, ld, rfl, Nl, hB⟩; (first | (have T1 : ArgsB w e254 _ := (by with_reducible exact T0.step hB); have tlte254 := (T0.b 3 rfl).lt; have lBde254 := Bd.lt; replace Bd := Bd.step hB; have lBne254 := Bn.lt; replace Bn := Bn.step hB; replace Md := Md.below hB; replace Mn := Mn.below hB; replace Ng := Ng.below hB; (try (replace G0 := G0.step hB; obtain ⟨j0c, j0f, j1c, j1f⟩ := G0.cf2; have jlt := G0.lt))) | (have T1 : ArgsB w e254 _ := (by with_reducible exact T0.drew.step hB); have tlte254 := (T0.b 3 rfl).lt; have lBde254 := Bd.lt; replace Bd := Bd.drew.step hB; have lBne254 := Bn.lt; replace Bn := Bn.drew.step hB; replace Md := Md.drew.below hB; replace Mn := Mn.drew.below hB; replace Ng := Ng.drew.below hB; (try (replace G0 := G0.drew.step hB; obtain ⟨j0c, j0f, j1c, j1f⟩ := G0.cf2; have jlt := G0.lt))) | (have T1 : ArgsB w e254 _ := (by with_reducible exact (T0.alloc _).step hB); have tlte254 := (T0.b 3 rfl).lt; have lBde254 := Bd.lt; replace Bd := (Bd.alloc _).step hB; have lBne254 := Bn.lt; replace Bn := (Bn.alloc _).step hB; replace Md := (Md.alloc _).below hB; replace Mn := (Mn.alloc _).below hB; replace Ng := (Ng.alloc _).below hB; (have G0 := (Blk.new _ [.bool false, .slice none 0 0] _ rfl).step hB; obtain ⟨j0c, j0f, j1c, j1f⟩ := G0.cf2; have jlt := G0.lt)) | (have T1 : ArgsB w e254 _ := (by with_reducible exact (T0.alloc _).drew.step hB); have tlte254 := (T0.b 3 rfl).lt; have lBde254 := Bd.lt; replace Bd := (Bd.alloc _).drew.step hB; have lBne254 := Bn.lt; replace Bn := (Bn.alloc _).drew.step hB; replace Md := (Md.alloc _).drew.below hB; replace Mn := (Mn.alloc _).drew.below hB; replace Ng := (Ng.alloc _).drew.below hB; (have G0 := (Blk.new _ [.bool false, .slice none 0 0] _ rfl).drew.step hB; obtain ⟨j0c, j0f, j1c, j1f⟩ := G0.cf2; have jlt := G0.lt))); clear T0; have T0 := T1; clear T1; clear hB; clear Nz)
               | (go_at_call 92; refine (add_any gs ls go lo gn ln gc lc (2 + 2) gd ld _ _ _ (by with_reducible first | exact Ng | exact Ng.drew | exact Ng.alloc _ | exact (Ng.alloc _).drew) (by with_reducible first | exact Nl | exact Nl.drew | exact Nl.alloc _ | exact (Nl.alloc _).drew) (by omega)).mono ?_; rintro e e255 ⟨ms, mo, mn, mc, md, rfl, Nm, hB⟩; (first | (have T1 : ArgsB w e255 _ := (by with_reducible exact T0.step hB); have tlte255 := (T0.b 3 rfl).lt; have lBde255 := Bd.lt; replace Bd := Bd.step hB; have lBne255 := Bn.lt; replace Bn := Bn.step hB; replace Md := Md.below hB; replace Mn := Mn.below hB; (try (replace G0 := G0.step hB; obtain ⟨j0c, j0f, j1c, j1f⟩ := G0.cf2; have jlt := G0.lt))) | (have T1 : ArgsB w e255 _ := (by with_reducible exact T0.drew.step hB); have tlte255 := (T0.b 3 rfl).lt; have lBde255 := Bd.lt; replace Bd := Bd.drew.step hB; have lBne255 := Bn.lt; replace Bn := Bn.drew.step hB; replace Md := Md.drew.below hB; replace Mn := Mn.drew.below hB; (try (replace G0 := G0.drew.step hB; obtain ⟨j0c, j0f, j1c, j1f⟩ := G0.cf2; have jlt := G0.lt))) | (have T1 : ArgsB w e255 _ := (by with_reducible exact (T0.alloc _).step hB); have tlte255 := (T0.b 3 rfl).lt; have lBde255 := Bd.lt; replace Bd := (Bd.alloc _).step hB; have lBne255 := Bn.lt; replace Bn := (Bn.alloc _).step hB; replace Md := (Md.alloc _).below hB; replace Mn := (Mn.alloc _).below hB; (have G0 := (Blk.new _ [.bool false, .slice none 0 0] _ rfl).step hB; obtain ⟨j0c, j0f, j1c, j1f⟩ := G0.cf2; have jlt := G0.lt)) | (have T1 : ArgsB w e255 _ := (by with_reducible exact (T0.alloc _).drew.step hB); have tlte255 := (T0.b 3 rfl).lt; have lBde255 := Bd.lt; replace Bd := (Bd.alloc _).drew.step hB; have lBne255 := Bn.lt; replace Bn := (Bn.alloc _).drew.step hB; replace Md := (Md.alloc _).drew.below hB; replace Mn := (Mn.alloc _).drew.below hB; (have G0 := (Blk.new _ [.bool false, .slice none 0 0] _ rfl).drew.step hB; obtain ⟨j0c, j0f, j1c, j1f⟩ := G0.cf2; have jlt := G0.lt))); clear T0; have T0 := T1; clear T1; clear hB; clear Ng Nl))
           all_goals go_wp2_with fail
           all_goals go_meet
           all_goals have hl := (T0.b 3 rfl).lt
           all_goals have hld := Bd.lt
           all_goals have hln := Bn.lt
           all_goals first | (with_reducible exact ⟨cutN_new T0 Nm (by omega), Bd.alloc _, Bn.alloc _, Md.alloc _, Mn.alloc _⟩) | (with_reducible exact ⟨cutN_set T0 Nm G0 (by omega) (by simp; omega), Bd.set2 (by omega), Bn.set2 (by omega), Md.set2 G0 _ _, Mn.set2 G0 _ _⟩)
       case rest =>
         clear T0 h0 tk251 tk252 Bd Bn Md Mn
         obtain ⟨⟨gx, xs, xo, xn, xc, xd, hp', hgx, Bx, Mx, T0⟩, Bd, Bn, Md, Mn⟩ := hcut
         subst hp'
         have h0 := (T0.b 3 rfl).lt
         have Y0 : Blk _ w.heap.size _ := T0.b 0 rfl; have Y1 : Blk _ (w.heap.size + 1) _ := T0.b 1 rfl; obtain ⟨sc0, sc1, sc2, sc3⟩ := Y0.cs4; obtain ⟨tc0, tc1, tc2, tc3⟩ := Y1.cs4; clear Y0 Y1
         go_upto_region 26 with fail
         clear sc0 tc0 sc1 tc1 sc2 tc2 sc3 tc3
         go_cut [20] (fun p' wx => CutN w wx [[.int .i64 a, .int .i64 b, .int .i64 c, .int .i64 d], [.int .i64 p, .int .i64 q, .int .i64 u, .int .i64 v], [.bool false, .slice none 0 0, .bool false, .slice none 0 0, .bool false, .slice none 0 0], [.bool false, .slice none 0 0, .bool false, .slice none 0 0, .bool false, .slice none 0 0]] (b * (pa - pb) + (d - b) * (pc - pd)) (2 + 2 + 1) (gx + 1) p' ∧ Blk wx gd [.bool ds, .slice do1 dn dc] ∧ Blk wx gn [.bool ns, .slice no nn nc] ∧ Blk wx gx [.bool xs, .slice xo xn xc] ∧ IsNum wx ds do1 dn dc dd (pa - pb) 2 ∧ IsNum wx ns no nn nc nd (pc - pd) 2 ∧ IsNum wx xs xo xn xc xd (a * (pa - pb) + (c - a) * (pc - pd)) (2 + 2 + 1))
         case first =>
           as_aux_lemma =>
             go_region_held3 (fun w' => w'.cell? ⟨w.heap.size, 1, none⟩ = some (.int .i64 b) ∧ w'.cell? ⟨gd, 0, none⟩ = some (.bool ds) ∧ w'.cell? ⟨gd, 1, none⟩ = some (.slice do1 dn dc) ∧ w'.cell? ⟨gn, 0, none⟩ = some (.bool ns) ∧ w'.cell? ⟨gn, 1, none⟩ = some (.slice no nn nc)) ((refine m4_keep1 (a := a) (b := b) (c := c) (d := d) (p := p) (q := q) (u := u) (v := v) ?_ ?_ ?_ <;> repeat (first | (with_reducible exact T0) | (with_reducible exact Bd) | (with_reducible exact Bn) | (with_reducible refine ArgsB.drew ?_) | (with_reducible refine Blk.drew ?_) | (with_reducible refine ArgsB.alloc ?_ _) | (with_reducible refine Blk.alloc ?_ _) | (with_reducible refine ArgsB.set2g ?_ (by simp; omega) _ _) | (with_reducible refine Blk.set2 ?_ (by omega)))))
               (first
                 | (go_at_call 91; have _t := tk261; refine (int_any b _ (by omega) (by omega)).mono ?_; rintro e e261 ⟨fs, fo, fn, fc, fd, rfl, Nf, hB⟩; (first | (have T1 : ArgsB w e261 _ := (by with_reducible exact T0.step hB); have tlte261 := (T0.b 3 rfl).lt; have lBde261 := Bd.lt; replace Bd := Bd.step hB; have lBne261 := Bn.lt; replace Bn := Bn.step hB; have lBxe261 := Bx.lt; replace Bx := Bx.step hB; replace Md := Md.below hB; replace Mn := Mn.below hB; replace Mx := Mx.below hB; (try (replace G0 := G0.step hB; obtain ⟨j0c, j0f, j1c, j1f⟩ := G0.cf2; have jlt := G0.lt))) | (have T1 : ArgsB w e261 _ := (by with_reducible exact T0.drew.step hB); have tlte261 := (T0.b 3 rfl).lt; have lBde261 := Bd.lt; replace Bd := Bd.drew.step hB; have lBne261 := Bn.lt; replace Bn := Bn.drew.step hB; have lBxe261 := Bx.lt; replace Bx := Bx.drew.step hB; replace Md := Md.drew.below hB; replace Mn := Mn.drew.below hB; replace Mx := Mx.drew.below hB; (try (replace G0 := G0.drew.step hB; obtain ⟨j0c, j0f, j1c, j1f⟩ := G0.cf2; have jlt := G0.lt))) | (have T1 : ArgsB w e261 _ := (by with_reducible exact (T0.alloc _).step hB); have tlte261 := (T0.b 3 rfl).lt; have lBde261 := Bd.lt; replace Bd := (Bd.alloc _).step hB; have lBne261 := Bn.lt; replace Bn := (Bn.alloc _).step hB; have lBxe261 := Bx.lt; replace Bx := (Bx.alloc _).step hB; replace Md := (Md.alloc _).below hB; replace Mn := (Mn.alloc _).below hB; replace Mx := (Mx.alloc _).below hB; (have G0 := (Blk.new _ [.bool false, .slice none 0 0] _ rfl).step hB; obtain ⟨j0c, j0f, j1c, j1f⟩ := G0.cf2; have jlt := G0.lt)) | (have T1 : ArgsB w e261 _ := (by with_reducible exact (T0.alloc _).drew.step hB); have tlte261 := (T0.b 3 rfl).lt; have lBde261 := Bd.lt; replace Bd := (Bd.alloc _).drew.step hB; have lBne261 := Bn.lt; replace Bn := (Bn.alloc _).drew.step hB; have lBxe261 := Bx.lt; replace Bx := (Bx.alloc _).drew.step hB; replace Md := (Md.alloc _).drew.below hB; replace Mn := (Mn.alloc _).drew.below hB; replace Mx := (Mx.alloc _).drew.below hB; (have G0 := (Blk.new _ [.bool false, .slice none 0 0] _ rfl).drew.step hB; obtain ⟨j0c, j0f, j1c, j1f⟩ := G0.cf2; have jlt := G0.lt))); clear T0; have T0 := T1; clear T1; clear hB tk261 _t)
                 | (go_at_call 93; have _t := tk262; refine (mul_any fs ds fo do1 fn dn fc dc (2) fd dd _ _ _ (by with_reducible first | exact Nf | exact Nf.drew | exact Nf.alloc _ | exact (Nf.alloc _).drew) (by with_reducible first | exact Md | exact Md.drew | exact Md.alloc _ | exact (Md.alloc _).drew) (by omega)).mono ?_; rintro e e262 ⟨gs, go, gn, gc, gd, rfl, Ng, hB⟩; (first | (have T1 : ArgsB w e262 _ := (by with_reducible exact T0.step hB); have tlte262 := (T0.b 3 rfl).lt; have lBde262 := Bd.lt; replace Bd := Bd.step hB; have lBne262 := Bn.lt; replace Bn := Bn.step hB; have lBxe262 := Bx.lt; replace Bx := Bx.step hB; replace Md := Md.below hB; replace Mn := Mn.below hB; replace Mx := Mx.below hB; (try (replace G0 := G0.step hB; obtain ⟨j0c, j0f, j1c, j1f⟩ := G0.cf2; have jlt := G0.lt))) | (have T1 : ArgsB w e262 _ := (by with_reducible exact T0.drew.step hB); have tlte262 := (T0.b 3 rfl).lt; have lBde262 := Bd.lt; replace Bd := Bd.drew.step hB; have lBne262 := Bn.lt; replace Bn := Bn.drew.step hB; have lBxe262 := Bx.lt; replace Bx := Bx.drew.step hB; replace Md := Md.drew.below hB; replace Mn := Mn.drew.below hB; replace Mx := Mx.drew.below hB; (try (replace G0 := G0.drew.step hB; obtain ⟨j0c, j0f, j1c, j1f⟩ := G0.cf2; have jlt := G0.lt))) | (have T1 : ArgsB w e262 _ := (by with_reducible exact (T0.alloc _).step hB); have tlte262 := (T0.b 3 rfl).lt; have lBde262 := Bd.lt; replace Bd := (Bd.alloc _).step hB; have lBne262 := Bn.lt; replace Bn := (Bn.alloc _).step hB; have lBxe262 := Bx.lt; replace Bx := (Bx.alloc _).step hB; replace Md := (Md.alloc _).below hB; replace Mn := (Mn.alloc _).below hB; replace Mx := (Mx.alloc _).below hB; (have G0 := (Blk.new _ [.bool false, .slice none 0 0] _ rfl).step hB; obtain ⟨j0c, j0f, j1c, j1f⟩ := G0.cf2; have jlt := G0.lt)) | (have T1 : ArgsB w e262 _ := (by with_reducible exact (T0.alloc _).drew.step hB); have tlte262 := (T0.b 3 rfl).lt; have lBde262 := Bd.lt; replace Bd := (Bd.alloc _).drew.step hB; have lBne262 := Bn.lt; replace Bn := (Bn.alloc _).drew.step hB; have lBxe262 := Bx.lt; replace Bx := (Bx.alloc _).drew.step hB; replace Md := (Md.alloc _).drew.below hB; replace Mn := (Mn.alloc _).drew.below hB; replace Mx := (Mx.alloc _).drew.below hB; (have G0 := (Blk.new _ [.bool false, .slice none 0 0] _ rfl).drew.step hB; obtain ⟨j0c, j0f, j1c, j1f⟩ := G0.cf2; have jlt := G0.lt))); clear T0; have T0 := T1; clear T1; clear hB tk262 _t; clear Nf)
                 | (go_at_call 91; refine (int_any (d - b) _ (by omega) (by omega)).mono ?_; rintro e e263 ⟨zs, zo, zn, zc, zd, rfl, Nz, hB⟩; (first | (have T1 : ArgsB w e263 _ := (by with_reducible exact T0.step hB); have tlte263 := (T0.b 3 rfl).lt; have lBde263 := Bd.lt; replace Bd := Bd.step hB; have lBne263 := Bn.lt; replace Bn := Bn.step hB; have lBxe263 := Bx.lt; replace Bx := Bx.step hB; replace Md := Md.below hB; replace Mn := Mn.below hB; replace Mx := Mx.below hB; replace Ng := Ng.below hB; (try (replace G0 := G0.step hB; obtain ⟨j0c, j0f, j1c, j1f⟩ := G0.cf2; have jlt := G0.lt))) | (have T1 : ArgsB w e263 _ := (by with_reducible exact T0.drew.step hB); have tlte263 := (T0.b 3 rfl).lt; have lBde263 := Bd.lt; replace Bd := Bd.drew.step hB; have lBne263 := Bn.lt; replace Bn := Bn.drew.step hB; have lBxe263 := Bx.lt; replace Bx := Bx.drew.step hB; replace Md := Md.drew.below hB; replace Mn := Mn.drew.below hB; replace Mx := Mx.drew.below hB; replace Ng := Ng.drew.below hB; (try (replace G0 := G0.drew.step hB; obtain ⟨j0c, j0f, j1c, j1f⟩ := G0.cf2; have jlt := G0.lt))) | (have T1 : ArgsB w e263 _ := (by with_reducible exact (T0.alloc _).step hB); have tlte263 := (T0.b 3 rfl).lt; have lBde263 := Bd.lt; replace Bd := (Bd.alloc _).step hB; have lBne263 := Bn.lt; replace Bn := (Bn.alloc _).step hB; have lBxe263 := Bx.lt; replace Bx := (Bx.alloc _).step hB; replace Md := (Md.alloc _).below hB; replace Mn := (Mn.alloc _).below hB; replace Mx := (Mx.alloc _).below hB; replace Ng := (Ng.alloc _).below hB; (have G0 := (Blk.new _ [.bool false, .slice none 0 0] _ rfl).step hB; obtain ⟨j0c, j0f, j1c, j1f⟩ := G0.cf2; have jlt := G0.lt)) | (have T1 : ArgsB w e263 _ := (by with_reducible exact (T0.alloc _).drew.step hB); have tlte263 := (T0.b 3 rfl).lt; have lBde263 := Bd.lt; replace Bd := (Bd.alloc _).drew.step hB; have lBne263 := Bn.lt; replace Bn := (Bn.alloc _).drew.step hB; have lBxe263 := Bx.lt; replace Bx := (Bx.alloc _).drew.step hB; replace Md := (Md.alloc _).drew.below hB; replace Mn := (Mn.alloc _).drew.below hB; replace Mx := (Mx.alloc _).drew.below hB; replace Ng := (Ng.alloc _).drew.below hB; (have G0 := (Blk.new _ [.bool false, .slice none 0 0] _ rfl).drew.step hB; obtain ⟨j0c, j0f, j1c, j1f⟩ := G0.cf2; have jlt := G0.lt))); clear T0; have T0 := T1; clear T1; clear hB)
                 | (go_at_call 93; refine (mul_any zs ns zo no zn nn zc nc (2) zd nd _ _ _ (by with_reducible first | exact Nz | exact Nz.drew | exact Nz.alloc _ | exact (Nz.alloc _).drew) (by with_reducible first | exact Mn | exact Mn.drew | exact Mn.alloc _ | exact (Mn.alloc _).drew) (by omega)).mono ?_; rintro e e264 ⟨ls, lo, ln, lc, ld, rfl, Nl, hB⟩; (first | (have T1 : ArgsB w e264 _ := (by with_reducible exact T0.step hB); have tlte264 := (T0.b 3 rfl).lt; have lBde264 := Bd.lt; replace Bd := Bd.step hB; have lBne264 := Bn.lt; replace Bn := Bn.step hB; have lBxe264 := Bx.lt; replace Bx := Bx.step hB; replace Md := Md.below hB; replace Mn := Mn.below hB; replace Mx := Mx.below hB; replace Ng := Ng.below hB; (try (replace G0 := G0.step hB; obtain ⟨j0c, j0f, j1c, j1f⟩ := G0.cf2; have jlt := G0.lt))) | (have T1 : ArgsB w e264 _ := (by with_reducible exact T0.drew.step hB); have tlte264 := (T0.b 3 rfl).lt; have lBde264 := Bd.lt; replace Bd := Bd.drew.step hB; have lBne264 := Bn.lt; replace Bn := Bn.drew.step hB; have lBxe264 := Bx.lt; replace Bx := Bx.drew.step hB; replace Md := Md.drew.below hB; replace Mn := Mn.drew.below hB; replace Mx := Mx.drew.below hB; replace Ng := Ng.drew.below hB; (try (replace G0 := G0.drew.step hB; obtain ⟨j0c, j0f, j1c, j1f⟩ := G0.cf2; have jlt := G0.lt))) | (have T1 : ArgsB w e264 _ := (by with_reducible exact (T0.alloc _).step hB); have tlte264 := (T0.b 3 rfl).lt; have lBde264 := Bd.lt; replace Bd := (Bd.alloc _).step hB; have lBne264 := Bn.lt; replace Bn := (Bn.alloc _).step hB; have lBxe264 := Bx.lt; replace Bx := (Bx.alloc _).step hB; replace Md := (Md.alloc _).below hB; replace Mn := (Mn.alloc _).below hB; replace Mx := (Mx.alloc _).below hB; replace Ng := (Ng.alloc _).below hB; (have G0 := (Blk.new _ [.bool false, .slice none 0 0] _ rfl).step hB; obtain ⟨j0c, j0f, j1c, j1f⟩ := G0.cf2; have jlt := G0.lt)) | (have T1 : ArgsB w e264 _ := (by with_reducible exact (T0.alloc _).drew.step hB); have tlte264 := (T0.b 3 rfl).lt; have lBde264 := Bd.lt; replace Bd := (Bd.alloc _).drew.step hB; have lBne264 := Bn.lt; replace Bn := (Bn.alloc _).drew.step hB; have lBxe264 := Bx.lt; replace Bx := (Bx.alloc _).drew.step hB; replace Md := (Md.alloc _).drew.below hB; replace Mn := (Mn.alloc _).drew.below hB; replace Mx := (Mx.alloc _).drew.below hB; replace Ng := (Ng.alloc _).drew.below hB; (have G0 := (Blk.new _ [.bool false, .slice none 0 0] _ rfl).drew.step hB; obtain ⟨j0c, j0f, j1c, j1f⟩ := G0.cf2; have jlt := G0.lt))); clear T0; have T0 := T1; clear T1; clear hB; clear Nz)
                 | (go_at_call 92; refine (add_any gs ls go lo gn ln gc lc (2 + 2) gd ld _ _ _ (by with_reducible first | exact Ng | exact Ng.drew | exact Ng.alloc _ | exact (Ng.alloc _).drew) (by with_reducible first | exact Nl | exact Nl.drew | exact Nl.alloc _ | exact (Nl.alloc _).drew) (by omega)).mono ?_; rintro e e265 ⟨ms, mo, mn, mc, md, rfl, Nm, hB⟩; (first | (have T1 : ArgsB w e265 _ := (by with_reducible exact T0.step hB); have tlte265 := (T0.b 3 rfl).lt; have lBde265 := Bd.lt; replace Bd := Bd.step hB; have lBne265 := Bn.lt; replace Bn := Bn.step hB; have lBxe265 := Bx.lt; replace Bx := Bx.step hB; replace Md := Md.below hB; replace Mn := Mn.below hB; replace Mx := Mx.below hB; (try (replace G0 := G0.step hB; obtain ⟨j0c, j0f, j1c, j1f⟩ := G0.cf2; have jlt := G0.lt))) | (have T1 : ArgsB w e265 _ := (by with_reducible exact T0.drew.step hB); have tlte265 := (T0.b 3 rfl).lt; have lBde265 := Bd.lt; replace Bd := Bd.drew.step hB; have lBne265 := Bn.lt; replace Bn := Bn.drew.step hB; have lBxe265 := Bx.lt; replace Bx := Bx.drew.step hB; replace Md := Md.drew.below hB; replace Mn := Mn.drew.below hB; replace Mx := Mx.drew.below hB; (try (replace G0 := G0.drew.step hB; obtain ⟨j0c, j0f, j1c, j1f⟩ := G0.cf2; have jlt := G0.lt))) | (have T1 : ArgsB w e265 _ := (by with_reducible exact (T0.alloc _).step hB); have tlte265 := (T0.b 3 rfl).lt; have lBde265 := Bd.lt; replace Bd := (Bd.alloc _).step hB; have lBne265 := Bn.lt; replace Bn := (Bn.alloc _).step hB; have lBxe265 := Bx.lt; replace Bx := (Bx.alloc _).step hB; replace Md := (Md.alloc _).below hB; replace Mn := (Mn.alloc _).below hB; replace Mx := (Mx.alloc _).below hB; (have G0 := (Blk.new _ [.bool false, .slice none 0 0] _ rfl).step hB; obtain ⟨j0c, j0f, j1c, j1f⟩ := G0.cf2; have jlt := G0.lt)) | (have T1 : ArgsB w e265 _ := (by with_reducible exact (T0.alloc _).drew.step hB); have tlte265 := (T0.b 3 rfl).lt; have lBde265 := Bd.lt; replace Bd := (Bd.alloc _).drew.step hB; have lBne265 := Bn.lt; replace Bn := (Bn.alloc _).drew.step hB; have lBxe265 := Bx.lt; replace Bx := (Bx.alloc _).drew.step hB; replace Md := (Md.alloc _).drew.below hB; replace Mn := (Mn.alloc _).drew.below hB; replace Mx := (Mx.alloc _).drew.below hB; (have G0 := (Blk.new _ [.bool false, .slice none 0 0] _ rfl).drew.step hB; obtain ⟨j0c, j0f, j1c, j1f⟩ := G0.cf2; have jlt := G0.lt))); clear T0; have T0 := T1; clear T1; clear hB; clear Ng Nl))
             all_goals go_wp2_with fail
             all_goals go_meet
             all_goals have hl := (T0.b 3 rfl).lt
             all_goals have hld := Bd.lt
             all_goals have hln := Bn.lt
             all_goals have hlx := Bx.lt
             all_goals first | (with_reducible exact ⟨cutN_new T0 Nm (by omega), Bd.alloc _, Bn.alloc _, Bx.alloc _, Md.alloc _, Mn.alloc _, Mx.alloc _⟩) | (with_reducible exact ⟨cutN_set T0 Nm G0 (by omega) (by simp; omega), Bd.set2 (by omega), Bn.set2 (by omega), Bx.set2 (by omega), Md.set2 G0 _ _, Mn.set2 G0 _ _, Mx.set2 G0 _ _⟩)
         case rest =>
           clear T0 h0 tk261 tk262 Bd Bn Md Mn Bx Mx
           obtain ⟨⟨gy, ys, yo, yn, yc, yd, hp', hgy, By, My, T0⟩, Bd, Bn, Bx, Md, Mn, Mx⟩ := hcut
           subst hp'
           have LM := fun w N1 N2 N3 => l3Make_any xs xo xn xc xd ys yo yn yc yd ds do1 dn dc dd (a * (pa - pb) + (c - a) * (pc - pd)) (b * (pa - pb) + (d - b) * (pc - pd)) (pa - pb) 5 (by omega) (by omega) w N1 N2 N3 hW0
           have sx := share_abs (n := (a * (pa - pb) + (c - a) * (pc - pd))) (g := (Int.gcd (Int.gcd (a * (pa - pb) + (c - a) * (pc - pd)) (b * (pa - pb) + (d - b) * (pc - pd)) : Int) (pa - pb) : Int)) (b := decide ((pa - pb) < 0)) (by have := Int.gcd_pos_of_ne_zero_right (Int.gcd (a * (pa - pb) + (c - a) * (pc - pd)) (b * (pa - pb) + (d - b) * (pc - pd)) : Int) hW0; omega)
           have sy := share_abs (n := (b * (pa - pb) + (d - b) * (pc - pd))) (g := (Int.gcd (Int.gcd (a * (pa - pb) + (c - a) * (pc - pd)) (b * (pa - pb) + (d - b) * (pc - pd)) : Int) (pa - pb) : Int)) (b := decide ((pa - pb) < 0)) (by have := Int.gcd_pos_of_ne_zero_right (Int.gcd (a * (pa - pb) + (c - a) * (pc - pd)) (b * (pa - pb) + (d - b) * (pc - pd)) : Int) hW0; omega)
           have sz := share_abs (n := (pa - pb)) (g := (Int.gcd (Int.gcd (a * (pa - pb) + (c - a) * (pc - pd)) (b * (pa - pb) + (d - b) * (pc - pd)) : Int) (pa - pb) : Int)) (b := decide ((pa - pb) < 0)) (by have := Int.gcd_pos_of_ne_zero_right (Int.gcd (a * (pa - pb) + (c - a) * (pc - pd)) (b * (pa - pb) + (d - b) * (pc - pd)) : Int) hW0; omega)
           have k1' : small (shareZ (a * (pa - pb) + (c - a) * (pc - pd)) (Int.gcd (Int.gcd (a * (pa - pb) + (c - a) * (pc - pd)) (b * (pa - pb) + (d - b) * (pc - pd)) : Int) (pa - pb) : Int) (decide ((pa - pb) < 0))) = true := small_int (by omega) (by omega)
           have k2' : small (shareZ (b * (pa - pb) + (d - b) * (pc - pd)) (Int.gcd (Int.gcd (a * (pa - pb) + (c - a) * (pc - pd)) (b * (pa - pb) + (d - b) * (pc - pd)) : Int) (pa - pb) : Int) (decide ((pa - pb) < 0))) = true := small_int (by omega) (by omega)
           have k3' : small (shareZ (pa - pb) (Int.gcd (Int.gcd (a * (pa - pb) + (c - a) * (pc - pd)) (b * (pa - pb) + (d - b) * (pc - pd)) : Int) (pa - pb) : Int) (decide ((pa - pb) < 0))) = true := small_int (by omega) (by omega)
           clear sx sy sz
           generalize (shareZ (a * (pa - pb) + (c - a) * (pc - pd)) (Int.gcd (Int.gcd (a * (pa - pb) + (c - a) * (pc - pd)) (b * (pa - pb) + (d - b) * (pc - pd)) : Int) (pa - pb) : Int) (decide ((pa - pb) < 0))) = rx at *
           generalize (shareZ (b * (pa - pb) + (d - b) * (pc - pd)) (Int.gcd (Int.gcd (a * (pa - pb) + (c - a) * (pc - pd)) (b * (pa - pb) + (d - b) * (pc - pd)) : Int) (pa - pb) : Int) (decide ((pa - pb) < 0))) = ry at *
           generalize (shareZ (pa - pb) (Int.gcd (Int.gcd (a * (pa - pb) + (c - a) * (pc - pd)) (b * (pa - pb) + (d - b) * (pc - pd)) : Int) (pa - pb) : Int) (decide ((pa - pb) < 0))) = rz at *
           have xc0' := Bx.c 0 rfl; have xc1' := Bx.c 1 rfl; have yc0' := By.c 0 rfl; have yc1' := By.c 1 rfl; have dc0' := Bd.c 0 rfl; have dc1' := Bd.c 1 rfl
           go_wp2_with fail
           refine (LM _ Mx My (num_more Md (by omega))).mono ?_
           rintro e k9 ⟨js1, jo1, jn1, jc1, jd1, js2, jo2, jn2, jc2, jd2, js3, jo3, jn3, jc3, jd3, rfl, Nj1, Nj2, Nj3, hB⟩
           replace T0 := T0.step hB
           clear hB LM xc0' xc1' yc0' yc1' dc0' dc1' Bx By Bd Bn Mx My Md Mn
           have BS : Blk _ w.heap.size _ := T0.b 0 rfl; have BT : Blk _ (w.heap.size + 1) _ := T0.b 1 rfl; have BP : Blk _ (w.heap.size + 1 + 1) _ := T0.b 2 rfl; have BQ : Blk _ (w.heap.size + 1 + 1 + 1) _ := T0.b 3 rfl; have HB := T0.below
           clear T0
           clear BS BT
           obtain ⟨xc0, xf0, xc1, xf1, xc2, xf2, xc3, xf3, xc4, xf4, xc5, xf5⟩ := BP.cf6; have xl := BP.lt; obtain ⟨yc0, yf0, yc1, yf1, yc2, yf2, yc3, yf3, yc4, yf4, yc5, yf5⟩ := BQ.cf6; have yl := BQ.lt
           have BQ6 := BQ.set6 (g := (w.heap.size + 1 + 1)) (v0 := .bool js1) (v1 := .slice jo1 jn1 jc1) (v2 := .bool js2) (v3 := .slice jo2 jn2 jc2) (v4 := .bool js3) (v5 := .slice jo3 jn3 jc3) (by omega)
           go_wp2
           refine bodyPost_ret (v := .tuple #[.int .i64 1, .agg #[.bool js1, .slice jo1 jn1 jc1, .bool js2, .slice jo2 jn2 jc2, .bool js3, .slice jo3 jn3 jc3], .agg #[.bool false, .slice none 0 0, .bool false, .slice none 0 0, .bool false, .slice none 0 0]]) (by simp [results, Tryz.results50, go_sem, xc0, yc0, xc1, yc1, xc2, yc2, xc3, yc3, xc4, yc4, xc5, yc5]) rfl ?_
           refine ⟨?_, Or.inr (Or.inl ⟨rx, ry, rz, _, HO.out, k1', k2', k3', rfl, js1, jo1, jn1, jc1, jd1, js2, jo2, jn2, jc2, jd2, js3, jo3, jn3, jc3, jd3, rfl, ?_, ?_, ?_⟩)⟩
           · repeat' (refine Below.setCell ?_ (by simp; try omega) _)
             exact HB
           · exact num_set6 (num_set6 Nj1 BP (.bool js1) (.slice jo1 jn1 jc1) (.bool js2) (.slice jo2 jn2 jc2) (.bool js3) (.slice jo3 jn3 jc3)) BQ6 (.bool false) (.slice none 0 0) (.bool false) (.slice none 0 0) (.bool false) (.slice none 0 0)
           · exact num_set6 (num_set6 Nj2 BP (.bool js1) (.slice jo1 jn1 jc1) (.bool js2) (.slice jo2 jn2 jc2) (.bool js3) (.slice jo3 jn3 jc3)) BQ6 (.bool false) (.slice none 0 0) (.bool false) (.slice none 0 0) (.bool false) (.slice none 0 0)
           · exact num_set6 (num_set6 Nj3 BP (.bool js1) (.slice jo1 jn1 jc1) (.bool js2) (.slice jo2 jn2 jc2) (.bool js3) (.slice jo3 jn3 jc3)) BQ6 (.bool false) (.slice none 0 0) (.bool false) (.slice none 0 0) (.bool false) (.slice none 0 0)
theorem l4Meet_any (a b c d p q u v : Int) (ha : In1 a) (hb : In1 b) (hc : In1 c) (hd : In1 d) (hp : In1 p) (hq : In1 q) (hu : In1 u) (hv : In1 v) (w : World) : Calls Tryz.prog 50 #[Sg a b c d, Sg p q u v] w (MtP a b c d p q u v w) := by
 by_cases h : turnZ a b c d p q = 0 ∧ turnZ a b c d u v = 0
 · exact l4Meet_along a b c d p q u v ha hb hc hd hp hq hu hv h w
 · exact l4Meet_cross a b c d p q u v ha hb hc hd hp hq hu hv h w
set_option maxRecDepth 100000 in
set_option maxHeartbeats 4000000 in
theorem l5Side_any (ao : Option Addr) (n cap : Nat) (p : Ps) (i : Nat) (hi : i < n) (hn : n ≤ 1048576) (w : World) (hS : SpIn w ao n p) : Calls Tryz.prog 29 #[.agg #[.slice ao n cap], .int .i64 (i : Int)] w (VP (Sg (sdA n p i).1 (sdA n p i).2.1 (sdA n p i).2.2.1 (sdA n p i).2.2.2) w) := by
 have hm : (i + 1) % n < n := Nat.mod_lt _ (by omega)
 obtain ⟨A, off, rfl, hA, q0, q1⟩ := hS _ hi
 obtain ⟨A', off', hao, -, m0, m1⟩ := hS _ hm
 obtain ⟨rfl, rfl⟩ : A = A' ∧ off = off' := by simpa using hao
 have hI1 : (i : Int) < n := by omega
 have hnI : (n : Int) ≤ 1048576 := by omega
 have hrem : ((i : Int) + 1).tmod (n : Int) = (((i + 1) % n : Nat) : Int) := by
   rw [Int.tmod_eq_emod_of_nonneg (by omega), Int.natCast_emod]
   rfl
 have hadd : IntKind.i64.wrap ((i : Int) + 1) = (i : Int) + 1 := by rw [IntKind.wrap_i64]; omega
 have hmI : (((i + 1) % n : Nat) : Int) < n := by omega
 have hl0 : ¬ ((n : Int) = 0) := by omega
 have hl1 : ¬ (n = 0) := by omega
 have B0 := ((Blk.new w [.slice (some ⟨A, off, none⟩) n cap] 57 rfl).alloc (.cells #[.int .i64 0, .int .i64 0, .int .i64 0, .int .i64 0] 53)).alloc (.cells #[.int .i64 (p i).1, .int .i64 (p i).2] 51)
 have B1 := (Blk.new (w.alloc (.cells #[.slice (some ⟨A, off, none⟩) n cap] 57)) [.int .i64 0, .int .i64 0, .int .i64 0, .int .i64 0] 53 (g := w.heap.size + 1) (by simp)).alloc (.cells #[.int .i64 (p i).1, .int .i64 (p i).2] 51)
 have B2 := Blk.new ((w.alloc (.cells #[.slice (some ⟨A, off, none⟩) n cap] 57)).alloc (.cells #[.int .i64 0, .int .i64 0, .int .i64 0, .int .i64 0] 53)) [.int .i64 (p i).1, .int .i64 (p i).2] 51 (g := w.heap.size + 1 + 1) (by simp)
 have HB : Below w.heap.size w (((w.alloc (.cells #[.slice (some ⟨A, off, none⟩) n cap] 57)).alloc (.cells #[.int .i64 0, .int .i64 0, .int .i64 0, .int .i64 0] 53)).alloc (.cells #[.int .i64 (p i).1, .int .i64 (p i).2] 51)) := (((Below.refl _ w).alloc (Nat.le_refl _) _).alloc (by simp) _).alloc (by simp; omega) _
 have HB2 : Below w.heap.size w ((w.alloc (.cells #[.slice (some ⟨A, off, none⟩) n cap] 57)).alloc (.cells #[.int .i64 0, .int .i64 0, .int .i64 0, .int .i64 0] 53)) := ((Below.refl _ w).alloc (Nat.le_refl _) _).alloc (by simp) _
 have e0 := (HB2.cell (p := ⟨A, _, none⟩) hA).trans q0
 have e1 := (HB2.cell (p := ⟨A, _, none⟩) hA).trans q1
 replace m0 := (HB.cell (p := ⟨A, _, none⟩) hA).trans m0
 replace m1 := (HB.cell (p := ⟨A, _, none⟩) hA).trans m1
 go_enter Tryz.func29, Tryz.ntmps29
 go_upto_region 2 with fail
 clear e0 e1 q0 q1 HB2 hao
 have hsz : (((w.alloc (.cells #[.slice (some ⟨A, off, none⟩) n cap] 57)).alloc (.cells #[.int .i64 0, .int .i64 0, .int .i64 0, .int .i64 0] 53)).alloc (.cells #[.int .i64 (p i).1, .int .i64 (p i).2] 51)).heap.size = w.heap.size + 3 := by simp
 generalize (((w.alloc (.cells #[.slice (some ⟨A, off, none⟩) n cap] 57)).alloc (.cells #[.int .i64 0, .int .i64 0, .int .i64 0, .int .i64 0] 53)).alloc (.cells #[.int .i64 (p i).1, .int .i64 (p i).2] 51)) = W at *
 have H0 : Below W.heap.size W W := Below.refl _ _
 have HK : ∀ V, Below W.heap.size W V → (fun w' : World => w'.cell? ⟨w.heap.size, 0, none⟩ = some (.slice (some ⟨A, off, none⟩) n cap) ∧ w'.cell? ⟨A, off + ((i + 1) % n) * 2, none⟩ = some (.int .i64 (p ((i + 1) % n)).1) ∧ w'.cell? ⟨A, off + ((i + 1) % n) * 2 + 1, none⟩ = some (.int .i64 (p ((i + 1) % n)).2)) V := fun V h => ⟨(B0.step h).c 0 rfl, (h.cell (p := ⟨A, _, none⟩) (show A < W.heap.size by omega)).trans m0, (h.cell (p := ⟨A, _, none⟩) (show A < W.heap.size by omega)).trans m1⟩
 have hsd : Hid (sdA n p i = if lessI (p ((i + 1) % n)).1 (p ((i + 1) % n)).2 (p i).1 (p i).2 = true then ((p ((i + 1) % n)).1, (p ((i + 1) % n)).2, (p i).1, (p i).2) else ((p i).1, (p i).2, (p ((i + 1) % n)).1, (p ((i + 1) % n)).2)) := rfl
 generalize sdA n p i = sq at *
 generalize (i + 1) % n = e' at *
 clear m0 m1 hm
 go_region_held3 (fun w' : World => w'.cell? ⟨w.heap.size, 0, none⟩ = some (.slice (some ⟨A, off, none⟩) n cap) ∧ w'.cell? ⟨A, off + e' * 2, none⟩ = some (.int .i64 (p e').1) ∧ w'.cell? ⟨A, off + e' * 2 + 1, none⟩ = some (.int .i64 (p e').2)) (refine HK _ ?_ <;> repeat (first | (with_reducible exact H0) | (with_reducible refine Below.drew ?_) | (with_reducible refine Below.alloc ?_ (by simp) _) | (with_reducible refine Below.setCell ?_ (by first | exact Nat.le_refl _ | simp) _))) (fail)
 all_goals have hB2 : Below W.heap.size W (W.alloc (.cells #[.int .i64 (p e').1, .int .i64 (p e').2] 51)).drew := ((Below.refl _ _).alloc (Nat.le_refl _) _).drew
 all_goals have B3 : Blk (W.alloc (.cells #[.int .i64 (p e').1, .int .i64 (p e').2] 51)).drew (w.heap.size + 3) [.int .i64 (p e').1, .int .i64 (p e').2] := (Blk.new W [.int .i64 (p e').1, .int .i64 (p e').2] 51 (g := w.heap.size + 3) hsz.symm).drew
 all_goals replace B1 := B1.step hB2
 all_goals replace B2 := B2.step hB2
 all_goals replace HB := HB.trans (hB2.mono HB.size)
 all_goals clear hB2 HK H0 B0
 all_goals generalize (W.alloc (.cells #[.int .i64 (p e').1, .int .i64 (p e').2] 51)).drew = W4 at *
 all_goals have c0 := B2.c 0 rfl; have c1 := B2.c 1 rfl; have d0 := B3.c 0 rfl; have d1 := B3.c 1 rfl
 all_goals go_wp2_with fail
 all_goals refine (l4Less_any (p e').1 (p e').2 (p i).1 (p i).2 _ rfl _).mono ?_
 all_goals rintro e w1 ⟨rfl, hB⟩
 all_goals replace HB := HB.trans (hB.mono HB.size)
 all_goals replace B1 := B1.step hB
 all_goals replace B2 := B2.step hB
 all_goals replace B3 := B3.step hB
 all_goals clear hB c0 c1 d0 d1 hsz
 by_cases hl : lessI (p e').1 (p e').2 (p i).1 (p i).2 = true
 · have hl' := hl
   rw [hl']
   clear hl'
   have hs2 := hsd.out
   rw [if_pos hl] at hs2
   subst hs2
   clear hl hsd
   have b0 := B1.c 0 rfl; have f0 := B1.f 0 rfl; have b1 := B1.c 1 rfl; have f1 := B1.f 1 rfl; have b2 := B1.c 2 rfl; have f2 := B1.f 2 rfl; have b3 := B1.c 3 rfl; have f3 := B1.f 3 rfl; have bl := B1.lt
   have c0 := B2.c 0 rfl; have c1 := B2.c 1 rfl; have d0 := B3.c 0 rfl; have d1 := B3.c 1 rfl
   have RN : Blk ((((w1.setCell ⟨w.heap.size + 1, 0, none⟩ (.int .i64 (p e').1)).setCell ⟨w.heap.size + 1, 1, none⟩ (.int .i64 (p e').2)).setCell ⟨w.heap.size + 1, 2, none⟩ (.int .i64 (p i).1)).setCell ⟨w.heap.size + 1, 3, none⟩ (.int .i64 (p i).2)) (w.heap.size + 1) [.int .i64 (p e').1, .int .i64 (p e').2, .int .i64 (p i).1, .int .i64 (p i).2] := (((B1.setI 0 (by simp) _).setI 1 (by simp) _).setI 2 (by simp) _).setI 3 (by simp) _
   have HN : Below w.heap.size w ((((w1.setCell ⟨w.heap.size + 1, 0, none⟩ (.int .i64 (p e').1)).setCell ⟨w.heap.size + 1, 1, none⟩ (.int .i64 (p e').2)).setCell ⟨w.heap.size + 1, 2, none⟩ (.int .i64 (p i).1)).setCell ⟨w.heap.size + 1, 3, none⟩ (.int .i64 (p i).2)) := (((HB.setCell (p := ⟨w.heap.size + 1, 0, none⟩) (by simp) _).setCell (p := ⟨w.heap.size + 1, 1, none⟩) (by simp) _).setCell (p := ⟨w.heap.size + 1, 2, none⟩) (by simp) _).setCell (p := ⟨w.heap.size + 1, 3, none⟩) (by simp) _
   clear B1 B2 B3 HB
   go_wp2
   have r0 := RN.c 0 rfl; have r1 := RN.c 1 rfl; have r2 := RN.c 2 rfl; have r3 := RN.c 3 rfl
   refine bodyPost_ret (v := Sg (p e').1 (p e').2 (p i).1 (p i).2) (by simp [results, Tryz.results29, go_sem, r0, r1, r2, r3]) rfl ?_
   exact ⟨rfl, HN⟩
 · have hl' := Bool.eq_false_iff.2 hl
   rw [hl']
   clear hl'
   have hs2 := hsd.out
   rw [if_neg hl] at hs2
   subst hs2
   clear hl hsd
   have b0 := B1.c 0 rfl; have f0 := B1.f 0 rfl; have b1 := B1.c 1 rfl; have f1 := B1.f 1 rfl; have b2 := B1.c 2 rfl; have f2 := B1.f 2 rfl; have b3 := B1.c 3 rfl; have f3 := B1.f 3 rfl; have bl := B1.lt
   have c0 := B2.c 0 rfl; have c1 := B2.c 1 rfl; have d0 := B3.c 0 rfl; have d1 := B3.c 1 rfl
   have RN : Blk ((((w1.setCell ⟨w.heap.size + 1, 0, none⟩ (.int .i64 (p i).1)).setCell ⟨w.heap.size + 1, 1, none⟩ (.int .i64 (p i).2)).setCell ⟨w.heap.size + 1, 2, none⟩ (.int .i64 (p e').1)).setCell ⟨w.heap.size + 1, 3, none⟩ (.int .i64 (p e').2)) (w.heap.size + 1) [.int .i64 (p i).1, .int .i64 (p i).2, .int .i64 (p e').1, .int .i64 (p e').2] := (((B1.setI 0 (by simp) _).setI 1 (by simp) _).setI 2 (by simp) _).setI 3 (by simp) _
   have HN : Below w.heap.size w ((((w1.setCell ⟨w.heap.size + 1, 0, none⟩ (.int .i64 (p i).1)).setCell ⟨w.heap.size + 1, 1, none⟩ (.int .i64 (p i).2)).setCell ⟨w.heap.size + 1, 2, none⟩ (.int .i64 (p e').1)).setCell ⟨w.heap.size + 1, 3, none⟩ (.int .i64 (p e').2)) := (((HB.setCell (p := ⟨w.heap.size + 1, 0, none⟩) (by simp) _).setCell (p := ⟨w.heap.size + 1, 1, none⟩) (by simp) _).setCell (p := ⟨w.heap.size + 1, 2, none⟩) (by simp) _).setCell (p := ⟨w.heap.size + 1, 3, none⟩) (by simp) _
   clear B1 B2 B3 HB
   go_wp2
   have r0 := RN.c 0 rfl; have r1 := RN.c 1 rfl; have r2 := RN.c 2 rfl; have r3 := RN.c 3 rfl
   refine bodyPost_ret (v := Sg (p i).1 (p i).2 (p e').1 (p e').2) (by simp [results, Tryz.results29, go_sem, r0, r1, r2, r3]) rfl ?_
   exact ⟨rfl, HN⟩
end Go.Proofs.YteakhlipmmfilaaGreat
namespace Go.Proofs.YteakhlipmmfilaaGreat
variable {P : Program} {ops : Array Oper} {Q : Exit → Act → World → Prop} {md : Region.Mode}
def open_ (l : Array Bool) : Nat := l.toList.countP (fun b => !b)
theorem open_set {l : Array Bool} {i : Nat} (h : l.getD i true = false) : open_ (l.setIfInBounds i true) + 1 = open_ l := by
 obtain ⟨xs⟩ := l
 have hi : i < xs.length := by
   rcases Nat.lt_or_ge i xs.length with h' | h'
   · exact h'
   · simp [Array.getD, Nat.not_lt.2 h'] at h
 have hv : xs[i] = false := by simpa [Array.getD, hi] using h
 have hp : 0 < xs.countP (fun b => !b) := List.countP_pos_iff.2 ⟨xs[i], List.getElem_mem hi, by simp [hv]⟩
 simp only [open_, List.setIfInBounds_toArray, List.countP_set hi, hv]
 simp
 omega
theorem wpAny_inv (J : Array Bool → Act → World → Prop) (hs : ∀ l a w i o, J l a w → l.getD i true = false → ops[i]? = some o → (∀ e ∈ o.after, Region.binds md e = true → l.getD e.on false = true) → wpOp P ops Q i (J (l.setIfInBounds i true)) a w)
   (hd : ∀ l a w, J l a w → Region.ready md ops l = [] → Q .normal a w) : ∀ (fuel : Nat) (l : Array Bool) (a : Act) (w : World), open_ l ≤ fuel → J l a w → wpAny P md ops Q fuel l a w := by
 intro fuel
 induction fuel with
 | zero =>
   intro l a w hf hJ
   have hr : Region.ready md ops l = [] := by
     rw [List.eq_nil_iff_forall_not_mem]
     intro i hi
     have := open_set (mem_ready.1 hi).1
     omega
   exact ⟨hr, hd l a w hJ hr⟩
 | succ fuel ih =>
   intro l a w hf hJ
   refine ⟨fun hr => hd l a w hJ hr, fun i hi => ?_⟩
   obtain ⟨h0, o, ho, hall⟩ := mem_ready.1 hi
   exact wpOp_mono (fun a' w' h' => ih _ a' w' (by have := open_set h0; omega) h') (hs l a w i o hJ h0 ho hall)
theorem wp_region_inv {id : Nat} {a : Act} {w : World} (hm : P.follows .mixedOrders = true) (J : Array Bool → Act → World → Prop)
   (h0 : J (Array.replicate ops.size false) a { w with drawn := w.drawn + 1 })
   (hs : ∀ l a w i o, J l a w → l.getD i true = false → ops[i]? = some o → (∀ e ∈ o.after, Region.binds .any e = true → l.getD e.on false = true) → wpOp P ops Q i (J (l.setIfInBounds i true)) a w)
   (hd : ∀ l a w, J l a w → Region.ready .any ops l = [] → Q .normal a w) : (Code.region id ops true).wp P Q a w :=
 wp_region_any hm (wpAny_inv J hs hd _ _ _ _ (by
   unfold open_
   refine Nat.le_trans List.countP_le_length ?_
   simp) h0)
def waits (md : Region.Mode) (ops : Array Oper) : List Nat → List Nat → Bool
 | _, [] => true
 | acc, i :: r => ((ops[i]?).map (fun o => o.after.all (fun e => !Region.binds md e || acc.contains e.on))).getD false && waits md ops (i :: acc) r
theorem listed_of {l : Array Bool} (hr : Region.ready md ops l = []) : ∀ (r acc : List Nat), (∀ k ∈ acc, l.getD k false = true) → waits md ops acc r = true → (∀ k ∈ r, k < l.size) → ∀ k ∈ r, l.getD k false = true
 | [], _, _, _, _ => fun k hk => by simp at hk
 | i :: r, acc, ha, hw, hz => by
   simp only [waits, Bool.and_eq_true] at hw
   obtain ⟨hw1, hw2⟩ := hw
   have hi : l.getD i false = true := by
     cases ho : ops[i]? with
     | none => rw [ho] at hw1; simp at hw1
     | some o =>
       rw [ho] at hw1
       have hall : ∀ e ∈ o.after, Region.binds md e = true → l.getD e.on false = true := fun e he hb => by
         have h2 : o.after.all (fun e => !Region.binds md e || acc.contains e.on) = true := by simpa using hw1
         rw [Array.all_eq_true'] at h2
         have h3 := h2 e he
         rw [hb] at h3
         exact ha _ (by simpa using h3)
       have hz' := hz i (by simp)
       by_cases hc : l.getD i true = false
       · have : i ∈ Region.ready md ops l := mem_ready.2 ⟨hc, o, ho, hall⟩
         rw [hr] at this
         simp at this
       · simpa [Array.getD, hz'] using hc
   intro k hk
   rcases List.mem_cons.1 hk with rfl | hk
   · exact hi
   · exact listed_of hr r (i :: acc) (fun k hk => by
       rcases List.mem_cons.1 hk with rfl | hk
       · exact hi
       · exact ha k hk) hw2 (fun k hk => hz k (by simp [hk])) k hk
theorem wpOp_of {i : Nat} {o : Oper} {a : Act} {w : World} {K : Act → World → Prop} (ho : ops[i]? = some o) (hg : o.guard = none) (h : o.wp P a w K Q) : wpOp P ops Q i K a w := by
 unfold wpOp
 simp only [ho]
 have hw : Region.wanted o (yielded ops a.tmps) = true := by unfold Region.wanted; rw [hg]
 rw [if_pos hw]
 exact .inl h
theorem tmps_fold : ∀ (D : List Nat) (t s : Array Value), t.size = s.size → (∀ d, d ∉ D → t[d]? = s[d]?) → t = D.foldl (fun u d => u.setIfInBounds d (t.getD d undef)) s
 | [], t, s, _, h => Array.ext_getElem? (fun d => h d (by simp))
 | d :: D, t, s, hz, h => by
   rw [List.foldl_cons]
   refine tmps_fold D t _ (by simpa using hz) (fun e he => ?_)
   by_cases hed : e = d
   · subst hed
     rcases Nat.lt_or_ge e t.size with h' | h'
     · simp [Array.getD, h', ← hz]
     · simp [← hz, h']
   · rw [Array.getElem?_setIfInBounds_ne (fun hh => hed hh.symm)]
     exact h e (by simp [hed, he])
theorem put_getD_ne {a : Act} {d e : Nat} {v : Value} (h : d ≠ e) : (a.put (some d) v).tmps.getD e undef = a.tmps.getD e undef := by
 simp [Act.put, Array.getD_eq_getD_getElem?, Array.getElem?_setIfInBounds_ne h]
theorem put_getD_same {a : Act} {d : Nat} {v : Value} (h : d < a.tmps.size) : (a.put (some d) v).tmps.getD d undef = v := by
 simp [Act.put, Array.getD_eq_getD_getElem?, h]
end Go.Proofs.YteakhlipmmfilaaGreat
namespace Go.Proofs.YteakhlipmmfilaaGreat
open Go.RowKit
def Six (W : World) (g : Nat) : Prop := ∃ v0 v1 v2 v3 v4 v5 : Value, Blk W g [v0, v1, v2, v3, v4, v5]
theorem Six.step {W W' : World} {g : Nat} (h : Six W g) (hB : Below W.heap.size W W') : Six W' g := by
 obtain ⟨v0, v1, v2, v3, v4, v5, h⟩ := h
 exact ⟨_, _, _, _, _, _, h.step hB⟩
theorem Six.set {W : World} {g g' : Nat} (h : Six W g) (j : Nat) (hj : j < 6) (u : Value) : Six (W.setCell ⟨g', j, none⟩ u) g := by
 obtain ⟨v0, v1, v2, v3, v4, v5, h⟩ := h
 by_cases hg : g = g'
 · subst hg
   have := h.setI j hj u
   rcases (show j = 0 ∨ j = 1 ∨ j = 2 ∨ j = 3 ∨ j = 4 ∨ j = 5 by omega) with rfl | rfl | rfl | rfl | rfl | rfl <;> exact ⟨_, _, _, _, _, _, this⟩
 · exact ⟨_, _, _, _, _, _, h.setO hg u⟩
def Lp6 (v : Value) : Prop := ∃ (f1 f2 f3 : Bool) (k1 k2 k3 : Option Addr) (m1 m2 m3 x1 x2 x3 : Nat), v = .agg #[.bool f1, .slice k1 m1 x1, .bool f2, .slice k2 m2 x2, .bool f3, .slice k3 m3 x3]
def slotOf : Nat → Nat
 | 0 => 64
 | 1 => 65
 | 2 => 66
 | 3 => 67
 | 4 => 68
 | 5 => 69
 | 6 => 70
 | 7 => 63
 | 8 => 71
 | 9 => 72
 | 10 => 73
 | 11 => 10
 | 12 => 11
 | 13 => 9
 | i + 14 => i + 200
def ValOf (ao : Option Addr) (n cap : Nat) (p : Ps) (c d B : Nat) : Nat → Value → World → Prop
 | 0, v, _ | 3, v, _ => v = .agg #[.slice ao n cap]
 | 1, v, _ => v = .int .i64 c
 | 4, v, _ => v = .int .i64 d
 | 2, v, _ => v = Sg (sdA n p c).1 (sdA n p c).2.1 (sdA n p c).2.2.1 (sdA n p c).2.2.2
 | 5, v, _ => v = Sg (sdA n p d).1 (sdA n p d).2.1 (sdA n p d).2.2.1 (sdA n p d).2.2.2
 | 6, v, _ | 7, v, _ => ∃ x y, Lp6 x ∧ Lp6 y ∧ v = .tuple #[.int .i64 (kdA n p c d), x, y]
 | 8, v, _ | 13, v, _ => v = .int .i64 (kdA n p c d)
 | 9, v, _ | 10, v, _ => Lp6 v
 | 11, v, W | 12, v, W => ∃ g, v = .pointer (some ⟨g, 0, none⟩) ∧ B ≤ g ∧ Six W g
 | _, _, _ => True
theorem ValOf.mono {ao : Option Addr} {n cap : Nat} {p : Ps} {c d B j : Nat} {v : Value} {W W' : World} (hS : ∀ g, Six W g → Six W' g) (h : ValOf ao n cap p c d B j v W) : ValOf ao n cap p c d B j v W' := by
 unfold ValOf at *
 split <;> simp only at h <;> first | exact h | (obtain ⟨g, h1, h2, h3⟩ := h; exact ⟨g, h1, h2, hS g h3⟩) | trivial
def InvJ (ao : Option Addr) (n cap : Nat) (p : Ps) (c d : Nat) (w0 : World) (a0 : Act) (l : Array Bool) (a : Act) (W : World) : Prop :=
 l.size = 16 ∧ a.tmps.size = a0.tmps.size ∧ a.defers = a0.defers ∧ (∀ e, e ∉ [64, 65, 66, 67, 68, 69, 70, 63, 71, 72, 73, 10, 11, 9] → a.tmps[e]? = a0.tmps[e]?) ∧ Below w0.heap.size w0 W ∧
   ∀ j, l.getD j false = true → ValOf ao n cap p c d w0.heap.size j (a.tmps.getD (slotOf j) undef) W
theorem slotOf_inj {i j : Nat} (hi : i < 14) (hne : j ≠ i) : slotOf i ≠ slotOf j := by
 rcases (show j < 14 ∨ 14 ≤ j by omega) with hj | hj
 · have H : ∀ i : Fin 14, ∀ j : Fin 14, j ≠ i → slotOf i ≠ slotOf j := by decide
   exact H ⟨i, hi⟩ ⟨j, hj⟩ (fun h => hne (by simpa using h))
 · obtain ⟨k, rfl⟩ := Nat.exists_eq_add_of_le' hj
   have H : ∀ i : Fin 14, slotOf i < 200 := by decide
   have := H ⟨i, hi⟩
   show slotOf i ≠ k + 200
   simp only at this
   omega
theorem getD_set_of {l : Array Bool} {i j : Nat} (h : (l.setIfInBounds i true).getD j false = true) (hne : j ≠ i) : l.getD j false = true := by
 rw [getD_set_ne false (Ne.symm hne)] at h
 exact h
theorem InvJ.put {ao : Option Addr} {n cap : Nat} {p : Ps} {c d : Nat} {w0 : World} {a0 : Act} {l : Array Bool} {a : Act} {W W' : World} (h : InvJ ao n cap p c d w0 a0 l a W) (i : Nat) (hi : i < 14) (h101 : a0.tmps.size = 101)
   (hW : Below w0.heap.size w0 W') (hS : ∀ g, Six W g → Six W' g) (v : Value) (hv : ValOf ao n cap p c d w0.heap.size i v W') : InvJ ao n cap p c d w0 a0 (l.setIfInBounds i true) (a.put (some (slotOf i)) v) W' := by
 obtain ⟨h1, h2, h3, h4, h5, h6⟩ := h
 have H : ∀ i : Fin 14, slotOf i < 101 ∧ slotOf i ∈ [64, 65, 66, 67, 68, 69, 70, 63, 71, 72, 73, 10, 11, 9] := by decide
 obtain ⟨hs, hm⟩ := H ⟨i, hi⟩
 simp only at hs hm
 refine ⟨by simpa using h1, by simpa [Act.put] using h2, h3, fun e he => ?_, hW, fun j hj => ?_⟩
 · have hne : slotOf i ≠ e := fun hh => he (hh ▸ hm)
   simp only [Act.put]
   rw [Array.getElem?_setIfInBounds_ne hne]
   exact h4 e he
 · by_cases hji : j = i
   · subst hji
     rw [put_getD_same (by omega)]
     exact hv
   · rw [put_getD_ne (slotOf_inj hi hji)]
     exact (h6 j (getD_set_of hj hji)).mono hS
theorem InvJ.world {ao : Option Addr} {n cap : Nat} {p : Ps} {c d : Nat} {w0 : World} {a0 : Act} {l : Array Bool} {a : Act} {W W' : World} (h : InvJ ao n cap p c d w0 a0 l a W) (i : Nat) (hi : 14 ≤ i)
   (hW : Below w0.heap.size w0 W') (hS : ∀ g, Six W g → Six W' g) : InvJ ao n cap p c d w0 a0 (l.setIfInBounds i true) a W' := by
 obtain ⟨h1, h2, h3, h4, h5, h6⟩ := h
 refine ⟨by simpa using h1, h2, h3, h4, hW, fun j hj => ?_⟩
 by_cases hji : j = i
 · subst hji
   obtain ⟨k, rfl⟩ := Nat.exists_eq_add_of_le' hi
   exact trivial
 · exact (h6 j (getD_set_of hj hji)).mono hS
theorem below_set6 {B g : Nat} {w W : World} {v0 v1 v2 v3 v4 v5 : Value} (h : Below B w W) (hg : B ≤ g) : Below B w ((((((W.setCell ⟨g, 0, none⟩ v0).setCell ⟨g, 1, none⟩ v1).setCell ⟨g, 2, none⟩ v2).setCell ⟨g, 3, none⟩ v3).setCell ⟨g, 4, none⟩ v4).setCell ⟨g, 5, none⟩ v5) :=
 (((((h.setCell (p := ⟨g, 0, none⟩) hg _).setCell (p := ⟨g, 1, none⟩) hg _).setCell (p := ⟨g, 2, none⟩) hg _).setCell (p := ⟨g, 3, none⟩) hg _).setCell (p := ⟨g, 4, none⟩) hg _).setCell (p := ⟨g, 5, none⟩) hg _
set_option maxRecDepth 100000 in
set_option maxHeartbeats 4000000 in
theorem reg25 {Q : Exit → Act → World → Prop} {ao : Option Addr} {n cap : Nat} {p : Ps} {c d B : Nat} {w0 : World} {a0 : Act} {id : Nat} {t0 t1 t2 t3 t4 t5 t6 t7 t8 t9 t10 t11 t12 t13 t14 t15 : TypeId} {q0 q1 q2 q3 q4 q5 q6 q7 q8 q9 q10 q11 q12 q13 q14 q15 : String} {A14 A15 : Array Edge}
   (hc : c < n) (hd : d < n) (hn : n ≤ 1048576) (hS : SpIn w0 ao n p) (i1 : In1 (sdA n p c).1) (i2 : In1 (sdA n p c).2.1) (i3 : In1 (sdA n p c).2.2.1) (i4 : In1 (sdA n p c).2.2.2) (j1 : In1 (sdA n p d).1) (j2 : In1 (sdA n p d).2.1) (j3 : In1 (sdA n p d).2.2.1) (j4 : In1 (sdA n p d).2.2.2)
   (hB : B < w0.heap.size) (hb : w0.cell? ⟨B, 0, none⟩ = some (.slice ao n cap))
   (h1 : a0.tmps[1]? = some (.pointer (some ⟨B, 0, none⟩))) (h7 : a0.tmps[7]? = some (.int .i64 c)) (h8 : a0.tmps[8]? = some (.int .i64 d)) (hz : a0.tmps.size = 101)
   (e1 : ({ on := 11, ground := Ground.data } : Edge) ∈ A14) (e2 : ({ on := 9, ground := Ground.data } : Edge) ∈ A14) (e3 : ({ on := 12, ground := Ground.data } : Edge) ∈ A15) (e4 : ({ on := 10, ground := Ground.data } : Edge) ∈ A15)
   (hQ : ∀ a W, a.tmps.size = a0.tmps.size → a.defers = a0.defers → (∀ e, e ∉ [64, 65, 66, 67, 68, 69, 70, 63, 71, 72, 73, 10, 11, 9] → a.tmps[e]? = a0.tmps[e]?) → a.tmps.getD 9 undef = .int .i64 (kdA n p c d) → Below w0.heap.size w0 W → Q .normal a W) :
   (Code.region id #[{ dst := some 64, op := Op.load 57 (Operand.tmp 1), type := t0, pos := q0, after := #[], guard := none },
   { dst := some 65, op := Op.move (Operand.tmp 7), type := t1, pos := q1, after := #[], guard := none },
   { dst := some 66, op := Op.call { callee := Callee.value (Operand.func 29), args := #[Operand.tmp 64, Operand.tmp 65], argTypes := #[57, 3] }, type := t2, pos := q2, after := #[{ on := 0, ground := Ground.data }, { on := 1, ground := Ground.data }], guard := none },
   { dst := some 67, op := Op.load 57 (Operand.tmp 1), type := t3, pos := q3, after := #[], guard := none },
   { dst := some 68, op := Op.move (Operand.tmp 8), type := t4, pos := q4, after := #[], guard := none },
   { dst := some 69, op := Op.call { callee := Callee.value (Operand.func 29), args := #[Operand.tmp 67, Operand.tmp 68], argTypes := #[57, 3] }, type := t5, pos := q5, after := #[{ on := 3, ground := Ground.data }, { on := 4, ground := Ground.data }, { on := 2, ground := Ground.chain }], guard := none },
   { dst := some 70, op := Op.call { callee := Callee.value (Operand.func 50), args := #[Operand.tmp 66, Operand.tmp 69], argTypes := #[53, 53] }, type := t6, pos := q6, after := #[{ on := 2, ground := Ground.data }, { on := 5, ground := Ground.data }, { on := 5, ground := Ground.chain }], guard := none },
   { dst := some 63, op := Op.move (Operand.tmp 70), type := t7, pos := q7, after := #[{ on := 6, ground := Ground.data }], guard := none },
   { dst := some 71, op := Op.extract (Operand.tmp 63) 0, type := t8, pos := q8, after := #[{ on := 7, ground := Ground.data }], guard := none },
   { dst := some 72, op := Op.extract (Operand.tmp 63) 1, type := t9, pos := q9, after := #[{ on := 7, ground := Ground.data }, { on := 13, ground := Ground.gcOnly Departure.lateStores }], guard := none },
   { dst := some 73, op := Op.extract (Operand.tmp 63) 2, type := t10, pos := q10, after := #[{ on := 7, ground := Ground.data }, { on := 14, ground := Ground.gcOnly Departure.lateStores }], guard := none },
   { dst := some 10, op := Op.alloc 90, type := t11, pos := q11, after := #[], guard := none },
   { dst := some 11, op := Op.alloc 90, type := t12, pos := q12, after := #[], guard := none },
   { dst := some 9, op := Op.assign (Operand.tmp 71), type := t13, pos := q13, after := #[{ on := 8, ground := Ground.data }, { on := 6, ground := Ground.chain }, { on := 0, ground := Ground.phase }, { on := 1, ground := Ground.phase }, { on := 2, ground := Ground.phase }, { on := 3, ground := Ground.phase }, { on := 4, ground := Ground.phase }, { on := 5, ground := Ground.phase }, { on := 6, ground := Ground.phase }, { on := 7, ground := Ground.phase }, { on := 8, ground := Ground.phase }, { on := 9, ground := Ground.textOnly Departure.lateStores }, { on := 10, ground := Ground.textOnly Departure.lateStores }, { on := 11, ground := Ground.phase }, { on := 12, ground := Ground.phase }], guard := none },
   { dst := none, op := Op.store 90 (Operand.tmp 10) (Operand.tmp 72), type := t14, pos := q14, after := A14, guard := none },
   { dst := none, op := Op.store 90 (Operand.tmp 11) (Operand.tmp 73), type := t15, pos := q15, after := A15, guard := none }] true).wp Tryz.prog Q a0 w0 := by
 refine wp_region_inv (by kernel_rfl) (InvJ ao n cap p c d w0 a0) ⟨by simp, rfl, rfl, fun _ _ => rfl, (Below.refl _ w0).drew, fun j hj => ?_⟩ ?_ ?_
 · exfalso
   rw [Array.getD_eq_getD_getElem?, Array.getElem?_replicate] at hj
   split at hj <;> simp at hj
 · intro l a W i o hJ hl ho hall
   have hJ' := hJ
   obtain ⟨z1, z2, z3, z4, z5, z6⟩ := hJ
   have g1 : a.tmps.getD 1 undef = .pointer (some ⟨B, 0, none⟩) := by rw [Array.getD_eq_getD_getElem?, z4 1 (by decide), h1]; rfl
   have g7 : a.tmps.getD 7 undef = .int .i64 c := by rw [Array.getD_eq_getD_getElem?, z4 7 (by decide), h7]; rfl
   have g8 : a.tmps.getD 8 undef = .int .i64 d := by rw [Array.getD_eq_getD_getElem?, z4 8 (by decide), h8]; rfl
   have hbW : W.cell? ⟨B, 0, none⟩ = some (.slice ao n cap) := by rw [z5.cell hB]; exact hb
   match i, ho with
   | 0, ho =>
     cases ho
     refine wpOp_of rfl rfl ?_
     have hK := fun (v : Value) (W' : World) hW hS hv => hJ'.put 0 (by omega) hz (W' := W') hW hS v hv
     clear ho hall hl hQ e1 e2 e3 e4
     generalize InvJ ao n cap p c d w0 a0 (l.setIfInBounds 0 true) = K at hK ⊢
     clear hJ' z1 z2 z3 z4 z6
     go_simp
     exact hK _ _ z5 (fun _ h => h) rfl
   | 1, ho =>
     cases ho
     refine wpOp_of rfl rfl ?_
     have hK := fun (v : Value) (W' : World) hW hS hv => hJ'.put 1 (by omega) hz (W' := W') hW hS v hv
     clear ho hall hl hQ e1 e2 e3 e4
     generalize InvJ ao n cap p c d w0 a0 (l.setIfInBounds 1 true) = K at hK ⊢
     clear hJ' z1 z2 z3 z4 z6
     go_simp
     exact hK _ _ z5 (fun _ h => h) rfl
   | 2, ho =>
     cases ho
     refine wpOp_of rfl rfl ?_
     have f0 : a.tmps.getD 64 undef = .agg #[.slice ao n cap] := z6 0 (hall { on := 0, ground := Ground.data } (by simp) rfl)
     have f1 : a.tmps.getD 65 undef = .int .i64 c := z6 1 (hall { on := 1, ground := Ground.data } (by simp) rfl)
     have hK := fun (v : Value) (W' : World) hW hS hv => hJ'.put 2 (by omega) hz (W' := W') hW hS v hv
     clear ho hall hl hQ e1 e2 e3 e4
     generalize InvJ ao n cap p c d w0 a0 (l.setIfInBounds 2 true) = K at hK ⊢
     clear hJ' z1 z2 z3 z4 z6
     go_simp
     refine (l5Side_any ao n cap p c hc hn W (hS.step z5)).mono ?_
     rintro e v1 ⟨rfl, hBv⟩
     exact hK _ _ (z5.trans (hBv.mono z5.size)) (fun g hg => hg.step hBv) rfl
   | 3, ho =>
     cases ho
     refine wpOp_of rfl rfl ?_
     have hK := fun (v : Value) (W' : World) hW hS hv => hJ'.put 3 (by omega) hz (W' := W') hW hS v hv
     clear ho hall hl hQ e1 e2 e3 e4
     generalize InvJ ao n cap p c d w0 a0 (l.setIfInBounds 3 true) = K at hK ⊢
     clear hJ' z1 z2 z3 z4 z6
     go_simp
     exact hK _ _ z5 (fun _ h => h) rfl
   | 4, ho =>
     cases ho
     refine wpOp_of rfl rfl ?_
     have hK := fun (v : Value) (W' : World) hW hS hv => hJ'.put 4 (by omega) hz (W' := W') hW hS v hv
     clear ho hall hl hQ e1 e2 e3 e4
     generalize InvJ ao n cap p c d w0 a0 (l.setIfInBounds 4 true) = K at hK ⊢
     clear hJ' z1 z2 z3 z4 z6
     go_simp
     exact hK _ _ z5 (fun _ h => h) rfl
   | 5, ho =>
     cases ho
     refine wpOp_of rfl rfl ?_
     have f3 : a.tmps.getD 67 undef = .agg #[.slice ao n cap] := z6 3 (hall { on := 3, ground := Ground.data } (by simp) rfl)
     have f4 : a.tmps.getD 68 undef = .int .i64 d := z6 4 (hall { on := 4, ground := Ground.data } (by simp) rfl)
     have hK := fun (v : Value) (W' : World) hW hS hv => hJ'.put 5 (by omega) hz (W' := W') hW hS v hv
     clear ho hall hl hQ e1 e2 e3 e4
     generalize InvJ ao n cap p c d w0 a0 (l.setIfInBounds 5 true) = K at hK ⊢
     clear hJ' z1 z2 z3 z4 z6
     go_simp
     refine (l5Side_any ao n cap p d hd hn W (hS.step z5)).mono ?_
     rintro e v1 ⟨rfl, hBv⟩
     exact hK _ _ (z5.trans (hBv.mono z5.size)) (fun g hg => hg.step hBv) rfl
   | 6, ho =>
     cases ho
     refine wpOp_of rfl rfl ?_
     have f2 : a.tmps.getD 66 undef = Sg (sdA n p c).1 (sdA n p c).2.1 (sdA n p c).2.2.1 (sdA n p c).2.2.2 := z6 2 (hall { on := 2, ground := Ground.data } (by simp) rfl)
     have f5 : a.tmps.getD 69 undef = Sg (sdA n p d).1 (sdA n p d).2.1 (sdA n p d).2.2.1 (sdA n p d).2.2.2 := z6 5 (hall { on := 5, ground := Ground.data } (by simp) rfl)
     have hK := fun (v : Value) (W' : World) hW hS hv => hJ'.put 6 (by omega) hz (W' := W') hW hS v hv
     clear ho hall hl hQ e1 e2 e3 e4
     generalize InvJ ao n cap p c d w0 a0 (l.setIfInBounds 6 true) = K at hK ⊢
     clear hJ' z1 z2 z3 z4 z6
     go_simp
     refine (l4Meet_any (sdA n p c).1 (sdA n p c).2.1 (sdA n p c).2.2.1 (sdA n p c).2.2.2 (sdA n p d).1 (sdA n p d).2.1 (sdA n p d).2.2.1 (sdA n p d).2.2.2 i1 i2 i3 i4 j1 j2 j3 j4 W).mono ?_
     rintro e v3 hmt
     obtain ⟨⟨f1, f2, f3, g1, g2, g3, k1, k2, k3, l1, l2, l3, m1, m2, m3, x1, x2, x3, y1, y2, y3, z1, z2, z3, rfl⟩, hBv⟩ := mtP_kind hmt
     exact hK _ _ (z5.trans (hBv.mono z5.size)) (fun g hg => hg.step hBv) ⟨_, _, ⟨_, _, _, _, _, _, _, _, _, _, _, _, rfl⟩, ⟨_, _, _, _, _, _, _, _, _, _, _, _, rfl⟩, rfl⟩
   | 7, ho =>
     cases ho
     refine wpOp_of rfl rfl ?_
     have f6 : ∃ x y, Lp6 x ∧ Lp6 y ∧ a.tmps.getD 70 undef = .tuple #[.int .i64 (kdA n p c d), x, y] := z6 6 (hall { on := 6, ground := Ground.data } (by simp) rfl)
     obtain ⟨x, y, hx, hy, he⟩ := f6
     have hK := fun (v : Value) (W' : World) hW hS hv => hJ'.put 7 (by omega) hz (W' := W') hW hS v hv
     clear ho hall hl hQ e1 e2 e3 e4
     generalize InvJ ao n cap p c d w0 a0 (l.setIfInBounds 7 true) = K at hK ⊢
     clear hJ' z1 z2 z3 z4 z6
     go_simp
     exact hK _ _ z5 (fun _ h => h) ⟨x, y, hx, hy, rfl⟩
   | 8, ho =>
     cases ho
     refine wpOp_of rfl rfl ?_
     have f7 : ∃ x y, Lp6 x ∧ Lp6 y ∧ a.tmps.getD 63 undef = .tuple #[.int .i64 (kdA n p c d), x, y] := z6 7 (hall { on := 7, ground := Ground.data } (by simp) rfl)
     obtain ⟨x, y, hx, hy, he⟩ := f7
     have hK := fun (v : Value) (W' : World) hW hS hv => hJ'.put 8 (by omega) hz (W' := W') hW hS v hv
     clear ho hall hl hQ e1 e2 e3 e4
     generalize InvJ ao n cap p c d w0 a0 (l.setIfInBounds 8 true) = K at hK ⊢
     clear hJ' z1 z2 z3 z4 z6
     go_simp
     exact hK _ _ z5 (fun _ h => h) rfl
   | 9, ho =>
     cases ho
     refine wpOp_of rfl rfl ?_
     have f7 : ∃ x y, Lp6 x ∧ Lp6 y ∧ a.tmps.getD 63 undef = .tuple #[.int .i64 (kdA n p c d), x, y] := z6 7 (hall { on := 7, ground := Ground.data } (by simp) rfl)
     obtain ⟨x, y, hx, hy, he⟩ := f7
     have hK := fun (v : Value) (W' : World) hW hS hv => hJ'.put 9 (by omega) hz (W' := W') hW hS v hv
     clear ho hall hl hQ e1 e2 e3 e4
     generalize InvJ ao n cap p c d w0 a0 (l.setIfInBounds 9 true) = K at hK ⊢
     clear hJ' z1 z2 z3 z4 z6
     go_simp
     exact hK _ _ z5 (fun _ h => h) hx
   | 10, ho =>
     cases ho
     refine wpOp_of rfl rfl ?_
     have f7 : ∃ x y, Lp6 x ∧ Lp6 y ∧ a.tmps.getD 63 undef = .tuple #[.int .i64 (kdA n p c d), x, y] := z6 7 (hall { on := 7, ground := Ground.data } (by simp) rfl)
     obtain ⟨x, y, hx, hy, he⟩ := f7
     have hK := fun (v : Value) (W' : World) hW hS hv => hJ'.put 10 (by omega) hz (W' := W') hW hS v hv
     clear ho hall hl hQ e1 e2 e3 e4
     generalize InvJ ao n cap p c d w0 a0 (l.setIfInBounds 10 true) = K at hK ⊢
     clear hJ' z1 z2 z3 z4 z6
     go_simp
     exact hK _ _ z5 (fun _ h => h) hy
   | 11, ho =>
     cases ho
     refine wpOp_of rfl rfl ?_
     have hK := fun (v : Value) (W' : World) hW hS hv => hJ'.put 11 (by omega) hz (W' := W') hW hS v hv
     clear ho hall hl hQ e1 e2 e3 e4
     generalize InvJ ao n cap p c d w0 a0 (l.setIfInBounds 11 true) = K at hK ⊢
     clear hJ' z1 z2 z3 z4 z6
     go_simp
     exact hK _ _ (z5.alloc z5.size _) (fun g hg => hg.step ((Below.refl _ _).alloc (Nat.le_refl _) _)) ⟨_, rfl, z5.size, _, _, _, _, _, _, Blk.new W [.bool false, .slice none 0 0, .bool false, .slice none 0 0, .bool false, .slice none 0 0] 90 rfl⟩
   | 12, ho =>
     cases ho
     refine wpOp_of rfl rfl ?_
     have hK := fun (v : Value) (W' : World) hW hS hv => hJ'.put 12 (by omega) hz (W' := W') hW hS v hv
     clear ho hall hl hQ e1 e2 e3 e4
     generalize InvJ ao n cap p c d w0 a0 (l.setIfInBounds 12 true) = K at hK ⊢
     clear hJ' z1 z2 z3 z4 z6
     go_simp
     exact hK _ _ (z5.alloc z5.size _) (fun g hg => hg.step ((Below.refl _ _).alloc (Nat.le_refl _) _)) ⟨_, rfl, z5.size, _, _, _, _, _, _, Blk.new W [.bool false, .slice none 0 0, .bool false, .slice none 0 0, .bool false, .slice none 0 0] 90 rfl⟩
   | 13, ho =>
     cases ho
     refine wpOp_of rfl rfl ?_
     have f8 : a.tmps.getD 71 undef = .int .i64 (kdA n p c d) := z6 8 (hall { on := 8, ground := Ground.data } (by simp) rfl)
     have hK := fun (v : Value) (W' : World) hW hS hv => hJ'.put 13 (by omega) hz (W' := W') hW hS v hv
     clear ho hall hl hQ e1 e2 e3 e4
     generalize InvJ ao n cap p c d w0 a0 (l.setIfInBounds 13 true) = K at hK ⊢
     clear hJ' z1 z2 z3 z4 z6
     go_simp
     exact hK _ _ z5 (fun _ h => h) rfl
   | 14, ho =>
     cases ho
     refine wpOp_of rfl rfl ?_
     have f11 : ∃ g, a.tmps.getD 10 undef = .pointer (some ⟨g, 0, none⟩) ∧ w0.heap.size ≤ g ∧ Six W g := z6 11 (hall _ e1 rfl)
     have f9 : Lp6 (a.tmps.getD 72 undef) := z6 9 (hall _ e2 rfl)
     obtain ⟨g, hg, hgB, v0, v1, v2, v3, v4, v5, G⟩ := f11
     obtain ⟨s1, s2, s3, k1, k2, k3, m1, m2, m3, x1, x2, x3, hx⟩ := f9
     have b0 := G.c 0 rfl
     have r0 := G.f 0 rfl
     have b1 := G.c 1 rfl
     have r1 := G.f 1 rfl
     have b2 := G.c 2 rfl
     have r2 := G.f 2 rfl
     have b3 := G.c 3 rfl
     have r3 := G.f 3 rfl
     have b4 := G.c 4 rfl
     have r4 := G.f 4 rfl
     have b5 := G.c 5 rfl
     have r5 := G.f 5 rfl
     have hlt := G.lt
     clear G
     have hK := fun (W' : World) hW hS => hJ'.world 14 (by omega) (W' := W') hW hS
     clear ho hall hl hQ e1 e2 e3 e4
     generalize InvJ ao n cap p c d w0 a0 (l.setIfInBounds 14 true) = K at hK ⊢
     clear hJ' z1 z2 z3 z4 z6
     go_simp
     exact hK _ (below_set6 z5 hgB) (fun g hg => (((((hg.set 0 (by omega) _).set 1 (by omega) _).set 2 (by omega) _).set 3 (by omega) _).set 4 (by omega) _).set 5 (by omega) _)
   | 15, ho =>
     cases ho
     refine wpOp_of rfl rfl ?_
     have f12 : ∃ g, a.tmps.getD 11 undef = .pointer (some ⟨g, 0, none⟩) ∧ w0.heap.size ≤ g ∧ Six W g := z6 12 (hall _ e3 rfl)
     have f10 : Lp6 (a.tmps.getD 73 undef) := z6 10 (hall _ e4 rfl)
     obtain ⟨g, hg, hgB, v0, v1, v2, v3, v4, v5, G⟩ := f12
     obtain ⟨s1, s2, s3, k1, k2, k3, m1, m2, m3, x1, x2, x3, hx⟩ := f10
     have b0 := G.c 0 rfl
     have r0 := G.f 0 rfl
     have b1 := G.c 1 rfl
     have r1 := G.f 1 rfl
     have b2 := G.c 2 rfl
     have r2 := G.f 2 rfl
     have b3 := G.c 3 rfl
     have r3 := G.f 3 rfl
     have b4 := G.c 4 rfl
     have r4 := G.f 4 rfl
     have b5 := G.c 5 rfl
     have r5 := G.f 5 rfl
     have hlt := G.lt
     clear G
     have hK := fun (W' : World) hW hS => hJ'.world 15 (by omega) (W' := W') hW hS
     clear ho hall hl hQ e1 e2 e3 e4
     generalize InvJ ao n cap p c d w0 a0 (l.setIfInBounds 15 true) = K at hK ⊢
     clear hJ' z1 z2 z3 z4 z6
     go_simp
     exact hK _ (below_set6 z5 hgB) (fun g hg => (((((hg.set 0 (by omega) _).set 1 (by omega) _).set 2 (by omega) _).set 3 (by omega) _).set 4 (by omega) _).set 5 (by omega) _)
   | i + 16, ho => simp at ho
 · intro l a W hJ hr
   obtain ⟨z1, z2, z3, z4, z5, z6⟩ := hJ
   have hl := listed_of hr [0, 1, 2, 3, 4, 5, 6, 7, 8, 11, 12, 13] [] (by simp) (by kernel_rfl) (by rw [z1]; decide) 13 (by simp)
   exact hQ a W z2 z3 z4 (z6 13 hl) z5
end Go.Proofs.YteakhlipmmfilaaGreat
