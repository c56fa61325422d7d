/- Part 18 of the walks that the proof leans on. -/
import Derived.Test.YtpnnpkchogooaaaGreatPart16
import Derived.Test.YtpnnpkchogooaaaGreatPart17
import Derived.Test.YtpnnpkchogooaaaGreatPart8
set_option maxRecDepth 100000
set_option maxHeartbeats 8000000
namespace Go.Proofs.YtpnnpkchogooaaaGreat
open Go.RowKit
theorem l4Meet_cross (a b c d p q u v : Int) (ha : In1 a) (hb : In1 b) (hc : In1 c) (hd : In1 d) (hp : In1 p) (hq : In1 q) (hu : In1 u) (hv : In1 v) (hb0 : ¬ (turnZ a b c d p q = 0 ∧ turnZ a b c d u v = 0)) (w : World) : Calls Tryz.prog 52 #[Sg a b c d, Sg p q u v] w (MtP a b c d p q u v w) := by
 have HS1 := l4TurnZ_det a b c d p q ha hb hc hd hp hq
 have HS2 := l4TurnZ_det a b c d u v ha hb hc hd hu hv
 have HS3 := l4TurnZ_det p q u v a b hp hq hu hv ha hb
 have HS4 := l4TurnZ_det p q u v c d hp hq hu hv hc hd
 have T0 : ArgsB w ((((w.alloc (.cells #[.int .i64 a, .int .i64 b, .int .i64 c, .int .i64 d] 27)).alloc (.cells #[.int .i64 p, .int .i64 q, .int .i64 u, .int .i64 v] 27)).alloc (.cells #[.bool false, .slice none 0 0, .bool false, .slice none 0 0, .bool false, .slice none 0 0] 92)).alloc (.cells #[.bool false, .slice none 0 0, .bool false, .slice none 0 0, .bool false, .slice none 0 0] 92)) [[.int .i64 a, .int .i64 b, .int .i64 c, .int .i64 d], [.int .i64 p, .int .i64 q, .int .i64 u, .int .i64 v], [.bool false, .slice none 0 0, .bool false, .slice none 0 0, .bool false, .slice none 0 0], [.bool false, .slice none 0 0, .bool false, .slice none 0 0, .bool false, .slice none 0 0]] := ar4 _ _ _ _ _ _ _ _ w
 go_enter Tryz.func52, Tryz.ntmps52
 go_upto_region 1 with fail
 generalize ((((w.alloc (.cells #[.int .i64 a, .int .i64 b, .int .i64 c, .int .i64 d] 27)).alloc (.cells #[.int .i64 p, .int .i64 q, .int .i64 u, .int .i64 v] 27)).alloc (.cells #[.bool false, .slice none 0 0, .bool false, .slice none 0 0, .bool false, .slice none 0 0] 92)).alloc (.cells #[.bool false, .slice none 0 0, .bool false, .slice none 0 0, .bool false, .slice none 0 0] 92)) = W at *
 have Y0 : Blk _ w.heap.size _ := T0.b 0 rfl; have Y1 : Blk _ (w.heap.size + 1) _ := T0.b 1 rfl; obtain ⟨sc0, sc1, sc2, sc3⟩ := Y0.cs4; obtain ⟨tc0, tc1, tc2, tc3⟩ := Y1.cs4; clear Y0 Y1
 go_wp2_with fail
 refine (HS1 _).mono ?_
 rintro e w1 ⟨rfl, hB⟩
 replace T0 := T0.step hB
 clear hB sc0 tc0 sc1 tc1 sc2 tc2 sc3 tc3
 have Y0 : Blk _ w.heap.size _ := T0.b 0 rfl; have Y1 : Blk _ (w.heap.size + 1) _ := T0.b 1 rfl; obtain ⟨sc0, sc1, sc2, sc3⟩ := Y0.cs4; obtain ⟨tc0, tc1, tc2, tc3⟩ := Y1.cs4; clear Y0 Y1
 go_wp2_with fail
 refine (HS2 _).mono ?_
 rintro e w2 ⟨rfl, hB⟩
 replace T0 := T0.step hB
 clear hB sc0 tc0 sc1 tc1 sc2 tc2 sc3 tc3
 have Y0 : Blk _ w.heap.size _ := T0.b 0 rfl; have Y1 : Blk _ (w.heap.size + 1) _ := T0.b 1 rfl; obtain ⟨sc0, sc1, sc2, sc3⟩ := Y0.cs4; obtain ⟨tc0, tc1, tc2, tc3⟩ := Y1.cs4; clear Y0 Y1
 go_wp2_with fail
 refine (HS3 _).mono ?_
 rintro e w3 ⟨rfl, hB⟩
 replace T0 := T0.step hB
 clear hB sc0 tc0 sc1 tc1 sc2 tc2 sc3 tc3
 have Y0 : Blk _ w.heap.size _ := T0.b 0 rfl; have Y1 : Blk _ (w.heap.size + 1) _ := T0.b 1 rfl; obtain ⟨sc0, sc1, sc2, sc3⟩ := Y0.cs4; obtain ⟨tc0, tc1, tc2, tc3⟩ := Y1.cs4; clear Y0 Y1
 go_wp2_with fail
 refine (HS4 _).mono ?_
 rintro e w4 ⟨rfl, hB⟩
 replace T0 := T0.step hB
 clear hB sc0 tc0 sc1 tc1 sc2 tc2 sc3 tc3
 go_upto_region 5 with fail
 go_cut [54] (fun p' wx => p' = .bool false ∧ wx = w4)
 case first =>
   by_cases hz1 : turnZ a b c d p q = 0
   · have z1 : (sgZ (turnZ a b c d p q) == 0) = true := by rw [hz1]; rfl
     have z2 : (sgZ (turnZ a b c d u v) == 0) = false := by
       rw [beq_eq_false_iff_ne]
       intro h
       exact hb0 ⟨hz1, sgZ_z.1 h⟩
     clear hz1 hb0 HS1 HS2 HS3 HS4
     generalize sgZ (turnZ a b c d p q) = s1 at *
     generalize sgZ (turnZ a b c d u v) = s2 at *
     go_wp2_with fail
     go_meet
     exact ⟨rfl, rfl⟩
   · have z1 : (sgZ (turnZ a b c d p q) == 0) = false := by
       rw [beq_eq_false_iff_ne]
       intro h
       exact hz1 (sgZ_z.1 h)
     clear hz1 hb0 HS1 HS2 HS3 HS4
     generalize sgZ (turnZ a b c d p q) = s1 at *
     go_wp2_with fail
     go_meet
     exact ⟨rfl, rfl⟩
 case rest =>
   obtain ⟨hp', hw'⟩ := hcut
   subst hp'; subst hw'
   by_cases g1 : 0 < sgZ (turnZ a b c d p q) * sgZ (turnZ a b c d u v)
   · have HO : Hid (meetW a b c d p q u v = .tuple #[.int .i64 0, .agg #[.int .u64 0, .int .u64 0, .int .u64 0, .int .u64 0, .int .u64 0, .int .u64 0, .int .u64 0, .int .u64 0, .int .u64 0, .int .u64 0, .int .u64 0, .int .u64 0], .agg #[.int .u64 0, .int .u64 0, .int .u64 0, .int .u64 0, .int .u64 0, .int .u64 0, .int .u64 0, .int .u64 0, .int .u64 0, .int .u64 0, .int .u64 0, .int .u64 0]]) := meet_none1 hb0 g1
     have m1 := (sgZ_mul (turnZ a b c d p q) (turnZ a b c d u v)).2
     clear HS1 HS2 HS3 HS4 hb0
     generalize sgZ (turnZ a b c d p q) = s1 at *
     generalize sgZ (turnZ a b c d u v) = s2 at *
     generalize sgZ (turnZ p q u v a b) = s3 at *
     generalize sgZ (turnZ p q u v c d) = s4 at *
     have BS : Blk _ w.heap.size _ := T0.b 0 rfl; have BT : Blk _ (w.heap.size + 1) _ := T0.b 1 rfl; have BP : Blk _ (w.heap.size + 1 + 1) _ := T0.b 2 rfl; have BQ : Blk _ (w.heap.size + 1 + 1 + 1) _ := T0.b 3 rfl; have HB := T0.below
     clear T0
     clear BS BT
     obtain ⟨m12, hm12⟩ : ∃ m, s1 * s2 = m := ⟨_, rfl⟩
     rw [hm12] at g1 m1
     obtain ⟨xc0, xf0, xc1, xf1, xc2, xf2, xc3, xf3, xc4, xf4, xc5, xf5⟩ := BP.cf6; have xl := BP.lt; obtain ⟨yc0, yf0, yc1, yf1, yc2, yf2, yc3, yf3, yc4, yf4, yc5, yf5⟩ := BQ.cf6; have yl := BQ.lt
     go_wp2
     refine bodyPost_ret (v := .tuple #[.int .i64 0, .agg #[.bool false, .slice none 0 0, .bool false, .slice none 0 0, .bool false, .slice none 0 0], .agg #[.bool false, .slice none 0 0, .bool false, .slice none 0 0, .bool false, .slice none 0 0]]) (by simp [results, Tryz.results52, go_sem, xc0, yc0, xc1, yc1, xc2, yc2, xc3, yc3, xc4, yc4, xc5, yc5]) rfl ?_
     refine ⟨?_, Or.inl ⟨HO.out, rfl⟩⟩
     repeat' (refine Below.setCell ?_ (by simp; try omega) _)
     exact HB
   · by_cases g2 : 0 < sgZ (turnZ p q u v a b) * sgZ (turnZ p q u v c d)
     · have HO : Hid (meetW a b c d p q u v = .tuple #[.int .i64 0, .agg #[.int .u64 0, .int .u64 0, .int .u64 0, .int .u64 0, .int .u64 0, .int .u64 0, .int .u64 0, .int .u64 0, .int .u64 0, .int .u64 0, .int .u64 0, .int .u64 0], .agg #[.int .u64 0, .int .u64 0, .int .u64 0, .int .u64 0, .int .u64 0, .int .u64 0, .int .u64 0, .int .u64 0, .int .u64 0, .int .u64 0, .int .u64 0, .int .u64 0]]) := meet_none2 hb0 g1 g2
       have m1 := (sgZ_mul (turnZ a b c d p q) (turnZ a b c d u v)).2
       have m2 := (sgZ_mul (turnZ p q u v a b) (turnZ p q u v c d)).2
       clear HS1 HS2 HS3 HS4 hb0
       generalize sgZ (turnZ a b c d p q) = s1 at *
       generalize sgZ (turnZ a b c d u v) = s2 at *
       generalize sgZ (turnZ p q u v a b) = s3 at *
       generalize sgZ (turnZ p q u v c d) = s4 at *
       have BS : Blk _ w.heap.size _ := T0.b 0 rfl; have BT : Blk _ (w.heap.size + 1) _ := T0.b 1 rfl; have BP : Blk _ (w.heap.size + 1 + 1) _ := T0.b 2 rfl; have BQ : Blk _ (w.heap.size + 1 + 1 + 1) _ := T0.b 3 rfl; have HB := T0.below
       clear T0
       clear BS BT
       obtain ⟨m12, hm12⟩ : ∃ m, s1 * s2 = m := ⟨_, rfl⟩
       rw [hm12] at g1 m1
       obtain ⟨m34, hm34⟩ : ∃ m, s3 * s4 = m := ⟨_, rfl⟩
       rw [hm34] at g2 m2
       obtain ⟨xc0, xf0, xc1, xf1, xc2, xf2, xc3, xf3, xc4, xf4, xc5, xf5⟩ := BP.cf6; have xl := BP.lt; obtain ⟨yc0, yf0, yc1, yf1, yc2, yf2, yc3, yf3, yc4, yf4, yc5, yf5⟩ := BQ.cf6; have yl := BQ.lt
       go_wp2
       refine bodyPost_ret (v := .tuple #[.int .i64 0, .agg #[.bool false, .slice none 0 0, .bool false, .slice none 0 0, .bool false, .slice none 0 0], .agg #[.bool false, .slice none 0 0, .bool false, .slice none 0 0, .bool false, .slice none 0 0]]) (by simp [results, Tryz.results52, go_sem, xc0, yc0, xc1, yc1, xc2, yc2, xc3, yc3, xc4, yc4, xc5, yc5]) rfl ?_
       refine ⟨?_, Or.inl ⟨HO.out, rfl⟩⟩
       repeat' (refine Below.setCell ?_ (by simp; try omega) _)
       exact HB
     · have HP := meet_pt hb0 g1 g2
       have hW0 := meet_w0 hb0 g1
       have m1 := (sgZ_mul (turnZ a b c d p q) (turnZ a b c d u v)).2
       have m2 := (sgZ_mul (turnZ p q u v a b) (turnZ p q u v c d)).2
       clear HS1 HS2 HS3 HS4 hb0
       generalize sgZ (turnZ a b c d p q) = s1 at *
       generalize sgZ (turnZ a b c d u v) = s2 at *
       generalize sgZ (turnZ p q u v a b) = s3 at *
       generalize sgZ (turnZ p q u v c d) = s4 at *
       obtain ⟨m12, hm12⟩ : ∃ m, s1 * s2 = m := ⟨_, rfl⟩
       rw [hm12] at g1 m1
       obtain ⟨m34, hm34⟩ : ∃ m, s3 * s4 = m := ⟨_, rfl⟩
       rw [hm34] at g2 m2
       obtain ⟨q1, q2⟩ := mul_in (p := c - a) (q := v - q) (M := 2000000) (N := 2000000) (by omega) (by omega) (by omega) (by omega)
       obtain ⟨q3, q4⟩ := mul_in (p := d - b) (q := u - p) (M := 2000000) (N := 2000000) (by omega) (by omega) (by omega) (by omega)
       obtain ⟨q5, q6⟩ := mul_in (p := p - a) (q := v - q) (M := 2000000) (N := 2000000) (by omega) (by omega) (by omega) (by omega)
       obtain ⟨q7, q8⟩ := mul_in (p := q - b) (q := u - p) (M := 2000000) (N := 2000000) (by omega) (by omega) (by omega) (by omega)
       have eW : (c - a) * (v - q) - (d - b) * (u - p) = ((b - d) * (u - p) - (q - v) * (c - a)) := by grind
       have eX : a * ((c - a) * (v - q) - (d - b) * (u - p)) + (c - a) * ((p - a) * (v - q) - (q - b) * (u - p)) = ((c - a) * (p * v - q * u) - (u - p) * (a * d - b * c)) := by grind
       have eY : b * ((c - a) * (v - q) - (d - b) * (u - p)) + (d - b) * ((p - a) * (v - q) - (q - b) * (u - p)) = ((a * d - b * c) * (q - v) - (p * v - q * u) * (b - d)) := by grind
       have bX := bnd_x a b c d p q u v ha hb hc hd hp hq hu hv
       have bY := bnd_y a b c d p q u v ha hb hc hd hp hq hu hv
       have bW := bnd_w a b c d p q u v ha hb hc hd hp hq hu hv
       obtain ⟨pa, hpa⟩ : ∃ m, (c - a) * (v - q) = m := ⟨_, rfl⟩
       obtain ⟨pb, hpb⟩ : ∃ m, (d - b) * (u - p) = m := ⟨_, rfl⟩
       obtain ⟨pc, hpc⟩ : ∃ m, (p - a) * (v - q) = m := ⟨_, rfl⟩
       obtain ⟨pd, hpd⟩ : ∃ m, (q - b) * (u - p) = m := ⟨_, rfl⟩
       rw [hpa, hpb] at eW
       rw [hpa, hpb, hpc, hpd] at eX eY
       rw [hpa] at q1 q2
       rw [hpb] at q3 q4
       rw [hpc] at q5 q6
       rw [hpd] at q7 q8
       rw [← eX, ← eY, ← eW] at HP
       rw [← eX] at bX
       rw [← eY] at bY
       rw [← eW] at bW hW0
       have HO : Hid (meetW a b c d p q u v = .tuple #[.int .i64 1, .agg #[.int .u64 (ww3 (shareZ (a * (pa - pb) + (c - a) * (pc - pd)) (Int.gcd (Int.gcd (a * (pa - pb) + (c - a) * (pc - pd)) (b * (pa - pb) + (d - b) * (pc - pd)) : Int) (pa - pb) : Int) (decide ((pa - pb) < 0)))), .int .u64 (ww2 (shareZ (a * (pa - pb) + (c - a) * (pc - pd)) (Int.gcd (Int.gcd (a * (pa - pb) + (c - a) * (pc - pd)) (b * (pa - pb) + (d - b) * (pc - pd)) : Int) (pa - pb) : Int) (decide ((pa - pb) < 0)))), .int .u64 (ww1 (shareZ (a * (pa - pb) + (c - a) * (pc - pd)) (Int.gcd (Int.gcd (a * (pa - pb) + (c - a) * (pc - pd)) (b * (pa - pb) + (d - b) * (pc - pd)) : Int) (pa - pb) : Int) (decide ((pa - pb) < 0)))), .int .u64 (ww0 (shareZ (a * (pa - pb) + (c - a) * (pc - pd)) (Int.gcd (Int.gcd (a * (pa - pb) + (c - a) * (pc - pd)) (b * (pa - pb) + (d - b) * (pc - pd)) : Int) (pa - pb) : Int) (decide ((pa - pb) < 0)))), .int .u64 (ww3 (shareZ (b * (pa - pb) + (d - b) * (pc - pd)) (Int.gcd (Int.gcd (a * (pa - pb) + (c - a) * (pc - pd)) (b * (pa - pb) + (d - b) * (pc - pd)) : Int) (pa - pb) : Int) (decide ((pa - pb) < 0)))), .int .u64 (ww2 (shareZ (b * (pa - pb) + (d - b) * (pc - pd)) (Int.gcd (Int.gcd (a * (pa - pb) + (c - a) * (pc - pd)) (b * (pa - pb) + (d - b) * (pc - pd)) : Int) (pa - pb) : Int) (decide ((pa - pb) < 0)))), .int .u64 (ww1 (shareZ (b * (pa - pb) + (d - b) * (pc - pd)) (Int.gcd (Int.gcd (a * (pa - pb) + (c - a) * (pc - pd)) (b * (pa - pb) + (d - b) * (pc - pd)) : Int) (pa - pb) : Int) (decide ((pa - pb) < 0)))), .int .u64 (ww0 (shareZ (b * (pa - pb) + (d - b) * (pc - pd)) (Int.gcd (Int.gcd (a * (pa - pb) + (c - a) * (pc - pd)) (b * (pa - pb) + (d - b) * (pc - pd)) : Int) (pa - pb) : Int) (decide ((pa - pb) < 0)))), .int .u64 (ww3 (shareZ (pa - pb) (Int.gcd (Int.gcd (a * (pa - pb) + (c - a) * (pc - pd)) (b * (pa - pb) + (d - b) * (pc - pd)) : Int) (pa - pb) : Int) (decide ((pa - pb) < 0)))), .int .u64 (ww2 (shareZ (pa - pb) (Int.gcd (Int.gcd (a * (pa - pb) + (c - a) * (pc - pd)) (b * (pa - pb) + (d - b) * (pc - pd)) : Int) (pa - pb) : Int) (decide ((pa - pb) < 0)))), .int .u64 (ww1 (shareZ (pa - pb) (Int.gcd (Int.gcd (a * (pa - pb) + (c - a) * (pc - pd)) (b * (pa - pb) + (d - b) * (pc - pd)) : Int) (pa - pb) : Int) (decide ((pa - pb) < 0)))), .int .u64 (ww0 (shareZ (pa - pb) (Int.gcd (Int.gcd (a * (pa - pb) + (c - a) * (pc - pd)) (b * (pa - pb) + (d - b) * (pc - pd)) : Int) (pa - pb) : Int) (decide ((pa - pb) < 0))))], .agg #[.int .u64 0, .int .u64 0, .int .u64 0, .int .u64 0, .int .u64 0, .int .u64 0, .int .u64 0, .int .u64 0, .int .u64 0, .int .u64 0, .int .u64 0, .int .u64 0]]) := HP
       clear HP eX eY eW
       have D1 := fun w => int_any (pa - pb) w (by omega) (by omega)
       have D2 := fun w => int_any (pc - pd) w (by omega) (by omega)
       have tk251 : True := trivial
       have tk252 : True := trivial
       have tk261 : True := trivial
       have tk262 : True := trivial
       have Y0 : Blk _ w.heap.size _ := T0.b 0 rfl; have Y1 : Blk _ (w.heap.size + 1) _ := T0.b 1 rfl; obtain ⟨sc0, sc1, sc2, sc3⟩ := Y0.cs4; obtain ⟨tc0, tc1, tc2, tc3⟩ := Y1.cs4; clear Y0 Y1
       go_wp2_with fail
       refine (D1 _).mono ?_
       rintro e k1 ⟨ds, do1, dn, dc, dd, rfl, Md, hB⟩
       have hgd : (w.heap.size + 1 + 1 + 1) + 1 ≤ k1.heap.size := ((T0.step hB).b 3 rfl).lt
       replace T0 := (T0.step hB).alloc (.cells #[.bool ds, .slice do1 dn dc] 73)
       replace Md := Md.alloc (.cells #[.bool ds, .slice do1 dn dc] 73)
       have Bd := Blk.new k1 [.bool ds, .slice do1 dn dc] 73 rfl
       clear hB sc0 tc0 sc1 tc1 sc2 tc2 sc3 tc3 D1
       have Y0 : Blk _ w.heap.size _ := T0.b 0 rfl; have Y1 : Blk _ (w.heap.size + 1) _ := T0.b 1 rfl; obtain ⟨sc0, sc1, sc2, sc3⟩ := Y0.cs4; obtain ⟨tc0, tc1, tc2, tc3⟩ := Y1.cs4; clear Y0 Y1
       go_wp2_with fail
       refine (D2 _).mono ?_
       rintro e k2 ⟨ns, no, nn, nc, nd, rfl, Mn, hB⟩
       have hgn : k1.heap.size + 1 ≤ k2.heap.size := (Bd.step hB).lt
       replace T0 := (T0.step hB).alloc (.cells #[.bool ns, .slice no nn nc] 73)
       replace Md := (Md.below hB).alloc (.cells #[.bool ns, .slice no nn nc] 73)
       replace Bd := (Bd.step hB).alloc (.cells #[.bool ns, .slice no nn nc] 73)
       replace Mn := Mn.alloc (.cells #[.bool ns, .slice no nn nc] 73)
       have Bn := Blk.new k2 [.bool ns, .slice no nn nc] 73 rfl
       clear hB sc0 tc0 sc1 tc1 sc2 tc2 sc3 tc3 D2
       have Y0 : Blk _ w.heap.size _ := T0.b 0 rfl; have Y1 : Blk _ (w.heap.size + 1) _ := T0.b 1 rfl; obtain ⟨sc0, sc1, sc2, sc3⟩ := Y0.cs4; obtain ⟨tc0, tc1, tc2, tc3⟩ := Y1.cs4; clear Y0 Y1
       go_upto_region 25 with fail
       clear sc0 tc0 sc1 tc1 sc2 tc2 sc3 tc3
       generalize k2.alloc (.cells #[.bool ns, .slice no nn nc] 73) = W2 at *
       generalize k2.heap.size = gn at *
       generalize k1.heap.size = gd at *
       have h0 := (T0.b 3 rfl).lt
       go_cut [19] (fun p' wx => CutN w wx [[.int .i64 a, .int .i64 b, .int .i64 c, .int .i64 d], [.int .i64 p, .int .i64 q, .int .i64 u, .int .i64 v], [.bool false, .slice none 0 0, .bool false, .slice none 0 0, .bool false, .slice none 0 0], [.bool false, .slice none 0 0, .bool false, .slice none 0 0, .bool false, .slice none 0 0]] (a * (pa - pb) + (c - a) * (pc - pd)) (2 + 2 + 1) (gn + 1) p' ∧ Blk wx gd [.bool ds, .slice do1 dn dc] ∧ Blk wx gn [.bool ns, .slice no nn nc] ∧ IsNum wx ds do1 dn dc dd (pa - pb) 2 ∧ IsNum wx ns no nn nc nd (pc - pd) 2)
       case first =>
         as_aux_lemma =>
           go_region_held3 (fun w' => w'.cell? ⟨w.heap.size, 0, none⟩ = some (.int .i64 a) ∧ w'.cell? ⟨gd, 0, none⟩ = some (.bool ds) ∧ w'.cell? ⟨gd, 1, none⟩ = some (.slice do1 dn dc) ∧ w'.cell? ⟨gn, 0, none⟩ = some (.bool ns) ∧ w'.cell? ⟨gn, 1, none⟩ = some (.slice no nn nc)) ((refine m4_keep0 (a := a) (b := b) (c := c) (d := d) (p := p) (q := q) (u := u) (v := v) ?_ ?_ ?_ <;> repeat (first | (with_reducible exact T0) | (with_reducible exact Bd) | (with_reducible exact Bn) | (with_reducible refine ArgsB.drew ?_) | (with_reducible refine Blk.drew ?_) | (with_reducible refine ArgsB.alloc ?_ _) | (with_reducible refine Blk.alloc ?_ _) | (with_reducible refine ArgsB.set2g ?_ (by simp; omega) _ _) | (with_reducible refine Blk.set2 ?_ (by omega)))))
             (first
               | (go_at_call 67; have _t := tk251; refine (int_any a _ (by omega) (by omega)).mono ?_; rintro e e251 ⟨fs, fo, fn, fc, fd, rfl, Nf, hB⟩; (first | (have T1 : ArgsB w e251 _ := (by with_reducible exact T0.step hB); have tlte251 := (T0.b 3 rfl).lt; have lBde251 := Bd.lt; replace Bd := Bd.step hB; have lBne251 := Bn.lt; replace Bn := Bn.step hB; replace Md := Md.below hB; replace Mn := Mn.below hB; (try (replace G0 := G0.step hB; obtain ⟨j0c, j0f, j1c, j1f⟩ := G0.cf2; have jlt := G0.lt))) | (have T1 : ArgsB w e251 _ := (by with_reducible exact T0.drew.step hB); have tlte251 := (T0.b 3 rfl).lt; have lBde251 := Bd.lt; replace Bd := Bd.drew.step hB; have lBne251 := Bn.lt; replace Bn := Bn.drew.step hB; replace Md := Md.drew.below hB; replace Mn := Mn.drew.below hB; (try (replace G0 := G0.drew.step hB; obtain ⟨j0c, j0f, j1c, j1f⟩ := G0.cf2; have jlt := G0.lt))) | (have T1 : ArgsB w e251 _ := (by with_reducible exact (T0.alloc _).step hB); have tlte251 := (T0.b 3 rfl).lt; have lBde251 := Bd.lt; replace Bd := (Bd.alloc _).step hB; have lBne251 := Bn.lt; replace Bn := (Bn.alloc _).step hB; replace Md := (Md.alloc _).below hB; replace Mn := (Mn.alloc _).below hB; (have G0 := (Blk.new _ [.bool false, .slice none 0 0] _ rfl).step hB; obtain ⟨j0c, j0f, j1c, j1f⟩ := G0.cf2; have jlt := G0.lt)) | (have T1 : ArgsB w e251 _ := (by with_reducible exact (T0.alloc _).drew.step hB); have tlte251 := (T0.b 3 rfl).lt; have lBde251 := Bd.lt; replace Bd := (Bd.alloc _).drew.step hB; have lBne251 := Bn.lt; replace Bn := (Bn.alloc _).drew.step hB; replace Md := (Md.alloc _).drew.below hB; replace Mn := (Mn.alloc _).drew.below hB; (have G0 := (Blk.new _ [.bool false, .slice none 0 0] _ rfl).drew.step hB; obtain ⟨j0c, j0f, j1c, j1f⟩ := G0.cf2; have jlt := G0.lt))); clear T0; have T0 := T1; clear T1; clear hB tk251 _t)
               | (go_at_call 69; have _t := tk252; refine (mul_any fs ds fo do1 fn dn fc dc (2) fd dd _ _ _ (by with_reducible first | exact Nf | exact Nf.drew | exact Nf.alloc _ | exact (Nf.alloc _).drew) (by with_reducible first | exact Md | exact Md.drew | exact Md.alloc _ | exact (Md.alloc _).drew) (by omega)).mono ?_; rintro e e252 ⟨gs, go, gn, gc, gd, rfl, Ng, hB⟩; (first | (have T1 : ArgsB w e252 _ := (by with_reducible exact T0.step hB); have tlte252 := (T0.b 3 rfl).lt; have lBde252 := Bd.lt; replace Bd := Bd.step hB; have lBne252 := Bn.lt; replace Bn := Bn.step hB; replace Md := Md.below hB; replace Mn := Mn.below hB; (try (replace G0 := G0.step hB; obtain ⟨j0c, j0f, j1c, j1f⟩ := G0.cf2; have jlt := G0.lt))) | (have T1 : ArgsB w e252 _ := (by with_reducible exact T0.drew.step hB); have tlte252 := (T0.b 3 rfl).lt; have lBde252 := Bd.lt; replace Bd := Bd.drew.step hB; have lBne252 := Bn.lt; replace Bn := Bn.drew.step hB; replace Md := Md.drew.below hB; replace Mn := Mn.drew.below hB; (try (replace G0 := G0.drew.step hB; obtain ⟨j0c, j0f, j1c, j1f⟩ := G0.cf2; have jlt := G0.lt))) | (have T1 : ArgsB w e252 _ := (by with_reducible exact (T0.alloc _).step hB); have tlte252 := (T0.b 3 rfl).lt; have lBde252 := Bd.lt; replace Bd := (Bd.alloc _).step hB; have lBne252 := Bn.lt; replace Bn := (Bn.alloc _).step hB; replace Md := (Md.alloc _).below hB; replace Mn := (Mn.alloc _).below hB; (have G0 := (Blk.new _ [.bool false, .slice none 0 0] _ rfl).step hB; obtain ⟨j0c, j0f, j1c, j1f⟩ := G0.cf2; have jlt := G0.lt)) | (have T1 : ArgsB w e252 _ := (by with_reducible exact (T0.alloc _).drew.step hB); have tlte252 := (T0.b 3 rfl).lt; have lBde252 := Bd.lt; replace Bd := (Bd.alloc _).drew.step hB; have lBne252 := Bn.lt; replace Bn := (Bn.alloc _).drew.step hB; replace Md := (Md.alloc _).drew.below hB; replace Mn := (Mn.alloc _).drew.below hB; (have G0 := (Blk.new _ [.bool false, .slice none 0 0] _ rfl).drew.step hB; obtain ⟨j0c, j0f, j1c, j1f⟩ := G0.cf2; have jlt := G0.lt))); clear T0; have T0 := T1; clear T1; clear hB tk252 _t; clear Nf)
               | (go_at_call 67; refine (int_any (c - a) _ (by omega) (by omega)).mono ?_; rintro e e253 ⟨zs, zo, zn, zc, zd, rfl, Nz, hB⟩; (first | (have T1 : ArgsB w e253 _ := (by with_reducible exact T0.step hB); have tlte253 := (T0.b 3 rfl).lt; have lBde253 := Bd.lt; replace Bd := Bd.step hB; have lBne253 := Bn.lt; replace Bn := Bn.step hB; replace Md := Md.below hB; replace Mn := Mn.below hB; replace Ng := Ng.below hB; (try (replace G0 := G0.step hB; obtain ⟨j0c, j0f, j1c, j1f⟩ := G0.cf2; have jlt := G0.lt))) | (have T1 : ArgsB w e253 _ := (by with_reducible exact T0.drew.step hB); have tlte253 := (T0.b 3 rfl).lt; have lBde253 := Bd.lt; replace Bd := Bd.drew.step hB; have lBne253 := Bn.lt; replace Bn := Bn.drew.step hB; replace Md := Md.drew.below hB; replace Mn := Mn.drew.below hB; replace Ng := Ng.drew.below hB; (try (replace G0 := G0.drew.step hB; obtain ⟨j0c, j0f, j1c, j1f⟩ := G0.cf2; have jlt := G0.lt))) | (have T1 : ArgsB w e253 _ := (by with_reducible exact (T0.alloc _).step hB); have tlte253 := (T0.b 3 rfl).lt; have lBde253 := Bd.lt; replace Bd := (Bd.alloc _).step hB; have lBne253 := Bn.lt; replace Bn := (Bn.alloc _).step hB; replace Md := (Md.alloc _).below hB; replace Mn := (Mn.alloc _).below hB; replace Ng := (Ng.alloc _).below hB; (have G0 := (Blk.new _ [.bool false, .slice none 0 0] _ rfl).step hB; obtain ⟨j0c, j0f, j1c, j1f⟩ := G0.cf2; have jlt := G0.lt)) | (have T1 : ArgsB w e253 _ := (by with_reducible exact (T0.alloc _).drew.step hB); have tlte253 := (T0.b 3 rfl).lt; have lBde253 := Bd.lt; replace Bd := (Bd.alloc _).drew.step hB; have lBne253 := Bn.lt; replace Bn := (Bn.alloc _).drew.step hB; replace Md := (Md.alloc _).drew.below hB; replace Mn := (Mn.alloc _).drew.below hB; replace Ng := (Ng.alloc _).drew.below hB; (have G0 := (Blk.new _ [.bool false, .slice none 0 0] _ rfl).drew.step hB; obtain ⟨j0c, j0f, j1c, j1f⟩ := G0.cf2; have jlt := G0.lt))); clear T0; have T0 := T1; clear T1; clear hB)
               | (go_at_call 69; refine (mul_any zs ns zo no zn nn zc nc (2) zd nd _ _ _ (by with_reducible first | exact Nz | exact Nz.drew | exact Nz.alloc _ | exact (Nz.alloc _).drew) (by with_reducible first | exact Mn | exact Mn.drew | exact Mn.alloc _ | exact (Mn.alloc _).drew) (by omega)).mono ?_; rintro e e254 ⟨ls, lo, ln, lc, ld, rfl, Nl, hB⟩; (first | (have T1 : ArgsB w e254 _ := (by with_reducible exact T0.step hB); have tlte254 := (T0.b 3 rfl).lt; have lBde254 := Bd.lt; replace Bd := Bd.step hB; have lBne254 := Bn.lt; replace Bn := Bn.step hB; replace Md := Md.below hB; replace Mn := Mn.below hB; replace Ng := Ng.below hB; (try (replace G0 := G0.step hB; obtain ⟨j0c, j0f, j1c, j1f⟩ := G0.cf2; have jlt := G0.lt))) | (have T1 : ArgsB w e254 _ := (by with_reducible exact T0.drew.step hB); have tlte254 := (T0.b 3 rfl).lt; have lBde254 := Bd.lt; replace Bd := Bd.drew.step hB; have lBne254 := Bn.lt; replace Bn := Bn.drew.step hB; replace Md := Md.drew.below hB; replace Mn := Mn.drew.below hB; replace Ng := Ng.drew.below hB; (try (replace G0 := G0.drew.step hB; obtain ⟨j0c, j0f, j1c, j1f⟩ := G0.cf2; have jlt := G0.lt))) | (have T1 : ArgsB w e254 _ := (by with_reducible exact (T0.alloc _).step hB); have tlte254 := (T0.b 3 rfl).lt; have lBde254 := Bd.lt; replace Bd := (Bd.alloc _).step hB; have lBne254 := Bn.lt; replace Bn := (Bn.alloc _).step hB; replace Md := (Md.alloc _).below hB; replace Mn := (Mn.alloc _).below hB; replace Ng := (Ng.alloc _).below hB; (have G0 := (Blk.new _ [.bool false, .slice none 0 0] _ rfl).step hB; obtain ⟨j0c, j0f, j1c, j1f⟩ := G0.cf2; have jlt := G0.lt)) | (have T1 : ArgsB w e254 _ := (by with_reducible exact (T0.alloc _).drew.step hB); have tlte254 := (T0.b 3 rfl).lt; have lBde254 := Bd.lt; replace Bd := (Bd.alloc _).drew.step hB; have lBne254 := Bn.lt; replace Bn := (Bn.alloc _).drew.step hB; replace Md := (Md.alloc _).drew.below hB; replace Mn := (Mn.alloc _).drew.below hB; replace Ng := (Ng.alloc _).drew.below hB; (have G0 := (Blk.new _ [.bool false, .slice none 0 0] _ rfl).drew.step hB; obtain ⟨j0c, j0f, j1c, j1f⟩ := G0.cf2; have jlt := G0.lt))); clear T0; have T0 := T1; clear T1; clear hB; clear Nz)
               | (go_at_call 89; refine (add_any gs ls go lo gn ln gc lc (2 + 2) gd ld _ _ _ (by with_reducible first | exact Ng | exact Ng.drew | exact Ng.alloc _ | exact (Ng.alloc _).drew) (by with_reducible first | exact Nl | exact Nl.drew | exact Nl.alloc _ | exact (Nl.alloc _).drew) (by omega)).mono ?_; rintro e e255 ⟨ms, mo, mn, mc, md, rfl, Nm, hB⟩; (first | (have T1 : ArgsB w e255 _ := (by with_reducible exact T0.step hB); have tlte255 := (T0.b 3 rfl).lt; have lBde255 := Bd.lt; replace Bd := Bd.step hB; have lBne255 := Bn.lt; replace Bn := Bn.step hB; replace Md := Md.below hB; replace Mn := Mn.below hB; (try (replace G0 := G0.step hB; obtain ⟨j0c, j0f, j1c, j1f⟩ := G0.cf2; have jlt := G0.lt))) | (have T1 : ArgsB w e255 _ := (by with_reducible exact T0.drew.step hB); have tlte255 := (T0.b 3 rfl).lt; have lBde255 := Bd.lt; replace Bd := Bd.drew.step hB; have lBne255 := Bn.lt; replace Bn := Bn.drew.step hB; replace Md := Md.drew.below hB; replace Mn := Mn.drew.below hB; (try (replace G0 := G0.drew.step hB; obtain ⟨j0c, j0f, j1c, j1f⟩ := G0.cf2; have jlt := G0.lt))) | (have T1 : ArgsB w e255 _ := (by with_reducible exact (T0.alloc _).step hB); have tlte255 := (T0.b 3 rfl).lt; have lBde255 := Bd.lt; replace Bd := (Bd.alloc _).step hB; have lBne255 := Bn.lt; replace Bn := (Bn.alloc _).step hB; replace Md := (Md.alloc _).below hB; replace Mn := (Mn.alloc _).below hB; (have G0 := (Blk.new _ [.bool false, .slice none 0 0] _ rfl).step hB; obtain ⟨j0c, j0f, j1c, j1f⟩ := G0.cf2; have jlt := G0.lt)) | (have T1 : ArgsB w e255 _ := (by with_reducible exact (T0.alloc _).drew.step hB); have tlte255 := (T0.b 3 rfl).lt; have lBde255 := Bd.lt; replace Bd := (Bd.alloc _).drew.step hB; have lBne255 := Bn.lt; replace Bn := (Bn.alloc _).drew.step hB; replace Md := (Md.alloc _).drew.below hB; replace Mn := (Mn.alloc _).drew.below hB; (have G0 := (Blk.new _ [.bool false, .slice none 0 0] _ rfl).drew.step hB; obtain ⟨j0c, j0f, j1c, j1f⟩ := G0.cf2; have jlt := G0.lt))); clear T0; have T0 := T1; clear T1; clear hB; clear Ng Nl))
           all_goals go_wp2_with fail
           all_goals go_meet
           all_goals have hl := (T0.b 3 rfl).lt
           all_goals have hld := Bd.lt
           all_goals have hln := Bn.lt
           all_goals first | (with_reducible exact ⟨cutN_new T0 Nm (by omega), Bd.alloc _, Bn.alloc _, Md.alloc _, Mn.alloc _⟩) | (with_reducible exact ⟨cutN_set T0 Nm G0 (by omega) (by simp; omega), Bd.set2 (by omega), Bn.set2 (by omega), Md.set2 G0 _ _, Mn.set2 G0 _ _⟩)
       case rest =>
         clear T0 h0 tk251 tk252 Bd Bn Md Mn
         obtain ⟨⟨gx, xs, xo, xn, xc, xd, hp', hgx, Bx, Mx, T0⟩, Bd, Bn, Md, Mn⟩ := hcut
         subst hp'
         have h0 := (T0.b 3 rfl).lt
         have Y0 : Blk _ w.heap.size _ := T0.b 0 rfl; have Y1 : Blk _ (w.heap.size + 1) _ := T0.b 1 rfl; obtain ⟨sc0, sc1, sc2, sc3⟩ := Y0.cs4; obtain ⟨tc0, tc1, tc2, tc3⟩ := Y1.cs4; clear Y0 Y1
         go_upto_region 26 with fail
         clear sc0 tc0 sc1 tc1 sc2 tc2 sc3 tc3
         go_cut [20] (fun p' wx => CutN w wx [[.int .i64 a, .int .i64 b, .int .i64 c, .int .i64 d], [.int .i64 p, .int .i64 q, .int .i64 u, .int .i64 v], [.bool false, .slice none 0 0, .bool false, .slice none 0 0, .bool false, .slice none 0 0], [.bool false, .slice none 0 0, .bool false, .slice none 0 0, .bool false, .slice none 0 0]] (b * (pa - pb) + (d - b) * (pc - pd)) (2 + 2 + 1) (gx + 1) p' ∧ Blk wx gd [.bool ds, .slice do1 dn dc] ∧ Blk wx gn [.bool ns, .slice no nn nc] ∧ Blk wx gx [.bool xs, .slice xo xn xc] ∧ IsNum wx ds do1 dn dc dd (pa - pb) 2 ∧ IsNum wx ns no nn nc nd (pc - pd) 2 ∧ IsNum wx xs xo xn xc xd (a * (pa - pb) + (c - a) * (pc - pd)) (2 + 2 + 1))
         case first =>
           as_aux_lemma =>
             go_region_held3 (fun w' => w'.cell? ⟨w.heap.size, 1, none⟩ = some (.int .i64 b) ∧ w'.cell? ⟨gd, 0, none⟩ = some (.bool ds) ∧ w'.cell? ⟨gd, 1, none⟩ = some (.slice do1 dn dc) ∧ w'.cell? ⟨gn, 0, none⟩ = some (.bool ns) ∧ w'.cell? ⟨gn, 1, none⟩ = some (.slice no nn nc)) ((refine m4_keep1 (a := a) (b := b) (c := c) (d := d) (p := p) (q := q) (u := u) (v := v) ?_ ?_ ?_ <;> repeat (first | (with_reducible exact T0) | (with_reducible exact Bd) | (with_reducible exact Bn) | (with_reducible refine ArgsB.drew ?_) | (with_reducible refine Blk.drew ?_) | (with_reducible refine ArgsB.alloc ?_ _) | (with_reducible refine Blk.alloc ?_ _) | (with_reducible refine ArgsB.set2g ?_ (by simp; omega) _ _) | (with_reducible refine Blk.set2 ?_ (by omega)))))
               (first
                 | (go_at_call 67; have _t := tk261; refine (int_any b _ (by omega) (by omega)).mono ?_; rintro e e261 ⟨fs, fo, fn, fc, fd, rfl, Nf, hB⟩; (first | (have T1 : ArgsB w e261 _ := (by with_reducible exact T0.step hB); have tlte261 := (T0.b 3 rfl).lt; have lBde261 := Bd.lt; replace Bd := Bd.step hB; have lBne261 := Bn.lt; replace Bn := Bn.step hB; have lBxe261 := Bx.lt; replace Bx := Bx.step hB; replace Md := Md.below hB; replace Mn := Mn.below hB; replace Mx := Mx.below hB; (try (replace G0 := G0.step hB; obtain ⟨j0c, j0f, j1c, j1f⟩ := G0.cf2; have jlt := G0.lt))) | (have T1 : ArgsB w e261 _ := (by with_reducible exact T0.drew.step hB); have tlte261 := (T0.b 3 rfl).lt; have lBde261 := Bd.lt; replace Bd := Bd.drew.step hB; have lBne261 := Bn.lt; replace Bn := Bn.drew.step hB; have lBxe261 := Bx.lt; replace Bx := Bx.drew.step hB; replace Md := Md.drew.below hB; replace Mn := Mn.drew.below hB; replace Mx := Mx.drew.below hB; (try (replace G0 := G0.drew.step hB; obtain ⟨j0c, j0f, j1c, j1f⟩ := G0.cf2; have jlt := G0.lt))) | (have T1 : ArgsB w e261 _ := (by with_reducible exact (T0.alloc _).step hB); have tlte261 := (T0.b 3 rfl).lt; have lBde261 := Bd.lt; replace Bd := (Bd.alloc _).step hB; have lBne261 := Bn.lt; replace Bn := (Bn.alloc _).step hB; have lBxe261 := Bx.lt; replace Bx := (Bx.alloc _).step hB; replace Md := (Md.alloc _).below hB; replace Mn := (Mn.alloc _).below hB; replace Mx := (Mx.alloc _).below hB; (have G0 := (Blk.new _ [.bool false, .slice none 0 0] _ rfl).step hB; obtain ⟨j0c, j0f, j1c, j1f⟩ := G0.cf2; have jlt := G0.lt)) | (have T1 : ArgsB w e261 _ := (by with_reducible exact (T0.alloc _).drew.step hB); have tlte261 := (T0.b 3 rfl).lt; have lBde261 := Bd.lt; replace Bd := (Bd.alloc _).drew.step hB; have lBne261 := Bn.lt; replace Bn := (Bn.alloc _).drew.step hB; have lBxe261 := Bx.lt; replace Bx := (Bx.alloc _).drew.step hB; replace Md := (Md.alloc _).drew.below hB; replace Mn := (Mn.alloc _).drew.below hB; replace Mx := (Mx.alloc _).drew.below hB; (have G0 := (Blk.new _ [.bool false, .slice none 0 0] _ rfl).drew.step hB; obtain ⟨j0c, j0f, j1c, j1f⟩ := G0.cf2; have jlt := G0.lt))); clear T0; have T0 := T1; clear T1; clear hB tk261 _t)
                 | (go_at_call 69; have _t := tk262; refine (mul_any fs ds fo do1 fn dn fc dc (2) fd dd _ _ _ (by with_reducible first | exact Nf | exact Nf.drew | exact Nf.alloc _ | exact (Nf.alloc _).drew) (by with_reducible first | exact Md | exact Md.drew | exact Md.alloc _ | exact (Md.alloc _).drew) (by omega)).mono ?_; rintro e e262 ⟨gs, go, gn, gc, gd, rfl, Ng, hB⟩; (first | (have T1 : ArgsB w e262 _ := (by with_reducible exact T0.step hB); have tlte262 := (T0.b 3 rfl).lt; have lBde262 := Bd.lt; replace Bd := Bd.step hB; have lBne262 := Bn.lt; replace Bn := Bn.step hB; have lBxe262 := Bx.lt; replace Bx := Bx.step hB; replace Md := Md.below hB; replace Mn := Mn.below hB; replace Mx := Mx.below hB; (try (replace G0 := G0.step hB; obtain ⟨j0c, j0f, j1c, j1f⟩ := G0.cf2; have jlt := G0.lt))) | (have T1 : ArgsB w e262 _ := (by with_reducible exact T0.drew.step hB); have tlte262 := (T0.b 3 rfl).lt; have lBde262 := Bd.lt; replace Bd := Bd.drew.step hB; have lBne262 := Bn.lt; replace Bn := Bn.drew.step hB; have lBxe262 := Bx.lt; replace Bx := Bx.drew.step hB; replace Md := Md.drew.below hB; replace Mn := Mn.drew.below hB; replace Mx := Mx.drew.below hB; (try (replace G0 := G0.drew.step hB; obtain ⟨j0c, j0f, j1c, j1f⟩ := G0.cf2; have jlt := G0.lt))) | (have T1 : ArgsB w e262 _ := (by with_reducible exact (T0.alloc _).step hB); have tlte262 := (T0.b 3 rfl).lt; have lBde262 := Bd.lt; replace Bd := (Bd.alloc _).step hB; have lBne262 := Bn.lt; replace Bn := (Bn.alloc _).step hB; have lBxe262 := Bx.lt; replace Bx := (Bx.alloc _).step hB; replace Md := (Md.alloc _).below hB; replace Mn := (Mn.alloc _).below hB; replace Mx := (Mx.alloc _).below hB; (have G0 := (Blk.new _ [.bool false, .slice none 0 0] _ rfl).step hB; obtain ⟨j0c, j0f, j1c, j1f⟩ := G0.cf2; have jlt := G0.lt)) | (have T1 : ArgsB w e262 _ := (by with_reducible exact (T0.alloc _).drew.step hB); have tlte262 := (T0.b 3 rfl).lt; have lBde262 := Bd.lt; replace Bd := (Bd.alloc _).drew.step hB; have lBne262 := Bn.lt; replace Bn := (Bn.alloc _).drew.step hB; have lBxe262 := Bx.lt; replace Bx := (Bx.alloc _).drew.step hB; replace Md := (Md.alloc _).drew.below hB; replace Mn := (Mn.alloc _).drew.below hB; replace Mx := (Mx.alloc _).drew.below hB; (have G0 := (Blk.new _ [.bool false, .slice none 0 0] _ rfl).drew.step hB; obtain ⟨j0c, j0f, j1c, j1f⟩ := G0.cf2; have jlt := G0.lt))); clear T0; have T0 := T1; clear T1; clear hB tk262 _t; clear Nf)
                 | (go_at_call 67; refine (int_any (d - b) _ (by omega) (by omega)).mono ?_; rintro e e263 ⟨zs, zo, zn, zc, zd, rfl, Nz, hB⟩; (first | (have T1 : ArgsB w e263 _ := (by with_reducible exact T0.step hB); have tlte263 := (T0.b 3 rfl).lt; have lBde263 := Bd.lt; replace Bd := Bd.step hB; have lBne263 := Bn.lt; replace Bn := Bn.step hB; have lBxe263 := Bx.lt; replace Bx := Bx.step hB; replace Md := Md.below hB; replace Mn := Mn.below hB; replace Mx := Mx.below hB; replace Ng := Ng.below hB; (try (replace G0 := G0.step hB; obtain ⟨j0c, j0f, j1c, j1f⟩ := G0.cf2; have jlt := G0.lt))) | (have T1 : ArgsB w e263 _ := (by with_reducible exact T0.drew.step hB); have tlte263 := (T0.b 3 rfl).lt; have lBde263 := Bd.lt; replace Bd := Bd.drew.step hB; have lBne263 := Bn.lt; replace Bn := Bn.drew.step hB; have lBxe263 := Bx.lt; replace Bx := Bx.drew.step hB; replace Md := Md.drew.below hB; replace Mn := Mn.drew.below hB; replace Mx := Mx.drew.below hB; replace Ng := Ng.drew.below hB; (try (replace G0 := G0.drew.step hB; obtain ⟨j0c, j0f, j1c, j1f⟩ := G0.cf2; have jlt := G0.lt))) | (have T1 : ArgsB w e263 _ := (by with_reducible exact (T0.alloc _).step hB); have tlte263 := (T0.b 3 rfl).lt; have lBde263 := Bd.lt; replace Bd := (Bd.alloc _).step hB; have lBne263 := Bn.lt; replace Bn := (Bn.alloc _).step hB; have lBxe263 := Bx.lt; replace Bx := (Bx.alloc _).step hB; replace Md := (Md.alloc _).below hB; replace Mn := (Mn.alloc _).below hB; replace Mx := (Mx.alloc _).below hB; replace Ng := (Ng.alloc _).below hB; (have G0 := (Blk.new _ [.bool false, .slice none 0 0] _ rfl).step hB; obtain ⟨j0c, j0f, j1c, j1f⟩ := G0.cf2; have jlt := G0.lt)) | (have T1 : ArgsB w e263 _ := (by with_reducible exact (T0.alloc _).drew.step hB); have tlte263 := (T0.b 3 rfl).lt; have lBde263 := Bd.lt; replace Bd := (Bd.alloc _).drew.step hB; have lBne263 := Bn.lt; replace Bn := (Bn.alloc _).drew.step hB; have lBxe263 := Bx.lt; replace Bx := (Bx.alloc _).drew.step hB; replace Md := (Md.alloc _).drew.below hB; replace Mn := (Mn.alloc _).drew.below hB; replace Mx := (Mx.alloc _).drew.below hB; replace Ng := (Ng.alloc _).drew.below hB; (have G0 := (Blk.new _ [.bool false, .slice none 0 0] _ rfl).drew.step hB; obtain ⟨j0c, j0f, j1c, j1f⟩ := G0.cf2; have jlt := G0.lt))); clear T0; have T0 := T1; clear T1; clear hB)
                 | (go_at_call 69; refine (mul_any zs ns zo no zn nn zc nc (2) zd nd _ _ _ (by with_reducible first | exact Nz | exact Nz.drew | exact Nz.alloc _ | exact (Nz.alloc _).drew) (by with_reducible first | exact Mn | exact Mn.drew | exact Mn.alloc _ | exact (Mn.alloc _).drew) (by omega)).mono ?_; rintro e e264 ⟨ls, lo, ln, lc, ld, rfl, Nl, hB⟩; (first | (have T1 : ArgsB w e264 _ := (by with_reducible exact T0.step hB); have tlte264 := (T0.b 3 rfl).lt; have lBde264 := Bd.lt; replace Bd := Bd.step hB; have lBne264 := Bn.lt; replace Bn := Bn.step hB; have lBxe264 := Bx.lt; replace Bx := Bx.step hB; replace Md := Md.below hB; replace Mn := Mn.below hB; replace Mx := Mx.below hB; replace Ng := Ng.below hB; (try (replace G0 := G0.step hB; obtain ⟨j0c, j0f, j1c, j1f⟩ := G0.cf2; have jlt := G0.lt))) | (have T1 : ArgsB w e264 _ := (by with_reducible exact T0.drew.step hB); have tlte264 := (T0.b 3 rfl).lt; have lBde264 := Bd.lt; replace Bd := Bd.drew.step hB; have lBne264 := Bn.lt; replace Bn := Bn.drew.step hB; have lBxe264 := Bx.lt; replace Bx := Bx.drew.step hB; replace Md := Md.drew.below hB; replace Mn := Mn.drew.below hB; replace Mx := Mx.drew.below hB; replace Ng := Ng.drew.below hB; (try (replace G0 := G0.drew.step hB; obtain ⟨j0c, j0f, j1c, j1f⟩ := G0.cf2; have jlt := G0.lt))) | (have T1 : ArgsB w e264 _ := (by with_reducible exact (T0.alloc _).step hB); have tlte264 := (T0.b 3 rfl).lt; have lBde264 := Bd.lt; replace Bd := (Bd.alloc _).step hB; have lBne264 := Bn.lt; replace Bn := (Bn.alloc _).step hB; have lBxe264 := Bx.lt; replace Bx := (Bx.alloc _).step hB; replace Md := (Md.alloc _).below hB; replace Mn := (Mn.alloc _).below hB; replace Mx := (Mx.alloc _).below hB; replace Ng := (Ng.alloc _).below hB; (have G0 := (Blk.new _ [.bool false, .slice none 0 0] _ rfl).step hB; obtain ⟨j0c, j0f, j1c, j1f⟩ := G0.cf2; have jlt := G0.lt)) | (have T1 : ArgsB w e264 _ := (by with_reducible exact (T0.alloc _).drew.step hB); have tlte264 := (T0.b 3 rfl).lt; have lBde264 := Bd.lt; replace Bd := (Bd.alloc _).drew.step hB; have lBne264 := Bn.lt; replace Bn := (Bn.alloc _).drew.step hB; have lBxe264 := Bx.lt; replace Bx := (Bx.alloc _).drew.step hB; replace Md := (Md.alloc _).drew.below hB; replace Mn := (Mn.alloc _).drew.below hB; replace Mx := (Mx.alloc _).drew.below hB; replace Ng := (Ng.alloc _).drew.below hB; (have G0 := (Blk.new _ [.bool false, .slice none 0 0] _ rfl).drew.step hB; obtain ⟨j0c, j0f, j1c, j1f⟩ := G0.cf2; have jlt := G0.lt))); clear T0; have T0 := T1; clear T1; clear hB; clear Nz)
                 | (go_at_call 89; refine (add_any gs ls go lo gn ln gc lc (2 + 2) gd ld _ _ _ (by with_reducible first | exact Ng | exact Ng.drew | exact Ng.alloc _ | exact (Ng.alloc _).drew) (by with_reducible first | exact Nl | exact Nl.drew | exact Nl.alloc _ | exact (Nl.alloc _).drew) (by omega)).mono ?_; rintro e e265 ⟨ms, mo, mn, mc, md, rfl, Nm, hB⟩; (first | (have T1 : ArgsB w e265 _ := (by with_reducible exact T0.step hB); have tlte265 := (T0.b 3 rfl).lt; have lBde265 := Bd.lt; replace Bd := Bd.step hB; have lBne265 := Bn.lt; replace Bn := Bn.step hB; have lBxe265 := Bx.lt; replace Bx := Bx.step hB; replace Md := Md.below hB; replace Mn := Mn.below hB; replace Mx := Mx.below hB; (try (replace G0 := G0.step hB; obtain ⟨j0c, j0f, j1c, j1f⟩ := G0.cf2; have jlt := G0.lt))) | (have T1 : ArgsB w e265 _ := (by with_reducible exact T0.drew.step hB); have tlte265 := (T0.b 3 rfl).lt; have lBde265 := Bd.lt; replace Bd := Bd.drew.step hB; have lBne265 := Bn.lt; replace Bn := Bn.drew.step hB; have lBxe265 := Bx.lt; replace Bx := Bx.drew.step hB; replace Md := Md.drew.below hB; replace Mn := Mn.drew.below hB; replace Mx := Mx.drew.below hB; (try (replace G0 := G0.drew.step hB; obtain ⟨j0c, j0f, j1c, j1f⟩ := G0.cf2; have jlt := G0.lt))) | (have T1 : ArgsB w e265 _ := (by with_reducible exact (T0.alloc _).step hB); have tlte265 := (T0.b 3 rfl).lt; have lBde265 := Bd.lt; replace Bd := (Bd.alloc _).step hB; have lBne265 := Bn.lt; replace Bn := (Bn.alloc _).step hB; have lBxe265 := Bx.lt; replace Bx := (Bx.alloc _).step hB; replace Md := (Md.alloc _).below hB; replace Mn := (Mn.alloc _).below hB; replace Mx := (Mx.alloc _).below hB; (have G0 := (Blk.new _ [.bool false, .slice none 0 0] _ rfl).step hB; obtain ⟨j0c, j0f, j1c, j1f⟩ := G0.cf2; have jlt := G0.lt)) | (have T1 : ArgsB w e265 _ := (by with_reducible exact (T0.alloc _).drew.step hB); have tlte265 := (T0.b 3 rfl).lt; have lBde265 := Bd.lt; replace Bd := (Bd.alloc _).drew.step hB; have lBne265 := Bn.lt; replace Bn := (Bn.alloc _).drew.step hB; have lBxe265 := Bx.lt; replace Bx := (Bx.alloc _).drew.step hB; replace Md := (Md.alloc _).drew.below hB; replace Mn := (Mn.alloc _).drew.below hB; replace Mx := (Mx.alloc _).drew.below hB; (have G0 := (Blk.new _ [.bool false, .slice none 0 0] _ rfl).drew.step hB; obtain ⟨j0c, j0f, j1c, j1f⟩ := G0.cf2; have jlt := G0.lt))); clear T0; have T0 := T1; clear T1; clear hB; clear Ng Nl))
             all_goals go_wp2_with fail
             all_goals go_meet
             all_goals have hl := (T0.b 3 rfl).lt
             all_goals have hld := Bd.lt
             all_goals have hln := Bn.lt
             all_goals have hlx := Bx.lt
             all_goals first | (with_reducible exact ⟨cutN_new T0 Nm (by omega), Bd.alloc _, Bn.alloc _, Bx.alloc _, Md.alloc _, Mn.alloc _, Mx.alloc _⟩) | (with_reducible exact ⟨cutN_set T0 Nm G0 (by omega) (by simp; omega), Bd.set2 (by omega), Bn.set2 (by omega), Bx.set2 (by omega), Md.set2 G0 _ _, Mn.set2 G0 _ _, Mx.set2 G0 _ _⟩)
         case rest =>
           clear T0 h0 tk261 tk262 Bd Bn Md Mn Bx Mx
           obtain ⟨⟨gy, ys, yo, yn, yc, yd, hp', hgy, By, My, T0⟩, Bd, Bn, Bx, Md, Mn, Mx⟩ := hcut
           subst hp'
           have LM := fun w N1 N2 N3 => l3Make_any xs xo xn xc xd ys yo yn yc yd ds do1 dn dc dd (a * (pa - pb) + (c - a) * (pc - pd)) (b * (pa - pb) + (d - b) * (pc - pd)) (pa - pb) 5 (by omega) (by omega) w N1 N2 N3 hW0
           have sx := share_abs (n := (a * (pa - pb) + (c - a) * (pc - pd))) (g := (Int.gcd (Int.gcd (a * (pa - pb) + (c - a) * (pc - pd)) (b * (pa - pb) + (d - b) * (pc - pd)) : Int) (pa - pb) : Int)) (b := decide ((pa - pb) < 0)) (by have := Int.gcd_pos_of_ne_zero_right (Int.gcd (a * (pa - pb) + (c - a) * (pc - pd)) (b * (pa - pb) + (d - b) * (pc - pd)) : Int) hW0; omega)
           have sy := share_abs (n := (b * (pa - pb) + (d - b) * (pc - pd))) (g := (Int.gcd (Int.gcd (a * (pa - pb) + (c - a) * (pc - pd)) (b * (pa - pb) + (d - b) * (pc - pd)) : Int) (pa - pb) : Int)) (b := decide ((pa - pb) < 0)) (by have := Int.gcd_pos_of_ne_zero_right (Int.gcd (a * (pa - pb) + (c - a) * (pc - pd)) (b * (pa - pb) + (d - b) * (pc - pd)) : Int) hW0; omega)
           have sz := share_abs (n := (pa - pb)) (g := (Int.gcd (Int.gcd (a * (pa - pb) + (c - a) * (pc - pd)) (b * (pa - pb) + (d - b) * (pc - pd)) : Int) (pa - pb) : Int)) (b := decide ((pa - pb) < 0)) (by have := Int.gcd_pos_of_ne_zero_right (Int.gcd (a * (pa - pb) + (c - a) * (pc - pd)) (b * (pa - pb) + (d - b) * (pc - pd)) : Int) hW0; omega)
           have k1' : small (shareZ (a * (pa - pb) + (c - a) * (pc - pd)) (Int.gcd (Int.gcd (a * (pa - pb) + (c - a) * (pc - pd)) (b * (pa - pb) + (d - b) * (pc - pd)) : Int) (pa - pb) : Int) (decide ((pa - pb) < 0))) = true := small_int (by omega) (by omega)
           have k2' : small (shareZ (b * (pa - pb) + (d - b) * (pc - pd)) (Int.gcd (Int.gcd (a * (pa - pb) + (c - a) * (pc - pd)) (b * (pa - pb) + (d - b) * (pc - pd)) : Int) (pa - pb) : Int) (decide ((pa - pb) < 0))) = true := small_int (by omega) (by omega)
           have k3' : small (shareZ (pa - pb) (Int.gcd (Int.gcd (a * (pa - pb) + (c - a) * (pc - pd)) (b * (pa - pb) + (d - b) * (pc - pd)) : Int) (pa - pb) : Int) (decide ((pa - pb) < 0))) = true := small_int (by omega) (by omega)
           clear sx sy sz
           generalize (shareZ (a * (pa - pb) + (c - a) * (pc - pd)) (Int.gcd (Int.gcd (a * (pa - pb) + (c - a) * (pc - pd)) (b * (pa - pb) + (d - b) * (pc - pd)) : Int) (pa - pb) : Int) (decide ((pa - pb) < 0))) = rx at *
           generalize (shareZ (b * (pa - pb) + (d - b) * (pc - pd)) (Int.gcd (Int.gcd (a * (pa - pb) + (c - a) * (pc - pd)) (b * (pa - pb) + (d - b) * (pc - pd)) : Int) (pa - pb) : Int) (decide ((pa - pb) < 0))) = ry at *
           generalize (shareZ (pa - pb) (Int.gcd (Int.gcd (a * (pa - pb) + (c - a) * (pc - pd)) (b * (pa - pb) + (d - b) * (pc - pd)) : Int) (pa - pb) : Int) (decide ((pa - pb) < 0))) = rz at *
           have xc0' := Bx.c 0 rfl; have xc1' := Bx.c 1 rfl; have yc0' := By.c 0 rfl; have yc1' := By.c 1 rfl; have dc0' := Bd.c 0 rfl; have dc1' := Bd.c 1 rfl
           go_wp2_with fail
           refine (LM _ Mx My (num_more Md (by omega))).mono ?_
           rintro e k9 ⟨js1, jo1, jn1, jc1, jd1, js2, jo2, jn2, jc2, jd2, js3, jo3, jn3, jc3, jd3, rfl, Nj1, Nj2, Nj3, hB⟩
           replace T0 := T0.step hB
           clear hB LM xc0' xc1' yc0' yc1' dc0' dc1' Bx By Bd Bn Mx My Md Mn
           have BS : Blk _ w.heap.size _ := T0.b 0 rfl; have BT : Blk _ (w.heap.size + 1) _ := T0.b 1 rfl; have BP : Blk _ (w.heap.size + 1 + 1) _ := T0.b 2 rfl; have BQ : Blk _ (w.heap.size + 1 + 1 + 1) _ := T0.b 3 rfl; have HB := T0.below
           clear T0
           clear BS BT
           obtain ⟨xc0, xf0, xc1, xf1, xc2, xf2, xc3, xf3, xc4, xf4, xc5, xf5⟩ := BP.cf6; have xl := BP.lt; obtain ⟨yc0, yf0, yc1, yf1, yc2, yf2, yc3, yf3, yc4, yf4, yc5, yf5⟩ := BQ.cf6; have yl := BQ.lt
           have BQ6 := BQ.set6 (g := (w.heap.size + 1 + 1)) (v0 := .bool js1) (v1 := .slice jo1 jn1 jc1) (v2 := .bool js2) (v3 := .slice jo2 jn2 jc2) (v4 := .bool js3) (v5 := .slice jo3 jn3 jc3) (by omega)
           go_wp2
           refine bodyPost_ret (v := .tuple #[.int .i64 1, .agg #[.bool js1, .slice jo1 jn1 jc1, .bool js2, .slice jo2 jn2 jc2, .bool js3, .slice jo3 jn3 jc3], .agg #[.bool false, .slice none 0 0, .bool false, .slice none 0 0, .bool false, .slice none 0 0]]) (by simp [results, Tryz.results52, go_sem, xc0, yc0, xc1, yc1, xc2, yc2, xc3, yc3, xc4, yc4, xc5, yc5]) rfl ?_
           refine ⟨?_, Or.inr (Or.inl ⟨rx, ry, rz, _, HO.out, k1', k2', k3', rfl, js1, jo1, jn1, jc1, jd1, js2, jo2, jn2, jc2, jd2, js3, jo3, jn3, jc3, jd3, rfl, ?_, ?_, ?_⟩)⟩
           · repeat' (refine Below.setCell ?_ (by simp; try omega) _)
             exact HB
           · exact num_set6 (num_set6 Nj1 BP (.bool js1) (.slice jo1 jn1 jc1) (.bool js2) (.slice jo2 jn2 jc2) (.bool js3) (.slice jo3 jn3 jc3)) BQ6 (.bool false) (.slice none 0 0) (.bool false) (.slice none 0 0) (.bool false) (.slice none 0 0)
           · exact num_set6 (num_set6 Nj2 BP (.bool js1) (.slice jo1 jn1 jc1) (.bool js2) (.slice jo2 jn2 jc2) (.bool js3) (.slice jo3 jn3 jc3)) BQ6 (.bool false) (.slice none 0 0) (.bool false) (.slice none 0 0) (.bool false) (.slice none 0 0)
           · exact num_set6 (num_set6 Nj3 BP (.bool js1) (.slice jo1 jn1 jc1) (.bool js2) (.slice jo2 jn2 jc2) (.bool js3) (.slice jo3 jn3 jc3)) BQ6 (.bool false) (.slice none 0 0) (.bool false) (.slice none 0 0) (.bool false) (.slice none 0 0)
theorem l4Meet_any (a b c d p q u v : Int) (ha : In1 a) (hb : In1 b) (hc : In1 c) (hd : In1 d) (hp : In1 p) (hq : In1 q) (hu : In1 u) (hv : In1 v) (w : World) : Calls Tryz.prog 52 #[Sg a b c d, Sg p q u v] w (MtP a b c d p q u v w) := by
 by_cases h : turnZ a b c d p q = 0 ∧ turnZ a b c d u v = 0
 · exact l4Meet_along a b c d p q u v ha hb hc hd hp hq hu hv h w
 · exact l4Meet_cross a b c d p q u v ha hb hc hd hp hq hu hv h w
theorem mg_cells {x y z : Int} {W : World} {ga : Nat} (XP : Blk W ga [.int .u64 (ww3 x), .int .u64 (ww2 x), .int .u64 (ww1 x), .int .u64 (ww0 x), .int .u64 (ww3 y), .int .u64 (ww2 y), .int .u64 (ww1 y), .int .u64 (ww0 y), .int .u64 (ww3 z), .int .u64 (ww2 z), .int .u64 (ww1 z), .int .u64 (ww0 z)]) : (fun w' => w'.cell? ⟨ga, 0, none⟩ = some (.int .u64 (ww3 x)) ∧ w'.cell? ⟨ga, 1, none⟩ = some (.int .u64 (ww2 x)) ∧ w'.cell? ⟨ga, 2, none⟩ = some (.int .u64 (ww1 x)) ∧ w'.cell? ⟨ga, 3, none⟩ = some (.int .u64 (ww0 x)) ∧ w'.cell? ⟨ga, 4, none⟩ = some (.int .u64 (ww3 y)) ∧ w'.cell? ⟨ga, 5, none⟩ = some (.int .u64 (ww2 y)) ∧ w'.cell? ⟨ga, 6, none⟩ = some (.int .u64 (ww1 y)) ∧ w'.cell? ⟨ga, 7, none⟩ = some (.int .u64 (ww0 y)) ∧ w'.cell? ⟨ga, 8, none⟩ = some (.int .u64 (ww3 z)) ∧ w'.cell? ⟨ga, 9, none⟩ = some (.int .u64 (ww2 z)) ∧ w'.cell? ⟨ga, 10, none⟩ = some (.int .u64 (ww1 z)) ∧ w'.cell? ⟨ga, 11, none⟩ = some (.int .u64 (ww0 z))) W := ⟨XP.c 0 rfl, XP.c 1 rfl, XP.c 2 rfl, XP.c 3 rfl, XP.c 4 rfl, XP.c 5 rfl, XP.c 6 rfl, XP.c 7 rfl, XP.c 8 rfl, XP.c 9 rfl, XP.c 10 rfl, XP.c 11 rfl⟩
theorem mg_cells2 {x y x' y' : Int} {W : World} {ga gb : Nat} (XP : Blk W ga [.int .u64 (ww3 x), .int .u64 (ww2 x), .int .u64 (ww1 x), .int .u64 (ww0 x), .int .u64 (ww3 y), .int .u64 (ww2 y), .int .u64 (ww1 y), .int .u64 (ww0 y), .int .u64 (ww3 1), .int .u64 (ww2 1), .int .u64 (ww1 1), .int .u64 (ww0 1)]) (XQ : Blk W gb [.int .u64 (ww3 x'), .int .u64 (ww2 x'), .int .u64 (ww1 x'), .int .u64 (ww0 x'), .int .u64 (ww3 y'), .int .u64 (ww2 y'), .int .u64 (ww1 y'), .int .u64 (ww0 y'), .int .u64 (ww3 1), .int .u64 (ww2 1), .int .u64 (ww1 1), .int .u64 (ww0 1)]) : (fun w' => w'.cell? ⟨ga, 0, none⟩ = some (.int .u64 (ww3 x)) ∧ w'.cell? ⟨ga, 1, none⟩ = some (.int .u64 (ww2 x)) ∧ w'.cell? ⟨ga, 2, none⟩ = some (.int .u64 (ww1 x)) ∧ w'.cell? ⟨ga, 3, none⟩ = some (.int .u64 (ww0 x)) ∧ w'.cell? ⟨ga, 4, none⟩ = some (.int .u64 (ww3 y)) ∧ w'.cell? ⟨ga, 5, none⟩ = some (.int .u64 (ww2 y)) ∧ w'.cell? ⟨ga, 6, none⟩ = some (.int .u64 (ww1 y)) ∧ w'.cell? ⟨ga, 7, none⟩ = some (.int .u64 (ww0 y)) ∧ w'.cell? ⟨ga, 8, none⟩ = some (.int .u64 (ww3 1)) ∧ w'.cell? ⟨ga, 9, none⟩ = some (.int .u64 (ww2 1)) ∧ w'.cell? ⟨ga, 10, none⟩ = some (.int .u64 (ww1 1)) ∧ w'.cell? ⟨ga, 11, none⟩ = some (.int .u64 (ww0 1)) ∧ w'.cell? ⟨gb, 0, none⟩ = some (.int .u64 (ww3 x')) ∧ w'.cell? ⟨gb, 1, none⟩ = some (.int .u64 (ww2 x')) ∧ w'.cell? ⟨gb, 2, none⟩ = some (.int .u64 (ww1 x')) ∧ w'.cell? ⟨gb, 3, none⟩ = some (.int .u64 (ww0 x')) ∧ w'.cell? ⟨gb, 4, none⟩ = some (.int .u64 (ww3 y')) ∧ w'.cell? ⟨gb, 5, none⟩ = some (.int .u64 (ww2 y')) ∧ w'.cell? ⟨gb, 6, none⟩ = some (.int .u64 (ww1 y')) ∧ w'.cell? ⟨gb, 7, none⟩ = some (.int .u64 (ww0 y')) ∧ w'.cell? ⟨gb, 8, none⟩ = some (.int .u64 (ww3 1)) ∧ w'.cell? ⟨gb, 9, none⟩ = some (.int .u64 (ww2 1)) ∧ w'.cell? ⟨gb, 10, none⟩ = some (.int .u64 (ww1 1)) ∧ w'.cell? ⟨gb, 11, none⟩ = some (.int .u64 (ww0 1))) W := ⟨XP.c 0 rfl, XP.c 1 rfl, XP.c 2 rfl, XP.c 3 rfl, XP.c 4 rfl, XP.c 5 rfl, XP.c 6 rfl, XP.c 7 rfl, XP.c 8 rfl, XP.c 9 rfl, XP.c 10 rfl, XP.c 11 rfl, XQ.c 0 rfl, XQ.c 1 rfl, XQ.c 2 rfl, XQ.c 3 rfl, XQ.c 4 rfl, XQ.c 5 rfl, XQ.c 6 rfl, XQ.c 7 rfl, XQ.c 8 rfl, XQ.c 9 rfl, XQ.c 10 rfl, XQ.c 11 rfl⟩
theorem put24_retD {P : Program} {f : Func} {post : Ending → World → Prop} {ex : Exit} {act : Act} {w W : World} {g g' : Nat} {z0 z1 z2 z3 z4 z5 z6 z7 z8 z9 z10 z11 y0 y1 y2 y3 y4 y5 y6 y7 y8 y9 y10 y11 v0 v1 v2 v3 v4 v5 v6 v7 v8 v9 v10 v11 u0 u1 u2 u3 u4 u5 u6 u7 u8 u9 u10 u11 : Value} (BP : Blk W g [z0, z1, z2, z3, z4, z5, z6, z7, z8, z9, z10, z11]) (BQ : Blk W g' [y0, y1, y2, y3, y4, y5, y6, y7, y8, y9, y10, y11]) (hne : g ≠ g') (hg : w.heap.size ≤ g) (hg' : w.heap.size ≤ g') (HB : Below w.heap.size w W)
   (h : ∀ WF, Blk WF g [v0, v1, v2, v3, v4, v5, v6, v7, v8, v9, v10, v11] → Blk WF g' [u0, u1, u2, u3, u4, u5, u6, u7, u8, u9, u10, u11] → Below w.heap.size w WF → bodyPost P f post ex act WF) : bodyPost P f post ex act ((((((((((((((((((((((((W.setCell ⟨g, 0, none⟩ v0).setCell ⟨g, 1, none⟩ v1).setCell ⟨g, 2, none⟩ v2).setCell ⟨g, 3, none⟩ v3).setCell ⟨g, 4, none⟩ v4).setCell ⟨g, 5, none⟩ v5).setCell ⟨g, 6, none⟩ v6).setCell ⟨g, 7, none⟩ v7).setCell ⟨g, 8, none⟩ v8).setCell ⟨g, 9, none⟩ v9).setCell ⟨g, 10, none⟩ v10).setCell ⟨g, 11, none⟩ v11).setCell ⟨g', 0, none⟩ u0).setCell ⟨g', 1, none⟩ u1).setCell ⟨g', 2, none⟩ u2).setCell ⟨g', 3, none⟩ u3).setCell ⟨g', 4, none⟩ u4).setCell ⟨g', 5, none⟩ u5).setCell ⟨g', 6, none⟩ u6).setCell ⟨g', 7, none⟩ u7).setCell ⟨g', 8, none⟩ u8).setCell ⟨g', 9, none⟩ u9).setCell ⟨g', 10, none⟩ u10).setCell ⟨g', 11, none⟩ u11).drew :=
 h _ ((BP.stored12 v0 v1 v2 v3 v4 v5 v6 v7 v8 v9 v10 v11).set12 hne).drew ((BQ.set12 (Ne.symm hne)).stored12 u0 u1 u2 u3 u4 u5 u6 u7 u8 u9 u10 u11).drew (Below.set12 hg' (Below.set12 hg HB)).drew
theorem specMeet_det (a b c d p q u v : Int) (w : World) : Calls Tryz.prog 19 #[Sg a b c d, Sg p q u v] w (VP (meetV a b c d p q u v) w) := by
 have T0 : ArgsB w ((((w.alloc (.cells #[.int .i64 a, .int .i64 b, .int .i64 c, .int .i64 d] 27)).alloc (.cells #[.int .i64 p, .int .i64 q, .int .i64 u, .int .i64 v] 27)).alloc (.cells #[.int .u64 0, .int .u64 0, .int .u64 0, .int .u64 0, .int .u64 0, .int .u64 0, .int .u64 0, .int .u64 0, .int .u64 0, .int .u64 0, .int .u64 0, .int .u64 0] 40)).alloc (.cells #[.int .u64 0, .int .u64 0, .int .u64 0, .int .u64 0, .int .u64 0, .int .u64 0, .int .u64 0, .int .u64 0, .int .u64 0, .int .u64 0, .int .u64 0, .int .u64 0] 40)) [[.int .i64 a, .int .i64 b, .int .i64 c, .int .i64 d], [.int .i64 p, .int .i64 q, .int .i64 u, .int .i64 v], [.int .u64 0, .int .u64 0, .int .u64 0, .int .u64 0, .int .u64 0, .int .u64 0, .int .u64 0, .int .u64 0, .int .u64 0, .int .u64 0, .int .u64 0, .int .u64 0], [.int .u64 0, .int .u64 0, .int .u64 0, .int .u64 0, .int .u64 0, .int .u64 0, .int .u64 0, .int .u64 0, .int .u64 0, .int .u64 0, .int .u64 0, .int .u64 0]] := ar4 _ _ _ _ _ _ _ _ w
 have K1 := specSegOk_any a b c d _ rfl
 have K2 := specSegOk_any p q u v _ rfl
 go_enter Tryz.func19, Tryz.ntmps19
 go_upto_region 1 with fail
 generalize ((((w.alloc (.cells #[.int .i64 a, .int .i64 b, .int .i64 c, .int .i64 d] 27)).alloc (.cells #[.int .i64 p, .int .i64 q, .int .i64 u, .int .i64 v] 27)).alloc (.cells #[.int .u64 0, .int .u64 0, .int .u64 0, .int .u64 0, .int .u64 0, .int .u64 0, .int .u64 0, .int .u64 0, .int .u64 0, .int .u64 0, .int .u64 0, .int .u64 0] 40)).alloc (.cells #[.int .u64 0, .int .u64 0, .int .u64 0, .int .u64 0, .int .u64 0, .int .u64 0, .int .u64 0, .int .u64 0, .int .u64 0, .int .u64 0, .int .u64 0, .int .u64 0] 40)) = W at *
 have BS : Blk _ w.heap.size _ := T0.b 0 rfl; have BT : Blk _ (w.heap.size + 1) _ := T0.b 1 rfl; have BP : Blk _ (w.heap.size + 1 + 1) _ := T0.b 2 rfl; have BQ : Blk _ (w.heap.size + 1 + 1 + 1) _ := T0.b 3 rfl; have HB := T0.below
 clear T0
 obtain ⟨sc0, sc1, sc2, sc3⟩ := BS.cs4; have sl := BS.lt; obtain ⟨tc0, tc1, tc2, tc3⟩ := BT.cs4; have tl := BT.lt
 go_wp2_with fail
 refine (K1 _).mono ?_
 rintro e w1 ⟨rfl, hB⟩
 replace BS := BS.step hB
 replace BT := BT.step hB
 replace BP := BP.step hB
 replace BQ := BQ.step hB
 replace HB := HB.trans (hB.mono HB.size)
 clear hB sc0 sc1 sc2 sc3 sl tc0 tc1 tc2 tc3 tl
 by_cases h1 : segOk a b c d = true
 · rw [h1]
   obtain ⟨sc0, sc1, sc2, sc3⟩ := BS.cs4; have sl := BS.lt; obtain ⟨tc0, tc1, tc2, tc3⟩ := BT.cs4; have tl := BT.lt
   go_wp2_with fail
   refine (K2 _).mono ?_
   rintro e w2 ⟨rfl, hB⟩
   replace BS := BS.step hB
   replace BT := BT.step hB
   replace BP := BP.step hB
   replace BQ := BQ.step hB
   replace HB := HB.trans (hB.mono HB.size)
   clear hB sc0 sc1 sc2 sc3 sl tc0 tc1 tc2 tc3 tl
   by_cases h2 : segOk p q u v = true
   · rw [h2]
     obtain ⟨ha, hb, hc, hd⟩ := in1_seg h1
     obtain ⟨hp, hq, hu, hv⟩ := in1_seg h2
     have MT := l4Meet_any a b c d p q u v ha hb hc hd hp hq hu hv
     have HV : Hid (meetV a b c d p q u v = meetW a b c d p q u v) := by show _ = _; unfold meetV; rw [h1, h2]; rfl
     clear h1 h2 ha hb hc hd hp hq hu hv K1 K2
     obtain ⟨sc0, sc1, sc2, sc3⟩ := BS.cs4; have sl := BS.lt; obtain ⟨tc0, tc1, tc2, tc3⟩ := BT.cs4; have tl := BT.lt
     go_wp2_with fail
     refine (MT _).mono ?_
     rintro e w3 ⟨hB, hm⟩
     replace BP := BP.step hB; replace BQ := BQ.step hB; replace HB := HB.trans (hB.mono HB.size)
     clear hB MT BS BT sc0 sc1 sc2 sc3 sl tc0 tc1 tc2 tc3 tl
     rcases hm with ⟨hm, rfl⟩ | ⟨x, y, z, r, hm, hs1, hs2, hs3, rfl, hr⟩ | ⟨x, y, x', y', r, r', hm, hs1, hs2, hs3, hs4, rfl, hr, hr'⟩
     · have HO : Hid (meetV a b c d p q u v = .tuple #[.int .i64 0, .agg #[.int .u64 0, .int .u64 0, .int .u64 0, .int .u64 0, .int .u64 0, .int .u64 0, .int .u64 0, .int .u64 0, .int .u64 0, .int .u64 0, .int .u64 0, .int .u64 0], .agg #[.int .u64 0, .int .u64 0, .int .u64 0, .int .u64 0, .int .u64 0, .int .u64 0, .int .u64 0, .int .u64 0, .int .u64 0, .int .u64 0, .int .u64 0, .int .u64 0]]) := HV.out.trans hm
       clear HV hm
       replace HB := HB.alloc HB.size (.cells #[.bool false, .slice none 0 0, .bool false, .slice none 0 0, .bool false, .slice none 0 0] 92)
       replace HB := HB.alloc HB.size (.cells #[.bool false, .slice none 0 0, .bool false, .slice none 0 0, .bool false, .slice none 0 0] 92)
       replace BP := (BP.alloc (.cells #[.bool false, .slice none 0 0, .bool false, .slice none 0 0, .bool false, .slice none 0 0] 92)).alloc (.cells #[.bool false, .slice none 0 0, .bool false, .slice none 0 0, .bool false, .slice none 0 0] 92); replace BQ := (BQ.alloc (.cells #[.bool false, .slice none 0 0, .bool false, .slice none 0 0, .bool false, .slice none 0 0] 92)).alloc (.cells #[.bool false, .slice none 0 0, .bool false, .slice none 0 0, .bool false, .slice none 0 0] 92)
       go_upto_region 5 with fail
       generalize (w3.alloc (.cells #[.bool false, .slice none 0 0, .bool false, .slice none 0 0, .bool false, .slice none 0 0] 92)).alloc (.cells #[.bool false, .slice none 0 0, .bool false, .slice none 0 0, .bool false, .slice none 0 0] 92) = W3' at *
       obtain ⟨xc0, xf0, xc1, xf1, xc2, xf2, xc3, xf3, xc4, xf4, xc5, xf5, xc6, xf6, xc7, xf7, xc8, xf8, xc9, xf9, xc10, xf10, xc11, xf11⟩ := BP.cf12; have xl := BP.lt; obtain ⟨yc0, yf0, yc1, yf1, yc2, yf2, yc3, yf3, yc4, yf4, yc5, yf5, yc6, yf6, yc7, yf7, yc8, yf8, yc9, yf9, yc10, yf10, yc11, yf11⟩ := BQ.cf12; have yl := BQ.lt
       go_wp2
       first | with_reducible refine put24_ret BP BQ (by omega) (by omega) (by omega) HB fun WF F0 F1 HBF => ?_ | with_reducible refine put24_retD BP BQ (by omega) (by omega) (by omega) HB fun WF F0 F1 HBF => ?_
       clear BP BQ HB xc0 xf0 xc1 xf1 xc2 xf2 xc3 xf3 xc4 xf4 xc5 xf5 xc6 xf6 xc7 xf7 xc8 xf8 xc9 xf9 xc10 xf10 xc11 xf11 xl yc0 yf0 yc1 yf1 yc2 yf2 yc3 yf3 yc4 yf4 yc5 yf5 yc6 yf6 yc7 yf7 yc8 yf8 yc9 yf9 yc10 yf10 yc11 yf11 yl
       obtain ⟨m0, m1, m2, m3, m4, m5, m6, m7, m8, m9, m10, m11⟩ := F0.cs12; obtain ⟨n0, n1, n2, n3, n4, n5, n6, n7, n8, n9, n10, n11⟩ := F1.cs12
       refine bodyPost_ret (v := .tuple #[.int .i64 0, .agg #[.int .u64 0, .int .u64 0, .int .u64 0, .int .u64 0, .int .u64 0, .int .u64 0, .int .u64 0, .int .u64 0, .int .u64 0, .int .u64 0, .int .u64 0, .int .u64 0], .agg #[.int .u64 0, .int .u64 0, .int .u64 0, .int .u64 0, .int .u64 0, .int .u64 0, .int .u64 0, .int .u64 0, .int .u64 0, .int .u64 0, .int .u64 0, .int .u64 0]]) (by simp [results, Tryz.results19, go_sem, m0, n0, m1, n1, m2, n2, m3, n3, m4, n4, m5, n5, m6, n6, m7, n7, m8, n8, m9, n9, m10, n10, m11, n11]) rfl ?_
       exact ⟨by rw [HO.out], by first | exact HBF | exact HBF.drew⟩
     · have HO : Hid (meetV a b c d p q u v = .tuple #[.int .i64 1, .agg #[.int .u64 (ww3 x), .int .u64 (ww2 x), .int .u64 (ww1 x), .int .u64 (ww0 x), .int .u64 (ww3 y), .int .u64 (ww2 y), .int .u64 (ww1 y), .int .u64 (ww0 y), .int .u64 (ww3 z), .int .u64 (ww2 z), .int .u64 (ww1 z), .int .u64 (ww0 z)], .agg #[.int .u64 0, .int .u64 0, .int .u64 0, .int .u64 0, .int .u64 0, .int .u64 0, .int .u64 0, .int .u64 0, .int .u64 0, .int .u64 0, .int .u64 0, .int .u64 0]]) := HV.out.trans hm
       clear HV hm
       obtain ⟨js1, jo1, jn1, jc1, jd1, js2, jo2, jn2, jc2, jd2, js3, jo3, jn3, jc3, jd3, rfl, Nj1, Nj2, Nj3⟩ := hr
       replace HB := HB.alloc HB.size (.cells #[.bool js1, .slice jo1 jn1 jc1, .bool js2, .slice jo2 jn2 jc2, .bool js3, .slice jo3 jn3 jc3] 92)
       replace HB := HB.alloc HB.size (.cells #[.bool false, .slice none 0 0, .bool false, .slice none 0 0, .bool false, .slice none 0 0] 92)
       replace BP := (BP.alloc (.cells #[.bool js1, .slice jo1 jn1 jc1, .bool js2, .slice jo2 jn2 jc2, .bool js3, .slice jo3 jn3 jc3] 92)).alloc (.cells #[.bool false, .slice none 0 0, .bool false, .slice none 0 0, .bool false, .slice none 0 0] 92); replace BQ := (BQ.alloc (.cells #[.bool js1, .slice jo1 jn1 jc1, .bool js2, .slice jo2 jn2 jc2, .bool js3, .slice jo3 jn3 jc3] 92)).alloc (.cells #[.bool false, .slice none 0 0, .bool false, .slice none 0 0, .bool false, .slice none 0 0] 92)
       replace Nj1 := (Nj1.alloc (.cells #[.bool js1, .slice jo1 jn1 jc1, .bool js2, .slice jo2 jn2 jc2, .bool js3, .slice jo3 jn3 jc3] 92)).alloc (.cells #[.bool false, .slice none 0 0, .bool false, .slice none 0 0, .bool false, .slice none 0 0] 92); replace Nj2 := (Nj2.alloc (.cells #[.bool js1, .slice jo1 jn1 jc1, .bool js2, .slice jo2 jn2 jc2, .bool js3, .slice jo3 jn3 jc3] 92)).alloc (.cells #[.bool false, .slice none 0 0, .bool false, .slice none 0 0, .bool false, .slice none 0 0] 92); replace Nj3 := (Nj3.alloc (.cells #[.bool js1, .slice jo1 jn1 jc1, .bool js2, .slice jo2 jn2 jc2, .bool js3, .slice jo3 jn3 jc3] 92)).alloc (.cells #[.bool false, .slice none 0 0, .bool false, .slice none 0 0, .bool false, .slice none 0 0] 92)
       have XA := (Blk.new w3 [.bool js1, .slice jo1 jn1 jc1, .bool js2, .slice jo2 jn2 jc2, .bool js3, .slice jo3 jn3 jc3] 92 rfl).alloc (.cells #[.bool false, .slice none 0 0, .bool false, .slice none 0 0, .bool false, .slice none 0 0] 92)
       obtain ⟨rc0, rc1, rc2, rc3, rc4, rc5⟩ := XA.cs6
       go_wp2_with fail
       refine (l3Point_small js1 jo1 jn1 jc1 jd1 js2 jo2 jn2 jc2 jd2 js3 jo3 jn3 jc3 jd3 x y z 8 (by omega) hs1 hs2 hs3 _ Nj1 Nj2 Nj3).mono ?_
       rintro e w4 ⟨rfl, hB⟩
       have hga : (w.heap.size + 1 + 1 + 1) < w4.heap.size := (BQ.step hB).lt
       replace BP := (BP.step hB).alloc (.cells #[.int .u64 (ww3 x), .int .u64 (ww2 x), .int .u64 (ww1 x), .int .u64 (ww0 x), .int .u64 (ww3 y), .int .u64 (ww2 y), .int .u64 (ww1 y), .int .u64 (ww0 y), .int .u64 (ww3 z), .int .u64 (ww2 z), .int .u64 (ww1 z), .int .u64 (ww0 z)] 40); replace BQ := (BQ.step hB).alloc (.cells #[.int .u64 (ww3 x), .int .u64 (ww2 x), .int .u64 (ww1 x), .int .u64 (ww0 x), .int .u64 (ww3 y), .int .u64 (ww2 y), .int .u64 (ww1 y), .int .u64 (ww0 y), .int .u64 (ww3 z), .int .u64 (ww2 z), .int .u64 (ww1 z), .int .u64 (ww0 z)] 40); replace HB := (HB.trans (hB.mono HB.size)).alloc (HB.trans (hB.mono HB.size)).size (.cells #[.int .u64 (ww3 x), .int .u64 (ww2 x), .int .u64 (ww1 x), .int .u64 (ww0 x), .int .u64 (ww3 y), .int .u64 (ww2 y), .int .u64 (ww1 y), .int .u64 (ww0 y), .int .u64 (ww3 z), .int .u64 (ww2 z), .int .u64 (ww1 z), .int .u64 (ww0 z)] 40)
       have XP := Blk.new w4 [.int .u64 (ww3 x), .int .u64 (ww2 x), .int .u64 (ww1 x), .int .u64 (ww0 x), .int .u64 (ww3 y), .int .u64 (ww2 y), .int .u64 (ww1 y), .int .u64 (ww0 y), .int .u64 (ww3 z), .int .u64 (ww2 z), .int .u64 (ww1 z), .int .u64 (ww0 z)] 40 rfl
       clear hB rc0 rc1 rc2 rc3 rc4 rc5 XA Nj1 Nj2 Nj3 hs1 hs2 hs3
       go_upto_region 8 with fail
       generalize w4.alloc (.cells #[.int .u64 (ww3 x), .int .u64 (ww2 x), .int .u64 (ww1 x), .int .u64 (ww0 x), .int .u64 (ww3 y), .int .u64 (ww2 y), .int .u64 (ww1 y), .int .u64 (ww0 y), .int .u64 (ww3 z), .int .u64 (ww2 z), .int .u64 (ww1 z), .int .u64 (ww0 z)] 40) = W4' at *
       generalize w4.heap.size = ga at *
       obtain ⟨xc0, xf0, xc1, xf1, xc2, xf2, xc3, xf3, xc4, xf4, xc5, xf5, xc6, xf6, xc7, xf7, xc8, xf8, xc9, xf9, xc10, xf10, xc11, xf11⟩ := BP.cf12; have xl := BP.lt; obtain ⟨yc0, yf0, yc1, yf1, yc2, yf2, yc3, yf3, yc4, yf4, yc5, yf5, yc6, yf6, yc7, yf7, yc8, yf8, yc9, yf9, yc10, yf10, yc11, yf11⟩ := BQ.cf12; have yl := BQ.lt
       go_region_held3 (fun w' => w'.cell? ⟨ga, 0, none⟩ = some (.int .u64 (ww3 x)) ∧ w'.cell? ⟨ga, 1, none⟩ = some (.int .u64 (ww2 x)) ∧ w'.cell? ⟨ga, 2, none⟩ = some (.int .u64 (ww1 x)) ∧ w'.cell? ⟨ga, 3, none⟩ = some (.int .u64 (ww0 x)) ∧ w'.cell? ⟨ga, 4, none⟩ = some (.int .u64 (ww3 y)) ∧ w'.cell? ⟨ga, 5, none⟩ = some (.int .u64 (ww2 y)) ∧ w'.cell? ⟨ga, 6, none⟩ = some (.int .u64 (ww1 y)) ∧ w'.cell? ⟨ga, 7, none⟩ = some (.int .u64 (ww0 y)) ∧ w'.cell? ⟨ga, 8, none⟩ = some (.int .u64 (ww3 z)) ∧ w'.cell? ⟨ga, 9, none⟩ = some (.int .u64 (ww2 z)) ∧ w'.cell? ⟨ga, 10, none⟩ = some (.int .u64 (ww1 z)) ∧ w'.cell? ⟨ga, 11, none⟩ = some (.int .u64 (ww0 z))) ((refine mg_cells ?_ <;> repeat (first | (with_reducible exact XP) | (with_reducible refine Blk.drew ?_) | (with_reducible refine Blk.set12 ?_ (by omega)))))
         (first | fail)
       all_goals clear XP
       all_goals (
         go_wp2
         first | with_reducible refine put24_ret BP BQ (by omega) (by omega) (by omega) HB fun WF F0 F1 HBF => ?_ | with_reducible refine put24_retD BP BQ (by omega) (by omega) (by omega) HB fun WF F0 F1 HBF => ?_
         clear BP BQ HB xc0 xf0 xc1 xf1 xc2 xf2 xc3 xf3 xc4 xf4 xc5 xf5 xc6 xf6 xc7 xf7 xc8 xf8 xc9 xf9 xc10 xf10 xc11 xf11 xl yc0 yf0 yc1 yf1 yc2 yf2 yc3 yf3 yc4 yf4 yc5 yf5 yc6 yf6 yc7 yf7 yc8 yf8 yc9 yf9 yc10 yf10 yc11 yf11 yl
         obtain ⟨m0, m1, m2, m3, m4, m5, m6, m7, m8, m9, m10, m11⟩ := F0.cs12; obtain ⟨n0, n1, n2, n3, n4, n5, n6, n7, n8, n9, n10, n11⟩ := F1.cs12
         refine bodyPost_ret (v := .tuple #[.int .i64 1, .agg #[.int .u64 (ww3 x), .int .u64 (ww2 x), .int .u64 (ww1 x), .int .u64 (ww0 x), .int .u64 (ww3 y), .int .u64 (ww2 y), .int .u64 (ww1 y), .int .u64 (ww0 y), .int .u64 (ww3 z), .int .u64 (ww2 z), .int .u64 (ww1 z), .int .u64 (ww0 z)], .agg #[.int .u64 0, .int .u64 0, .int .u64 0, .int .u64 0, .int .u64 0, .int .u64 0, .int .u64 0, .int .u64 0, .int .u64 0, .int .u64 0, .int .u64 0, .int .u64 0]]) (by simp [results, Tryz.results19, go_sem, m0, n0, m1, n1, m2, n2, m3, n3, m4, n4, m5, n5, m6, n6, m7, n7, m8, n8, m9, n9, m10, n10, m11, n11]) rfl ?_
         exact ⟨by rw [HO.out], by first | exact HBF | exact HBF.drew⟩)
     · have HO : Hid (meetV a b c d p q u v = .tuple #[.int .i64 2, .agg #[.int .u64 (ww3 x), .int .u64 (ww2 x), .int .u64 (ww1 x), .int .u64 (ww0 x), .int .u64 (ww3 y), .int .u64 (ww2 y), .int .u64 (ww1 y), .int .u64 (ww0 y), .int .u64 (ww3 1), .int .u64 (ww2 1), .int .u64 (ww1 1), .int .u64 (ww0 1)], .agg #[.int .u64 (ww3 x'), .int .u64 (ww2 x'), .int .u64 (ww1 x'), .int .u64 (ww0 x'), .int .u64 (ww3 y'), .int .u64 (ww2 y'), .int .u64 (ww1 y'), .int .u64 (ww0 y'), .int .u64 (ww3 1), .int .u64 (ww2 1), .int .u64 (ww1 1), .int .u64 (ww0 1)]]) := HV.out.trans hm
       clear HV hm
       obtain ⟨js1, jo1, jn1, jc1, jd1, js2, jo2, jn2, jc2, jd2, js3, jo3, jn3, jc3, jd3, rfl, Nj1, Nj2, Nj3⟩ := hr
       obtain ⟨ks1, ko1, kn1, kc1, kd1, ks2, ko2, kn2, kc2, kd2, ks3, ko3, kn3, kc3, kd3, rfl, Nk1, Nk2, Nk3⟩ := hr'
       replace HB := HB.alloc HB.size (.cells #[.bool js1, .slice jo1 jn1 jc1, .bool js2, .slice jo2 jn2 jc2, .bool js3, .slice jo3 jn3 jc3] 92)
       replace HB := HB.alloc HB.size (.cells #[.bool ks1, .slice ko1 kn1 kc1, .bool ks2, .slice ko2 kn2 kc2, .bool ks3, .slice ko3 kn3 kc3] 92)
       replace BP := (BP.alloc (.cells #[.bool js1, .slice jo1 jn1 jc1, .bool js2, .slice jo2 jn2 jc2, .bool js3, .slice jo3 jn3 jc3] 92)).alloc (.cells #[.bool ks1, .slice ko1 kn1 kc1, .bool ks2, .slice ko2 kn2 kc2, .bool ks3, .slice ko3 kn3 kc3] 92); replace BQ := (BQ.alloc (.cells #[.bool js1, .slice jo1 jn1 jc1, .bool js2, .slice jo2 jn2 jc2, .bool js3, .slice jo3 jn3 jc3] 92)).alloc (.cells #[.bool ks1, .slice ko1 kn1 kc1, .bool ks2, .slice ko2 kn2 kc2, .bool ks3, .slice ko3 kn3 kc3] 92)
       replace Nj1 := (Nj1.alloc (.cells #[.bool js1, .slice jo1 jn1 jc1, .bool js2, .slice jo2 jn2 jc2, .bool js3, .slice jo3 jn3 jc3] 92)).alloc (.cells #[.bool ks1, .slice ko1 kn1 kc1, .bool ks2, .slice ko2 kn2 kc2, .bool ks3, .slice ko3 kn3 kc3] 92); replace Nj2 := (Nj2.alloc (.cells #[.bool js1, .slice jo1 jn1 jc1, .bool js2, .slice jo2 jn2 jc2, .bool js3, .slice jo3 jn3 jc3] 92)).alloc (.cells #[.bool ks1, .slice ko1 kn1 kc1, .bool ks2, .slice ko2 kn2 kc2, .bool ks3, .slice ko3 kn3 kc3] 92); replace Nj3 := (Nj3.alloc (.cells #[.bool js1, .slice jo1 jn1 jc1, .bool js2, .slice jo2 jn2 jc2, .bool js3, .slice jo3 jn3 jc3] 92)).alloc (.cells #[.bool ks1, .slice ko1 kn1 kc1, .bool ks2, .slice ko2 kn2 kc2, .bool ks3, .slice ko3 kn3 kc3] 92); replace Nk1 := (Nk1.alloc (.cells #[.bool js1, .slice jo1 jn1 jc1, .bool js2, .slice jo2 jn2 jc2, .bool js3, .slice jo3 jn3 jc3] 92)).alloc (.cells #[.bool ks1, .slice ko1 kn1 kc1, .bool ks2, .slice ko2 kn2 kc2, .bool ks3, .slice ko3 kn3 kc3] 92); replace Nk2 := (Nk2.alloc (.cells #[.bool js1, .slice jo1 jn1 jc1, .bool js2, .slice jo2 jn2 jc2, .bool js3, .slice jo3 jn3 jc3] 92)).alloc (.cells #[.bool ks1, .slice ko1 kn1 kc1, .bool ks2, .slice ko2 kn2 kc2, .bool ks3, .slice ko3 kn3 kc3] 92); replace Nk3 := (Nk3.alloc (.cells #[.bool js1, .slice jo1 jn1 jc1, .bool js2, .slice jo2 jn2 jc2, .bool js3, .slice jo3 jn3 jc3] 92)).alloc (.cells #[.bool ks1, .slice ko1 kn1 kc1, .bool ks2, .slice ko2 kn2 kc2, .bool ks3, .slice ko3 kn3 kc3] 92)
       have XA := (Blk.new w3 [.bool js1, .slice jo1 jn1 jc1, .bool js2, .slice jo2 jn2 jc2, .bool js3, .slice jo3 jn3 jc3] 92 rfl).alloc (.cells #[.bool ks1, .slice ko1 kn1 kc1, .bool ks2, .slice ko2 kn2 kc2, .bool ks3, .slice ko3 kn3 kc3] 92)
       have XB := Blk.new (w3.alloc (.cells #[.bool js1, .slice jo1 jn1 jc1, .bool js2, .slice jo2 jn2 jc2, .bool js3, .slice jo3 jn3 jc3] 92)) [.bool ks1, .slice ko1 kn1 kc1, .bool ks2, .slice ko2 kn2 kc2, .bool ks3, .slice ko3 kn3 kc3] 92 (g := w3.heap.size + 1) (by simp)
       obtain ⟨rc0, rc1, rc2, rc3, rc4, rc5⟩ := XA.cs6
       go_wp2_with fail
       refine (l3Point_small js1 jo1 jn1 jc1 jd1 js2 jo2 jn2 jc2 jd2 js3 jo3 jn3 jc3 jd3 x y 1 8 (by omega) hs1 hs2 (by decide) _ Nj1 Nj2 Nj3).mono ?_
       rintro e w4 ⟨rfl, hB⟩
       have hga : (w.heap.size + 1 + 1 + 1) < w4.heap.size := (BQ.step hB).lt
       replace BP := (BP.step hB).alloc (.cells #[.int .u64 (ww3 x), .int .u64 (ww2 x), .int .u64 (ww1 x), .int .u64 (ww0 x), .int .u64 (ww3 y), .int .u64 (ww2 y), .int .u64 (ww1 y), .int .u64 (ww0 y), .int .u64 (ww3 1), .int .u64 (ww2 1), .int .u64 (ww1 1), .int .u64 (ww0 1)] 40); replace BQ := (BQ.step hB).alloc (.cells #[.int .u64 (ww3 x), .int .u64 (ww2 x), .int .u64 (ww1 x), .int .u64 (ww0 x), .int .u64 (ww3 y), .int .u64 (ww2 y), .int .u64 (ww1 y), .int .u64 (ww0 y), .int .u64 (ww3 1), .int .u64 (ww2 1), .int .u64 (ww1 1), .int .u64 (ww0 1)] 40); replace HB := (HB.trans (hB.mono HB.size)).alloc (HB.trans (hB.mono HB.size)).size (.cells #[.int .u64 (ww3 x), .int .u64 (ww2 x), .int .u64 (ww1 x), .int .u64 (ww0 x), .int .u64 (ww3 y), .int .u64 (ww2 y), .int .u64 (ww1 y), .int .u64 (ww0 y), .int .u64 (ww3 1), .int .u64 (ww2 1), .int .u64 (ww1 1), .int .u64 (ww0 1)] 40)
       replace XB := (XB.step hB).alloc (.cells #[.int .u64 (ww3 x), .int .u64 (ww2 x), .int .u64 (ww1 x), .int .u64 (ww0 x), .int .u64 (ww3 y), .int .u64 (ww2 y), .int .u64 (ww1 y), .int .u64 (ww0 y), .int .u64 (ww3 1), .int .u64 (ww2 1), .int .u64 (ww1 1), .int .u64 (ww0 1)] 40)
       replace Nk1 := (Nk1.below hB).alloc (.cells #[.int .u64 (ww3 x), .int .u64 (ww2 x), .int .u64 (ww1 x), .int .u64 (ww0 x), .int .u64 (ww3 y), .int .u64 (ww2 y), .int .u64 (ww1 y), .int .u64 (ww0 y), .int .u64 (ww3 1), .int .u64 (ww2 1), .int .u64 (ww1 1), .int .u64 (ww0 1)] 40); replace Nk2 := (Nk2.below hB).alloc (.cells #[.int .u64 (ww3 x), .int .u64 (ww2 x), .int .u64 (ww1 x), .int .u64 (ww0 x), .int .u64 (ww3 y), .int .u64 (ww2 y), .int .u64 (ww1 y), .int .u64 (ww0 y), .int .u64 (ww3 1), .int .u64 (ww2 1), .int .u64 (ww1 1), .int .u64 (ww0 1)] 40); replace Nk3 := (Nk3.below hB).alloc (.cells #[.int .u64 (ww3 x), .int .u64 (ww2 x), .int .u64 (ww1 x), .int .u64 (ww0 x), .int .u64 (ww3 y), .int .u64 (ww2 y), .int .u64 (ww1 y), .int .u64 (ww0 y), .int .u64 (ww3 1), .int .u64 (ww2 1), .int .u64 (ww1 1), .int .u64 (ww0 1)] 40)
       have XP := Blk.new w4 [.int .u64 (ww3 x), .int .u64 (ww2 x), .int .u64 (ww1 x), .int .u64 (ww0 x), .int .u64 (ww3 y), .int .u64 (ww2 y), .int .u64 (ww1 y), .int .u64 (ww0 y), .int .u64 (ww3 1), .int .u64 (ww2 1), .int .u64 (ww1 1), .int .u64 (ww0 1)] 40 rfl
       clear hB rc0 rc1 rc2 rc3 rc4 rc5 XA Nj1 Nj2 Nj3
       obtain ⟨rc0, rc1, rc2, rc3, rc4, rc5⟩ := XB.cs6
       go_wp2_with fail
       generalize w4.heap.size = ga at *
       refine (l3Point_small ks1 ko1 kn1 kc1 kd1 ks2 ko2 kn2 kc2 kd2 ks3 ko3 kn3 kc3 kd3 x' y' 1 8 (by omega) hs3 hs4 (by decide) _ Nk1 Nk2 Nk3).mono ?_
       rintro e w5 ⟨rfl, hB⟩
       have hgb : ga < w5.heap.size := (XP.step hB).lt
       replace BP := (BP.step hB).alloc (.cells #[.int .u64 (ww3 x'), .int .u64 (ww2 x'), .int .u64 (ww1 x'), .int .u64 (ww0 x'), .int .u64 (ww3 y'), .int .u64 (ww2 y'), .int .u64 (ww1 y'), .int .u64 (ww0 y'), .int .u64 (ww3 1), .int .u64 (ww2 1), .int .u64 (ww1 1), .int .u64 (ww0 1)] 40); replace BQ := (BQ.step hB).alloc (.cells #[.int .u64 (ww3 x'), .int .u64 (ww2 x'), .int .u64 (ww1 x'), .int .u64 (ww0 x'), .int .u64 (ww3 y'), .int .u64 (ww2 y'), .int .u64 (ww1 y'), .int .u64 (ww0 y'), .int .u64 (ww3 1), .int .u64 (ww2 1), .int .u64 (ww1 1), .int .u64 (ww0 1)] 40); replace XP := (XP.step hB).alloc (.cells #[.int .u64 (ww3 x'), .int .u64 (ww2 x'), .int .u64 (ww1 x'), .int .u64 (ww0 x'), .int .u64 (ww3 y'), .int .u64 (ww2 y'), .int .u64 (ww1 y'), .int .u64 (ww0 y'), .int .u64 (ww3 1), .int .u64 (ww2 1), .int .u64 (ww1 1), .int .u64 (ww0 1)] 40); replace HB := (HB.trans (hB.mono HB.size)).alloc (HB.trans (hB.mono HB.size)).size (.cells #[.int .u64 (ww3 x'), .int .u64 (ww2 x'), .int .u64 (ww1 x'), .int .u64 (ww0 x'), .int .u64 (ww3 y'), .int .u64 (ww2 y'), .int .u64 (ww1 y'), .int .u64 (ww0 y'), .int .u64 (ww3 1), .int .u64 (ww2 1), .int .u64 (ww1 1), .int .u64 (ww0 1)] 40)
       have XQ := Blk.new w5 [.int .u64 (ww3 x'), .int .u64 (ww2 x'), .int .u64 (ww1 x'), .int .u64 (ww0 x'), .int .u64 (ww3 y'), .int .u64 (ww2 y'), .int .u64 (ww1 y'), .int .u64 (ww0 y'), .int .u64 (ww3 1), .int .u64 (ww2 1), .int .u64 (ww1 1), .int .u64 (ww0 1)] 40 rfl
       clear hB rc0 rc1 rc2 rc3 rc4 rc5 XB Nk1 Nk2 Nk3 hs1 hs2 hs3 hs4
       go_upto_region 10 with fail
       generalize w5.alloc (.cells #[.int .u64 (ww3 x'), .int .u64 (ww2 x'), .int .u64 (ww1 x'), .int .u64 (ww0 x'), .int .u64 (ww3 y'), .int .u64 (ww2 y'), .int .u64 (ww1 y'), .int .u64 (ww0 y'), .int .u64 (ww3 1), .int .u64 (ww2 1), .int .u64 (ww1 1), .int .u64 (ww0 1)] 40) = W5' at *
       generalize w5.heap.size = gb at *
       obtain ⟨xc0, xf0, xc1, xf1, xc2, xf2, xc3, xf3, xc4, xf4, xc5, xf5, xc6, xf6, xc7, xf7, xc8, xf8, xc9, xf9, xc10, xf10, xc11, xf11⟩ := BP.cf12; have xl := BP.lt; obtain ⟨yc0, yf0, yc1, yf1, yc2, yf2, yc3, yf3, yc4, yf4, yc5, yf5, yc6, yf6, yc7, yf7, yc8, yf8, yc9, yf9, yc10, yf10, yc11, yf11⟩ := BQ.cf12; have yl := BQ.lt
       go_region_held3 (fun w' => w'.cell? ⟨ga, 0, none⟩ = some (.int .u64 (ww3 x)) ∧ w'.cell? ⟨ga, 1, none⟩ = some (.int .u64 (ww2 x)) ∧ w'.cell? ⟨ga, 2, none⟩ = some (.int .u64 (ww1 x)) ∧ w'.cell? ⟨ga, 3, none⟩ = some (.int .u64 (ww0 x)) ∧ w'.cell? ⟨ga, 4, none⟩ = some (.int .u64 (ww3 y)) ∧ w'.cell? ⟨ga, 5, none⟩ = some (.int .u64 (ww2 y)) ∧ w'.cell? ⟨ga, 6, none⟩ = some (.int .u64 (ww1 y)) ∧ w'.cell? ⟨ga, 7, none⟩ = some (.int .u64 (ww0 y)) ∧ w'.cell? ⟨ga, 8, none⟩ = some (.int .u64 (ww3 1)) ∧ w'.cell? ⟨ga, 9, none⟩ = some (.int .u64 (ww2 1)) ∧ w'.cell? ⟨ga, 10, none⟩ = some (.int .u64 (ww1 1)) ∧ w'.cell? ⟨ga, 11, none⟩ = some (.int .u64 (ww0 1)) ∧ w'.cell? ⟨gb, 0, none⟩ = some (.int .u64 (ww3 x')) ∧ w'.cell? ⟨gb, 1, none⟩ = some (.int .u64 (ww2 x')) ∧ w'.cell? ⟨gb, 2, none⟩ = some (.int .u64 (ww1 x')) ∧ w'.cell? ⟨gb, 3, none⟩ = some (.int .u64 (ww0 x')) ∧ w'.cell? ⟨gb, 4, none⟩ = some (.int .u64 (ww3 y')) ∧ w'.cell? ⟨gb, 5, none⟩ = some (.int .u64 (ww2 y')) ∧ w'.cell? ⟨gb, 6, none⟩ = some (.int .u64 (ww1 y')) ∧ w'.cell? ⟨gb, 7, none⟩ = some (.int .u64 (ww0 y')) ∧ w'.cell? ⟨gb, 8, none⟩ = some (.int .u64 (ww3 1)) ∧ w'.cell? ⟨gb, 9, none⟩ = some (.int .u64 (ww2 1)) ∧ w'.cell? ⟨gb, 10, none⟩ = some (.int .u64 (ww1 1)) ∧ w'.cell? ⟨gb, 11, none⟩ = some (.int .u64 (ww0 1))) ((refine mg_cells2 ?_ ?_ <;> repeat (first | (with_reducible exact XP) | (with_reducible exact XQ) | (with_reducible refine Blk.drew ?_) | (with_reducible refine Blk.set12 ?_ (by omega)))))
         (first | fail)
       all_goals clear XP XQ
       all_goals (
         go_wp2
         first | with_reducible refine put24_ret BP BQ (by omega) (by omega) (by omega) HB fun WF F0 F1 HBF => ?_ | with_reducible refine put24_retD BP BQ (by omega) (by omega) (by omega) HB fun WF F0 F1 HBF => ?_
         clear BP BQ HB xc0 xf0 xc1 xf1 xc2 xf2 xc3 xf3 xc4 xf4 xc5 xf5 xc6 xf6 xc7 xf7 xc8 xf8 xc9 xf9 xc10 xf10 xc11 xf11 xl yc0 yf0 yc1 yf1 yc2 yf2 yc3 yf3 yc4 yf4 yc5 yf5 yc6 yf6 yc7 yf7 yc8 yf8 yc9 yf9 yc10 yf10 yc11 yf11 yl
         obtain ⟨m0, m1, m2, m3, m4, m5, m6, m7, m8, m9, m10, m11⟩ := F0.cs12; obtain ⟨n0, n1, n2, n3, n4, n5, n6, n7, n8, n9, n10, n11⟩ := F1.cs12
         refine bodyPost_ret (v := .tuple #[.int .i64 2, .agg #[.int .u64 (ww3 x), .int .u64 (ww2 x), .int .u64 (ww1 x), .int .u64 (ww0 x), .int .u64 (ww3 y), .int .u64 (ww2 y), .int .u64 (ww1 y), .int .u64 (ww0 y), .int .u64 (ww3 1), .int .u64 (ww2 1), .int .u64 (ww1 1), .int .u64 (ww0 1)], .agg #[.int .u64 (ww3 x'), .int .u64 (ww2 x'), .int .u64 (ww1 x'), .int .u64 (ww0 x'), .int .u64 (ww3 y'), .int .u64 (ww2 y'), .int .u64 (ww1 y'), .int .u64 (ww0 y'), .int .u64 (ww3 1), .int .u64 (ww2 1), .int .u64 (ww1 1), .int .u64 (ww0 1)]]) (by simp [results, Tryz.results19, go_sem, m0, n0, m1, n1, m2, n2, m3, n3, m4, n4, m5, n5, m6, n6, m7, n7, m8, n8, m9, n9, m10, n10, m11, n11]) rfl ?_
         exact ⟨by rw [HO.out], by first | exact HBF | exact HBF.drew⟩)
   · have h2' := Bool.eq_false_iff.2 h2
     rw [h2']
     have HO : Hid (meetV a b c d p q u v = .tuple #[.int .i64 0, .agg #[.int .u64 0, .int .u64 0, .int .u64 0, .int .u64 0, .int .u64 0, .int .u64 0, .int .u64 0, .int .u64 0, .int .u64 0, .int .u64 0, .int .u64 0, .int .u64 0], .agg #[.int .u64 0, .int .u64 0, .int .u64 0, .int .u64 0, .int .u64 0, .int .u64 0, .int .u64 0, .int .u64 0, .int .u64 0, .int .u64 0, .int .u64 0, .int .u64 0]]) := by show _ = _; unfold meetV; rw [h1, h2']; rfl
     clear h1 h2 h2' K1 K2 BS BT
     obtain ⟨xc0, xf0, xc1, xf1, xc2, xf2, xc3, xf3, xc4, xf4, xc5, xf5, xc6, xf6, xc7, xf7, xc8, xf8, xc9, xf9, xc10, xf10, xc11, xf11⟩ := BP.cf12; have xl := BP.lt; obtain ⟨yc0, yf0, yc1, yf1, yc2, yf2, yc3, yf3, yc4, yf4, yc5, yf5, yc6, yf6, yc7, yf7, yc8, yf8, yc9, yf9, yc10, yf10, yc11, yf11⟩ := BQ.cf12; have yl := BQ.lt
     go_wp2
     first | with_reducible refine put24_ret BP BQ (by omega) (by omega) (by omega) HB fun WF F0 F1 HBF => ?_ | with_reducible refine put24_retD BP BQ (by omega) (by omega) (by omega) HB fun WF F0 F1 HBF => ?_
     clear BP BQ HB xc0 xf0 xc1 xf1 xc2 xf2 xc3 xf3 xc4 xf4 xc5 xf5 xc6 xf6 xc7 xf7 xc8 xf8 xc9 xf9 xc10 xf10 xc11 xf11 xl yc0 yf0 yc1 yf1 yc2 yf2 yc3 yf3 yc4 yf4 yc5 yf5 yc6 yf6 yc7 yf7 yc8 yf8 yc9 yf9 yc10 yf10 yc11 yf11 yl
     obtain ⟨m0, m1, m2, m3, m4, m5, m6, m7, m8, m9, m10, m11⟩ := F0.cs12; obtain ⟨n0, n1, n2, n3, n4, n5, n6, n7, n8, n9, n10, n11⟩ := F1.cs12
     refine bodyPost_ret (v := .tuple #[.int .i64 0, .agg #[.int .u64 0, .int .u64 0, .int .u64 0, .int .u64 0, .int .u64 0, .int .u64 0, .int .u64 0, .int .u64 0, .int .u64 0, .int .u64 0, .int .u64 0, .int .u64 0], .agg #[.int .u64 0, .int .u64 0, .int .u64 0, .int .u64 0, .int .u64 0, .int .u64 0, .int .u64 0, .int .u64 0, .int .u64 0, .int .u64 0, .int .u64 0, .int .u64 0]]) (by simp [results, Tryz.results19, go_sem, m0, n0, m1, n1, m2, n2, m3, n3, m4, n4, m5, n5, m6, n6, m7, n7, m8, n8, m9, n9, m10, n10, m11, n11]) rfl ?_
     exact ⟨by rw [HO.out], by first | exact HBF | exact HBF.drew⟩
 · have h1' := Bool.eq_false_iff.2 h1
   rw [h1']
   have HO : Hid (meetV a b c d p q u v = .tuple #[.int .i64 0, .agg #[.int .u64 0, .int .u64 0, .int .u64 0, .int .u64 0, .int .u64 0, .int .u64 0, .int .u64 0, .int .u64 0, .int .u64 0, .int .u64 0, .int .u64 0, .int .u64 0], .agg #[.int .u64 0, .int .u64 0, .int .u64 0, .int .u64 0, .int .u64 0, .int .u64 0, .int .u64 0, .int .u64 0, .int .u64 0, .int .u64 0, .int .u64 0, .int .u64 0]]) := by show _ = _; unfold meetV; rw [h1']; rfl
   clear h1 h1' K1 K2 BS BT
   obtain ⟨xc0, xf0, xc1, xf1, xc2, xf2, xc3, xf3, xc4, xf4, xc5, xf5, xc6, xf6, xc7, xf7, xc8, xf8, xc9, xf9, xc10, xf10, xc11, xf11⟩ := BP.cf12; have xl := BP.lt; obtain ⟨yc0, yf0, yc1, yf1, yc2, yf2, yc3, yf3, yc4, yf4, yc5, yf5, yc6, yf6, yc7, yf7, yc8, yf8, yc9, yf9, yc10, yf10, yc11, yf11⟩ := BQ.cf12; have yl := BQ.lt
   go_wp2
   first | with_reducible refine put24_ret BP BQ (by omega) (by omega) (by omega) HB fun WF F0 F1 HBF => ?_ | with_reducible refine put24_retD BP BQ (by omega) (by omega) (by omega) HB fun WF F0 F1 HBF => ?_
   clear BP BQ HB xc0 xf0 xc1 xf1 xc2 xf2 xc3 xf3 xc4 xf4 xc5 xf5 xc6 xf6 xc7 xf7 xc8 xf8 xc9 xf9 xc10 xf10 xc11 xf11 xl yc0 yf0 yc1 yf1 yc2 yf2 yc3 yf3 yc4 yf4 yc5 yf5 yc6 yf6 yc7 yf7 yc8 yf8 yc9 yf9 yc10 yf10 yc11 yf11 yl
   obtain ⟨m0, m1, m2, m3, m4, m5, m6, m7, m8, m9, m10, m11⟩ := F0.cs12; obtain ⟨n0, n1, n2, n3, n4, n5, n6, n7, n8, n9, n10, n11⟩ := F1.cs12
   refine bodyPost_ret (v := .tuple #[.int .i64 0, .agg #[.int .u64 0, .int .u64 0, .int .u64 0, .int .u64 0, .int .u64 0, .int .u64 0, .int .u64 0, .int .u64 0, .int .u64 0, .int .u64 0, .int .u64 0, .int .u64 0], .agg #[.int .u64 0, .int .u64 0, .int .u64 0, .int .u64 0, .int .u64 0, .int .u64 0, .int .u64 0, .int .u64 0, .int .u64 0, .int .u64 0, .int .u64 0, .int .u64 0]]) (by simp [results, Tryz.results19, go_sem, m0, n0, m1, n1, m2, n2, m3, n3, m4, n4, m5, n5, m6, n6, m7, n7, m8, n8, m9, n9, m10, n10, m11, n11]) rfl ?_
   exact ⟨by rw [HO.out], by first | exact HBF | exact HBF.drew⟩
end Go.Proofs.YtpnnpkchogooaaaGreat
