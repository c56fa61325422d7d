/- Part 7 of the walks that the proof leans on. -/
import Derived.Test.YtpmnmlhfaoajdaaQt5
import Derived.Test.YtpmnmlhfaoajdaaQt6
import Derived.Test.YtpmnmlhfaoajdaaQt3
import Derived.Deep.RegionHeld3
import Derived.Laws.AppendOwn
import Derived.WalkSmall
import Derived.Test.YtpmnmlhfaoajdaaQt1
import Derived.Deep.DeepCutAuto
import Derived.OrdersIn
import Derived.TacticsIn
import Derived.RangeFuncCalls
import Derived.Test.YtpmnmlhfaoajdaaQt4
import Derived.Test.YtpmnmlhfaoajdaaQt2
/- Where two segments cross: the model's walk. -/
namespace Go.Proofs.Ytpmnmlhfaoajdaa
open Go.RowKit
set_option maxRecDepth 100000 in
set_option maxHeartbeats 16000000 in
theorem l4Meet_cross (a b c d p q u v : Int) (ha : In1 a) (hb : In1 b) (hc : In1 c) (hd : In1 d) (hp : In1 p) (hq : In1 q) (hu : In1 u) (hv : In1 v) (hb0 : ¬ (turnZ a b c d p q = 0 ∧ turnZ a b c d u v = 0)) (w : World) : Calls Try.prog 28 #[Sg a b c d, Sg p q u v] w (MtP a b c d p q u v w) := by
  have HS1 := l4TurnZ_det a b c d p q ha hb hc hd hp hq
  have HS2 := l4TurnZ_det a b c d u v ha hb hc hd hu hv
  have HS3 := l4TurnZ_det p q u v a b hp hq hu hv ha hb
  have HS4 := l4TurnZ_det p q u v c d hp hq hu hv hc hd
  have T0 : ArgsB w ((((w.alloc (.cells #[.int .i64 a, .int .i64 b, .int .i64 c, .int .i64 d] 64)).alloc (.cells #[.int .i64 p, .int .i64 q, .int .i64 u, .int .i64 v] 64)).alloc (.cells #[.bool false, .slice none 0 0, .bool false, .slice none 0 0, .bool false, .slice none 0 0] 58)).alloc (.cells #[.bool false, .slice none 0 0, .bool false, .slice none 0 0, .bool false, .slice none 0 0] 58)) [[.int .i64 a, .int .i64 b, .int .i64 c, .int .i64 d], [.int .i64 p, .int .i64 q, .int .i64 u, .int .i64 v], [.bool false, .slice none 0 0, .bool false, .slice none 0 0, .bool false, .slice none 0 0], [.bool false, .slice none 0 0, .bool false, .slice none 0 0, .bool false, .slice none 0 0]] := ar4 _ _ _ _ _ _ _ _ w
  go_enter Try.func28, Try.ntmps28
  go_upto_region 1 with fail
  generalize ((((w.alloc (.cells #[.int .i64 a, .int .i64 b, .int .i64 c, .int .i64 d] 64)).alloc (.cells #[.int .i64 p, .int .i64 q, .int .i64 u, .int .i64 v] 64)).alloc (.cells #[.bool false, .slice none 0 0, .bool false, .slice none 0 0, .bool false, .slice none 0 0] 58)).alloc (.cells #[.bool false, .slice none 0 0, .bool false, .slice none 0 0, .bool false, .slice none 0 0] 58)) = W at *
  have Y0 : Blk _ w.heap.size _ := T0.b 0 rfl; have Y1 : Blk _ (w.heap.size + 1) _ := T0.b 1 rfl; obtain ⟨sc0, sc1, sc2, sc3⟩ := Y0.cs4; obtain ⟨tc0, tc1, tc2, tc3⟩ := Y1.cs4; clear Y0 Y1
  go_wp2_with fail
  refine (HS1 _).mono ?_
  rintro e w1 ⟨rfl, hB⟩
  replace T0 := T0.step hB
  clear hB sc0 tc0 sc1 tc1 sc2 tc2 sc3 tc3
  have Y0 : Blk _ w.heap.size _ := T0.b 0 rfl; have Y1 : Blk _ (w.heap.size + 1) _ := T0.b 1 rfl; obtain ⟨sc0, sc1, sc2, sc3⟩ := Y0.cs4; obtain ⟨tc0, tc1, tc2, tc3⟩ := Y1.cs4; clear Y0 Y1
  go_wp2_with fail
  refine (HS2 _).mono ?_
  rintro e w2 ⟨rfl, hB⟩
  replace T0 := T0.step hB
  clear hB sc0 tc0 sc1 tc1 sc2 tc2 sc3 tc3
  have Y0 : Blk _ w.heap.size _ := T0.b 0 rfl; have Y1 : Blk _ (w.heap.size + 1) _ := T0.b 1 rfl; obtain ⟨sc0, sc1, sc2, sc3⟩ := Y0.cs4; obtain ⟨tc0, tc1, tc2, tc3⟩ := Y1.cs4; clear Y0 Y1
  go_wp2_with fail
  refine (HS3 _).mono ?_
  rintro e w3 ⟨rfl, hB⟩
  replace T0 := T0.step hB
  clear hB sc0 tc0 sc1 tc1 sc2 tc2 sc3 tc3
  have Y0 : Blk _ w.heap.size _ := T0.b 0 rfl; have Y1 : Blk _ (w.heap.size + 1) _ := T0.b 1 rfl; obtain ⟨sc0, sc1, sc2, sc3⟩ := Y0.cs4; obtain ⟨tc0, tc1, tc2, tc3⟩ := Y1.cs4; clear Y0 Y1
  go_wp2_with fail
  refine (HS4 _).mono ?_
  rintro e w4 ⟨rfl, hB⟩
  replace T0 := T0.step hB
  clear hB sc0 tc0 sc1 tc1 sc2 tc2 sc3 tc3
  go_upto_region 5 with fail
  go_cut [54] (fun p' wx => p' = .bool false ∧ wx = w4)
  case first =>
    by_cases hz1 : turnZ a b c d p q = 0
    · have z1 : (sgZ (turnZ a b c d p q) == 0) = true := by rw [hz1]; rfl
      have z2 : (sgZ (turnZ a b c d u v) == 0) = false := by
        rw [beq_eq_false_iff_ne]
        intro h
        exact hb0 ⟨hz1, sgZ_z.1 h⟩
      clear hz1 hb0 HS1 HS2 HS3 HS4
      generalize sgZ (turnZ a b c d p q) = s1 at *
      generalize sgZ (turnZ a b c d u v) = s2 at *
      go_wp2_with fail
      go_meet
      exact ⟨rfl, rfl⟩
    · have z1 : (sgZ (turnZ a b c d p q) == 0) = false := by
        rw [beq_eq_false_iff_ne]
        intro h
        exact hz1 (sgZ_z.1 h)
      clear hz1 hb0 HS1 HS2 HS3 HS4
      generalize sgZ (turnZ a b c d p q) = s1 at *
      go_wp2_with fail
      go_meet
      exact ⟨rfl, rfl⟩
  case rest =>
    obtain ⟨hp', hw'⟩ := hcut
    subst hp'; subst hw'
    by_cases g1 : 0 < sgZ (turnZ a b c d p q) * sgZ (turnZ a b c d u v)
    · have HO : Hid (meetW a b c d p q u v = .tuple #[.int .i64 0, .agg #[.int .u64 0, .int .u64 0, .int .u64 0, .int .u64 0, .int .u64 0, .int .u64 0, .int .u64 0, .int .u64 0, .int .u64 0, .int .u64 0, .int .u64 0, .int .u64 0], .agg #[.int .u64 0, .int .u64 0, .int .u64 0, .int .u64 0, .int .u64 0, .int .u64 0, .int .u64 0, .int .u64 0, .int .u64 0, .int .u64 0, .int .u64 0, .int .u64 0]]) := meet_none1 hb0 g1
      have m1 := (sgZ_mul (turnZ a b c d p q) (turnZ a b c d u v)).2
      clear HS1 HS2 HS3 HS4 hb0
      generalize sgZ (turnZ a b c d p q) = s1 at *
      generalize sgZ (turnZ a b c d u v) = s2 at *
      generalize sgZ (turnZ p q u v a b) = s3 at *
      generalize sgZ (turnZ p q u v c d) = s4 at *
      have BS : Blk _ w.heap.size _ := T0.b 0 rfl; have BT : Blk _ (w.heap.size + 1) _ := T0.b 1 rfl; have BP : Blk _ (w.heap.size + 1 + 1) _ := T0.b 2 rfl; have BQ : Blk _ (w.heap.size + 1 + 1 + 1) _ := T0.b 3 rfl; have HB := T0.below
      clear T0
      clear BS BT
      obtain ⟨m12, hm12⟩ : ∃ m, s1 * s2 = m := ⟨_, rfl⟩
      rw [hm12] at g1 m1
      obtain ⟨xc0, xf0, xc1, xf1, xc2, xf2, xc3, xf3, xc4, xf4, xc5, xf5⟩ := BP.cf6; have xl := BP.lt; obtain ⟨yc0, yf0, yc1, yf1, yc2, yf2, yc3, yf3, yc4, yf4, yc5, yf5⟩ := BQ.cf6; have yl := BQ.lt
      go_wp2
      refine bodyPost_ret (v := .tuple #[.int .i64 0, .agg #[.bool false, .slice none 0 0, .bool false, .slice none 0 0, .bool false, .slice none 0 0], .agg #[.bool false, .slice none 0 0, .bool false, .slice none 0 0, .bool false, .slice none 0 0]]) (by simp [results, Try.results28, go_sem, xc0, yc0, xc1, yc1, xc2, yc2, xc3, yc3, xc4, yc4, xc5, yc5]) rfl ?_
      refine ⟨?_, Or.inl ⟨HO.out, rfl⟩⟩
      repeat' (refine Below.setCell ?_ (by simp; try omega) _)
      exact HB
    · by_cases g2 : 0 < sgZ (turnZ p q u v a b) * sgZ (turnZ p q u v c d)
      · have HO : Hid (meetW a b c d p q u v = .tuple #[.int .i64 0, .agg #[.int .u64 0, .int .u64 0, .int .u64 0, .int .u64 0, .int .u64 0, .int .u64 0, .int .u64 0, .int .u64 0, .int .u64 0, .int .u64 0, .int .u64 0, .int .u64 0], .agg #[.int .u64 0, .int .u64 0, .int .u64 0, .int .u64 0, .int .u64 0, .int .u64 0, .int .u64 0, .int .u64 0, .int .u64 0, .int .u64 0, .int .u64 0, .int .u64 0]]) := meet_none2 hb0 g1 g2
        have m1 := (sgZ_mul (turnZ a b c d p q) (turnZ a b c d u v)).2
        have m2 := (sgZ_mul (turnZ p q u v a b) (turnZ p q u v c d)).2
        clear HS1 HS2 HS3 HS4 hb0
        generalize sgZ (turnZ a b c d p q) = s1 at *
        generalize sgZ (turnZ a b c d u v) = s2 at *
        generalize sgZ (turnZ p q u v a b) = s3 at *
        generalize sgZ (turnZ p q u v c d) = s4 at *
        have BS : Blk _ w.heap.size _ := T0.b 0 rfl; have BT : Blk _ (w.heap.size + 1) _ := T0.b 1 rfl; have BP : Blk _ (w.heap.size + 1 + 1) _ := T0.b 2 rfl; have BQ : Blk _ (w.heap.size + 1 + 1 + 1) _ := T0.b 3 rfl; have HB := T0.below
        clear T0
        clear BS BT
        obtain ⟨m12, hm12⟩ : ∃ m, s1 * s2 = m := ⟨_, rfl⟩
        rw [hm12] at g1 m1
        obtain ⟨m34, hm34⟩ : ∃ m, s3 * s4 = m := ⟨_, rfl⟩
        rw [hm34] at g2 m2
        obtain ⟨xc0, xf0, xc1, xf1, xc2, xf2, xc3, xf3, xc4, xf4, xc5, xf5⟩ := BP.cf6; have xl := BP.lt; obtain ⟨yc0, yf0, yc1, yf1, yc2, yf2, yc3, yf3, yc4, yf4, yc5, yf5⟩ := BQ.cf6; have yl := BQ.lt
        go_wp2
        refine bodyPost_ret (v := .tuple #[.int .i64 0, .agg #[.bool false, .slice none 0 0, .bool false, .slice none 0 0, .bool false, .slice none 0 0], .agg #[.bool false, .slice none 0 0, .bool false, .slice none 0 0, .bool false, .slice none 0 0]]) (by simp [results, Try.results28, go_sem, xc0, yc0, xc1, yc1, xc2, yc2, xc3, yc3, xc4, yc4, xc5, yc5]) rfl ?_
        refine ⟨?_, Or.inl ⟨HO.out, rfl⟩⟩
        repeat' (refine Below.setCell ?_ (by simp; try omega) _)
        exact HB
      · have HP := meet_pt hb0 g1 g2
        have hW0 := meet_w0 hb0 g1
        have m1 := (sgZ_mul (turnZ a b c d p q) (turnZ a b c d u v)).2
        have m2 := (sgZ_mul (turnZ p q u v a b) (turnZ p q u v c d)).2
        clear HS1 HS2 HS3 HS4 hb0
        generalize sgZ (turnZ a b c d p q) = s1 at *
        generalize sgZ (turnZ a b c d u v) = s2 at *
        generalize sgZ (turnZ p q u v a b) = s3 at *
        generalize sgZ (turnZ p q u v c d) = s4 at *
        obtain ⟨m12, hm12⟩ : ∃ m, s1 * s2 = m := ⟨_, rfl⟩
        rw [hm12] at g1 m1
        obtain ⟨m34, hm34⟩ : ∃ m, s3 * s4 = m := ⟨_, rfl⟩
        rw [hm34] at g2 m2
        obtain ⟨q1, q2⟩ := mul_in (p := c - a) (q := v - q) (M := 2000000) (N := 2000000) (by omega) (by omega) (by omega) (by omega)
        obtain ⟨q3, q4⟩ := mul_in (p := d - b) (q := u - p) (M := 2000000) (N := 2000000) (by omega) (by omega) (by omega) (by omega)
        obtain ⟨q5, q6⟩ := mul_in (p := p - a) (q := v - q) (M := 2000000) (N := 2000000) (by omega) (by omega) (by omega) (by omega)
        obtain ⟨q7, q8⟩ := mul_in (p := q - b) (q := u - p) (M := 2000000) (N := 2000000) (by omega) (by omega) (by omega) (by omega)
        have eW : (c - a) * (v - q) - (d - b) * (u - p) = ((b - d) * (u - p) - (q - v) * (c - a)) := by grind
        have eX : a * ((c - a) * (v - q) - (d - b) * (u - p)) + (c - a) * ((p - a) * (v - q) - (q - b) * (u - p)) = ((c - a) * (p * v - q * u) - (u - p) * (a * d - b * c)) := by grind
        have eY : b * ((c - a) * (v - q) - (d - b) * (u - p)) + (d - b) * ((p - a) * (v - q) - (q - b) * (u - p)) = ((a * d - b * c) * (q - v) - (p * v - q * u) * (b - d)) := by grind
        have bX := bnd_x a b c d p q u v ha hb hc hd hp hq hu hv
        have bY := bnd_y a b c d p q u v ha hb hc hd hp hq hu hv
        have bW := bnd_w a b c d p q u v ha hb hc hd hp hq hu hv
        obtain ⟨pa, hpa⟩ : ∃ m, (c - a) * (v - q) = m := ⟨_, rfl⟩
        obtain ⟨pb, hpb⟩ : ∃ m, (d - b) * (u - p) = m := ⟨_, rfl⟩
        obtain ⟨pc, hpc⟩ : ∃ m, (p - a) * (v - q) = m := ⟨_, rfl⟩
        obtain ⟨pd, hpd⟩ : ∃ m, (q - b) * (u - p) = m := ⟨_, rfl⟩
        rw [hpa, hpb] at eW
        rw [hpa, hpb, hpc, hpd] at eX eY
        rw [hpa] at q1 q2
        rw [hpb] at q3 q4
        rw [hpc] at q5 q6
        rw [hpd] at q7 q8
        rw [← eX, ← eY, ← eW] at HP
        rw [← eX] at bX
        rw [← eY] at bY
        rw [← eW] at bW hW0
        have HO : Hid (meetW a b c d p q u v = .tuple #[.int .i64 1, .agg #[.int .u64 (ww3 (shareZ (a * (pa - pb) + (c - a) * (pc - pd)) (Int.gcd (Int.gcd (a * (pa - pb) + (c - a) * (pc - pd)) (b * (pa - pb) + (d - b) * (pc - pd)) : Int) (pa - pb) : Int) (decide ((pa - pb) < 0)))), .int .u64 (ww2 (shareZ (a * (pa - pb) + (c - a) * (pc - pd)) (Int.gcd (Int.gcd (a * (pa - pb) + (c - a) * (pc - pd)) (b * (pa - pb) + (d - b) * (pc - pd)) : Int) (pa - pb) : Int) (decide ((pa - pb) < 0)))), .int .u64 (ww1 (shareZ (a * (pa - pb) + (c - a) * (pc - pd)) (Int.gcd (Int.gcd (a * (pa - pb) + (c - a) * (pc - pd)) (b * (pa - pb) + (d - b) * (pc - pd)) : Int) (pa - pb) : Int) (decide ((pa - pb) < 0)))), .int .u64 (ww0 (shareZ (a * (pa - pb) + (c - a) * (pc - pd)) (Int.gcd (Int.gcd (a * (pa - pb) + (c - a) * (pc - pd)) (b * (pa - pb) + (d - b) * (pc - pd)) : Int) (pa - pb) : Int) (decide ((pa - pb) < 0)))), .int .u64 (ww3 (shareZ (b * (pa - pb) + (d - b) * (pc - pd)) (Int.gcd (Int.gcd (a * (pa - pb) + (c - a) * (pc - pd)) (b * (pa - pb) + (d - b) * (pc - pd)) : Int) (pa - pb) : Int) (decide ((pa - pb) < 0)))), .int .u64 (ww2 (shareZ (b * (pa - pb) + (d - b) * (pc - pd)) (Int.gcd (Int.gcd (a * (pa - pb) + (c - a) * (pc - pd)) (b * (pa - pb) + (d - b) * (pc - pd)) : Int) (pa - pb) : Int) (decide ((pa - pb) < 0)))), .int .u64 (ww1 (shareZ (b * (pa - pb) + (d - b) * (pc - pd)) (Int.gcd (Int.gcd (a * (pa - pb) + (c - a) * (pc - pd)) (b * (pa - pb) + (d - b) * (pc - pd)) : Int) (pa - pb) : Int) (decide ((pa - pb) < 0)))), .int .u64 (ww0 (shareZ (b * (pa - pb) + (d - b) * (pc - pd)) (Int.gcd (Int.gcd (a * (pa - pb) + (c - a) * (pc - pd)) (b * (pa - pb) + (d - b) * (pc - pd)) : Int) (pa - pb) : Int) (decide ((pa - pb) < 0)))), .int .u64 (ww3 (shareZ (pa - pb) (Int.gcd (Int.gcd (a * (pa - pb) + (c - a) * (pc - pd)) (b * (pa - pb) + (d - b) * (pc - pd)) : Int) (pa - pb) : Int) (decide ((pa - pb) < 0)))), .int .u64 (ww2 (shareZ (pa - pb) (Int.gcd (Int.gcd (a * (pa - pb) + (c - a) * (pc - pd)) (b * (pa - pb) + (d - b) * (pc - pd)) : Int) (pa - pb) : Int) (decide ((pa - pb) < 0)))), .int .u64 (ww1 (shareZ (pa - pb) (Int.gcd (Int.gcd (a * (pa - pb) + (c - a) * (pc - pd)) (b * (pa - pb) + (d - b) * (pc - pd)) : Int) (pa - pb) : Int) (decide ((pa - pb) < 0)))), .int .u64 (ww0 (shareZ (pa - pb) (Int.gcd (Int.gcd (a * (pa - pb) + (c - a) * (pc - pd)) (b * (pa - pb) + (d - b) * (pc - pd)) : Int) (pa - pb) : Int) (decide ((pa - pb) < 0))))], .agg #[.int .u64 0, .int .u64 0, .int .u64 0, .int .u64 0, .int .u64 0, .int .u64 0, .int .u64 0, .int .u64 0, .int .u64 0, .int .u64 0, .int .u64 0, .int .u64 0]]) := HP
        clear HP eX eY eW
        have D1 := fun w => int_any (pa - pb) w (by omega) (by omega)
        have D2 := fun w => int_any (pc - pd) w (by omega) (by omega)
        have tk251 : True := trivial
        have tk252 : True := trivial
        have tk261 : True := trivial
        have tk262 : True := trivial
        have Y0 : Blk _ w.heap.size _ := T0.b 0 rfl; have Y1 : Blk _ (w.heap.size + 1) _ := T0.b 1 rfl; obtain ⟨sc0, sc1, sc2, sc3⟩ := Y0.cs4; obtain ⟨tc0, tc1, tc2, tc3⟩ := Y1.cs4; clear Y0 Y1
        go_wp2_with fail
        refine (D1 _).mono ?_
        rintro e k1 ⟨ds, do1, dn, dc, dd, rfl, Md, hB⟩
        have hgd : (w.heap.size + 1 + 1 + 1) + 1 ≤ k1.heap.size := ((T0.step hB).b 3 rfl).lt
        replace T0 := (T0.step hB).alloc (.cells #[.bool ds, .slice do1 dn dc] 56)
        replace Md := Md.alloc (.cells #[.bool ds, .slice do1 dn dc] 56)
        have Bd := Blk.new k1 [.bool ds, .slice do1 dn dc] 56 rfl
        clear hB sc0 tc0 sc1 tc1 sc2 tc2 sc3 tc3 D1
        have Y0 : Blk _ w.heap.size _ := T0.b 0 rfl; have Y1 : Blk _ (w.heap.size + 1) _ := T0.b 1 rfl; obtain ⟨sc0, sc1, sc2, sc3⟩ := Y0.cs4; obtain ⟨tc0, tc1, tc2, tc3⟩ := Y1.cs4; clear Y0 Y1
        go_wp2_with fail
        refine (D2 _).mono ?_
        rintro e k2 ⟨ns, no, nn, nc, nd, rfl, Mn, hB⟩
        have hgn : k1.heap.size + 1 ≤ k2.heap.size := (Bd.step hB).lt
        replace T0 := (T0.step hB).alloc (.cells #[.bool ns, .slice no nn nc] 56)
        replace Md := (Md.below hB).alloc (.cells #[.bool ns, .slice no nn nc] 56)
        replace Bd := (Bd.step hB).alloc (.cells #[.bool ns, .slice no nn nc] 56)
        replace Mn := Mn.alloc (.cells #[.bool ns, .slice no nn nc] 56)
        have Bn := Blk.new k2 [.bool ns, .slice no nn nc] 56 rfl
        clear hB sc0 tc0 sc1 tc1 sc2 tc2 sc3 tc3 D2
        have Y0 : Blk _ w.heap.size _ := T0.b 0 rfl; have Y1 : Blk _ (w.heap.size + 1) _ := T0.b 1 rfl; obtain ⟨sc0, sc1, sc2, sc3⟩ := Y0.cs4; obtain ⟨tc0, tc1, tc2, tc3⟩ := Y1.cs4; clear Y0 Y1
        go_upto_region 25 with fail
        clear sc0 tc0 sc1 tc1 sc2 tc2 sc3 tc3
        generalize k2.alloc (.cells #[.bool ns, .slice no nn nc] 56) = W2 at *
        generalize k2.heap.size = gn at *
        generalize k1.heap.size = gd at *
        have h0 := (T0.b 3 rfl).lt
        go_cut [19] (fun p' wx => CutN w wx [[.int .i64 a, .int .i64 b, .int .i64 c, .int .i64 d], [.int .i64 p, .int .i64 q, .int .i64 u, .int .i64 v], [.bool false, .slice none 0 0, .bool false, .slice none 0 0, .bool false, .slice none 0 0], [.bool false, .slice none 0 0, .bool false, .slice none 0 0, .bool false, .slice none 0 0]] (a * (pa - pb) + (c - a) * (pc - pd)) (2 + 2 + 1) (gn + 1) p' ∧ Blk wx gd [.bool ds, .slice do1 dn dc] ∧ Blk wx gn [.bool ns, .slice no nn nc] ∧ IsNum wx ds do1 dn dc dd (pa - pb) 2 ∧ IsNum wx ns no nn nc nd (pc - pd) 2)
        case first =>
          as_aux_lemma =>
            go_region_held3 (fun w' => w'.cell? ⟨w.heap.size, 0, none⟩ = some (.int .i64 a) ∧ w'.cell? ⟨gd, 0, none⟩ = some (.bool ds) ∧ w'.cell? ⟨gd, 1, none⟩ = some (.slice do1 dn dc) ∧ w'.cell? ⟨gn, 0, none⟩ = some (.bool ns) ∧ w'.cell? ⟨gn, 1, none⟩ = some (.slice no nn nc)) ((refine m4_keep0 (a := a) (b := b) (c := c) (d := d) (p := p) (q := q) (u := u) (v := v) ?_ ?_ ?_ <;> repeat (first | (with_reducible exact T0) | (with_reducible exact Bd) | (with_reducible exact Bn) | (with_reducible refine ArgsB.drew ?_) | (with_reducible refine Blk.drew ?_) | (with_reducible refine ArgsB.alloc ?_ _) | (with_reducible refine Blk.alloc ?_ _) | (with_reducible refine ArgsB.set2g ?_ (by simp; omega) _ _) | (with_reducible refine Blk.set2 ?_ (by omega)))))
              (first
                | (go_at_call 51; have _t := tk251; refine (int_any a _ (by omega) (by omega)).mono ?_; rintro e e251 ⟨fs, fo, fn, fc, fd, rfl, Nf, hB⟩; (first | (have T1 : ArgsB w e251 _ := (by with_reducible exact T0.step hB); have tlte251 := (T0.b 3 rfl).lt; have lBde251 := Bd.lt; replace Bd := Bd.step hB; have lBne251 := Bn.lt; replace Bn := Bn.step hB; replace Md := Md.below hB; replace Mn := Mn.below hB; (try (replace G0 := G0.step hB; obtain ⟨j0c, j0f, j1c, j1f⟩ := G0.cf2; have jlt := G0.lt))) | (have T1 : ArgsB w e251 _ := (by with_reducible exact T0.drew.step hB); have tlte251 := (T0.b 3 rfl).lt; have lBde251 := Bd.lt; replace Bd := Bd.drew.step hB; have lBne251 := Bn.lt; replace Bn := Bn.drew.step hB; replace Md := Md.drew.below hB; replace Mn := Mn.drew.below hB; (try (replace G0 := G0.drew.step hB; obtain ⟨j0c, j0f, j1c, j1f⟩ := G0.cf2; have jlt := G0.lt))) | (have T1 : ArgsB w e251 _ := (by with_reducible exact (T0.alloc _).step hB); have tlte251 := (T0.b 3 rfl).lt; have lBde251 := Bd.lt; replace Bd := (Bd.alloc _).step hB; have lBne251 := Bn.lt; replace Bn := (Bn.alloc _).step hB; replace Md := (Md.alloc _).below hB; replace Mn := (Mn.alloc _).below hB; (have G0 := (Blk.new _ [.bool false, .slice none 0 0] _ rfl).step hB; obtain ⟨j0c, j0f, j1c, j1f⟩ := G0.cf2; have jlt := G0.lt)) | (have T1 : ArgsB w e251 _ := (by with_reducible exact (T0.alloc _).drew.step hB); have tlte251 := (T0.b 3 rfl).lt; have lBde251 := Bd.lt; replace Bd := (Bd.alloc _).drew.step hB; have lBne251 := Bn.lt; replace Bn := (Bn.alloc _).drew.step hB; replace Md := (Md.alloc _).drew.below hB; replace Mn := (Mn.alloc _).drew.below hB; (have G0 := (Blk.new _ [.bool false, .slice none 0 0] _ rfl).drew.step hB; obtain ⟨j0c, j0f, j1c, j1f⟩ := G0.cf2; have jlt := G0.lt))); clear T0; have T0 := T1; clear T1; clear hB tk251 _t)
                | (go_at_call 53; have _t := tk252; refine (mul_any fs ds fo do1 fn dn fc dc (2) fd dd _ _ _ (by first | (with_reducible exact Nf) | (with_reducible exact Nf.drew) | (with_reducible exact Nf.alloc _) | (with_reducible exact (Nf.alloc _).drew)) (by first | (with_reducible exact Md) | (with_reducible exact Md.drew) | (with_reducible exact Md.alloc _) | (with_reducible exact (Md.alloc _).drew)) (by omega)).mono ?_; rintro e e252 ⟨gs, go, gn, gc, gd, rfl, Ng, hB⟩; (first | (have T1 : ArgsB w e252 _ := (by with_reducible exact T0.step hB); have tlte252 := (T0.b 3 rfl).lt; have lBde252 := Bd.lt; replace Bd := Bd.step hB; have lBne252 := Bn.lt; replace Bn := Bn.step hB; replace Md := Md.below hB; replace Mn := Mn.below hB; (try (replace G0 := G0.step hB; obtain ⟨j0c, j0f, j1c, j1f⟩ := G0.cf2; have jlt := G0.lt))) | (have T1 : ArgsB w e252 _ := (by with_reducible exact T0.drew.step hB); have tlte252 := (T0.b 3 rfl).lt; have lBde252 := Bd.lt; replace Bd := Bd.drew.step hB; have lBne252 := Bn.lt; replace Bn := Bn.drew.step hB; replace Md := Md.drew.below hB; replace Mn := Mn.drew.below hB; (try (replace G0 := G0.drew.step hB; obtain ⟨j0c, j0f, j1c, j1f⟩ := G0.cf2; have jlt := G0.lt))) | (have T1 : ArgsB w e252 _ := (by with_reducible exact (T0.alloc _).step hB); have tlte252 := (T0.b 3 rfl).lt; have lBde252 := Bd.lt; replace Bd := (Bd.alloc _).step hB; have lBne252 := Bn.lt; replace Bn := (Bn.alloc _).step hB; replace Md := (Md.alloc _).below hB; replace Mn := (Mn.alloc _).below hB; (have G0 := (Blk.new _ [.bool false, .slice none 0 0] _ rfl).step hB; obtain ⟨j0c, j0f, j1c, j1f⟩ := G0.cf2; have jlt := G0.lt)) | (have T1 : ArgsB w e252 _ := (by with_reducible exact (T0.alloc _).drew.step hB); have tlte252 := (T0.b 3 rfl).lt; have lBde252 := Bd.lt; replace Bd := (Bd.alloc _).drew.step hB; have lBne252 := Bn.lt; replace Bn := (Bn.alloc _).drew.step hB; replace Md := (Md.alloc _).drew.below hB; replace Mn := (Mn.alloc _).drew.below hB; (have G0 := (Blk.new _ [.bool false, .slice none 0 0] _ rfl).drew.step hB; obtain ⟨j0c, j0f, j1c, j1f⟩ := G0.cf2; have jlt := G0.lt))); clear T0; have T0 := T1; clear T1; clear hB tk252 _t; clear Nf)
                | (go_at_call 51; refine (int_any (c - a) _ (by omega) (by omega)).mono ?_; rintro e e253 ⟨zs, zo, zn, zc, zd, rfl, Nz, hB⟩; (first | (have T1 : ArgsB w e253 _ := (by with_reducible exact T0.step hB); have tlte253 := (T0.b 3 rfl).lt; have lBde253 := Bd.lt; replace Bd := Bd.step hB; have lBne253 := Bn.lt; replace Bn := Bn.step hB; replace Md := Md.below hB; replace Mn := Mn.below hB; replace Ng := Ng.below hB; (try (replace G0 := G0.step hB; obtain ⟨j0c, j0f, j1c, j1f⟩ := G0.cf2; have jlt := G0.lt))) | (have T1 : ArgsB w e253 _ := (by with_reducible exact T0.drew.step hB); have tlte253 := (T0.b 3 rfl).lt; have lBde253 := Bd.lt; replace Bd := Bd.drew.step hB; have lBne253 := Bn.lt; replace Bn := Bn.drew.step hB; replace Md := Md.drew.below hB; replace Mn := Mn.drew.below hB; replace Ng := Ng.drew.below hB; (try (replace G0 := G0.drew.step hB; obtain ⟨j0c, j0f, j1c, j1f⟩ := G0.cf2; have jlt := G0.lt))) | (have T1 : ArgsB w e253 _ := (by with_reducible exact (T0.alloc _).step hB); have tlte253 := (T0.b 3 rfl).lt; have lBde253 := Bd.lt; replace Bd := (Bd.alloc _).step hB; have lBne253 := Bn.lt; replace Bn := (Bn.alloc _).step hB; replace Md := (Md.alloc _).below hB; replace Mn := (Mn.alloc _).below hB; replace Ng := (Ng.alloc _).below hB; (have G0 := (Blk.new _ [.bool false, .slice none 0 0] _ rfl).step hB; obtain ⟨j0c, j0f, j1c, j1f⟩ := G0.cf2; have jlt := G0.lt)) | (have T1 : ArgsB w e253 _ := (by with_reducible exact (T0.alloc _).drew.step hB); have tlte253 := (T0.b 3 rfl).lt; have lBde253 := Bd.lt; replace Bd := (Bd.alloc _).drew.step hB; have lBne253 := Bn.lt; replace Bn := (Bn.alloc _).drew.step hB; replace Md := (Md.alloc _).drew.below hB; replace Mn := (Mn.alloc _).drew.below hB; replace Ng := (Ng.alloc _).drew.below hB; (have G0 := (Blk.new _ [.bool false, .slice none 0 0] _ rfl).drew.step hB; obtain ⟨j0c, j0f, j1c, j1f⟩ := G0.cf2; have jlt := G0.lt))); clear T0; have T0 := T1; clear T1; clear hB)
                | (go_at_call 53; refine (mul_any zs ns zo no zn nn zc nc (2) zd nd _ _ _ (by first | (with_reducible exact Nz) | (with_reducible exact Nz.drew) | (with_reducible exact Nz.alloc _) | (with_reducible exact (Nz.alloc _).drew)) (by first | (with_reducible exact Mn) | (with_reducible exact Mn.drew) | (with_reducible exact Mn.alloc _) | (with_reducible exact (Mn.alloc _).drew)) (by omega)).mono ?_; rintro e e254 ⟨ls, lo, ln, lc, ld, rfl, Nl, hB⟩; (first | (have T1 : ArgsB w e254 _ := (by with_reducible exact T0.step hB); have tlte254 := (T0.b 3 rfl).lt; have lBde254 := Bd.lt; replace Bd := Bd.step hB; have lBne254 := Bn.lt; replace Bn := Bn.step hB; replace Md := Md.below hB; replace Mn := Mn.below hB; replace Ng := Ng.below hB; (try (replace G0 := G0.step hB; obtain ⟨j0c, j0f, j1c, j1f⟩ := G0.cf2; have jlt := G0.lt))) | (have T1 : ArgsB w e254 _ := (by with_reducible exact T0.drew.step hB); have tlte254 := (T0.b 3 rfl).lt; have lBde254 := Bd.lt; replace Bd := Bd.drew.step hB; have lBne254 := Bn.lt; replace Bn := Bn.drew.step hB; replace Md := Md.drew.below hB; replace Mn := Mn.drew.below hB; replace Ng := Ng.drew.below hB; (try (replace G0 := G0.drew.step hB; obtain ⟨j0c, j0f, j1c, j1f⟩ := G0.cf2; have jlt := G0.lt))) | (have T1 : ArgsB w e254 _ := (by with_reducible exact (T0.alloc _).step hB); have tlte254 := (T0.b 3 rfl).lt; have lBde254 := Bd.lt; replace Bd := (Bd.alloc _).step hB; have lBne254 := Bn.lt; replace Bn := (Bn.alloc _).step hB; replace Md := (Md.alloc _).below hB; replace Mn := (Mn.alloc _).below hB; replace Ng := (Ng.alloc _).below hB; (have G0 := (Blk.new _ [.bool false, .slice none 0 0] _ rfl).step hB; obtain ⟨j0c, j0f, j1c, j1f⟩ := G0.cf2; have jlt := G0.lt)) | (have T1 : ArgsB w e254 _ := (by with_reducible exact (T0.alloc _).drew.step hB); have tlte254 := (T0.b 3 rfl).lt; have lBde254 := Bd.lt; replace Bd := (Bd.alloc _).drew.step hB; have lBne254 := Bn.lt; replace Bn := (Bn.alloc _).drew.step hB; replace Md := (Md.alloc _).drew.below hB; replace Mn := (Mn.alloc _).drew.below hB; replace Ng := (Ng.alloc _).drew.below hB; (have G0 := (Blk.new _ [.bool false, .slice none 0 0] _ rfl).drew.step hB; obtain ⟨j0c, j0f, j1c, j1f⟩ := G0.cf2; have jlt := G0.lt))); clear T0; have T0 := T1; clear T1; clear hB; clear Nz)
                | (go_at_call 52; refine (add_any gs ls go lo gn ln gc lc (2 + 2) gd ld _ _ _ (by first | (with_reducible exact Ng) | (with_reducible exact Ng.drew) | (with_reducible exact Ng.alloc _) | (with_reducible exact (Ng.alloc _).drew)) (by first | (with_reducible exact Nl) | (with_reducible exact Nl.drew) | (with_reducible exact Nl.alloc _) | (with_reducible exact (Nl.alloc _).drew)) (by omega)).mono ?_; rintro e e255 ⟨ms, mo, mn, mc, md, rfl, Nm, hB⟩; (first | (have T1 : ArgsB w e255 _ := (by with_reducible exact T0.step hB); have tlte255 := (T0.b 3 rfl).lt; have lBde255 := Bd.lt; replace Bd := Bd.step hB; have lBne255 := Bn.lt; replace Bn := Bn.step hB; replace Md := Md.below hB; replace Mn := Mn.below hB; (try (replace G0 := G0.step hB; obtain ⟨j0c, j0f, j1c, j1f⟩ := G0.cf2; have jlt := G0.lt))) | (have T1 : ArgsB w e255 _ := (by with_reducible exact T0.drew.step hB); have tlte255 := (T0.b 3 rfl).lt; have lBde255 := Bd.lt; replace Bd := Bd.drew.step hB; have lBne255 := Bn.lt; replace Bn := Bn.drew.step hB; replace Md := Md.drew.below hB; replace Mn := Mn.drew.below hB; (try (replace G0 := G0.drew.step hB; obtain ⟨j0c, j0f, j1c, j1f⟩ := G0.cf2; have jlt := G0.lt))) | (have T1 : ArgsB w e255 _ := (by with_reducible exact (T0.alloc _).step hB); have tlte255 := (T0.b 3 rfl).lt; have lBde255 := Bd.lt; replace Bd := (Bd.alloc _).step hB; have lBne255 := Bn.lt; replace Bn := (Bn.alloc _).step hB; replace Md := (Md.alloc _).below hB; replace Mn := (Mn.alloc _).below hB; (have G0 := (Blk.new _ [.bool false, .slice none 0 0] _ rfl).step hB; obtain ⟨j0c, j0f, j1c, j1f⟩ := G0.cf2; have jlt := G0.lt)) | (have T1 : ArgsB w e255 _ := (by with_reducible exact (T0.alloc _).drew.step hB); have tlte255 := (T0.b 3 rfl).lt; have lBde255 := Bd.lt; replace Bd := (Bd.alloc _).drew.step hB; have lBne255 := Bn.lt; replace Bn := (Bn.alloc _).drew.step hB; replace Md := (Md.alloc _).drew.below hB; replace Mn := (Mn.alloc _).drew.below hB; (have G0 := (Blk.new _ [.bool false, .slice none 0 0] _ rfl).drew.step hB; obtain ⟨j0c, j0f, j1c, j1f⟩ := G0.cf2; have jlt := G0.lt))); clear T0; have T0 := T1; clear T1; clear hB; clear Ng Nl))
            all_goals go_wp2_with fail
            all_goals go_meet
            all_goals have hl := (T0.b 3 rfl).lt
            all_goals have hld := Bd.lt
            all_goals have hln := Bn.lt
            all_goals first | (with_reducible exact ⟨cutN_new T0 Nm (by omega), Bd.alloc _, Bn.alloc _, Md.alloc _, Mn.alloc _⟩) | (with_reducible exact ⟨cutN_set T0 Nm G0 (by omega) (by simp; omega), Bd.set2 (by omega), Bn.set2 (by omega), Md.set2 G0 _ _, Mn.set2 G0 _ _⟩)
        case rest =>
          clear T0 h0 tk251 tk252 Bd Bn Md Mn
          obtain ⟨⟨gx, xs, xo, xn, xc, xd, hp', hgx, Bx, Mx, T0⟩, Bd, Bn, Md, Mn⟩ := hcut
          subst hp'
          have h0 := (T0.b 3 rfl).lt
          have Y0 : Blk _ w.heap.size _ := T0.b 0 rfl; have Y1 : Blk _ (w.heap.size + 1) _ := T0.b 1 rfl; obtain ⟨sc0, sc1, sc2, sc3⟩ := Y0.cs4; obtain ⟨tc0, tc1, tc2, tc3⟩ := Y1.cs4; clear Y0 Y1
          go_upto_region 26 with fail
          clear sc0 tc0 sc1 tc1 sc2 tc2 sc3 tc3
          go_cut [20] (fun p' wx => CutN w wx [[.int .i64 a, .int .i64 b, .int .i64 c, .int .i64 d], [.int .i64 p, .int .i64 q, .int .i64 u, .int .i64 v], [.bool false, .slice none 0 0, .bool false, .slice none 0 0, .bool false, .slice none 0 0], [.bool false, .slice none 0 0, .bool false, .slice none 0 0, .bool false, .slice none 0 0]] (b * (pa - pb) + (d - b) * (pc - pd)) (2 + 2 + 1) (gx + 1) p' ∧ Blk wx gd [.bool ds, .slice do1 dn dc] ∧ Blk wx gn [.bool ns, .slice no nn nc] ∧ Blk wx gx [.bool xs, .slice xo xn xc] ∧ IsNum wx ds do1 dn dc dd (pa - pb) 2 ∧ IsNum wx ns no nn nc nd (pc - pd) 2 ∧ IsNum wx xs xo xn xc xd (a * (pa - pb) + (c - a) * (pc - pd)) (2 + 2 + 1))
          case first =>
            as_aux_lemma =>
              go_region_held3 (fun w' => w'.cell? ⟨w.heap.size, 1, none⟩ = some (.int .i64 b) ∧ w'.cell? ⟨gd, 0, none⟩ = some (.bool ds) ∧ w'.cell? ⟨gd, 1, none⟩ = some (.slice do1 dn dc) ∧ w'.cell? ⟨gn, 0, none⟩ = some (.bool ns) ∧ w'.cell? ⟨gn, 1, none⟩ = some (.slice no nn nc)) ((refine m4_keep1 (a := a) (b := b) (c := c) (d := d) (p := p) (q := q) (u := u) (v := v) ?_ ?_ ?_ <;> repeat (first | (with_reducible exact T0) | (with_reducible exact Bd) | (with_reducible exact Bn) | (with_reducible refine ArgsB.drew ?_) | (with_reducible refine Blk.drew ?_) | (with_reducible refine ArgsB.alloc ?_ _) | (with_reducible refine Blk.alloc ?_ _) | (with_reducible refine ArgsB.set2g ?_ (by simp; omega) _ _) | (with_reducible refine Blk.set2 ?_ (by omega)))))
                (first
                  | (go_at_call 51; have _t := tk261; refine (int_any b _ (by omega) (by omega)).mono ?_; rintro e e261 ⟨fs, fo, fn, fc, fd, rfl, Nf, hB⟩; (first | (have T1 : ArgsB w e261 _ := (by with_reducible exact T0.step hB); have tlte261 := (T0.b 3 rfl).lt; have lBde261 := Bd.lt; replace Bd := Bd.step hB; have lBne261 := Bn.lt; replace Bn := Bn.step hB; have lBxe261 := Bx.lt; replace Bx := Bx.step hB; replace Md := Md.below hB; replace Mn := Mn.below hB; replace Mx := Mx.below hB; (try (replace G0 := G0.step hB; obtain ⟨j0c, j0f, j1c, j1f⟩ := G0.cf2; have jlt := G0.lt))) | (have T1 : ArgsB w e261 _ := (by with_reducible exact T0.drew.step hB); have tlte261 := (T0.b 3 rfl).lt; have lBde261 := Bd.lt; replace Bd := Bd.drew.step hB; have lBne261 := Bn.lt; replace Bn := Bn.drew.step hB; have lBxe261 := Bx.lt; replace Bx := Bx.drew.step hB; replace Md := Md.drew.below hB; replace Mn := Mn.drew.below hB; replace Mx := Mx.drew.below hB; (try (replace G0 := G0.drew.step hB; obtain ⟨j0c, j0f, j1c, j1f⟩ := G0.cf2; have jlt := G0.lt))) | (have T1 : ArgsB w e261 _ := (by with_reducible exact (T0.alloc _).step hB); have tlte261 := (T0.b 3 rfl).lt; have lBde261 := Bd.lt; replace Bd := (Bd.alloc _).step hB; have lBne261 := Bn.lt; replace Bn := (Bn.alloc _).step hB; have lBxe261 := Bx.lt; replace Bx := (Bx.alloc _).step hB; replace Md := (Md.alloc _).below hB; replace Mn := (Mn.alloc _).below hB; replace Mx := (Mx.alloc _).below hB; (have G0 := (Blk.new _ [.bool false, .slice none 0 0] _ rfl).step hB; obtain ⟨j0c, j0f, j1c, j1f⟩ := G0.cf2; have jlt := G0.lt)) | (have T1 : ArgsB w e261 _ := (by with_reducible exact (T0.alloc _).drew.step hB); have tlte261 := (T0.b 3 rfl).lt; have lBde261 := Bd.lt; replace Bd := (Bd.alloc _).drew.step hB; have lBne261 := Bn.lt; replace Bn := (Bn.alloc _).drew.step hB; have lBxe261 := Bx.lt; replace Bx := (Bx.alloc _).drew.step hB; replace Md := (Md.alloc _).drew.below hB; replace Mn := (Mn.alloc _).drew.below hB; replace Mx := (Mx.alloc _).drew.below hB; (have G0 := (Blk.new _ [.bool false, .slice none 0 0] _ rfl).drew.step hB; obtain ⟨j0c, j0f, j1c, j1f⟩ := G0.cf2; have jlt := G0.lt))); clear T0; have T0 := T1; clear T1; clear hB tk261 _t)
                  | (go_at_call 53; have _t := tk262; refine (mul_any fs ds fo do1 fn dn fc dc (2) fd dd _ _ _ (by first | (with_reducible exact Nf) | (with_reducible exact Nf.drew) | (with_reducible exact Nf.alloc _) | (with_reducible exact (Nf.alloc _).drew)) (by first | (with_reducible exact Md) | (with_reducible exact Md.drew) | (with_reducible exact Md.alloc _) | (with_reducible exact (Md.alloc _).drew)) (by omega)).mono ?_; rintro e e262 ⟨gs, go, gn, gc, gd, rfl, Ng, hB⟩; (first | (have T1 : ArgsB w e262 _ := (by with_reducible exact T0.step hB); have tlte262 := (T0.b 3 rfl).lt; have lBde262 := Bd.lt; replace Bd := Bd.step hB; have lBne262 := Bn.lt; replace Bn := Bn.step hB; have lBxe262 := Bx.lt; replace Bx := Bx.step hB; replace Md := Md.below hB; replace Mn := Mn.below hB; replace Mx := Mx.below hB; (try (replace G0 := G0.step hB; obtain ⟨j0c, j0f, j1c, j1f⟩ := G0.cf2; have jlt := G0.lt))) | (have T1 : ArgsB w e262 _ := (by with_reducible exact T0.drew.step hB); have tlte262 := (T0.b 3 rfl).lt; have lBde262 := Bd.lt; replace Bd := Bd.drew.step hB; have lBne262 := Bn.lt; replace Bn := Bn.drew.step hB; have lBxe262 := Bx.lt; replace Bx := Bx.drew.step hB; replace Md := Md.drew.below hB; replace Mn := Mn.drew.below hB; replace Mx := Mx.drew.below hB; (try (replace G0 := G0.drew.step hB; obtain ⟨j0c, j0f, j1c, j1f⟩ := G0.cf2; have jlt := G0.lt))) | (have T1 : ArgsB w e262 _ := (by with_reducible exact (T0.alloc _).step hB); have tlte262 := (T0.b 3 rfl).lt; have lBde262 := Bd.lt; replace Bd := (Bd.alloc _).step hB; have lBne262 := Bn.lt; replace Bn := (Bn.alloc _).step hB; have lBxe262 := Bx.lt; replace Bx := (Bx.alloc _).step hB; replace Md := (Md.alloc _).below hB; replace Mn := (Mn.alloc _).below hB; replace Mx := (Mx.alloc _).below hB; (have G0 := (Blk.new _ [.bool false, .slice none 0 0] _ rfl).step hB; obtain ⟨j0c, j0f, j1c, j1f⟩ := G0.cf2; have jlt := G0.lt)) | (have T1 : ArgsB w e262 _ := (by with_reducible exact (T0.alloc _).drew.step hB); have tlte262 := (T0.b 3 rfl).lt; have lBde262 := Bd.lt; replace Bd := (Bd.alloc _).drew.step hB; have lBne262 := Bn.lt; replace Bn := (Bn.alloc _).drew.step hB; have lBxe262 := Bx.lt; replace Bx := (Bx.alloc _).drew.step hB; replace Md := (Md.alloc _).drew.below hB; replace Mn := (Mn.alloc _).drew.below hB; replace Mx := (Mx.alloc _).drew.below hB; (have G0 := (Blk.new _ [.bool false, .slice none 0 0] _ rfl).drew.step hB; obtain ⟨j0c, j0f, j1c, j1f⟩ := G0.cf2; have jlt := G0.lt))); clear T0; have T0 := T1; clear T1; clear hB tk262 _t; clear Nf)
                  | (go_at_call 51; refine (int_any (d - b) _ (by omega) (by omega)).mono ?_; rintro e e263 ⟨zs, zo, zn, zc, zd, rfl, Nz, hB⟩; (first | (have T1 : ArgsB w e263 _ := (by with_reducible exact T0.step hB); have tlte263 := (T0.b 3 rfl).lt; have lBde263 := Bd.lt; replace Bd := Bd.step hB; have lBne263 := Bn.lt; replace Bn := Bn.step hB; have lBxe263 := Bx.lt; replace Bx := Bx.step hB; replace Md := Md.below hB; replace Mn := Mn.below hB; replace Mx := Mx.below hB; replace Ng := Ng.below hB; (try (replace G0 := G0.step hB; obtain ⟨j0c, j0f, j1c, j1f⟩ := G0.cf2; have jlt := G0.lt))) | (have T1 : ArgsB w e263 _ := (by with_reducible exact T0.drew.step hB); have tlte263 := (T0.b 3 rfl).lt; have lBde263 := Bd.lt; replace Bd := Bd.drew.step hB; have lBne263 := Bn.lt; replace Bn := Bn.drew.step hB; have lBxe263 := Bx.lt; replace Bx := Bx.drew.step hB; replace Md := Md.drew.below hB; replace Mn := Mn.drew.below hB; replace Mx := Mx.drew.below hB; replace Ng := Ng.drew.below hB; (try (replace G0 := G0.drew.step hB; obtain ⟨j0c, j0f, j1c, j1f⟩ := G0.cf2; have jlt := G0.lt))) | (have T1 : ArgsB w e263 _ := (by with_reducible exact (T0.alloc _).step hB); have tlte263 := (T0.b 3 rfl).lt; have lBde263 := Bd.lt; replace Bd := (Bd.alloc _).step hB; have lBne263 := Bn.lt; replace Bn := (Bn.alloc _).step hB; have lBxe263 := Bx.lt; replace Bx := (Bx.alloc _).step hB; replace Md := (Md.alloc _).below hB; replace Mn := (Mn.alloc _).below hB; replace Mx := (Mx.alloc _).below hB; replace Ng := (Ng.alloc _).below hB; (have G0 := (Blk.new _ [.bool false, .slice none 0 0] _ rfl).step hB; obtain ⟨j0c, j0f, j1c, j1f⟩ := G0.cf2; have jlt := G0.lt)) | (have T1 : ArgsB w e263 _ := (by with_reducible exact (T0.alloc _).drew.step hB); have tlte263 := (T0.b 3 rfl).lt; have lBde263 := Bd.lt; replace Bd := (Bd.alloc _).drew.step hB; have lBne263 := Bn.lt; replace Bn := (Bn.alloc _).drew.step hB; have lBxe263 := Bx.lt; replace Bx := (Bx.alloc _).drew.step hB; replace Md := (Md.alloc _).drew.below hB; replace Mn := (Mn.alloc _).drew.below hB; replace Mx := (Mx.alloc _).drew.below hB; replace Ng := (Ng.alloc _).drew.below hB; (have G0 := (Blk.new _ [.bool false, .slice none 0 0] _ rfl).drew.step hB; obtain ⟨j0c, j0f, j1c, j1f⟩ := G0.cf2; have jlt := G0.lt))); clear T0; have T0 := T1; clear T1; clear hB)
                  | (go_at_call 53; refine (mul_any zs ns zo no zn nn zc nc (2) zd nd _ _ _ (by first | (with_reducible exact Nz) | (with_reducible exact Nz.drew) | (with_reducible exact Nz.alloc _) | (with_reducible exact (Nz.alloc _).drew)) (by first | (with_reducible exact Mn) | (with_reducible exact Mn.drew) | (with_reducible exact Mn.alloc _) | (with_reducible exact (Mn.alloc _).drew)) (by omega)).mono ?_; rintro e e264 ⟨ls, lo, ln, lc, ld, rfl, Nl, hB⟩; (first | (have T1 : ArgsB w e264 _ := (by with_reducible exact T0.step hB); have tlte264 := (T0.b 3 rfl).lt; have lBde264 := Bd.lt; replace Bd := Bd.step hB; have lBne264 := Bn.lt; replace Bn := Bn.step hB; have lBxe264 := Bx.lt; replace Bx := Bx.step hB; replace Md := Md.below hB; replace Mn := Mn.below hB; replace Mx := Mx.below hB; replace Ng := Ng.below hB; (try (replace G0 := G0.step hB; obtain ⟨j0c, j0f, j1c, j1f⟩ := G0.cf2; have jlt := G0.lt))) | (have T1 : ArgsB w e264 _ := (by with_reducible exact T0.drew.step hB); have tlte264 := (T0.b 3 rfl).lt; have lBde264 := Bd.lt; replace Bd := Bd.drew.step hB; have lBne264 := Bn.lt; replace Bn := Bn.drew.step hB; have lBxe264 := Bx.lt; replace Bx := Bx.drew.step hB; replace Md := Md.drew.below hB; replace Mn := Mn.drew.below hB; replace Mx := Mx.drew.below hB; replace Ng := Ng.drew.below hB; (try (replace G0 := G0.drew.step hB; obtain ⟨j0c, j0f, j1c, j1f⟩ := G0.cf2; have jlt := G0.lt))) | (have T1 : ArgsB w e264 _ := (by with_reducible exact (T0.alloc _).step hB); have tlte264 := (T0.b 3 rfl).lt; have lBde264 := Bd.lt; replace Bd := (Bd.alloc _).step hB; have lBne264 := Bn.lt; replace Bn := (Bn.alloc _).step hB; have lBxe264 := Bx.lt; replace Bx := (Bx.alloc _).step hB; replace Md := (Md.alloc _).below hB; replace Mn := (Mn.alloc _).below hB; replace Mx := (Mx.alloc _).below hB; replace Ng := (Ng.alloc _).below hB; (have G0 := (Blk.new _ [.bool false, .slice none 0 0] _ rfl).step hB; obtain ⟨j0c, j0f, j1c, j1f⟩ := G0.cf2; have jlt := G0.lt)) | (have T1 : ArgsB w e264 _ := (by with_reducible exact (T0.alloc _).drew.step hB); have tlte264 := (T0.b 3 rfl).lt; have lBde264 := Bd.lt; replace Bd := (Bd.alloc _).drew.step hB; have lBne264 := Bn.lt; replace Bn := (Bn.alloc _).drew.step hB; have lBxe264 := Bx.lt; replace Bx := (Bx.alloc _).drew.step hB; replace Md := (Md.alloc _).drew.below hB; replace Mn := (Mn.alloc _).drew.below hB; replace Mx := (Mx.alloc _).drew.below hB; replace Ng := (Ng.alloc _).drew.below hB; (have G0 := (Blk.new _ [.bool false, .slice none 0 0] _ rfl).drew.step hB; obtain ⟨j0c, j0f, j1c, j1f⟩ := G0.cf2; have jlt := G0.lt))); clear T0; have T0 := T1; clear T1; clear hB; clear Nz)
                  | (go_at_call 52; refine (add_any gs ls go lo gn ln gc lc (2 + 2) gd ld _ _ _ (by first | (with_reducible exact Ng) | (with_reducible exact Ng.drew) | (with_reducible exact Ng.alloc _) | (with_reducible exact (Ng.alloc _).drew)) (by first | (with_reducible exact Nl) | (with_reducible exact Nl.drew) | (with_reducible exact Nl.alloc _) | (with_reducible exact (Nl.alloc _).drew)) (by omega)).mono ?_; rintro e e265 ⟨ms, mo, mn, mc, md, rfl, Nm, hB⟩; (first | (have T1 : ArgsB w e265 _ := (by with_reducible exact T0.step hB); have tlte265 := (T0.b 3 rfl).lt; have lBde265 := Bd.lt; replace Bd := Bd.step hB; have lBne265 := Bn.lt; replace Bn := Bn.step hB; have lBxe265 := Bx.lt; replace Bx := Bx.step hB; replace Md := Md.below hB; replace Mn := Mn.below hB; replace Mx := Mx.below hB; (try (replace G0 := G0.step hB; obtain ⟨j0c, j0f, j1c, j1f⟩ := G0.cf2; have jlt := G0.lt))) | (have T1 : ArgsB w e265 _ := (by with_reducible exact T0.drew.step hB); have tlte265 := (T0.b 3 rfl).lt; have lBde265 := Bd.lt; replace Bd := Bd.drew.step hB; have lBne265 := Bn.lt; replace Bn := Bn.drew.step hB; have lBxe265 := Bx.lt; replace Bx := Bx.drew.step hB; replace Md := Md.drew.below hB; replace Mn := Mn.drew.below hB; replace Mx := Mx.drew.below hB; (try (replace G0 := G0.drew.step hB; obtain ⟨j0c, j0f, j1c, j1f⟩ := G0.cf2; have jlt := G0.lt))) | (have T1 : ArgsB w e265 _ := (by with_reducible exact (T0.alloc _).step hB); have tlte265 := (T0.b 3 rfl).lt; have lBde265 := Bd.lt; replace Bd := (Bd.alloc _).step hB; have lBne265 := Bn.lt; replace Bn := (Bn.alloc _).step hB; have lBxe265 := Bx.lt; replace Bx := (Bx.alloc _).step hB; replace Md := (Md.alloc _).below hB; replace Mn := (Mn.alloc _).below hB; replace Mx := (Mx.alloc _).below hB; (have G0 := (Blk.new _ [.bool false, .slice none 0 0] _ rfl).step hB; obtain ⟨j0c, j0f, j1c, j1f⟩ := G0.cf2; have jlt := G0.lt)) | (have T1 : ArgsB w e265 _ := (by with_reducible exact (T0.alloc _).drew.step hB); have tlte265 := (T0.b 3 rfl).lt; have lBde265 := Bd.lt; replace Bd := (Bd.alloc _).drew.step hB; have lBne265 := Bn.lt; replace Bn := (Bn.alloc _).drew.step hB; have lBxe265 := Bx.lt; replace Bx := (Bx.alloc _).drew.step hB; replace Md := (Md.alloc _).drew.below hB; replace Mn := (Mn.alloc _).drew.below hB; replace Mx := (Mx.alloc _).drew.below hB; (have G0 := (Blk.new _ [.bool false, .slice none 0 0] _ rfl).drew.step hB; obtain ⟨j0c, j0f, j1c, j1f⟩ := G0.cf2; have jlt := G0.lt))); clear T0; have T0 := T1; clear T1; clear hB; clear Ng Nl))
              all_goals go_wp2_with fail
              all_goals go_meet
              all_goals have hl := (T0.b 3 rfl).lt
              all_goals have hld := Bd.lt
              all_goals have hln := Bn.lt
              all_goals have hlx := Bx.lt
              all_goals first | (with_reducible exact ⟨cutN_new T0 Nm (by omega), Bd.alloc _, Bn.alloc _, Bx.alloc _, Md.alloc _, Mn.alloc _, Mx.alloc _⟩) | (with_reducible exact ⟨cutN_set T0 Nm G0 (by omega) (by simp; omega), Bd.set2 (by omega), Bn.set2 (by omega), Bx.set2 (by omega), Md.set2 G0 _ _, Mn.set2 G0 _ _, Mx.set2 G0 _ _⟩)
          case rest =>
            clear T0 h0 tk261 tk262 Bd Bn Md Mn Bx Mx
            obtain ⟨⟨gy, ys, yo, yn, yc, yd, hp', hgy, By, My, T0⟩, Bd, Bn, Bx, Md, Mn, Mx⟩ := hcut
            subst hp'
            have LM := fun w N1 N2 N3 => l3Make_any xs xo xn xc xd ys yo yn yc yd ds do1 dn dc dd (a * (pa - pb) + (c - a) * (pc - pd)) (b * (pa - pb) + (d - b) * (pc - pd)) (pa - pb) 5 (by omega) (by omega) w N1 N2 N3 hW0
            have sx := share_abs (n := (a * (pa - pb) + (c - a) * (pc - pd))) (g := (Int.gcd (Int.gcd (a * (pa - pb) + (c - a) * (pc - pd)) (b * (pa - pb) + (d - b) * (pc - pd)) : Int) (pa - pb) : Int)) (b := decide ((pa - pb) < 0)) (by have := Int.gcd_pos_of_ne_zero_right (Int.gcd (a * (pa - pb) + (c - a) * (pc - pd)) (b * (pa - pb) + (d - b) * (pc - pd)) : Int) hW0; omega)
            have sy := share_abs (n := (b * (pa - pb) + (d - b) * (pc - pd))) (g := (Int.gcd (Int.gcd (a * (pa - pb) + (c - a) * (pc - pd)) (b * (pa - pb) + (d - b) * (pc - pd)) : Int) (pa - pb) : Int)) (b := decide ((pa - pb) < 0)) (by have := Int.gcd_pos_of_ne_zero_right (Int.gcd (a * (pa - pb) + (c - a) * (pc - pd)) (b * (pa - pb) + (d - b) * (pc - pd)) : Int) hW0; omega)
            have sz := share_abs (n := (pa - pb)) (g := (Int.gcd (Int.gcd (a * (pa - pb) + (c - a) * (pc - pd)) (b * (pa - pb) + (d - b) * (pc - pd)) : Int) (pa - pb) : Int)) (b := decide ((pa - pb) < 0)) (by have := Int.gcd_pos_of_ne_zero_right (Int.gcd (a * (pa - pb) + (c - a) * (pc - pd)) (b * (pa - pb) + (d - b) * (pc - pd)) : Int) hW0; omega)
            have k1' : small (shareZ (a * (pa - pb) + (c - a) * (pc - pd)) (Int.gcd (Int.gcd (a * (pa - pb) + (c - a) * (pc - pd)) (b * (pa - pb) + (d - b) * (pc - pd)) : Int) (pa - pb) : Int) (decide ((pa - pb) < 0))) = true := small_int (by omega) (by omega)
            have k2' : small (shareZ (b * (pa - pb) + (d - b) * (pc - pd)) (Int.gcd (Int.gcd (a * (pa - pb) + (c - a) * (pc - pd)) (b * (pa - pb) + (d - b) * (pc - pd)) : Int) (pa - pb) : Int) (decide ((pa - pb) < 0))) = true := small_int (by omega) (by omega)
            have k3' : small (shareZ (pa - pb) (Int.gcd (Int.gcd (a * (pa - pb) + (c - a) * (pc - pd)) (b * (pa - pb) + (d - b) * (pc - pd)) : Int) (pa - pb) : Int) (decide ((pa - pb) < 0))) = true := small_int (by omega) (by omega)
            clear sx sy sz
            generalize (shareZ (a * (pa - pb) + (c - a) * (pc - pd)) (Int.gcd (Int.gcd (a * (pa - pb) + (c - a) * (pc - pd)) (b * (pa - pb) + (d - b) * (pc - pd)) : Int) (pa - pb) : Int) (decide ((pa - pb) < 0))) = rx at *
            generalize (shareZ (b * (pa - pb) + (d - b) * (pc - pd)) (Int.gcd (Int.gcd (a * (pa - pb) + (c - a) * (pc - pd)) (b * (pa - pb) + (d - b) * (pc - pd)) : Int) (pa - pb) : Int) (decide ((pa - pb) < 0))) = ry at *
            generalize (shareZ (pa - pb) (Int.gcd (Int.gcd (a * (pa - pb) + (c - a) * (pc - pd)) (b * (pa - pb) + (d - b) * (pc - pd)) : Int) (pa - pb) : Int) (decide ((pa - pb) < 0))) = rz at *
            have xc0' := Bx.c 0 rfl; have xc1' := Bx.c 1 rfl; have yc0' := By.c 0 rfl; have yc1' := By.c 1 rfl; have dc0' := Bd.c 0 rfl; have dc1' := Bd.c 1 rfl
            go_wp2_with fail
            refine (LM _ Mx My (num_more Md (by omega))).mono ?_
            rintro e k9 ⟨js1, jo1, jn1, jc1, jd1, js2, jo2, jn2, jc2, jd2, js3, jo3, jn3, jc3, jd3, rfl, Nj1, Nj2, Nj3, hB⟩
            replace T0 := T0.step hB
            clear hB LM xc0' xc1' yc0' yc1' dc0' dc1' Bx By Bd Bn Mx My Md Mn
            have BS : Blk _ w.heap.size _ := T0.b 0 rfl; have BT : Blk _ (w.heap.size + 1) _ := T0.b 1 rfl; have BP : Blk _ (w.heap.size + 1 + 1) _ := T0.b 2 rfl; have BQ : Blk _ (w.heap.size + 1 + 1 + 1) _ := T0.b 3 rfl; have HB := T0.below
            clear T0
            clear BS BT
            obtain ⟨xc0, xf0, xc1, xf1, xc2, xf2, xc3, xf3, xc4, xf4, xc5, xf5⟩ := BP.cf6; have xl := BP.lt; obtain ⟨yc0, yf0, yc1, yf1, yc2, yf2, yc3, yf3, yc4, yf4, yc5, yf5⟩ := BQ.cf6; have yl := BQ.lt
            have BQ6 := BQ.set6 (g := (w.heap.size + 1 + 1)) (v0 := .bool js1) (v1 := .slice jo1 jn1 jc1) (v2 := .bool js2) (v3 := .slice jo2 jn2 jc2) (v4 := .bool js3) (v5 := .slice jo3 jn3 jc3) (by omega)
            go_wp2
            refine bodyPost_ret (v := .tuple #[.int .i64 1, .agg #[.bool js1, .slice jo1 jn1 jc1, .bool js2, .slice jo2 jn2 jc2, .bool js3, .slice jo3 jn3 jc3], .agg #[.bool false, .slice none 0 0, .bool false, .slice none 0 0, .bool false, .slice none 0 0]]) (by simp [results, Try.results28, go_sem, xc0, yc0, xc1, yc1, xc2, yc2, xc3, yc3, xc4, yc4, xc5, yc5]) rfl ?_
            refine ⟨?_, Or.inr (Or.inl ⟨rx, ry, rz, _, HO.out, k1', k2', k3', rfl, js1, jo1, jn1, jc1, jd1, js2, jo2, jn2, jc2, jd2, js3, jo3, jn3, jc3, jd3, rfl, ?_, ?_, ?_⟩)⟩
            · repeat' (refine Below.setCell ?_ (by simp; try omega) _)
              exact HB
            · exact num_set6 (num_set6 Nj1 BP (.bool js1) (.slice jo1 jn1 jc1) (.bool js2) (.slice jo2 jn2 jc2) (.bool js3) (.slice jo3 jn3 jc3)) BQ6 (.bool false) (.slice none 0 0) (.bool false) (.slice none 0 0) (.bool false) (.slice none 0 0)
            · exact num_set6 (num_set6 Nj2 BP (.bool js1) (.slice jo1 jn1 jc1) (.bool js2) (.slice jo2 jn2 jc2) (.bool js3) (.slice jo3 jn3 jc3)) BQ6 (.bool false) (.slice none 0 0) (.bool false) (.slice none 0 0) (.bool false) (.slice none 0 0)
            · exact num_set6 (num_set6 Nj3 BP (.bool js1) (.slice jo1 jn1 jc1) (.bool js2) (.slice jo2 jn2 jc2) (.bool js3) (.slice jo3 jn3 jc3)) BQ6 (.bool false) (.slice none 0 0) (.bool false) (.slice none 0 0) (.bool false) (.slice none 0 0)
end Go.Proofs.Ytpmnmlhfaoajdaa

/- Where two segments meet: the model's walk. -/
namespace Go.Proofs.Ytpmnmlhfaoajdaa
open Go.RowKit
theorem l4Meet_any (a b c d p q u v : Int) (ha : In1 a) (hb : In1 b) (hc : In1 c) (hd : In1 d) (hp : In1 p) (hq : In1 q) (hu : In1 u) (hv : In1 v) (w : World) : Calls Try.prog 28 #[Sg a b c d, Sg p q u v] w (MtP a b c d p q u v w) := by
  by_cases h : turnZ a b c d p q = 0 ∧ turnZ a b c d u v = 0
  · exact l4Meet_along a b c d p q u v ha hb hc hd hp hq hu hv h w
  · exact l4Meet_cross a b c d p q u v ha hb hc hd hp hq hu hv h w
end Go.Proofs.Ytpmnmlhfaoajdaa

/- What is at fault in a ring: the model's walk. -/
namespace Go.Proofs.Ytpmnmlhfaoajdaa
open Go.RowKit
end Go.Proofs.Ytpmnmlhfaoajdaa

/- A region that draws its order, by a condition that every operation keeps, whichever comes up: no order is walked. -/
namespace Go.Proofs.Ytpmnmlhfaoajdaa
variable {P : Program} {ops : Array Oper} {Q : Exit → Act → World → Prop} {md : Region.Mode}
def open_ (l : Array Bool) : Nat := l.toList.countP (fun b => !b)
theorem open_set {l : Array Bool} {i : Nat} (h : l.getD i true = false) : open_ (l.setIfInBounds i true) + 1 = open_ l := by
  obtain ⟨xs⟩ := l
  have hi : i < xs.length := by
    rcases Nat.lt_or_ge i xs.length with h' | h'
    · exact h'
    · simp [Array.getD, Nat.not_lt.2 h'] at h
  have hv : xs[i] = false := by simpa [Array.getD, hi] using h
  have hp : 0 < xs.countP (fun b => !b) := List.countP_pos_iff.2 ⟨xs[i], List.getElem_mem hi, by simp [hv]⟩
  simp only [open_, List.setIfInBounds_toArray, List.countP_set hi, hv]
  simp
  omega
theorem wpAny_inv (J : Array Bool → Act → World → Prop) (hs : ∀ l a w i o, J l a w → l.getD i true = false → ops[i]? = some o → (∀ e ∈ o.after, Region.binds md e = true → l.getD e.on false = true) → wpOp P ops Q i (J (l.setIfInBounds i true)) a w)
    (hd : ∀ l a w, J l a w → Region.ready md ops l = [] → Q .normal a w) : ∀ (fuel : Nat) (l : Array Bool) (a : Act) (w : World), open_ l ≤ fuel → J l a w → wpAny P md ops Q fuel l a w := by
  intro fuel
  induction fuel with
  | zero =>
    intro l a w hf hJ
    have hr : Region.ready md ops l = [] := by
      rw [List.eq_nil_iff_forall_not_mem]
      intro i hi
      have := open_set (mem_ready.1 hi).1
      omega
    exact ⟨hr, hd l a w hJ hr⟩
  | succ fuel ih =>
    intro l a w hf hJ
    refine ⟨fun hr => hd l a w hJ hr, fun i hi => ?_⟩
    obtain ⟨h0, o, ho, hall⟩ := mem_ready.1 hi
    exact wpOp_mono (fun a' w' h' => ih _ a' w' (by have := open_set h0; omega) h') (hs l a w i o hJ h0 ho hall)
theorem wp_region_inv {id : Nat} {a : Act} {w : World} (hm : P.follows .mixedOrders = true) (J : Array Bool → Act → World → Prop)
    (h0 : J (Array.replicate ops.size false) a { w with drawn := w.drawn + 1 })
    (hs : ∀ l a w i o, J l a w → l.getD i true = false → ops[i]? = some o → (∀ e ∈ o.after, Region.binds .any e = true → l.getD e.on false = true) → wpOp P ops Q i (J (l.setIfInBounds i true)) a w)
    (hd : ∀ l a w, J l a w → Region.ready .any ops l = [] → Q .normal a w) : (Code.region id ops true).wp P Q a w :=
  wp_region_any hm (wpAny_inv J hs hd _ _ _ _ (by
    unfold open_
    refine Nat.le_trans List.countP_le_length ?_
    simp) h0)
/-- The operations of a list, each of which waits for none but those ahead of it. -/
def waits (md : Region.Mode) (ops : Array Oper) : List Nat → List Nat → Bool
  | _, [] => true
  | acc, i :: r => ((ops[i]?).map (fun o => o.after.all (fun e => !Region.binds md e || acc.contains e.on))).getD false && waits md ops (i :: acc) r
/-- Where none is ready, all of such a list have come up. -/
theorem listed_of {l : Array Bool} (hr : Region.ready md ops l = []) : ∀ (r acc : List Nat), (∀ k ∈ acc, l.getD k false = true) → waits md ops acc r = true → (∀ k ∈ r, k < l.size) → ∀ k ∈ r, l.getD k false = true
  | [], _, _, _, _ => fun k hk => by simp at hk
  | i :: r, acc, ha, hw, hz => by
    simp only [waits, Bool.and_eq_true] at hw
    obtain ⟨hw1, hw2⟩ := hw
    have hi : l.getD i false = true := by
      cases ho : ops[i]? with
      | none => rw [ho] at hw1; simp at hw1
      | some o =>
        rw [ho] at hw1
        have hall : ∀ e ∈ o.after, Region.binds md e = true → l.getD e.on false = true := fun e he hb => by
          have h2 : o.after.all (fun e => !Region.binds md e || acc.contains e.on) = true := by simpa using hw1
          rw [Array.all_eq_true'] at h2
          have h3 := h2 e he
          rw [hb] at h3
          exact ha _ (by simpa using h3)
        have hz' := hz i (by simp)
        by_cases hc : l.getD i true = false
        · have : i ∈ Region.ready md ops l := mem_ready.2 ⟨hc, o, ho, hall⟩
          rw [hr] at this
          simp at this
        · simpa [Array.getD, hz'] using hc
    intro k hk
    rcases List.mem_cons.1 hk with rfl | hk
    · exact hi
    · exact listed_of hr r (i :: acc) (fun k hk => by
        rcases List.mem_cons.1 hk with rfl | hk
        · exact hi
        · exact ha k hk) hw2 (fun k hk => hz k (by simp [hk])) k hk
/-- One operation that is not guarded: what it does when it is carried out. -/
theorem wpOp_of {i : Nat} {o : Oper} {a : Act} {w : World} {K : Act → World → Prop} (ho : ops[i]? = some o) (hg : o.guard = none) (h : o.wp P a w K Q) : wpOp P ops Q i K a w := by
  unfold wpOp
  simp only [ho]
  have hw : Region.wanted o (yielded ops a.tmps) = true := by unfold Region.wanted; rw [hg]
  rw [if_pos hw]
  exact .inl h
/-- A frame that differs from another one at the told slots alone is that one with these slots put. -/
theorem tmps_fold : ∀ (D : List Nat) (t s : Array Value), t.size = s.size → (∀ d, d ∉ D → t[d]? = s[d]?) → t = D.foldl (fun u d => u.setIfInBounds d (t.getD d undef)) s
  | [], t, s, _, h => Array.ext_getElem? (fun d => h d (by simp))
  | d :: D, t, s, hz, h => by
    rw [List.foldl_cons]
    refine tmps_fold D t _ (by simpa using hz) (fun e he => ?_)
    by_cases hed : e = d
    · subst hed
      rcases Nat.lt_or_ge e t.size with h' | h'
      · simp [Array.getD, h', ← hz]
      · simp [← hz, h']
    · rw [Array.getElem?_setIfInBounds_ne (fun hh => hed hh.symm)]
      exact h e (by simp [hed, he])
theorem put_getD_ne {a : Act} {d e : Nat} {v : Value} (h : d ≠ e) : (a.put (some d) v).tmps.getD e undef = a.tmps.getD e undef := by
  simp [Act.put, Array.getD_eq_getD_getElem?, Array.getElem?_setIfInBounds_ne h]
theorem put_getD_same {a : Act} {d : Nat} {v : Value} (h : d < a.tmps.size) : (a.put (some d) v).tmps.getD d undef = v := by
  simp [Act.put, Array.getD_eq_getD_getElem?, h]
end Go.Proofs.Ytpmnmlhfaoajdaa

/- The region of spec.RingFault that asks how two sides meet: by what every operation keeps, in no order. -/
namespace Go.Proofs.Ytpmnmlhfaoajdaa
open Go.RowKit
def Six (W : World) (g : Nat) : Prop := ∃ v0 v1 v2 v3 v4 v5 : Value, Blk W g [v0, v1, v2, v3, v4, v5]
theorem Six.step {W W' : World} {g : Nat} (h : Six W g) (hB : Below W.heap.size W W') : Six W' g := by
  obtain ⟨v0, v1, v2, v3, v4, v5, h⟩ := h
  exact ⟨_, _, _, _, _, _, h.step hB⟩
theorem Six.set {W : World} {g g' : Nat} (h : Six W g) (j : Nat) (hj : j < 6) (u : Value) : Six (W.setCell ⟨g', j, none⟩ u) g := by
  obtain ⟨v0, v1, v2, v3, v4, v5, h⟩ := h
  by_cases hg : g = g'
  · subst hg
    have := h.setI j hj u
    rcases (show j = 0 ∨ j = 1 ∨ j = 2 ∨ j = 3 ∨ j = 4 ∨ j = 5 by omega) with rfl | rfl | rfl | rfl | rfl | rfl <;> exact ⟨_, _, _, _, _, _, this⟩
  · exact ⟨_, _, _, _, _, _, h.setO hg u⟩
def Lp6 (v : Value) : Prop := ∃ (f1 f2 f3 : Bool) (k1 k2 k3 : Option Addr) (m1 m2 m3 x1 x2 x3 : Nat), v = .agg #[.bool f1, .slice k1 m1 x1, .bool f2, .slice k2 m2 x2, .bool f3, .slice k3 m3 x3]
def slotOf : Nat → Nat
  | 0 => 64
  | 1 => 65
  | 2 => 66
  | 3 => 67
  | 4 => 68
  | 5 => 69
  | 6 => 70
  | 7 => 63
  | 8 => 71
  | 9 => 72
  | 10 => 73
  | 11 => 10
  | 12 => 11
  | 13 => 9
  | i + 14 => i + 200
def ValOf (ao : Option Addr) (n cap : Nat) (p : Ps) (c d B : Nat) : Nat → Value → World → Prop
  | 0, v, _ | 3, v, _ => v = .agg #[.slice ao n cap]
  | 1, v, _ => v = .int .i64 c
  | 4, v, _ => v = .int .i64 d
  | 2, v, _ => v = Sg (sdA n p c).1 (sdA n p c).2.1 (sdA n p c).2.2.1 (sdA n p c).2.2.2
  | 5, v, _ => v = Sg (sdA n p d).1 (sdA n p d).2.1 (sdA n p d).2.2.1 (sdA n p d).2.2.2
  | 6, v, _ | 7, v, _ => ∃ x y, Lp6 x ∧ Lp6 y ∧ v = .tuple #[.int .i64 (kdA n p c d), x, y]
  | 8, v, _ | 13, v, _ => v = .int .i64 (kdA n p c d)
  | 9, v, _ | 10, v, _ => Lp6 v
  | 11, v, W | 12, v, W => ∃ g, v = .pointer (some ⟨g, 0, none⟩) ∧ B ≤ g ∧ Six W g
  | _, _, _ => True
theorem ValOf.mono {ao : Option Addr} {n cap : Nat} {p : Ps} {c d B j : Nat} {v : Value} {W W' : World} (hS : ∀ g, Six W g → Six W' g) (h : ValOf ao n cap p c d B j v W) : ValOf ao n cap p c d B j v W' := by
  unfold ValOf at *
  split <;> simp only at h <;> first | exact h | (obtain ⟨g, h1, h2, h3⟩ := h; exact ⟨g, h1, h2, hS g h3⟩) | trivial
def InvJ (ao : Option Addr) (n cap : Nat) (p : Ps) (c d : Nat) (w0 : World) (a0 : Act) (l : Array Bool) (a : Act) (W : World) : Prop :=
  l.size = 16 ∧ a.tmps.size = a0.tmps.size ∧ a.defers = a0.defers ∧ (∀ e, e ∉ [64, 65, 66, 67, 68, 69, 70, 63, 71, 72, 73, 10, 11, 9] → a.tmps[e]? = a0.tmps[e]?) ∧ Below w0.heap.size w0 W ∧
    ∀ j, l.getD j false = true → ValOf ao n cap p c d w0.heap.size j (a.tmps.getD (slotOf j) undef) W
theorem slotOf_inj {i j : Nat} (hi : i < 14) (hne : j ≠ i) : slotOf i ≠ slotOf j := by
  rcases (show j < 14 ∨ 14 ≤ j by omega) with hj | hj
  · have H : ∀ i : Fin 14, ∀ j : Fin 14, j ≠ i → slotOf i ≠ slotOf j := by decide
    exact H ⟨i, hi⟩ ⟨j, hj⟩ (fun h => hne (by simpa using h))
  · obtain ⟨k, rfl⟩ := Nat.exists_eq_add_of_le' hj
    have H : ∀ i : Fin 14, slotOf i < 200 := by decide
    have := H ⟨i, hi⟩
    show slotOf i ≠ k + 200
    simp only at this
    omega
theorem getD_set_of {l : Array Bool} {i j : Nat} (h : (l.setIfInBounds i true).getD j false = true) (hne : j ≠ i) : l.getD j false = true := by
  rw [getD_set_ne false (Ne.symm hne)] at h
  exact h
theorem InvJ.put {ao : Option Addr} {n cap : Nat} {p : Ps} {c d : Nat} {w0 : World} {a0 : Act} {l : Array Bool} {a : Act} {W W' : World} (h : InvJ ao n cap p c d w0 a0 l a W) (i : Nat) (hi : i < 14) (h101 : a0.tmps.size = 101)
    (hW : Below w0.heap.size w0 W') (hS : ∀ g, Six W g → Six W' g) (v : Value) (hv : ValOf ao n cap p c d w0.heap.size i v W') : InvJ ao n cap p c d w0 a0 (l.setIfInBounds i true) (a.put (some (slotOf i)) v) W' := by
  obtain ⟨h1, h2, h3, h4, h5, h6⟩ := h
  have H : ∀ i : Fin 14, slotOf i < 101 ∧ slotOf i ∈ [64, 65, 66, 67, 68, 69, 70, 63, 71, 72, 73, 10, 11, 9] := by decide
  obtain ⟨hs, hm⟩ := H ⟨i, hi⟩
  simp only at hs hm
  refine ⟨by simpa using h1, by simpa [Act.put] using h2, h3, fun e he => ?_, hW, fun j hj => ?_⟩
  · have hne : slotOf i ≠ e := fun hh => he (hh ▸ hm)
    simp only [Act.put]
    rw [Array.getElem?_setIfInBounds_ne hne]
    exact h4 e he
  · by_cases hji : j = i
    · subst hji
      rw [put_getD_same (by omega)]
      exact hv
    · rw [put_getD_ne (slotOf_inj hi hji)]
      exact (h6 j (getD_set_of hj hji)).mono hS
theorem InvJ.world {ao : Option Addr} {n cap : Nat} {p : Ps} {c d : Nat} {w0 : World} {a0 : Act} {l : Array Bool} {a : Act} {W W' : World} (h : InvJ ao n cap p c d w0 a0 l a W) (i : Nat) (hi : 14 ≤ i)
    (hW : Below w0.heap.size w0 W') (hS : ∀ g, Six W g → Six W' g) : InvJ ao n cap p c d w0 a0 (l.setIfInBounds i true) a W' := by
  obtain ⟨h1, h2, h3, h4, h5, h6⟩ := h
  refine ⟨by simpa using h1, h2, h3, h4, hW, fun j hj => ?_⟩
  by_cases hji : j = i
  · subst hji
    obtain ⟨k, rfl⟩ := Nat.exists_eq_add_of_le' hi
    exact trivial
  · exact (h6 j (getD_set_of hj hji)).mono hS
theorem below_set6 {B g : Nat} {w W : World} {v0 v1 v2 v3 v4 v5 : Value} (h : Below B w W) (hg : B ≤ g) : Below B w ((((((W.setCell ⟨g, 0, none⟩ v0).setCell ⟨g, 1, none⟩ v1).setCell ⟨g, 2, none⟩ v2).setCell ⟨g, 3, none⟩ v3).setCell ⟨g, 4, none⟩ v4).setCell ⟨g, 5, none⟩ v5) :=
  (((((h.setCell (p := ⟨g, 0, none⟩) hg _).setCell (p := ⟨g, 1, none⟩) hg _).setCell (p := ⟨g, 2, none⟩) hg _).setCell (p := ⟨g, 3, none⟩) hg _).setCell (p := ⟨g, 4, none⟩) hg _).setCell (p := ⟨g, 5, none⟩) hg _
end Go.Proofs.Ytpmnmlhfaoajdaa

/- What is at fault in a ring: the model's walk. -/
namespace Go.Proofs.Ytpmnmlhfaoajdaa
open Go.RowKit
end Go.Proofs.Ytpmnmlhfaoajdaa

/- Rings that are turned: the program's small walks. -/
namespace Go.Proofs.Ytpmnmlhfaoajdaa
open Go.RowKit
/-- The cells of n spots, one behind the other. -/
def spL (n : Nat) (p : Ps) : List Value := (List.range (n * 2)).map fun (i : Nat) => Value.int .i64 (spW p i)
theorem spL_at {n : Nat} {p : Ps} {i : Nat} (h : i < n * 2) : (spL n p)[i]? = some (.int .i64 (spW p i)) := by simp [spL, h]
/-- A slice of the call's own, with these spots. -/
def SpOwn (w : World) (base : Nat) (v : Value) (n : Nat) (p : Ps) : Prop :=
  (v = .slice none 0 0 ∧ n = 0) ∨ ∃ g cap f, v = .slice (some ⟨g, 0, none⟩) n cap ∧ base ≤ g ∧ n ≤ cap ∧ cap ≤ maxLen ∧ w.rowIs g 62 (cap * 2) f ∧ ∀ i, i < n * 2 → f i = .int .i64 (spW p i)
theorem SpOwn.of {w : World} {base : Nat} {v : Value} {n : Nat} {p : Ps} (h : w.ownsRow base 62 2 v n (spL n p)) : SpOwn w base v n p := by
  rcases h.2 with ⟨h1, h2⟩ | ⟨g, cap, cur, h1, h2, h3, h4, h5, h6, h7⟩
  · exact .inl ⟨h1, h2⟩
  · refine .inr ⟨g, cap, fun i => cur.getD i undef, h1, h2, h4, h5, ⟨cur, h3, by omega, fun i hi => ?_⟩, fun i hi => ?_⟩
    · simp [Array.getD_eq_getD_getElem?, show i < cur.size by omega]
    · have e : (cur.toList.take (n * 2))[i]? = (spL n p)[i]? := by rw [h7]
      rw [List.getElem?_take_of_lt hi, spL_at hi] at e
      simp only [Array.getElem?_toList] at e
      show cur.getD i undef = _
      rw [Array.getD_eq_getD_getElem?, e]
      rfl
end Go.Proofs.Ytpmnmlhfaoajdaa

/- Rings that are turned: the program's reversal. -/
namespace Go.Proofs.Ytpmnmlhfaoajdaa
open Go.RowKit
theorem OtherB.drew {h : Option Nat} {w w' : World} (k : OtherB h w w') : OtherB h w w'.drew := ⟨k.1, k.2.1, fun w0 hb H => (k.2.2 w0 hb H).drew⟩
end Go.Proofs.Ytpmnmlhfaoajdaa

/- Rings that are turned: both sides' answers. -/
namespace Go.Proofs.Ytpmnmlhfaoajdaa
open Go.RowKit
theorem SpOwn.mono {w : World} {b b' : Nat} {v : Value} {n : Nat} {p : Ps} (h : SpOwn w b' v n p) (hb : b ≤ b') : SpOwn w b v n p := by
  rcases h with h | ⟨g, cap, f, h1, h2, h3⟩
  · exact .inl h
  · exact .inr ⟨g, cap, f, h1, by omega, h3⟩
end Go.Proofs.Ytpmnmlhfaoajdaa

/- Rings of their own memory: held against one another, marked, held again. -/
namespace Go.Proofs.Ytpmnmlhfaoajdaa
open Go.RowKit
theorem SpOwn.step {w w' : World} {base : Nat} {v : Value} {n : Nat} {p : Ps} (h : SpOwn w base v n p) (hB : Below w.heap.size w w') : SpOwn w' base v n p := by
  rcases h with h | ⟨g, cap, f, h1, h2, h3, h4, h5, h6⟩
  · exact .inl h
  · exact .inr ⟨g, cap, f, h1, h2, h3, h4, rows_step h5 hB, h6⟩
theorem SpOwn.in {w : World} {base : Nat} {v : Value} {n : Nat} {p : Ps} (h : SpOwn w base v n p) : ∃ ao cap, v = .slice ao n cap ∧ SpIn w ao n p := by
  rcases h with ⟨h1, rfl⟩ | ⟨g, cap, f, h1, h2, h3, h4, h5, h6⟩
  · exact ⟨none, 0, h1, fun i hi => by omega⟩
  · have R : w.rowIs g 62 (cap * 2) f := h5
    refine ⟨some ⟨g, 0, none⟩, cap, h1, fun i hi => ⟨g, 0, rfl, R.lt, ?_, ?_⟩⟩
    · rw [Nat.zero_add, R.cell (by omega), h6 _ (by omega), spW0]
    · rw [Nat.zero_add, R.cell (by omega), h6 _ (by omega), spW1]
theorem SpOwn.lt {w : World} {base : Nat} {v : Value} {n : Nat} {p : Ps} (h : SpOwn w base v n p) {g : Nat} (hg : v.ownBlock = some g) : base ≤ g ∧ g < w.heap.size := by
  rcases h with ⟨h1, _⟩ | ⟨g', cap, f, h1, h2, h3, h4, h5, h6⟩
  · subst h1; cases hg
  · subst h1; cases hg; exact ⟨h2, h5.lt⟩
theorem SpOwn.row {w : World} {base g n : Nat} {p : Ps} (R : w.rowIs g 62 (n * 2) (fun i => .int .i64 (spW p i))) (hb : base ≤ g) (hn : n ≤ 1048576) : SpOwn w base (.slice (some ⟨g, 0, none⟩) n n) n p :=
  .inr ⟨g, n, _, rfl, hb, Nat.le_refl _, by unfold maxLen; omega, R, fun _ _ => rfl⟩
theorem OtherB.trans {h : Option Nat} {a b c : World} (k : OtherB h a b) (l : OtherB h b c) : OtherB h a c :=
  ⟨fun g hne hg => (l.1 g hne (Nat.lt_of_lt_of_le hg k.2.1)).trans (k.1 g hne hg), Nat.le_trans k.2.1 l.2.1, fun w0 hb H => l.2.2 w0 hb (k.2.2 w0 hb H)⟩
end Go.Proofs.Ytpmnmlhfaoajdaa

/- Rows of pairs of the call's own: compared, marked, looked at. -/
namespace Go.Proofs.Ytpmnmlhfaoajdaa
open Go.RowKit
/-- A slice of the call's own, with these spots. -/
def PrOwn (w : World) (base : Nat) (v : Value) (n : Nat) (p : Ps) : Prop :=
  (v = .slice none 0 0 ∧ n = 0) ∨ ∃ g cap f, v = .slice (some ⟨g, 0, none⟩) n cap ∧ base ≤ g ∧ n ≤ cap ∧ cap ≤ maxLen ∧ w.rowIs g 66 (cap * 2) f ∧ ∀ i, i < n * 2 → f i = .int .i64 (spW p i)
theorem PrOwn.of {w : World} {base : Nat} {v : Value} {n : Nat} {p : Ps} (h : w.ownsRow base 66 2 v n (spL n p)) : PrOwn w base v n p := by
  rcases h.2 with ⟨h1, h2⟩ | ⟨g, cap, cur, h1, h2, h3, h4, h5, h6, h7⟩
  · exact .inl ⟨h1, h2⟩
  · refine .inr ⟨g, cap, fun i => cur.getD i undef, h1, h2, h4, h5, ⟨cur, h3, by omega, fun i hi => ?_⟩, fun i hi => ?_⟩
    · simp [Array.getD_eq_getD_getElem?, show i < cur.size by omega]
    · have e : (cur.toList.take (n * 2))[i]? = (spL n p)[i]? := by rw [h7]
      rw [List.getElem?_take_of_lt hi, spL_at hi] at e
      simp only [Array.getElem?_toList] at e
      show cur.getD i undef = _
      rw [Array.getD_eq_getD_getElem?, e]
      rfl
theorem PrOwn.step {w w' : World} {base : Nat} {v : Value} {n : Nat} {p : Ps} (h : PrOwn w base v n p) (hB : Below w.heap.size w w') : PrOwn w' base v n p := by
  rcases h with h | ⟨g, cap, f, h1, h2, h3, h4, h5, h6⟩
  · exact .inl h
  · exact .inr ⟨g, cap, f, h1, h2, h3, h4, rows_step h5 hB, h6⟩
theorem PrOwn.in {w : World} {base : Nat} {v : Value} {n : Nat} {p : Ps} (h : PrOwn w base v n p) : ∃ ao cap, v = .slice ao n cap ∧ SpIn w ao n p := by
  rcases h with ⟨h1, rfl⟩ | ⟨g, cap, f, h1, h2, h3, h4, h5, h6⟩
  · exact ⟨none, 0, h1, fun i hi => by omega⟩
  · have R : w.rowIs g 66 (cap * 2) f := h5
    refine ⟨some ⟨g, 0, none⟩, cap, h1, fun i hi => ⟨g, 0, rfl, R.lt, ?_, ?_⟩⟩
    · rw [Nat.zero_add, R.cell (by omega), h6 _ (by omega), spW0]
    · rw [Nat.zero_add, R.cell (by omega), h6 _ (by omega), spW1]
theorem PrOwn.lt {w : World} {base : Nat} {v : Value} {n : Nat} {p : Ps} (h : PrOwn w base v n p) {g : Nat} (hg : v.ownBlock = some g) : base ≤ g ∧ g < w.heap.size := by
  rcases h with ⟨h1, _⟩ | ⟨g', cap, f, h1, h2, h3, h4, h5, h6⟩
  · subst h1; cases hg
  · subst h1; cases hg; exact ⟨h2, h5.lt⟩
end Go.Proofs.Ytpmnmlhfaoajdaa

/- The turn of three spots: the walks. -/
namespace Go.Proofs.Ytpmnmlhfaoajdaa
open Go.RowKit
end Go.Proofs.Ytpmnmlhfaoajdaa

/- The sides of a segment on which spots are: the walk of the program's loop. -/
namespace Go.Proofs.Ytpmnmlhfaoajdaa
open Go.RowKit
structure PartI (w wr : World) (g : Nat) (sg sl : List Value) : Prop where
  below : Below w.heap.size w wr
  seg : Blk wr w.heap.size sg
  row : Blk wr g sl
theorem PartI.step {w wr wr' : World} {g : Nat} {sg sl : List Value} (h : PartI w wr g sg sl) (hB : Below wr.heap.size wr wr') : PartI w wr' g sg sl := ⟨h.below.trans (hB.mono h.below.size), h.seg.step hB, h.row.step hB⟩
theorem PartI.alloc {w wr : World} {g : Nat} {sg sl : List Value} (h : PartI w wr g sg sl) (o : Obj) : PartI w (wr.alloc o) g sg sl := h.step ((Below.refl _ _).alloc (Nat.le_refl _) o)
end Go.Proofs.Ytpmnmlhfaoajdaa

/- Whether a segment meets a box: the walk of the model's part that is asked of right ones. -/
namespace Go.Proofs.Ytpmnmlhfaoajdaa
open Go.RowKit
end Go.Proofs.Ytpmnmlhfaoajdaa

/- Whether a segment meets a box: the walks of the program and of the model, and of the law. -/
namespace Go.Proofs.Ytpmnmlhfaoajdaa
open Go.RowKit
end Go.Proofs.Ytpmnmlhfaoajdaa

/- Whether a segment meets a box: the walk of the program. -/
namespace Go.Proofs.Ytpmnmlhfaoajdaa
open Go.RowKit
end Go.Proofs.Ytpmnmlhfaoajdaa

/- Segments that meet a box, by their numbers: both sides. -/
namespace Go.Proofs.Ytpmnmlhfaoajdaa
open Go.RowKit
theorem sgI_zero {n : Nat} {x : Nat → Int} (h : sgI n x = 0) : n ≤ 40 ∧ ∀ i, i < n → segOk (x (i * 4)) (x (i * 4 + 1)) (x (i * 4 + 2)) (x (i * 4 + 3)) = true := by
  unfold sgI at h
  split at h
  · cases h
  · split at h
    · exact ⟨by omega, by assumption⟩
    · cases h
theorem NoOwn.mono {w : World} {b b' : Nat} {v : Value} {L : List Int} (h : NoOwn w b' v L) (hb : b ≤ b') : NoOwn w b v L := by
  rcases h with h | ⟨g, cap, f, h1, h2, h3⟩
  · exact .inl h
  · exact .inr ⟨g, cap, f, h1, by omega, h3⟩
set_option maxRecDepth 100000 in
theorem l7Ok_any (ao : Option Addr) (n cap : Nat) (x : Nat → Int) (w : World) (hS : SegIn w ao n x) : Calls Try.prog 27 #[.slice ao n cap] w (BoolP (decide (sgI n x = 0)) w) := by
  have C := specSegsFault_any ao n cap x w hS
  revert C
  generalize sgI n x = o
  intro C
  clear hS
  go_enter Try.func27, Try.ntmps27
  go_wp2_with fail
  refine C.mono ?_
  rintro e w1 ⟨rfl, hB⟩
  by_cases h : o = 0
  · subst h
    go_wp2
    go_ret
    exact ⟨rfl, hB⟩
  · have hf : (o == 0) = false := by simp; omega
    have HD : Hid (decide (o = 0) = false) := decide_eq_false h
    go_wp2
    go_ret
    exact ⟨by rw [HD.out]; rfl, hB⟩
end Go.Proofs.Ytpmnmlhfaoajdaa

/- Operations that are guarded, in a region that is taken by a condition. -/
namespace Go.Proofs.Ytpmnmlhfaoajdaa
variable {P : Program} {ops : Array Oper} {Q : Exit → Act → World → Prop}
end Go.Proofs.Ytpmnmlhfaoajdaa

/- A region that draws its order, by what each slot holds once its operation has come up: the general form. -/
namespace Go.Proofs.Ytpmnmlhfaoajdaa
open Go.RowKit
variable {P : Program} {ops : Array Oper}
/-- No slot is written by two operations. -/
def distS : List (Option Nat) → Bool
  | [] => true
  | none :: r => distS r
  | some d :: r => !(r.contains (some d)) && distS r
theorem distS_inj : ∀ (S : List (Option Nat)) (i j d : Nat), distS S = true → S[i]? = some (some d) → S[j]? = some (some d) → i = j
  | [], i, _, _, _, h, _ => by simp at h
  | o :: r, i, j, d, hd, hi, hj => by
    have hr : distS r = true := by
      cases o with
      | none => exact hd
      | some d' => simp only [distS, Bool.and_eq_true] at hd; exact hd.2
    have hno : ∀ k, o = some d → r[k]? = some (some d) → False := fun k ho hk => by
      subst ho
      simp only [distS, Bool.and_eq_true, Bool.not_eq_true'] at hd
      have hm : some d ∈ r := List.mem_of_getElem? hk
      rw [← List.contains_iff_mem, hd.1] at hm
      cases hm
    match i, j with
    | 0, 0 => rfl
    | 0, j + 1 => exact (hno j (by simpa using hi) (by simpa using hj)).elim
    | i + 1, 0 => exact (hno i (by simpa using hj) (by simpa using hi)).elim
    | i + 1, j + 1 => exact congrArg (· + 1) (distS_inj r i j d hr (by simpa using hi) (by simpa using hj))
/-- What every operation keeps. -/
def InvQ (B : Nat) (S : List (Option Nat)) (V : Nat → Value → World → Prop) (w0 : World) (a0 : Act) (l : Array Bool) (a : Act) (W : World) : Prop :=
  l.size = S.length ∧ a.tmps.size = a0.tmps.size ∧ a.defers = a0.defers ∧ (∀ e, some e ∉ S → a.tmps[e]? = a0.tmps[e]?) ∧ Below B w0 W ∧ (∀ j d, l.getD j false = true → S[j]? = some (some d) → V j (a.tmps.getD d undef) W) ∧ (∀ j, l.getD j false = true → S[j]? = some none → V j undef W)
theorem getD_set_q {l : Array Bool} {i j : Nat} (h : (l.setIfInBounds i true).getD j false = true) (hne : j ≠ i) : l.getD j false = true := by
  rw [getD_set_ne false (Ne.symm hne)] at h
  exact h
theorem InvQ.put {B : Nat} {S : List (Option Nat)} {V : Nat → Value → World → Prop} {w0 : World} {a0 : Act} {l : Array Bool} {a : Act} {W W' : World} (h : InvQ B S V w0 a0 l a W) (hS : distS S = true) (i d : Nat) (hi : S[i]? = some (some d)) (hlt : d < a0.tmps.size)
    (hW : Below B w0 W') (hT : ∀ j v, V j v W → V j v W') (v : Value) (hv : V i v W') : InvQ B S V w0 a0 (l.setIfInBounds i true) (a.put (some d) v) W' := by
  obtain ⟨h1, h2, h3, h4, h5, h6, h7⟩ := h
  refine ⟨by simpa using h1, by simpa [Act.put] using h2, h3, fun e he => ?_, hW, fun j d' hj hd' => ?_, fun j hj hn => ?_⟩
  · have hne : d ≠ e := fun hh => he (hh ▸ List.mem_of_getElem? hi)
    simp only [Act.put]
    rw [Array.getElem?_setIfInBounds_ne hne]
    exact h4 e he
  · by_cases hji : j = i
    · subst hji
      rw [hi] at hd'
      cases hd'
      rw [put_getD_same (by omega)]
      exact hv
    · have hne : d ≠ d' := fun hh => hji (distS_inj S j i d hS (hh ▸ hd') hi)
      rw [put_getD_ne hne]
      exact hT _ _ (h6 j d' (getD_set_q hj hji) hd')
  · have hji : j ≠ i := fun hh => by subst hh; rw [hi] at hn; cases hn
    exact hT _ _ (h7 j (getD_set_q hj hji) hn)
theorem InvQ.world {B : Nat} {S : List (Option Nat)} {V : Nat → Value → World → Prop} {w0 : World} {a0 : Act} {l : Array Bool} {a : Act} {W W' : World} (h : InvQ B S V w0 a0 l a W) (i : Nat) (hi : S[i]? = some none)
    (hW : Below B w0 W') (hT : ∀ j v, V j v W → V j v W') (hv : V i undef W') : InvQ B S V w0 a0 (l.setIfInBounds i true) a W' := by
  obtain ⟨h1, h2, h3, h4, h5, h6, h7⟩ := h
  refine ⟨by simpa using h1, h2, h3, h4, hW, fun j d hj hd => ?_, fun j hj hn => ?_⟩
  · have hji : j ≠ i := fun hh => by subst hh; rw [hi] at hd; cases hd
    exact hT _ _ (h6 j d (getD_set_q hj hji) hd)
  · by_cases hji : j = i
    · subst hji; exact hv
    · exact hT _ _ (h7 j (getD_set_q hj hji) hn)
theorem wp_region_q {Q : Exit → Act → World → Prop} {id : Nat} {a0 : Act} {w0 : World} (hm : P.follows .mixedOrders = true) (B : Nat) (S : List (Option Nat)) (V : Nat → Value → World → Prop) (hSz : ops.size = S.length)
    (hs : ∀ (Q : Exit → Act → World → Prop) l a W i o, InvQ B S V w0 a0 l a W → l.getD i true = false → ops[i]? = some o → (∀ e ∈ o.after, Region.binds .any e = true → l.getD e.on false = true) → wpOp P ops Q i (InvQ B S V w0 a0 (l.setIfInBounds i true)) a W)
    (hd : ∀ l a W, InvQ B S V w0 a0 l a W → Region.ready .any ops l = [] → Q .normal a W) : (Code.region id ops true).wp P Q a0 w0 := by
  refine wp_region_inv hm (InvQ B S V w0 a0) ⟨by simpa using hSz, rfl, rfl, fun _ _ => rfl, (Below.refl _ w0).drew, fun j d hj => ?_, fun j hj => ?_⟩ (hs Q) hd
  all_goals
    exfalso
    rw [Array.getD_eq_getD_getElem?, Array.getElem?_replicate] at hj
    split at hj <;> simp at hj
/-- A block of so many cells. -/
def BlkN (W : World) (g n : Nat) : Prop := ∃ vs : List Value, vs.length = n ∧ Blk W g vs
theorem BlkN.step {W W' : World} {g n : Nat} (h : BlkN W g n) (hB : Below W.heap.size W W') : BlkN W' g n := by
  obtain ⟨vs, h1, h2⟩ := h
  exact ⟨vs, h1, h2.step hB⟩
theorem Blk.setA {W : World} {g : Nat} {vs : List Value} (h : Blk W g vs) (j : Nat) (u : Value) : Blk (W.setCell ⟨g, j, none⟩ u) g (vs.set j u) := by
  rcases Nat.lt_or_ge j vs.length with hj | hj
  · exact h.setI j hj u
  · refine ⟨by simpa [World.setCell] using h.1, fun i v hi => ?_⟩
    rw [List.set_eq_of_length_le hj] at hi
    have hne : i ≠ j := fun e => by
      subst e
      rw [List.getElem?_eq_none hj] at hi
      cases hi
    exact ⟨(World.cell?_setCell_other _ _ _ _ (by simp)).trans (h.c i hi), by simp [go_sem, h.f i hi]⟩
theorem BlkN.set {W : World} {g n : Nat} (h : BlkN W g n) (g' j : Nat) (u : Value) : BlkN (W.setCell ⟨g', j, none⟩ u) g n := by
  obtain ⟨vs, h1, h2⟩ := h
  by_cases hg : g = g'
  · subst hg
    exact ⟨vs.set j u, by simpa using h1, h2.setA j u⟩
  · exact ⟨vs, h1, h2.setO (p := ⟨g', j, none⟩) hg u⟩
end Go.Proofs.Ytpmnmlhfaoajdaa

/- A region that draws its order, in a round of a range over a function: by what each slot holds. -/
namespace Go.Proofs.Ytpmnmlhfaoajdaa
open Go.RowKit
variable {P : Program} {ops : Array Oper} {Q : Exit → Act → World → Prop} {md : Region.Mode} {F : Fence} {n : Nat}
theorem wpAnyIn_inv (J : Array Bool → Act → World → Prop) (hs : ∀ l a w i o, J l a w → l.getD i true = false → ops[i]? = some o → (∀ e ∈ o.after, Region.binds md e = true → l.getD e.on false = true) → wpOpIn F n P ops Q i (J (l.setIfInBounds i true)) a w)
    (hd : ∀ l a w, J l a w → Region.ready md ops l = [] → Q .normal a w) : ∀ (fuel : Nat) (l : Array Bool) (a : Act) (w : World), open_ l ≤ fuel → J l a w → wpAnyIn F n P md ops Q fuel l a w := by
  intro fuel
  induction fuel with
  | zero =>
    intro l a w hf hJ
    have hr : Region.ready md ops l = [] := by
      rw [List.eq_nil_iff_forall_not_mem]
      intro i hi
      have := open_set (mem_ready.1 hi).1
      omega
    exact ⟨hr, hd l a w hJ hr⟩
  | succ fuel ih =>
    intro l a w hf hJ
    refine ⟨fun hr => hd l a w hJ hr, fun i hi => ?_⟩
    obtain ⟨h0, o, ho, hall⟩ := mem_ready.1 hi
    exact wpOpIn_mono (fun a' w' h' => ih _ a' w' (by have := open_set h0; omega) h') (hs l a w i o hJ h0 ho hall)
theorem wpIn_region_inv {id : Nat} {a : Act} {w : World} (hm : P.follows .mixedOrders = true) (J : Array Bool → Act → World → Prop)
    (h0 : J (Array.replicate ops.size false) a { w with drawn := w.drawn + 1 })
    (hs : ∀ l a w i o, J l a w → l.getD i true = false → ops[i]? = some o → (∀ e ∈ o.after, Region.binds .any e = true → l.getD e.on false = true) → wpOpIn F n P ops Q i (J (l.setIfInBounds i true)) a w)
    (hd : ∀ l a w, J l a w → Region.ready .any ops l = [] → Q .normal a w) : (Code.region id ops true).wpIn F n P Q a w :=
  wpIn_region_any hm (wpAnyIn_inv J hs hd _ _ _ _ (by
    unfold open_
    refine Nat.le_trans List.countP_le_length ?_
    simp) h0)
/-- An operation that is no defer, in a round. -/
theorem wpIn_of_wp {l : Nat} {o : Oper} {a : Act} {w : World} {K : Act → World → Prop} (hd : ∀ c, o.op ≠ .defer c) (h : o.wp P a w K Q) : o.wpIn (Fence.wide.inRound l) n P a w K Q := by
  refine ⟨fun f _ => trivial, ?_⟩
  have e : o.semAt (Fence.wide.inRound l).round a.eval = execOp a.eval o := Oper.semAt_some l _ o hd
  rw [e]
  unfold Oper.wp at h
  generalize (execOp a.eval o).run P w = r at *
  cases r with
  | ok x w' =>
    cases x
    case enter f args => exact ⟨fun hh => by simp [Fence.wide, Fence.inRound] at hh, CallsIn.inRound l (callsIn_wide.2 h)⟩
    case row row args => exact ⟨fun hh => by simp [Fence.wide, Fence.inRound] at hh, fun c cs _ => let ⟨v, w2, r, s⟩ := h c cs; ⟨v, w2, r, stepsIn_wide.2 s⟩⟩
    all_goals first | exact h | exact h.elim
  | halt x w' => cases x <;> exact h
theorem wpOpIn_of {l i : Nat} {o : Oper} {a : Act} {w : World} {K : Act → World → Prop} (ho : ops[i]? = some o) (hg : o.guard = none) (hd : ∀ c, o.op ≠ .defer c) (h : o.wp P a w K Q) : wpOpIn (Fence.wide.inRound l) n P ops Q i K a w := by
  unfold wpOpIn
  simp only [ho]
  have hw : Region.wanted o (yielded ops a.tmps) = true := by unfold Region.wanted; rw [hg]
  rw [if_pos hw]
  exact wpIn_of_wp hd h
theorem wpIn_region_q {id : Nat} {a0 : Act} {w0 : World} (hm : P.follows .mixedOrders = true) (B : Nat) (S : List (Option Nat)) (V : Nat → Value → World → Prop) (hSz : ops.size = S.length)
    (hs : ∀ (Q : Exit → Act → World → Prop) l a W i o, InvQ B S V w0 a0 l a W → l.getD i true = false → ops[i]? = some o → (∀ e ∈ o.after, Region.binds .any e = true → l.getD e.on false = true) → wpOpIn F n P ops Q i (InvQ B S V w0 a0 (l.setIfInBounds i true)) a W)
    (hd : ∀ l a W, InvQ B S V w0 a0 l a W → Region.ready .any ops l = [] → Q .normal a W) : (Code.region id ops true).wpIn F n P Q a0 w0 := by
  refine wpIn_region_inv hm (InvQ B S V w0 a0) ⟨by simpa using hSz, rfl, rfl, fun _ _ => rfl, (Below.refl _ w0).drew, fun j d hj => ?_, fun j hj => ?_⟩ (hs Q) hd
  all_goals
    exfalso
    rw [Array.getD_eq_getD_getElem?, Array.getElem?_replicate] at hj
    split at hj <;> simp at hj
end Go.Proofs.Ytpmnmlhfaoajdaa

/- Segments that meet, by pairs: what is told, and the drawn regions of both sides. -/
namespace Go.Proofs.Ytpmnmlhfaoajdaa
open Go.RowKit
theorem in1_segS {a b c d : Int} (h : segOk a b c d = true) : In1 a ∧ In1 b ∧ In1 c ∧ In1 d := in1_seg h
def W12 (v : Value) : Prop := ∃ r0 r1 r2 r3 r4 r5 r6 r7 r8 r9 r10 r11 : Int, v = .agg #[.int .u64 r0, .int .u64 r1, .int .u64 r2, .int .u64 r3, .int .u64 r4, .int .u64 r5, .int .u64 r6, .int .u64 r7, .int .u64 r8, .int .u64 r9, .int .u64 r10, .int .u64 r11]
def VcpSr (A off n cap ci ck : Nat) (xa xb xc xd ya yb yc yd : Int) (B : Nat) : Nat → Value → World → Prop
  | 0, v, _ => v = .slice (some ⟨A, off, none⟩) n cap
  | 1, v, _ => v = .int .i64 (ci : Nat)
  | 2, v, _ => v = .pointer (some ⟨A, off + ci * 4, none⟩)
  | 3, v, _ => v = .agg #[.int .i64 xa, .int .i64 xb, .int .i64 xc, .int .i64 xd]
  | 4, v, _ => v = .slice (some ⟨A, off, none⟩) n cap
  | 5, v, _ => v = .int .i64 (ck : Nat)
  | 6, v, _ => v = .pointer (some ⟨A, off + ck * 4, none⟩)
  | 7, v, _ => v = .agg #[.int .i64 ya, .int .i64 yb, .int .i64 yc, .int .i64 yd]
  | 8, v, _ => ∃ x y, Lp6 x ∧ Lp6 y ∧ v = .tuple #[.int .i64 (kndZ xa xb xc xd ya yb yc yd), x, y]
  | 9, v, _ => ∃ x y, Lp6 x ∧ Lp6 y ∧ v = .tuple #[.int .i64 (kndZ xa xb xc xd ya yb yc yd), x, y]
  | 10, v, _ => v = .int .i64 (kndZ xa xb xc xd ya yb yc yd)
  | 11, v, _ => Lp6 v
  | 12, v, _ => Lp6 v
  | 13, v, W => ∃ g, v = .pointer (some ⟨g, 0, none⟩) ∧ B ≤ g ∧ BlkN W g 6
  | 14, v, W => ∃ g, v = .pointer (some ⟨g, 0, none⟩) ∧ B ≤ g ∧ BlkN W g 6
  | 15, v, _ => v = .int .i64 (kndZ xa xb xc xd ya yb yc yd)
  | _, _, _ => True
theorem VcpSr.mono {A off n cap ci ck : Nat} {xa xb xc xd ya yb yc yd : Int} {B j : Nat} {v : Value} {W W2 : World} (hS : ∀ g k, BlkN W g k → BlkN W2 g k) (h : VcpSr A off n cap ci ck xa xb xc xd ya yb yc yd B j v W) : VcpSr A off n cap ci ck xa xb xc xd ya yb yc yd B j v W2 := by
  unfold VcpSr at *
  split <;> simp only at h <;> first | exact h | (obtain ⟨g, h1, h2, h3⟩ := h; exact ⟨g, h1, h2, hS g _ h3⟩) | trivial
def VcpIr (Bp A off n cap ci ck : Nat) (xa xb xc xd ya yb yc yd : Int) (B : Nat) : Nat → Value → World → Prop
  | 0, v, _ => v = .slice (some ⟨A, off, none⟩) n cap
  | 1, v, _ => v = .pointer (some ⟨Bp, 0, none⟩)
  | 2, v, _ => v = .int .i64 (ci : Nat)
  | 3, v, _ => v = .pointer (some ⟨A, off + ci * 4, none⟩)
  | 4, v, _ => v = .agg #[.int .i64 xa, .int .i64 xb, .int .i64 xc, .int .i64 xd]
  | 5, v, _ => v = .slice (some ⟨A, off, none⟩) n cap
  | 6, v, _ => v = .pointer (some ⟨Bp, 1, none⟩)
  | 7, v, _ => v = .int .i64 (ck : Nat)
  | 8, v, _ => v = .pointer (some ⟨A, off + ck * 4, none⟩)
  | 9, v, _ => v = .agg #[.int .i64 ya, .int .i64 yb, .int .i64 yc, .int .i64 yd]
  | 10, v, _ => ∃ x y, W12 x ∧ W12 y ∧ v = .tuple #[.int .i64 (kndZ xa xb xc xd ya yb yc yd), x, y]
  | 11, v, _ => ∃ x y, W12 x ∧ W12 y ∧ v = .tuple #[.int .i64 (kndZ xa xb xc xd ya yb yc yd), x, y]
  | 12, v, _ => v = .int .i64 (kndZ xa xb xc xd ya yb yc yd)
  | 13, v, _ => W12 v
  | 14, v, _ => W12 v
  | 15, v, W => ∃ g, v = .pointer (some ⟨g, 0, none⟩) ∧ B ≤ g ∧ BlkN W g 12
  | 16, v, W => ∃ g, v = .pointer (some ⟨g, 0, none⟩) ∧ B ≤ g ∧ BlkN W g 12
  | 17, v, _ => v = .int .i64 (kndZ xa xb xc xd ya yb yc yd)
  | _, _, _ => True
theorem VcpIr.mono {Bp A off n cap ci ck : Nat} {xa xb xc xd ya yb yc yd : Int} {B j : Nat} {v : Value} {W W2 : World} (hS : ∀ g k, BlkN W g k → BlkN W2 g k) (h : VcpIr Bp A off n cap ci ck xa xb xc xd ya yb yc yd B j v W) : VcpIr Bp A off n cap ci ck xa xb xc xd ya yb yc yd B j v W2 := by
  unfold VcpIr at *
  split <;> simp only at h <;> first | exact h | (obtain ⟨g, h1, h2, h3⟩ := h; exact ⟨g, h1, h2, hS g _ h3⟩) | trivial
end Go.Proofs.Ytpmnmlhfaoajdaa

/- Ways that keep clear of segments: the reckoning. -/
namespace Go.Proofs.Ytpmnmlhfaoajdaa
open Go.RowKit
theorem mul_zero_or {a b : Int} (h : a * b = 0) : a = 0 ∨ b = 0 := Int.mul_eq_zero.1 h
/-- Along the same line: whose line it is does not matter. -/
theorem line_same {e f g h x y : Int} (hp : e * h = f * g) (h1 : e ≠ 0 ∨ f ≠ 0) (hz : e * y - f * x = 0) : g * y - h * x = 0 := by
  rcases Int.lt_or_eq_of_le (Int.le_refl e) with _ | _
  · omega
  · by_cases he : e = 0
    · have hf : f ≠ 0 := h1.resolve_left (fun k => k he)
      have hg : g = 0 := by
        rw [he, Int.zero_mul] at hp
        exact (mul_zero_or hp.symm).resolve_left hf
      have hx : x = 0 := by
        rw [he, Int.zero_mul] at hz
        exact (mul_zero_or (by omega : f * x = 0)).resolve_left hf
      rw [hg, hx]
      simp
    · have k : e * (g * y - h * x) = 0 := by
        have e1 : e * (g * y - h * x) = g * (e * y) - (e * h) * x := by grind
        have e2 : e * y = f * x := by omega
        rw [e1, e2, hp]
        grind
      exact (mul_zero_or k).resolve_left he
theorem turn_par {a b c d p q u v : Int} (h0 : ((b - d) * (u - p) - (q - v) * (c - a)) = 0) (h1 : c - a ≠ 0 ∨ d - b ≠ 0) (ht : turnZ a b c d p q = 0) : turnZ p q u v a b = 0 := by
  unfold turnZ at *
  have hp : (c - a) * (v - q) = (d - b) * (u - p) := by grind
  have k := line_same hp h1 ht
  have e : (u - p) * (b - q) - (v - q) * (a - p) = -((u - p) * (q - b) - (v - q) * (p - a)) := by grind
  rw [e, k]
  rfl
theorem less_ne {a b c d : Int} (h : lessI a b c d = true) : c - a ≠ 0 ∨ d - b ≠ 0 := by
  rw [less_iff] at h
  omega
end Go.Proofs.Ytpmnmlhfaoajdaa

/- The square of the distance of a spot and a segment: the model's walk. -/
namespace Go.Proofs.Ytpmnmlhfaoajdaa
open Go.RowKit
end Go.Proofs.Ytpmnmlhfaoajdaa

/- Fractions in their order: the model's walks. -/
namespace Go.Proofs.Ytpmnmlhfaoajdaa
open Go.RowKit
end Go.Proofs.Ytpmnmlhfaoajdaa

/- A point of three numbers: the model's walk. -/
namespace Go.Proofs.Ytpmnmlhfaoajdaa
open Go.RowKit
end Go.Proofs.Ytpmnmlhfaoajdaa

/- Right points: in order, one only where their numbers are, the same with all parts multiplied: the reckoning. -/
namespace Go.Proofs.Ytpmnmlhfaoajdaa
open Go.RowKit
end Go.Proofs.Ytpmnmlhfaoajdaa

/- A point of three numbers: the program's walk. -/
namespace Go.Proofs.Ytpmnmlhfaoajdaa
open Go.RowKit
end Go.Proofs.Ytpmnmlhfaoajdaa

/- The middle of two points: the program's walk. -/
namespace Go.Proofs.Ytpmnmlhfaoajdaa
open Go.RowKit
end Go.Proofs.Ytpmnmlhfaoajdaa

/- What lies between two points: the reckoning, and the program's walks. -/
namespace Go.Proofs.Ytpmnmlhfaoajdaa
open Go.RowKit
end Go.Proofs.Ytpmnmlhfaoajdaa

/- The middle of two right points: the reckoning. -/
namespace Go.Proofs.Ytpmnmlhfaoajdaa
open Go.RowKit
theorem gcd3_times (a b c g : Int) (hg : 0 < g) : (Int.gcd (Int.gcd (a * g) (b * g) : Int) (c * g) : Int) = (Int.gcd (Int.gcd a b : Int) c : Int) * g := by
  have en : (g.natAbs : Int) = g := by omega
  have e1 : (Int.gcd (a * g) (b * g) : Int) = Int.gcd a b * g := by rw [Int.gcd_mul_right, Int.natCast_mul, en]
  rw [e1, Int.gcd_mul_right, Int.natCast_mul, en]
end Go.Proofs.Ytpmnmlhfaoajdaa

/- The square of the distance of two points: the program's walk. -/
namespace Go.Proofs.Ytpmnmlhfaoajdaa
open Go.RowKit
end Go.Proofs.Ytpmnmlhfaoajdaa

/- Fractions with both parts multiplied; distances to the middle: the reckoning. -/
namespace Go.Proofs.Ytpmnmlhfaoajdaa
open Go.RowKit
end Go.Proofs.Ytpmnmlhfaoajdaa

/- What lies between two points: the program's walks. -/
namespace Go.Proofs.Ytpmnmlhfaoajdaa
open Go.RowKit
end Go.Proofs.Ytpmnmlhfaoajdaa

/- What lies between two points: the model's walk, and both sides. -/
namespace Go.Proofs.Ytpmnmlhfaoajdaa
open Go.RowKit
end Go.Proofs.Ytpmnmlhfaoajdaa

/- What lies between two points: both sides. -/
namespace Go.Proofs.Ytpmnmlhfaoajdaa
open Go.RowKit
end Go.Proofs.Ytpmnmlhfaoajdaa

/- What lies between, of the middle: the reckoning. -/
namespace Go.Proofs.Ytpmnmlhfaoajdaa
open Go.RowKit
end Go.Proofs.Ytpmnmlhfaoajdaa

/- The program's sums, products and quotients of fractions. -/
namespace Go.Proofs.Ytpmnmlhfaoajdaa
open Go.RowKit
end Go.Proofs.Ytpmnmlhfaoajdaa

/- The program's laws of two fractions, as far as they are told. -/
namespace Go.Proofs.Ytpmnmlhfaoajdaa
open Go.RowKit
end Go.Proofs.Ytpmnmlhfaoajdaa

/- Four times a fraction; fractions by their own words. -/
namespace Go.Proofs.Ytpmnmlhfaoajdaa
open Go.RowKit
end Go.Proofs.Ytpmnmlhfaoajdaa

/- The square of a distance by its own two numbers: the reckoning. -/
namespace Go.Proofs.Ytpmnmlhfaoajdaa
open Go.RowKit
end Go.Proofs.Ytpmnmlhfaoajdaa

/- Whether a point lies on a segment: both sides. -/
namespace Go.Proofs.Ytpmnmlhfaoajdaa
open Go.RowKit
end Go.Proofs.Ytpmnmlhfaoajdaa

/- Where a segment stands over a point: both sides. -/
namespace Go.Proofs.Ytpmnmlhfaoajdaa
open Go.RowKit
end Go.Proofs.Ytpmnmlhfaoajdaa

/- Where a segment stands over a point: the model's side. -/
namespace Go.Proofs.Ytpmnmlhfaoajdaa
open Go.RowKit
end Go.Proofs.Ytpmnmlhfaoajdaa

/- Where a segment stands over a point, whether the point lies on it, on which side it lies: the reckoning. -/
namespace Go.Proofs.Ytpmnmlhfaoajdaa
open Go.RowKit
theorem seg_less {a b c d : Int} (h : segOk a b c d = true) : a < c ∨ (a = c ∧ b < d) := by
  unfold segOk lessI at h
  simp only [Bool.and_eq_true, decide_eq_true_eq] at h
  exact h.2
end Go.Proofs.Ytpmnmlhfaoajdaa

/- No end of a segment is nearer than what is told, nor is its middle; it is 0 just on the segment: the reckoning. -/
namespace Go.Proofs.Ytpmnmlhfaoajdaa
open Go.RowKit
end Go.Proofs.Ytpmnmlhfaoajdaa

/- A segment's distance held against those of its ends and of its middle. -/
namespace Go.Proofs.Ytpmnmlhfaoajdaa
open Go.RowKit
end Go.Proofs.Ytpmnmlhfaoajdaa
