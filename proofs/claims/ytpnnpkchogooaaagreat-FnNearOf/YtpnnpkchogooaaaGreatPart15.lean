/- Part 15 of the walks that the proof leans on. -/
import Derived.Test.YtpnnpkchogooaaaGreatPart14
import Derived.Test.YtpnnpkchogooaaaGreatPart11
import Derived.Test.YtpnnpkchogooaaaGreatPart10
import Derived.Test.YtpnnpkchogooaaaGreatPart4
import Derived.Test.YtpnnpkchogooaaaGreatPart13
import Derived.Test.YtpnnpkchogooaaaGreatPart7
/- The square of the distance of a spot and a segment: the model's walk. -/
namespace Go.Proofs.YtpnnpkchogooaaaGreat
open Go.RowKit
theorem ratV_one (n : Int) : ratV n 1 = rtV n 1 := by
  rw [ratV_rt (by decide)]
  have h1 : lowN n 1 = n := by
    unfold lowN shareZ
    rw [Int.gcd_one]
    by_cases h : n < 0
    · simp [h]; omega
    · simp [h]; omega
  have h2 : lowD n 1 = 1 := by
    unfold lowD shareZ
    rw [Int.gcd_one]
    decide
  rw [h1, h2]
theorem sum_sq {m n : Int} (h : m * m + n * n = 0) : m = 0 ∧ n = 0 := by
  have h1 : 0 ≤ m * m := by
    rcases Int.le_total 0 m with h | h
    · exact Int.mul_nonneg h h
    · exact Int.mul_nonneg_of_nonpos_of_nonpos h h
  have h2 : 0 ≤ n * n := by
    rcases Int.le_total 0 n with h | h
    · exact Int.mul_nonneg h h
    · exact Int.mul_nonneg_of_nonpos_of_nonpos h h
  exact ⟨(Int.mul_eq_zero.1 (by omega : m * m = 0)).elim id id, (Int.mul_eq_zero.1 (by omega : n * n = 0)).elim id id⟩
def NearP (a b c d x y : Int) (w : World) (e : Ending) (w' : World) : Prop := ∃ (U V : Int) (k : Nat), k ≤ 8000 ∧ rtV U V = nearW a b c d x y ∧ NumsP k U V w e w'
theorem near_same (a b c d x y : Int) : (x - c) * (c - a) + (y - d) * (d - b) = (x - a) * (c - a) + (y - b) * (d - b) - ((c - a) * (c - a) + (d - b) * (d - b)) := by grind
set_option maxRecDepth 100000 in
set_option maxHeartbeats 8000000 in
theorem l4Near2_any (a b c d x y : Int) (i1 : In1 a) (i2 : In1 b) (i3 : In1 c) (i4 : In1 d) (i5 : In1 x) (i6 : In1 y) (w : World) : Calls Tryz.prog 37 #[Sg a b c d, Sp x y] w (NearP a b c d x y w) := by
  have T0 : ArgsB w (((w.alloc (.cells #[.int .i64 a, .int .i64 b, .int .i64 c, .int .i64 d] 27)).alloc (.cells #[.int .i64 x, .int .i64 y] 25)).alloc (.cells #[.bool false, .slice none 0 0, .bool false, .slice none 0 0] 75)) [[.int .i64 a, .int .i64 b, .int .i64 c, .int .i64 d], [.int .i64 x, .int .i64 y], [.bool false, .slice none 0 0, .bool false, .slice none 0 0]] := ar3 _ _ _ _ _ _ w
  obtain ⟨a1, a2⟩ := i1; obtain ⟨b1, b2⟩ := i2; obtain ⟨c1, c2⟩ := i3; obtain ⟨d1, d2⟩ := i4; obtain ⟨x1, x2⟩ := i5; obtain ⟨y1, y2⟩ := i6
  have hm2 : In2 (c - a) := ⟨by omega, by omega⟩
  have hn2 : In2 (d - b) := ⟨by omega, by omega⟩
  have hi2 : In2 (x - a) := ⟨by omega, by omega⟩
  have hj2 : In2 (y - b) := ⟨by omega, by omega⟩
  have hk2 : In2 (x - c) := ⟨by omega, by omega⟩
  have hl2 : In2 (y - d) := ⟨by omega, by omega⟩
  obtain ⟨p1, p2⟩ := prod2 hi2 hi2; obtain ⟨p3, p4⟩ := prod2 hj2 hj2; obtain ⟨p5, p6⟩ := prod2 hk2 hk2; obtain ⟨p7, p8⟩ := prod2 hl2 hl2
  obtain ⟨u1, u2⟩ := prod2 hm2 hj2; obtain ⟨u3, u4⟩ := prod2 hn2 hi2; obtain ⟨u5, u6⟩ := prod2 hm2 hm2; obtain ⟨u7, u8⟩ := prod2 hn2 hn2
  obtain ⟨t1, t2⟩ := prod2 hi2 hm2; obtain ⟨t3, t4⟩ := prod2 hj2 hn2
  clear hm2 hn2 hi2 hj2 hk2 hl2
  have E : Hid ((x - c) * (c - a) + (y - d) * (d - b) = (x - a) * (c - a) + (y - b) * (d - b) - ((c - a) * (c - a) + (d - b) * (d - b))) := near_same a b c d x y
  go_enter Tryz.func37, Tryz.ntmps37
  go_upto_region 1 with fail
  generalize (((w.alloc (.cells #[.int .i64 a, .int .i64 b, .int .i64 c, .int .i64 d] 27)).alloc (.cells #[.int .i64 x, .int .i64 y] 25)).alloc (.cells #[.bool false, .slice none 0 0, .bool false, .slice none 0 0] 75)) = WW at *
  have Y1 : Blk _ w.heap.size _ := T0.b 0 rfl; have g0 := Y1.c 0 rfl; have g1 := Y1.c 1 rfl; have g2 := Y1.c 2 rfl; have g3 := Y1.c 3 rfl; clear Y1
  have Y0 : Blk _ (w.heap.size + 1) _ := T0.b 1 rfl; have q0 := Y0.c 0 rfl; have q1 := Y0.c 1 rfl; clear Y0
  by_cases h1 : (x - a) * (c - a) + (y - b) * (d - b) ≤ 0
  · have HQ : Hid (rtV ((x - a) * (x - a) + (y - b) * (y - b)) 1 = nearW a b c d x y) := by show _ = _; unfold nearW; rw [if_pos h1]; exact (ratV_one _).symm
    clear E p5 p6 p7 p8 u1 u2 u3 u4
    go_wp2_with fail
    refine (int_any ((x - a) * (x - a) + (y - b) * (y - b)) _ (by omega) (by omega)).mono ?_
    rintro e v1 ⟨s1, o1, n1, c1, d1, rfl, N1, hB⟩
    replace T0 := T0.step hB
    clear hB g0 g1 g2 g3 q0 q1
    go_wp2_with fail
    refine (int_any 1 _ (by decide) (by decide)).mono ?_
    rintro e v2 ⟨s2, o2, n2, c2, d2, rfl, N2, hB⟩
    replace T0 := T0.step hB
    replace N1 := N1.below hB
    clear hB
    have K1 : Hid (IsNum v2 s1 o1 n1 c1 d1 ((x - a) * (x - a) + (y - b) * (y - b)) 2) := N1
    have K2 : Hid (IsNum v2 s2 o2 n2 c2 d2 1 2) := N2
    have KB : Hid (Below w.heap.size w v2) := T0.below
    have KR : Hid (Blk v2 (w.heap.size + 1 + 1) [.bool false, .slice none 0 0, .bool false, .slice none 0 0]) := T0.b 2 rfl
    have p0 := (T0.b 2 rfl).c 0 rfl; have r0 := (T0.b 2 rfl).f 0 rfl; have p1 := (T0.b 2 rfl).c 1 rfl; have r1 := (T0.b 2 rfl).f 1 rfl; have p2 := (T0.b 2 rfl).c 2 rfl; have r2 := (T0.b 2 rfl).f 2 rfl; have p3 := (T0.b 2 rfl).c 3 rfl; have r3 := (T0.b 2 rfl).f 3 rfl; have plt := (T0.b 2 rfl).lt
    clear N1 N2 T0
    go_wp2
    refine bodyPost_ret (v := .agg #[.bool s1, .slice o1 n1 c1, .bool s2, .slice o2 n2 c2]) (by simp [results, Tryz.results37, go_sem, p0, p1, p2, p3]) rfl ?_
    exact ⟨_, _, 2, by omega, HQ.out, nums_ret (by omega) KR.out K1.out K2.out KB.out⟩
  · by_cases h2 : (x - a) * (c - a) + (y - b) * (d - b) ≥ (c - a) * (c - a) + (d - b) * (d - b)
    · have HQ : Hid (rtV ((x - c) * (x - c) + (y - d) * (y - d)) 1 = nearW a b c d x y) := by show _ = _; unfold nearW; rw [if_neg h1, if_pos (by rw [E.out]; omega)]; exact (ratV_one _).symm
      clear E p1 p2 p3 p4 u1 u2 u3 u4
      go_wp2_with fail
      refine (int_any ((x - c) * (x - c) + (y - d) * (y - d)) _ (by omega) (by omega)).mono ?_
      rintro e v1 ⟨s1, o1, n1, c1, d1, rfl, N1, hB⟩
      replace T0 := T0.step hB
      clear hB g0 g1 g2 g3 q0 q1
      go_wp2_with fail
      refine (int_any 1 _ (by decide) (by decide)).mono ?_
      rintro e v2 ⟨s2, o2, n2, c2, d2, rfl, N2, hB⟩
      replace T0 := T0.step hB
      replace N1 := N1.below hB
      clear hB
      have K1 : Hid (IsNum v2 s1 o1 n1 c1 d1 ((x - c) * (x - c) + (y - d) * (y - d)) 2) := N1
      have K2 : Hid (IsNum v2 s2 o2 n2 c2 d2 1 2) := N2
      have KB : Hid (Below w.heap.size w v2) := T0.below
      have KR : Hid (Blk v2 (w.heap.size + 1 + 1) [.bool false, .slice none 0 0, .bool false, .slice none 0 0]) := T0.b 2 rfl
      have p0 := (T0.b 2 rfl).c 0 rfl; have r0 := (T0.b 2 rfl).f 0 rfl; have p1 := (T0.b 2 rfl).c 1 rfl; have r1 := (T0.b 2 rfl).f 1 rfl; have p2 := (T0.b 2 rfl).c 2 rfl; have r2 := (T0.b 2 rfl).f 2 rfl; have p3 := (T0.b 2 rfl).c 3 rfl; have r3 := (T0.b 2 rfl).f 3 rfl; have plt := (T0.b 2 rfl).lt
      clear N1 N2 T0
      go_wp2
      refine bodyPost_ret (v := .agg #[.bool s1, .slice o1 n1 c1, .bool s2, .slice o2 n2 c2]) (by simp [results, Tryz.results37, go_sem, p0, p1, p2, p3]) rfl ?_
      exact ⟨_, _, 2, by omega, HQ.out, nums_ret (by omega) KR.out K1.out K2.out KB.out⟩
    · have hne : (c - a) * (c - a) + (d - b) * (d - b) ≠ 0 := by
        intro h0
        obtain ⟨e1, e2⟩ := sum_sq h0
        rw [e1, e2] at h1
        simp at h1
      have HQ : Hid (ratV (((c - a) * (y - b) - (d - b) * (x - a)) * ((c - a) * (y - b) - (d - b) * (x - a))) ((c - a) * (c - a) + (d - b) * (d - b)) = nearW a b c d x y) := by show _ = _; unfold nearW; rw [if_neg h1, if_neg (by rw [E.out]; omega)]
      have HN : Hid ((c - a) * (c - a) + (d - b) * (d - b) ≠ 0) := hne
      clear E p1 p2 p3 p4 p5 p6 p7 p8 hne
      go_wp2_with fail
      refine (int_any ((c - a) * (y - b) - (d - b) * (x - a)) _ (by omega) (by omega)).mono ?_
      rintro e v1 ⟨s1, o1, n1, c1, d1, rfl, N1, hB⟩
      replace T0 := (T0.step hB).alloc (.cells #[.bool s1, .slice o1 n1 c1] 73)
      have X1 := Blk.new v1 [.bool s1, .slice o1 n1 c1] 73 rfl
      replace N1 := N1.alloc (.cells #[.bool s1, .slice o1 n1 c1] 73)
      clear hB g0 g1 g2 g3 q0 q1
      have f0 := X1.c 0 rfl; have f1 := X1.c 1 rfl
      go_wp2_with fail
      refine (mul_any s1 s1 o1 o1 n1 n1 c1 c1 2 d1 d1 _ _ _ N1 N1 (by omega)).mono ?_
      rintro e v2 ⟨s2, o2, n2, c2, d2, rfl, N2, hB⟩
      replace T0 := T0.step hB
      clear hB N1 X1 f0 f1
      go_wp2_with fail
      refine (int_any ((c - a) * (c - a) + (d - b) * (d - b)) _ (by omega) (by omega)).mono ?_
      rintro e v3 ⟨s3, o3, n3, c3, d3, rfl, N3, hB⟩
      replace T0 := T0.step hB
      replace N2 := N2.below hB
      clear hB
      go_wp2_with fail
      refine (l2Make_any s2 o2 n2 c2 d2 s3 o3 n3 c3 d3 _ _ 4 (by omega) (by omega) _ N2 (num_more N3 (by omega)) HN.out).mono ?_
      rintro e v4 ⟨s4, o4, n4, c4, d4, s5, o5, n5, c5, d5, rfl, N4, N5, hB⟩
      replace T0 := T0.step hB
      have K1 : Hid (IsNum v4 s4 o4 n4 c4 d4 _ (4 + 3)) := N4
      have K2 : Hid (IsNum v4 s5 o5 n5 c5 d5 _ (4 + 3)) := N5
      have KB : Hid (Below w.heap.size w v4) := T0.below
      have KR : Hid (Blk v4 (w.heap.size + 1 + 1) [.bool false, .slice none 0 0, .bool false, .slice none 0 0]) := T0.b 2 rfl
      have p0 := (T0.b 2 rfl).c 0 rfl; have r0 := (T0.b 2 rfl).f 0 rfl; have p1 := (T0.b 2 rfl).c 1 rfl; have r1 := (T0.b 2 rfl).f 1 rfl; have p2 := (T0.b 2 rfl).c 2 rfl; have r2 := (T0.b 2 rfl).f 2 rfl; have p3 := (T0.b 2 rfl).c 3 rfl; have r3 := (T0.b 2 rfl).f 3 rfl; have plt := (T0.b 2 rfl).lt
      clear N2 N3 N4 N5 T0 hB
      go_wp2
      refine bodyPost_ret (v := .agg #[.bool s4, .slice o4 n4 c4, .bool s5, .slice o5 n5 c5]) (by simp [results, Tryz.results37, go_sem, p0, p1, p2, p3]) rfl ?_
      exact ⟨_, _, 4 + 3, by omega, (ratV_rt HN.out).symm.trans HQ.out, nums_ret (by omega) KR.out K1.out K2.out KB.out⟩
set_option maxRecDepth 100000 in
set_option maxHeartbeats 4000000 in
theorem specNear2_det (a b c d x y : Int) (w : World) : Calls Tryz.prog 8 #[Sg a b c d, Sp x y] w (VP (nearV a b c d x y) w) := by
  have T0 : ArgsB w (((w.alloc (.cells #[.int .i64 a, .int .i64 b, .int .i64 c, .int .i64 d] 27)).alloc (.cells #[.int .i64 x, .int .i64 y] 25)).alloc (.cells #[.int .u64 0, .int .u64 0, .int .u64 0, .int .u64 0, .int .u64 0, .int .u64 0, .int .u64 0, .int .u64 0] 34)) [[.int .i64 a, .int .i64 b, .int .i64 c, .int .i64 d], [.int .i64 x, .int .i64 y], [.int .u64 0, .int .u64 0, .int .u64 0, .int .u64 0, .int .u64 0, .int .u64 0, .int .u64 0, .int .u64 0]] := ar3 _ _ _ _ _ _ w
  have SO := fun w => specSegOk_any a b c d _ rfl w
  have PO := fun w => specSpotOk_any x y _ rfl w
  go_enter Tryz.func8, Tryz.ntmps8
  go_wp2_with fail
  generalize (((w.alloc (.cells #[.int .i64 a, .int .i64 b, .int .i64 c, .int .i64 d] 27)).alloc (.cells #[.int .i64 x, .int .i64 y] 25)).alloc (.cells #[.int .u64 0, .int .u64 0, .int .u64 0, .int .u64 0, .int .u64 0, .int .u64 0, .int .u64 0, .int .u64 0] 34)) = WW at *
  refine (SO _).mono ?_
  rintro e w1 ⟨rfl, hB⟩
  replace T0 := T0.step hB
  clear hB
  by_cases hs : segOk a b c d = true
  · rw [hs]
    have Y0 : Blk _ (w.heap.size + 1) _ := T0.b 1 rfl; have q0 := Y0.c 0 rfl; have q1 := Y0.c 1 rfl; clear Y0
    go_wp2_with fail
    refine (PO _).mono ?_
    rintro e w2 ⟨rfl, hB⟩
    replace T0 := T0.step hB
    clear hB q0 q1
    by_cases hp : spotOk x y = true
    · rw [hp]
      have HW : Hid (nearV a b c d x y = nearW a b c d x y) := by show _ = _; unfold nearV; rw [hs, hp]; rfl
      obtain ⟨i1, i2, i3, i4⟩ := in6_seg hs
      obtain ⟨i5, i6⟩ := in1_spot hp
      have L := l4Near2_any a b c d x y i1 i2 i3 i4 i5 i6
      obtain ⟨z0, z1, z2, z3, z4, z5, z6, z7, f, hf⟩ := nearW_ex a b c d x y
      clear hs hp SO PO i1 i2 i3 i4 i5 i6
      have Y1 : Blk _ w.heap.size _ := T0.b 0 rfl; have g0 := Y1.c 0 rfl; have g1 := Y1.c 1 rfl; have g2 := Y1.c 2 rfl; have g3 := Y1.c 3 rfl; clear Y1
      have Y0 : Blk _ (w.heap.size + 1) _ := T0.b 1 rfl; have q0 := Y0.c 0 rfl; have q1 := Y0.c 1 rfl; clear Y0
      go_wp2_with fail
      refine (L _).mono ?_
      rintro e w3 ⟨U, V, k, hk, hUV, s1, o1, n1, c1, d1, s2, o2, n2, c2, d2, rfl, N1, N2, hB⟩
      replace T0 := T0.step hB
      have R := l2Ratio_any s1 o1 n1 c1 d1 s2 o2 n2 c2 d2 U V k hk w3 N1 N2
      rw [hUV, hf] at R
      have HO : Hid (nearV a b c d x y = .tuple #[.agg #[.int .u64 z0, .int .u64 z1, .int .u64 z2, .int .u64 z3, .int .u64 z4, .int .u64 z5, .int .u64 z6, .int .u64 z7], .bool f]) := HW.out.trans hf
      clear hB L g0 g1 g2 g3 q0 q1 N1 N2 hUV hf HW
      go_wp2_with fail
      refine R.mono ?_
      rintro e w4 ⟨rfl, hB⟩
      replace T0 := T0.step hB
      have o0 := (T0.b 2 rfl).c 0 rfl; have r0 := (T0.b 2 rfl).f 0 rfl; have o1 := (T0.b 2 rfl).c 1 rfl; have r1 := (T0.b 2 rfl).f 1 rfl; have o2 := (T0.b 2 rfl).c 2 rfl; have r2 := (T0.b 2 rfl).f 2 rfl; have o3 := (T0.b 2 rfl).c 3 rfl; have r3 := (T0.b 2 rfl).f 3 rfl; have o4 := (T0.b 2 rfl).c 4 rfl; have r4 := (T0.b 2 rfl).f 4 rfl; have o5 := (T0.b 2 rfl).c 5 rfl; have r5 := (T0.b 2 rfl).f 5 rfl; have o6 := (T0.b 2 rfl).c 6 rfl; have r6 := (T0.b 2 rfl).f 6 rfl; have o7 := (T0.b 2 rfl).c 7 rfl; have r7 := (T0.b 2 rfl).f 7 rfl; have olt := (T0.b 2 rfl).lt
      have HB := T0.below
      clear T0 hB R
      go_wp2
      refine bodyPost_ret (v := .tuple #[.agg #[.int .u64 z0, .int .u64 z1, .int .u64 z2, .int .u64 z3, .int .u64 z4, .int .u64 z5, .int .u64 z6, .int .u64 z7], .bool f]) (by simp [results, Tryz.results8, go_sem, o0, o1, o2, o3, o4, o5, o6, o7]) rfl ?_
      refine ⟨by rw [HO.out], ?_⟩
      repeat' (refine Below.setCell ?_ (by simp; try omega) _)
      exact HB
    · replace hp := Bool.eq_false_iff.2 hp
      rw [hp]
      have HO : Hid (nearV a b c d x y = .tuple #[.agg #[.int .u64 0, .int .u64 0, .int .u64 0, .int .u64 0, .int .u64 0, .int .u64 0, .int .u64 0, .int .u64 0], .bool false]) := by show _ = _; unfold nearV; rw [hp]; simp
      have o0 := (T0.b 2 rfl).c 0 rfl; have r0 := (T0.b 2 rfl).f 0 rfl; have o1 := (T0.b 2 rfl).c 1 rfl; have r1 := (T0.b 2 rfl).f 1 rfl; have o2 := (T0.b 2 rfl).c 2 rfl; have r2 := (T0.b 2 rfl).f 2 rfl; have o3 := (T0.b 2 rfl).c 3 rfl; have r3 := (T0.b 2 rfl).f 3 rfl; have o4 := (T0.b 2 rfl).c 4 rfl; have r4 := (T0.b 2 rfl).f 4 rfl; have o5 := (T0.b 2 rfl).c 5 rfl; have r5 := (T0.b 2 rfl).f 5 rfl; have o6 := (T0.b 2 rfl).c 6 rfl; have r6 := (T0.b 2 rfl).f 6 rfl; have o7 := (T0.b 2 rfl).c 7 rfl; have r7 := (T0.b 2 rfl).f 7 rfl; have olt := (T0.b 2 rfl).lt
      have HB := T0.below
      clear T0
      go_wp2
      refine bodyPost_ret (v := .tuple #[.agg #[.int .u64 0, .int .u64 0, .int .u64 0, .int .u64 0, .int .u64 0, .int .u64 0, .int .u64 0, .int .u64 0], .bool false]) (by simp [results, Tryz.results8, go_sem, o0, o1, o2, o3, o4, o5, o6, o7]) rfl ?_
      refine ⟨by rw [HO.out], ?_⟩
      repeat' (refine Below.setCell ?_ (by simp; try omega) _)
      exact HB
  · replace hs := Bool.eq_false_iff.2 hs
    rw [hs]
    have HO : Hid (nearV a b c d x y = .tuple #[.agg #[.int .u64 0, .int .u64 0, .int .u64 0, .int .u64 0, .int .u64 0, .int .u64 0, .int .u64 0, .int .u64 0], .bool false]) := by show _ = _; unfold nearV; rw [hs]; simp
    have o0 := (T0.b 2 rfl).c 0 rfl; have r0 := (T0.b 2 rfl).f 0 rfl; have o1 := (T0.b 2 rfl).c 1 rfl; have r1 := (T0.b 2 rfl).f 1 rfl; have o2 := (T0.b 2 rfl).c 2 rfl; have r2 := (T0.b 2 rfl).f 2 rfl; have o3 := (T0.b 2 rfl).c 3 rfl; have r3 := (T0.b 2 rfl).f 3 rfl; have o4 := (T0.b 2 rfl).c 4 rfl; have r4 := (T0.b 2 rfl).f 4 rfl; have o5 := (T0.b 2 rfl).c 5 rfl; have r5 := (T0.b 2 rfl).f 5 rfl; have o6 := (T0.b 2 rfl).c 6 rfl; have r6 := (T0.b 2 rfl).f 6 rfl; have o7 := (T0.b 2 rfl).c 7 rfl; have r7 := (T0.b 2 rfl).f 7 rfl; have olt := (T0.b 2 rfl).lt
    have HB := T0.below
    clear T0
    go_wp2
    refine bodyPost_ret (v := .tuple #[.agg #[.int .u64 0, .int .u64 0, .int .u64 0, .int .u64 0, .int .u64 0, .int .u64 0, .int .u64 0, .int .u64 0], .bool false]) (by simp [results, Tryz.results8, go_sem, o0, o1, o2, o3, o4, o5, o6, o7]) rfl ?_
    refine ⟨by rw [HO.out], ?_⟩
    repeat' (refine Below.setCell ?_ (by simp; try omega) _)
    exact HB
end Go.Proofs.YtpnnpkchogooaaaGreat

/- Fractions in their order: the model's walks. -/
namespace Go.Proofs.YtpnnpkchogooaaaGreat
open Go.RowKit
end Go.Proofs.YtpnnpkchogooaaaGreat

/- Right points: in order, one only where their numbers are, the same with all parts multiplied: the reckoning. -/
namespace Go.Proofs.YtpnnpkchogooaaaGreat
open Go.RowKit
theorem cmpI_zero {a b : Int} : cmpI a b = 0 ↔ a = b := by
  unfold cmpI
  split
  · constructor <;> intro h <;> omega
  · split
    · constructor <;> intro h <;> omega
    · constructor <;> intro h <;> omega
theorem ptB_gcd {x y z : Int} (h : ptB x y z = true) : 0 < z ∧ Int.gcd (Int.gcd x y) z = 1 := by
  unfold ptB at h
  simp at h
  exact ⟨h.1.1, h.2⟩
end Go.Proofs.YtpnnpkchogooaaaGreat

/- What lies between two points: the reckoning, and the program's walks. -/
namespace Go.Proofs.YtpnnpkchogooaaaGreat
open Go.RowKit
theorem frac_trans {x z a c u t : Int} (hz : 0 < z) (ht : 0 < t) (hc : 0 < c) (h1 : x * c ≤ a * z) (h2 : a * t ≤ u * c) : x * t ≤ u * z ∧ (x * c < a * z ∨ a * t < u * c → x * t < u * z) := by
  have e1 : x * c * t ≤ a * z * t := Int.mul_le_mul_of_nonneg_right h1 (by omega)
  have e2 : a * t * z ≤ u * c * z := Int.mul_le_mul_of_nonneg_right h2 (by omega)
  have r1 : x * c * t = x * t * c := Int.mul_right_comm x c t
  have r2 : a * z * t = a * t * z := Int.mul_right_comm a z t
  have r3 : u * c * z = u * z * c := Int.mul_right_comm u c z
  refine ⟨Int.le_of_mul_le_mul_right (show x * t * c ≤ u * z * c by omega) hc, ?_⟩
  rintro (h | h)
  · have e3 : x * c * t < a * z * t := Int.mul_lt_mul_of_pos_right h ht
    exact Int.lt_of_mul_lt_mul_right (show x * t * c < u * z * c by omega) (by omega)
  · have e3 : a * t * z < u * c * z := Int.mul_lt_mul_of_pos_right h hz
    exact Int.lt_of_mul_lt_mul_right (show x * t * c < u * z * c by omega) (by omega)
theorem cmpI_val (a b : Int) : (a < b ∧ cmpI a b = -1) ∨ (a = b ∧ cmpI a b = 0) ∨ (b < a ∧ cmpI a b = 1) := by
  rcases Int.lt_trichotomy a b with h | h | h
  · exact .inl ⟨h, cmpI_lt h⟩
  · exact .inr (.inl ⟨h, cmpI_eq h⟩)
  · exact .inr (.inr ⟨h, cmpI_gt h⟩)
theorem ord_le (x y z u v t : Int) : ordI x y z u v t ≤ 0 ↔ x * t < u * z ∨ (x * t = u * z ∧ y * t ≤ v * z) := by
  unfold ordI
  rcases cmpI_val (x * t) (u * z) with ⟨h, e⟩ | ⟨h, e⟩ | ⟨h, e⟩ <;> rcases cmpI_val (y * t) (v * z) with ⟨h', e'⟩ | ⟨h', e'⟩ | ⟨h', e'⟩ <;> rw [e] <;> simp [e'] <;> omega
theorem ord_in (x y z u v t : Int) : ordI x y z u v t = -1 ∨ ordI x y z u v t = 0 ∨ ordI x y z u v t = 1 := by
  unfold ordI
  rcases cmpI_val (x * t) (u * z) with ⟨h, e⟩ | ⟨h, e⟩ | ⟨h, e⟩ <;> rcases cmpI_val (y * t) (v * z) with ⟨h', e'⟩ | ⟨h', e'⟩ | ⟨h', e'⟩ <;> rw [e] <;> simp [e']
theorem cmp_turned (a b : Int) : cmpI b a = -cmpI a b := by
  rcases Int.lt_trichotomy a b with h | h | h
  · rw [cmpI_lt h, cmpI_gt h]; rfl
  · rw [cmpI_eq h, cmpI_eq h.symm]; rfl
  · rw [cmpI_gt h, cmpI_lt h]
theorem ord_turned (x y z u v t : Int) : ordI u v t x y z = -ordI x y z u v t := by
  unfold ordI
  rw [cmp_turned (x * t) (u * z), cmp_turned (y * t) (v * z)]
  split <;> split <;> omega
theorem ord_trans {x y z u v t a b c : Int} (hz : 0 < z) (ht : 0 < t) (hc : 0 < c) (h1 : ordI x y z a b c ≤ 0) (h2 : ordI a b c u v t ≤ 0) : ordI x y z u v t ≤ 0 := by
  rw [ord_le] at *
  have f := frac_trans (x := x) (z := z) (a := a) (c := c) (u := u) (t := t) hz ht hc (by omega) (by omega)
  rcases Int.lt_or_eq_of_le f.1 with h | h
  · exact .inl h
  · right
    have n1 : ¬ (x * c < a * z ∨ a * t < u * c) := fun k => by have := f.2 k; omega
    have g := frac_trans (x := y) (z := z) (a := b) (c := c) (u := v) (t := t) hz ht hc (by omega) (by omega)
    exact ⟨h, g.1⟩
/-- Whether the third point lies between the two, as the model says it. -/
def btwS (x y z u v t a b c : Int) : Bool := if 0 < ordI x y z u v t then decide (ordI u v t a b c ≤ 0) && decide (ordI a b c x y z ≤ 0) && decide (turnI u v t x y z a b c = 0) else decide (ordI x y z a b c ≤ 0) && decide (ordI a b c u v t ≤ 0) && decide (turnI x y z u v t a b c = 0)
theorem turn_swap (x y z u v t a b c : Int) : turnI u v t x y z a b c = 0 ↔ turnI x y z u v t a b c = 0 := by
  unfold turnI
  have e : u * (y * c - z * b) - v * (x * c - z * a) + t * (x * b - y * a) = -(x * (v * c - t * b) - y * (u * c - t * a) + z * (u * b - v * a)) := by grind
  rw [e]
  generalize x * (v * c - t * b) - y * (u * c - t * a) + z * (u * b - v * a) = q
  rcases cmpI_val (-q) 0 with ⟨h, f⟩ | ⟨h, f⟩ | ⟨h, f⟩ <;> rcases cmpI_val q 0 with ⟨h', f'⟩ | ⟨h', f'⟩ | ⟨h', f'⟩ <;> rw [f, f'] <;> omega
theorem btw_same (x y z u v t a b c : Int) (hz : 0 < z) (ht : 0 < t) (hc : 0 < c) : (decide (turnI x y z u v t a b c = 0) && decide (0 ≤ ordI x y z a b c * ordI a b c u v t)) = btwS x y z u v t a b c := by
  have A1 := ord_in x y z u v t
  have B1 := ord_in x y z a b c
  have C1 := ord_in a b c u v t
  have B2 := ord_turned x y z a b c
  have C2 := ord_turned a b c u v t
  have A2 := ord_turned x y z u v t
  have t1 : ordI x y z a b c ≤ 0 → ordI a b c u v t ≤ 0 → ordI x y z u v t ≤ 0 := fun h k => ord_trans hz ht hc h k
  have t2 : ordI x y z u v t ≤ 0 → ordI u v t a b c ≤ 0 → ordI x y z a b c ≤ 0 := fun h k => ord_trans hz hc ht h k
  have t3 : ordI a b c x y z ≤ 0 → ordI x y z u v t ≤ 0 → ordI a b c u v t ≤ 0 := fun h k => ord_trans hc ht hz h k
  unfold btwS
  rw [show decide (turnI u v t x y z a b c = 0) = decide (turnI x y z u v t a b c = 0) by rw [Bool.eq_iff_iff, decide_eq_true_iff, decide_eq_true_iff]; exact turn_swap x y z u v t a b c]
  rw [B2] at t3 ⊢
  rw [C2] at t2 ⊢
  generalize ordI x y z u v t = A at *
  generalize ordI x y z a b c = B at *
  generalize ordI a b c u v t = C at *
  generalize decide (turnI x y z u v t a b c = 0) = q
  clear A2 B2 C2
  rcases A1 with rfl | rfl | rfl <;> rcases B1 with rfl | rfl | rfl <;> rcases C1 with rfl | rfl | rfl <;> cases q <;> first | rfl | (exfalso; first | exact absurd (t1 (by decide) (by decide)) (by decide) | exact absurd (t2 (by decide) (by decide)) (by decide) | exact absurd (t3 (by decide) (by decide)) (by decide))
end Go.Proofs.YtpnnpkchogooaaaGreat

/- The middle of two right points: the reckoning. -/
namespace Go.Proofs.YtpnnpkchogooaaaGreat
open Go.RowKit
theorem share_of {v V g z : Int} (hV : V = v * g) (hg : 0 < g) (hz : ¬ z < 0) : shareZ V g (decide (z < 0)) = v := by
  have h := share_quot (v := V) (V := V) (g := g) (z := z) (by rw [if_neg hz]) hg (by rw [hV]; exact Int.dvd_mul_left _ _)
  rw [← h, hV]
  exact Int.mul_ediv_cancel v (by omega)
theorem gcd3_times (a b c g : Int) (hg : 0 < g) : (Int.gcd (Int.gcd (a * g) (b * g) : Int) (c * g) : Int) = (Int.gcd (Int.gcd a b : Int) c : Int) * g := by
  have en : (g.natAbs : Int) = g := by omega
  have e1 : (Int.gcd (a * g) (b * g) : Int) = Int.gcd a b * g := by rw [Int.gcd_mul_right, Int.natCast_mul, en]
  rw [e1, Int.gcd_mul_right, Int.natCast_mul, en]
/-- Where a middle is told, its parts by a common factor are the sums. -/
theorem mid_cases (x y z u v t : Int) : midV x y z u v t = .tuple #[.agg #[.int .u64 0, .int .u64 0, .int .u64 0, .int .u64 0, .int .u64 0, .int .u64 0, .int .u64 0, .int .u64 0, .int .u64 0, .int .u64 0, .int .u64 0, .int .u64 0], .bool false] ∨ (ptB x y z = true ∧ ptB u v t = true ∧ ∃ a b c g, midV x y z u v t = .tuple #[PV a b c, .bool true] ∧ 0 < g ∧ x * t + u * z = a * g ∧ y * t + v * z = b * g ∧ 2 * (z * t) = c * g ∧ ptB a b c = true) := by
  by_cases hb : (ptB x y z && ptB u v t) = true
  · have hb' : ptB x y z = true ∧ ptB u v t = true := by simpa using hb
    obtain ⟨pz, -⟩ := ptB_gcd hb'.1
    obtain ⟨pt, -⟩ := ptB_gcd hb'.2
    have hzt := Int.mul_pos pz pt
    have hne : 2 * (z * t) ≠ 0 := by omega
    have hpos : ¬ 2 * (z * t) < 0 := by omega
    obtain ⟨g, hg⟩ : ∃ g, (Int.gcd (Int.gcd (x * t + u * z) (y * t + v * z) : Int) (2 * (z * t)) : Int) = g := ⟨_, rfl⟩
    have g0 : 0 < g := by
      have := Int.gcd_pos_of_ne_zero_right (Int.gcd (x * t + u * z) (y * t + v * z) : Int) hne
      omega
    have dxy : g ∣ (Int.gcd (x * t + u * z) (y * t + v * z) : Int) := by rw [← hg]; exact Int.gcd_dvd_left _ _
    obtain ⟨a, ha⟩ := Int.dvd_trans dxy (Int.gcd_dvd_left _ _)
    obtain ⟨b, hb2⟩ := Int.dvd_trans dxy (Int.gcd_dvd_right _ _)
    obtain ⟨c, hc⟩ : g ∣ 2 * (z * t) := by rw [← hg]; exact Int.gcd_dvd_right _ _
    rw [Int.mul_comm g a] at ha
    rw [Int.mul_comm g b] at hb2
    rw [Int.mul_comm g c] at hc
    have hm : midV x y z u v t = ptV a b c := by
      unfold midV
      rw [if_pos hb]
      unfold pmV
      rw [if_neg hne, hg, share_of ha g0 hpos, share_of hb2 g0 hpos, share_of hc g0 hpos]
    have c0 : 0 < c := by
      apply Decidable.byContradiction
      intro h
      have := Int.mul_nonneg (a := -c) (b := g) (by omega) (by omega)
      have e : -c * g = -(c * g) := by grind
      omega
    have g1 : Int.gcd (Int.gcd a b : Int) c = 1 := by
      rw [ha, hb2, hc, gcd3_times a b c g g0] at hg
      have : (Int.gcd (Int.gcd a b : Int) c : Int) * g = 1 * g := by omega
      have := Int.eq_of_mul_eq_mul_right (by omega) this
      omega
    by_cases hs : (small a && small b && small c) = true
    · refine Or.inr ⟨hb'.1, hb'.2, a, b, c, g, ?_, g0, ha, hb2, hc, ?_⟩
      · rw [hm]; unfold ptV; rw [if_pos hs]
      · unfold ptB
        rw [hs, g1]
        simp [c0]
    · refine Or.inl ?_
      rw [hm]; unfold ptV; rw [if_neg hs]
  · refine Or.inl ?_
    unfold midV
    rw [if_neg hb]
end Go.Proofs.YtpnnpkchogooaaaGreat

/- The square of the distance of two points: the program's walk. -/
namespace Go.Proofs.YtpnnpkchogooaaaGreat
open Go.RowKit
theorem lowest_det (x y : Int) (hx : LR x) (hy : LR y) (hx' : -6703903964971298549787012499102923063739682910296196688861780721860882015036773488400937149083451713845015929093243025426876941405973284973216824503042048 < x) (hy' : -6703903964971298549787012499102923063739682910296196688861780721860882015036773488400937149083451713845015929093243025426876941405973284973216824503042048 < y) (w : World) : Calls Tryz.prog 44 #[.agg #[.int .u64 (lw0 x), .int .u64 (lw1 x), .int .u64 (lw2 x), .int .u64 (lw3 x), .int .u64 (lw4 x), .int .u64 (lw5 x), .int .u64 (lw6 x), .int .u64 (lw7 x), .int .u64 (lw0 y), .int .u64 (lw1 y), .int .u64 (lw2 y), .int .u64 (lw3 y), .int .u64 (lw4 y), .int .u64 (lw5 y), .int .u64 (lw6 y), .int .u64 (lw7 y)]] w (VP (ratV x y) w) := by
  have h := lowest_any (lw0 x) (lw1 x) (lw2 x) (lw3 x) (lw4 x) (lw5 x) (lw6 x) (lw7 x) (lw0 y) (lw1 y) (lw2 y) (lw3 y) (lw4 y) (lw5 y) (lw6 y) (lw7 y) (lw_words x) (lw_words y) (by rw [lw_sl hx]; exact hx') (by rw [lw_sl hy]; exact hy') w
  rw [lw_sl hx, lw_sl hy] at h
  exact h
/-- The square of the distance as a fraction in lowest terms, and true; of points that are not right: zeros, and false. -/
def distV (x y z u v t : Int) : Value := if ptB x y z && ptB u v t then ratV ((x * t - z * u) * (x * t - z * u) + (y * t - z * v) * (y * t - z * v)) (z * t * (z * t)) else .tuple #[.agg #[.int .u64 0, .int .u64 0, .int .u64 0, .int .u64 0, .int .u64 0, .int .u64 0, .int .u64 0, .int .u64 0], .bool false]
theorem dt_cells {X Y W' : Int} {W : World} {gX gY gW : Nat} (BX : Blk W gX [.int .u64 (ww3 X), .int .u64 (ww2 X), .int .u64 (ww1 X), .int .u64 (ww0 X)]) (BY : Blk W gY [.int .u64 (ww3 Y), .int .u64 (ww2 Y), .int .u64 (ww1 Y), .int .u64 (ww0 Y)]) (BW : Blk W gW [.int .u64 (ww3 W'), .int .u64 (ww2 W'), .int .u64 (ww1 W'), .int .u64 (ww0 W')]) : (fun w' => w'.cell? ⟨gX, 0, none⟩ = some (.int .u64 (ww3 X)) ∧ w'.cell? ⟨gX, 1, none⟩ = some (.int .u64 (ww2 X)) ∧ w'.cell? ⟨gX, 2, none⟩ = some (.int .u64 (ww1 X)) ∧ w'.cell? ⟨gX, 3, none⟩ = some (.int .u64 (ww0 X)) ∧ w'.cell? ⟨gY, 0, none⟩ = some (.int .u64 (ww3 Y)) ∧ w'.cell? ⟨gY, 1, none⟩ = some (.int .u64 (ww2 Y)) ∧ w'.cell? ⟨gY, 2, none⟩ = some (.int .u64 (ww1 Y)) ∧ w'.cell? ⟨gY, 3, none⟩ = some (.int .u64 (ww0 Y)) ∧ w'.cell? ⟨gW, 0, none⟩ = some (.int .u64 (ww3 W')) ∧ w'.cell? ⟨gW, 1, none⟩ = some (.int .u64 (ww2 W')) ∧ w'.cell? ⟨gW, 2, none⟩ = some (.int .u64 (ww1 W')) ∧ w'.cell? ⟨gW, 3, none⟩ = some (.int .u64 (ww0 W'))) W := ⟨BX.c 0 rfl, BX.c 1 rfl, BX.c 2 rfl, BX.c 3 rfl, BY.c 0 rfl, BY.c 1 rfl, BY.c 2 rfl, BY.c 3 rfl, BW.c 0 rfl, BW.c 1 rfl, BW.c 2 rfl, BW.c 3 rfl⟩
theorem dt_cells8 {X Y W' : Int} {W : World} {gX gY gW g : Nat} {v0 v1 v2 v3 v4 v5 v6 v7 : Value} (BX : Blk W gX [.int .u64 (ww3 X), .int .u64 (ww2 X), .int .u64 (ww1 X), .int .u64 (ww0 X)]) (BY : Blk W gY [.int .u64 (ww3 Y), .int .u64 (ww2 Y), .int .u64 (ww1 Y), .int .u64 (ww0 Y)]) (BW : Blk W gW [.int .u64 (ww3 W'), .int .u64 (ww2 W'), .int .u64 (ww1 W'), .int .u64 (ww0 W')]) (hX : gX ≠ g) (hY : gY ≠ g) (hW : gW ≠ g) : (fun w' => w'.cell? ⟨gX, 0, none⟩ = some (.int .u64 (ww3 X)) ∧ w'.cell? ⟨gX, 1, none⟩ = some (.int .u64 (ww2 X)) ∧ w'.cell? ⟨gX, 2, none⟩ = some (.int .u64 (ww1 X)) ∧ w'.cell? ⟨gX, 3, none⟩ = some (.int .u64 (ww0 X)) ∧ w'.cell? ⟨gY, 0, none⟩ = some (.int .u64 (ww3 Y)) ∧ w'.cell? ⟨gY, 1, none⟩ = some (.int .u64 (ww2 Y)) ∧ w'.cell? ⟨gY, 2, none⟩ = some (.int .u64 (ww1 Y)) ∧ w'.cell? ⟨gY, 3, none⟩ = some (.int .u64 (ww0 Y)) ∧ w'.cell? ⟨gW, 0, none⟩ = some (.int .u64 (ww3 W')) ∧ w'.cell? ⟨gW, 1, none⟩ = some (.int .u64 (ww2 W')) ∧ w'.cell? ⟨gW, 2, none⟩ = some (.int .u64 (ww1 W')) ∧ w'.cell? ⟨gW, 3, none⟩ = some (.int .u64 (ww0 W'))) ((((((((W.setCell ⟨g, 0, none⟩ v0).setCell ⟨g, 1, none⟩ v1).setCell ⟨g, 2, none⟩ v2).setCell ⟨g, 3, none⟩ v3).setCell ⟨g, 4, none⟩ v4).setCell ⟨g, 5, none⟩ v5).setCell ⟨g, 6, none⟩ v6).setCell ⟨g, 7, none⟩ v7) := ⟨(BX.set8 hX).c 0 rfl, (BX.set8 hX).c 1 rfl, (BX.set8 hX).c 2 rfl, (BX.set8 hX).c 3 rfl, (BY.set8 hY).c 0 rfl, (BY.set8 hY).c 1 rfl, (BY.set8 hY).c 2 rfl, (BY.set8 hY).c 3 rfl, (BW.set8 hW).c 0 rfl, (BW.set8 hW).c 1 rfl, (BW.set8 hW).c 2 rfl, (BW.set8 hW).c 3 rfl⟩
theorem sq_abs {a : Int} {m : Nat} (h : a.natAbs ≤ m) : (a * a).natAbs ≤ m * m := abs_mul h h
set_option maxRecDepth 100000 in
set_option maxHeartbeats 8000000 in
theorem implDist2_det (x y z u v t : Int) (hx : told x = true) (hy : told y = true) (hz : told z = true) (hu : told u = true) (hv : told v = true) (ht : told t = true) (w : World) : Calls Tryz.prog 13 #[PV x y z, PV u v t] w (VP (distV x y z u v t) w) := by
  have T0 : ArgsB w (((w.alloc (.cells #[.int .u64 (ww3 x), .int .u64 (ww2 x), .int .u64 (ww1 x), .int .u64 (ww0 x), .int .u64 (ww3 y), .int .u64 (ww2 y), .int .u64 (ww1 y), .int .u64 (ww0 y), .int .u64 (ww3 z), .int .u64 (ww2 z), .int .u64 (ww1 z), .int .u64 (ww0 z)] 40)).alloc (.cells #[.int .u64 (ww3 u), .int .u64 (ww2 u), .int .u64 (ww1 u), .int .u64 (ww0 u), .int .u64 (ww3 v), .int .u64 (ww2 v), .int .u64 (ww1 v), .int .u64 (ww0 v), .int .u64 (ww3 t), .int .u64 (ww2 t), .int .u64 (ww1 t), .int .u64 (ww0 t)] 40)).alloc (.cells #[.int .u64 0, .int .u64 0, .int .u64 0, .int .u64 0, .int .u64 0, .int .u64 0, .int .u64 0, .int .u64 0] 34)) [[.int .u64 (ww3 x), .int .u64 (ww2 x), .int .u64 (ww1 x), .int .u64 (ww0 x), .int .u64 (ww3 y), .int .u64 (ww2 y), .int .u64 (ww1 y), .int .u64 (ww0 y), .int .u64 (ww3 z), .int .u64 (ww2 z), .int .u64 (ww1 z), .int .u64 (ww0 z)], [.int .u64 (ww3 u), .int .u64 (ww2 u), .int .u64 (ww1 u), .int .u64 (ww0 u), .int .u64 (ww3 v), .int .u64 (ww2 v), .int .u64 (ww1 v), .int .u64 (ww0 v), .int .u64 (ww3 t), .int .u64 (ww2 t), .int .u64 (ww1 t), .int .u64 (ww0 t)], [.int .u64 0, .int .u64 0, .int .u64 0, .int .u64 0, .int .u64 0, .int .u64 0, .int .u64 0, .int .u64 0]] := ar3 _ _ _ _ _ _ w
  have R1 := pright_det x y z hx hy hz
  have R2 := pright_det u v t hu hv ht
  clear hx hy hz hu hv ht
  go_enter Tryz.func13, Tryz.ntmps13
  go_wp2_with fail
  generalize (((w.alloc (.cells #[.int .u64 (ww3 x), .int .u64 (ww2 x), .int .u64 (ww1 x), .int .u64 (ww0 x), .int .u64 (ww3 y), .int .u64 (ww2 y), .int .u64 (ww1 y), .int .u64 (ww0 y), .int .u64 (ww3 z), .int .u64 (ww2 z), .int .u64 (ww1 z), .int .u64 (ww0 z)] 40)).alloc (.cells #[.int .u64 (ww3 u), .int .u64 (ww2 u), .int .u64 (ww1 u), .int .u64 (ww0 u), .int .u64 (ww3 v), .int .u64 (ww2 v), .int .u64 (ww1 v), .int .u64 (ww0 v), .int .u64 (ww3 t), .int .u64 (ww2 t), .int .u64 (ww1 t), .int .u64 (ww0 t)] 40)).alloc (.cells #[.int .u64 0, .int .u64 0, .int .u64 0, .int .u64 0, .int .u64 0, .int .u64 0, .int .u64 0, .int .u64 0] 34)) = WW at *
  refine (R1 _).mono ?_
  rintro e w1 ⟨rfl, hB⟩
  replace T0 := T0.step hB
  clear hB
  by_cases h1 : ptB x y z = true
  · rw [h1]
    have X0 : Blk _ w.heap.size _ := T0.b 0 rfl; have Y0 : Blk _ (w.heap.size + 1) _ := T0.b 1 rfl; have p0 := X0.c 0 rfl; have q0 := Y0.c 0 rfl; have p1 := X0.c 1 rfl; have q1 := Y0.c 1 rfl; have p2 := X0.c 2 rfl; have q2 := Y0.c 2 rfl; have p3 := X0.c 3 rfl; have q3 := Y0.c 3 rfl; have p4 := X0.c 4 rfl; have q4 := Y0.c 4 rfl; have p5 := X0.c 5 rfl; have q5 := Y0.c 5 rfl; have p6 := X0.c 6 rfl; have q6 := Y0.c 6 rfl; have p7 := X0.c 7 rfl; have q7 := Y0.c 7 rfl; have p8 := X0.c 8 rfl; have q8 := Y0.c 8 rfl; have p9 := X0.c 9 rfl; have q9 := Y0.c 9 rfl; have p10 := X0.c 10 rfl; have q10 := Y0.c 10 rfl; have p11 := X0.c 11 rfl; have q11 := Y0.c 11 rfl; clear X0 Y0
    go_wp2_with fail
    refine (R2 _).mono ?_
    rintro e w2 ⟨rfl, hB⟩
    replace T0 := T0.step hB
    clear hB p0 q0 p1 q1 p2 q2 p3 q3 p4 q4 p5 q5 p6 q6 p7 q7 p8 q8 p9 q9 p10 q10 p11 q11
    by_cases h2 : ptB u v t = true
    · rw [h2]
      obtain ⟨-, sx, sy, sz⟩ := ptB_small h1
      obtain ⟨-, su, sv, st⟩ := ptB_small h2
      have HO : Hid (distV x y z u v t = ratV ((x * t - z * u) * (x * t - z * u) + (y * t - z * v) * (y * t - z * v)) (z * t * (z * t))) := by show _ = _; unfold distV; rw [h1, h2]; rfl
      have C1 := minor_sm x z u t sx sz su st
      have C2 := minor_sm y z v t sy sz sv st
      have m1 := minor_abs sx sz su st
      have m2 := minor_abs sy sz sv st
      have m3 := sm_prod sz st
      have C3 := times_det z t (told_small sz) (told_small st)
      have C4 := toldI_det (z * t) (told_of (by omega))
      clear h1 h2 R1 R2 sx sy sz su sv st
      generalize x * t - z * u = X at *
      generalize y * t - z * v = Y at *
      generalize z * t = W at *
      have n1 := sq_abs m1
      have n2 := sq_abs m2
      have n3 := sq_abs m3
      have D1 := times_det X X (told_of (by omega)) (told_of (by omega))
      have D2 := times_det Y Y (told_of (by omega)) (told_of (by omega))
      have D3 := times_det W W (told_of (by omega)) (told_of (by omega))
      clear m1 m2 m3
      generalize X * X = XX at *
      generalize Y * Y = YY at *
      generalize W * W = WX at *
      have D4 := plus_det XX YY (lr_abs (by omega)) (lr_abs (by omega)) (lr_abs (by omega))
      have D5 := lowest_det (XX + YY) WX (lr_abs (by omega)) (lr_abs (by omega)) (by omega) (by omega)
      clear n1 n2 n3
      obtain ⟨z0, z1, z2, z3, z4, z5, z6, z7, f, hf⟩ := ratV_ex (XX + YY) WX
      rw [hf] at D5 HO
      clear hf
      generalize XX + YY = AA at *
      have X0 : Blk _ w.heap.size _ := T0.b 0 rfl; have Y0 : Blk _ (w.heap.size + 1) _ := T0.b 1 rfl; have p0 := X0.c 0 rfl; have q0 := Y0.c 0 rfl; have p1 := X0.c 1 rfl; have q1 := Y0.c 1 rfl; have p2 := X0.c 2 rfl; have q2 := Y0.c 2 rfl; have p3 := X0.c 3 rfl; have q3 := Y0.c 3 rfl; have p4 := X0.c 4 rfl; have q4 := Y0.c 4 rfl; have p5 := X0.c 5 rfl; have q5 := Y0.c 5 rfl; have p6 := X0.c 6 rfl; have q6 := Y0.c 6 rfl; have p7 := X0.c 7 rfl; have q7 := Y0.c 7 rfl; have p8 := X0.c 8 rfl; have q8 := Y0.c 8 rfl; have p9 := X0.c 9 rfl; have q9 := Y0.c 9 rfl; have p10 := X0.c 10 rfl; have q10 := Y0.c 10 rfl; have p11 := X0.c 11 rfl; have q11 := Y0.c 11 rfl; clear X0 Y0
      go_wp2_with fail
      refine (C1 _).mono ?_
      rintro e w3 ⟨rfl, hB⟩
      have hgX : w.heap.size + 2 < w3.heap.size := ((T0.step hB).b 2 rfl).lt
      replace T0 := (T0.step hB).alloc (.cells #[.int .u64 (ww3 X), .int .u64 (ww2 X), .int .u64 (ww1 X), .int .u64 (ww0 X)] 32)
      have BX := Blk.new w3 [.int .u64 (ww3 X), .int .u64 (ww2 X), .int .u64 (ww1 X), .int .u64 (ww0 X)] 32 rfl
      clear hB p0 q0 p1 q1 p2 q2 p3 q3 p4 q4 p5 q5 p6 q6 p7 q7 p8 q8 p9 q9 p10 q10 p11 q11 C1
      have X0 : Blk _ w.heap.size _ := T0.b 0 rfl; have Y0 : Blk _ (w.heap.size + 1) _ := T0.b 1 rfl; have p0 := X0.c 0 rfl; have q0 := Y0.c 0 rfl; have p1 := X0.c 1 rfl; have q1 := Y0.c 1 rfl; have p2 := X0.c 2 rfl; have q2 := Y0.c 2 rfl; have p3 := X0.c 3 rfl; have q3 := Y0.c 3 rfl; have p4 := X0.c 4 rfl; have q4 := Y0.c 4 rfl; have p5 := X0.c 5 rfl; have q5 := Y0.c 5 rfl; have p6 := X0.c 6 rfl; have q6 := Y0.c 6 rfl; have p7 := X0.c 7 rfl; have q7 := Y0.c 7 rfl; have p8 := X0.c 8 rfl; have q8 := Y0.c 8 rfl; have p9 := X0.c 9 rfl; have q9 := Y0.c 9 rfl; have p10 := X0.c 10 rfl; have q10 := Y0.c 10 rfl; have p11 := X0.c 11 rfl; have q11 := Y0.c 11 rfl; clear X0 Y0
      go_wp2_with fail
      generalize w3.heap.size = gX at *
      refine (C2 _).mono ?_
      rintro e w4 ⟨rfl, hB⟩
      have hgY : w.heap.size + 2 < w4.heap.size := ((T0.step hB).b 2 rfl).lt
      replace T0 := (T0.step hB).alloc (.cells #[.int .u64 (ww3 Y), .int .u64 (ww2 Y), .int .u64 (ww1 Y), .int .u64 (ww0 Y)] 32)
      replace BX := (BX.step hB).alloc (.cells #[.int .u64 (ww3 Y), .int .u64 (ww2 Y), .int .u64 (ww1 Y), .int .u64 (ww0 Y)] 32)
      have BY := Blk.new w4 [.int .u64 (ww3 Y), .int .u64 (ww2 Y), .int .u64 (ww1 Y), .int .u64 (ww0 Y)] 32 rfl
      clear hB p0 q0 p1 q1 p2 q2 p3 q3 p4 q4 p5 q5 p6 q6 p7 q7 p8 q8 p9 q9 p10 q10 p11 q11 C2
      have X0 : Blk _ w.heap.size _ := T0.b 0 rfl; have Y0 : Blk _ (w.heap.size + 1) _ := T0.b 1 rfl; have p0 := X0.c 0 rfl; have q0 := Y0.c 0 rfl; have p1 := X0.c 1 rfl; have q1 := Y0.c 1 rfl; have p2 := X0.c 2 rfl; have q2 := Y0.c 2 rfl; have p3 := X0.c 3 rfl; have q3 := Y0.c 3 rfl; have p4 := X0.c 4 rfl; have q4 := Y0.c 4 rfl; have p5 := X0.c 5 rfl; have q5 := Y0.c 5 rfl; have p6 := X0.c 6 rfl; have q6 := Y0.c 6 rfl; have p7 := X0.c 7 rfl; have q7 := Y0.c 7 rfl; have p8 := X0.c 8 rfl; have q8 := Y0.c 8 rfl; have p9 := X0.c 9 rfl; have q9 := Y0.c 9 rfl; have p10 := X0.c 10 rfl; have q10 := Y0.c 10 rfl; have p11 := X0.c 11 rfl; have q11 := Y0.c 11 rfl; clear X0 Y0
      go_wp2_with fail
      generalize w4.heap.size = gY at *
      refine (C3 _).mono ?_
      rintro e w5 ⟨rfl, hB⟩
      replace T0 := T0.step hB
      replace BX := BX.step hB
      replace BY := BY.step hB
      clear hB p0 q0 p1 q1 p2 q2 p3 q3 p4 q4 p5 q5 p6 q6 p7 q7 p8 q8 p9 q9 p10 q10 p11 q11 C3
      go_wp2_with fail
      refine (C4 _).mono ?_
      rintro e w6 ⟨rfl, hB⟩
      have hgW : w.heap.size + 2 < w6.heap.size := ((T0.step hB).b 2 rfl).lt
      replace T0 := (T0.step hB).alloc (.cells #[.int .u64 (ww3 W), .int .u64 (ww2 W), .int .u64 (ww1 W), .int .u64 (ww0 W)] 32)
      replace BX := (BX.step hB).alloc (.cells #[.int .u64 (ww3 W), .int .u64 (ww2 W), .int .u64 (ww1 W), .int .u64 (ww0 W)] 32)
      replace BY := (BY.step hB).alloc (.cells #[.int .u64 (ww3 W), .int .u64 (ww2 W), .int .u64 (ww1 W), .int .u64 (ww0 W)] 32)
      have BW := Blk.new w6 [.int .u64 (ww3 W), .int .u64 (ww2 W), .int .u64 (ww1 W), .int .u64 (ww0 W)] 32 rfl
      clear hB C4
      have tok1 : True := trivial
      have tok2 : True := trivial
      go_upto_region 6 with fail
      generalize w6.alloc (.cells #[.int .u64 (ww3 W), .int .u64 (ww2 W), .int .u64 (ww1 W), .int .u64 (ww0 W)] 32) = W6 at *
      generalize w6.heap.size = gW at *
      go_region_held3 (fun w' => w'.cell? ⟨gX, 0, none⟩ = some (.int .u64 (ww3 X)) ∧ w'.cell? ⟨gX, 1, none⟩ = some (.int .u64 (ww2 X)) ∧ w'.cell? ⟨gX, 2, none⟩ = some (.int .u64 (ww1 X)) ∧ w'.cell? ⟨gX, 3, none⟩ = some (.int .u64 (ww0 X)) ∧ w'.cell? ⟨gY, 0, none⟩ = some (.int .u64 (ww3 Y)) ∧ w'.cell? ⟨gY, 1, none⟩ = some (.int .u64 (ww2 Y)) ∧ w'.cell? ⟨gY, 2, none⟩ = some (.int .u64 (ww1 Y)) ∧ w'.cell? ⟨gY, 3, none⟩ = some (.int .u64 (ww0 Y)) ∧ w'.cell? ⟨gW, 0, none⟩ = some (.int .u64 (ww3 W)) ∧ w'.cell? ⟨gW, 1, none⟩ = some (.int .u64 (ww2 W)) ∧ w'.cell? ⟨gW, 2, none⟩ = some (.int .u64 (ww1 W)) ∧ w'.cell? ⟨gW, 3, none⟩ = some (.int .u64 (ww0 W))) (first | (with_reducible exact dt_cells BX BY BW) | (with_reducible exact dt_cells BX.drew BY.drew BW.drew) | (with_reducible exact dt_cells8 BX BY BW (by omega) (by omega) (by omega)))
        (first
          | (go_at_call 33; have _t := tok1; refine (D1 _).mono ?_; rintro e k1 ⟨rfl, hB⟩; (first | (replace BX := BX.step hB; replace BY := BY.step hB; replace BW := BW.step hB; replace T0 := T0.step hB) | (replace BX := BX.drew.step hB; replace BY := BY.drew.step hB; replace BW := BW.drew.step hB; replace T0 := T0.drew.step hB)); clear hB; clear tok1 _t)
          | (go_at_call 33; have _t := tok2; refine (D2 _).mono ?_; rintro e k2 ⟨rfl, hB⟩; (first | (replace BX := BX.step hB; replace BY := BY.step hB; replace BW := BW.step hB; replace T0 := T0.step hB) | (replace BX := BX.drew.step hB; replace BY := BY.drew.step hB; replace BW := BW.drew.step hB; replace T0 := T0.drew.step hB)); clear hB; clear tok2 _t)
          | (go_at_call 33; refine (D3 _).mono ?_; rintro e k3 ⟨rfl, hB⟩; (first | (replace BX := BX.step hB; replace BY := BY.step hB; replace BW := BW.step hB; replace T0 := T0.step hB) | (replace BX := BX.drew.step hB; replace BY := BY.drew.step hB; replace BW := BW.drew.step hB; replace T0 := T0.drew.step hB)); clear hB)
          | (go_at_call 43; refine (D4 _).mono ?_; rintro e k4 ⟨rfl, hB⟩; (first | (replace BX := BX.step hB; replace BY := BY.step hB; replace BW := BW.step hB; replace T0 := T0.step hB) | (replace BX := BX.drew.step hB; replace BY := BY.drew.step hB; replace BW := BW.drew.step hB; replace T0 := T0.drew.step hB)); clear hB)
          | (go_at_call 44; refine (D5 _).mono ?_; rintro e k5 ⟨rfl, hB⟩; (first | (replace BX := BX.step hB; replace BY := BY.step hB; replace BW := BW.step hB; replace T0 := T0.step hB) | (replace BX := BX.drew.step hB; replace BY := BY.drew.step hB; replace BW := BW.drew.step hB; replace T0 := T0.drew.step hB)); clear hB; have o0 := (T0.b 2 rfl).c 0 rfl; have r0 := (T0.b 2 rfl).f 0 rfl; have o1 := (T0.b 2 rfl).c 1 rfl; have r1 := (T0.b 2 rfl).f 1 rfl; have o2 := (T0.b 2 rfl).c 2 rfl; have r2 := (T0.b 2 rfl).f 2 rfl; have o3 := (T0.b 2 rfl).c 3 rfl; have r3 := (T0.b 2 rfl).f 3 rfl; have o4 := (T0.b 2 rfl).c 4 rfl; have r4 := (T0.b 2 rfl).f 4 rfl; have o5 := (T0.b 2 rfl).c 5 rfl; have r5 := (T0.b 2 rfl).f 5 rfl; have o6 := (T0.b 2 rfl).c 6 rfl; have r6 := (T0.b 2 rfl).f 6 rfl; have o7 := (T0.b 2 rfl).c 7 rfl; have r7 := (T0.b 2 rfl).f 7 rfl; have olt := (T0.b 2 rfl).lt))
      all_goals have HB := T0.below
      all_goals clear BX BY BW T0
      all_goals go_wp2
      all_goals refine bodyPost_ret (v := .tuple #[.agg #[.int .u64 z0, .int .u64 z1, .int .u64 z2, .int .u64 z3, .int .u64 z4, .int .u64 z5, .int .u64 z6, .int .u64 z7], .bool f]) (by simp [results, Tryz.results13, go_sem, o0, o1, o2, o3, o4, o5, o6, o7]) rfl ?_
      all_goals refine ⟨by rw [HO.out], ?_⟩
      all_goals repeat' (refine Below.setCell ?_ (by simp; try omega) _)
      all_goals first | exact HB | exact HB.drew
    · replace h2 := Bool.eq_false_iff.2 h2
      rw [h2]
      have HO : Hid (distV x y z u v t = .tuple #[.agg #[.int .u64 0, .int .u64 0, .int .u64 0, .int .u64 0, .int .u64 0, .int .u64 0, .int .u64 0, .int .u64 0], .bool false]) := by show _ = _; unfold distV; rw [h2]; simp
      have o0 := (T0.b 2 rfl).c 0 rfl; have r0 := (T0.b 2 rfl).f 0 rfl; have o1 := (T0.b 2 rfl).c 1 rfl; have r1 := (T0.b 2 rfl).f 1 rfl; have o2 := (T0.b 2 rfl).c 2 rfl; have r2 := (T0.b 2 rfl).f 2 rfl; have o3 := (T0.b 2 rfl).c 3 rfl; have r3 := (T0.b 2 rfl).f 3 rfl; have o4 := (T0.b 2 rfl).c 4 rfl; have r4 := (T0.b 2 rfl).f 4 rfl; have o5 := (T0.b 2 rfl).c 5 rfl; have r5 := (T0.b 2 rfl).f 5 rfl; have o6 := (T0.b 2 rfl).c 6 rfl; have r6 := (T0.b 2 rfl).f 6 rfl; have o7 := (T0.b 2 rfl).c 7 rfl; have r7 := (T0.b 2 rfl).f 7 rfl; have olt := (T0.b 2 rfl).lt
      have HB := T0.below
      clear T0 h1 h2 R1 R2
      go_wp2
      refine bodyPost_ret (v := .tuple #[.agg #[.int .u64 0, .int .u64 0, .int .u64 0, .int .u64 0, .int .u64 0, .int .u64 0, .int .u64 0, .int .u64 0], .bool false]) (by simp [results, Tryz.results13, go_sem, o0, o1, o2, o3, o4, o5, o6, o7]) rfl ?_
      refine ⟨by rw [HO.out], ?_⟩
      repeat' (refine Below.setCell ?_ (by simp; try omega) _)
      exact HB
  · replace h1 := Bool.eq_false_iff.2 h1
    rw [h1]
    have HO : Hid (distV x y z u v t = .tuple #[.agg #[.int .u64 0, .int .u64 0, .int .u64 0, .int .u64 0, .int .u64 0, .int .u64 0, .int .u64 0, .int .u64 0], .bool false]) := by show _ = _; unfold distV; rw [h1]; simp
    have o0 := (T0.b 2 rfl).c 0 rfl; have r0 := (T0.b 2 rfl).f 0 rfl; have o1 := (T0.b 2 rfl).c 1 rfl; have r1 := (T0.b 2 rfl).f 1 rfl; have o2 := (T0.b 2 rfl).c 2 rfl; have r2 := (T0.b 2 rfl).f 2 rfl; have o3 := (T0.b 2 rfl).c 3 rfl; have r3 := (T0.b 2 rfl).f 3 rfl; have o4 := (T0.b 2 rfl).c 4 rfl; have r4 := (T0.b 2 rfl).f 4 rfl; have o5 := (T0.b 2 rfl).c 5 rfl; have r5 := (T0.b 2 rfl).f 5 rfl; have o6 := (T0.b 2 rfl).c 6 rfl; have r6 := (T0.b 2 rfl).f 6 rfl; have o7 := (T0.b 2 rfl).c 7 rfl; have r7 := (T0.b 2 rfl).f 7 rfl; have olt := (T0.b 2 rfl).lt
    have HB := T0.below
    clear T0 h1 R1 R2
    go_wp2
    refine bodyPost_ret (v := .tuple #[.agg #[.int .u64 0, .int .u64 0, .int .u64 0, .int .u64 0, .int .u64 0, .int .u64 0, .int .u64 0, .int .u64 0], .bool false]) (by simp [results, Tryz.results13, go_sem, o0, o1, o2, o3, o4, o5, o6, o7]) rfl ?_
    refine ⟨by rw [HO.out], ?_⟩
    repeat' (refine Below.setCell ?_ (by simp; try omega) _)
    exact HB
end Go.Proofs.YtpnnpkchogooaaaGreat

/- Fractions with both parts multiplied; distances to the middle: the reckoning. -/
namespace Go.Proofs.YtpnnpkchogooaaaGreat
open Go.RowKit
end Go.Proofs.YtpnnpkchogooaaaGreat

/- What lies between two points: the program's walks. -/
namespace Go.Proofs.YtpnnpkchogooaaaGreat
open Go.RowKit
theorem b3_cells {x y z u v t a b c : Int} {w W : World} (T0 : ArgsB w W [[.int .u64 (ww3 x), .int .u64 (ww2 x), .int .u64 (ww1 x), .int .u64 (ww0 x), .int .u64 (ww3 y), .int .u64 (ww2 y), .int .u64 (ww1 y), .int .u64 (ww0 y), .int .u64 (ww3 z), .int .u64 (ww2 z), .int .u64 (ww1 z), .int .u64 (ww0 z)], [.int .u64 (ww3 u), .int .u64 (ww2 u), .int .u64 (ww1 u), .int .u64 (ww0 u), .int .u64 (ww3 v), .int .u64 (ww2 v), .int .u64 (ww1 v), .int .u64 (ww0 v), .int .u64 (ww3 t), .int .u64 (ww2 t), .int .u64 (ww1 t), .int .u64 (ww0 t)], [.int .u64 (ww3 a), .int .u64 (ww2 a), .int .u64 (ww1 a), .int .u64 (ww0 a), .int .u64 (ww3 b), .int .u64 (ww2 b), .int .u64 (ww1 b), .int .u64 (ww0 b), .int .u64 (ww3 c), .int .u64 (ww2 c), .int .u64 (ww1 c), .int .u64 (ww0 c)]]) : (fun w' => w'.cell? ⟨w.heap.size, 0, none⟩ = some (.int .u64 (ww3 x)) ∧ w'.cell? ⟨w.heap.size, 1, none⟩ = some (.int .u64 (ww2 x)) ∧ w'.cell? ⟨w.heap.size, 2, none⟩ = some (.int .u64 (ww1 x)) ∧ w'.cell? ⟨w.heap.size, 3, none⟩ = some (.int .u64 (ww0 x)) ∧ w'.cell? ⟨w.heap.size, 4, none⟩ = some (.int .u64 (ww3 y)) ∧ w'.cell? ⟨w.heap.size, 5, none⟩ = some (.int .u64 (ww2 y)) ∧ w'.cell? ⟨w.heap.size, 6, none⟩ = some (.int .u64 (ww1 y)) ∧ w'.cell? ⟨w.heap.size, 7, none⟩ = some (.int .u64 (ww0 y)) ∧ w'.cell? ⟨w.heap.size, 8, none⟩ = some (.int .u64 (ww3 z)) ∧ w'.cell? ⟨w.heap.size, 9, none⟩ = some (.int .u64 (ww2 z)) ∧ w'.cell? ⟨w.heap.size, 10, none⟩ = some (.int .u64 (ww1 z)) ∧ w'.cell? ⟨w.heap.size, 11, none⟩ = some (.int .u64 (ww0 z)) ∧ w'.cell? ⟨w.heap.size + 1, 0, none⟩ = some (.int .u64 (ww3 u)) ∧ w'.cell? ⟨w.heap.size + 1, 1, none⟩ = some (.int .u64 (ww2 u)) ∧ w'.cell? ⟨w.heap.size + 1, 2, none⟩ = some (.int .u64 (ww1 u)) ∧ w'.cell? ⟨w.heap.size + 1, 3, none⟩ = some (.int .u64 (ww0 u)) ∧ w'.cell? ⟨w.heap.size + 1, 4, none⟩ = some (.int .u64 (ww3 v)) ∧ w'.cell? ⟨w.heap.size + 1, 5, none⟩ = some (.int .u64 (ww2 v)) ∧ w'.cell? ⟨w.heap.size + 1, 6, none⟩ = some (.int .u64 (ww1 v)) ∧ w'.cell? ⟨w.heap.size + 1, 7, none⟩ = some (.int .u64 (ww0 v)) ∧ w'.cell? ⟨w.heap.size + 1, 8, none⟩ = some (.int .u64 (ww3 t)) ∧ w'.cell? ⟨w.heap.size + 1, 9, none⟩ = some (.int .u64 (ww2 t)) ∧ w'.cell? ⟨w.heap.size + 1, 10, none⟩ = some (.int .u64 (ww1 t)) ∧ w'.cell? ⟨w.heap.size + 1, 11, none⟩ = some (.int .u64 (ww0 t)) ∧ w'.cell? ⟨w.heap.size + 2, 0, none⟩ = some (.int .u64 (ww3 a)) ∧ w'.cell? ⟨w.heap.size + 2, 1, none⟩ = some (.int .u64 (ww2 a)) ∧ w'.cell? ⟨w.heap.size + 2, 2, none⟩ = some (.int .u64 (ww1 a)) ∧ w'.cell? ⟨w.heap.size + 2, 3, none⟩ = some (.int .u64 (ww0 a)) ∧ w'.cell? ⟨w.heap.size + 2, 4, none⟩ = some (.int .u64 (ww3 b)) ∧ w'.cell? ⟨w.heap.size + 2, 5, none⟩ = some (.int .u64 (ww2 b)) ∧ w'.cell? ⟨w.heap.size + 2, 6, none⟩ = some (.int .u64 (ww1 b)) ∧ w'.cell? ⟨w.heap.size + 2, 7, none⟩ = some (.int .u64 (ww0 b)) ∧ w'.cell? ⟨w.heap.size + 2, 8, none⟩ = some (.int .u64 (ww3 c)) ∧ w'.cell? ⟨w.heap.size + 2, 9, none⟩ = some (.int .u64 (ww2 c)) ∧ w'.cell? ⟨w.heap.size + 2, 10, none⟩ = some (.int .u64 (ww1 c)) ∧ w'.cell? ⟨w.heap.size + 2, 11, none⟩ = some (.int .u64 (ww0 c))) W := ⟨(T0.b 0 rfl).c 0 rfl, (T0.b 0 rfl).c 1 rfl, (T0.b 0 rfl).c 2 rfl, (T0.b 0 rfl).c 3 rfl, (T0.b 0 rfl).c 4 rfl, (T0.b 0 rfl).c 5 rfl, (T0.b 0 rfl).c 6 rfl, (T0.b 0 rfl).c 7 rfl, (T0.b 0 rfl).c 8 rfl, (T0.b 0 rfl).c 9 rfl, (T0.b 0 rfl).c 10 rfl, (T0.b 0 rfl).c 11 rfl, (T0.b 1 rfl).c 0 rfl, (T0.b 1 rfl).c 1 rfl, (T0.b 1 rfl).c 2 rfl, (T0.b 1 rfl).c 3 rfl, (T0.b 1 rfl).c 4 rfl, (T0.b 1 rfl).c 5 rfl, (T0.b 1 rfl).c 6 rfl, (T0.b 1 rfl).c 7 rfl, (T0.b 1 rfl).c 8 rfl, (T0.b 1 rfl).c 9 rfl, (T0.b 1 rfl).c 10 rfl, (T0.b 1 rfl).c 11 rfl, (T0.b 2 rfl).c 0 rfl, (T0.b 2 rfl).c 1 rfl, (T0.b 2 rfl).c 2 rfl, (T0.b 2 rfl).c 3 rfl, (T0.b 2 rfl).c 4 rfl, (T0.b 2 rfl).c 5 rfl, (T0.b 2 rfl).c 6 rfl, (T0.b 2 rfl).c 7 rfl, (T0.b 2 rfl).c 8 rfl, (T0.b 2 rfl).c 9 rfl, (T0.b 2 rfl).c 10 rfl, (T0.b 2 rfl).c 11 rfl⟩
set_option maxRecDepth 100000 in
set_option maxHeartbeats 8000000 in
theorem lies_det (x y z u v t a b c : Int) (sx : small x = true) (sy : small y = true) (sz : small z = true) (su : small u = true) (sv : small v = true) (st : small t = true) (sa : small a = true) (sb : small b = true) (sc : small c = true) (hz : 0 < z) (ht : 0 < t) (hc : 0 < c) (w : World) : Calls Tryz.prog 81 #[PV x y z, PV u v t, PV a b c] w (VP (.bool (btwS x y z u v t a b c)) w) := by
  have T0 : ArgsB w (((w.alloc (.cells #[.int .u64 (ww3 x), .int .u64 (ww2 x), .int .u64 (ww1 x), .int .u64 (ww0 x), .int .u64 (ww3 y), .int .u64 (ww2 y), .int .u64 (ww1 y), .int .u64 (ww0 y), .int .u64 (ww3 z), .int .u64 (ww2 z), .int .u64 (ww1 z), .int .u64 (ww0 z)] 40)).alloc (.cells #[.int .u64 (ww3 u), .int .u64 (ww2 u), .int .u64 (ww1 u), .int .u64 (ww0 u), .int .u64 (ww3 v), .int .u64 (ww2 v), .int .u64 (ww1 v), .int .u64 (ww0 v), .int .u64 (ww3 t), .int .u64 (ww2 t), .int .u64 (ww1 t), .int .u64 (ww0 t)] 40)).alloc (.cells #[.int .u64 (ww3 a), .int .u64 (ww2 a), .int .u64 (ww1 a), .int .u64 (ww0 a), .int .u64 (ww3 b), .int .u64 (ww2 b), .int .u64 (ww1 b), .int .u64 (ww0 b), .int .u64 (ww3 c), .int .u64 (ww2 c), .int .u64 (ww1 c), .int .u64 (ww0 c)] 40)) [[.int .u64 (ww3 x), .int .u64 (ww2 x), .int .u64 (ww1 x), .int .u64 (ww0 x), .int .u64 (ww3 y), .int .u64 (ww2 y), .int .u64 (ww1 y), .int .u64 (ww0 y), .int .u64 (ww3 z), .int .u64 (ww2 z), .int .u64 (ww1 z), .int .u64 (ww0 z)], [.int .u64 (ww3 u), .int .u64 (ww2 u), .int .u64 (ww1 u), .int .u64 (ww0 u), .int .u64 (ww3 v), .int .u64 (ww2 v), .int .u64 (ww1 v), .int .u64 (ww0 v), .int .u64 (ww3 t), .int .u64 (ww2 t), .int .u64 (ww1 t), .int .u64 (ww0 t)], [.int .u64 (ww3 a), .int .u64 (ww2 a), .int .u64 (ww1 a), .int .u64 (ww0 a), .int .u64 (ww3 b), .int .u64 (ww2 b), .int .u64 (ww1 b), .int .u64 (ww0 b), .int .u64 (ww3 c), .int .u64 (ww2 c), .int .u64 (ww1 c), .int .u64 (ww0 c)]] := ar3 _ _ _ _ _ _ w
  have C1 := turn_det x y z u v t a b c sx sy sz su sv st sa sb sc
  rw [turn_same] at C1
  have C2 := order_det x y z a b c sx sy sz sa sb sc
  have C3 := order_det a b c u v t sa sb sc su sv st
  have hw : IntKind.i64.wrap (ordI x y z a b c * ordI a b c u v t) = ordI x y z a b c * ordI a b c u v t := by
    rcases ord_in x y z a b c with h | h | h <;> rcases ord_in a b c u v t with k | k | k <;> rw [h, k] <;> decide
  have HO : Hid ((decide (turnI x y z u v t a b c = 0) && decide (0 ≤ ordI x y z a b c * ordI a b c u v t)) = btwS x y z u v t a b c) := btw_same x y z u v t a b c hz ht hc
  clear sx sy sz su sv st sa sb sc hz ht hc
  generalize btwS x y z u v t a b c = R at *
  generalize turnI x y z u v t a b c = o1 at *
  generalize ordI x y z a b c = o2 at *
  generalize ordI a b c u v t = o3 at *
  go_enter Tryz.func81, Tryz.ntmps81
  go_upto_region 1 with fail
  generalize (((w.alloc (.cells #[.int .u64 (ww3 x), .int .u64 (ww2 x), .int .u64 (ww1 x), .int .u64 (ww0 x), .int .u64 (ww3 y), .int .u64 (ww2 y), .int .u64 (ww1 y), .int .u64 (ww0 y), .int .u64 (ww3 z), .int .u64 (ww2 z), .int .u64 (ww1 z), .int .u64 (ww0 z)] 40)).alloc (.cells #[.int .u64 (ww3 u), .int .u64 (ww2 u), .int .u64 (ww1 u), .int .u64 (ww0 u), .int .u64 (ww3 v), .int .u64 (ww2 v), .int .u64 (ww1 v), .int .u64 (ww0 v), .int .u64 (ww3 t), .int .u64 (ww2 t), .int .u64 (ww1 t), .int .u64 (ww0 t)] 40)).alloc (.cells #[.int .u64 (ww3 a), .int .u64 (ww2 a), .int .u64 (ww1 a), .int .u64 (ww0 a), .int .u64 (ww3 b), .int .u64 (ww2 b), .int .u64 (ww1 b), .int .u64 (ww0 b), .int .u64 (ww3 c), .int .u64 (ww2 c), .int .u64 (ww1 c), .int .u64 (ww0 c)] 40)) = W at *
  by_cases h : o1 = 0
  · subst h
    have HR : Hid (decide (0 ≤ o2 * o3) = R) := by show _ = _; rw [← HO.out]; simp
    clear HO
    have tok1 : True := trivial
    go_region_held3 (fun w' => w'.cell? ⟨w.heap.size, 0, none⟩ = some (.int .u64 (ww3 x)) ∧ w'.cell? ⟨w.heap.size, 1, none⟩ = some (.int .u64 (ww2 x)) ∧ w'.cell? ⟨w.heap.size, 2, none⟩ = some (.int .u64 (ww1 x)) ∧ w'.cell? ⟨w.heap.size, 3, none⟩ = some (.int .u64 (ww0 x)) ∧ w'.cell? ⟨w.heap.size, 4, none⟩ = some (.int .u64 (ww3 y)) ∧ w'.cell? ⟨w.heap.size, 5, none⟩ = some (.int .u64 (ww2 y)) ∧ w'.cell? ⟨w.heap.size, 6, none⟩ = some (.int .u64 (ww1 y)) ∧ w'.cell? ⟨w.heap.size, 7, none⟩ = some (.int .u64 (ww0 y)) ∧ w'.cell? ⟨w.heap.size, 8, none⟩ = some (.int .u64 (ww3 z)) ∧ w'.cell? ⟨w.heap.size, 9, none⟩ = some (.int .u64 (ww2 z)) ∧ w'.cell? ⟨w.heap.size, 10, none⟩ = some (.int .u64 (ww1 z)) ∧ w'.cell? ⟨w.heap.size, 11, none⟩ = some (.int .u64 (ww0 z)) ∧ w'.cell? ⟨w.heap.size + 1, 0, none⟩ = some (.int .u64 (ww3 u)) ∧ w'.cell? ⟨w.heap.size + 1, 1, none⟩ = some (.int .u64 (ww2 u)) ∧ w'.cell? ⟨w.heap.size + 1, 2, none⟩ = some (.int .u64 (ww1 u)) ∧ w'.cell? ⟨w.heap.size + 1, 3, none⟩ = some (.int .u64 (ww0 u)) ∧ w'.cell? ⟨w.heap.size + 1, 4, none⟩ = some (.int .u64 (ww3 v)) ∧ w'.cell? ⟨w.heap.size + 1, 5, none⟩ = some (.int .u64 (ww2 v)) ∧ w'.cell? ⟨w.heap.size + 1, 6, none⟩ = some (.int .u64 (ww1 v)) ∧ w'.cell? ⟨w.heap.size + 1, 7, none⟩ = some (.int .u64 (ww0 v)) ∧ w'.cell? ⟨w.heap.size + 1, 8, none⟩ = some (.int .u64 (ww3 t)) ∧ w'.cell? ⟨w.heap.size + 1, 9, none⟩ = some (.int .u64 (ww2 t)) ∧ w'.cell? ⟨w.heap.size + 1, 10, none⟩ = some (.int .u64 (ww1 t)) ∧ w'.cell? ⟨w.heap.size + 1, 11, none⟩ = some (.int .u64 (ww0 t)) ∧ w'.cell? ⟨w.heap.size + 2, 0, none⟩ = some (.int .u64 (ww3 a)) ∧ w'.cell? ⟨w.heap.size + 2, 1, none⟩ = some (.int .u64 (ww2 a)) ∧ w'.cell? ⟨w.heap.size + 2, 2, none⟩ = some (.int .u64 (ww1 a)) ∧ w'.cell? ⟨w.heap.size + 2, 3, none⟩ = some (.int .u64 (ww0 a)) ∧ w'.cell? ⟨w.heap.size + 2, 4, none⟩ = some (.int .u64 (ww3 b)) ∧ w'.cell? ⟨w.heap.size + 2, 5, none⟩ = some (.int .u64 (ww2 b)) ∧ w'.cell? ⟨w.heap.size + 2, 6, none⟩ = some (.int .u64 (ww1 b)) ∧ w'.cell? ⟨w.heap.size + 2, 7, none⟩ = some (.int .u64 (ww0 b)) ∧ w'.cell? ⟨w.heap.size + 2, 8, none⟩ = some (.int .u64 (ww3 c)) ∧ w'.cell? ⟨w.heap.size + 2, 9, none⟩ = some (.int .u64 (ww2 c)) ∧ w'.cell? ⟨w.heap.size + 2, 10, none⟩ = some (.int .u64 (ww1 c)) ∧ w'.cell? ⟨w.heap.size + 2, 11, none⟩ = some (.int .u64 (ww0 c))) (first | (with_reducible exact b3_cells T0) | (with_reducible exact b3_cells T0.drew))
      (first
        | (go_at_call 94; refine (C1 _).mono ?_; rintro e v1 ⟨rfl, hB⟩; (first | (have T1 := T0.step hB) | (have T1 := T0.drew.step hB)); clear T0; have T0 := T1; clear T1; clear hB)
        | (go_at_call 54; have _t := tok1; refine (C2 _).mono ?_; rintro e v2 ⟨rfl, hB⟩; (first | (have T1 := T0.step hB) | (have T1 := T0.drew.step hB)); clear T0; have T0 := T1; clear T1; clear hB; clear tok1 _t)
        | (go_at_call 54; refine (C3 _).mono ?_; rintro e v3 ⟨rfl, hB⟩; (first | (have T1 := T0.step hB) | (have T1 := T0.drew.step hB)); clear T0; have T0 := T1; clear T1; clear hB))
    all_goals have HB := T0.below
    all_goals clear T0
    all_goals go_wp2
    all_goals go_ret
    all_goals exact ⟨by rw [← HR.out]; simp, by first | exact HB | exact HB.drew⟩
  · have ho : (o1 == 0) = false := beq_eq_false_iff_ne.2 h
    have HR : Hid (R = false) := by show _ = _; rw [← HO.out]; simp [h]
    clear HO h hw
    refine wp_region_held_drew (S := (fun w' => w'.cell? ⟨w.heap.size, 0, none⟩ = some (.int .u64 (ww3 x)) ∧ w'.cell? ⟨w.heap.size, 1, none⟩ = some (.int .u64 (ww2 x)) ∧ w'.cell? ⟨w.heap.size, 2, none⟩ = some (.int .u64 (ww1 x)) ∧ w'.cell? ⟨w.heap.size, 3, none⟩ = some (.int .u64 (ww0 x)) ∧ w'.cell? ⟨w.heap.size, 4, none⟩ = some (.int .u64 (ww3 y)) ∧ w'.cell? ⟨w.heap.size, 5, none⟩ = some (.int .u64 (ww2 y)) ∧ w'.cell? ⟨w.heap.size, 6, none⟩ = some (.int .u64 (ww1 y)) ∧ w'.cell? ⟨w.heap.size, 7, none⟩ = some (.int .u64 (ww0 y)) ∧ w'.cell? ⟨w.heap.size, 8, none⟩ = some (.int .u64 (ww3 z)) ∧ w'.cell? ⟨w.heap.size, 9, none⟩ = some (.int .u64 (ww2 z)) ∧ w'.cell? ⟨w.heap.size, 10, none⟩ = some (.int .u64 (ww1 z)) ∧ w'.cell? ⟨w.heap.size, 11, none⟩ = some (.int .u64 (ww0 z)) ∧ w'.cell? ⟨w.heap.size + 1, 0, none⟩ = some (.int .u64 (ww3 u)) ∧ w'.cell? ⟨w.heap.size + 1, 1, none⟩ = some (.int .u64 (ww2 u)) ∧ w'.cell? ⟨w.heap.size + 1, 2, none⟩ = some (.int .u64 (ww1 u)) ∧ w'.cell? ⟨w.heap.size + 1, 3, none⟩ = some (.int .u64 (ww0 u)) ∧ w'.cell? ⟨w.heap.size + 1, 4, none⟩ = some (.int .u64 (ww3 v)) ∧ w'.cell? ⟨w.heap.size + 1, 5, none⟩ = some (.int .u64 (ww2 v)) ∧ w'.cell? ⟨w.heap.size + 1, 6, none⟩ = some (.int .u64 (ww1 v)) ∧ w'.cell? ⟨w.heap.size + 1, 7, none⟩ = some (.int .u64 (ww0 v)) ∧ w'.cell? ⟨w.heap.size + 1, 8, none⟩ = some (.int .u64 (ww3 t)) ∧ w'.cell? ⟨w.heap.size + 1, 9, none⟩ = some (.int .u64 (ww2 t)) ∧ w'.cell? ⟨w.heap.size + 1, 10, none⟩ = some (.int .u64 (ww1 t)) ∧ w'.cell? ⟨w.heap.size + 1, 11, none⟩ = some (.int .u64 (ww0 t)) ∧ w'.cell? ⟨w.heap.size + 2, 0, none⟩ = some (.int .u64 (ww3 a)) ∧ w'.cell? ⟨w.heap.size + 2, 1, none⟩ = some (.int .u64 (ww2 a)) ∧ w'.cell? ⟨w.heap.size + 2, 2, none⟩ = some (.int .u64 (ww1 a)) ∧ w'.cell? ⟨w.heap.size + 2, 3, none⟩ = some (.int .u64 (ww0 a)) ∧ w'.cell? ⟨w.heap.size + 2, 4, none⟩ = some (.int .u64 (ww3 b)) ∧ w'.cell? ⟨w.heap.size + 2, 5, none⟩ = some (.int .u64 (ww2 b)) ∧ w'.cell? ⟨w.heap.size + 2, 6, none⟩ = some (.int .u64 (ww1 b)) ∧ w'.cell? ⟨w.heap.size + 2, 7, none⟩ = some (.int .u64 (ww0 b)) ∧ w'.cell? ⟨w.heap.size + 2, 8, none⟩ = some (.int .u64 (ww3 c)) ∧ w'.cell? ⟨w.heap.size + 2, 9, none⟩ = some (.int .u64 (ww2 c)) ∧ w'.cell? ⟨w.heap.size + 2, 10, none⟩ = some (.int .u64 (ww1 c)) ∧ w'.cell? ⟨w.heap.size + 2, 11, none⟩ = some (.int .u64 (ww0 c)))) (by kernel_rfl) (b3_cells T0.drew) (fun hHeld => ?_)
    refine wpAnyH_take (i := 0) (v := PV x y z) rfl (by kernel_rfl) (by kernel_rfl) (by kernel_rfl) (fun _ _ _ h => h) (Or.inl ⟨by kernel_rfl, ?_⟩) (by assumption) ?_
    · intro w hSw
      (try dsimp only at hSw)
      go_simp
    refine wpAnyH_take (i := 1) (v := PV u v t) rfl (by kernel_rfl) (by kernel_rfl) (by kernel_rfl) (fun _ _ _ h => h) (Or.inl ⟨by kernel_rfl, ?_⟩) (by assumption) ?_
    · intro w hSw
      (try dsimp only at hSw)
      go_simp
    refine wpAnyH_take (i := 2) (v := PV a b c) rfl (by kernel_rfl) (by kernel_rfl) (by kernel_rfl) (fun _ _ _ h => h) (Or.inl ⟨by kernel_rfl, ?_⟩) (by assumption) ?_
    · intro w hSw
      (try dsimp only at hSw)
      go_simp
    refine wpAnyH_ready (rs := [3]) (by kernel_rfl) (by simp) ?_
    refine AllReadyH.cons rfl (fun K hK => ?_) AllReadyH.nil
    go_simp
    go_wp2_with (go_at_call 94; refine (C1 _).mono ?_; rintro e v1 ⟨rfl, hB⟩; (first | (have T1 := T0.step hB) | (have T1 := T0.drew.step hB)); clear T0; have T0 := T1; clear T1; clear hB)
    clear hHeld
    refine hK.out _ _ (b3_cells T0) (fun hHeld => ?_)
    clear hK
    refine wpAnyH_take (i := 4) (v := .bool false) rfl (by kernel_rfl) (by kernel_rfl) (by kernel_rfl) (fun _ _ _ h => h) (Or.inl ⟨by kernel_rfl, ?_⟩) (by assumption) ?_
    · intro w hSw
      (try dsimp only at hSw)
      go_simp
    refine wpAnyH_take (i := 5) (v := .bool false) rfl (by kernel_rfl) (by kernel_rfl) (by kernel_rfl) (fun _ _ _ h => h) (Or.inl ⟨by kernel_rfl, ?_⟩) (by assumption) ?_
    · intro w hSw
      (try dsimp only at hSw)
      go_simp
    refine wpAnyH_take (i := 6) (v := undef) rfl (by kernel_rfl) (by kernel_rfl) (by kernel_rfl) (fun _ _ _ h => h) (Or.inr ⟨by kernel_rfl, rfl⟩) (by assumption) ?_
    refine wpAnyH_take (i := 7) (v := undef) rfl (by kernel_rfl) (by kernel_rfl) (by kernel_rfl) (fun _ _ _ h => h) (Or.inr ⟨by kernel_rfl, rfl⟩) (by assumption) ?_
    refine wpAnyH_take (i := 8) (v := undef) rfl (by kernel_rfl) (by kernel_rfl) (by kernel_rfl) (fun _ _ _ h => h) (Or.inr ⟨by kernel_rfl, rfl⟩) (by assumption) ?_
    refine wpAnyH_take (i := 9) (v := undef) rfl (by kernel_rfl) (by kernel_rfl) (by kernel_rfl) (fun _ _ _ h => h) (Or.inr ⟨by kernel_rfl, rfl⟩) (by assumption) ?_
    refine wpAnyH_take (i := 10) (v := undef) rfl (by kernel_rfl) (by kernel_rfl) (by kernel_rfl) (fun _ _ _ h => h) (Or.inr ⟨by kernel_rfl, rfl⟩) (by assumption) ?_
    refine wpAnyH_take (i := 11) (v := undef) rfl (by kernel_rfl) (by kernel_rfl) (by kernel_rfl) (fun _ _ _ h => h) (Or.inr ⟨by kernel_rfl, rfl⟩) (by assumption) ?_
    refine wpAnyH_take (i := 12) (v := undef) rfl (by kernel_rfl) (by kernel_rfl) (by kernel_rfl) (fun _ _ _ h => h) (Or.inr ⟨by kernel_rfl, rfl⟩) (by assumption) ?_
    refine wpAnyH_take (i := 13) (v := undef) rfl (by kernel_rfl) (by kernel_rfl) (by kernel_rfl) (fun _ _ _ h => h) (Or.inr ⟨by kernel_rfl, rfl⟩) (by assumption) ?_
    refine wpAnyH_ready (rs := [14]) (by kernel_rfl) (by simp) ?_
    refine AllReadyH.cons rfl (fun K hK => ?_) AllReadyH.nil
    go_simp
    refine hK.out _ _ (by assumption) (fun _ => ?_)
    clear hK
    refine wpAnyH_ready (rs := [15]) (by kernel_rfl) (by simp) ?_
    refine AllReadyH.cons rfl (fun K hK => ?_) AllReadyH.nil
    go_simp
    refine hK.out _ _ (by assumption) (fun _ => ?_)
    clear hK
    refine wpAnyH_done (by kernel_rfl) ?_ _
    have HB := T0.below
    clear T0
    go_wp2
    go_ret
    exact ⟨by rw [HR.out]; rfl, by first | exact HB | exact HB.drew⟩
end Go.Proofs.YtpnnpkchogooaaaGreat

/- What lies between two points: the model's walk, and both sides. -/
namespace Go.Proofs.YtpnnpkchogooaaaGreat
open Go.RowKit
end Go.Proofs.YtpnnpkchogooaaaGreat

/- What lies between two points: both sides. -/
namespace Go.Proofs.YtpnnpkchogooaaaGreat
open Go.RowKit
/-- Whether the third point lies between the two; of points that are not right, no. -/
def btwV (x y z u v t a b c : Int) : Bool := ptB x y z && ptB u v t && ptB a b c && btwS x y z u v t a b c
set_option maxRecDepth 100000 in
set_option maxHeartbeats 4000000 in
theorem implBetween_det (x y z u v t a b c : Int) (hx : told x = true) (hy : told y = true) (hz : told z = true) (hu : told u = true) (hv : told v = true) (ht : told t = true) (ha : told a = true) (hb : told b = true) (hc : told c = true) (w : World) : Calls Tryz.prog 49 #[PV x y z, PV u v t, PV a b c] w (VP (.bool (btwV x y z u v t a b c)) w) := by
  have T0 : ArgsB w (((w.alloc (.cells #[.int .u64 (ww3 x), .int .u64 (ww2 x), .int .u64 (ww1 x), .int .u64 (ww0 x), .int .u64 (ww3 y), .int .u64 (ww2 y), .int .u64 (ww1 y), .int .u64 (ww0 y), .int .u64 (ww3 z), .int .u64 (ww2 z), .int .u64 (ww1 z), .int .u64 (ww0 z)] 40)).alloc (.cells #[.int .u64 (ww3 u), .int .u64 (ww2 u), .int .u64 (ww1 u), .int .u64 (ww0 u), .int .u64 (ww3 v), .int .u64 (ww2 v), .int .u64 (ww1 v), .int .u64 (ww0 v), .int .u64 (ww3 t), .int .u64 (ww2 t), .int .u64 (ww1 t), .int .u64 (ww0 t)] 40)).alloc (.cells #[.int .u64 (ww3 a), .int .u64 (ww2 a), .int .u64 (ww1 a), .int .u64 (ww0 a), .int .u64 (ww3 b), .int .u64 (ww2 b), .int .u64 (ww1 b), .int .u64 (ww0 b), .int .u64 (ww3 c), .int .u64 (ww2 c), .int .u64 (ww1 c), .int .u64 (ww0 c)] 40)) [[.int .u64 (ww3 x), .int .u64 (ww2 x), .int .u64 (ww1 x), .int .u64 (ww0 x), .int .u64 (ww3 y), .int .u64 (ww2 y), .int .u64 (ww1 y), .int .u64 (ww0 y), .int .u64 (ww3 z), .int .u64 (ww2 z), .int .u64 (ww1 z), .int .u64 (ww0 z)], [.int .u64 (ww3 u), .int .u64 (ww2 u), .int .u64 (ww1 u), .int .u64 (ww0 u), .int .u64 (ww3 v), .int .u64 (ww2 v), .int .u64 (ww1 v), .int .u64 (ww0 v), .int .u64 (ww3 t), .int .u64 (ww2 t), .int .u64 (ww1 t), .int .u64 (ww0 t)], [.int .u64 (ww3 a), .int .u64 (ww2 a), .int .u64 (ww1 a), .int .u64 (ww0 a), .int .u64 (ww3 b), .int .u64 (ww2 b), .int .u64 (ww1 b), .int .u64 (ww0 b), .int .u64 (ww3 c), .int .u64 (ww2 c), .int .u64 (ww1 c), .int .u64 (ww0 c)]] := ar3 _ _ _ _ _ _ w
  have R1 := pright_det x y z hx hy hz
  have R2 := pright_det u v t hu hv ht
  have R3 := pright_det a b c ha hb hc
  clear hx hy hz hu hv ht ha hb hc
  go_enter Tryz.func49, Tryz.ntmps49
  go_wp2_with fail
  generalize (((w.alloc (.cells #[.int .u64 (ww3 x), .int .u64 (ww2 x), .int .u64 (ww1 x), .int .u64 (ww0 x), .int .u64 (ww3 y), .int .u64 (ww2 y), .int .u64 (ww1 y), .int .u64 (ww0 y), .int .u64 (ww3 z), .int .u64 (ww2 z), .int .u64 (ww1 z), .int .u64 (ww0 z)] 40)).alloc (.cells #[.int .u64 (ww3 u), .int .u64 (ww2 u), .int .u64 (ww1 u), .int .u64 (ww0 u), .int .u64 (ww3 v), .int .u64 (ww2 v), .int .u64 (ww1 v), .int .u64 (ww0 v), .int .u64 (ww3 t), .int .u64 (ww2 t), .int .u64 (ww1 t), .int .u64 (ww0 t)] 40)).alloc (.cells #[.int .u64 (ww3 a), .int .u64 (ww2 a), .int .u64 (ww1 a), .int .u64 (ww0 a), .int .u64 (ww3 b), .int .u64 (ww2 b), .int .u64 (ww1 b), .int .u64 (ww0 b), .int .u64 (ww3 c), .int .u64 (ww2 c), .int .u64 (ww1 c), .int .u64 (ww0 c)] 40)) = W at *
  refine (R1 _).mono ?_
  rintro e w1 ⟨rfl, hB⟩
  replace T0 := T0.step hB
  clear hB
  by_cases h1 : ptB x y z = true
  · rw [h1]
    have X0 : Blk _ w.heap.size _ := T0.b 0 rfl; have Y0 : Blk _ (w.heap.size + 1) _ := T0.b 1 rfl; have Z0 : Blk _ (w.heap.size + 1 + 1) _ := T0.b 2 rfl; have p0 := X0.c 0 rfl; have q0 := Y0.c 0 rfl; have r0 := Z0.c 0 rfl; have p1 := X0.c 1 rfl; have q1 := Y0.c 1 rfl; have r1 := Z0.c 1 rfl; have p2 := X0.c 2 rfl; have q2 := Y0.c 2 rfl; have r2 := Z0.c 2 rfl; have p3 := X0.c 3 rfl; have q3 := Y0.c 3 rfl; have r3 := Z0.c 3 rfl; have p4 := X0.c 4 rfl; have q4 := Y0.c 4 rfl; have r4 := Z0.c 4 rfl; have p5 := X0.c 5 rfl; have q5 := Y0.c 5 rfl; have r5 := Z0.c 5 rfl; have p6 := X0.c 6 rfl; have q6 := Y0.c 6 rfl; have r6 := Z0.c 6 rfl; have p7 := X0.c 7 rfl; have q7 := Y0.c 7 rfl; have r7 := Z0.c 7 rfl; have p8 := X0.c 8 rfl; have q8 := Y0.c 8 rfl; have r8 := Z0.c 8 rfl; have p9 := X0.c 9 rfl; have q9 := Y0.c 9 rfl; have r9 := Z0.c 9 rfl; have p10 := X0.c 10 rfl; have q10 := Y0.c 10 rfl; have r10 := Z0.c 10 rfl; have p11 := X0.c 11 rfl; have q11 := Y0.c 11 rfl; have r11 := Z0.c 11 rfl; clear X0 Y0 Z0
    go_wp2_with fail
    refine (R2 _).mono ?_
    rintro e w2 ⟨rfl, hB⟩
    replace T0 := T0.step hB
    clear hB p0 q0 r0 p1 q1 r1 p2 q2 r2 p3 q3 r3 p4 q4 r4 p5 q5 r5 p6 q6 r6 p7 q7 r7 p8 q8 r8 p9 q9 r9 p10 q10 r10 p11 q11 r11
    by_cases h2 : ptB u v t = true
    · rw [h2]
      have X0 : Blk _ w.heap.size _ := T0.b 0 rfl; have Y0 : Blk _ (w.heap.size + 1) _ := T0.b 1 rfl; have Z0 : Blk _ (w.heap.size + 1 + 1) _ := T0.b 2 rfl; have p0 := X0.c 0 rfl; have q0 := Y0.c 0 rfl; have r0 := Z0.c 0 rfl; have p1 := X0.c 1 rfl; have q1 := Y0.c 1 rfl; have r1 := Z0.c 1 rfl; have p2 := X0.c 2 rfl; have q2 := Y0.c 2 rfl; have r2 := Z0.c 2 rfl; have p3 := X0.c 3 rfl; have q3 := Y0.c 3 rfl; have r3 := Z0.c 3 rfl; have p4 := X0.c 4 rfl; have q4 := Y0.c 4 rfl; have r4 := Z0.c 4 rfl; have p5 := X0.c 5 rfl; have q5 := Y0.c 5 rfl; have r5 := Z0.c 5 rfl; have p6 := X0.c 6 rfl; have q6 := Y0.c 6 rfl; have r6 := Z0.c 6 rfl; have p7 := X0.c 7 rfl; have q7 := Y0.c 7 rfl; have r7 := Z0.c 7 rfl; have p8 := X0.c 8 rfl; have q8 := Y0.c 8 rfl; have r8 := Z0.c 8 rfl; have p9 := X0.c 9 rfl; have q9 := Y0.c 9 rfl; have r9 := Z0.c 9 rfl; have p10 := X0.c 10 rfl; have q10 := Y0.c 10 rfl; have r10 := Z0.c 10 rfl; have p11 := X0.c 11 rfl; have q11 := Y0.c 11 rfl; have r11 := Z0.c 11 rfl; clear X0 Y0 Z0
      go_wp2_with fail
      refine (R3 _).mono ?_
      rintro e w3 ⟨rfl, hB⟩
      replace T0 := T0.step hB
      clear hB p0 q0 r0 p1 q1 r1 p2 q2 r2 p3 q3 r3 p4 q4 r4 p5 q5 r5 p6 q6 r6 p7 q7 r7 p8 q8 r8 p9 q9 r9 p10 q10 r10 p11 q11 r11
      by_cases h3 : ptB a b c = true
      · rw [h3]
        have HO : Hid (btwV x y z u v t a b c = btwS x y z u v t a b c) := by show _ = _; unfold btwV; rw [h1, h2, h3]; rfl
        obtain ⟨pz, sx, sy, sz⟩ := ptB_small h1
        obtain ⟨pt, su, sv, st⟩ := ptB_small h2
        obtain ⟨pc, sa, sb, sc⟩ := ptB_small h3
        have C := lies_det x y z u v t a b c sx sy sz su sv st sa sb sc pz pt pc
        clear h1 h2 h3 R1 R2 R3 pz pt pc sx sy sz su sv st sa sb sc
        generalize btwS x y z u v t a b c = o at *
        have X0 : Blk _ w.heap.size _ := T0.b 0 rfl; have Y0 : Blk _ (w.heap.size + 1) _ := T0.b 1 rfl; have Z0 : Blk _ (w.heap.size + 1 + 1) _ := T0.b 2 rfl; have p0 := X0.c 0 rfl; have q0 := Y0.c 0 rfl; have r0 := Z0.c 0 rfl; have p1 := X0.c 1 rfl; have q1 := Y0.c 1 rfl; have r1 := Z0.c 1 rfl; have p2 := X0.c 2 rfl; have q2 := Y0.c 2 rfl; have r2 := Z0.c 2 rfl; have p3 := X0.c 3 rfl; have q3 := Y0.c 3 rfl; have r3 := Z0.c 3 rfl; have p4 := X0.c 4 rfl; have q4 := Y0.c 4 rfl; have r4 := Z0.c 4 rfl; have p5 := X0.c 5 rfl; have q5 := Y0.c 5 rfl; have r5 := Z0.c 5 rfl; have p6 := X0.c 6 rfl; have q6 := Y0.c 6 rfl; have r6 := Z0.c 6 rfl; have p7 := X0.c 7 rfl; have q7 := Y0.c 7 rfl; have r7 := Z0.c 7 rfl; have p8 := X0.c 8 rfl; have q8 := Y0.c 8 rfl; have r8 := Z0.c 8 rfl; have p9 := X0.c 9 rfl; have q9 := Y0.c 9 rfl; have r9 := Z0.c 9 rfl; have p10 := X0.c 10 rfl; have q10 := Y0.c 10 rfl; have r10 := Z0.c 10 rfl; have p11 := X0.c 11 rfl; have q11 := Y0.c 11 rfl; have r11 := Z0.c 11 rfl; clear X0 Y0 Z0
        go_wp2_with fail
        refine (C _).mono ?_
        rintro e w4 ⟨rfl, hB⟩
        have HB := (T0.step hB).below
        clear hB T0 C p0 q0 r0 p1 q1 r1 p2 q2 r2 p3 q3 r3 p4 q4 r4 p5 q5 r5 p6 q6 r6 p7 q7 r7 p8 q8 r8 p9 q9 r9 p10 q10 r10 p11 q11 r11
        go_wp2
        go_ret
        exact ⟨by rw [HO.out]; rfl, HB⟩
      · replace h3 := Bool.eq_false_iff.2 h3
        rw [h3]
        have HO : Hid (btwV x y z u v t a b c = false) := by show _ = _; unfold btwV; rw [h3]; simp
        have HB := T0.below
        clear T0 h1 h2 h3 R1 R2 R3
        go_wp2
        go_ret
        exact ⟨by rw [HO.out]; rfl, HB⟩
    · replace h2 := Bool.eq_false_iff.2 h2
      rw [h2]
      have HO : Hid (btwV x y z u v t a b c = false) := by show _ = _; unfold btwV; rw [h2]; simp
      have HB := T0.below
      clear T0 h1 h2 R1 R2 R3
      go_wp2
      go_ret
      exact ⟨by rw [HO.out]; rfl, HB⟩
  · replace h1 := Bool.eq_false_iff.2 h1
    rw [h1]
    have HO : Hid (btwV x y z u v t a b c = false) := by show _ = _; unfold btwV; rw [h1]; simp
    have HB := T0.below
    clear T0 h1 R1 R2 R3
    go_wp2
    go_ret
    exact ⟨by rw [HO.out]; rfl, HB⟩
end Go.Proofs.YtpnnpkchogooaaaGreat

/- What lies between, of the middle: the reckoning. -/
namespace Go.Proofs.YtpnnpkchogooaaaGreat
open Go.RowKit
end Go.Proofs.YtpnnpkchogooaaaGreat

/- The program's sums, products and quotients of fractions. -/
namespace Go.Proofs.YtpnnpkchogooaaaGreat
open Go.RowKit
end Go.Proofs.YtpnnpkchogooaaaGreat

/- The program's laws of two fractions, as far as they are told. -/
namespace Go.Proofs.YtpnnpkchogooaaaGreat
open Go.RowKit
end Go.Proofs.YtpnnpkchogooaaaGreat

/- Four times a fraction; fractions by their own words. -/
namespace Go.Proofs.YtpnnpkchogooaaaGreat
open Go.RowKit
abbrev RV (n d : Int) : Value := .agg #[.int .u64 (ww3 n), .int .u64 (ww2 n), .int .u64 (ww1 n), .int .u64 (ww0 n), .int .u64 (ww3 d), .int .u64 (ww2 d), .int .u64 (ww1 d), .int .u64 (ww0 d)]
theorem low_parts {n d : Int} (hd : 0 < d) : ∃ g, 0 < g ∧ n = lowN n d * g ∧ d = lowD n d * g ∧ rightB (lowN n d) (lowD n d) = true := by
  have g0 : 0 < Int.gcd n d := Int.gcd_pos_of_ne_zero_right _ (by omega)
  obtain ⟨e1, e2, -, -⟩ := low_make (x := n) (y := d) (X := n) (Y := d) (g := (Int.gcd n d : Int)) (by rw [if_neg (by omega)]) (by rw [if_neg (by omega)]) rfl (by omega)
  have hg : (0 : Int) < Int.gcd n d := by omega
  have m1 : n = lowN n d * (Int.gcd n d : Int) := by rw [← e1]; exact (Int.ediv_mul_cancel (Int.gcd_dvd_left _ _)).symm
  have m2 : d = lowD n d * (Int.gcd n d : Int) := by rw [← e2]; exact (Int.ediv_mul_cancel (Int.gcd_dvd_right _ _)).symm
  refine ⟨Int.gcd n d, hg, m1, m2, ?_⟩
  have p : 0 < lowD n d := by
    apply Decidable.byContradiction
    intro h
    have := Int.mul_nonneg (a := -lowD n d) (b := (Int.gcd n d : Int)) (by omega) (by omega)
    have e : -lowD n d * (Int.gcd n d : Int) = -(lowD n d * (Int.gcd n d : Int)) := by grind
    omega
  have q : Int.gcd (lowN n d) (lowD n d) = 1 := by
    have en : (((Int.gcd n d : Int).natAbs : Nat) : Int) = (Int.gcd n d : Int) := by omega
    have h : (Int.gcd (lowN n d * (Int.gcd n d : Int)) (lowD n d * (Int.gcd n d : Int)) : Int) = Int.gcd (lowN n d) (lowD n d) * (Int.gcd n d : Int) := by rw [Int.gcd_mul_right, Int.natCast_mul, en]
    rw [← m1, ← m2] at h
    have h2 : (Int.gcd (lowN n d) (lowD n d) : Int) * (Int.gcd n d : Int) = 1 * (Int.gcd n d : Int) := by omega
    have := Int.eq_of_mul_eq_mul_right (by omega) h2
    omega
  unfold rightB
  exact decide_eq_true ⟨p, q⟩
theorem eqRV (n d : Int) (hn : told n = true) (hd : told d = true) (w : World) : (Op.equalIn 10000 34 (RV n d) (RV n d)).run Tryz.prog w = .ok true w := by
  have E1 := eqWW n n hn hn
  have E2 := eqWW d d hd hd
  have u3 := Tryz.underlying32
  have a3 := Tryz.isAgg32
  have z3 := Tryz.sizeOf32
  rw [show (10000 : Nat) = 9999 + 1 from rfl, Op.equalIn]
  simp only [Sem.run_bind, run_underlying Tryz.underlying34, Result.andThen_ok]
  go_simp
end Go.Proofs.YtpnnpkchogooaaaGreat

/- The square of a distance by its own two numbers: the reckoning. -/
namespace Go.Proofs.YtpnnpkchogooaaaGreat
open Go.RowKit
/-- What the square of the distance is a share of, and of what. -/
def nrX (a b c d x y : Int) : Int :=
  if (x - a) * (c - a) + (y - b) * (d - b) ≤ 0 then (x - a) * (x - a) + (y - b) * (y - b)
  else if (x - c) * (c - a) + (y - d) * (d - b) ≥ 0 then (x - c) * (x - c) + (y - d) * (y - d)
  else ((c - a) * (y - b) - (d - b) * (x - a)) * ((c - a) * (y - b) - (d - b) * (x - a))
def nrY (a b c d x y : Int) : Int :=
  if (x - a) * (c - a) + (y - b) * (d - b) ≤ 0 then 1 else if (x - c) * (c - a) + (y - d) * (d - b) ≥ 0 then 1 else (c - a) * (c - a) + (d - b) * (d - b)
def nU (a b c d x y : Int) : Int := lowN (nrX a b c d x y) (nrY a b c d x y)
def nV (a b c d x y : Int) : Int := lowD (nrX a b c d x y) (nrY a b c d x y)
theorem nearW_nr (a b c d x y : Int) : nearW a b c d x y = ratV (nrX a b c d x y) (nrY a b c d x y) := by
  unfold nearW nrX nrY
  split
  · rfl
  · split <;> rfl
theorem sq_in {p M : Int} (h1 : -M ≤ p) (h2 : p ≤ M) : 0 ≤ p * p ∧ p * p ≤ M * M := by
  refine ⟨?_, (mul_in h1 h2 h1 h2).2⟩
  rcases Int.le_total 0 p with h | h
  · exact Int.mul_nonneg h h
  · exact Int.mul_nonneg_of_nonpos_of_nonpos h h
theorem nr_bounds {a b c d x y : Int} (h1 : segOk a b c d = true) (h2 : spotOk x y = true) : 0 ≤ nrX a b c d x y ∧ nrX a b c d x y ≤ 64000000000000000000000000 ∧ 0 < nrY a b c d x y ∧ nrY a b c d x y ≤ 64000000000000000000000000 := by
  unfold segOk spotOk lessI at h1
  unfold spotOk at h2
  simp at h1 h2
  obtain ⟨⟨⟨p1, p2, p3, p4⟩, q1, q2, q3, q4⟩, hl⟩ := h1
  obtain ⟨r1, r2, r3, r4⟩ := h2
  have s1 := sq_in (p := x - a) (M := 2000000) (by omega) (by omega)
  have s2 := sq_in (p := y - b) (M := 2000000) (by omega) (by omega)
  have s3 := sq_in (p := x - c) (M := 2000000) (by omega) (by omega)
  have s4 := sq_in (p := y - d) (M := 2000000) (by omega) (by omega)
  have s5 := sq_in (p := c - a) (M := 2000000) (by omega) (by omega)
  have s6 := sq_in (p := d - b) (M := 2000000) (by omega) (by omega)
  have m1 := mul_in (p := c - a) (q := y - b) (M := 2000000) (N := 2000000) (by omega) (by omega) (by omega) (by omega)
  have m2 := mul_in (p := d - b) (q := x - a) (M := 2000000) (N := 2000000) (by omega) (by omega) (by omega) (by omega)
  have s7 := sq_in (p := (c - a) * (y - b) - (d - b) * (x - a)) (M := 8000000000000) (by omega) (by omega)
  have s8 : 0 < (c - a) * (c - a) + (d - b) * (d - b) := by
    rcases hl with h | ⟨h, h'⟩
    · have : 0 < (c - a) * (c - a) := Int.mul_pos (by omega) (by omega)
      omega
    · have : 0 < (d - b) * (d - b) := Int.mul_pos (by omega) (by omega)
      omega
  unfold nrX nrY
  split
  · omega
  · split <;> omega
theorem low_bounds {n d : Int} (h0 : 0 ≤ n) (hd : 0 < d) : 0 ≤ lowN n d ∧ lowN n d ≤ n ∧ 0 < lowD n d ∧ lowD n d ≤ d := by
  obtain ⟨g, hg, e1, e2, hr⟩ := low_parts (n := n) hd
  have hp : 0 < lowD n d := rightB_pos hr
  generalize lowN n d = u at *
  generalize lowD n d = v at *
  have hu : 0 ≤ u := by
    rcases Int.lt_or_le u 0 with h | h
    · have : u * g < 0 := Int.mul_neg_of_neg_of_pos h hg
      omega
    · exact h
  refine ⟨hu, ?_, hp, ?_⟩
  · have : u * 1 ≤ u * g := Int.mul_le_mul_of_nonneg_left (by omega) hu
    omega
  · have : v * 1 ≤ v * g := Int.mul_le_mul_of_nonneg_left (by omega) (by omega)
    omega
theorem near_nums {a b c d x y : Int} (h1 : segOk a b c d = true) (h2 : spotOk x y = true) : told (nU a b c d x y) = true ∧ told (nV a b c d x y) = true ∧ 0 < nV a b c d x y ∧ nearW a b c d x y = .tuple #[Rt (ww3 (nU a b c d x y)) (ww2 (nU a b c d x y)) (ww1 (nU a b c d x y)) (ww0 (nU a b c d x y)) (ww3 (nV a b c d x y)) (ww2 (nV a b c d x y)) (ww1 (nV a b c d x y)) (ww0 (nV a b c d x y)), .bool true] := by
  obtain ⟨b1, b2, b3, b4⟩ := nr_bounds h1 h2
  obtain ⟨l1, l2, l3, l4⟩ := low_bounds b1 b3
  have t1 : told (lowN (nrX a b c d x y) (nrY a b c d x y)) = true := told_big ⟨by omega, by omega⟩
  have t2 : told (lowD (nrX a b c d x y) (nrY a b c d x y)) = true := told_big ⟨by omega, by omega⟩
  refine ⟨t1, t2, l3, ?_⟩
  rw [nearW_nr]
  unfold ratV
  rw [if_pos ⟨by omega, t1, t2⟩]
  rfl
end Go.Proofs.YtpnnpkchogooaaaGreat

/- Whether a point lies on a segment: both sides. -/
namespace Go.Proofs.YtpnnpkchogooaaaGreat
open Go.RowKit
/-- Whether a point lies on a segment; no where one of them is not right. -/
def onI (a b c d x y z : Int) : Bool := segOk a b c d && ptB x y z && btwS a b 1 c d 1 x y z
set_option maxRecDepth 100000 in
set_option maxHeartbeats 2000000 in
theorem implOnSeg_det (a b c d x y z : Int) (ia : -9223372036854775808 ≤ a ∧ a ≤ 9223372036854775807) (ib : -9223372036854775808 ≤ b ∧ b ≤ 9223372036854775807) (ic : -9223372036854775808 ≤ c ∧ c ≤ 9223372036854775807) (id : -9223372036854775808 ≤ d ∧ d ≤ 9223372036854775807) (hx : told x = true) (hy : told y = true) (hz : told z = true) (w : World) : Calls Tryz.prog 16 #[Sg a b c d, PV x y z] w (VP (.bool (onI a b c d x y z)) w) := by
  have T0 : ArgsB w ((w.alloc (.cells #[.int .i64 a, .int .i64 b, .int .i64 c, .int .i64 d] 27)).alloc (.cells #[.int .u64 (ww3 x), .int .u64 (ww2 x), .int .u64 (ww1 x), .int .u64 (ww0 x), .int .u64 (ww3 y), .int .u64 (ww2 y), .int .u64 (ww1 y), .int .u64 (ww0 y), .int .u64 (ww3 z), .int .u64 (ww2 z), .int .u64 (ww1 z), .int .u64 (ww0 z)] 40)) [[.int .i64 a, .int .i64 b, .int .i64 c, .int .i64 d], [.int .u64 (ww3 x), .int .u64 (ww2 x), .int .u64 (ww1 x), .int .u64 (ww0 x), .int .u64 (ww3 y), .int .u64 (ww2 y), .int .u64 (ww1 y), .int .u64 (ww0 y), .int .u64 (ww3 z), .int .u64 (ww2 z), .int .u64 (ww1 z), .int .u64 (ww0 z)]] := ar2 _ _ _ _ w
  have SO := fun w => implSegOk_any a b c d _ rfl w
  have EN := fun w => ends_det a b c d (by omega) (by omega) (by omega) (by omega) (by omega) (by omega) (by omega) (by omega) w
  have OR := fun w => implBetween_det a b 1 c d 1 x y z (told_small (small_int (by omega) (by omega))) (told_small (small_int (by omega) (by omega))) (by decide) (told_small (small_int (by omega) (by omega))) (told_small (small_int (by omega) (by omega))) (by decide) hx hy hz w
  clear ia ib ic id hx hy hz
  go_enter Tryz.func16, Tryz.ntmps16
  go_wp2_with fail
  generalize ((w.alloc (.cells #[.int .i64 a, .int .i64 b, .int .i64 c, .int .i64 d] 27)).alloc (.cells #[.int .u64 (ww3 x), .int .u64 (ww2 x), .int .u64 (ww1 x), .int .u64 (ww0 x), .int .u64 (ww3 y), .int .u64 (ww2 y), .int .u64 (ww1 y), .int .u64 (ww0 y), .int .u64 (ww3 z), .int .u64 (ww2 z), .int .u64 (ww1 z), .int .u64 (ww0 z)] 40)) = W at *
  refine (EN _).mono ?_
  rintro e w1 ⟨rfl, hB⟩
  replace T0 := ((T0.step hB).alloc (.cells #[.int .u64 (ww3 a), .int .u64 (ww2 a), .int .u64 (ww1 a), .int .u64 (ww0 a), .int .u64 (ww3 b), .int .u64 (ww2 b), .int .u64 (ww1 b), .int .u64 (ww0 b), .int .u64 (ww3 1), .int .u64 (ww2 1), .int .u64 (ww1 1), .int .u64 (ww0 1)] 40)).alloc (.cells #[.int .u64 (ww3 c), .int .u64 (ww2 c), .int .u64 (ww1 c), .int .u64 (ww0 c), .int .u64 (ww3 d), .int .u64 (ww2 d), .int .u64 (ww1 d), .int .u64 (ww0 d), .int .u64 (ww3 1), .int .u64 (ww2 1), .int .u64 (ww1 1), .int .u64 (ww0 1)] 40)
  clear hB EN
  have Y1 : Blk _ w.heap.size _ := T0.b 0 rfl; have g0 := Y1.c 0 rfl; have g1 := Y1.c 1 rfl; have g2 := Y1.c 2 rfl; have g3 := Y1.c 3 rfl; clear Y1
  by_cases hs : segOk a b c d = true
  · obtain ⟨i1, i2, i3, i4⟩ := in6_seg hs
    have HO : Hid (onI a b c d x y z = btwV a b 1 c d 1 x y z) := by show _ = _; unfold onI btwV; rw [hs, ptB_spot i1 i2, ptB_spot i3 i4]; rfl
    rw [hs] at SO
    clear hs i1 i2 i3 i4
    generalize btwV a b 1 c d 1 x y z = o at *
    go_wp2_with fail
    refine (SO _).mono ?_
    rintro e w2 ⟨rfl, hB⟩
    have X1 := ((Blk.new w1 [.int .u64 (ww3 a), .int .u64 (ww2 a), .int .u64 (ww1 a), .int .u64 (ww0 a), .int .u64 (ww3 b), .int .u64 (ww2 b), .int .u64 (ww1 b), .int .u64 (ww0 b), .int .u64 (ww3 1), .int .u64 (ww2 1), .int .u64 (ww1 1), .int .u64 (ww0 1)] _ rfl).alloc _).step hB
    have X2 := (Blk.new (w1.alloc (.cells #[.int .u64 (ww3 a), .int .u64 (ww2 a), .int .u64 (ww1 a), .int .u64 (ww0 a), .int .u64 (ww3 b), .int .u64 (ww2 b), .int .u64 (ww1 b), .int .u64 (ww0 b), .int .u64 (ww3 1), .int .u64 (ww2 1), .int .u64 (ww1 1), .int .u64 (ww0 1)] 40)) [.int .u64 (ww3 c), .int .u64 (ww2 c), .int .u64 (ww1 c), .int .u64 (ww0 c), .int .u64 (ww3 d), .int .u64 (ww2 d), .int .u64 (ww1 d), .int .u64 (ww0 d), .int .u64 (ww3 1), .int .u64 (ww2 1), .int .u64 (ww1 1), .int .u64 (ww0 1)] _ (g := w1.heap.size + 1) (by simp)).step hB
    have k0 := X1.c 0 rfl; have l0 := X2.c 0 rfl; have k1 := X1.c 1 rfl; have l1 := X2.c 1 rfl; have k2 := X1.c 2 rfl; have l2 := X2.c 2 rfl; have k3 := X1.c 3 rfl; have l3 := X2.c 3 rfl; have k4 := X1.c 4 rfl; have l4 := X2.c 4 rfl; have k5 := X1.c 5 rfl; have l5 := X2.c 5 rfl; have k6 := X1.c 6 rfl; have l6 := X2.c 6 rfl; have k7 := X1.c 7 rfl; have l7 := X2.c 7 rfl; have k8 := X1.c 8 rfl; have l8 := X2.c 8 rfl; have k9 := X1.c 9 rfl; have l9 := X2.c 9 rfl; have k10 := X1.c 10 rfl; have l10 := X2.c 10 rfl; have k11 := X1.c 11 rfl; have l11 := X2.c 11 rfl
    replace T0 := T0.step hB
    clear hB SO g0 g1 g2 g3 X1 X2
    have Y0 : Blk _ (w.heap.size + 1) _ := T0.b 1 rfl; have q0 := Y0.c 0 rfl; have q1 := Y0.c 1 rfl; have q2 := Y0.c 2 rfl; have q3 := Y0.c 3 rfl; have q4 := Y0.c 4 rfl; have q5 := Y0.c 5 rfl; have q6 := Y0.c 6 rfl; have q7 := Y0.c 7 rfl; have q8 := Y0.c 8 rfl; have q9 := Y0.c 9 rfl; have q10 := Y0.c 10 rfl; have q11 := Y0.c 11 rfl; have ql := Y0.lt; clear Y0
    go_wp2_with fail
    refine (OR _).mono ?_
    rintro e w3 ⟨rfl, hB⟩
    have HB := (T0.step hB).below
    clear hB T0 OR q0 q1 q2 q3 q4 q5 q6 q7 q8 q9 q10 q11 ql
    go_wp2
    go_ret
    exact ⟨by rw [HO.out]; rfl, HB⟩
  · replace hs := Bool.eq_false_iff.2 hs
    have HO : Hid (onI a b c d x y z = false) := by show _ = _; unfold onI; rw [hs]; rfl
    rw [hs] at SO
    clear hs OR
    go_wp2_with fail
    refine (SO _).mono ?_
    rintro e w2 ⟨rfl, hB⟩
    have HB := (T0.step hB).below
    clear hB SO T0 g0 g1 g2 g3
    go_wp2
    go_ret
    exact ⟨by rw [HO.out]; rfl, HB⟩
end Go.Proofs.YtpnnpkchogooaaaGreat

/- Where a segment stands over a point: both sides. -/
namespace Go.Proofs.YtpnnpkchogooaaaGreat
open Go.RowKit
end Go.Proofs.YtpnnpkchogooaaaGreat

/- Where a segment stands over a point: the model's side. -/
namespace Go.Proofs.YtpnnpkchogooaaaGreat
open Go.RowKit
end Go.Proofs.YtpnnpkchogooaaaGreat

/- Where a segment stands over a point, whether the point lies on it, on which side it lies: the reckoning. -/
namespace Go.Proofs.YtpnnpkchogooaaaGreat
open Go.RowKit
theorem cmpZ_le {x y : Int} : cmpI x y ≤ 0 ↔ x ≤ y := by unfold cmpI; repeat' split <;> omega
theorem cmpZ_eq {x y : Int} : cmpI x y = 0 ↔ x = y := by unfold cmpI; repeat' split <;> omega
theorem ordZ_le (x y z u v t : Int) : ordI x y z u v t ≤ 0 ↔ x * t < u * z ∨ (x * t = u * z ∧ y * t ≤ v * z) := by
  unfold ordI
  by_cases h : cmpI (x * t) (u * z) = 0
  · rw [if_pos h, cmpZ_le]
    have := cmpZ_eq.1 h
    omega
  · rw [if_neg h, cmpZ_le]
    have : x * t ≠ u * z := fun e => h (cmpZ_eq.2 e)
    omega
theorem turn_lin (a b c d x y z : Int) : a * (d * z - 1 * y) - b * (c * z - 1 * x) + 1 * (c * y - d * x) = (c - a) * (y - b * z) - (d - b) * (x - a * z) := by grind
theorem turn_zero {a b c d x y z : Int} : turnI a b 1 c d 1 x y z = 0 ↔ (c - a) * (y - b * z) = (d - b) * (x - a * z) := by
  unfold turnI
  rw [cmpZ_eq, turn_lin]
  omega
theorem seg_less {a b c d : Int} (h : segOk a b c d = true) : a < c ∨ (a = c ∧ b < d) := by
  unfold segOk lessI at h
  simp only [Bool.and_eq_true, decide_eq_true_eq] at h
  exact h.2
theorem btw_seg {a b c d x y z : Int} (h : a < c ∨ (a = c ∧ b < d)) : btwS a b 1 c d 1 x y z = (decide (ordI a b 1 x y z ≤ 0) && decide (ordI x y z c d 1 ≤ 0) && decide (turnI a b 1 c d 1 x y z = 0)) := by
  have h0 : ¬ 0 < ordI a b 1 c d 1 := by
    have := (ordZ_le a b 1 c d 1).2 (by omega)
    omega
  unfold btwS
  rw [if_neg h0]
end Go.Proofs.YtpnnpkchogooaaaGreat

/- No end of a segment is nearer than what is told, nor is its middle; it is 0 just on the segment: the reckoning. -/
namespace Go.Proofs.YtpnnpkchogooaaaGreat
open Go.RowKit
theorem sqr_nn (z : Int) : 0 ≤ z * z := by
  rcases Int.le_total 0 z with h | h
  · exact Int.mul_nonneg h h
  · exact Int.mul_nonneg_of_nonpos_of_nonpos h h
/-- The same by the differences alone. -/
def qX (e f g h : Int) : Int := if e * g + f * h ≤ 0 then e * e + f * f else if (e - g) * g + (f - h) * h ≥ 0 then (e - g) * (e - g) + (f - h) * (f - h) else (g * f - h * e) * (g * f - h * e)
def qY (e f g h : Int) : Int := if e * g + f * h ≤ 0 then 1 else if (e - g) * g + (f - h) * h ≥ 0 then 1 else g * g + h * h
theorem nr_q (a b c d x y : Int) : nrX a b c d x y = qX (x - a) (y - b) (c - a) (d - b) ∧ nrY a b c d x y = qY (x - a) (y - b) (c - a) (d - b) := by
  have h1 : x - a - (c - a) = x - c := by omega
  have h2 : y - b - (d - b) = y - d := by omega
  unfold nrX nrY qX qY
  rw [h1, h2]
  exact ⟨rfl, rfl⟩
theorem q_a (e f g h : Int) : qX e f g h ≤ (e * e + f * f) * qY e f g h := by
  unfold qX qY
  by_cases h1 : e * g + f * h ≤ 0
  · rw [if_pos h1, if_pos h1]; omega
  · rw [if_neg h1, if_neg h1]
    by_cases h2 : (e - g) * g + (f - h) * h ≥ 0
    · rw [if_pos h2, if_pos h2]
      have i : e * e + f * f = (e - g) * (e - g) + (f - h) * (f - h) + (e * g + f * h) + ((e - g) * g + (f - h) * h) := by grind
      omega
    · rw [if_neg h2, if_neg h2]
      have i : (e * e + f * f) * (g * g + h * h) = (g * f - h * e) * (g * f - h * e) + (e * g + f * h) * (e * g + f * h) := by grind
      have := sqr_nn (e * g + f * h)
      omega
theorem q_b (e f g h : Int) : qX e f g h ≤ ((e - g) * (e - g) + (f - h) * (f - h)) * qY e f g h := by
  have hd := sqr_nn g
  have hd' := sqr_nn h
  unfold qX qY
  by_cases h1 : e * g + f * h ≤ 0
  · rw [if_pos h1, if_pos h1]
    have i : (e - g) * (e - g) + (f - h) * (f - h) = e * e + f * f - 2 * (e * g + f * h) + (g * g + h * h) := by grind
    omega
  · rw [if_neg h1, if_neg h1]
    by_cases h2 : (e - g) * g + (f - h) * h ≥ 0
    · rw [if_pos h2, if_pos h2]; omega
    · rw [if_neg h2, if_neg h2]
      have i : ((e - g) * (e - g) + (f - h) * (f - h)) * (g * g + h * h) = (g * f - h * e) * (g * f - h * e) + ((e - g) * g + (f - h) * h) * ((e - g) * g + (f - h) * h) := by grind
      have := sqr_nn ((e - g) * g + (f - h) * h)
      omega
theorem q_m (e f g h : Int) : 4 * qX e f g h ≤ ((2 * e - g) * (2 * e - g) + (2 * f - h) * (2 * f - h)) * qY e f g h := by
  have hd := sqr_nn g
  have hd' := sqr_nn h
  unfold qX qY
  by_cases h1 : e * g + f * h ≤ 0
  · rw [if_pos h1, if_pos h1]
    have i : (2 * e - g) * (2 * e - g) + (2 * f - h) * (2 * f - h) = 4 * (e * e + f * f) - 4 * (e * g + f * h) + (g * g + h * h) := by grind
    omega
  · rw [if_neg h1, if_neg h1]
    by_cases h2 : (e - g) * g + (f - h) * h ≥ 0
    · rw [if_pos h2, if_pos h2]
      have i : (2 * e - g) * (2 * e - g) + (2 * f - h) * (2 * f - h) = 4 * ((e - g) * (e - g) + (f - h) * (f - h)) + 4 * ((e - g) * g + (f - h) * h) + (g * g + h * h) := by grind
      omega
    · rw [if_neg h2, if_neg h2]
      have i : ((2 * e - g) * (2 * e - g) + (2 * f - h) * (2 * f - h)) * (g * g + h * h) = 4 * ((g * f - h * e) * (g * f - h * e)) + (2 * (e * g + f * h) - (g * g + h * h)) * (2 * (e * g + f * h) - (g * g + h * h)) := by grind
      have := sqr_nn (2 * (e * g + f * h) - (g * g + h * h))
      omega
theorem sq_zero {p q : Int} (h : p * p + q * q = 0) : p = 0 ∧ q = 0 := by
  have h1 := sqr_nn p
  have h2 := sqr_nn q
  have e1 : p * p = 0 := by omega
  have e2 : q * q = 0 := by omega
  exact ⟨(Int.mul_eq_zero.1 e1).elim id id, (Int.mul_eq_zero.1 e2).elim id id⟩
/-- A distance of 0, by the differences: on the line, and between. -/
theorem q_zero {e f g h : Int} (hl : 0 < g ∨ (g = 0 ∧ 0 < h)) : qX e f g h = 0 ↔ (g * f = h * e ∧ (0 < e ∨ (e = 0 ∧ 0 ≤ f)) ∧ (e < g ∨ (e = g ∧ f ≤ h))) := by
  have hdd : 0 < g * g + h * h := by
    rcases hl with h' | ⟨_, h'⟩
    · have := Int.mul_pos h' h'; have := sqr_nn h; omega
    · have := Int.mul_pos h' h'; have := sqr_nn g; omega
  have iu : g * f = h * e → (e * g + f * h) * g = e * (g * g + h * h) ∧ (e * g + f * h) * h = f * (g * g + h * h) := fun hc => by
    constructor
    · have : (e * g + f * h) * g = e * (g * g) + h * (g * f) := by grind
      rw [this, hc]; grind
    · have : (e * g + f * h) * h = g * (h * e) + f * (h * h) := by grind
      rw [this, ← hc]; grind
  have iv : g * f = h * e → ((e - g) * g + (f - h) * h) * g = (e - g) * (g * g + h * h) ∧ ((e - g) * g + (f - h) * h) * h = (f - h) * (g * g + h * h) := fun hc => by
    obtain ⟨u1, u2⟩ := iu hc
    constructor
    · have : ((e - g) * g + (f - h) * h) * g = (e * g + f * h) * g - g * (g * g + h * h) := by grind
      rw [this, u1]; grind
    · have : ((e - g) * g + (f - h) * h) * h = (e * g + f * h) * h - h * (g * g + h * h) := by grind
      rw [this, u2]; grind
  have pos_of : ∀ {p : Int}, 0 < p * (g * g + h * h) → 0 < p := fun hp => Int.pos_of_mul_pos_left hp hdd
  have mulp : ∀ {p : Int}, 0 < p → 0 < p * (g * g + h * h) := fun hp => Int.mul_pos hp hdd
  constructor
  · intro hq
    unfold qX at hq
    by_cases h1 : e * g + f * h ≤ 0
    · rw [if_pos h1] at hq
      obtain ⟨rfl, rfl⟩ := sq_zero hq
      exact ⟨by omega, .inr ⟨rfl, Int.le_refl _⟩, by omega⟩
    · rw [if_neg h1] at hq
      by_cases h2 : (e - g) * g + (f - h) * h ≥ 0
      · rw [if_pos h2] at hq
        obtain ⟨h3, h4⟩ := sq_zero hq
        obtain rfl : e = g := by omega
        obtain rfl : f = h := by omega
        exact ⟨Int.mul_comm _ _, by omega, .inr ⟨rfl, Int.le_refl _⟩⟩
      · rw [if_neg h2] at hq
        have hc : g * f = h * e := by
          have := (Int.mul_eq_zero.1 hq).elim id id
          omega
        obtain ⟨u1, u2⟩ := iu hc
        obtain ⟨v1, v2⟩ := iv hc
        have hu : 0 < e * g + f * h := by omega
        have hv : (e - g) * g + (f - h) * h < 0 := by omega
        rcases hl with hg | ⟨hg, hh⟩
        · have p1 := Int.mul_pos hu hg
          have p2 := Int.mul_neg_of_neg_of_pos hv hg
          rw [u1] at p1
          rw [v1] at p2
          have q1 := pos_of p1
          have q2 : 0 < g - e := by
            apply pos_of
            have : (g - e) * (g * g + h * h) = -((e - g) * (g * g + h * h)) := by grind
            omega
          exact ⟨hc, .inl q1, .inl (by omega)⟩
        · subst hg
          have p1 := Int.mul_pos hu hh
          have p2 := Int.mul_neg_of_neg_of_pos hv hh
          rw [u2] at p1
          rw [v2] at p2
          have q1 := pos_of p1
          have q2 : 0 < h - f := by
            apply pos_of
            have : (h - f) * (0 * 0 + h * h) = -((f - h) * (0 * 0 + h * h)) := by grind
            omega
          have he : e = 0 := by
            have : h * e = 0 := by omega
            rcases Int.mul_eq_zero.1 this with h' | h'
            · omega
            · exact h'
          exact ⟨hc, .inr ⟨he, by omega⟩, .inr ⟨he, by omega⟩⟩
  · rintro ⟨hc, hlo, hhi⟩
    obtain ⟨u1, u2⟩ := iu hc
    obtain ⟨v1, v2⟩ := iv hc
    unfold qX
    have hcr : g * f - h * e = 0 := by omega
    by_cases h1 : e * g + f * h ≤ 0
    · rw [if_pos h1]
      rcases hl with hg | ⟨hg, hh⟩
      · have p1 : (e * g + f * h) * g ≤ 0 := Int.mul_nonpos_of_nonpos_of_nonneg h1 (Int.le_of_lt hg)
        rw [u1] at p1
        have he : e = 0 := by
          rcases hlo with h' | h'
          · have := mulp h'; omega
          · exact h'.1
        subst he
        have : g * f = 0 := by omega
        rcases Int.mul_eq_zero.1 this with h' | h'
        · omega
        · subst h'; rfl
      · subst hg
        have he : e = 0 := by
          have : h * e = 0 := by omega
          rcases Int.mul_eq_zero.1 this with h' | h'
          · omega
          · exact h'
        subst he
        have p1 : (0 * 0 + f * h) * h ≤ 0 := Int.mul_nonpos_of_nonpos_of_nonneg h1 (Int.le_of_lt hh)
        rw [u2] at p1
        have hf : f = 0 := by
          rcases Int.lt_or_le 0 f with h' | h'
          · have := mulp h'; omega
          · omega
        subst hf; rfl
    · rw [if_neg h1]
      by_cases h2 : (e - g) * g + (f - h) * h ≥ 0
      · rw [if_pos h2]
        rcases hl with hg | ⟨hg, hh⟩
        · have p1 : 0 ≤ ((e - g) * g + (f - h) * h) * g := Int.mul_nonneg h2 (Int.le_of_lt hg)
          rw [v1] at p1
          have he : e = g := by
            rcases hhi with h' | h'
            · have := mulp (show 0 < g - e by omega)
              have i : (g - e) * (g * g + h * h) = -((e - g) * (g * g + h * h)) := by grind
              omega
            · exact h'.1
          subst he
          have : e * (f - h) = 0 := by rw [Int.mul_sub]; rw [Int.mul_comm e h]; omega
          rcases Int.mul_eq_zero.1 this with h' | h'
          · omega
          · rw [h', Int.sub_self]; rfl
        · subst hg
          have he : e = 0 := by
            have : h * e = 0 := by omega
            rcases Int.mul_eq_zero.1 this with h' | h'
            · omega
            · exact h'
          subst he
          have p1 : 0 ≤ ((0 - 0) * 0 + (f - h) * h) * h := Int.mul_nonneg h2 (Int.le_of_lt hh)
          rw [v2] at p1
          have hf : f = h := by
            rcases Int.lt_or_le f h with h' | h'
            · have := mulp (show 0 < h - f by omega)
              have i : (h - f) * (0 * 0 + h * h) = -((f - h) * (0 * 0 + h * h)) := by grind
              omega
            · omega
          rw [hf]; simp
      · rw [if_neg h2, hcr]; rfl
theorem near_on {a b c d x y : Int} (h1 : segOk a b c d = true) (h2 : ptB x y 1 = true) : nrX a b c d x y = 0 ↔ onI a b c d x y 1 = true := by
  have hl := seg_less h1
  rw [(nr_q a b c d x y).1, q_zero (by omega)]
  unfold onI
  rw [h1, h2, btw_seg hl]
  simp only [Bool.true_and, Bool.and_eq_true, decide_eq_true_eq, ordZ_le, turn_zero, Int.mul_one]
  constructor
  · rintro ⟨h3, h4, h5⟩
    exact ⟨⟨by omega, by omega⟩, h3⟩
  · rintro ⟨⟨h4, h5⟩, h3⟩
    exact ⟨h3, by omega, by omega⟩
end Go.Proofs.YtpnnpkchogooaaaGreat
