/- The square of the distance of a spot and a segment: the model's walk. -/
import Derived.Test.YtckbhihdhcgaeaaNrA
import Derived.Test.YtckbhihdhcgaeaaBas9
import Derived.Test.YtckbhihdhcgaeaaBas11
namespace Go.Proofs.Ytckbhihdhcgaeaa
open Go.RowKit
theorem ratV_one (n : Int) : ratV n 1 = rtV n 1 := by
  rw [ratV_rt (by decide)]
  have h1 : lowN n 1 = n := by
    unfold lowN shareZ
    rw [Int.gcd_one]
    by_cases h : n < 0
    · simp [h]; omega
    · simp [h]; omega
  have h2 : lowD n 1 = 1 := by
    unfold lowD shareZ
    rw [Int.gcd_one]
    decide
  rw [h1, h2]
theorem sum_sq {m n : Int} (h : m * m + n * n = 0) : m = 0 ∧ n = 0 := by
  have h1 : 0 ≤ m * m := by
    rcases Int.le_total 0 m with h | h
    · exact Int.mul_nonneg h h
    · exact Int.mul_nonneg_of_nonpos_of_nonpos h h
  have h2 : 0 ≤ n * n := by
    rcases Int.le_total 0 n with h | h
    · exact Int.mul_nonneg h h
    · exact Int.mul_nonneg_of_nonpos_of_nonpos h h
  exact ⟨(Int.mul_eq_zero.1 (by omega : m * m = 0)).elim id id, (Int.mul_eq_zero.1 (by omega : n * n = 0)).elim id id⟩
def NearP (a b c d x y : Int) (w : World) (e : Ending) (w' : World) : Prop := ∃ (U V : Int) (k : Nat), k ≤ 8000 ∧ rtV U V = nearW a b c d x y ∧ NumsP k U V w e w'
theorem near_same (a b c d x y : Int) : (x - c) * (c - a) + (y - d) * (d - b) = (x - a) * (c - a) + (y - b) * (d - b) - ((c - a) * (c - a) + (d - b) * (d - b)) := by grind
set_option maxRecDepth 100000 in
set_option maxHeartbeats 8000000 in
theorem l4Near2_any (a b c d x y : Int) (i1 : In1 a) (i2 : In1 b) (i3 : In1 c) (i4 : In1 d) (i5 : In1 x) (i6 : In1 y) (w : World) : Calls Try.prog 98 #[Sg a b c d, Sp x y] w (NearP a b c d x y w) := by
  have T0 : ArgsB w (((w.alloc (.cells #[.int .i64 a, .int .i64 b, .int .i64 c, .int .i64 d] 56)).alloc (.cells #[.int .i64 x, .int .i64 y] 54)).alloc (.cells #[.bool false, .slice none 0 0, .bool false, .slice none 0 0] 110)) [[.int .i64 a, .int .i64 b, .int .i64 c, .int .i64 d], [.int .i64 x, .int .i64 y], [.bool false, .slice none 0 0, .bool false, .slice none 0 0]] := ar3 _ _ _ _ _ _ w
  obtain ⟨a1, a2⟩ := i1; obtain ⟨b1, b2⟩ := i2; obtain ⟨c1, c2⟩ := i3; obtain ⟨d1, d2⟩ := i4; obtain ⟨x1, x2⟩ := i5; obtain ⟨y1, y2⟩ := i6
  have hm2 : In2 (c - a) := ⟨by omega, by omega⟩
  have hn2 : In2 (d - b) := ⟨by omega, by omega⟩
  have hi2 : In2 (x - a) := ⟨by omega, by omega⟩
  have hj2 : In2 (y - b) := ⟨by omega, by omega⟩
  have hk2 : In2 (x - c) := ⟨by omega, by omega⟩
  have hl2 : In2 (y - d) := ⟨by omega, by omega⟩
  obtain ⟨p1, p2⟩ := prod2 hi2 hi2; obtain ⟨p3, p4⟩ := prod2 hj2 hj2; obtain ⟨p5, p6⟩ := prod2 hk2 hk2; obtain ⟨p7, p8⟩ := prod2 hl2 hl2
  obtain ⟨u1, u2⟩ := prod2 hm2 hj2; obtain ⟨u3, u4⟩ := prod2 hn2 hi2; obtain ⟨u5, u6⟩ := prod2 hm2 hm2; obtain ⟨u7, u8⟩ := prod2 hn2 hn2
  obtain ⟨t1, t2⟩ := prod2 hi2 hm2; obtain ⟨t3, t4⟩ := prod2 hj2 hn2
  clear hm2 hn2 hi2 hj2 hk2 hl2
  have E : Hid ((x - c) * (c - a) + (y - d) * (d - b) = (x - a) * (c - a) + (y - b) * (d - b) - ((c - a) * (c - a) + (d - b) * (d - b))) := near_same a b c d x y
  go_enter Try.func98, Try.ntmps98
  go_upto_region 1 with fail
  generalize (((w.alloc (.cells #[.int .i64 a, .int .i64 b, .int .i64 c, .int .i64 d] 56)).alloc (.cells #[.int .i64 x, .int .i64 y] 54)).alloc (.cells #[.bool false, .slice none 0 0, .bool false, .slice none 0 0] 110)) = WW at *
  have Y1 : Blk _ w.heap.size _ := T0.b 0 rfl; have g0 := Y1.c 0 rfl; have g1 := Y1.c 1 rfl; have g2 := Y1.c 2 rfl; have g3 := Y1.c 3 rfl; clear Y1
  have Y0 : Blk _ (w.heap.size + 1) _ := T0.b 1 rfl; have q0 := Y0.c 0 rfl; have q1 := Y0.c 1 rfl; clear Y0
  by_cases h1 : (x - a) * (c - a) + (y - b) * (d - b) ≤ 0
  · have HQ : Hid (rtV ((x - a) * (x - a) + (y - b) * (y - b)) 1 = nearW a b c d x y) := by show _ = _; unfold nearW; rw [if_pos h1]; exact (ratV_one _).symm
    clear E p5 p6 p7 p8 u1 u2 u3 u4
    go_wp2_with fail
    refine (int_any ((x - a) * (x - a) + (y - b) * (y - b)) _ (by omega) (by omega)).mono ?_
    rintro e v1 ⟨s1, o1, n1, c1, d1, rfl, N1, hB⟩
    replace T0 := T0.step hB
    clear hB g0 g1 g2 g3 q0 q1
    go_wp2_with fail
    refine (int_any 1 _ (by decide) (by decide)).mono ?_
    rintro e v2 ⟨s2, o2, n2, c2, d2, rfl, N2, hB⟩
    replace T0 := T0.step hB
    replace N1 := N1.below hB
    clear hB
    have K1 : Hid (IsNum v2 s1 o1 n1 c1 d1 ((x - a) * (x - a) + (y - b) * (y - b)) 2) := N1
    have K2 : Hid (IsNum v2 s2 o2 n2 c2 d2 1 2) := N2
    have KB : Hid (Below w.heap.size w v2) := T0.below
    have KR : Hid (Blk v2 (w.heap.size + 1 + 1) [.bool false, .slice none 0 0, .bool false, .slice none 0 0]) := T0.b 2 rfl
    have p0 := (T0.b 2 rfl).c 0 rfl; have r0 := (T0.b 2 rfl).f 0 rfl; have p1 := (T0.b 2 rfl).c 1 rfl; have r1 := (T0.b 2 rfl).f 1 rfl; have p2 := (T0.b 2 rfl).c 2 rfl; have r2 := (T0.b 2 rfl).f 2 rfl; have p3 := (T0.b 2 rfl).c 3 rfl; have r3 := (T0.b 2 rfl).f 3 rfl; have plt := (T0.b 2 rfl).lt
    clear N1 N2 T0
    go_wp2
    refine bodyPost_ret (v := .agg #[.bool s1, .slice o1 n1 c1, .bool s2, .slice o2 n2 c2]) (by simp [results, Try.results98, go_sem, p0, p1, p2, p3]) rfl ?_
    exact ⟨_, _, 2, by omega, HQ.out, nums_ret (by omega) KR.out K1.out K2.out KB.out⟩
  · by_cases h2 : (x - a) * (c - a) + (y - b) * (d - b) ≥ (c - a) * (c - a) + (d - b) * (d - b)
    · have HQ : Hid (rtV ((x - c) * (x - c) + (y - d) * (y - d)) 1 = nearW a b c d x y) := by show _ = _; unfold nearW; rw [if_neg h1, if_pos (by rw [E.out]; omega)]; exact (ratV_one _).symm
      clear E p1 p2 p3 p4 u1 u2 u3 u4
      go_wp2_with fail
      refine (int_any ((x - c) * (x - c) + (y - d) * (y - d)) _ (by omega) (by omega)).mono ?_
      rintro e v1 ⟨s1, o1, n1, c1, d1, rfl, N1, hB⟩
      replace T0 := T0.step hB
      clear hB g0 g1 g2 g3 q0 q1
      go_wp2_with fail
      refine (int_any 1 _ (by decide) (by decide)).mono ?_
      rintro e v2 ⟨s2, o2, n2, c2, d2, rfl, N2, hB⟩
      replace T0 := T0.step hB
      replace N1 := N1.below hB
      clear hB
      have K1 : Hid (IsNum v2 s1 o1 n1 c1 d1 ((x - c) * (x - c) + (y - d) * (y - d)) 2) := N1
      have K2 : Hid (IsNum v2 s2 o2 n2 c2 d2 1 2) := N2
      have KB : Hid (Below w.heap.size w v2) := T0.below
      have KR : Hid (Blk v2 (w.heap.size + 1 + 1) [.bool false, .slice none 0 0, .bool false, .slice none 0 0]) := T0.b 2 rfl
      have p0 := (T0.b 2 rfl).c 0 rfl; have r0 := (T0.b 2 rfl).f 0 rfl; have p1 := (T0.b 2 rfl).c 1 rfl; have r1 := (T0.b 2 rfl).f 1 rfl; have p2 := (T0.b 2 rfl).c 2 rfl; have r2 := (T0.b 2 rfl).f 2 rfl; have p3 := (T0.b 2 rfl).c 3 rfl; have r3 := (T0.b 2 rfl).f 3 rfl; have plt := (T0.b 2 rfl).lt
      clear N1 N2 T0
      go_wp2
      refine bodyPost_ret (v := .agg #[.bool s1, .slice o1 n1 c1, .bool s2, .slice o2 n2 c2]) (by simp [results, Try.results98, go_sem, p0, p1, p2, p3]) rfl ?_
      exact ⟨_, _, 2, by omega, HQ.out, nums_ret (by omega) KR.out K1.out K2.out KB.out⟩
    · have hne : (c - a) * (c - a) + (d - b) * (d - b) ≠ 0 := by
        intro h0
        obtain ⟨e1, e2⟩ := sum_sq h0
        rw [e1, e2] at h1
        simp at h1
      have HQ : Hid (ratV (((c - a) * (y - b) - (d - b) * (x - a)) * ((c - a) * (y - b) - (d - b) * (x - a))) ((c - a) * (c - a) + (d - b) * (d - b)) = nearW a b c d x y) := by show _ = _; unfold nearW; rw [if_neg h1, if_neg (by rw [E.out]; omega)]
      have HN : Hid ((c - a) * (c - a) + (d - b) * (d - b) ≠ 0) := hne
      clear E p1 p2 p3 p4 p5 p6 p7 p8 hne
      go_wp2_with fail
      refine (int_any ((c - a) * (y - b) - (d - b) * (x - a)) _ (by omega) (by omega)).mono ?_
      rintro e v1 ⟨s1, o1, n1, c1, d1, rfl, N1, hB⟩
      replace T0 := (T0.step hB).alloc (.cells #[.bool s1, .slice o1 n1 c1] 82)
      have X1 := Blk.new v1 [.bool s1, .slice o1 n1 c1] 82 rfl
      replace N1 := N1.alloc (.cells #[.bool s1, .slice o1 n1 c1] 82)
      clear hB g0 g1 g2 g3 q0 q1
      have f0 := X1.c 0 rfl; have f1 := X1.c 1 rfl
      go_wp2_with fail
      refine (mul_any s1 s1 o1 o1 n1 n1 c1 c1 2 d1 d1 _ _ _ N1 N1 (by omega)).mono ?_
      rintro e v2 ⟨s2, o2, n2, c2, d2, rfl, N2, hB⟩
      replace T0 := T0.step hB
      clear hB N1 X1 f0 f1
      go_wp2_with fail
      refine (int_any ((c - a) * (c - a) + (d - b) * (d - b)) _ (by omega) (by omega)).mono ?_
      rintro e v3 ⟨s3, o3, n3, c3, d3, rfl, N3, hB⟩
      replace T0 := T0.step hB
      replace N2 := N2.below hB
      clear hB
      go_wp2_with fail
      refine (l2Make_any s2 o2 n2 c2 d2 s3 o3 n3 c3 d3 _ _ 4 (by omega) (by omega) _ N2 (num_more N3 (by omega)) HN.out).mono ?_
      rintro e v4 ⟨s4, o4, n4, c4, d4, s5, o5, n5, c5, d5, rfl, N4, N5, hB⟩
      replace T0 := T0.step hB
      have K1 : Hid (IsNum v4 s4 o4 n4 c4 d4 _ (4 + 3)) := N4
      have K2 : Hid (IsNum v4 s5 o5 n5 c5 d5 _ (4 + 3)) := N5
      have KB : Hid (Below w.heap.size w v4) := T0.below
      have KR : Hid (Blk v4 (w.heap.size + 1 + 1) [.bool false, .slice none 0 0, .bool false, .slice none 0 0]) := T0.b 2 rfl
      have p0 := (T0.b 2 rfl).c 0 rfl; have r0 := (T0.b 2 rfl).f 0 rfl; have p1 := (T0.b 2 rfl).c 1 rfl; have r1 := (T0.b 2 rfl).f 1 rfl; have p2 := (T0.b 2 rfl).c 2 rfl; have r2 := (T0.b 2 rfl).f 2 rfl; have p3 := (T0.b 2 rfl).c 3 rfl; have r3 := (T0.b 2 rfl).f 3 rfl; have plt := (T0.b 2 rfl).lt
      clear N2 N3 N4 N5 T0 hB
      go_wp2
      refine bodyPost_ret (v := .agg #[.bool s4, .slice o4 n4 c4, .bool s5, .slice o5 n5 c5]) (by simp [results, Try.results98, go_sem, p0, p1, p2, p3]) rfl ?_
      exact ⟨_, _, 4 + 3, by omega, (ratV_rt HN.out).symm.trans HQ.out, nums_ret (by omega) KR.out K1.out K2.out KB.out⟩
set_option maxRecDepth 100000 in
set_option maxHeartbeats 4000000 in
theorem specNear2_det (a b c d x y : Int) (w : World) : Calls Try.prog 42 #[Sg a b c d, Sp x y] w (VP (nearV a b c d x y) w) := by
  have T0 : ArgsB w (((w.alloc (.cells #[.int .i64 a, .int .i64 b, .int .i64 c, .int .i64 d] 56)).alloc (.cells #[.int .i64 x, .int .i64 y] 54)).alloc (.cells #[.int .u64 0, .int .u64 0, .int .u64 0, .int .u64 0, .int .u64 0, .int .u64 0, .int .u64 0, .int .u64 0] 44)) [[.int .i64 a, .int .i64 b, .int .i64 c, .int .i64 d], [.int .i64 x, .int .i64 y], [.int .u64 0, .int .u64 0, .int .u64 0, .int .u64 0, .int .u64 0, .int .u64 0, .int .u64 0, .int .u64 0]] := ar3 _ _ _ _ _ _ w
  have SO := fun w => specSegOk_any a b c d _ rfl w
  have PO := fun w => specSpotOk_any x y _ rfl w
  go_enter Try.func42, Try.ntmps42
  go_wp2_with fail
  generalize (((w.alloc (.cells #[.int .i64 a, .int .i64 b, .int .i64 c, .int .i64 d] 56)).alloc (.cells #[.int .i64 x, .int .i64 y] 54)).alloc (.cells #[.int .u64 0, .int .u64 0, .int .u64 0, .int .u64 0, .int .u64 0, .int .u64 0, .int .u64 0, .int .u64 0] 44)) = WW at *
  refine (SO _).mono ?_
  rintro e w1 ⟨rfl, hB⟩
  replace T0 := T0.step hB
  clear hB
  by_cases hs : segOk a b c d = true
  · rw [hs]
    have Y0 : Blk _ (w.heap.size + 1) _ := T0.b 1 rfl; have q0 := Y0.c 0 rfl; have q1 := Y0.c 1 rfl; clear Y0
    go_wp2_with fail
    refine (PO _).mono ?_
    rintro e w2 ⟨rfl, hB⟩
    replace T0 := T0.step hB
    clear hB q0 q1
    by_cases hp : spotOk x y = true
    · rw [hp]
      have HW : Hid (nearV a b c d x y = nearW a b c d x y) := by show _ = _; unfold nearV; rw [hs, hp]; rfl
      obtain ⟨i1, i2, i3, i4⟩ := in6_seg hs
      obtain ⟨i5, i6⟩ := in1_spot hp
      have L := l4Near2_any a b c d x y i1 i2 i3 i4 i5 i6
      obtain ⟨z0, z1, z2, z3, z4, z5, z6, z7, f, hf⟩ := nearW_ex a b c d x y
      clear hs hp SO PO i1 i2 i3 i4 i5 i6
      have Y1 : Blk _ w.heap.size _ := T0.b 0 rfl; have g0 := Y1.c 0 rfl; have g1 := Y1.c 1 rfl; have g2 := Y1.c 2 rfl; have g3 := Y1.c 3 rfl; clear Y1
      have Y0 : Blk _ (w.heap.size + 1) _ := T0.b 1 rfl; have q0 := Y0.c 0 rfl; have q1 := Y0.c 1 rfl; clear Y0
      go_wp2_with fail
      refine (L _).mono ?_
      rintro e w3 ⟨U, V, k, hk, hUV, s1, o1, n1, c1, d1, s2, o2, n2, c2, d2, rfl, N1, N2, hB⟩
      replace T0 := T0.step hB
      have R := l2Ratio_any s1 o1 n1 c1 d1 s2 o2 n2 c2 d2 U V k hk w3 N1 N2
      rw [hUV, hf] at R
      have HO : Hid (nearV a b c d x y = .tuple #[.agg #[.int .u64 z0, .int .u64 z1, .int .u64 z2, .int .u64 z3, .int .u64 z4, .int .u64 z5, .int .u64 z6, .int .u64 z7], .bool f]) := HW.out.trans hf
      clear hB L g0 g1 g2 g3 q0 q1 N1 N2 hUV hf HW
      go_wp2_with fail
      refine R.mono ?_
      rintro e w4 ⟨rfl, hB⟩
      replace T0 := T0.step hB
      have o0 := (T0.b 2 rfl).c 0 rfl; have r0 := (T0.b 2 rfl).f 0 rfl; have o1 := (T0.b 2 rfl).c 1 rfl; have r1 := (T0.b 2 rfl).f 1 rfl; have o2 := (T0.b 2 rfl).c 2 rfl; have r2 := (T0.b 2 rfl).f 2 rfl; have o3 := (T0.b 2 rfl).c 3 rfl; have r3 := (T0.b 2 rfl).f 3 rfl; have o4 := (T0.b 2 rfl).c 4 rfl; have r4 := (T0.b 2 rfl).f 4 rfl; have o5 := (T0.b 2 rfl).c 5 rfl; have r5 := (T0.b 2 rfl).f 5 rfl; have o6 := (T0.b 2 rfl).c 6 rfl; have r6 := (T0.b 2 rfl).f 6 rfl; have o7 := (T0.b 2 rfl).c 7 rfl; have r7 := (T0.b 2 rfl).f 7 rfl; have olt := (T0.b 2 rfl).lt
      have HB := T0.below
      clear T0 hB R
      go_wp2
      refine bodyPost_ret (v := .tuple #[.agg #[.int .u64 z0, .int .u64 z1, .int .u64 z2, .int .u64 z3, .int .u64 z4, .int .u64 z5, .int .u64 z6, .int .u64 z7], .bool f]) (by simp [results, Try.results42, go_sem, o0, o1, o2, o3, o4, o5, o6, o7]) rfl ?_
      refine ⟨by rw [HO.out], ?_⟩
      repeat' (refine Below.setCell ?_ (by simp; try omega) _)
      exact HB
    · replace hp := Bool.eq_false_iff.2 hp
      rw [hp]
      have HO : Hid (nearV a b c d x y = .tuple #[.agg #[.int .u64 0, .int .u64 0, .int .u64 0, .int .u64 0, .int .u64 0, .int .u64 0, .int .u64 0, .int .u64 0], .bool false]) := by show _ = _; unfold nearV; rw [hp]; simp
      have o0 := (T0.b 2 rfl).c 0 rfl; have r0 := (T0.b 2 rfl).f 0 rfl; have o1 := (T0.b 2 rfl).c 1 rfl; have r1 := (T0.b 2 rfl).f 1 rfl; have o2 := (T0.b 2 rfl).c 2 rfl; have r2 := (T0.b 2 rfl).f 2 rfl; have o3 := (T0.b 2 rfl).c 3 rfl; have r3 := (T0.b 2 rfl).f 3 rfl; have o4 := (T0.b 2 rfl).c 4 rfl; have r4 := (T0.b 2 rfl).f 4 rfl; have o5 := (T0.b 2 rfl).c 5 rfl; have r5 := (T0.b 2 rfl).f 5 rfl; have o6 := (T0.b 2 rfl).c 6 rfl; have r6 := (T0.b 2 rfl).f 6 rfl; have o7 := (T0.b 2 rfl).c 7 rfl; have r7 := (T0.b 2 rfl).f 7 rfl; have olt := (T0.b 2 rfl).lt
      have HB := T0.below
      clear T0
      go_wp2
      refine bodyPost_ret (v := .tuple #[.agg #[.int .u64 0, .int .u64 0, .int .u64 0, .int .u64 0, .int .u64 0, .int .u64 0, .int .u64 0, .int .u64 0], .bool false]) (by simp [results, Try.results42, go_sem, o0, o1, o2, o3, o4, o5, o6, o7]) rfl ?_
      refine ⟨by rw [HO.out], ?_⟩
      repeat' (refine Below.setCell ?_ (by simp; try omega) _)
      exact HB
  · replace hs := Bool.eq_false_iff.2 hs
    rw [hs]
    have HO : Hid (nearV a b c d x y = .tuple #[.agg #[.int .u64 0, .int .u64 0, .int .u64 0, .int .u64 0, .int .u64 0, .int .u64 0, .int .u64 0, .int .u64 0], .bool false]) := by show _ = _; unfold nearV; rw [hs]; simp
    have o0 := (T0.b 2 rfl).c 0 rfl; have r0 := (T0.b 2 rfl).f 0 rfl; have o1 := (T0.b 2 rfl).c 1 rfl; have r1 := (T0.b 2 rfl).f 1 rfl; have o2 := (T0.b 2 rfl).c 2 rfl; have r2 := (T0.b 2 rfl).f 2 rfl; have o3 := (T0.b 2 rfl).c 3 rfl; have r3 := (T0.b 2 rfl).f 3 rfl; have o4 := (T0.b 2 rfl).c 4 rfl; have r4 := (T0.b 2 rfl).f 4 rfl; have o5 := (T0.b 2 rfl).c 5 rfl; have r5 := (T0.b 2 rfl).f 5 rfl; have o6 := (T0.b 2 rfl).c 6 rfl; have r6 := (T0.b 2 rfl).f 6 rfl; have o7 := (T0.b 2 rfl).c 7 rfl; have r7 := (T0.b 2 rfl).f 7 rfl; have olt := (T0.b 2 rfl).lt
    have HB := T0.below
    clear T0
    go_wp2
    refine bodyPost_ret (v := .tuple #[.agg #[.int .u64 0, .int .u64 0, .int .u64 0, .int .u64 0, .int .u64 0, .int .u64 0, .int .u64 0, .int .u64 0], .bool false]) (by simp [results, Try.results42, go_sem, o0, o1, o2, o3, o4, o5, o6, o7]) rfl ?_
    refine ⟨by rw [HO.out], ?_⟩
    repeat' (refine Below.setCell ?_ (by simp; try omega) _)
    exact HB
end Go.Proofs.Ytckbhihdhcgaeaa
