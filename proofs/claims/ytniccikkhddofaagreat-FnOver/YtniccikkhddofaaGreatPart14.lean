/- Part 14 of the walks that the proof leans on. -/
import Derived.Test.YtniccikkhddofaaGreatPart10
import Derived.Test.YtniccikkhddofaaGreatPart13
import Derived.Test.YtniccikkhddofaaGreatPart8
/- The turn of three points: both sides. -/
namespace Go.Proofs.YtniccikkhddofaaGreat
open Go.RowKit
/-- The turn of three points; of points that are not right, 0. -/
def oriI (x y z u v t a b c : Int) : Int := if ptB x y z && ptB u v t && ptB a b c then turnI x y z u v t a b c else 0
theorem turn_same (x y z u v t a b c : Int) : turnJ x y z u v t a b c = turnI x y z u v t a b c := by
  unfold turnJ turnI
  congr 1
  grind
set_option maxRecDepth 100000 in
set_option maxHeartbeats 4000000 in
theorem implOrient_det (x y z u v t a b c : Int) (hx : told x = true) (hy : told y = true) (hz : told z = true) (hu : told u = true) (hv : told v = true) (ht : told t = true) (ha : told a = true) (hb : told b = true) (hc : told c = true) (w : World) : Calls Tryz.prog 23 #[PV x y z, PV u v t, PV a b c] w (VP (.int .i64 (oriI x y z u v t a b c)) w) := by
  have T0 : ArgsB w (((w.alloc (.cells #[.int .u64 (ww3 x), .int .u64 (ww2 x), .int .u64 (ww1 x), .int .u64 (ww0 x), .int .u64 (ww3 y), .int .u64 (ww2 y), .int .u64 (ww1 y), .int .u64 (ww0 y), .int .u64 (ww3 z), .int .u64 (ww2 z), .int .u64 (ww1 z), .int .u64 (ww0 z)] 32)).alloc (.cells #[.int .u64 (ww3 u), .int .u64 (ww2 u), .int .u64 (ww1 u), .int .u64 (ww0 u), .int .u64 (ww3 v), .int .u64 (ww2 v), .int .u64 (ww1 v), .int .u64 (ww0 v), .int .u64 (ww3 t), .int .u64 (ww2 t), .int .u64 (ww1 t), .int .u64 (ww0 t)] 32)).alloc (.cells #[.int .u64 (ww3 a), .int .u64 (ww2 a), .int .u64 (ww1 a), .int .u64 (ww0 a), .int .u64 (ww3 b), .int .u64 (ww2 b), .int .u64 (ww1 b), .int .u64 (ww0 b), .int .u64 (ww3 c), .int .u64 (ww2 c), .int .u64 (ww1 c), .int .u64 (ww0 c)] 32)) [[.int .u64 (ww3 x), .int .u64 (ww2 x), .int .u64 (ww1 x), .int .u64 (ww0 x), .int .u64 (ww3 y), .int .u64 (ww2 y), .int .u64 (ww1 y), .int .u64 (ww0 y), .int .u64 (ww3 z), .int .u64 (ww2 z), .int .u64 (ww1 z), .int .u64 (ww0 z)], [.int .u64 (ww3 u), .int .u64 (ww2 u), .int .u64 (ww1 u), .int .u64 (ww0 u), .int .u64 (ww3 v), .int .u64 (ww2 v), .int .u64 (ww1 v), .int .u64 (ww0 v), .int .u64 (ww3 t), .int .u64 (ww2 t), .int .u64 (ww1 t), .int .u64 (ww0 t)], [.int .u64 (ww3 a), .int .u64 (ww2 a), .int .u64 (ww1 a), .int .u64 (ww0 a), .int .u64 (ww3 b), .int .u64 (ww2 b), .int .u64 (ww1 b), .int .u64 (ww0 b), .int .u64 (ww3 c), .int .u64 (ww2 c), .int .u64 (ww1 c), .int .u64 (ww0 c)]] := ar3 _ _ _ _ _ _ w
  have R1 := pright_det x y z hx hy hz
  have R2 := pright_det u v t hu hv ht
  have R3 := pright_det a b c ha hb hc
  clear hx hy hz hu hv ht ha hb hc
  go_enter Tryz.func23, Tryz.ntmps23
  go_wp2_with fail
  generalize (((w.alloc (.cells #[.int .u64 (ww3 x), .int .u64 (ww2 x), .int .u64 (ww1 x), .int .u64 (ww0 x), .int .u64 (ww3 y), .int .u64 (ww2 y), .int .u64 (ww1 y), .int .u64 (ww0 y), .int .u64 (ww3 z), .int .u64 (ww2 z), .int .u64 (ww1 z), .int .u64 (ww0 z)] 32)).alloc (.cells #[.int .u64 (ww3 u), .int .u64 (ww2 u), .int .u64 (ww1 u), .int .u64 (ww0 u), .int .u64 (ww3 v), .int .u64 (ww2 v), .int .u64 (ww1 v), .int .u64 (ww0 v), .int .u64 (ww3 t), .int .u64 (ww2 t), .int .u64 (ww1 t), .int .u64 (ww0 t)] 32)).alloc (.cells #[.int .u64 (ww3 a), .int .u64 (ww2 a), .int .u64 (ww1 a), .int .u64 (ww0 a), .int .u64 (ww3 b), .int .u64 (ww2 b), .int .u64 (ww1 b), .int .u64 (ww0 b), .int .u64 (ww3 c), .int .u64 (ww2 c), .int .u64 (ww1 c), .int .u64 (ww0 c)] 32)) = W at *
  refine (R1 _).mono ?_
  rintro e w1 ⟨rfl, hB⟩
  replace T0 := T0.step hB
  clear hB
  by_cases h1 : ptB x y z = true
  · rw [h1]
    have X0 : Blk _ w.heap.size _ := T0.b 0 rfl; have Y0 : Blk _ (w.heap.size + 1) _ := T0.b 1 rfl; have Z0 : Blk _ (w.heap.size + 1 + 1) _ := T0.b 2 rfl; have p0 := X0.c 0 rfl; have q0 := Y0.c 0 rfl; have r0 := Z0.c 0 rfl; have p1 := X0.c 1 rfl; have q1 := Y0.c 1 rfl; have r1 := Z0.c 1 rfl; have p2 := X0.c 2 rfl; have q2 := Y0.c 2 rfl; have r2 := Z0.c 2 rfl; have p3 := X0.c 3 rfl; have q3 := Y0.c 3 rfl; have r3 := Z0.c 3 rfl; have p4 := X0.c 4 rfl; have q4 := Y0.c 4 rfl; have r4 := Z0.c 4 rfl; have p5 := X0.c 5 rfl; have q5 := Y0.c 5 rfl; have r5 := Z0.c 5 rfl; have p6 := X0.c 6 rfl; have q6 := Y0.c 6 rfl; have r6 := Z0.c 6 rfl; have p7 := X0.c 7 rfl; have q7 := Y0.c 7 rfl; have r7 := Z0.c 7 rfl; have p8 := X0.c 8 rfl; have q8 := Y0.c 8 rfl; have r8 := Z0.c 8 rfl; have p9 := X0.c 9 rfl; have q9 := Y0.c 9 rfl; have r9 := Z0.c 9 rfl; have p10 := X0.c 10 rfl; have q10 := Y0.c 10 rfl; have r10 := Z0.c 10 rfl; have p11 := X0.c 11 rfl; have q11 := Y0.c 11 rfl; have r11 := Z0.c 11 rfl; clear X0 Y0 Z0
    go_wp2_with fail
    refine (R2 _).mono ?_
    rintro e w2 ⟨rfl, hB⟩
    replace T0 := T0.step hB
    clear hB p0 q0 r0 p1 q1 r1 p2 q2 r2 p3 q3 r3 p4 q4 r4 p5 q5 r5 p6 q6 r6 p7 q7 r7 p8 q8 r8 p9 q9 r9 p10 q10 r10 p11 q11 r11
    by_cases h2 : ptB u v t = true
    · rw [h2]
      have X0 : Blk _ w.heap.size _ := T0.b 0 rfl; have Y0 : Blk _ (w.heap.size + 1) _ := T0.b 1 rfl; have Z0 : Blk _ (w.heap.size + 1 + 1) _ := T0.b 2 rfl; have p0 := X0.c 0 rfl; have q0 := Y0.c 0 rfl; have r0 := Z0.c 0 rfl; have p1 := X0.c 1 rfl; have q1 := Y0.c 1 rfl; have r1 := Z0.c 1 rfl; have p2 := X0.c 2 rfl; have q2 := Y0.c 2 rfl; have r2 := Z0.c 2 rfl; have p3 := X0.c 3 rfl; have q3 := Y0.c 3 rfl; have r3 := Z0.c 3 rfl; have p4 := X0.c 4 rfl; have q4 := Y0.c 4 rfl; have r4 := Z0.c 4 rfl; have p5 := X0.c 5 rfl; have q5 := Y0.c 5 rfl; have r5 := Z0.c 5 rfl; have p6 := X0.c 6 rfl; have q6 := Y0.c 6 rfl; have r6 := Z0.c 6 rfl; have p7 := X0.c 7 rfl; have q7 := Y0.c 7 rfl; have r7 := Z0.c 7 rfl; have p8 := X0.c 8 rfl; have q8 := Y0.c 8 rfl; have r8 := Z0.c 8 rfl; have p9 := X0.c 9 rfl; have q9 := Y0.c 9 rfl; have r9 := Z0.c 9 rfl; have p10 := X0.c 10 rfl; have q10 := Y0.c 10 rfl; have r10 := Z0.c 10 rfl; have p11 := X0.c 11 rfl; have q11 := Y0.c 11 rfl; have r11 := Z0.c 11 rfl; clear X0 Y0 Z0
      go_wp2_with fail
      refine (R3 _).mono ?_
      rintro e w3 ⟨rfl, hB⟩
      replace T0 := T0.step hB
      clear hB p0 q0 r0 p1 q1 r1 p2 q2 r2 p3 q3 r3 p4 q4 r4 p5 q5 r5 p6 q6 r6 p7 q7 r7 p8 q8 r8 p9 q9 r9 p10 q10 r10 p11 q11 r11
      by_cases h3 : ptB a b c = true
      · rw [h3]
        have HO : Hid (oriI x y z u v t a b c = turnI x y z u v t a b c) := by show _ = _; unfold oriI; rw [h1, h2, h3]; rfl
        obtain ⟨-, sx, sy, sz⟩ := ptB_small h1
        obtain ⟨-, su, sv, st⟩ := ptB_small h2
        obtain ⟨-, sa, sb, sc⟩ := ptB_small h3
        have C := turn_det x y z u v t a b c sx sy sz su sv st sa sb sc
        rw [turn_same] at C
        clear h1 h2 h3 R1 R2 R3 sx sy sz su sv st sa sb sc
        generalize turnI x y z u v t a b c = o at *
        have X0 : Blk _ w.heap.size _ := T0.b 0 rfl; have Y0 : Blk _ (w.heap.size + 1) _ := T0.b 1 rfl; have Z0 : Blk _ (w.heap.size + 1 + 1) _ := T0.b 2 rfl; have p0 := X0.c 0 rfl; have q0 := Y0.c 0 rfl; have r0 := Z0.c 0 rfl; have p1 := X0.c 1 rfl; have q1 := Y0.c 1 rfl; have r1 := Z0.c 1 rfl; have p2 := X0.c 2 rfl; have q2 := Y0.c 2 rfl; have r2 := Z0.c 2 rfl; have p3 := X0.c 3 rfl; have q3 := Y0.c 3 rfl; have r3 := Z0.c 3 rfl; have p4 := X0.c 4 rfl; have q4 := Y0.c 4 rfl; have r4 := Z0.c 4 rfl; have p5 := X0.c 5 rfl; have q5 := Y0.c 5 rfl; have r5 := Z0.c 5 rfl; have p6 := X0.c 6 rfl; have q6 := Y0.c 6 rfl; have r6 := Z0.c 6 rfl; have p7 := X0.c 7 rfl; have q7 := Y0.c 7 rfl; have r7 := Z0.c 7 rfl; have p8 := X0.c 8 rfl; have q8 := Y0.c 8 rfl; have r8 := Z0.c 8 rfl; have p9 := X0.c 9 rfl; have q9 := Y0.c 9 rfl; have r9 := Z0.c 9 rfl; have p10 := X0.c 10 rfl; have q10 := Y0.c 10 rfl; have r10 := Z0.c 10 rfl; have p11 := X0.c 11 rfl; have q11 := Y0.c 11 rfl; have r11 := Z0.c 11 rfl; clear X0 Y0 Z0
        go_wp2_with fail
        refine (C _).mono ?_
        rintro e w4 ⟨rfl, hB⟩
        have HB := (T0.step hB).below
        clear hB T0 C p0 q0 r0 p1 q1 r1 p2 q2 r2 p3 q3 r3 p4 q4 r4 p5 q5 r5 p6 q6 r6 p7 q7 r7 p8 q8 r8 p9 q9 r9 p10 q10 r10 p11 q11 r11
        go_wp2
        go_ret
        exact ⟨by rw [HO.out]; rfl, HB⟩
      · replace h3 := Bool.eq_false_iff.2 h3
        rw [h3]
        have HO : Hid (oriI x y z u v t a b c = 0) := by show _ = _; unfold oriI; rw [h3]; simp
        have HB := T0.below
        clear T0 h1 h2 h3 R1 R2 R3
        go_wp2
        go_ret
        exact ⟨by rw [HO.out]; rfl, HB⟩
    · replace h2 := Bool.eq_false_iff.2 h2
      rw [h2]
      have HO : Hid (oriI x y z u v t a b c = 0) := by show _ = _; unfold oriI; rw [h2]; simp
      have HB := T0.below
      clear T0 h1 h2 R1 R2 R3
      go_wp2
      go_ret
      exact ⟨by rw [HO.out]; rfl, HB⟩
  · replace h1 := Bool.eq_false_iff.2 h1
    rw [h1]
    have HO : Hid (oriI x y z u v t a b c = 0) := by show _ = _; unfold oriI; rw [h1]; simp
    have HB := T0.below
    clear T0 h1 R1 R2 R3
    go_wp2
    go_ret
    exact ⟨by rw [HO.out]; rfl, HB⟩
end Go.Proofs.YtniccikkhddofaaGreat

/- On which side of a segment a point lies: both sides. -/
namespace Go.Proofs.YtniccikkhddofaaGreat
open Go.RowKit
theorem in6_seg {a b c d : Int} (h : segOk a b c d = true) : (-1000000 ≤ a ∧ a ≤ 1000000) ∧ (-1000000 ≤ b ∧ b ≤ 1000000) ∧ (-1000000 ≤ c ∧ c ≤ 1000000) ∧ (-1000000 ≤ d ∧ d ≤ 1000000) := by
  unfold segOk spotOk at h
  simp at h
  omega
theorem ptB_spot {a b : Int} (ha : -1000000 ≤ a ∧ a ≤ 1000000) (hb : -1000000 ≤ b ∧ b ≤ 1000000) : ptB a b 1 = true := by
  unfold ptB
  have h1 : small 1 = true := by decide
  rw [small_int (x := a) (by omega) (by omega), small_int (x := b) (by omega) (by omega), h1]
  simp
theorem told6 {a : Int} (ha : -1000000 ≤ a ∧ a ≤ 1000000) : told a = true := told_small (small_int (by omega) (by omega))
/-- The side of a segment on which a point lies; 0 where one of them is not right. -/
def sideI (a b c d x y z : Int) : Int := if segOk a b c d && ptB x y z then turnI a b 1 c d 1 x y z else 0
theorem l3Spot_det (a b : Int) (ha : -1000000 ≤ a ∧ a ≤ 1000000) (hb : -1000000 ≤ b ∧ b ≤ 1000000) (w : World) : Calls Tryz.prog 16 #[Sp a b] w (L3P 8 a b 1 w) := by
  refine (l3Spot_any a b (by omega) (by omega) (by omega) (by omega) w).mono ?_
  rintro e w' ⟨s1, o1, n1, c1, d1, s2, o2, n2, c2, d2, s3, o3, n3, c3, d3, rfl, N1, N2, N3, hB⟩
  exact ⟨s1, o1, n1, c1, d1, s2, o2, n2, c2, d2, s3, o3, n3, c3, d3, rfl, num_more N1 (by omega), num_more N2 (by omega), num_more N3 (by omega), hB⟩
set_option maxRecDepth 100000 in
set_option maxHeartbeats 2000000 in
theorem implSideOf_det (a b c d x y z : Int) (hx : told x = true) (hy : told y = true) (hz : told z = true) (w : World) : Calls Tryz.prog 9 #[Sg a b c d, PV x y z] w (VP (.int .i64 (sideI a b c d x y z)) w) := by
  have T0 : ArgsB w ((w.alloc (.cells #[.int .i64 a, .int .i64 b, .int .i64 c, .int .i64 d] 27)).alloc (.cells #[.int .u64 (ww3 x), .int .u64 (ww2 x), .int .u64 (ww1 x), .int .u64 (ww0 x), .int .u64 (ww3 y), .int .u64 (ww2 y), .int .u64 (ww1 y), .int .u64 (ww0 y), .int .u64 (ww3 z), .int .u64 (ww2 z), .int .u64 (ww1 z), .int .u64 (ww0 z)] 32)) [[.int .i64 a, .int .i64 b, .int .i64 c, .int .i64 d], [.int .u64 (ww3 x), .int .u64 (ww2 x), .int .u64 (ww1 x), .int .u64 (ww0 x), .int .u64 (ww3 y), .int .u64 (ww2 y), .int .u64 (ww1 y), .int .u64 (ww0 y), .int .u64 (ww3 z), .int .u64 (ww2 z), .int .u64 (ww1 z), .int .u64 (ww0 z)]] := ar2 _ _ _ _ w
  have SO := fun w => implSegOk_any a b c d _ rfl w
  by_cases hs : segOk a b c d = true
  · obtain ⟨i1, i2, i3, i4⟩ := in6_seg hs
    have EN := fun w => ends_det a b c d (by omega) (by omega) (by omega) (by omega) (by omega) (by omega) (by omega) (by omega) w
    have OR := fun w => implOrient_det a b 1 c d 1 x y z (told6 i1) (told6 i2) (by decide) (told6 i3) (told6 i4) (by decide) hx hy hz w
    have HO : Hid (sideI a b c d x y z = oriI a b 1 c d 1 x y z) := by show _ = _; unfold sideI oriI; rw [hs, ptB_spot i1 i2, ptB_spot i3 i4]; rfl
    rw [hs] at SO
    clear hs i1 i2 i3 i4 hx hy hz
    generalize oriI a b 1 c d 1 x y z = o at *
    go_enter Tryz.func9, Tryz.ntmps9
    go_wp2_with fail
    generalize ((w.alloc (.cells #[.int .i64 a, .int .i64 b, .int .i64 c, .int .i64 d] 27)).alloc (.cells #[.int .u64 (ww3 x), .int .u64 (ww2 x), .int .u64 (ww1 x), .int .u64 (ww0 x), .int .u64 (ww3 y), .int .u64 (ww2 y), .int .u64 (ww1 y), .int .u64 (ww0 y), .int .u64 (ww3 z), .int .u64 (ww2 z), .int .u64 (ww1 z), .int .u64 (ww0 z)] 32)) = W at *
    refine (SO _).mono ?_
    rintro e w1 ⟨rfl, hB⟩
    replace T0 := T0.step hB
    clear hB SO
    have Y1 : Blk _ w.heap.size _ := T0.b 0 rfl; have g0 := Y1.c 0 rfl; have g1 := Y1.c 1 rfl; have g2 := Y1.c 2 rfl; have g3 := Y1.c 3 rfl; clear Y1
    go_wp2_with fail
    refine (EN _).mono ?_
    rintro e w2 ⟨rfl, hB⟩
    replace T0 := ((T0.step hB).alloc (.cells #[.int .u64 (ww3 a), .int .u64 (ww2 a), .int .u64 (ww1 a), .int .u64 (ww0 a), .int .u64 (ww3 b), .int .u64 (ww2 b), .int .u64 (ww1 b), .int .u64 (ww0 b), .int .u64 (ww3 1), .int .u64 (ww2 1), .int .u64 (ww1 1), .int .u64 (ww0 1)] 32)).alloc (.cells #[.int .u64 (ww3 c), .int .u64 (ww2 c), .int .u64 (ww1 c), .int .u64 (ww0 c), .int .u64 (ww3 d), .int .u64 (ww2 d), .int .u64 (ww1 d), .int .u64 (ww0 d), .int .u64 (ww3 1), .int .u64 (ww2 1), .int .u64 (ww1 1), .int .u64 (ww0 1)] 32)
    clear hB EN g0 g1 g2 g3
    have Y0 : Blk _ (w.heap.size + 1) _ := T0.b 1 rfl; have q0 := Y0.c 0 rfl; have q1 := Y0.c 1 rfl; have q2 := Y0.c 2 rfl; have q3 := Y0.c 3 rfl; have q4 := Y0.c 4 rfl; have q5 := Y0.c 5 rfl; have q6 := Y0.c 6 rfl; have q7 := Y0.c 7 rfl; have q8 := Y0.c 8 rfl; have q9 := Y0.c 9 rfl; have q10 := Y0.c 10 rfl; have q11 := Y0.c 11 rfl; have ql := Y0.lt; clear Y0
    go_wp2_with fail
    refine (OR _).mono ?_
    rintro e w3 ⟨rfl, hB⟩
    have HB := (T0.step hB).below
    clear hB T0 OR q0 q1 q2 q3 q4 q5 q6 q7 q8 q9 q10 q11 ql
    go_wp2
    go_ret
    exact ⟨by rw [HO.out]; rfl, HB⟩
  · replace hs := Bool.eq_false_iff.2 hs
    have HO : Hid (sideI a b c d x y z = 0) := by show _ = _; unfold sideI; rw [hs]; rfl
    rw [hs] at SO
    clear hs hx hy hz
    go_enter Tryz.func9, Tryz.ntmps9
    go_wp2_with fail
    generalize ((w.alloc (.cells #[.int .i64 a, .int .i64 b, .int .i64 c, .int .i64 d] 27)).alloc (.cells #[.int .u64 (ww3 x), .int .u64 (ww2 x), .int .u64 (ww1 x), .int .u64 (ww0 x), .int .u64 (ww3 y), .int .u64 (ww2 y), .int .u64 (ww1 y), .int .u64 (ww0 y), .int .u64 (ww3 z), .int .u64 (ww2 z), .int .u64 (ww1 z), .int .u64 (ww0 z)] 32)) = W at *
    refine (SO _).mono ?_
    rintro e w1 ⟨rfl, hB⟩
    have HB := (T0.step hB).below
    clear hB SO T0
    go_wp2
    go_ret
    exact ⟨by rw [HO.out]; rfl, HB⟩
end Go.Proofs.YtniccikkhddofaaGreat

/- What lies between two points: the reckoning, and the program's walks. -/
namespace Go.Proofs.YtniccikkhddofaaGreat
open Go.RowKit
theorem frac_trans {x z a c u t : Int} (hz : 0 < z) (ht : 0 < t) (hc : 0 < c) (h1 : x * c ≤ a * z) (h2 : a * t ≤ u * c) : x * t ≤ u * z ∧ (x * c < a * z ∨ a * t < u * c → x * t < u * z) := by
  have e1 : x * c * t ≤ a * z * t := Int.mul_le_mul_of_nonneg_right h1 (by omega)
  have e2 : a * t * z ≤ u * c * z := Int.mul_le_mul_of_nonneg_right h2 (by omega)
  have r1 : x * c * t = x * t * c := Int.mul_right_comm x c t
  have r2 : a * z * t = a * t * z := Int.mul_right_comm a z t
  have r3 : u * c * z = u * z * c := Int.mul_right_comm u c z
  refine ⟨Int.le_of_mul_le_mul_right (show x * t * c ≤ u * z * c by omega) hc, ?_⟩
  rintro (h | h)
  · have e3 : x * c * t < a * z * t := Int.mul_lt_mul_of_pos_right h ht
    exact Int.lt_of_mul_lt_mul_right (show x * t * c < u * z * c by omega) (by omega)
  · have e3 : a * t * z < u * c * z := Int.mul_lt_mul_of_pos_right h hz
    exact Int.lt_of_mul_lt_mul_right (show x * t * c < u * z * c by omega) (by omega)
theorem cmpI_val (a b : Int) : (a < b ∧ cmpI a b = -1) ∨ (a = b ∧ cmpI a b = 0) ∨ (b < a ∧ cmpI a b = 1) := by
  rcases Int.lt_trichotomy a b with h | h | h
  · exact .inl ⟨h, cmpI_lt h⟩
  · exact .inr (.inl ⟨h, cmpI_eq h⟩)
  · exact .inr (.inr ⟨h, cmpI_gt h⟩)
theorem ord_le (x y z u v t : Int) : ordI x y z u v t ≤ 0 ↔ x * t < u * z ∨ (x * t = u * z ∧ y * t ≤ v * z) := by
  unfold ordI
  rcases cmpI_val (x * t) (u * z) with ⟨h, e⟩ | ⟨h, e⟩ | ⟨h, e⟩ <;> rcases cmpI_val (y * t) (v * z) with ⟨h', e'⟩ | ⟨h', e'⟩ | ⟨h', e'⟩ <;> rw [e] <;> simp [e'] <;> omega
theorem ord_in (x y z u v t : Int) : ordI x y z u v t = -1 ∨ ordI x y z u v t = 0 ∨ ordI x y z u v t = 1 := by
  unfold ordI
  rcases cmpI_val (x * t) (u * z) with ⟨h, e⟩ | ⟨h, e⟩ | ⟨h, e⟩ <;> rcases cmpI_val (y * t) (v * z) with ⟨h', e'⟩ | ⟨h', e'⟩ | ⟨h', e'⟩ <;> rw [e] <;> simp [e']
theorem cmp_turned (a b : Int) : cmpI b a = -cmpI a b := by
  rcases Int.lt_trichotomy a b with h | h | h
  · rw [cmpI_lt h, cmpI_gt h]; rfl
  · rw [cmpI_eq h, cmpI_eq h.symm]; rfl
  · rw [cmpI_gt h, cmpI_lt h]
theorem ord_turned (x y z u v t : Int) : ordI u v t x y z = -ordI x y z u v t := by
  unfold ordI
  rw [cmp_turned (x * t) (u * z), cmp_turned (y * t) (v * z)]
  split <;> split <;> omega
theorem ord_trans {x y z u v t a b c : Int} (hz : 0 < z) (ht : 0 < t) (hc : 0 < c) (h1 : ordI x y z a b c ≤ 0) (h2 : ordI a b c u v t ≤ 0) : ordI x y z u v t ≤ 0 := by
  rw [ord_le] at *
  have f := frac_trans (x := x) (z := z) (a := a) (c := c) (u := u) (t := t) hz ht hc (by omega) (by omega)
  rcases Int.lt_or_eq_of_le f.1 with h | h
  · exact .inl h
  · right
    have n1 : ¬ (x * c < a * z ∨ a * t < u * c) := fun k => by have := f.2 k; omega
    have g := frac_trans (x := y) (z := z) (a := b) (c := c) (u := v) (t := t) hz ht hc (by omega) (by omega)
    exact ⟨h, g.1⟩
/-- Whether the third point lies between the two, as the model says it. -/
def btwS (x y z u v t a b c : Int) : Bool := if 0 < ordI x y z u v t then decide (ordI u v t a b c ≤ 0) && decide (ordI a b c x y z ≤ 0) && decide (turnI u v t x y z a b c = 0) else decide (ordI x y z a b c ≤ 0) && decide (ordI a b c u v t ≤ 0) && decide (turnI x y z u v t a b c = 0)
theorem turn_swap (x y z u v t a b c : Int) : turnI u v t x y z a b c = 0 ↔ turnI x y z u v t a b c = 0 := by
  unfold turnI
  have e : u * (y * c - z * b) - v * (x * c - z * a) + t * (x * b - y * a) = -(x * (v * c - t * b) - y * (u * c - t * a) + z * (u * b - v * a)) := by grind
  rw [e]
  generalize x * (v * c - t * b) - y * (u * c - t * a) + z * (u * b - v * a) = q
  rcases cmpI_val (-q) 0 with ⟨h, f⟩ | ⟨h, f⟩ | ⟨h, f⟩ <;> rcases cmpI_val q 0 with ⟨h', f'⟩ | ⟨h', f'⟩ | ⟨h', f'⟩ <;> rw [f, f'] <;> omega
theorem btw_same (x y z u v t a b c : Int) (hz : 0 < z) (ht : 0 < t) (hc : 0 < c) : (decide (turnI x y z u v t a b c = 0) && decide (0 ≤ ordI x y z a b c * ordI a b c u v t)) = btwS x y z u v t a b c := by
  have A1 := ord_in x y z u v t
  have B1 := ord_in x y z a b c
  have C1 := ord_in a b c u v t
  have B2 := ord_turned x y z a b c
  have C2 := ord_turned a b c u v t
  have A2 := ord_turned x y z u v t
  have t1 : ordI x y z a b c ≤ 0 → ordI a b c u v t ≤ 0 → ordI x y z u v t ≤ 0 := fun h k => ord_trans hz ht hc h k
  have t2 : ordI x y z u v t ≤ 0 → ordI u v t a b c ≤ 0 → ordI x y z a b c ≤ 0 := fun h k => ord_trans hz hc ht h k
  have t3 : ordI a b c x y z ≤ 0 → ordI x y z u v t ≤ 0 → ordI a b c u v t ≤ 0 := fun h k => ord_trans hc ht hz h k
  unfold btwS
  rw [show decide (turnI u v t x y z a b c = 0) = decide (turnI x y z u v t a b c = 0) by rw [Bool.eq_iff_iff, decide_eq_true_iff, decide_eq_true_iff]; exact turn_swap x y z u v t a b c]
  rw [B2] at t3 ⊢
  rw [C2] at t2 ⊢
  generalize ordI x y z u v t = A at *
  generalize ordI x y z a b c = B at *
  generalize ordI a b c u v t = C at *
  generalize decide (turnI x y z u v t a b c = 0) = q
  clear A2 B2 C2
  rcases A1 with rfl | rfl | rfl <;> rcases B1 with rfl | rfl | rfl <;> rcases C1 with rfl | rfl | rfl <;> cases q <;> first | rfl | (exfalso; first | exact absurd (t1 (by decide) (by decide)) (by decide) | exact absurd (t2 (by decide) (by decide)) (by decide) | exact absurd (t3 (by decide) (by decide)) (by decide))
end Go.Proofs.YtniccikkhddofaaGreat

/- What lies between two points: the program's walks. -/
namespace Go.Proofs.YtniccikkhddofaaGreat
open Go.RowKit
theorem b3_cells {x y z u v t a b c : Int} {w W : World} (T0 : ArgsB w W [[.int .u64 (ww3 x), .int .u64 (ww2 x), .int .u64 (ww1 x), .int .u64 (ww0 x), .int .u64 (ww3 y), .int .u64 (ww2 y), .int .u64 (ww1 y), .int .u64 (ww0 y), .int .u64 (ww3 z), .int .u64 (ww2 z), .int .u64 (ww1 z), .int .u64 (ww0 z)], [.int .u64 (ww3 u), .int .u64 (ww2 u), .int .u64 (ww1 u), .int .u64 (ww0 u), .int .u64 (ww3 v), .int .u64 (ww2 v), .int .u64 (ww1 v), .int .u64 (ww0 v), .int .u64 (ww3 t), .int .u64 (ww2 t), .int .u64 (ww1 t), .int .u64 (ww0 t)], [.int .u64 (ww3 a), .int .u64 (ww2 a), .int .u64 (ww1 a), .int .u64 (ww0 a), .int .u64 (ww3 b), .int .u64 (ww2 b), .int .u64 (ww1 b), .int .u64 (ww0 b), .int .u64 (ww3 c), .int .u64 (ww2 c), .int .u64 (ww1 c), .int .u64 (ww0 c)]]) : (fun w' => w'.cell? ⟨w.heap.size, 0, none⟩ = some (.int .u64 (ww3 x)) ∧ w'.cell? ⟨w.heap.size, 1, none⟩ = some (.int .u64 (ww2 x)) ∧ w'.cell? ⟨w.heap.size, 2, none⟩ = some (.int .u64 (ww1 x)) ∧ w'.cell? ⟨w.heap.size, 3, none⟩ = some (.int .u64 (ww0 x)) ∧ w'.cell? ⟨w.heap.size, 4, none⟩ = some (.int .u64 (ww3 y)) ∧ w'.cell? ⟨w.heap.size, 5, none⟩ = some (.int .u64 (ww2 y)) ∧ w'.cell? ⟨w.heap.size, 6, none⟩ = some (.int .u64 (ww1 y)) ∧ w'.cell? ⟨w.heap.size, 7, none⟩ = some (.int .u64 (ww0 y)) ∧ w'.cell? ⟨w.heap.size, 8, none⟩ = some (.int .u64 (ww3 z)) ∧ w'.cell? ⟨w.heap.size, 9, none⟩ = some (.int .u64 (ww2 z)) ∧ w'.cell? ⟨w.heap.size, 10, none⟩ = some (.int .u64 (ww1 z)) ∧ w'.cell? ⟨w.heap.size, 11, none⟩ = some (.int .u64 (ww0 z)) ∧ w'.cell? ⟨w.heap.size + 1, 0, none⟩ = some (.int .u64 (ww3 u)) ∧ w'.cell? ⟨w.heap.size + 1, 1, none⟩ = some (.int .u64 (ww2 u)) ∧ w'.cell? ⟨w.heap.size + 1, 2, none⟩ = some (.int .u64 (ww1 u)) ∧ w'.cell? ⟨w.heap.size + 1, 3, none⟩ = some (.int .u64 (ww0 u)) ∧ w'.cell? ⟨w.heap.size + 1, 4, none⟩ = some (.int .u64 (ww3 v)) ∧ w'.cell? ⟨w.heap.size + 1, 5, none⟩ = some (.int .u64 (ww2 v)) ∧ w'.cell? ⟨w.heap.size + 1, 6, none⟩ = some (.int .u64 (ww1 v)) ∧ w'.cell? ⟨w.heap.size + 1, 7, none⟩ = some (.int .u64 (ww0 v)) ∧ w'.cell? ⟨w.heap.size + 1, 8, none⟩ = some (.int .u64 (ww3 t)) ∧ w'.cell? ⟨w.heap.size + 1, 9, none⟩ = some (.int .u64 (ww2 t)) ∧ w'.cell? ⟨w.heap.size + 1, 10, none⟩ = some (.int .u64 (ww1 t)) ∧ w'.cell? ⟨w.heap.size + 1, 11, none⟩ = some (.int .u64 (ww0 t)) ∧ w'.cell? ⟨w.heap.size + 2, 0, none⟩ = some (.int .u64 (ww3 a)) ∧ w'.cell? ⟨w.heap.size + 2, 1, none⟩ = some (.int .u64 (ww2 a)) ∧ w'.cell? ⟨w.heap.size + 2, 2, none⟩ = some (.int .u64 (ww1 a)) ∧ w'.cell? ⟨w.heap.size + 2, 3, none⟩ = some (.int .u64 (ww0 a)) ∧ w'.cell? ⟨w.heap.size + 2, 4, none⟩ = some (.int .u64 (ww3 b)) ∧ w'.cell? ⟨w.heap.size + 2, 5, none⟩ = some (.int .u64 (ww2 b)) ∧ w'.cell? ⟨w.heap.size + 2, 6, none⟩ = some (.int .u64 (ww1 b)) ∧ w'.cell? ⟨w.heap.size + 2, 7, none⟩ = some (.int .u64 (ww0 b)) ∧ w'.cell? ⟨w.heap.size + 2, 8, none⟩ = some (.int .u64 (ww3 c)) ∧ w'.cell? ⟨w.heap.size + 2, 9, none⟩ = some (.int .u64 (ww2 c)) ∧ w'.cell? ⟨w.heap.size + 2, 10, none⟩ = some (.int .u64 (ww1 c)) ∧ w'.cell? ⟨w.heap.size + 2, 11, none⟩ = some (.int .u64 (ww0 c))) W := ⟨(T0.b 0 rfl).c 0 rfl, (T0.b 0 rfl).c 1 rfl, (T0.b 0 rfl).c 2 rfl, (T0.b 0 rfl).c 3 rfl, (T0.b 0 rfl).c 4 rfl, (T0.b 0 rfl).c 5 rfl, (T0.b 0 rfl).c 6 rfl, (T0.b 0 rfl).c 7 rfl, (T0.b 0 rfl).c 8 rfl, (T0.b 0 rfl).c 9 rfl, (T0.b 0 rfl).c 10 rfl, (T0.b 0 rfl).c 11 rfl, (T0.b 1 rfl).c 0 rfl, (T0.b 1 rfl).c 1 rfl, (T0.b 1 rfl).c 2 rfl, (T0.b 1 rfl).c 3 rfl, (T0.b 1 rfl).c 4 rfl, (T0.b 1 rfl).c 5 rfl, (T0.b 1 rfl).c 6 rfl, (T0.b 1 rfl).c 7 rfl, (T0.b 1 rfl).c 8 rfl, (T0.b 1 rfl).c 9 rfl, (T0.b 1 rfl).c 10 rfl, (T0.b 1 rfl).c 11 rfl, (T0.b 2 rfl).c 0 rfl, (T0.b 2 rfl).c 1 rfl, (T0.b 2 rfl).c 2 rfl, (T0.b 2 rfl).c 3 rfl, (T0.b 2 rfl).c 4 rfl, (T0.b 2 rfl).c 5 rfl, (T0.b 2 rfl).c 6 rfl, (T0.b 2 rfl).c 7 rfl, (T0.b 2 rfl).c 8 rfl, (T0.b 2 rfl).c 9 rfl, (T0.b 2 rfl).c 10 rfl, (T0.b 2 rfl).c 11 rfl⟩
set_option maxRecDepth 100000 in
set_option maxHeartbeats 8000000 in
theorem lies_det (x y z u v t a b c : Int) (sx : small x = true) (sy : small y = true) (sz : small z = true) (su : small u = true) (sv : small v = true) (st : small t = true) (sa : small a = true) (sb : small b = true) (sc : small c = true) (hz : 0 < z) (ht : 0 < t) (hc : 0 < c) (w : World) : Calls Tryz.prog 48 #[PV x y z, PV u v t, PV a b c] w (VP (.bool (btwS x y z u v t a b c)) w) := by
  have T0 : ArgsB w (((w.alloc (.cells #[.int .u64 (ww3 x), .int .u64 (ww2 x), .int .u64 (ww1 x), .int .u64 (ww0 x), .int .u64 (ww3 y), .int .u64 (ww2 y), .int .u64 (ww1 y), .int .u64 (ww0 y), .int .u64 (ww3 z), .int .u64 (ww2 z), .int .u64 (ww1 z), .int .u64 (ww0 z)] 32)).alloc (.cells #[.int .u64 (ww3 u), .int .u64 (ww2 u), .int .u64 (ww1 u), .int .u64 (ww0 u), .int .u64 (ww3 v), .int .u64 (ww2 v), .int .u64 (ww1 v), .int .u64 (ww0 v), .int .u64 (ww3 t), .int .u64 (ww2 t), .int .u64 (ww1 t), .int .u64 (ww0 t)] 32)).alloc (.cells #[.int .u64 (ww3 a), .int .u64 (ww2 a), .int .u64 (ww1 a), .int .u64 (ww0 a), .int .u64 (ww3 b), .int .u64 (ww2 b), .int .u64 (ww1 b), .int .u64 (ww0 b), .int .u64 (ww3 c), .int .u64 (ww2 c), .int .u64 (ww1 c), .int .u64 (ww0 c)] 32)) [[.int .u64 (ww3 x), .int .u64 (ww2 x), .int .u64 (ww1 x), .int .u64 (ww0 x), .int .u64 (ww3 y), .int .u64 (ww2 y), .int .u64 (ww1 y), .int .u64 (ww0 y), .int .u64 (ww3 z), .int .u64 (ww2 z), .int .u64 (ww1 z), .int .u64 (ww0 z)], [.int .u64 (ww3 u), .int .u64 (ww2 u), .int .u64 (ww1 u), .int .u64 (ww0 u), .int .u64 (ww3 v), .int .u64 (ww2 v), .int .u64 (ww1 v), .int .u64 (ww0 v), .int .u64 (ww3 t), .int .u64 (ww2 t), .int .u64 (ww1 t), .int .u64 (ww0 t)], [.int .u64 (ww3 a), .int .u64 (ww2 a), .int .u64 (ww1 a), .int .u64 (ww0 a), .int .u64 (ww3 b), .int .u64 (ww2 b), .int .u64 (ww1 b), .int .u64 (ww0 b), .int .u64 (ww3 c), .int .u64 (ww2 c), .int .u64 (ww1 c), .int .u64 (ww0 c)]] := ar3 _ _ _ _ _ _ w
  have C1 := turn_det x y z u v t a b c sx sy sz su sv st sa sb sc
  rw [turn_same] at C1
  have C2 := order_det x y z a b c sx sy sz sa sb sc
  have C3 := order_det a b c u v t sa sb sc su sv st
  have hw : IntKind.i64.wrap (ordI x y z a b c * ordI a b c u v t) = ordI x y z a b c * ordI a b c u v t := by
    rcases ord_in x y z a b c with h | h | h <;> rcases ord_in a b c u v t with k | k | k <;> rw [h, k] <;> decide
  have HO : Hid ((decide (turnI x y z u v t a b c = 0) && decide (0 ≤ ordI x y z a b c * ordI a b c u v t)) = btwS x y z u v t a b c) := btw_same x y z u v t a b c hz ht hc
  clear sx sy sz su sv st sa sb sc hz ht hc
  generalize btwS x y z u v t a b c = R at *
  generalize turnI x y z u v t a b c = o1 at *
  generalize ordI x y z a b c = o2 at *
  generalize ordI a b c u v t = o3 at *
  go_enter Tryz.func48, Tryz.ntmps48
  go_upto_region 1 with fail
  generalize (((w.alloc (.cells #[.int .u64 (ww3 x), .int .u64 (ww2 x), .int .u64 (ww1 x), .int .u64 (ww0 x), .int .u64 (ww3 y), .int .u64 (ww2 y), .int .u64 (ww1 y), .int .u64 (ww0 y), .int .u64 (ww3 z), .int .u64 (ww2 z), .int .u64 (ww1 z), .int .u64 (ww0 z)] 32)).alloc (.cells #[.int .u64 (ww3 u), .int .u64 (ww2 u), .int .u64 (ww1 u), .int .u64 (ww0 u), .int .u64 (ww3 v), .int .u64 (ww2 v), .int .u64 (ww1 v), .int .u64 (ww0 v), .int .u64 (ww3 t), .int .u64 (ww2 t), .int .u64 (ww1 t), .int .u64 (ww0 t)] 32)).alloc (.cells #[.int .u64 (ww3 a), .int .u64 (ww2 a), .int .u64 (ww1 a), .int .u64 (ww0 a), .int .u64 (ww3 b), .int .u64 (ww2 b), .int .u64 (ww1 b), .int .u64 (ww0 b), .int .u64 (ww3 c), .int .u64 (ww2 c), .int .u64 (ww1 c), .int .u64 (ww0 c)] 32)) = W at *
  by_cases h : o1 = 0
  · subst h
    have HR : Hid (decide (0 ≤ o2 * o3) = R) := by show _ = _; rw [← HO.out]; simp
    clear HO
    have tok1 : True := trivial
    go_region_held3 (fun w' => w'.cell? ⟨w.heap.size, 0, none⟩ = some (.int .u64 (ww3 x)) ∧ w'.cell? ⟨w.heap.size, 1, none⟩ = some (.int .u64 (ww2 x)) ∧ w'.cell? ⟨w.heap.size, 2, none⟩ = some (.int .u64 (ww1 x)) ∧ w'.cell? ⟨w.heap.size, 3, none⟩ = some (.int .u64 (ww0 x)) ∧ w'.cell? ⟨w.heap.size, 4, none⟩ = some (.int .u64 (ww3 y)) ∧ w'.cell? ⟨w.heap.size, 5, none⟩ = some (.int .u64 (ww2 y)) ∧ w'.cell? ⟨w.heap.size, 6, none⟩ = some (.int .u64 (ww1 y)) ∧ w'.cell? ⟨w.heap.size, 7, none⟩ = some (.int .u64 (ww0 y)) ∧ w'.cell? ⟨w.heap.size, 8, none⟩ = some (.int .u64 (ww3 z)) ∧ w'.cell? ⟨w.heap.size, 9, none⟩ = some (.int .u64 (ww2 z)) ∧ w'.cell? ⟨w.heap.size, 10, none⟩ = some (.int .u64 (ww1 z)) ∧ w'.cell? ⟨w.heap.size, 11, none⟩ = some (.int .u64 (ww0 z)) ∧ w'.cell? ⟨w.heap.size + 1, 0, none⟩ = some (.int .u64 (ww3 u)) ∧ w'.cell? ⟨w.heap.size + 1, 1, none⟩ = some (.int .u64 (ww2 u)) ∧ w'.cell? ⟨w.heap.size + 1, 2, none⟩ = some (.int .u64 (ww1 u)) ∧ w'.cell? ⟨w.heap.size + 1, 3, none⟩ = some (.int .u64 (ww0 u)) ∧ w'.cell? ⟨w.heap.size + 1, 4, none⟩ = some (.int .u64 (ww3 v)) ∧ w'.cell? ⟨w.heap.size + 1, 5, none⟩ = some (.int .u64 (ww2 v)) ∧ w'.cell? ⟨w.heap.size + 1, 6, none⟩ = some (.int .u64 (ww1 v)) ∧ w'.cell? ⟨w.heap.size + 1, 7, none⟩ = some (.int .u64 (ww0 v)) ∧ w'.cell? ⟨w.heap.size + 1, 8, none⟩ = some (.int .u64 (ww3 t)) ∧ w'.cell? ⟨w.heap.size + 1, 9, none⟩ = some (.int .u64 (ww2 t)) ∧ w'.cell? ⟨w.heap.size + 1, 10, none⟩ = some (.int .u64 (ww1 t)) ∧ w'.cell? ⟨w.heap.size + 1, 11, none⟩ = some (.int .u64 (ww0 t)) ∧ w'.cell? ⟨w.heap.size + 2, 0, none⟩ = some (.int .u64 (ww3 a)) ∧ w'.cell? ⟨w.heap.size + 2, 1, none⟩ = some (.int .u64 (ww2 a)) ∧ w'.cell? ⟨w.heap.size + 2, 2, none⟩ = some (.int .u64 (ww1 a)) ∧ w'.cell? ⟨w.heap.size + 2, 3, none⟩ = some (.int .u64 (ww0 a)) ∧ w'.cell? ⟨w.heap.size + 2, 4, none⟩ = some (.int .u64 (ww3 b)) ∧ w'.cell? ⟨w.heap.size + 2, 5, none⟩ = some (.int .u64 (ww2 b)) ∧ w'.cell? ⟨w.heap.size + 2, 6, none⟩ = some (.int .u64 (ww1 b)) ∧ w'.cell? ⟨w.heap.size + 2, 7, none⟩ = some (.int .u64 (ww0 b)) ∧ w'.cell? ⟨w.heap.size + 2, 8, none⟩ = some (.int .u64 (ww3 c)) ∧ w'.cell? ⟨w.heap.size + 2, 9, none⟩ = some (.int .u64 (ww2 c)) ∧ w'.cell? ⟨w.heap.size + 2, 10, none⟩ = some (.int .u64 (ww1 c)) ∧ w'.cell? ⟨w.heap.size + 2, 11, none⟩ = some (.int .u64 (ww0 c))) (first | (with_reducible exact b3_cells T0) | (with_reducible exact b3_cells T0.drew))
      (first
        | (go_at_call 34; refine (C1 _).mono ?_; rintro e v1 ⟨rfl, hB⟩; (first | (have T1 := T0.step hB) | (have T1 := T0.drew.step hB)); clear T0; have T0 := T1; clear T1; clear hB)
        | (go_at_call 76; have _t := tok1; refine (C2 _).mono ?_; rintro e v2 ⟨rfl, hB⟩; (first | (have T1 := T0.step hB) | (have T1 := T0.drew.step hB)); clear T0; have T0 := T1; clear T1; clear hB; clear tok1 _t)
        | (go_at_call 76; refine (C3 _).mono ?_; rintro e v3 ⟨rfl, hB⟩; (first | (have T1 := T0.step hB) | (have T1 := T0.drew.step hB)); clear T0; have T0 := T1; clear T1; clear hB))
    all_goals have HB := T0.below
    all_goals clear T0
    all_goals go_wp2
    all_goals go_ret
    all_goals exact ⟨by rw [← HR.out]; simp, by first | exact HB | exact HB.drew⟩
  · have ho : (o1 == 0) = false := beq_eq_false_iff_ne.2 h
    have HR : Hid (R = false) := by show _ = _; rw [← HO.out]; simp [h]
    clear HO h hw
    refine wp_region_held_drew (S := (fun w' => w'.cell? ⟨w.heap.size, 0, none⟩ = some (.int .u64 (ww3 x)) ∧ w'.cell? ⟨w.heap.size, 1, none⟩ = some (.int .u64 (ww2 x)) ∧ w'.cell? ⟨w.heap.size, 2, none⟩ = some (.int .u64 (ww1 x)) ∧ w'.cell? ⟨w.heap.size, 3, none⟩ = some (.int .u64 (ww0 x)) ∧ w'.cell? ⟨w.heap.size, 4, none⟩ = some (.int .u64 (ww3 y)) ∧ w'.cell? ⟨w.heap.size, 5, none⟩ = some (.int .u64 (ww2 y)) ∧ w'.cell? ⟨w.heap.size, 6, none⟩ = some (.int .u64 (ww1 y)) ∧ w'.cell? ⟨w.heap.size, 7, none⟩ = some (.int .u64 (ww0 y)) ∧ w'.cell? ⟨w.heap.size, 8, none⟩ = some (.int .u64 (ww3 z)) ∧ w'.cell? ⟨w.heap.size, 9, none⟩ = some (.int .u64 (ww2 z)) ∧ w'.cell? ⟨w.heap.size, 10, none⟩ = some (.int .u64 (ww1 z)) ∧ w'.cell? ⟨w.heap.size, 11, none⟩ = some (.int .u64 (ww0 z)) ∧ w'.cell? ⟨w.heap.size + 1, 0, none⟩ = some (.int .u64 (ww3 u)) ∧ w'.cell? ⟨w.heap.size + 1, 1, none⟩ = some (.int .u64 (ww2 u)) ∧ w'.cell? ⟨w.heap.size + 1, 2, none⟩ = some (.int .u64 (ww1 u)) ∧ w'.cell? ⟨w.heap.size + 1, 3, none⟩ = some (.int .u64 (ww0 u)) ∧ w'.cell? ⟨w.heap.size + 1, 4, none⟩ = some (.int .u64 (ww3 v)) ∧ w'.cell? ⟨w.heap.size + 1, 5, none⟩ = some (.int .u64 (ww2 v)) ∧ w'.cell? ⟨w.heap.size + 1, 6, none⟩ = some (.int .u64 (ww1 v)) ∧ w'.cell? ⟨w.heap.size + 1, 7, none⟩ = some (.int .u64 (ww0 v)) ∧ w'.cell? ⟨w.heap.size + 1, 8, none⟩ = some (.int .u64 (ww3 t)) ∧ w'.cell? ⟨w.heap.size + 1, 9, none⟩ = some (.int .u64 (ww2 t)) ∧ w'.cell? ⟨w.heap.size + 1, 10, none⟩ = some (.int .u64 (ww1 t)) ∧ w'.cell? ⟨w.heap.size + 1, 11, none⟩ = some (.int .u64 (ww0 t)) ∧ w'.cell? ⟨w.heap.size + 2, 0, none⟩ = some (.int .u64 (ww3 a)) ∧ w'.cell? ⟨w.heap.size + 2, 1, none⟩ = some (.int .u64 (ww2 a)) ∧ w'.cell? ⟨w.heap.size + 2, 2, none⟩ = some (.int .u64 (ww1 a)) ∧ w'.cell? ⟨w.heap.size + 2, 3, none⟩ = some (.int .u64 (ww0 a)) ∧ w'.cell? ⟨w.heap.size + 2, 4, none⟩ = some (.int .u64 (ww3 b)) ∧ w'.cell? ⟨w.heap.size + 2, 5, none⟩ = some (.int .u64 (ww2 b)) ∧ w'.cell? ⟨w.heap.size + 2, 6, none⟩ = some (.int .u64 (ww1 b)) ∧ w'.cell? ⟨w.heap.size + 2, 7, none⟩ = some (.int .u64 (ww0 b)) ∧ w'.cell? ⟨w.heap.size + 2, 8, none⟩ = some (.int .u64 (ww3 c)) ∧ w'.cell? ⟨w.heap.size + 2, 9, none⟩ = some (.int .u64 (ww2 c)) ∧ w'.cell? ⟨w.heap.size + 2, 10, none⟩ = some (.int .u64 (ww1 c)) ∧ w'.cell? ⟨w.heap.size + 2, 11, none⟩ = some (.int .u64 (ww0 c)))) (by kernel_rfl) (b3_cells T0.drew) (fun hHeld => ?_)
    refine wpAnyH_take (i := 0) (v := PV x y z) rfl (by kernel_rfl) (by kernel_rfl) (by kernel_rfl) (fun _ _ _ h => h) (Or.inl ⟨by kernel_rfl, ?_⟩) (by assumption) ?_
    · intro w hSw
      (try dsimp only at hSw)
      go_simp
    refine wpAnyH_take (i := 1) (v := PV u v t) rfl (by kernel_rfl) (by kernel_rfl) (by kernel_rfl) (fun _ _ _ h => h) (Or.inl ⟨by kernel_rfl, ?_⟩) (by assumption) ?_
    · intro w hSw
      (try dsimp only at hSw)
      go_simp
    refine wpAnyH_take (i := 2) (v := PV a b c) rfl (by kernel_rfl) (by kernel_rfl) (by kernel_rfl) (fun _ _ _ h => h) (Or.inl ⟨by kernel_rfl, ?_⟩) (by assumption) ?_
    · intro w hSw
      (try dsimp only at hSw)
      go_simp
    refine wpAnyH_ready (rs := [3]) (by kernel_rfl) (by simp) ?_
    refine AllReadyH.cons rfl (fun K hK => ?_) AllReadyH.nil
    go_simp
    go_wp2_with (go_at_call 34; refine (C1 _).mono ?_; rintro e v1 ⟨rfl, hB⟩; (first | (have T1 := T0.step hB) | (have T1 := T0.drew.step hB)); clear T0; have T0 := T1; clear T1; clear hB)
    clear hHeld
    refine hK.out _ _ (b3_cells T0) (fun hHeld => ?_)
    clear hK
    refine wpAnyH_take (i := 4) (v := .bool false) rfl (by kernel_rfl) (by kernel_rfl) (by kernel_rfl) (fun _ _ _ h => h) (Or.inl ⟨by kernel_rfl, ?_⟩) (by assumption) ?_
    · intro w hSw
      (try dsimp only at hSw)
      go_simp
    refine wpAnyH_take (i := 5) (v := .bool false) rfl (by kernel_rfl) (by kernel_rfl) (by kernel_rfl) (fun _ _ _ h => h) (Or.inl ⟨by kernel_rfl, ?_⟩) (by assumption) ?_
    · intro w hSw
      (try dsimp only at hSw)
      go_simp
    refine wpAnyH_take (i := 6) (v := undef) rfl (by kernel_rfl) (by kernel_rfl) (by kernel_rfl) (fun _ _ _ h => h) (Or.inr ⟨by kernel_rfl, rfl⟩) (by assumption) ?_
    refine wpAnyH_take (i := 7) (v := undef) rfl (by kernel_rfl) (by kernel_rfl) (by kernel_rfl) (fun _ _ _ h => h) (Or.inr ⟨by kernel_rfl, rfl⟩) (by assumption) ?_
    refine wpAnyH_take (i := 8) (v := undef) rfl (by kernel_rfl) (by kernel_rfl) (by kernel_rfl) (fun _ _ _ h => h) (Or.inr ⟨by kernel_rfl, rfl⟩) (by assumption) ?_
    refine wpAnyH_take (i := 9) (v := undef) rfl (by kernel_rfl) (by kernel_rfl) (by kernel_rfl) (fun _ _ _ h => h) (Or.inr ⟨by kernel_rfl, rfl⟩) (by assumption) ?_
    refine wpAnyH_take (i := 10) (v := undef) rfl (by kernel_rfl) (by kernel_rfl) (by kernel_rfl) (fun _ _ _ h => h) (Or.inr ⟨by kernel_rfl, rfl⟩) (by assumption) ?_
    refine wpAnyH_take (i := 11) (v := undef) rfl (by kernel_rfl) (by kernel_rfl) (by kernel_rfl) (fun _ _ _ h => h) (Or.inr ⟨by kernel_rfl, rfl⟩) (by assumption) ?_
    refine wpAnyH_take (i := 12) (v := undef) rfl (by kernel_rfl) (by kernel_rfl) (by kernel_rfl) (fun _ _ _ h => h) (Or.inr ⟨by kernel_rfl, rfl⟩) (by assumption) ?_
    refine wpAnyH_take (i := 13) (v := undef) rfl (by kernel_rfl) (by kernel_rfl) (by kernel_rfl) (fun _ _ _ h => h) (Or.inr ⟨by kernel_rfl, rfl⟩) (by assumption) ?_
    refine wpAnyH_ready (rs := [14]) (by kernel_rfl) (by simp) ?_
    refine AllReadyH.cons rfl (fun K hK => ?_) AllReadyH.nil
    go_simp
    refine hK.out _ _ (by assumption) (fun _ => ?_)
    clear hK
    refine wpAnyH_ready (rs := [15]) (by kernel_rfl) (by simp) ?_
    refine AllReadyH.cons rfl (fun K hK => ?_) AllReadyH.nil
    go_simp
    refine hK.out _ _ (by assumption) (fun _ => ?_)
    clear hK
    refine wpAnyH_done (by kernel_rfl) ?_ _
    have HB := T0.below
    clear T0
    go_wp2
    go_ret
    exact ⟨by rw [HR.out]; rfl, by first | exact HB | exact HB.drew⟩
end Go.Proofs.YtniccikkhddofaaGreat

/- What lies between two points: the model's walk, and both sides. -/
namespace Go.Proofs.YtniccikkhddofaaGreat
open Go.RowKit
end Go.Proofs.YtniccikkhddofaaGreat

/- What lies between two points: both sides. -/
namespace Go.Proofs.YtniccikkhddofaaGreat
open Go.RowKit
/-- Whether the third point lies between the two; of points that are not right, no. -/
def btwV (x y z u v t a b c : Int) : Bool := ptB x y z && ptB u v t && ptB a b c && btwS x y z u v t a b c
set_option maxRecDepth 100000 in
set_option maxHeartbeats 4000000 in
theorem implBetween_det (x y z u v t a b c : Int) (hx : told x = true) (hy : told y = true) (hz : told z = true) (hu : told u = true) (hv : told v = true) (ht : told t = true) (ha : told a = true) (hb : told b = true) (hc : told c = true) (w : World) : Calls Tryz.prog 22 #[PV x y z, PV u v t, PV a b c] w (VP (.bool (btwV x y z u v t a b c)) w) := by
  have T0 : ArgsB w (((w.alloc (.cells #[.int .u64 (ww3 x), .int .u64 (ww2 x), .int .u64 (ww1 x), .int .u64 (ww0 x), .int .u64 (ww3 y), .int .u64 (ww2 y), .int .u64 (ww1 y), .int .u64 (ww0 y), .int .u64 (ww3 z), .int .u64 (ww2 z), .int .u64 (ww1 z), .int .u64 (ww0 z)] 32)).alloc (.cells #[.int .u64 (ww3 u), .int .u64 (ww2 u), .int .u64 (ww1 u), .int .u64 (ww0 u), .int .u64 (ww3 v), .int .u64 (ww2 v), .int .u64 (ww1 v), .int .u64 (ww0 v), .int .u64 (ww3 t), .int .u64 (ww2 t), .int .u64 (ww1 t), .int .u64 (ww0 t)] 32)).alloc (.cells #[.int .u64 (ww3 a), .int .u64 (ww2 a), .int .u64 (ww1 a), .int .u64 (ww0 a), .int .u64 (ww3 b), .int .u64 (ww2 b), .int .u64 (ww1 b), .int .u64 (ww0 b), .int .u64 (ww3 c), .int .u64 (ww2 c), .int .u64 (ww1 c), .int .u64 (ww0 c)] 32)) [[.int .u64 (ww3 x), .int .u64 (ww2 x), .int .u64 (ww1 x), .int .u64 (ww0 x), .int .u64 (ww3 y), .int .u64 (ww2 y), .int .u64 (ww1 y), .int .u64 (ww0 y), .int .u64 (ww3 z), .int .u64 (ww2 z), .int .u64 (ww1 z), .int .u64 (ww0 z)], [.int .u64 (ww3 u), .int .u64 (ww2 u), .int .u64 (ww1 u), .int .u64 (ww0 u), .int .u64 (ww3 v), .int .u64 (ww2 v), .int .u64 (ww1 v), .int .u64 (ww0 v), .int .u64 (ww3 t), .int .u64 (ww2 t), .int .u64 (ww1 t), .int .u64 (ww0 t)], [.int .u64 (ww3 a), .int .u64 (ww2 a), .int .u64 (ww1 a), .int .u64 (ww0 a), .int .u64 (ww3 b), .int .u64 (ww2 b), .int .u64 (ww1 b), .int .u64 (ww0 b), .int .u64 (ww3 c), .int .u64 (ww2 c), .int .u64 (ww1 c), .int .u64 (ww0 c)]] := ar3 _ _ _ _ _ _ w
  have R1 := pright_det x y z hx hy hz
  have R2 := pright_det u v t hu hv ht
  have R3 := pright_det a b c ha hb hc
  clear hx hy hz hu hv ht ha hb hc
  go_enter Tryz.func22, Tryz.ntmps22
  go_wp2_with fail
  generalize (((w.alloc (.cells #[.int .u64 (ww3 x), .int .u64 (ww2 x), .int .u64 (ww1 x), .int .u64 (ww0 x), .int .u64 (ww3 y), .int .u64 (ww2 y), .int .u64 (ww1 y), .int .u64 (ww0 y), .int .u64 (ww3 z), .int .u64 (ww2 z), .int .u64 (ww1 z), .int .u64 (ww0 z)] 32)).alloc (.cells #[.int .u64 (ww3 u), .int .u64 (ww2 u), .int .u64 (ww1 u), .int .u64 (ww0 u), .int .u64 (ww3 v), .int .u64 (ww2 v), .int .u64 (ww1 v), .int .u64 (ww0 v), .int .u64 (ww3 t), .int .u64 (ww2 t), .int .u64 (ww1 t), .int .u64 (ww0 t)] 32)).alloc (.cells #[.int .u64 (ww3 a), .int .u64 (ww2 a), .int .u64 (ww1 a), .int .u64 (ww0 a), .int .u64 (ww3 b), .int .u64 (ww2 b), .int .u64 (ww1 b), .int .u64 (ww0 b), .int .u64 (ww3 c), .int .u64 (ww2 c), .int .u64 (ww1 c), .int .u64 (ww0 c)] 32)) = W at *
  refine (R1 _).mono ?_
  rintro e w1 ⟨rfl, hB⟩
  replace T0 := T0.step hB
  clear hB
  by_cases h1 : ptB x y z = true
  · rw [h1]
    have X0 : Blk _ w.heap.size _ := T0.b 0 rfl; have Y0 : Blk _ (w.heap.size + 1) _ := T0.b 1 rfl; have Z0 : Blk _ (w.heap.size + 1 + 1) _ := T0.b 2 rfl; have p0 := X0.c 0 rfl; have q0 := Y0.c 0 rfl; have r0 := Z0.c 0 rfl; have p1 := X0.c 1 rfl; have q1 := Y0.c 1 rfl; have r1 := Z0.c 1 rfl; have p2 := X0.c 2 rfl; have q2 := Y0.c 2 rfl; have r2 := Z0.c 2 rfl; have p3 := X0.c 3 rfl; have q3 := Y0.c 3 rfl; have r3 := Z0.c 3 rfl; have p4 := X0.c 4 rfl; have q4 := Y0.c 4 rfl; have r4 := Z0.c 4 rfl; have p5 := X0.c 5 rfl; have q5 := Y0.c 5 rfl; have r5 := Z0.c 5 rfl; have p6 := X0.c 6 rfl; have q6 := Y0.c 6 rfl; have r6 := Z0.c 6 rfl; have p7 := X0.c 7 rfl; have q7 := Y0.c 7 rfl; have r7 := Z0.c 7 rfl; have p8 := X0.c 8 rfl; have q8 := Y0.c 8 rfl; have r8 := Z0.c 8 rfl; have p9 := X0.c 9 rfl; have q9 := Y0.c 9 rfl; have r9 := Z0.c 9 rfl; have p10 := X0.c 10 rfl; have q10 := Y0.c 10 rfl; have r10 := Z0.c 10 rfl; have p11 := X0.c 11 rfl; have q11 := Y0.c 11 rfl; have r11 := Z0.c 11 rfl; clear X0 Y0 Z0
    go_wp2_with fail
    refine (R2 _).mono ?_
    rintro e w2 ⟨rfl, hB⟩
    replace T0 := T0.step hB
    clear hB p0 q0 r0 p1 q1 r1 p2 q2 r2 p3 q3 r3 p4 q4 r4 p5 q5 r5 p6 q6 r6 p7 q7 r7 p8 q8 r8 p9 q9 r9 p10 q10 r10 p11 q11 r11
    by_cases h2 : ptB u v t = true
    · rw [h2]
      have X0 : Blk _ w.heap.size _ := T0.b 0 rfl; have Y0 : Blk _ (w.heap.size + 1) _ := T0.b 1 rfl; have Z0 : Blk _ (w.heap.size + 1 + 1) _ := T0.b 2 rfl; have p0 := X0.c 0 rfl; have q0 := Y0.c 0 rfl; have r0 := Z0.c 0 rfl; have p1 := X0.c 1 rfl; have q1 := Y0.c 1 rfl; have r1 := Z0.c 1 rfl; have p2 := X0.c 2 rfl; have q2 := Y0.c 2 rfl; have r2 := Z0.c 2 rfl; have p3 := X0.c 3 rfl; have q3 := Y0.c 3 rfl; have r3 := Z0.c 3 rfl; have p4 := X0.c 4 rfl; have q4 := Y0.c 4 rfl; have r4 := Z0.c 4 rfl; have p5 := X0.c 5 rfl; have q5 := Y0.c 5 rfl; have r5 := Z0.c 5 rfl; have p6 := X0.c 6 rfl; have q6 := Y0.c 6 rfl; have r6 := Z0.c 6 rfl; have p7 := X0.c 7 rfl; have q7 := Y0.c 7 rfl; have r7 := Z0.c 7 rfl; have p8 := X0.c 8 rfl; have q8 := Y0.c 8 rfl; have r8 := Z0.c 8 rfl; have p9 := X0.c 9 rfl; have q9 := Y0.c 9 rfl; have r9 := Z0.c 9 rfl; have p10 := X0.c 10 rfl; have q10 := Y0.c 10 rfl; have r10 := Z0.c 10 rfl; have p11 := X0.c 11 rfl; have q11 := Y0.c 11 rfl; have r11 := Z0.c 11 rfl; clear X0 Y0 Z0
      go_wp2_with fail
      refine (R3 _).mono ?_
      rintro e w3 ⟨rfl, hB⟩
      replace T0 := T0.step hB
      clear hB p0 q0 r0 p1 q1 r1 p2 q2 r2 p3 q3 r3 p4 q4 r4 p5 q5 r5 p6 q6 r6 p7 q7 r7 p8 q8 r8 p9 q9 r9 p10 q10 r10 p11 q11 r11
      by_cases h3 : ptB a b c = true
      · rw [h3]
        have HO : Hid (btwV x y z u v t a b c = btwS x y z u v t a b c) := by show _ = _; unfold btwV; rw [h1, h2, h3]; rfl
        obtain ⟨pz, sx, sy, sz⟩ := ptB_small h1
        obtain ⟨pt, su, sv, st⟩ := ptB_small h2
        obtain ⟨pc, sa, sb, sc⟩ := ptB_small h3
        have C := lies_det x y z u v t a b c sx sy sz su sv st sa sb sc pz pt pc
        clear h1 h2 h3 R1 R2 R3 pz pt pc sx sy sz su sv st sa sb sc
        generalize btwS x y z u v t a b c = o at *
        have X0 : Blk _ w.heap.size _ := T0.b 0 rfl; have Y0 : Blk _ (w.heap.size + 1) _ := T0.b 1 rfl; have Z0 : Blk _ (w.heap.size + 1 + 1) _ := T0.b 2 rfl; have p0 := X0.c 0 rfl; have q0 := Y0.c 0 rfl; have r0 := Z0.c 0 rfl; have p1 := X0.c 1 rfl; have q1 := Y0.c 1 rfl; have r1 := Z0.c 1 rfl; have p2 := X0.c 2 rfl; have q2 := Y0.c 2 rfl; have r2 := Z0.c 2 rfl; have p3 := X0.c 3 rfl; have q3 := Y0.c 3 rfl; have r3 := Z0.c 3 rfl; have p4 := X0.c 4 rfl; have q4 := Y0.c 4 rfl; have r4 := Z0.c 4 rfl; have p5 := X0.c 5 rfl; have q5 := Y0.c 5 rfl; have r5 := Z0.c 5 rfl; have p6 := X0.c 6 rfl; have q6 := Y0.c 6 rfl; have r6 := Z0.c 6 rfl; have p7 := X0.c 7 rfl; have q7 := Y0.c 7 rfl; have r7 := Z0.c 7 rfl; have p8 := X0.c 8 rfl; have q8 := Y0.c 8 rfl; have r8 := Z0.c 8 rfl; have p9 := X0.c 9 rfl; have q9 := Y0.c 9 rfl; have r9 := Z0.c 9 rfl; have p10 := X0.c 10 rfl; have q10 := Y0.c 10 rfl; have r10 := Z0.c 10 rfl; have p11 := X0.c 11 rfl; have q11 := Y0.c 11 rfl; have r11 := Z0.c 11 rfl; clear X0 Y0 Z0
        go_wp2_with fail
        refine (C _).mono ?_
        rintro e w4 ⟨rfl, hB⟩
        have HB := (T0.step hB).below
        clear hB T0 C p0 q0 r0 p1 q1 r1 p2 q2 r2 p3 q3 r3 p4 q4 r4 p5 q5 r5 p6 q6 r6 p7 q7 r7 p8 q8 r8 p9 q9 r9 p10 q10 r10 p11 q11 r11
        go_wp2
        go_ret
        exact ⟨by rw [HO.out]; rfl, HB⟩
      · replace h3 := Bool.eq_false_iff.2 h3
        rw [h3]
        have HO : Hid (btwV x y z u v t a b c = false) := by show _ = _; unfold btwV; rw [h3]; simp
        have HB := T0.below
        clear T0 h1 h2 h3 R1 R2 R3
        go_wp2
        go_ret
        exact ⟨by rw [HO.out]; rfl, HB⟩
    · replace h2 := Bool.eq_false_iff.2 h2
      rw [h2]
      have HO : Hid (btwV x y z u v t a b c = false) := by show _ = _; unfold btwV; rw [h2]; simp
      have HB := T0.below
      clear T0 h1 h2 R1 R2 R3
      go_wp2
      go_ret
      exact ⟨by rw [HO.out]; rfl, HB⟩
  · replace h1 := Bool.eq_false_iff.2 h1
    rw [h1]
    have HO : Hid (btwV x y z u v t a b c = false) := by show _ = _; unfold btwV; rw [h1]; simp
    have HB := T0.below
    clear T0 h1 R1 R2 R3
    go_wp2
    go_ret
    exact ⟨by rw [HO.out]; rfl, HB⟩
end Go.Proofs.YtniccikkhddofaaGreat

/- Whether a point lies on a segment: both sides. -/
namespace Go.Proofs.YtniccikkhddofaaGreat
open Go.RowKit
/-- Whether a point lies on a segment; no where one of them is not right. -/
def onI (a b c d x y z : Int) : Bool := segOk a b c d && ptB x y z && btwS a b 1 c d 1 x y z
set_option maxRecDepth 100000 in
set_option maxHeartbeats 2000000 in
theorem implOnSeg_det (a b c d x y z : Int) (ia : -9223372036854775808 ≤ a ∧ a ≤ 9223372036854775807) (ib : -9223372036854775808 ≤ b ∧ b ≤ 9223372036854775807) (ic : -9223372036854775808 ≤ c ∧ c ≤ 9223372036854775807) (id : -9223372036854775808 ≤ d ∧ d ≤ 9223372036854775807) (hx : told x = true) (hy : told y = true) (hz : told z = true) (w : World) : Calls Tryz.prog 8 #[Sg a b c d, PV x y z] w (VP (.bool (onI a b c d x y z)) w) := by
  have T0 : ArgsB w ((w.alloc (.cells #[.int .i64 a, .int .i64 b, .int .i64 c, .int .i64 d] 27)).alloc (.cells #[.int .u64 (ww3 x), .int .u64 (ww2 x), .int .u64 (ww1 x), .int .u64 (ww0 x), .int .u64 (ww3 y), .int .u64 (ww2 y), .int .u64 (ww1 y), .int .u64 (ww0 y), .int .u64 (ww3 z), .int .u64 (ww2 z), .int .u64 (ww1 z), .int .u64 (ww0 z)] 32)) [[.int .i64 a, .int .i64 b, .int .i64 c, .int .i64 d], [.int .u64 (ww3 x), .int .u64 (ww2 x), .int .u64 (ww1 x), .int .u64 (ww0 x), .int .u64 (ww3 y), .int .u64 (ww2 y), .int .u64 (ww1 y), .int .u64 (ww0 y), .int .u64 (ww3 z), .int .u64 (ww2 z), .int .u64 (ww1 z), .int .u64 (ww0 z)]] := ar2 _ _ _ _ w
  have SO := fun w => implSegOk_any a b c d _ rfl w
  have EN := fun w => ends_det a b c d (by omega) (by omega) (by omega) (by omega) (by omega) (by omega) (by omega) (by omega) w
  have OR := fun w => implBetween_det a b 1 c d 1 x y z (told_small (small_int (by omega) (by omega))) (told_small (small_int (by omega) (by omega))) (by decide) (told_small (small_int (by omega) (by omega))) (told_small (small_int (by omega) (by omega))) (by decide) hx hy hz w
  clear ia ib ic id hx hy hz
  go_enter Tryz.func8, Tryz.ntmps8
  go_wp2_with fail
  generalize ((w.alloc (.cells #[.int .i64 a, .int .i64 b, .int .i64 c, .int .i64 d] 27)).alloc (.cells #[.int .u64 (ww3 x), .int .u64 (ww2 x), .int .u64 (ww1 x), .int .u64 (ww0 x), .int .u64 (ww3 y), .int .u64 (ww2 y), .int .u64 (ww1 y), .int .u64 (ww0 y), .int .u64 (ww3 z), .int .u64 (ww2 z), .int .u64 (ww1 z), .int .u64 (ww0 z)] 32)) = W at *
  refine (EN _).mono ?_
  rintro e w1 ⟨rfl, hB⟩
  replace T0 := ((T0.step hB).alloc (.cells #[.int .u64 (ww3 a), .int .u64 (ww2 a), .int .u64 (ww1 a), .int .u64 (ww0 a), .int .u64 (ww3 b), .int .u64 (ww2 b), .int .u64 (ww1 b), .int .u64 (ww0 b), .int .u64 (ww3 1), .int .u64 (ww2 1), .int .u64 (ww1 1), .int .u64 (ww0 1)] 32)).alloc (.cells #[.int .u64 (ww3 c), .int .u64 (ww2 c), .int .u64 (ww1 c), .int .u64 (ww0 c), .int .u64 (ww3 d), .int .u64 (ww2 d), .int .u64 (ww1 d), .int .u64 (ww0 d), .int .u64 (ww3 1), .int .u64 (ww2 1), .int .u64 (ww1 1), .int .u64 (ww0 1)] 32)
  clear hB EN
  have Y1 : Blk _ w.heap.size _ := T0.b 0 rfl; have g0 := Y1.c 0 rfl; have g1 := Y1.c 1 rfl; have g2 := Y1.c 2 rfl; have g3 := Y1.c 3 rfl; clear Y1
  by_cases hs : segOk a b c d = true
  · obtain ⟨i1, i2, i3, i4⟩ := in6_seg hs
    have HO : Hid (onI a b c d x y z = btwV a b 1 c d 1 x y z) := by show _ = _; unfold onI btwV; rw [hs, ptB_spot i1 i2, ptB_spot i3 i4]; rfl
    rw [hs] at SO
    clear hs i1 i2 i3 i4
    generalize btwV a b 1 c d 1 x y z = o at *
    go_wp2_with fail
    refine (SO _).mono ?_
    rintro e w2 ⟨rfl, hB⟩
    have X1 := ((Blk.new w1 [.int .u64 (ww3 a), .int .u64 (ww2 a), .int .u64 (ww1 a), .int .u64 (ww0 a), .int .u64 (ww3 b), .int .u64 (ww2 b), .int .u64 (ww1 b), .int .u64 (ww0 b), .int .u64 (ww3 1), .int .u64 (ww2 1), .int .u64 (ww1 1), .int .u64 (ww0 1)] _ rfl).alloc _).step hB
    have X2 := (Blk.new (w1.alloc (.cells #[.int .u64 (ww3 a), .int .u64 (ww2 a), .int .u64 (ww1 a), .int .u64 (ww0 a), .int .u64 (ww3 b), .int .u64 (ww2 b), .int .u64 (ww1 b), .int .u64 (ww0 b), .int .u64 (ww3 1), .int .u64 (ww2 1), .int .u64 (ww1 1), .int .u64 (ww0 1)] 32)) [.int .u64 (ww3 c), .int .u64 (ww2 c), .int .u64 (ww1 c), .int .u64 (ww0 c), .int .u64 (ww3 d), .int .u64 (ww2 d), .int .u64 (ww1 d), .int .u64 (ww0 d), .int .u64 (ww3 1), .int .u64 (ww2 1), .int .u64 (ww1 1), .int .u64 (ww0 1)] _ (g := w1.heap.size + 1) (by simp)).step hB
    have k0 := X1.c 0 rfl; have l0 := X2.c 0 rfl; have k1 := X1.c 1 rfl; have l1 := X2.c 1 rfl; have k2 := X1.c 2 rfl; have l2 := X2.c 2 rfl; have k3 := X1.c 3 rfl; have l3 := X2.c 3 rfl; have k4 := X1.c 4 rfl; have l4 := X2.c 4 rfl; have k5 := X1.c 5 rfl; have l5 := X2.c 5 rfl; have k6 := X1.c 6 rfl; have l6 := X2.c 6 rfl; have k7 := X1.c 7 rfl; have l7 := X2.c 7 rfl; have k8 := X1.c 8 rfl; have l8 := X2.c 8 rfl; have k9 := X1.c 9 rfl; have l9 := X2.c 9 rfl; have k10 := X1.c 10 rfl; have l10 := X2.c 10 rfl; have k11 := X1.c 11 rfl; have l11 := X2.c 11 rfl
    replace T0 := T0.step hB
    clear hB SO g0 g1 g2 g3 X1 X2
    have Y0 : Blk _ (w.heap.size + 1) _ := T0.b 1 rfl; have q0 := Y0.c 0 rfl; have q1 := Y0.c 1 rfl; have q2 := Y0.c 2 rfl; have q3 := Y0.c 3 rfl; have q4 := Y0.c 4 rfl; have q5 := Y0.c 5 rfl; have q6 := Y0.c 6 rfl; have q7 := Y0.c 7 rfl; have q8 := Y0.c 8 rfl; have q9 := Y0.c 9 rfl; have q10 := Y0.c 10 rfl; have q11 := Y0.c 11 rfl; have ql := Y0.lt; clear Y0
    go_wp2_with fail
    refine (OR _).mono ?_
    rintro e w3 ⟨rfl, hB⟩
    have HB := (T0.step hB).below
    clear hB T0 OR q0 q1 q2 q3 q4 q5 q6 q7 q8 q9 q10 q11 ql
    go_wp2
    go_ret
    exact ⟨by rw [HO.out]; rfl, HB⟩
  · replace hs := Bool.eq_false_iff.2 hs
    have HO : Hid (onI a b c d x y z = false) := by show _ = _; unfold onI; rw [hs]; rfl
    rw [hs] at SO
    clear hs OR
    go_wp2_with fail
    refine (SO _).mono ?_
    rintro e w2 ⟨rfl, hB⟩
    have HB := (T0.step hB).below
    clear hB SO T0 g0 g1 g2 g3
    go_wp2
    go_ret
    exact ⟨by rw [HO.out]; rfl, HB⟩
end Go.Proofs.YtniccikkhddofaaGreat

/- Where a segment stands over a point: both sides. -/
namespace Go.Proofs.YtniccikkhddofaaGreat
open Go.RowKit
/-- Where a segment stands over a right point. -/
def overJ (a b c d x y z : Int) : Int :=
  if cmpI (x * 1) (a * z) < 0 then 2 else if cmpI (x * 1) (c * z) > 0 then 2
  else if a < c then -turnI a b 1 c d 1 x y z
  else if cmpI (y * 1) (b * z) < 0 then 1 else if cmpI (y * 1) (d * z) > 0 then -1 else 0
/-- Where a segment stands over a point; 2 where one of them is not right. -/
def overI (a b c d x y z : Int) : Int := if segOk a b c d && ptB x y z then overJ a b c d x y z else 2
theorem cmpI_in (x y : Int) : cmpI x y = -1 ∨ cmpI x y = 0 ∨ cmpI x y = 1 := by unfold cmpI; split <;> (try split) <;> simp
set_option maxRecDepth 100000 in
set_option maxHeartbeats 2000000 in
theorem overAt_det (a b c d x y z : Int) (i1 : -1000000 ≤ a ∧ a ≤ 1000000) (i2 : -1000000 ≤ b ∧ b ≤ 1000000) (i3 : -1000000 ≤ c ∧ c ≤ 1000000) (i4 : -1000000 ≤ d ∧ d ≤ 1000000) (sx : small x = true) (sy : small y = true) (sz : small z = true) (w : World) : Calls Tryz.prog 13 #[Sg a b c d, PV x y z] w (VP (.int .i64 (overJ a b c d x y z)) w) := by
  have T0 : ArgsB w ((w.alloc (.cells #[.int .i64 a, .int .i64 b, .int .i64 c, .int .i64 d] 27)).alloc (.cells #[.int .u64 (ww3 x), .int .u64 (ww2 x), .int .u64 (ww1 x), .int .u64 (ww0 x), .int .u64 (ww3 y), .int .u64 (ww2 y), .int .u64 (ww1 y), .int .u64 (ww0 y), .int .u64 (ww3 z), .int .u64 (ww2 z), .int .u64 (ww1 z), .int .u64 (ww0 z)] 32)) [[.int .i64 a, .int .i64 b, .int .i64 c, .int .i64 d], [.int .u64 (ww3 x), .int .u64 (ww2 x), .int .u64 (ww1 x), .int .u64 (ww0 x), .int .u64 (ww3 y), .int .u64 (ww2 y), .int .u64 (ww1 y), .int .u64 (ww0 y), .int .u64 (ww3 z), .int .u64 (ww2 z), .int .u64 (ww1 z), .int .u64 (ww0 z)]] := ar2 _ _ _ _ w
  have sa : small a = true := small_int (by omega) (by omega)
  have sb : small b = true := small_int (by omega) (by omega)
  have sc : small c = true := small_int (by omega) (by omega)
  have sd : small d = true := small_int (by omega) (by omega)
  have s1 : small 1 = true := by decide
  have EN := fun w => ends_det a b c d (by omega) (by omega) (by omega) (by omega) (by omega) (by omega) (by omega) (by omega) w
  have C1 := byX_det x y z a b 1 sx sz sa s1
  have C2 := byX_det x y z c d 1 sx sz sc s1
  have C3 := turn_det a b 1 c d 1 x y z sa sb s1 sc sd s1 sx sy sz
  rw [turn_same] at C3
  have C4 := byY_det x y z a b 1 sy sz sb s1
  have C5 := byY_det x y z c d 1 sy sz sd s1
  have o3in := cmpI_in
  have HJ : Hid (overJ a b c d x y z = if cmpI (x * 1) (a * z) < 0 then 2 else if cmpI (x * 1) (c * z) > 0 then 2 else if a < c then -turnI a b 1 c d 1 x y z else if cmpI (y * 1) (b * z) < 0 then 1 else if cmpI (y * 1) (d * z) > 0 then -1 else 0) := rfl
  have H3 : turnI a b 1 c d 1 x y z = -1 ∨ turnI a b 1 c d 1 x y z = 0 ∨ turnI a b 1 c d 1 x y z = 1 := cmpI_in _ _
  generalize overJ a b c d x y z = J at *
  generalize cmpI (x * 1) (a * z) = o1 at *
  generalize cmpI (x * 1) (c * z) = o2 at *
  generalize turnI a b 1 c d 1 x y z = o3 at *
  generalize cmpI (y * 1) (b * z) = o4 at *
  generalize cmpI (y * 1) (d * z) = o5 at *
  clear i1 i2 i3 i4 sx sy sz sa sb sc sd s1 o3in
  go_enter Tryz.func13, Tryz.ntmps13
  go_wp2_with fail
  generalize ((w.alloc (.cells #[.int .i64 a, .int .i64 b, .int .i64 c, .int .i64 d] 27)).alloc (.cells #[.int .u64 (ww3 x), .int .u64 (ww2 x), .int .u64 (ww1 x), .int .u64 (ww0 x), .int .u64 (ww3 y), .int .u64 (ww2 y), .int .u64 (ww1 y), .int .u64 (ww0 y), .int .u64 (ww3 z), .int .u64 (ww2 z), .int .u64 (ww1 z), .int .u64 (ww0 z)] 32)) = W at *
  refine (EN _).mono ?_
  rintro e w1 ⟨rfl, hB⟩
  replace T0 := T0.step hB
  clear hB EN
  have X1 := (Blk.new w1 [.int .u64 (ww3 a), .int .u64 (ww2 a), .int .u64 (ww1 a), .int .u64 (ww0 a), .int .u64 (ww3 b), .int .u64 (ww2 b), .int .u64 (ww1 b), .int .u64 (ww0 b), .int .u64 (ww3 1), .int .u64 (ww2 1), .int .u64 (ww1 1), .int .u64 (ww0 1)] 32 rfl).alloc (.cells #[.int .u64 (ww3 c), .int .u64 (ww2 c), .int .u64 (ww1 c), .int .u64 (ww0 c), .int .u64 (ww3 d), .int .u64 (ww2 d), .int .u64 (ww1 d), .int .u64 (ww0 d), .int .u64 (ww3 1), .int .u64 (ww2 1), .int .u64 (ww1 1), .int .u64 (ww0 1)] 32)
  have X2 := Blk.new (w1.alloc (.cells #[.int .u64 (ww3 a), .int .u64 (ww2 a), .int .u64 (ww1 a), .int .u64 (ww0 a), .int .u64 (ww3 b), .int .u64 (ww2 b), .int .u64 (ww1 b), .int .u64 (ww0 b), .int .u64 (ww3 1), .int .u64 (ww2 1), .int .u64 (ww1 1), .int .u64 (ww0 1)] 32)) [.int .u64 (ww3 c), .int .u64 (ww2 c), .int .u64 (ww1 c), .int .u64 (ww0 c), .int .u64 (ww3 d), .int .u64 (ww2 d), .int .u64 (ww1 d), .int .u64 (ww0 d), .int .u64 (ww3 1), .int .u64 (ww2 1), .int .u64 (ww1 1), .int .u64 (ww0 1)] 32 rfl
  have x2e : (w1.alloc (.cells #[.int .u64 (ww3 a), .int .u64 (ww2 a), .int .u64 (ww1 a), .int .u64 (ww0 a), .int .u64 (ww3 b), .int .u64 (ww2 b), .int .u64 (ww1 b), .int .u64 (ww0 b), .int .u64 (ww3 1), .int .u64 (ww2 1), .int .u64 (ww1 1), .int .u64 (ww0 1)] 32)).heap.size = w1.heap.size + 1 := by simp
  rw [x2e] at X2
  clear x2e
  replace T0 := (T0.alloc (.cells #[.int .u64 (ww3 a), .int .u64 (ww2 a), .int .u64 (ww1 a), .int .u64 (ww0 a), .int .u64 (ww3 b), .int .u64 (ww2 b), .int .u64 (ww1 b), .int .u64 (ww0 b), .int .u64 (ww3 1), .int .u64 (ww2 1), .int .u64 (ww1 1), .int .u64 (ww0 1)] 32)).alloc (.cells #[.int .u64 (ww3 c), .int .u64 (ww2 c), .int .u64 (ww1 c), .int .u64 (ww0 c), .int .u64 (ww3 d), .int .u64 (ww2 d), .int .u64 (ww1 d), .int .u64 (ww0 d), .int .u64 (ww3 1), .int .u64 (ww2 1), .int .u64 (ww1 1), .int .u64 (ww0 1)] 32)
  have Y0 : Blk _ (w.heap.size + 1) _ := T0.b 1 rfl; have q0 := Y0.c 0 rfl; have k0 := X1.c 0 rfl; have l0 := X2.c 0 rfl; have q1 := Y0.c 1 rfl; have k1 := X1.c 1 rfl; have l1 := X2.c 1 rfl; have q2 := Y0.c 2 rfl; have k2 := X1.c 2 rfl; have l2 := X2.c 2 rfl; have q3 := Y0.c 3 rfl; have k3 := X1.c 3 rfl; have l3 := X2.c 3 rfl; have q4 := Y0.c 4 rfl; have k4 := X1.c 4 rfl; have l4 := X2.c 4 rfl; have q5 := Y0.c 5 rfl; have k5 := X1.c 5 rfl; have l5 := X2.c 5 rfl; have q6 := Y0.c 6 rfl; have k6 := X1.c 6 rfl; have l6 := X2.c 6 rfl; have q7 := Y0.c 7 rfl; have k7 := X1.c 7 rfl; have l7 := X2.c 7 rfl; have q8 := Y0.c 8 rfl; have k8 := X1.c 8 rfl; have l8 := X2.c 8 rfl; have q9 := Y0.c 9 rfl; have k9 := X1.c 9 rfl; have l9 := X2.c 9 rfl; have q10 := Y0.c 10 rfl; have k10 := X1.c 10 rfl; have l10 := X2.c 10 rfl; have q11 := Y0.c 11 rfl; have k11 := X1.c 11 rfl; have l11 := X2.c 11 rfl; have ql := Y0.lt; clear Y0
  go_wp2_with fail
  generalize ((w1.alloc (.cells #[.int .u64 (ww3 a), .int .u64 (ww2 a), .int .u64 (ww1 a), .int .u64 (ww0 a), .int .u64 (ww3 b), .int .u64 (ww2 b), .int .u64 (ww1 b), .int .u64 (ww0 b), .int .u64 (ww3 1), .int .u64 (ww2 1), .int .u64 (ww1 1), .int .u64 (ww0 1)] 32)).alloc (.cells #[.int .u64 (ww3 c), .int .u64 (ww2 c), .int .u64 (ww1 c), .int .u64 (ww0 c), .int .u64 (ww3 d), .int .u64 (ww2 d), .int .u64 (ww1 d), .int .u64 (ww0 d), .int .u64 (ww3 1), .int .u64 (ww2 1), .int .u64 (ww1 1), .int .u64 (ww0 1)] 32)) = W1 at *
  generalize w1.heap.size = g1 at *
  refine (C1 _).mono ?_
  rintro e w2 ⟨rfl, hB⟩
  replace T0 := T0.step hB; replace X1 := X1.step hB; replace X2 := X2.step hB
  clear hB C1 q0 k0 l0 q1 k1 l1 q2 k2 l2 q3 k3 l3 q4 k4 l4 q5 k5 l5 q6 k6 l6 q7 k7 l7 q8 k8 l8 q9 k9 l9 q10 k10 l10 q11 k11 l11 ql
  by_cases h1 : o1 < 0
  · have HO : Hid (J = 2) := by show _ = _; rw [HJ.out, if_pos (show o1 < 0 by omega)]
    have HB := T0.below
    clear T0 X1 X2 
    go_wp2
    go_ret
    exact ⟨by rw [HO.out]; rfl, HB⟩
  · have K1 : Hid (¬ o1 < 0) := h1
    have Y0 : Blk _ (w.heap.size + 1) _ := T0.b 1 rfl; have q0 := Y0.c 0 rfl; have k0 := X1.c 0 rfl; have l0 := X2.c 0 rfl; have q1 := Y0.c 1 rfl; have k1 := X1.c 1 rfl; have l1 := X2.c 1 rfl; have q2 := Y0.c 2 rfl; have k2 := X1.c 2 rfl; have l2 := X2.c 2 rfl; have q3 := Y0.c 3 rfl; have k3 := X1.c 3 rfl; have l3 := X2.c 3 rfl; have q4 := Y0.c 4 rfl; have k4 := X1.c 4 rfl; have l4 := X2.c 4 rfl; have q5 := Y0.c 5 rfl; have k5 := X1.c 5 rfl; have l5 := X2.c 5 rfl; have q6 := Y0.c 6 rfl; have k6 := X1.c 6 rfl; have l6 := X2.c 6 rfl; have q7 := Y0.c 7 rfl; have k7 := X1.c 7 rfl; have l7 := X2.c 7 rfl; have q8 := Y0.c 8 rfl; have k8 := X1.c 8 rfl; have l8 := X2.c 8 rfl; have q9 := Y0.c 9 rfl; have k9 := X1.c 9 rfl; have l9 := X2.c 9 rfl; have q10 := Y0.c 10 rfl; have k10 := X1.c 10 rfl; have l10 := X2.c 10 rfl; have q11 := Y0.c 11 rfl; have k11 := X1.c 11 rfl; have l11 := X2.c 11 rfl; have ql := Y0.lt; clear Y0
    go_wp2_with fail
    refine (C2 _).mono ?_
    rintro e w3 ⟨rfl, hB⟩
    replace T0 := T0.step hB; replace X1 := X1.step hB; replace X2 := X2.step hB
    clear hB q0 k0 l0 q1 k1 l1 q2 k2 l2 q3 k3 l3 q4 k4 l4 q5 k5 l5 q6 k6 l6 q7 k7 l7 q8 k8 l8 q9 k9 l9 q10 k10 l10 q11 k11 l11 ql
    by_cases h2 : o2 > 0
    · have HO : Hid (J = 2) := by show _ = _; rw [HJ.out, if_neg (show ¬ o1 < 0 by have := K1.out; omega), if_pos (show o2 > 0 by omega)]
      have HB := T0.below
      clear T0 X1 X2 
      go_wp2
      go_ret
      exact ⟨by rw [HO.out]; rfl, HB⟩
    · have K2 : Hid (¬ o2 > 0) := h2
      have Y1 : Blk _ w.heap.size _ := T0.b 0 rfl; obtain ⟨g0, g1, g2, g3⟩ := Y1.cs4; clear Y1
      by_cases h3 : a < c
      · have HO : Hid (J = -o3) := by show _ = _; rw [HJ.out, if_neg (show ¬ o1 < 0 by have := K1.out; omega), if_neg (show ¬ o2 > 0 by have := K2.out; omega), if_pos (show a < c by omega)]
        have Y0 : Blk _ (w.heap.size + 1) _ := T0.b 1 rfl; have q0 := Y0.c 0 rfl; have k0 := X1.c 0 rfl; have l0 := X2.c 0 rfl; have q1 := Y0.c 1 rfl; have k1 := X1.c 1 rfl; have l1 := X2.c 1 rfl; have q2 := Y0.c 2 rfl; have k2 := X1.c 2 rfl; have l2 := X2.c 2 rfl; have q3 := Y0.c 3 rfl; have k3 := X1.c 3 rfl; have l3 := X2.c 3 rfl; have q4 := Y0.c 4 rfl; have k4 := X1.c 4 rfl; have l4 := X2.c 4 rfl; have q5 := Y0.c 5 rfl; have k5 := X1.c 5 rfl; have l5 := X2.c 5 rfl; have q6 := Y0.c 6 rfl; have k6 := X1.c 6 rfl; have l6 := X2.c 6 rfl; have q7 := Y0.c 7 rfl; have k7 := X1.c 7 rfl; have l7 := X2.c 7 rfl; have q8 := Y0.c 8 rfl; have k8 := X1.c 8 rfl; have l8 := X2.c 8 rfl; have q9 := Y0.c 9 rfl; have k9 := X1.c 9 rfl; have l9 := X2.c 9 rfl; have q10 := Y0.c 10 rfl; have k10 := X1.c 10 rfl; have l10 := X2.c 10 rfl; have q11 := Y0.c 11 rfl; have k11 := X1.c 11 rfl; have l11 := X2.c 11 rfl; have ql := Y0.lt; clear Y0
        go_wp2_with fail
        refine (C3 _).mono ?_
        rintro e w4 ⟨rfl, hB⟩
        replace T0 := T0.step hB; replace X1 := X1.step hB; replace X2 := X2.step hB
        clear hB q0 k0 l0 q1 k1 l1 q2 k2 l2 q3 k3 l3 q4 k4 l4 q5 k5 l5 q6 k6 l6 q7 k7 l7 q8 k8 l8 q9 k9 l9 q10 k10 l10 q11 k11 l11 ql
        have n1 : -1 ≤ o3 := by omega
        have n2 : o3 ≤ 1 := by omega
        have HB := T0.below
        clear T0 X1 X2 g0 g1 g2 g3
        go_wp2
        go_ret
        exact ⟨by rw [HO.out]; rfl, HB⟩
      · have K3 : Hid (¬ a < c) := h3
        have Y0 : Blk _ (w.heap.size + 1) _ := T0.b 1 rfl; have q0 := Y0.c 0 rfl; have k0 := X1.c 0 rfl; have l0 := X2.c 0 rfl; have q1 := Y0.c 1 rfl; have k1 := X1.c 1 rfl; have l1 := X2.c 1 rfl; have q2 := Y0.c 2 rfl; have k2 := X1.c 2 rfl; have l2 := X2.c 2 rfl; have q3 := Y0.c 3 rfl; have k3 := X1.c 3 rfl; have l3 := X2.c 3 rfl; have q4 := Y0.c 4 rfl; have k4 := X1.c 4 rfl; have l4 := X2.c 4 rfl; have q5 := Y0.c 5 rfl; have k5 := X1.c 5 rfl; have l5 := X2.c 5 rfl; have q6 := Y0.c 6 rfl; have k6 := X1.c 6 rfl; have l6 := X2.c 6 rfl; have q7 := Y0.c 7 rfl; have k7 := X1.c 7 rfl; have l7 := X2.c 7 rfl; have q8 := Y0.c 8 rfl; have k8 := X1.c 8 rfl; have l8 := X2.c 8 rfl; have q9 := Y0.c 9 rfl; have k9 := X1.c 9 rfl; have l9 := X2.c 9 rfl; have q10 := Y0.c 10 rfl; have k10 := X1.c 10 rfl; have l10 := X2.c 10 rfl; have q11 := Y0.c 11 rfl; have k11 := X1.c 11 rfl; have l11 := X2.c 11 rfl; have ql := Y0.lt; clear Y0
        go_wp2_with fail
        refine (C4 _).mono ?_
        rintro e w4 ⟨rfl, hB⟩
        replace T0 := T0.step hB; replace X1 := X1.step hB; replace X2 := X2.step hB
        clear hB q0 k0 l0 q1 k1 l1 q2 k2 l2 q3 k3 l3 q4 k4 l4 q5 k5 l5 q6 k6 l6 q7 k7 l7 q8 k8 l8 q9 k9 l9 q10 k10 l10 q11 k11 l11 ql
        by_cases h4 : o4 < 0
        · have HO : Hid (J = 1) := by show _ = _; rw [HJ.out, if_neg (show ¬ o1 < 0 by have := K1.out; omega), if_neg (show ¬ o2 > 0 by have := K2.out; omega), if_neg (show ¬ a < c by have := K3.out; omega), if_pos (show o4 < 0 by omega)]
          have HB := T0.below
          clear T0 X1 X2 
          go_wp2
          go_ret
          exact ⟨by rw [HO.out]; rfl, HB⟩
        · have K4 : Hid (¬ o4 < 0) := h4
          have Y0 : Blk _ (w.heap.size + 1) _ := T0.b 1 rfl; have q0 := Y0.c 0 rfl; have k0 := X1.c 0 rfl; have l0 := X2.c 0 rfl; have q1 := Y0.c 1 rfl; have k1 := X1.c 1 rfl; have l1 := X2.c 1 rfl; have q2 := Y0.c 2 rfl; have k2 := X1.c 2 rfl; have l2 := X2.c 2 rfl; have q3 := Y0.c 3 rfl; have k3 := X1.c 3 rfl; have l3 := X2.c 3 rfl; have q4 := Y0.c 4 rfl; have k4 := X1.c 4 rfl; have l4 := X2.c 4 rfl; have q5 := Y0.c 5 rfl; have k5 := X1.c 5 rfl; have l5 := X2.c 5 rfl; have q6 := Y0.c 6 rfl; have k6 := X1.c 6 rfl; have l6 := X2.c 6 rfl; have q7 := Y0.c 7 rfl; have k7 := X1.c 7 rfl; have l7 := X2.c 7 rfl; have q8 := Y0.c 8 rfl; have k8 := X1.c 8 rfl; have l8 := X2.c 8 rfl; have q9 := Y0.c 9 rfl; have k9 := X1.c 9 rfl; have l9 := X2.c 9 rfl; have q10 := Y0.c 10 rfl; have k10 := X1.c 10 rfl; have l10 := X2.c 10 rfl; have q11 := Y0.c 11 rfl; have k11 := X1.c 11 rfl; have l11 := X2.c 11 rfl; have ql := Y0.lt; clear Y0
          go_wp2_with fail
          refine (C5 _).mono ?_
          rintro e w5 ⟨rfl, hB⟩
          replace T0 := T0.step hB; replace X1 := X1.step hB; replace X2 := X2.step hB
          clear hB q0 k0 l0 q1 k1 l1 q2 k2 l2 q3 k3 l3 q4 k4 l4 q5 k5 l5 q6 k6 l6 q7 k7 l7 q8 k8 l8 q9 k9 l9 q10 k10 l10 q11 k11 l11 ql
          by_cases h5 : o5 > 0
          · have HO : Hid (J = -1) := by show _ = _; rw [HJ.out, if_neg (show ¬ o1 < 0 by have := K1.out; omega), if_neg (show ¬ o2 > 0 by have := K2.out; omega), if_neg (show ¬ a < c by have := K3.out; omega), if_neg (show ¬ o4 < 0 by have := K4.out; omega), if_pos (show o5 > 0 by omega)]
            have HB := T0.below
            clear T0 X1 X2 
            go_wp2
            go_ret
            exact ⟨by rw [HO.out]; rfl, HB⟩
          · have K5 : Hid (¬ o5 > 0) := h5
            have HO : Hid (J = 0) := by show _ = _; rw [HJ.out, if_neg (show ¬ o1 < 0 by have := K1.out; omega), if_neg (show ¬ o2 > 0 by have := K2.out; omega), if_neg (show ¬ a < c by have := K3.out; omega), if_neg (show ¬ o4 < 0 by have := K4.out; omega), if_neg (show ¬ o5 > 0 by have := K5.out; omega)]
            have HB := T0.below
            clear T0 X1 X2 
            go_wp2
            go_ret
            exact ⟨by rw [HO.out]; rfl, HB⟩
set_option maxRecDepth 100000 in
set_option maxHeartbeats 2000000 in
theorem implOverAt_det (a b c d x y z : Int) (hx : told x = true) (hy : told y = true) (hz : told z = true) (w : World) : Calls Tryz.prog 6 #[Sg a b c d, PV x y z] w (VP (.int .i64 (overI a b c d x y z)) w) := by
  have T0 : ArgsB w ((w.alloc (.cells #[.int .i64 a, .int .i64 b, .int .i64 c, .int .i64 d] 27)).alloc (.cells #[.int .u64 (ww3 x), .int .u64 (ww2 x), .int .u64 (ww1 x), .int .u64 (ww0 x), .int .u64 (ww3 y), .int .u64 (ww2 y), .int .u64 (ww1 y), .int .u64 (ww0 y), .int .u64 (ww3 z), .int .u64 (ww2 z), .int .u64 (ww1 z), .int .u64 (ww0 z)] 32)) [[.int .i64 a, .int .i64 b, .int .i64 c, .int .i64 d], [.int .u64 (ww3 x), .int .u64 (ww2 x), .int .u64 (ww1 x), .int .u64 (ww0 x), .int .u64 (ww3 y), .int .u64 (ww2 y), .int .u64 (ww1 y), .int .u64 (ww0 y), .int .u64 (ww3 z), .int .u64 (ww2 z), .int .u64 (ww1 z), .int .u64 (ww0 z)]] := ar2 _ _ _ _ w
  have SO := fun w => implSegOk_any a b c d _ rfl w
  have PO := implPointOk_det x y z hx hy hz
  clear hx hy hz
  by_cases hs : segOk a b c d = true
  · obtain ⟨i1, i2, i3, i4⟩ := in6_seg hs
    by_cases hp : ptB x y z = true
    · have HO : Hid (overI a b c d x y z = overJ a b c d x y z) := by show _ = _; unfold overI; rw [hs, hp]; rfl
      obtain ⟨pz, sx, sy, sz⟩ := ptB_small hp
      rw [hs] at SO
      rw [hp] at PO
      have C := overAt_det a b c d x y z i1 i2 i3 i4 sx sy sz
      clear i1 i2 i3 i4 sx sy sz
      clear hs hp pz
      go_enter Tryz.func6, Tryz.ntmps6
      go_wp2_with fail
      generalize ((w.alloc (.cells #[.int .i64 a, .int .i64 b, .int .i64 c, .int .i64 d] 27)).alloc (.cells #[.int .u64 (ww3 x), .int .u64 (ww2 x), .int .u64 (ww1 x), .int .u64 (ww0 x), .int .u64 (ww3 y), .int .u64 (ww2 y), .int .u64 (ww1 y), .int .u64 (ww0 y), .int .u64 (ww3 z), .int .u64 (ww2 z), .int .u64 (ww1 z), .int .u64 (ww0 z)] 32)) = W at *
      refine (SO _).mono ?_
      rintro e w1 ⟨rfl, hB⟩
      replace T0 := T0.step hB
      clear hB SO
      have Y0 : Blk _ (w.heap.size + 1) _ := T0.b 1 rfl; obtain ⟨q0, q1, q2, q3, q4, q5, q6, q7, q8, q9, q10, q11⟩ := Y0.cs12; have ql := Y0.lt; clear Y0
      go_wp2_with fail
      refine (PO _).mono ?_
      rintro e w2 ⟨rfl, hB⟩
      replace T0 := T0.step hB
      clear hB PO q0 q1 q2 q3 q4 q5 q6 q7 q8 q9 q10 q11 ql
      have Y1 : Blk _ w.heap.size _ := T0.b 0 rfl; obtain ⟨g0, g1, g2, g3⟩ := Y1.cs4; clear Y1
      have Y0 : Blk _ (w.heap.size + 1) _ := T0.b 1 rfl; obtain ⟨q0, q1, q2, q3, q4, q5, q6, q7, q8, q9, q10, q11⟩ := Y0.cs12; have ql := Y0.lt; clear Y0
      go_wp2_with fail
      refine (C _).mono ?_
      rintro e w3 ⟨rfl, hB⟩
      have HB := (T0.step hB).below
      clear hB C T0 q0 q1 q2 q3 q4 q5 q6 q7 q8 q9 q10 q11 ql g0 g1 g2 g3
      go_wp2
      go_ret
      exact ⟨by rw [HO.out]; rfl, HB⟩
    · replace hp := Bool.eq_false_iff.2 hp
      have HO : Hid (overI a b c d x y z = 2) := by show _ = _; unfold overI; rw [hs, hp]; rfl
      rw [hs] at SO
      rw [hp] at PO
      clear hs hp i1 i2 i3 i4
      go_enter Tryz.func6, Tryz.ntmps6
      go_wp2_with fail
      generalize ((w.alloc (.cells #[.int .i64 a, .int .i64 b, .int .i64 c, .int .i64 d] 27)).alloc (.cells #[.int .u64 (ww3 x), .int .u64 (ww2 x), .int .u64 (ww1 x), .int .u64 (ww0 x), .int .u64 (ww3 y), .int .u64 (ww2 y), .int .u64 (ww1 y), .int .u64 (ww0 y), .int .u64 (ww3 z), .int .u64 (ww2 z), .int .u64 (ww1 z), .int .u64 (ww0 z)] 32)) = W at *
      refine (SO _).mono ?_
      rintro e w1 ⟨rfl, hB⟩
      replace T0 := T0.step hB
      clear hB SO
      have Y0 : Blk _ (w.heap.size + 1) _ := T0.b 1 rfl; obtain ⟨q0, q1, q2, q3, q4, q5, q6, q7, q8, q9, q10, q11⟩ := Y0.cs12; have ql := Y0.lt; clear Y0
      go_wp2_with fail
      refine (PO _).mono ?_
      rintro e w2 ⟨rfl, hB⟩
      have HB := (T0.step hB).below
      clear hB PO T0 q0 q1 q2 q3 q4 q5 q6 q7 q8 q9 q10 q11 ql
      go_wp2
      go_ret
      exact ⟨by rw [HO.out]; rfl, HB⟩
  · replace hs := Bool.eq_false_iff.2 hs
    have HO : Hid (overI a b c d x y z = 2) := by show _ = _; unfold overI; rw [hs]; rfl
    rw [hs] at SO
    clear hs PO
    go_enter Tryz.func6, Tryz.ntmps6
    go_wp2_with fail
    generalize ((w.alloc (.cells #[.int .i64 a, .int .i64 b, .int .i64 c, .int .i64 d] 27)).alloc (.cells #[.int .u64 (ww3 x), .int .u64 (ww2 x), .int .u64 (ww1 x), .int .u64 (ww0 x), .int .u64 (ww3 y), .int .u64 (ww2 y), .int .u64 (ww1 y), .int .u64 (ww0 y), .int .u64 (ww3 z), .int .u64 (ww2 z), .int .u64 (ww1 z), .int .u64 (ww0 z)] 32)) = W at *
    refine (SO _).mono ?_
    rintro e w1 ⟨rfl, hB⟩
    have HB := (T0.step hB).below
    clear hB SO T0
    go_wp2
    go_ret
    exact ⟨by rw [HO.out]; rfl, HB⟩
end Go.Proofs.YtniccikkhddofaaGreat

/- Where a segment stands over a point: the model's side. -/
namespace Go.Proofs.YtniccikkhddofaaGreat
open Go.RowKit
theorem seg_le {a b c d : Int} (h : segOk a b c d = true) : a ≤ c := by
  unfold segOk lessI at h
  simp at h
  omega
set_option maxRecDepth 100000 in
set_option maxHeartbeats 2000000 in
theorem specOverAt_det (a b c d x y z : Int) (hx : told x = true) (hy : told y = true) (hz : told z = true) (w : World) : Calls Tryz.prog 7 #[Sg a b c d, PV x y z] w (VP (.int .i64 (overI a b c d x y z)) w) := by
  have T0 : ArgsB w ((w.alloc (.cells #[.int .i64 a, .int .i64 b, .int .i64 c, .int .i64 d] 27)).alloc (.cells #[.int .u64 (ww3 x), .int .u64 (ww2 x), .int .u64 (ww1 x), .int .u64 (ww0 x), .int .u64 (ww3 y), .int .u64 (ww2 y), .int .u64 (ww1 y), .int .u64 (ww0 y), .int .u64 (ww3 z), .int .u64 (ww2 z), .int .u64 (ww1 z), .int .u64 (ww0 z)] 32)) [[.int .i64 a, .int .i64 b, .int .i64 c, .int .i64 d], [.int .u64 (ww3 x), .int .u64 (ww2 x), .int .u64 (ww1 x), .int .u64 (ww0 x), .int .u64 (ww3 y), .int .u64 (ww2 y), .int .u64 (ww1 y), .int .u64 (ww0 y), .int .u64 (ww3 z), .int .u64 (ww2 z), .int .u64 (ww1 z), .int .u64 (ww0 z)]] := ar2 _ _ _ _ w
  have SO := fun w => specSegOk_any a b c d _ rfl w
  have PO := specPointOk_det x y z hx hy hz
  have F3 := l3Of_det x y z hx hy hz
  clear hx hy hz
  by_cases hs : segOk a b c d = true
  · obtain ⟨i1, i2, i3, i4⟩ := in6_seg hs
    by_cases hp : ptB x y z = true
    · have HO : Hid (overI a b c d x y z = overJ a b c d x y z) := by show _ = _; unfold overI; rw [hs, hp]; rfl
      obtain ⟨pz, sx, sy, sz⟩ := ptB_small hp
      rw [hs] at SO
      rw [hp] at PO
      have HJ : Hid (overJ a b c d x y z = if cmpI (x * 1) (a * z) < 0 then 2 else if cmpI (x * 1) (c * z) > 0 then 2 else if a < c then -turnI a b 1 c d 1 x y z else if cmpI (y * 1) (b * z) < 0 then 1 else if cmpI (y * 1) (d * z) > 0 then -1 else 0) := rfl
      have hac : a ≤ c := seg_le hs
      have F1 := l3Spot_det a b i1 i2
      have F2 := l3Spot_det c d i3 i4
      have H3 : turnI a b 1 c d 1 x y z = -1 ∨ turnI a b 1 c d 1 x y z = 0 ∨ turnI a b 1 c d 1 x y z = 1 := cmpI_in _ _
      rw [HO.out]
      clear hs hp pz sx sy sz i1 i2 i3 i4
      generalize hJ : overJ a b c d x y z = J at *
      clear hJ
      go_enter Tryz.func7, Tryz.ntmps7
      go_wp2_with fail
      generalize ((w.alloc (.cells #[.int .i64 a, .int .i64 b, .int .i64 c, .int .i64 d] 27)).alloc (.cells #[.int .u64 (ww3 x), .int .u64 (ww2 x), .int .u64 (ww1 x), .int .u64 (ww0 x), .int .u64 (ww3 y), .int .u64 (ww2 y), .int .u64 (ww1 y), .int .u64 (ww0 y), .int .u64 (ww3 z), .int .u64 (ww2 z), .int .u64 (ww1 z), .int .u64 (ww0 z)] 32)) = W at *
      refine (SO _).mono ?_
      rintro e w1 ⟨rfl, hB⟩
      replace T0 := T0.step hB
      clear hB SO
      have Y0 : Blk _ (w.heap.size + 1) _ := T0.b 1 rfl; have q0 := Y0.c 0 rfl; have q1 := Y0.c 1 rfl; have q2 := Y0.c 2 rfl; have q3 := Y0.c 3 rfl; have q4 := Y0.c 4 rfl; have q5 := Y0.c 5 rfl; have q6 := Y0.c 6 rfl; have q7 := Y0.c 7 rfl; have q8 := Y0.c 8 rfl; have q9 := Y0.c 9 rfl; have q10 := Y0.c 10 rfl; have q11 := Y0.c 11 rfl; have ql := Y0.lt; clear Y0
      go_wp2_with fail
      refine (PO _).mono ?_
      rintro e w2 ⟨rfl, hB⟩
      replace T0 := T0.step hB
      clear hB PO q0 q1 q2 q3 q4 q5 q6 q7 q8 q9 q10 q11 ql
      have Y1 : Blk _ w.heap.size _ := T0.b 0 rfl; have g0 := Y1.c 0 rfl; have g1 := Y1.c 1 rfl; have g2 := Y1.c 2 rfl; have g3 := Y1.c 3 rfl; clear Y1
      go_wp2_with fail
      refine (F1 _).mono ?_
      rintro e w3 ⟨ps1, po1, pn1, pc1, pd1, ps2, po2, pn2, pc2, pd2, ps3, po3, pn3, pc3, pd3, rfl, Np1, Np2, Np3, hB⟩
      replace T0 := T0.step hB
      have hA : Below w3.heap.size w3 (w3.alloc (.cells #[.bool ps1, .slice po1 pn1 pc1, .bool ps2, .slice po2 pn2 pc2, .bool ps3, .slice po3 pn3 pc3] 43)) := (Below.refl _ _).alloc (Nat.le_refl _) _
      have Xp := Blk.new w3 [.bool ps1, .slice po1 pn1 pc1, .bool ps2, .slice po2 pn2 pc2, .bool ps3, .slice po3 pn3 pc3] 43 rfl
      replace T0 := T0.alloc (.cells #[.bool ps1, .slice po1 pn1 pc1, .bool ps2, .slice po2 pn2 pc2, .bool ps3, .slice po3 pn3 pc3] 43)
      replace Np1 := Np1.below hA; replace Np2 := Np2.below hA; replace Np3 := Np3.below hA
      clear hA
      clear hB g0 g1 g2 g3 F1
      have Y1 : Blk _ w.heap.size _ := T0.b 0 rfl; have g0 := Y1.c 0 rfl; have g1 := Y1.c 1 rfl; have g2 := Y1.c 2 rfl; have g3 := Y1.c 3 rfl; clear Y1
      go_wp2_with fail
      refine (F2 _).mono ?_
      rintro e w4 ⟨qs1, qo1, qn1, qc1, qd1, qs2, qo2, qn2, qc2, qd2, qs3, qo3, qn3, qc3, qd3, rfl, Nq1, Nq2, Nq3, hB⟩
      replace T0 := T0.step hB
      replace Xp := Xp.step hB
      replace Np1 := Np1.below hB; replace Np2 := Np2.below hB; replace Np3 := Np3.below hB
      have hA : Below w4.heap.size w4 (w4.alloc (.cells #[.bool qs1, .slice qo1 qn1 qc1, .bool qs2, .slice qo2 qn2 qc2, .bool qs3, .slice qo3 qn3 qc3] 43)) := (Below.refl _ _).alloc (Nat.le_refl _) _
      have Xq := Blk.new w4 [.bool qs1, .slice qo1 qn1 qc1, .bool qs2, .slice qo2 qn2 qc2, .bool qs3, .slice qo3 qn3 qc3] 43 rfl
      replace Xp := Xp.alloc (.cells #[.bool qs1, .slice qo1 qn1 qc1, .bool qs2, .slice qo2 qn2 qc2, .bool qs3, .slice qo3 qn3 qc3] 43)
      replace T0 := T0.alloc (.cells #[.bool qs1, .slice qo1 qn1 qc1, .bool qs2, .slice qo2 qn2 qc2, .bool qs3, .slice qo3 qn3 qc3] 43)
      replace Np1 := Np1.below hA; replace Np2 := Np2.below hA; replace Np3 := Np3.below hA; replace Nq1 := Nq1.below hA; replace Nq2 := Nq2.below hA; replace Nq3 := Nq3.below hA
      clear hA
      clear hB g0 g1 g2 g3 F2
      have Y0 : Blk _ (w.heap.size + 1) _ := T0.b 1 rfl; have q0 := Y0.c 0 rfl; have q1 := Y0.c 1 rfl; have q2 := Y0.c 2 rfl; have q3 := Y0.c 3 rfl; have q4 := Y0.c 4 rfl; have q5 := Y0.c 5 rfl; have q6 := Y0.c 6 rfl; have q7 := Y0.c 7 rfl; have q8 := Y0.c 8 rfl; have q9 := Y0.c 9 rfl; have q10 := Y0.c 10 rfl; have q11 := Y0.c 11 rfl; have ql := Y0.lt; clear Y0
      go_wp2_with fail
      refine (F3 _).mono ?_
      rintro e w5 ⟨rs1, ro1, rn1, rc1, rd1, rs2, ro2, rn2, rc2, rd2, rs3, ro3, rn3, rc3, rd3, rfl, Nr1, Nr2, Nr3, hB⟩
      replace T0 := T0.step hB
      replace Xp := Xp.step hB
      replace Xq := Xq.step hB
      replace Np1 := Np1.below hB; replace Np2 := Np2.below hB; replace Np3 := Np3.below hB; replace Nq1 := Nq1.below hB; replace Nq2 := Nq2.below hB; replace Nq3 := Nq3.below hB
      have hA : Below w5.heap.size w5 (w5.alloc (.cells #[.bool rs1, .slice ro1 rn1 rc1, .bool rs2, .slice ro2 rn2 rc2, .bool rs3, .slice ro3 rn3 rc3] 43)) := (Below.refl _ _).alloc (Nat.le_refl _) _
      have Xr := Blk.new w5 [.bool rs1, .slice ro1 rn1 rc1, .bool rs2, .slice ro2 rn2 rc2, .bool rs3, .slice ro3 rn3 rc3] 43 rfl
      replace Xp := Xp.alloc (.cells #[.bool rs1, .slice ro1 rn1 rc1, .bool rs2, .slice ro2 rn2 rc2, .bool rs3, .slice ro3 rn3 rc3] 43)
      replace Xq := Xq.alloc (.cells #[.bool rs1, .slice ro1 rn1 rc1, .bool rs2, .slice ro2 rn2 rc2, .bool rs3, .slice ro3 rn3 rc3] 43)
      replace T0 := T0.alloc (.cells #[.bool rs1, .slice ro1 rn1 rc1, .bool rs2, .slice ro2 rn2 rc2, .bool rs3, .slice ro3 rn3 rc3] 43)
      replace Np1 := Np1.below hA; replace Np2 := Np2.below hA; replace Np3 := Np3.below hA; replace Nq1 := Nq1.below hA; replace Nq2 := Nq2.below hA; replace Nq3 := Nq3.below hA; replace Nr1 := Nr1.below hA; replace Nr2 := Nr2.below hA; replace Nr3 := Nr3.below hA
      clear hA
      clear hB q0 q1 q2 q3 q4 q5 q6 q7 q8 q9 q10 q11 ql F3
      have kp0 := Xp.c 0 rfl; have kp1 := Xp.c 1 rfl; have kp2 := Xp.c 2 rfl; have kp3 := Xp.c 3 rfl; have kp4 := Xp.c 4 rfl; have kp5 := Xp.c 5 rfl; have kq0 := Xq.c 0 rfl; have kq1 := Xq.c 1 rfl; have kq2 := Xq.c 2 rfl; have kq3 := Xq.c 3 rfl; have kq4 := Xq.c 4 rfl; have kq5 := Xq.c 5 rfl; have kr0 := Xr.c 0 rfl; have kr1 := Xr.c 1 rfl; have kr2 := Xr.c 2 rfl; have kr3 := Xr.c 3 rfl; have kr4 := Xr.c 4 rfl; have kr5 := Xr.c 5 rfl
      go_wp2_with fail
      generalize w5.alloc (.cells #[.bool rs1, .slice ro1 rn1 rc1, .bool rs2, .slice ro2 rn2 rc2, .bool rs3, .slice ro3 rn3 rc3] 43) = W5 at *
      generalize w5.heap.size = g5 at *
      generalize w4.heap.size = g4 at *
      generalize w3.heap.size = g3 at *
      refine (l3CmpX_any rs1 rs2 rs3 ro1 ro2 ro3 rn1 rc1 rn2 rc2 rn3 rc3 ps1 ps2 ps3 po1 po2 po3 pn1 pc1 pn2 pc2 pn3 pc3 rd1 rd3 pd1 pd3 x z a 1 8 (by omega) _ Nr1 Nr3 Np1 Np3).mono ?_
      rintro e w6 ⟨rfl, hB⟩
      replace T0 := T0.step hB; replace Xp := Xp.step hB; replace Xq := Xq.step hB; replace Xr := Xr.step hB
      replace Np1 := Np1.below hB; replace Np2 := Np2.below hB; replace Np3 := Np3.below hB; replace Nq1 := Nq1.below hB; replace Nq2 := Nq2.below hB; replace Nq3 := Nq3.below hB; replace Nr1 := Nr1.below hB; replace Nr2 := Nr2.below hB; replace Nr3 := Nr3.below hB
      clear hB kp0 kp1 kp2 kp3 kp4 kp5 kq0 kq1 kq2 kq3 kq4 kq5 kr0 kr1 kr2 kr3 kr4 kr5
      have KX2 := fun w N1 N3 M1 M3 => l3CmpX_any rs1 rs2 rs3 ro1 ro2 ro3 rn1 rc1 rn2 rc2 rn3 rc3 qs1 qs2 qs3 qo1 qo2 qo3 qn1 qc1 qn2 qc2 qn3 qc3 rd1 rd3 qd1 qd3 x z c 1 8 (by omega) w N1 N3 M1 M3
      have KY1 := fun w N1 N3 M1 M3 => l3CmpY_any rs1 rs2 rs3 ro1 ro2 ro3 rn1 rc1 rn2 rc2 rn3 rc3 ps1 ps2 ps3 po1 po2 po3 pn1 pc1 pn2 pc2 pn3 pc3 rd2 rd3 pd2 pd3 y z b 1 8 (by omega) w N1 N3 M1 M3
      have KY2 := fun w N1 N3 M1 M3 => l3CmpY_any rs1 rs2 rs3 ro1 ro2 ro3 rn1 rc1 rn2 rc2 rn3 rc3 qs1 qs2 qs3 qo1 qo2 qo3 qn1 qc1 qn2 qc2 qn3 qc3 rd2 rd3 qd2 qd3 y z d 1 8 (by omega) w N1 N3 M1 M3
      have KO := fun w N1 N2 N3 M1 M2 M3 O1 O2 O3 => l3Orient_any ps1 ps2 ps3 po1 po2 po3 pn1 pc1 pn2 pc2 pn3 pc3 qs1 qs2 qs3 qo1 qo2 qo3 qn1 qc1 qn2 qc2 qn3 qc3 rs1 rs2 rs3 ro1 ro2 ro3 rn1 rc1 rn2 rc2 rn3 rc3 pd1 pd2 pd3 qd1 qd2 qd3 rd1 rd2 rd3 a b 1 c d 1 x y z 8 (by omega) w N1 N2 N3 M1 M2 M3 O1 O2 O3
      generalize cmpI (x * 1) (a * z) = o1 at *
      generalize cmpI (x * 1) (c * z) = o2 at *
      generalize turnI a b 1 c d 1 x y z = o3 at *
      generalize cmpI (y * 1) (b * z) = o4 at *
      generalize cmpI (y * 1) (d * z) = o5 at *
      by_cases h1 : o1 < 0
      · have HO : Hid (J = 2) := by show _ = _; rw [HJ.out, if_pos (show o1 < 0 by omega)]
        have HB := T0.below
        clear T0 Xp Xq Xr Np1 Np2 Np3 Nq1 Nq2 Nq3 Nr1 Nr2 Nr3
        go_wp2
        go_ret
        exact ⟨by rw [HO.out]; rfl, HB⟩
      · have K1 : Hid (¬ o1 < 0) := h1
        have kp0 := Xp.c 0 rfl; have kp1 := Xp.c 1 rfl; have kp2 := Xp.c 2 rfl; have kp3 := Xp.c 3 rfl; have kp4 := Xp.c 4 rfl; have kp5 := Xp.c 5 rfl; have kq0 := Xq.c 0 rfl; have kq1 := Xq.c 1 rfl; have kq2 := Xq.c 2 rfl; have kq3 := Xq.c 3 rfl; have kq4 := Xq.c 4 rfl; have kq5 := Xq.c 5 rfl; have kr0 := Xr.c 0 rfl; have kr1 := Xr.c 1 rfl; have kr2 := Xr.c 2 rfl; have kr3 := Xr.c 3 rfl; have kr4 := Xr.c 4 rfl; have kr5 := Xr.c 5 rfl
        go_wp2_with fail
        refine (KX2 _ Nr1 Nr3 Nq1 Nq3).mono ?_
        rintro e w7 ⟨rfl, hB⟩
        replace T0 := T0.step hB; replace Xp := Xp.step hB; replace Xq := Xq.step hB; replace Xr := Xr.step hB
        replace Np1 := Np1.below hB; replace Np2 := Np2.below hB; replace Np3 := Np3.below hB; replace Nq1 := Nq1.below hB; replace Nq2 := Nq2.below hB; replace Nq3 := Nq3.below hB; replace Nr1 := Nr1.below hB; replace Nr2 := Nr2.below hB; replace Nr3 := Nr3.below hB
        clear hB kp0 kp1 kp2 kp3 kp4 kp5 kq0 kq1 kq2 kq3 kq4 kq5 kr0 kr1 kr2 kr3 kr4 kr5
        by_cases h2 : o2 > 0
        · have HO : Hid (J = 2) := by show _ = _; rw [HJ.out, if_neg (show ¬ o1 < 0 by have := K1.out; omega), if_pos (show o2 > 0 by omega)]
          have HB := T0.below
          clear T0 Xp Xq Xr Np1 Np2 Np3 Nq1 Nq2 Nq3 Nr1 Nr2 Nr3
          go_wp2
          go_ret
          exact ⟨by rw [HO.out]; rfl, HB⟩
        · have K2 : Hid (¬ o2 > 0) := h2
          have Y1 : Blk _ w.heap.size _ := T0.b 0 rfl; have g0 := Y1.c 0 rfl; have g1 := Y1.c 1 rfl; have g2 := Y1.c 2 rfl; have g3 := Y1.c 3 rfl; clear Y1
          by_cases h3 : a < c
          · have HO : Hid (J = -o3) := by show _ = _; rw [HJ.out, if_neg (show ¬ o1 < 0 by have := K1.out; omega), if_neg (show ¬ o2 > 0 by have := K2.out; omega), if_pos (show a < c by omega)]
            have h3' : ¬ a = c := by omega
            have h3b : (a == c) = false := by simpa using h3'
            have kp0 := Xp.c 0 rfl; have kp1 := Xp.c 1 rfl; have kp2 := Xp.c 2 rfl; have kp3 := Xp.c 3 rfl; have kp4 := Xp.c 4 rfl; have kp5 := Xp.c 5 rfl; have kq0 := Xq.c 0 rfl; have kq1 := Xq.c 1 rfl; have kq2 := Xq.c 2 rfl; have kq3 := Xq.c 3 rfl; have kq4 := Xq.c 4 rfl; have kq5 := Xq.c 5 rfl; have kr0 := Xr.c 0 rfl; have kr1 := Xr.c 1 rfl; have kr2 := Xr.c 2 rfl; have kr3 := Xr.c 3 rfl; have kr4 := Xr.c 4 rfl; have kr5 := Xr.c 5 rfl
            go_wp2_with fail
            refine (KO _ Np1 Np2 Np3 Nq1 Nq2 Nq3 Nr1 Nr2 Nr3).mono ?_
            rintro e w8 ⟨rfl, hB⟩
            replace T0 := T0.step hB; replace Xp := Xp.step hB; replace Xq := Xq.step hB; replace Xr := Xr.step hB
            replace Np1 := Np1.below hB; replace Np2 := Np2.below hB; replace Np3 := Np3.below hB; replace Nq1 := Nq1.below hB; replace Nq2 := Nq2.below hB; replace Nq3 := Nq3.below hB; replace Nr1 := Nr1.below hB; replace Nr2 := Nr2.below hB; replace Nr3 := Nr3.below hB
            clear hB kp0 kp1 kp2 kp3 kp4 kp5 kq0 kq1 kq2 kq3 kq4 kq5 kr0 kr1 kr2 kr3 kr4 kr5
            have n1 : -1 ≤ o3 := by omega
            have n2 : o3 ≤ 1 := by omega
            clear g0 g1 g2 g3
            have HB := T0.below
            clear T0 Xp Xq Xr Np1 Np2 Np3 Nq1 Nq2 Nq3 Nr1 Nr2 Nr3
            go_wp2
            go_ret
            exact ⟨by rw [HO.out]; rfl, HB⟩
          · have K3 : Hid (¬ a < c) := h3
            obtain rfl : a = c := by omega
            have kp0 := Xp.c 0 rfl; have kp1 := Xp.c 1 rfl; have kp2 := Xp.c 2 rfl; have kp3 := Xp.c 3 rfl; have kp4 := Xp.c 4 rfl; have kp5 := Xp.c 5 rfl; have kq0 := Xq.c 0 rfl; have kq1 := Xq.c 1 rfl; have kq2 := Xq.c 2 rfl; have kq3 := Xq.c 3 rfl; have kq4 := Xq.c 4 rfl; have kq5 := Xq.c 5 rfl; have kr0 := Xr.c 0 rfl; have kr1 := Xr.c 1 rfl; have kr2 := Xr.c 2 rfl; have kr3 := Xr.c 3 rfl; have kr4 := Xr.c 4 rfl; have kr5 := Xr.c 5 rfl
            go_wp2_with fail
            refine (KY1 _ Nr2 Nr3 Np2 Np3).mono ?_
            rintro e w8 ⟨rfl, hB⟩
            replace T0 := T0.step hB; replace Xp := Xp.step hB; replace Xq := Xq.step hB; replace Xr := Xr.step hB
            replace Np1 := Np1.below hB; replace Np2 := Np2.below hB; replace Np3 := Np3.below hB; replace Nq1 := Nq1.below hB; replace Nq2 := Nq2.below hB; replace Nq3 := Nq3.below hB; replace Nr1 := Nr1.below hB; replace Nr2 := Nr2.below hB; replace Nr3 := Nr3.below hB
            clear hB kp0 kp1 kp2 kp3 kp4 kp5 kq0 kq1 kq2 kq3 kq4 kq5 kr0 kr1 kr2 kr3 kr4 kr5
            by_cases h4 : o4 < 0
            · have HO : Hid (J = 1) := by show _ = _; rw [HJ.out, if_neg (show ¬ o1 < 0 by have := K1.out; omega), if_neg (show ¬ o2 > 0 by have := K2.out; omega), if_neg (show ¬ a < a by have := K3.out; omega), if_pos (show o4 < 0 by omega)]
              have HB := T0.below
              clear T0 Xp Xq Xr Np1 Np2 Np3 Nq1 Nq2 Nq3 Nr1 Nr2 Nr3
              go_wp2
              go_ret
              exact ⟨by rw [HO.out]; rfl, HB⟩
            · have K4 : Hid (¬ o4 < 0) := h4
              have kp0 := Xp.c 0 rfl; have kp1 := Xp.c 1 rfl; have kp2 := Xp.c 2 rfl; have kp3 := Xp.c 3 rfl; have kp4 := Xp.c 4 rfl; have kp5 := Xp.c 5 rfl; have kq0 := Xq.c 0 rfl; have kq1 := Xq.c 1 rfl; have kq2 := Xq.c 2 rfl; have kq3 := Xq.c 3 rfl; have kq4 := Xq.c 4 rfl; have kq5 := Xq.c 5 rfl; have kr0 := Xr.c 0 rfl; have kr1 := Xr.c 1 rfl; have kr2 := Xr.c 2 rfl; have kr3 := Xr.c 3 rfl; have kr4 := Xr.c 4 rfl; have kr5 := Xr.c 5 rfl
              go_wp2_with fail
              refine (KY2 _ Nr2 Nr3 Nq2 Nq3).mono ?_
              rintro e w9 ⟨rfl, hB⟩
              replace T0 := T0.step hB; replace Xp := Xp.step hB; replace Xq := Xq.step hB; replace Xr := Xr.step hB
              replace Np1 := Np1.below hB; replace Np2 := Np2.below hB; replace Np3 := Np3.below hB; replace Nq1 := Nq1.below hB; replace Nq2 := Nq2.below hB; replace Nq3 := Nq3.below hB; replace Nr1 := Nr1.below hB; replace Nr2 := Nr2.below hB; replace Nr3 := Nr3.below hB
              clear hB kp0 kp1 kp2 kp3 kp4 kp5 kq0 kq1 kq2 kq3 kq4 kq5 kr0 kr1 kr2 kr3 kr4 kr5
              by_cases h5 : o5 > 0
              · have HO : Hid (J = -1) := by show _ = _; rw [HJ.out, if_neg (show ¬ o1 < 0 by have := K1.out; omega), if_neg (show ¬ o2 > 0 by have := K2.out; omega), if_neg (show ¬ a < a by have := K3.out; omega), if_neg (show ¬ o4 < 0 by have := K4.out; omega), if_pos (show o5 > 0 by omega)]
                have HB := T0.below
                clear T0 Xp Xq Xr Np1 Np2 Np3 Nq1 Nq2 Nq3 Nr1 Nr2 Nr3
                go_wp2
                go_ret
                exact ⟨by rw [HO.out]; rfl, HB⟩
              · have K5 : Hid (¬ o5 > 0) := h5
                have HO : Hid (J = 0) := by show _ = _; rw [HJ.out, if_neg (show ¬ o1 < 0 by have := K1.out; omega), if_neg (show ¬ o2 > 0 by have := K2.out; omega), if_neg (show ¬ a < a by have := K3.out; omega), if_neg (show ¬ o4 < 0 by have := K4.out; omega), if_neg (show ¬ o5 > 0 by have := K5.out; omega)]
                have HB := T0.below
                clear T0 Xp Xq Xr Np1 Np2 Np3 Nq1 Nq2 Nq3 Nr1 Nr2 Nr3
                go_wp2
                go_ret
                exact ⟨by rw [HO.out]; rfl, HB⟩
    · replace hp := Bool.eq_false_iff.2 hp
      have HO : Hid (overI a b c d x y z = 2) := by show _ = _; unfold overI; rw [hs, hp]; rfl
      rw [hs] at SO
      rw [hp] at PO
      clear hs hp i1 i2 i3 i4 F3
      go_enter Tryz.func7, Tryz.ntmps7
      go_wp2_with fail
      generalize ((w.alloc (.cells #[.int .i64 a, .int .i64 b, .int .i64 c, .int .i64 d] 27)).alloc (.cells #[.int .u64 (ww3 x), .int .u64 (ww2 x), .int .u64 (ww1 x), .int .u64 (ww0 x), .int .u64 (ww3 y), .int .u64 (ww2 y), .int .u64 (ww1 y), .int .u64 (ww0 y), .int .u64 (ww3 z), .int .u64 (ww2 z), .int .u64 (ww1 z), .int .u64 (ww0 z)] 32)) = W at *
      refine (SO _).mono ?_
      rintro e w1 ⟨rfl, hB⟩
      replace T0 := T0.step hB
      clear hB SO
      have Y0 : Blk _ (w.heap.size + 1) _ := T0.b 1 rfl; have q0 := Y0.c 0 rfl; have q1 := Y0.c 1 rfl; have q2 := Y0.c 2 rfl; have q3 := Y0.c 3 rfl; have q4 := Y0.c 4 rfl; have q5 := Y0.c 5 rfl; have q6 := Y0.c 6 rfl; have q7 := Y0.c 7 rfl; have q8 := Y0.c 8 rfl; have q9 := Y0.c 9 rfl; have q10 := Y0.c 10 rfl; have q11 := Y0.c 11 rfl; have ql := Y0.lt; clear Y0
      go_wp2_with fail
      refine (PO _).mono ?_
      rintro e w2 ⟨rfl, hB⟩
      have HB := (T0.step hB).below
      clear hB PO T0 q0 q1 q2 q3 q4 q5 q6 q7 q8 q9 q10 q11 ql
      go_wp2
      go_ret
      exact ⟨by rw [HO.out]; rfl, HB⟩
  · replace hs := Bool.eq_false_iff.2 hs
    have HO : Hid (overI a b c d x y z = 2) := by show _ = _; unfold overI; rw [hs]; rfl
    rw [hs] at SO
    clear hs PO F3
    go_enter Tryz.func7, Tryz.ntmps7
    go_wp2_with fail
    generalize ((w.alloc (.cells #[.int .i64 a, .int .i64 b, .int .i64 c, .int .i64 d] 27)).alloc (.cells #[.int .u64 (ww3 x), .int .u64 (ww2 x), .int .u64 (ww1 x), .int .u64 (ww0 x), .int .u64 (ww3 y), .int .u64 (ww2 y), .int .u64 (ww1 y), .int .u64 (ww0 y), .int .u64 (ww3 z), .int .u64 (ww2 z), .int .u64 (ww1 z), .int .u64 (ww0 z)] 32)) = W at *
    refine (SO _).mono ?_
    rintro e w1 ⟨rfl, hB⟩
    have HB := (T0.step hB).below
    clear hB SO T0
    go_wp2
    go_ret
    exact ⟨by rw [HO.out]; rfl, HB⟩
end Go.Proofs.YtniccikkhddofaaGreat

/- Where a segment stands over a point, whether the point lies on it, on which side it lies: the reckoning. -/
namespace Go.Proofs.YtniccikkhddofaaGreat
open Go.RowKit
theorem cmpZ_le {x y : Int} : cmpI x y ≤ 0 ↔ x ≤ y := by unfold cmpI; repeat' split <;> omega
theorem cmpZ_lt {x y : Int} : cmpI x y < 0 ↔ x < y := by unfold cmpI; repeat' split <;> omega
theorem cmpZ_gt {x y : Int} : cmpI x y > 0 ↔ y < x := by unfold cmpI; repeat' split <;> omega
theorem cmpZ_eq {x y : Int} : cmpI x y = 0 ↔ x = y := by unfold cmpI; repeat' split <;> omega
theorem ordZ_le (x y z u v t : Int) : ordI x y z u v t ≤ 0 ↔ x * t < u * z ∨ (x * t = u * z ∧ y * t ≤ v * z) := by
  unfold ordI
  by_cases h : cmpI (x * t) (u * z) = 0
  · rw [if_pos h, cmpZ_le]
    have := cmpZ_eq.1 h
    omega
  · rw [if_neg h, cmpZ_le]
    have : x * t ≠ u * z := fun e => h (cmpZ_eq.2 e)
    omega
theorem turn_lin (a b c d x y z : Int) : a * (d * z - 1 * y) - b * (c * z - 1 * x) + 1 * (c * y - d * x) = (c - a) * (y - b * z) - (d - b) * (x - a * z) := by grind
theorem turn_zero {a b c d x y z : Int} : turnI a b 1 c d 1 x y z = 0 ↔ (c - a) * (y - b * z) = (d - b) * (x - a * z) := by
  unfold turnI
  rw [cmpZ_eq, turn_lin]
  omega
theorem seg_less {a b c d : Int} (h : segOk a b c d = true) : a < c ∨ (a = c ∧ b < d) := by
  unfold segOk lessI at h
  simp only [Bool.and_eq_true, decide_eq_true_eq] at h
  exact h.2
theorem btw_seg {a b c d x y z : Int} (h : a < c ∨ (a = c ∧ b < d)) : btwS a b 1 c d 1 x y z = (decide (ordI a b 1 x y z ≤ 0) && decide (ordI x y z c d 1 ≤ 0) && decide (turnI a b 1 c d 1 x y z = 0)) := by
  have h0 : ¬ 0 < ordI a b 1 c d 1 := by
    have := (ordZ_le a b 1 c d 1).2 (by omega)
    omega
  unfold btwS
  rw [if_neg h0]
theorem prod_zero {p q : Int} (hp : p ≠ 0) (h : p * q = 0) : q = 0 := by
  rcases Int.mul_eq_zero.1 h with h' | h'
  · exact absurd h' hp
  · exact h'
theorem over_zero {a b c d x y z : Int} (h : a < c ∨ (a = c ∧ b < d)) : overJ a b c d x y z = 0 ↔ (ordI a b 1 x y z ≤ 0 ∧ ordI x y z c d 1 ≤ 0 ∧ turnI a b 1 c d 1 x y z = 0) := by
  rw [ordZ_le, ordZ_le]
  simp only [Int.mul_one]
  unfold overJ
  simp only [cmpZ_lt, cmpZ_gt, Int.mul_one]
  by_cases h1 : x < a * z
  · rw [if_pos h1]
    omega
  by_cases h2 : c * z < x
  · rw [if_neg h1, if_pos h2]
    omega
  rw [if_neg h1, if_neg h2]
  rcases h with h | ⟨h, h'⟩
  · rw [if_pos h]
    constructor
    · intro ht
      have ht' : turnI a b 1 c d 1 x y z = 0 := by omega
      have e := turn_zero.1 ht'
      refine ⟨?_, ?_, ht'⟩
      · by_cases hx : x = a * z
        · refine Or.inr ⟨hx.symm, ?_⟩
          rw [hx] at e
          have e2 : (c - a) * (y - b * z) = 0 := by rw [e]; simp
          have := prod_zero (by omega) e2
          omega
        · exact Or.inl (by omega)
      · by_cases hx : x = c * z
        · refine Or.inr ⟨hx, ?_⟩
          rw [hx] at e
          have e2 : (c - a) * (y - d * z) = 0 := by
            have : (c - a) * (y - d * z) = (c - a) * (y - b * z) - (d - b) * (c * z - a * z) := by grind
            omega
          have := prod_zero (by omega) e2
          omega
        · exact Or.inl (by omega)
    · rintro ⟨-, -, ht⟩
      omega
  · subst h
    rw [if_neg (by omega)]
    have hx : x = a * z := by omega
    have ht : turnI a b 1 a d 1 x y z = 0 := by
      rw [turn_zero, hx]
      simp
    by_cases h3 : y < b * z
    · rw [if_pos h3]
      omega
    by_cases h4 : d * z < y
    · rw [if_neg h3, if_pos h4]
      omega
    rw [if_neg h3, if_neg h4]
    constructor
    · intro _
      exact ⟨Or.inr ⟨by omega, by omega⟩, Or.inr ⟨by omega, by omega⟩, ht⟩
    · intro _
      rfl
theorem over_on (a b c d x y z : Int) : (overI a b c d x y z == 0) = onI a b c d x y z := by
  unfold overI onI
  by_cases h : (segOk a b c d && ptB x y z) = true
  · rw [if_pos h, h]
    simp only [Bool.and_eq_true] at h
    have hl := seg_less h.1
    rw [btw_seg hl, Bool.true_and, Bool.eq_iff_iff]
    simp only [beq_iff_eq, Bool.and_eq_true, decide_eq_true_eq]
    rw [over_zero hl]
    constructor
    · rintro ⟨p, q, r⟩
      exact ⟨⟨p, q⟩, r⟩
    · rintro ⟨⟨p, q⟩, r⟩
      exact ⟨p, q, r⟩
  · rw [if_neg h, Bool.eq_false_iff.2 h]
    rfl
theorem over_side {a b c d x y z : Int} (h2 : overI a b c d x y z ≠ 2) (hac : a ≠ c) : overI a b c d x y z = -sideI a b c d x y z := by
  unfold overI at h2 ⊢
  unfold sideI
  by_cases h : (segOk a b c d && ptB x y z) = true
  · rw [if_pos h] at h2 ⊢
    rw [if_pos h]
    simp only [Bool.and_eq_true] at h
    have hl := seg_less h.1
    unfold overJ at h2 ⊢
    by_cases h3 : cmpI (x * 1) (a * z) < 0
    · rw [if_pos h3] at h2; exact absurd rfl h2
    rw [if_neg h3] at h2 ⊢
    by_cases h4 : cmpI (x * 1) (c * z) > 0
    · rw [if_pos h4] at h2; exact absurd rfl h2
    rw [if_neg h4, if_pos (by omega)]
  · rw [if_neg h] at h2
    exact absurd rfl h2
theorem side_in (a b c d x y z : Int) : -1 ≤ sideI a b c d x y z ∧ sideI a b c d x y z ≤ 1 := by
  unfold sideI turnI cmpI
  repeat' split
  all_goals omega
theorem over_in (a b c d x y z : Int) : -1 ≤ overI a b c d x y z ∧ overI a b c d x y z ≤ 2 := by
  unfold overI overJ
  have := cmpI_in
  have ht : -1 ≤ turnI a b 1 c d 1 x y z ∧ turnI a b 1 c d 1 x y z ≤ 1 := by
    unfold turnI cmpI
    repeat' split
    all_goals omega
  generalize turnI a b 1 c d 1 x y z = t at *
  repeat' split
  all_goals omega
end Go.Proofs.YtniccikkhddofaaGreat
