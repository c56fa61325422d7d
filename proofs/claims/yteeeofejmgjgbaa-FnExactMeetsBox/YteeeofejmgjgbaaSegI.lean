/- Whether a segment meets a box: the walk of the program. -/
import Derived.Test.YteeeofejmgjgbaaSegH
namespace Go.Proofs.Yteeeofejmgjgbaa
open Go.RowKit
set_option maxRecDepth 100000 in
set_option maxHeartbeats 2000000 in
theorem isBox_any (x y u v : Int) (w : World) : Calls Try.prog 12 #[Sp x y, Sp u v] w (BoolP (boxOk x y u v) w) := by
  have B0 := (Blk.new w [.int .i64 x, .int .i64 y] 27 rfl).alloc (.cells #[.int .i64 u, .int .i64 v] 27)
  have B1 := Blk.new (w.alloc (.cells #[.int .i64 x, .int .i64 y] 27)) [.int .i64 u, .int .i64 v] 27 (g := w.heap.size + 1) (by simp)
  have HB : Below w.heap.size w ((w.alloc (.cells #[.int .i64 x, .int .i64 y] 27)).alloc (.cells #[.int .i64 u, .int .i64 v] 27)) := ((Below.refl _ w).alloc (Nat.le_refl _) _).alloc (by simp) _
  go_enter Try.func12, Try.ntmps12
  go_upto_region 1 with fail
  generalize ((w.alloc (.cells #[.int .i64 x, .int .i64 y] 27)).alloc (.cells #[.int .i64 u, .int .i64 v] 27)) = W at *
  have b0 := B0.c 0 rfl; have b1 := B0.c 1 rfl; have c0 := B1.c 0 rfl; have c1 := B1.c 1 rfl
  by_cases h2 : spotOk x y = true
  · by_cases h3 : spotOk u v = true
    · skip
      go_wp2_with fail
      refine (implSpotOk_any _ _ true h2 _).mono ?_
      rintro e w1 ⟨rfl, hB⟩
      replace B0 := B0.step hB; replace B1 := B1.step hB; replace HB := HB.trans (hB.mono HB.size)
      clear hB
      clear b0 b1 c0 c1
      have b0 := B0.c 0 rfl; have b1 := B0.c 1 rfl; have c0 := B1.c 0 rfl; have c1 := B1.c 1 rfl
      go_wp2_with fail
      refine (implSpotOk_any _ _ true h3 _).mono ?_
      rintro e w2 ⟨rfl, hB⟩
      replace B0 := B0.step hB; replace B1 := B1.step hB; replace HB := HB.trans (hB.mono HB.size)
      clear hB
      clear b0 b1 c0 c1
      have b0 := B0.c 0 rfl; have b1 := B0.c 1 rfl; have c0 := B1.c 0 rfl; have c1 := B1.c 1 rfl
      by_cases h4 : x ≤ u
      · have HO : Hid (boxOk x y u v = decide (y ≤ v)) := by show _ = _; simp [boxOk, h2, h3, h4]
        clear h2 h3
        go_wp2
        all_goals go_ret
        all_goals exact ⟨ret_bool (by rw [HO.out]), HB⟩
      · have HO : Hid (boxOk x y u v = false) := by show _ = _; simp [boxOk, h4]
        have h4' : u < x := by omega
        clear h2 h3 h4
        go_wp2
        all_goals go_ret
        all_goals exact ⟨ret_bool (by rw [HO.out]), HB⟩
    · have h3 := Bool.eq_false_iff.2 h3
      have HO : Hid (boxOk x y u v = false) := by show _ = _; simp [boxOk, h3]
      go_wp2_with fail
      refine (implSpotOk_any _ _ true h2 _).mono ?_
      rintro e w1 ⟨rfl, hB⟩
      replace B0 := B0.step hB; replace B1 := B1.step hB; replace HB := HB.trans (hB.mono HB.size)
      clear hB
      clear b0 b1 c0 c1
      have b0 := B0.c 0 rfl; have b1 := B0.c 1 rfl; have c0 := B1.c 0 rfl; have c1 := B1.c 1 rfl
      go_wp2_with fail
      refine (implSpotOk_any _ _ false h3 _).mono ?_
      rintro e w2 ⟨rfl, hB⟩
      replace B0 := B0.step hB; replace B1 := B1.step hB; replace HB := HB.trans (hB.mono HB.size)
      clear hB
      clear b0 b1 c0 c1 h2 h3
      go_wp2
      all_goals go_ret
      all_goals exact ⟨ret_bool (by rw [HO.out]), HB⟩
  · have h2 := Bool.eq_false_iff.2 h2
    have HO : Hid (boxOk x y u v = false) := by show _ = _; simp [boxOk, h2]
    go_wp2_with fail
    refine (implSpotOk_any _ _ false h2 _).mono ?_
    rintro e w1 ⟨rfl, hB⟩
    replace B0 := B0.step hB; replace B1 := B1.step hB; replace HB := HB.trans (hB.mono HB.size)
    clear hB
    clear b0 b1 c0 c1 h2
    go_wp2
    all_goals go_ret
    all_goals exact ⟨ret_bool (by rw [HO.out]), HB⟩
set_option maxRecDepth 100000 in
set_option maxHeartbeats 2000000 in
theorem meetsBox_any (a b c d x y u v : Int) (ha : In6 a) (hb : In6 b) (hc : In6 c) (hd : In6 d) (hx : In6 x) (hy : In6 y) (hu : In6 u) (hv : In6 v) (w : World) : Calls Try.prog 13 #[Sg a b c d, Sp x y, Sp u v] w (BoolP (!boxOut a b c d x y u v && (lefts [turnI a b c d x y, turnI a b c d u v, turnI a b c d x v, turnI a b c d u y] 4 && rights [turnI a b c d x y, turnI a b c d u v, turnI a b c d x v, turnI a b c d u y] 4)) w) := by
  have T0 := box_start a b c d x y u v w 29 27 27
  go_enter Try.func13, Try.ntmps13
  go_upto_region 1 with fail
  generalize (((w.alloc (.cells #[.int .i64 a, .int .i64 b, .int .i64 c, .int .i64 d] 29)).alloc (.cells #[.int .i64 x, .int .i64 y] 27)).alloc (.cells #[.int .i64 u, .int .i64 v] 27)) = W at *
  have a0 := (T0.b 0 rfl).c 0 rfl; have a1 := (T0.b 0 rfl).c 1 rfl; have a2 := (T0.b 0 rfl).c 2 rfl; have a3 := (T0.b 0 rfl).c 3 rfl; have b0 := (T0.b 1 rfl).c 0 rfl; have b1 := (T0.b 1 rfl).c 1 rfl; have c0 := (T0.b 2 rfl).c 0 rfl; have c1 := (T0.b 2 rfl).c 1 rfl; have alt := (T0.b 2 rfl).lt; simp only [Nat.add_zero] at a0 a1 a2 a3
  go_cut [44] (fun q wx => q = .bool (boxOut a b c d x y u v) ∧ ArgsB w wx [[.int .i64 a, .int .i64 b, .int .i64 c, .int .i64 d], [.int .i64 x, .int .i64 y], [.int .i64 u, .int .i64 v]])
  case first =>
    go_wp2
    all_goals go_meet
    all_goals refine ⟨?_, T0⟩
    all_goals (apply congrArg Value.bool; unfold boxOut; rw [Bool.eq_iff_iff]; simp; try omega)
  case rest =>
    clear a0 a1 a2 a3 b0 b1 c0 c1 alt T0
    obtain ⟨hq, T0⟩ := hcut
    subst hq
    have a0 := (T0.b 0 rfl).c 0 rfl; have a1 := (T0.b 0 rfl).c 1 rfl; have a2 := (T0.b 0 rfl).c 2 rfl; have a3 := (T0.b 0 rfl).c 3 rfl; have b0 := (T0.b 1 rfl).c 0 rfl; have b1 := (T0.b 1 rfl).c 1 rfl; have c0 := (T0.b 2 rfl).c 0 rfl; have c1 := (T0.b 2 rfl).c 1 rfl; have alt := (T0.b 2 rfl).lt; simp only [Nat.add_zero] at a0 a1 a2 a3
    obtain ⟨M, hM⟩ : ∃ M, boxOut a b c d x y u v = M := ⟨_, rfl⟩
    rw [hM]
    cases M
    · go_wp2_with fail
      refine (parts_any a b c d x y u v x v u y ha hb hc hd hx hy hu hv hx hv hu hy wc.heap.size _ (Blk.new wc [.int .i64 x, .int .i64 y, .int .i64 u, .int .i64 v, .int .i64 x, .int .i64 v, .int .i64 u, .int .i64 y] 27 rfl)).mono ?_
      rintro e w4 ⟨rfl, hB⟩
      have HB : Below w.heap.size w w4 := (T0.alloc _).below.trans (hB.mono (T0.alloc _).below.size)
      clear hB a0 a1 a2 a3 b0 b1 c0 c1 alt T0
      go_wp2
      go_ret
      exact ⟨ret_bool (by simp [hM]), HB⟩
    · have HBF := T0.below
      clear a0 a1 a2 a3 b0 b1 c0 c1 alt T0
      go_wp2
      go_ret
      exact ⟨ret_bool (by simp [hM]), HBF⟩
set_option maxRecDepth 100000 in
set_option maxHeartbeats 2000000 in
theorem implMeetsBox_any (a b c d x y u v : Int) (z : Bool) (hz : meetsB a b c d x y u v = z) (w : World) : Calls Try.prog 7 #[Sg a b c d, Sp x y, Sp u v] w (BoolP z w) := by
  have T0 := box_start a b c d x y u v w 29 27 27
  go_enter Try.func7, Try.ntmps7
  go_upto_region 1 with fail
  generalize (((w.alloc (.cells #[.int .i64 a, .int .i64 b, .int .i64 c, .int .i64 d] 29)).alloc (.cells #[.int .i64 x, .int .i64 y] 27)).alloc (.cells #[.int .i64 u, .int .i64 v] 27)) = W at *
  have a0 := (T0.b 0 rfl).c 0 rfl; have a1 := (T0.b 0 rfl).c 1 rfl; have a2 := (T0.b 0 rfl).c 2 rfl; have a3 := (T0.b 0 rfl).c 3 rfl; have b0 := (T0.b 1 rfl).c 0 rfl; have b1 := (T0.b 1 rfl).c 1 rfl; have c0 := (T0.b 2 rfl).c 0 rfl; have c1 := (T0.b 2 rfl).c 1 rfl; have alt := (T0.b 2 rfl).lt; simp only [Nat.add_zero] at a0 a1 a2 a3
  by_cases h1 : segOk a b c d = true
  · go_wp2_with fail
    refine (implSegOk_any _ _ _ _ true h1 _).mono ?_
    rintro e w1 ⟨rfl, hB⟩
    replace T0 := T0.step hB
    clear hB a0 a1 a2 a3 b0 b1 c0 c1 alt
    have a0 := (T0.b 0 rfl).c 0 rfl; have a1 := (T0.b 0 rfl).c 1 rfl; have a2 := (T0.b 0 rfl).c 2 rfl; have a3 := (T0.b 0 rfl).c 3 rfl; have b0 := (T0.b 1 rfl).c 0 rfl; have b1 := (T0.b 1 rfl).c 1 rfl; have c0 := (T0.b 2 rfl).c 0 rfl; have c1 := (T0.b 2 rfl).c 1 rfl; have alt := (T0.b 2 rfl).lt; simp only [Nat.add_zero] at a0 a1 a2 a3
    have IB := isBox_any x y u v
    by_cases h2 : boxOk x y u v = true
    · rw [h2] at IB
      go_wp2_with fail
      refine (IB _).mono ?_
      rintro e w2 ⟨rfl, hB⟩
      replace T0 := T0.step hB
      clear hB a0 a1 a2 a3 b0 b1 c0 c1 alt IB
      have a0 := (T0.b 0 rfl).c 0 rfl; have a1 := (T0.b 0 rfl).c 1 rfl; have a2 := (T0.b 0 rfl).c 2 rfl; have a3 := (T0.b 0 rfl).c 3 rfl; have b0 := (T0.b 1 rfl).c 0 rfl; have b1 := (T0.b 1 rfl).c 1 rfl; have c0 := (T0.b 2 rfl).c 0 rfl; have c1 := (T0.b 2 rfl).c 1 rfl; have alt := (T0.b 2 rfl).lt; simp only [Nat.add_zero] at a0 a1 a2 a3
      have s12 : spotOk x y = true ∧ spotOk u v = true := by
        have := h2
        simp only [boxOk, Bool.and_eq_true] at this
        exact ⟨this.1.1.1, this.1.1.2⟩
      obtain ⟨s1, s2⟩ := spots_of_seg h1
      obtain ⟨ha, hb⟩ := in6_of_spot s1
      obtain ⟨hc, hd⟩ := in6_of_spot s2
      obtain ⟨hx, hy⟩ := in6_of_spot s12.1
      obtain ⟨hu, hv⟩ := in6_of_spot s12.2
      have HO : Hid (z = (!boxOut a b c d x y u v && (lefts [turnI a b c d x y, turnI a b c d u v, turnI a b c d x v, turnI a b c d u y] 4 && rights [turnI a b c d x y, turnI a b c d u v, turnI a b c d x v, turnI a b c d u y] 4))) := by show _ = _; rw [← hz]; simp only [meetsB, h1, h2, Bool.true_and]
      have MB := meetsBox_any a b c d x y u v ha hb hc hd hx hy hu hv
      clear ha hb hc hd hx hy hu hv s1 s2 s12 h1 h2 hz
      generalize (!boxOut a b c d x y u v && (lefts [turnI a b c d x y, turnI a b c d u v, turnI a b c d x v, turnI a b c d u y] 4 && rights [turnI a b c d x y, turnI a b c d u v, turnI a b c d x v, turnI a b c d u y] 4)) = m at *
      go_wp2_with fail
      refine (MB _).mono ?_
      rintro e w3 ⟨rfl, hB⟩
      replace T0 := T0.step hB
      clear hB a0 a1 a2 a3 b0 b1 c0 c1 alt MB
      have HBF := T0.below
      clear T0
      go_wp2
      go_ret
      exact ⟨ret_bool HO.out, HBF⟩
    · have h2 := Bool.eq_false_iff.2 h2
      rw [h2] at IB
      have HO : Hid (z = false) := by show _ = _; rw [← hz]; simp [meetsB, h2]
      go_wp2_with fail
      refine (IB _).mono ?_
      rintro e w2 ⟨rfl, hB⟩
      replace T0 := T0.step hB
      have HBF := T0.below
      clear hB a0 a1 a2 a3 b0 b1 c0 c1 alt IB T0
      go_wp2
      go_ret
      exact ⟨ret_bool (by rw [HO.out]), HBF⟩
  · have h1 := Bool.eq_false_iff.2 h1
    have HO : Hid (z = false) := by show _ = _; rw [← hz]; simp [meetsB, h1]
    go_wp2_with fail
    refine (implSegOk_any _ _ _ _ false h1 _).mono ?_
    rintro e w1 ⟨rfl, hB⟩
    replace T0 := T0.step hB
    have HBF := T0.below
    clear hB a0 a1 a2 a3 b0 b1 c0 c1 alt T0
    go_wp2
    go_ret
    exact ⟨ret_bool (by rw [HO.out]), HBF⟩
end Go.Proofs.Yteeeofejmgjgbaa
