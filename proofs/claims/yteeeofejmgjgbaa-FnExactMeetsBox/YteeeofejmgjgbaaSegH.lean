/- Whether a segment meets a box: the walks of the program and of the model, and of the law. -/
import Derived.Test.YteeeofejmgjgbaaSegG
namespace Go.Proofs.Yteeeofejmgjgbaa
open Go.RowKit
def boxOk (x y u v : Int) : Bool := spotOk x y && spotOk u v && decide (x ≤ u) && decide (y ≤ v)
def meetsB (a b c d x y u v : Int) : Bool := segOk a b c d && boxOk x y u v && (!boxOut a b c d x y u v && (lefts [turnI a b c d x y, turnI a b c d u v, turnI a b c d x v, turnI a b c d u y] 4 && rights [turnI a b c d x y, turnI a b c d u v, turnI a b c d x v, turnI a b c d u y] 4))
theorem in6_of_spot {x y : Int} (h : spotOk x y = true) : In6 x ∧ In6 y := by
  unfold spotOk at h
  simp at h
  exact ⟨⟨by omega, by omega⟩, ⟨by omega, by omega⟩⟩
theorem spots_of_seg {a b c d : Int} (h : segOk a b c d = true) : spotOk a b = true ∧ spotOk c d = true := by
  unfold segOk at h
  simp at h
  exact ⟨h.1.1, h.1.2⟩
set_option maxRecDepth 100000 in
set_option maxHeartbeats 1000000 in
theorem l4Box_any (x y u v : Int) (z : Bool) (hz : boxOk x y u v = z) (w : World) : Calls Try.prog 9 #[Sp x y, Sp u v] w (BoolP z w) := by
  have B0 := (Blk.new w [.int .i64 x, .int .i64 y] 27 rfl).alloc (.cells #[.int .i64 u, .int .i64 v] 27)
  have B1 := Blk.new (w.alloc (.cells #[.int .i64 x, .int .i64 y] 27)) [.int .i64 u, .int .i64 v] 27 (g := w.heap.size + 1) (by simp)
  have HB0 := ((Below.refl _ w).alloc (Nat.le_refl _) (.cells #[.int .i64 x, .int .i64 y] 27)).alloc (by simp) (.cells #[.int .i64 u, .int .i64 v] 27)
  by_cases h1 : spotOk x y = true
  · by_cases h2 : spotOk u v = true
    · go_enter Try.func9, Try.ntmps9
      go_wp2_with fail
      refine (specSpotOk_any _ _ true h1 _).mono ?_
      rintro e w1 ⟨rfl, hB⟩
      replace B0 := B0.step hB; replace B1 := B1.step hB
      have HB : Below w.heap.size w w1 := HB0.trans (hB.mono HB0.size)
      clear hB HB0
      have p0 := B0.c 0 rfl; have p1 := B0.c 1 rfl; have q0 := B1.c 0 rfl; have q1 := B1.c 1 rfl
      go_wp2_with fail
      refine (specSpotOk_any _ _ true h2 _).mono ?_
      rintro e w2 ⟨rfl, hB⟩
      have HB2 : Below w.heap.size w w2 := HB.trans (hB.mono HB.size)
      replace B0 := B0.step hB; replace B1 := B1.step hB
      clear hB HB p0 p1 q0 q1
      have p0 := B0.c 0 rfl; have p1 := B0.c 1 rfl; have q0 := B1.c 0 rfl; have q1 := B1.c 1 rfl
      go_wp2
      all_goals go_ret
      all_goals exact ⟨ret_bool (by rw [← hz]; unfold boxOk; rw [h1, h2, Bool.eq_iff_iff]; simp; try omega), HB2⟩
    · have h2 := Bool.eq_false_iff.2 h2
      go_enter Try.func9, Try.ntmps9
      go_wp2_with fail
      refine (specSpotOk_any _ _ true h1 _).mono ?_
      rintro e w1 ⟨rfl, hB⟩
      replace B0 := B0.step hB; replace B1 := B1.step hB
      have HB : Below w.heap.size w w1 := HB0.trans (hB.mono HB0.size)
      clear hB HB0
      have p0 := B0.c 0 rfl; have p1 := B0.c 1 rfl; have q0 := B1.c 0 rfl; have q1 := B1.c 1 rfl
      go_wp2_with fail
      refine (specSpotOk_any _ _ false h2 _).mono ?_
      rintro e w2 ⟨rfl, hB⟩
      have HB2 : Below w.heap.size w w2 := HB.trans (hB.mono HB.size)
      clear hB HB p0 p1 q0 q1
      go_wp2
      go_ret
      exact ⟨ret_bool (by rw [← hz]; simp [boxOk, h1, h2]), HB2⟩
  · have h1 := Bool.eq_false_iff.2 h1
    go_enter Try.func9, Try.ntmps9
    go_wp2_with fail
    refine (specSpotOk_any _ _ false h1 _).mono ?_
    rintro e w1 ⟨rfl, hB⟩
    have HB : Below w.heap.size w w1 := HB0.trans (hB.mono HB0.size)
    clear hB HB0
    go_wp2
    go_ret
    exact ⟨ret_bool (by rw [← hz]; simp [boxOk, h1]), HB⟩
set_option maxRecDepth 100000 in
set_option maxHeartbeats 1000000 in
theorem specMeetsBox_any (a b c d x y u v : Int) (z : Bool) (hz : meetsB a b c d x y u v = z) (w : World) : Calls Try.prog 4 #[Sg a b c d, Sp x y, Sp u v] w (BoolP z w) := by
  have T0 := box_start a b c d x y u v w 29 27 27
  by_cases h1 : segOk a b c d = true
  · by_cases h2 : boxOk x y u v = true
    · obtain ⟨s1, s2⟩ := spots_of_seg h1
      obtain ⟨ha, hb⟩ := in6_of_spot s1
      obtain ⟨hc, hd⟩ := in6_of_spot s2
      obtain ⟨⟨⟨s3, s4⟩, -⟩, -⟩ : ((spotOk x y = true ∧ spotOk u v = true) ∧ x ≤ u) ∧ y ≤ v := by unfold boxOk at h2; simpa using h2
      obtain ⟨hx, hy⟩ := in6_of_spot s3
      obtain ⟨hu, hv⟩ := in6_of_spot s4
      go_enter Try.func4, Try.ntmps4
      go_wp2_with fail
      refine (specSegOk_any _ _ _ _ true h1 _).mono ?_
      rintro e w1 ⟨rfl, hB⟩
      replace T0 := T0.step hB
      clear hB
      have a0 := (T0.b 0 rfl).c 0 rfl; have a1 := (T0.b 0 rfl).c 1 rfl; have a2 := (T0.b 0 rfl).c 2 rfl; have a3 := (T0.b 0 rfl).c 3 rfl; have b0 := (T0.b 1 rfl).c 0 rfl; have b1 := (T0.b 1 rfl).c 1 rfl; have c0 := (T0.b 2 rfl).c 0 rfl; have c1 := (T0.b 2 rfl).c 1 rfl; have alt := (T0.b 2 rfl).lt
      simp only [Nat.add_zero] at a0 a1 a2 a3
      go_wp2_with fail
      refine (l4Box_any _ _ _ _ true h2 _).mono ?_
      rintro e w2 ⟨rfl, hB⟩
      replace T0 := T0.step hB
      clear hB a0 a1 a2 a3 b0 b1 c0 c1 alt
      have a0 := (T0.b 0 rfl).c 0 rfl; have a1 := (T0.b 0 rfl).c 1 rfl; have a2 := (T0.b 0 rfl).c 2 rfl; have a3 := (T0.b 0 rfl).c 3 rfl; have b0 := (T0.b 1 rfl).c 0 rfl; have b1 := (T0.b 1 rfl).c 1 rfl; have c0 := (T0.b 2 rfl).c 0 rfl; have c1 := (T0.b 2 rfl).c 1 rfl; have alt := (T0.b 2 rfl).lt
      simp only [Nat.add_zero] at a0 a1 a2 a3
      go_wp2_with fail
      refine (l4MeetsBox_any _ _ _ _ _ _ _ _ ha hb hc hd hx hy hu hv _).mono ?_
      rintro e w3 ⟨rfl, hB⟩
      replace T0 := T0.step hB
      clear hB
      go_wp2
      go_ret
      exact ⟨ret_bool (by rw [← hz]; simp [meetsB, h1, h2]), T0.below⟩
    · have h2 := Bool.eq_false_iff.2 h2
      go_enter Try.func4, Try.ntmps4
      go_wp2_with fail
      refine (specSegOk_any _ _ _ _ true h1 _).mono ?_
      rintro e w1 ⟨rfl, hB⟩
      replace T0 := T0.step hB
      clear hB
      have a0 := (T0.b 0 rfl).c 0 rfl; have a1 := (T0.b 0 rfl).c 1 rfl; have a2 := (T0.b 0 rfl).c 2 rfl; have a3 := (T0.b 0 rfl).c 3 rfl; have b0 := (T0.b 1 rfl).c 0 rfl; have b1 := (T0.b 1 rfl).c 1 rfl; have c0 := (T0.b 2 rfl).c 0 rfl; have c1 := (T0.b 2 rfl).c 1 rfl; have alt := (T0.b 2 rfl).lt
      simp only [Nat.add_zero] at a0 a1 a2 a3
      go_wp2_with fail
      refine (l4Box_any _ _ _ _ false h2 _).mono ?_
      rintro e w2 ⟨rfl, hB⟩
      replace T0 := T0.step hB
      clear hB a0 a1 a2 a3 b0 b1 c0 c1 alt
      go_wp2
      go_ret
      exact ⟨ret_bool (by rw [← hz]; simp [meetsB, h1, h2]), T0.below⟩
  · have h1 := Bool.eq_false_iff.2 h1
    go_enter Try.func4, Try.ntmps4
    go_wp2_with fail
    refine (specSegOk_any _ _ _ _ false h1 _).mono ?_
    rintro e w1 ⟨rfl, hB⟩
    replace T0 := T0.step hB
    clear hB
    go_wp2
    go_ret
    exact ⟨ret_bool (by rw [← hz]; simp [meetsB, h1]), T0.below⟩
end Go.Proofs.Yteeeofejmgjgbaa
