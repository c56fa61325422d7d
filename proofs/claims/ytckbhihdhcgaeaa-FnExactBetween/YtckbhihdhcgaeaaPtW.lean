/- What lies between two points: the reckoning, and the program's walks. -/
import Derived.Test.YtckbhihdhcgaeaaPtV
namespace Go.Proofs.Ytckbhihdhcgaeaa
open Go.RowKit
theorem frac_trans {x z a c u t : Int} (hz : 0 < z) (ht : 0 < t) (hc : 0 < c) (h1 : x * c ≤ a * z) (h2 : a * t ≤ u * c) : x * t ≤ u * z ∧ (x * c < a * z ∨ a * t < u * c → x * t < u * z) := by
  have e1 : x * c * t ≤ a * z * t := Int.mul_le_mul_of_nonneg_right h1 (by omega)
  have e2 : a * t * z ≤ u * c * z := Int.mul_le_mul_of_nonneg_right h2 (by omega)
  have r1 : x * c * t = x * t * c := Int.mul_right_comm x c t
  have r2 : a * z * t = a * t * z := Int.mul_right_comm a z t
  have r3 : u * c * z = u * z * c := Int.mul_right_comm u c z
  refine ⟨Int.le_of_mul_le_mul_right (show x * t * c ≤ u * z * c by omega) hc, ?_⟩
  rintro (h | h)
  · have e3 : x * c * t < a * z * t := Int.mul_lt_mul_of_pos_right h ht
    exact Int.lt_of_mul_lt_mul_right (show x * t * c < u * z * c by omega) (by omega)
  · have e3 : a * t * z < u * c * z := Int.mul_lt_mul_of_pos_right h hz
    exact Int.lt_of_mul_lt_mul_right (show x * t * c < u * z * c by omega) (by omega)
theorem cmpI_val (a b : Int) : (a < b ∧ cmpI a b = -1) ∨ (a = b ∧ cmpI a b = 0) ∨ (b < a ∧ cmpI a b = 1) := by
  rcases Int.lt_trichotomy a b with h | h | h
  · exact .inl ⟨h, cmpI_lt h⟩
  · exact .inr (.inl ⟨h, cmpI_eq h⟩)
  · exact .inr (.inr ⟨h, cmpI_gt h⟩)
theorem ord_le (x y z u v t : Int) : ordI x y z u v t ≤ 0 ↔ x * t < u * z ∨ (x * t = u * z ∧ y * t ≤ v * z) := by
  unfold ordI
  rcases cmpI_val (x * t) (u * z) with ⟨h, e⟩ | ⟨h, e⟩ | ⟨h, e⟩ <;> rcases cmpI_val (y * t) (v * z) with ⟨h', e'⟩ | ⟨h', e'⟩ | ⟨h', e'⟩ <;> rw [e] <;> simp [e'] <;> omega
theorem ord_in (x y z u v t : Int) : ordI x y z u v t = -1 ∨ ordI x y z u v t = 0 ∨ ordI x y z u v t = 1 := by
  unfold ordI
  rcases cmpI_val (x * t) (u * z) with ⟨h, e⟩ | ⟨h, e⟩ | ⟨h, e⟩ <;> rcases cmpI_val (y * t) (v * z) with ⟨h', e'⟩ | ⟨h', e'⟩ | ⟨h', e'⟩ <;> rw [e] <;> simp [e']
theorem cmp_turned (a b : Int) : cmpI b a = -cmpI a b := by
  rcases Int.lt_trichotomy a b with h | h | h
  · rw [cmpI_lt h, cmpI_gt h]; rfl
  · rw [cmpI_eq h, cmpI_eq h.symm]; rfl
  · rw [cmpI_gt h, cmpI_lt h]
theorem ord_turned (x y z u v t : Int) : ordI u v t x y z = -ordI x y z u v t := by
  unfold ordI
  rw [cmp_turned (x * t) (u * z), cmp_turned (y * t) (v * z)]
  split <;> split <;> omega
theorem ord_trans {x y z u v t a b c : Int} (hz : 0 < z) (ht : 0 < t) (hc : 0 < c) (h1 : ordI x y z a b c ≤ 0) (h2 : ordI a b c u v t ≤ 0) : ordI x y z u v t ≤ 0 := by
  rw [ord_le] at *
  have f := frac_trans (x := x) (z := z) (a := a) (c := c) (u := u) (t := t) hz ht hc (by omega) (by omega)
  rcases Int.lt_or_eq_of_le f.1 with h | h
  · exact .inl h
  · right
    have n1 : ¬ (x * c < a * z ∨ a * t < u * c) := fun k => by have := f.2 k; omega
    have g := frac_trans (x := y) (z := z) (a := b) (c := c) (u := v) (t := t) hz ht hc (by omega) (by omega)
    exact ⟨h, g.1⟩
/-- Whether the third point lies between the two, as the model says it. -/
def btwS (x y z u v t a b c : Int) : Bool := if 0 < ordI x y z u v t then decide (ordI u v t a b c ≤ 0) && decide (ordI a b c x y z ≤ 0) && decide (turnI u v t x y z a b c = 0) else decide (ordI x y z a b c ≤ 0) && decide (ordI a b c u v t ≤ 0) && decide (turnI x y z u v t a b c = 0)
theorem turn_swap (x y z u v t a b c : Int) : turnI u v t x y z a b c = 0 ↔ turnI x y z u v t a b c = 0 := by
  unfold turnI
  have e : u * (y * c - z * b) - v * (x * c - z * a) + t * (x * b - y * a) = -(x * (v * c - t * b) - y * (u * c - t * a) + z * (u * b - v * a)) := by grind
  rw [e]
  generalize x * (v * c - t * b) - y * (u * c - t * a) + z * (u * b - v * a) = q
  rcases cmpI_val (-q) 0 with ⟨h, f⟩ | ⟨h, f⟩ | ⟨h, f⟩ <;> rcases cmpI_val q 0 with ⟨h', f'⟩ | ⟨h', f'⟩ | ⟨h', f'⟩ <;> rw [f, f'] <;> omega
theorem btw_same (x y z u v t a b c : Int) (hz : 0 < z) (ht : 0 < t) (hc : 0 < c) : (decide (turnI x y z u v t a b c = 0) && decide (0 ≤ ordI x y z a b c * ordI a b c u v t)) = btwS x y z u v t a b c := by
  have A1 := ord_in x y z u v t
  have B1 := ord_in x y z a b c
  have C1 := ord_in a b c u v t
  have B2 := ord_turned x y z a b c
  have C2 := ord_turned a b c u v t
  have A2 := ord_turned x y z u v t
  have t1 : ordI x y z a b c ≤ 0 → ordI a b c u v t ≤ 0 → ordI x y z u v t ≤ 0 := fun h k => ord_trans hz ht hc h k
  have t2 : ordI x y z u v t ≤ 0 → ordI u v t a b c ≤ 0 → ordI x y z a b c ≤ 0 := fun h k => ord_trans hz hc ht h k
  have t3 : ordI a b c x y z ≤ 0 → ordI x y z u v t ≤ 0 → ordI a b c u v t ≤ 0 := fun h k => ord_trans hc ht hz h k
  unfold btwS
  rw [show decide (turnI u v t x y z a b c = 0) = decide (turnI x y z u v t a b c = 0) by rw [Bool.eq_iff_iff, decide_eq_true_iff, decide_eq_true_iff]; exact turn_swap x y z u v t a b c]
  rw [B2] at t3 ⊢
  rw [C2] at t2 ⊢
  generalize ordI x y z u v t = A at *
  generalize ordI x y z a b c = B at *
  generalize ordI a b c u v t = C at *
  generalize decide (turnI x y z u v t a b c = 0) = q
  clear A2 B2 C2
  rcases A1 with rfl | rfl | rfl <;> rcases B1 with rfl | rfl | rfl <;> rcases C1 with rfl | rfl | rfl <;> cases q <;> first | rfl | (exfalso; first | exact absurd (t1 (by decide) (by decide)) (by decide) | exact absurd (t2 (by decide) (by decide)) (by decide) | exact absurd (t3 (by decide) (by decide)) (by decide))
end Go.Proofs.Ytckbhihdhcgaeaa
