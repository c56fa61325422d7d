/- What lies between two points: the reckoning, and the program's walks. -/
import Derived.Test.YtgmenloipiedeaaBase18
namespace Go.Proofs.Ytgmenloipiedeaa
open Go.RowKit
theorem frac_trans {x z a c u t : Int} (hz : 0 < z) (ht : 0 < t) (hc : 0 < c) (h1 : x * c ≤ a * z) (h2 : a * t ≤ u * c) : x * t ≤ u * z ∧ (x * c < a * z ∨ a * t < u * c → x * t < u * z) := by
  have e1 : x * c * t ≤ a * z * t := Int.mul_le_mul_of_nonneg_right h1 (by omega)
  have e2 : a * t * z ≤ u * c * z := Int.mul_le_mul_of_nonneg_right h2 (by omega)
  have r1 : x * c * t = x * t * c := Int.mul_right_comm x c t
  have r2 : a * z * t = a * t * z := Int.mul_right_comm a z t
  have r3 : u * c * z = u * z * c := Int.mul_right_comm u c z
  refine ⟨Int.le_of_mul_le_mul_right (show x * t * c ≤ u * z * c by omega) hc, ?_⟩
  rintro (h | h)
  · have e3 : x * c * t < a * z * t := Int.mul_lt_mul_of_pos_right h ht
    exact Int.lt_of_mul_lt_mul_right (show x * t * c < u * z * c by omega) (by omega)
  · have e3 : a * t * z < u * c * z := Int.mul_lt_mul_of_pos_right h hz
    exact Int.lt_of_mul_lt_mul_right (show x * t * c < u * z * c by omega) (by omega)
theorem cmpI_val (a b : Int) : (a < b ∧ cmpI a b = -1) ∨ (a = b ∧ cmpI a b = 0) ∨ (b < a ∧ cmpI a b = 1) := by
  rcases Int.lt_trichotomy a b with h | h | h
  · exact .inl ⟨h, cmpI_lt h⟩
  · exact .inr (.inl ⟨h, cmpI_eq h⟩)
  · exact .inr (.inr ⟨h, cmpI_gt h⟩)
theorem ord_le (x y z u v t : Int) : ordI x y z u v t ≤ 0 ↔ x * t < u * z ∨ (x * t = u * z ∧ y * t ≤ v * z) := by
  unfold ordI
  rcases cmpI_val (x * t) (u * z) with ⟨h, e⟩ | ⟨h, e⟩ | ⟨h, e⟩ <;> rcases cmpI_val (y * t) (v * z) with ⟨h', e'⟩ | ⟨h', e'⟩ | ⟨h', e'⟩ <;> rw [e] <;> simp [e'] <;> omega
theorem ord_in (x y z u v t : Int) : ordI x y z u v t = -1 ∨ ordI x y z u v t = 0 ∨ ordI x y z u v t = 1 := by
  unfold ordI
  rcases cmpI_val (x * t) (u * z) with ⟨h, e⟩ | ⟨h, e⟩ | ⟨h, e⟩ <;> rcases cmpI_val (y * t) (v * z) with ⟨h', e'⟩ | ⟨h', e'⟩ | ⟨h', e'⟩ <;> rw [e] <;> simp [e']
theorem ord_trans {x y z u v t a b c : Int} (hz : 0 < z) (ht : 0 < t) (hc : 0 < c) (h1 : ordI x y z a b c ≤ 0) (h2 : ordI a b c u v t ≤ 0) : ordI x y z u v t ≤ 0 := by
  rw [ord_le] at *
  have f := frac_trans (x := x) (z := z) (a := a) (c := c) (u := u) (t := t) hz ht hc (by omega) (by omega)
  rcases Int.lt_or_eq_of_le f.1 with h | h
  · exact .inl h
  · right
    have n1 : ¬ (x * c < a * z ∨ a * t < u * c) := fun k => by have := f.2 k; omega
    have g := frac_trans (x := y) (z := z) (a := b) (c := c) (u := v) (t := t) hz ht hc (by omega) (by omega)
    exact ⟨h, g.1⟩
theorem turn_swap (x y z u v t a b c : Int) : turnI u v t x y z a b c = 0 ↔ turnI x y z u v t a b c = 0 := by
  unfold turnI
  have e : u * (y * c - z * b) - v * (x * c - z * a) + t * (x * b - y * a) = -(x * (v * c - t * b) - y * (u * c - t * a) + z * (u * b - v * a)) := by grind
  rw [e]
  generalize x * (v * c - t * b) - y * (u * c - t * a) + z * (u * b - v * a) = q
  rcases cmpI_val (-q) 0 with ⟨h, f⟩ | ⟨h, f⟩ | ⟨h, f⟩ <;> rcases cmpI_val q 0 with ⟨h', f'⟩ | ⟨h', f'⟩ | ⟨h', f'⟩ <;> rw [f, f'] <;> omega
end Go.Proofs.Ytgmenloipiedeaa
