/- The walk of the table of a byte's bits. -/
import Derived.Test.YtinilehbhdpdkaaWord
import Derived.Test.YtinilehbhdpdkaaSmall
namespace Go.Proofs.Ytinilehbhdpdkaa
open Go.RowKit
def len8 : ByteArray := ⟨#[0, 1, 2, 2, 3, 3, 3, 3, 4, 4, 4, 4, 4, 4, 4, 4, 5, 5, 5, 5, 5, 5, 5, 5, 5, 5, 5, 5, 5, 5, 5, 5, 6, 6, 6, 6, 6, 6, 6, 6, 6, 6, 6, 6, 6, 6, 6, 6, 6, 6, 6, 6, 6, 6, 6, 6, 6, 6, 6, 6, 6, 6, 6, 6, 7, 7, 7, 7, 7, 7, 7, 7, 7, 7, 7, 7, 7, 7, 7, 7, 7, 7, 7, 7, 7, 7, 7, 7, 7, 7, 7, 7, 7, 7, 7, 7, 7, 7, 7, 7, 7, 7, 7, 7, 7, 7, 7, 7, 7, 7, 7, 7, 7, 7, 7, 7, 7, 7, 7, 7, 7, 7, 7, 7, 7, 7, 7, 7, 8, 8, 8, 8, 8, 8, 8, 8, 8, 8, 8, 8, 8, 8, 8, 8, 8, 8, 8, 8, 8, 8, 8, 8, 8, 8, 8, 8, 8, 8, 8, 8, 8, 8, 8, 8, 8, 8, 8, 8, 8, 8, 8, 8, 8, 8, 8, 8, 8, 8, 8, 8, 8, 8, 8, 8, 8, 8, 8, 8, 8, 8, 8, 8, 8, 8, 8, 8, 8, 8, 8, 8, 8, 8, 8, 8, 8, 8, 8, 8, 8, 8, 8, 8, 8, 8, 8, 8, 8, 8, 8, 8, 8, 8, 8, 8, 8, 8, 8, 8, 8, 8, 8, 8, 8, 8, 8, 8, 8, 8, 8, 8, 8, 8, 8, 8, 8, 8, 8, 8, 8, 8, 8, 8, 8, 8, 8, 8]⟩
def okLen (n : Nat) (b : Nat) : Bool := decide (n < 2 ^ b) && (b == 0 || decide (2 ^ (b - 1) ≤ n))
theorem len8_size : len8.size = 256 := by decide +kernel
theorem len8_all : ∀ n : Fin 256, okLen n.1 (len8[n.1]'(by rw [len8_size]; exact n.2)).toNat = true := by decide +kernel
theorem len8_small : ∀ n : Fin 256, (len8[n.1]'(by rw [len8_size]; exact n.2)).toNat ≤ 8 := by decide +kernel
theorem len8_at (y : Int) (h0 : 0 ≤ y) (h1 : y < 256) (hp : y.toNat < len8.size) : BitsOf y (len8[y.toNat]'hp).toNat ∧ (len8[y.toNat]'hp).toNat ≤ 8 := by
  have h := len8_all ⟨y.toNat, by omega⟩
  have h' := len8_small ⟨y.toNat, by omega⟩
  refine ⟨?_, h'⟩
  unfold okLen at h
  simp only [Bool.and_eq_true, decide_eq_true_iff, Bool.or_eq_true, beq_iff_eq] at h
  generalize (len8[y.toNat]'hp).toNat = b at *
  refine ⟨h0, ?_, ?_⟩
  · rw [ipow2]; have := h.1; omega
  · rcases h.2 with h2 | h2
    · exact Or.inl h2
    · right; rw [ipow2]; omega
theorem w64 (z : Int) (h0 : 0 ≤ z) (h1 : z < 100000) : wrap64 z = z := by unfold wrap64; omega
theorem bits_shift {x y : Int} {k b : Nat} (hx : 0 ≤ x) (hy : y = x / 2 ^ k) (hb : BitsOf y b) (hp : k = 0 ∨ 0 < y) : BitsOf x (k + b) := by
  rcases hp with rfl | hp
  · simp only [Int.pow_zero, Int.ediv_one] at hy
    subst hy
    simpa using hb
  · obtain ⟨g0, g1, g2⟩ := hb
    have hk : (0 : Int) < 2 ^ k := Int.pow_pos (by decide)
    have hb0 : b ≠ 0 := by rintro rfl; simp at g1; omega
    refine ⟨hx, ?_, Or.inr ?_⟩
    · rw [Int.pow_add]
      have : x < (y + 1) * 2 ^ k := by rw [hy]; exact Int.lt_ediv_add_one_mul_self _ hk
      have h2 : (y + 1) * 2 ^ k ≤ 2 ^ b * 2 ^ k := Int.mul_le_mul_of_nonneg_right (by omega) (by omega)
      rw [Int.mul_comm (2 ^ k)]
      omega
    · rcases g2 with g2 | g2
      · exact absurd g2 hb0
      · rw [show k + b - 1 = k + (b - 1) by omega, Int.pow_add]
        have h1 : 2 ^ (b - 1) * 2 ^ k ≤ y * 2 ^ k := Int.mul_le_mul_of_nonneg_right g2 (by omega)
        have h2 : y * 2 ^ k ≤ x := by rw [hy]; exact Int.ediv_mul_le _ (by omega)
        rw [Int.mul_comm (2 ^ k)]
        omega
theorem len_e0 {b b' : Nat} (h : b = b') (hb : b' ≤ 8) : wrap64 (wrap64 (b : Int)) = ((0 : Nat) : Int) + (b' : Int) := by
  subst h; unfold wrap64; omega
theorem len_ek {b b' : Nat} (K : Int) (k : Nat) (hK : K = k) (hk : k ≤ 56) (h : b = b') (hb : b' ≤ 8) : wrap64 (K + wrap64 (b : Int)) = (k : Int) + (b' : Int) := by
  subst h; subst hK; unfold wrap64; omega
theorem len_close {x y : Int} {k : Nat} (w : World) (hx : 0 ≤ x) (hy : y = x / 2 ^ k) (h0 : 0 ≤ y) (h1 : y < 256) (_hk : k ≤ 56) (hp : k = 0 ∨ 0 < y) (hq : y.toNat < len8.size) (v : Int) (hv : v = (k : Int) + ((len8[y.toNat]'hq).toNat : Int)) : BitsP x w (.returned (.int .i64 v)) w := by
  obtain ⟨g1, g2⟩ := len8_at y h0 h1 hq
  exact ⟨k + (len8[y.toNat]'hq).toNat, by rw [hv]; rfl, bits_shift hx hy g1 hp, Below.refl _ _⟩
end Go.Proofs.Ytinilehbhdpdkaa
