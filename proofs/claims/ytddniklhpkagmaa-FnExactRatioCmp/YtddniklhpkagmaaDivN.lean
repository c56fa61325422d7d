/- The quotient and the rest of numbers with signs: the reckoning. -/
import Derived.Test.YtddniklhpkagmaaGcdS
namespace Go.Proofs.Ytddniklhpkagmaa
open Go.RowKit
theorem div_unique {x y q r : Int} (hy : y ≠ 0) (he : x = q * y + r) (h0 : 0 ≤ r) (h1 : r < (y.natAbs : Int)) : x / y = q ∧ x % y = r := by
  have hm : x % y = r := by
    rw [he, Int.add_comm, Int.add_mul_emod_self_right]
    rcases Int.lt_or_gt_of_ne hy with h | h
    · rw [← Int.emod_neg]
      exact Int.emod_eq_of_lt h0 (by omega)
    · exact Int.emod_eq_of_lt h0 (by omega)
  refine ⟨?_, hm⟩
  have e := Int.emod_add_mul_ediv x y
  rw [hm] at e
  have e2 : y * (x / y) = y * q := by rw [Int.mul_comm y q]; omega
  exact Int.eq_of_mul_eq_mul_left hy e2
/-- By the sizes without signs. -/
theorem div_parts (x y : Int) (hy : y ≠ 0) : ∃ Q R : Int, (x.natAbs : Int) / (y.natAbs : Int) = Q ∧ (x.natAbs : Int) % (y.natAbs : Int) = R ∧ 0 ≤ Q ∧ 0 ≤ R ∧ R < (y.natAbs : Int) ∧ (x.natAbs : Int) = Q * (y.natAbs : Int) + R := by
  have hp : (0 : Int) < (y.natAbs : Int) := by omega
  refine ⟨_, _, rfl, rfl, Int.ediv_nonneg (by omega) (by omega), Int.emod_nonneg _ (by omega), Int.emod_lt_of_pos _ hp, ?_⟩
  have := Int.emod_add_mul_ediv (x.natAbs : Int) (y.natAbs : Int)
  rw [Int.mul_comm] at this
  omega
theorem div_signs {x y Q R : Int} (hy : y ≠ 0) (h0 : 0 ≤ R) (h1 : R < (y.natAbs : Int)) (he : (x.natAbs : Int) = Q * (y.natAbs : Int) + R) :
    (0 ≤ x → 0 < y → x / y = Q ∧ x % y = R) ∧ (0 ≤ x → y < 0 → x / y = -Q ∧ x % y = R) ∧ (x < 0 → R = 0 → 0 < y → x / y = -Q ∧ x % y = 0) ∧ (x < 0 → R = 0 → y < 0 → x / y = Q ∧ x % y = 0) ∧
    (x < 0 → 0 < R → 0 < y → x / y = -Q - 1 ∧ x % y = -R + y) ∧ (x < 0 → 0 < R → y < 0 → x / y = Q + 1 ∧ x % y = -R - y) := by
  refine ⟨?_, ?_, ?_, ?_, ?_, ?_⟩
  · intro hx hp
    rw [show (x.natAbs : Int) = x by omega, show (y.natAbs : Int) = y by omega] at he
    exact div_unique hy he h0 h1
  · intro hx hp
    rw [show (x.natAbs : Int) = x by omega, show (y.natAbs : Int) = -y by omega] at he
    exact div_unique hy (by rw [he, Int.neg_mul, Int.mul_neg]) h0 h1
  · intro hx hR hp
    rw [show (x.natAbs : Int) = -x by omega, show (y.natAbs : Int) = y by omega] at he
    exact div_unique hy (by rw [Int.neg_mul]; omega) (by omega) (by omega)
  · intro hx hR hp
    rw [show (x.natAbs : Int) = -x by omega, show (y.natAbs : Int) = -y by omega, Int.mul_neg] at he
    exact div_unique hy (by omega) (by omega) (by omega)
  · intro hx hR hp
    rw [show (x.natAbs : Int) = -x by omega, show (y.natAbs : Int) = y by omega] at he
    exact div_unique hy (by rw [Int.sub_mul, Int.neg_mul]; omega) (by omega) (by omega)
  · intro hx hR hp
    rw [show (x.natAbs : Int) = -x by omega, show (y.natAbs : Int) = -y by omega, Int.mul_neg] at he
    exact div_unique hy (by rw [Int.add_mul]; omega) (by omega) (by omega)
end Go.Proofs.Ytddniklhpkagmaa
