/- The turn of three points, begun at another or with two changed: the reckoning. -/
import Derived.Test.YtgmenloipiedeaaBase18
namespace Go.Proofs.Ytgmenloipiedeaa
open Go.RowKit
theorem cmpI_neg (e : Int) : cmpI (-e) 0 = -cmpI e 0 := by
  unfold cmpI
  by_cases h : e < 0
  · rw [if_neg (by omega), if_pos (by omega), if_pos h]; rfl
  · by_cases h' : 0 < e
    · rw [if_pos (by omega), if_neg h, if_pos h']
    · rw [if_neg (by omega), if_neg (by omega), if_neg h, if_neg h']; rfl
theorem turn_cyc (x y z u v t a b c : Int) : turnI u v t a b c x y z = turnI x y z u v t a b c := by
  unfold turnI
  congr 1
  grind
theorem turn_swap (x y z u v t a b c : Int) : turnI u v t x y z a b c = -turnI x y z u v t a b c := by
  unfold turnI
  rw [← cmpI_neg]
  congr 1
  grind
theorem turn_two (x y z a b c : Int) : turnI x y z x y z a b c = 0 := by
  unfold turnI
  rw [show x * (y * c - z * b) - y * (x * c - z * a) + z * (x * b - y * a) = 0 by grind]
  decide
theorem ori_cyc (x y z u v t a b c : Int) : oriI u v t a b c x y z = oriI x y z u v t a b c := by
  unfold oriI
  rw [turn_cyc x y z u v t a b c]
  cases ptB x y z <;> cases ptB u v t <;> cases ptB a b c <;> rfl
theorem ori_swap (x y z u v t a b c : Int) : oriI u v t x y z a b c = -oriI x y z u v t a b c := by
  unfold oriI
  rw [turn_swap x y z u v t a b c]
  cases ptB x y z <;> cases ptB u v t <;> cases ptB a b c <;> simp
theorem ori_swap2 (x y z u v t a b c : Int) : oriI x y z a b c u v t = -oriI x y z u v t a b c := by
  rw [← ori_cyc x y z a b c u v t, ori_swap u v t a b c x y z, ori_cyc x y z u v t a b c]
theorem ori_two (x y z a b c : Int) : oriI x y z x y z a b c = 0 := by
  unfold oriI
  rw [turn_two]
  split <;> rfl
theorem ori_two' (x y z a b c : Int) : oriI x y z a b c a b c = 0 := by
  rw [← ori_cyc, ori_two]
theorem ori_in (x y z u v t a b c : Int) : -1 ≤ oriI x y z u v t a b c ∧ oriI x y z u v t a b c ≤ 1 := by
  unfold oriI
  split
  · unfold turnI cmpI
    split <;> (try split) <;> omega
  · omega
end Go.Proofs.Ytgmenloipiedeaa
