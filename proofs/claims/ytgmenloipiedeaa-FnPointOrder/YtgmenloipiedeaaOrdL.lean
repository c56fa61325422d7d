/- Right points: in order, one only where their numbers are, the same with all parts multiplied: the reckoning. -/
import Derived.Test.YtgmenloipiedeaaBase13
import Derived.Test.YtgmenloipiedeaaBase11
namespace Go.Proofs.Ytgmenloipiedeaa
open Go.RowKit
theorem cmpI_flip (a b : Int) : cmpI b a = -cmpI a b := by
  unfold cmpI
  by_cases h : a < b
  · rw [if_neg (by omega), if_pos h, if_pos h]; rfl
  · by_cases h' : b < a
    · rw [if_pos h', if_neg h, if_pos h']
    · rw [if_neg h', if_neg h, if_neg h, if_neg h']; rfl
theorem cmpI_zero {a b : Int} : cmpI a b = 0 ↔ a = b := by
  unfold cmpI
  split
  · constructor <;> intro h <;> omega
  · split
    · constructor <;> intro h <;> omega
    · constructor <;> intro h <;> omega
theorem ord_flip (x y z u v t : Int) : ordI u v t x y z = -ordI x y z u v t := by
  unfold ordI
  rw [cmpI_flip (x * t) (u * z), cmpI_flip (y * t) (v * z)]
  by_cases h : cmpI (x * t) (u * z) = 0
  · rw [h]; simp
  · rw [if_neg (by omega), if_neg h]
theorem ptCmp_flip (x y z u v t : Int) : ptCmp u v t x y z = -ptCmp x y z u v t := by
  unfold ptCmp
  rw [ord_flip x y z u v t]
  cases ptB x y z <;> cases ptB u v t <;> simp
theorem ptB_gcd {x y z : Int} (h : ptB x y z = true) : 0 < z ∧ Int.gcd (Int.gcd x y) z = 1 := by
  unfold ptB at h
  simp at h
  exact ⟨h.1.1, h.2⟩
theorem dvd3 {x y z t : Int} (hg : Int.gcd (Int.gcd x y) z = 1) {d : Int} (h1 : d ∣ x * t) (h2 : d ∣ y * t) (h3 : d ∣ z * t) : d ∣ t := by
  have e1 : (Int.gcd (x * t) (y * t) : Int) = Int.gcd x y * (t.natAbs : Int) := by rw [Int.gcd_mul_right]; simp
  have d1 : d ∣ (Int.gcd (x * t) (y * t) : Int) := Int.dvd_coe_gcd h1 h2
  rw [e1] at d1
  have d2 : d ∣ z * (t.natAbs : Int) := by
    rcases Int.natAbs_eq t with h | h
    · rw [← h]; exact h3
    · have e : (t.natAbs : Int) = -t := by omega
      rw [e, Int.mul_neg]; exact Int.dvd_neg.2 h3
  have d3 := Int.dvd_coe_gcd d1 d2
  rw [Int.gcd_mul_right, hg] at d3
  exact Int.dvd_natAbs.1 (by simpa using d3)
theorem ord_zero {x y z u v t : Int} (h1 : ptB x y z = true) (h2 : ptB u v t = true) : ordI x y z u v t = 0 ↔ x = u ∧ y = v ∧ z = t := by
  obtain ⟨pz, g1⟩ := ptB_gcd h1
  obtain ⟨pt, g2⟩ := ptB_gcd h2
  constructor
  · intro h
    unfold ordI at h
    by_cases hc : cmpI (x * t) (u * z) = 0
    · rw [if_pos hc] at h
      have e1 := cmpI_zero.1 hc
      have e2 := cmpI_zero.1 h
      have d1 : z ∣ t := dvd3 g1 (by rw [e1]; exact Int.dvd_mul_left _ _) (by rw [e2]; exact Int.dvd_mul_left _ _) (Int.dvd_mul_right _ _)
      have d2 : t ∣ z := dvd3 g2 (by rw [← e1]; exact Int.dvd_mul_left _ _) (by rw [← e2]; exact Int.dvd_mul_left _ _) (Int.dvd_mul_right _ _)
      have l1 := Int.le_of_dvd pt d1
      have l2 := Int.le_of_dvd pz d2
      have ez : z = t := by omega
      subst ez
      exact ⟨Int.eq_of_mul_eq_mul_right (by omega) e1, Int.eq_of_mul_eq_mul_right (by omega) e2, rfl⟩
    · rw [if_neg hc] at h
      exact absurd h hc
  · rintro ⟨rfl, rfl, rfl⟩
    unfold ordI
    rw [if_pos (cmpI_zero.2 rfl)]
    exact cmpI_zero.2 rfl
theorem share_times {v k z : Int} (hk : k ≠ 0) (hz : 0 < z) : shareZ (v * k) (k.natAbs : Int) (decide (z * k < 0)) = v := by
  have hp : (0 : Int) < k.natAbs := by omega
  have hq : (((v * k).natAbs : Nat) : Int) / (k.natAbs : Int) = (v.natAbs : Int) := by
    rw [Int.natAbs_mul, Int.natCast_mul]
    exact Int.mul_ediv_cancel _ (by omega)
  have hs : (decide (z * k < 0)) = decide (k < 0) := by
    rw [decide_eq_decide]
    constructor
    · intro h
      apply Decidable.byContradiction
      intro h'
      have := Int.mul_nonneg (a := z) (b := k) (by omega) (by omega)
      omega
    · intro h
      exact Int.mul_neg_of_pos_of_neg hz h
  unfold shareZ
  rw [hq, hs]
  rcases Int.lt_or_lt_of_ne hk with h | h
  · have e : (v * k < 0) ↔ 0 < v := by
      constructor
      · intro h1
        apply Decidable.byContradiction
        intro h2
        have := Int.mul_nonneg_of_nonpos_of_nonpos (a := v) (b := k) (by omega) (by omega)
        omega
      · intro h1
        exact Int.mul_neg_of_pos_of_neg h1 h
    by_cases h1 : 0 < v
    · simp [e, h1, h]; omega
    · simp [e, h1, h]; omega
  · have e : (v * k < 0) ↔ v < 0 := by
      constructor
      · intro h1
        apply Decidable.byContradiction
        intro h2
        have := Int.mul_nonneg (a := v) (b := k) (by omega) (by omega)
        omega
      · intro h1
        exact Int.mul_neg_of_neg_of_pos h1 h
    by_cases h1 : v < 0
    · simp [e, h1, show ¬ k < 0 by omega]; omega
    · simp [e, h1, show ¬ k < 0 by omega]; omega
theorem pm_times {x y z k : Int} (h : ptB x y z = true) (hk : k ≠ 0) : pmV (x * k) (y * k) (z * k) = .tuple #[PV x y z, .bool true] := by
  obtain ⟨pz, g1⟩ := ptB_gcd h
  obtain ⟨-, sx, sy, sz⟩ := ptB_small h
  have hg : (Int.gcd (Int.gcd (x * k) (y * k) : Int) (z * k) : Int) = (k.natAbs : Int) := by
    have e1 : (Int.gcd (x * k) (y * k) : Int) = Int.gcd x y * (k.natAbs : Int) := by rw [Int.gcd_mul_right]; simp
    have e2 : Int.gcd ((Int.gcd x y : Int) * (k.natAbs : Int)) (z * k) = Int.gcd ((Int.gcd x y : Int) * k) (z * k) := by
      unfold Int.gcd
      simp [Int.natAbs_mul]
    rw [e1, e2, Int.gcd_mul_right, g1]
    simp
  have hne : z * k ≠ 0 := Int.mul_ne_zero (by omega) hk
  unfold pmV
  rw [if_neg hne, hg, share_times hk pz, share_times hk pz, share_times hk pz]
  unfold ptV
  rw [sx, sy, sz]
  rfl
end Go.Proofs.Ytgmenloipiedeaa
