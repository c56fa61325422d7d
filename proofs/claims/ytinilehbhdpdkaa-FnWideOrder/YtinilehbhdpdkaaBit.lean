/- Plain facts on words' bits: no program in sight. -/
import Derived.Laws.Bits64b
namespace Go.Proofs.Ytinilehbhdpdkaa
theorem pow_le_32 (r : Nat) (hr : r ≤ 32) : (2 : Nat) ^ r ≤ 4294967296 := by
  have := Nat.pow_le_pow_right (n := 2) (by omega) hr
  simpa using this
theorem ipow (r : Nat) : ((2 : Int) ^ r) = (((2 : Nat) ^ r : Nat) : Int) := by simp
theorem shl_bound (d : Nat) (r : Nat) (hr : r ≤ 32) (hd : d < 4294967296) : d * 2 ^ r ≤ 4294967295 * 2 ^ r ∧ d * 2 ^ r < 18446744073709551616 := by
  have h1 := pow_le_32 r hr
  have h2 : d * 2 ^ r ≤ 4294967295 * 2 ^ r := Nat.mul_le_mul_right _ (by omega)
  exact ⟨h2, by omega⟩
/-- What is moved to the left, and lower bits beside it. -/
theorem or_shl (c d : Int) (r : Nat) (hr : r ≤ 32) (hc0 : 0 ≤ c) (hc : c < 2 ^ r) (hd0 : 0 ≤ d) (hd : d < 4294967296) :
    bits .or .u64 c (IntKind.u64.wrap (d * 2 ^ r)) = c + d * 2 ^ r := by
  obtain ⟨c, rfl⟩ := Int.eq_ofNat_of_zero_le hc0
  obtain ⟨d, rfl⟩ := Int.eq_ofNat_of_zero_le hd0
  rw [ipow] at hc ⊢
  have hc' : c < 2 ^ r := by omega
  obtain ⟨h1, h2⟩ := shl_bound d r hr (by omega)
  have h3 := pow_le_32 r hr
  have e : ((d : Int) * ((2 ^ r : Nat) : Int)) = ((d * 2 ^ r : Nat) : Int) := (Int.natCast_mul _ _).symm
  rw [e, IntKind.wrap_u64, show ((d * 2 ^ r : Nat) : Int) % 18446744073709551616 = ((d * 2 ^ r : Nat) : Int) by omega, bits_or_u64_nat c (d * 2 ^ r) (by omega) h2]
  have e2 := Nat.two_pow_add_eq_or_of_lt hc' d
  rw [Nat.mul_comm] at e2
  rw [Nat.or_comm, ← e2]
  omega
/-- Two halves of a word. -/
theorem or_hi (x y : Int) (hx : 0 ≤ x ∧ x < 4294967296) (hy : 0 ≤ y ∧ y < 4294967296) : bits .or .u64 (IntKind.u64.wrap (y * 4294967296)) x = x + y * 4294967296 := by
  obtain ⟨x, rfl⟩ := Int.eq_ofNat_of_zero_le hx.1
  obtain ⟨y, rfl⟩ := Int.eq_ofNat_of_zero_le hy.1
  rw [IntKind.wrap_u64, show ((y : Int) * 4294967296) % 18446744073709551616 = ((y * 4294967296 : Nat) : Int) by omega, bits_or_u64_nat _ _ (by omega) (by omega)]
  have e2 := Nat.two_pow_add_eq_or_of_lt (i := 32) (b := x) (by omega) y
  have e3 : (2 : Nat) ^ 32 * y = y * 4294967296 := by omega
  rw [e3] at e2
  rw [← e2]
  omega
end Go.Proofs.Ytinilehbhdpdkaa
