/- Plain arithmetic: four words out of digits. No program in sight. -/
import Derived.Test.YtinilehbhdpdkaaWnum
namespace Go.Proofs.Ytinilehbhdpdkaa
theorem val_take_small {ys : List Int} (dy : Dig ys) (n : Nat) (h : val ys < pw n) : val (ys.take n) = val ys := by
  by_cases hn : ys.length ≤ n
  · exact val_take_all ys n hn
  · have e := val_append (ys.take n) (ys.drop n)
    rw [List.take_append_drop] at e
    have e1 : (ys.take n).length = n := by simp; omega
    rw [e1] at e
    have e2 := val_nonneg (dig_take dy n)
    have e3 := val_nonneg (dig_drop dy n)
    by_cases e4 : val (ys.drop n) = 0
    · rw [e4] at e; omega
    · exfalso
      have : pw n * 1 ≤ pw n * val (ys.drop n) := Int.mul_le_mul_of_nonneg_left (by omega) (by have := pw_pos n; omega)
      omega
theorem uw_of_digits {ds : List Int} (hd : Dig ds) (h : val ds < pw 8) :
    uw (ds.getD 6 0 + ds.getD 7 0 * 4294967296) (ds.getD 4 0 + ds.getD 5 0 * 4294967296) (ds.getD 2 0 + ds.getD 3 0 * 4294967296) (ds.getD 0 0 + ds.getD 1 0 * 4294967296) = val ds := by
  rw [← val_take_small hd 8 h]
  rw [val_take_getD ds 7, val_take_getD ds 6, val_take_getD ds 5, val_take_getD ds 4, val_take_getD ds 3, val_take_getD ds 2, val_take_getD ds 1, val_take_getD ds 0]
  simp only [List.take_zero, val, pw, uw]
  omega
theorem word_of_digits {x y : Int} (hx : 0 ≤ x ∧ x < 4294967296) (hy : 0 ≤ y ∧ y < 4294967296) : Word (x + y * 4294967296) := by
  unfold Word; omega
theorem sw_of_uw {a3 a2 a1 a0 z : Int} (h3 : Word a3) (h2 : Word a2) (h1 : Word a1) (h0 : Word a0) (hz : (0 ≤ z ∧ z < 57896044618658097711785492504343953926634992332820282019728792003956564819968 ∧ uw a3 a2 a1 a0 = z) ∨ (z < 0 ∧ -57896044618658097711785492504343953926634992332820282019728792003956564819968 ≤ z ∧ uw a3 a2 a1 a0 = 115792089237316195423570985008687907853269984665640564039457584007913129639936 + z)) : sw a3 a2 a1 a0 = z := by
  unfold Word at *; unfold sw
  unfold uw at *
  split <;> omega
/-- The words of a number that is told; zeros for any other one. -/
def told (z : Int) : Bool := decide (-57896044618658097711785492504343953926634992332820282019728792003956564819968 ≤ z ∧ z < 57896044618658097711785492504343953926634992332820282019728792003956564819968)
theorem pw255 : pw (255 / 32) * (2 ^ (255 % 32) * val [1]) = 57896044618658097711785492504343953926634992332820282019728792003956564819968 := by decide
theorem pw256 : pw (256 / 32) * (2 ^ (256 % 32) * val [1]) = 115792089237316195423570985008687907853269984665640564039457584007913129639936 := by decide
theorem two255 : (2 : Int) ^ 255 = 57896044618658097711785492504343953926634992332820282019728792003956564819968 := by decide
end Go.Proofs.Ytinilehbhdpdkaa
