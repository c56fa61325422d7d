/- Plain arithmetic of numbers of four words: no program in sight. -/
import Derived.Test.YtinilehbhdpdkaaNum
namespace Go.Proofs.Ytinilehbhdpdkaa
/-- A word of 64 bits. -/
def Word (x : Int) : Prop := 0 ≤ x ∧ x < 18446744073709551616
/-- Four words without a sign. -/
def uw (a3 a2 a1 a0 : Int) : Int := a0 + 18446744073709551616 * (a1 + 18446744073709551616 * (a2 + 18446744073709551616 * a3))
/-- Four words in two's complement. -/
def sw (a3 a2 a1 a0 : Int) : Int := if a3 < 9223372036854775808 then uw a3 a2 a1 a0 else uw a3 a2 a1 a0 - 115792089237316195423570985008687907853269984665640564039457584007913129639936
theorem uw_bound {a3 a2 a1 a0 : Int} (h3 : Word a3) (h2 : Word a2) (h1 : Word a1) (h0 : Word a0) : 0 ≤ uw a3 a2 a1 a0 ∧ uw a3 a2 a1 a0 < 115792089237316195423570985008687907853269984665640564039457584007913129639936 := by
  unfold Word at *; unfold uw; omega
theorem sw_bound {a3 a2 a1 a0 : Int} (h3 : Word a3) (h2 : Word a2) (h1 : Word a1) (h0 : Word a0) : -57896044618658097711785492504343953926634992332820282019728792003956564819968 ≤ sw a3 a2 a1 a0 ∧ sw a3 a2 a1 a0 < 57896044618658097711785492504343953926634992332820282019728792003956564819968 := by
  unfold Word at *; unfold sw uw; split <;> omega
theorem sw_neg {a3 a2 a1 a0 : Int} (h3 : Word a3) (h2 : Word a2) (h1 : Word a1) (h0 : Word a0) : sw a3 a2 a1 a0 < 0 ↔ 9223372036854775808 ≤ a3 := by
  unfold Word at *; unfold sw uw; split <;> omega
theorem sw_inj {a3 a2 a1 a0 b3 b2 b1 b0 : Int} (h3 : Word a3) (h2 : Word a2) (h1 : Word a1) (h0 : Word a0) (g3 : Word b3) (g2 : Word b2) (g1 : Word b1) (g0 : Word b0) (h : sw a3 a2 a1 a0 = sw b3 b2 b1 b0) : a3 = b3 ∧ a2 = b2 ∧ a1 = b1 ∧ a0 = b0 := by
  unfold Word at *
  unfold sw uw at h
  split at h <;> split at h <;> omega
theorem pw8 : pw 8 = 115792089237316195423570985008687907853269984665640564039457584007913129639936 := by decide
/-- The eight digits of four words. -/
def dw (a3 a2 a1 a0 : Int) : List Int := [a0 % 4294967296, a0 / 4294967296, a1 % 4294967296, a1 / 4294967296, a2 % 4294967296, a2 / 4294967296, a3 % 4294967296, a3 / 4294967296]
theorem dw_dig {a3 a2 a1 a0 : Int} (h3 : Word a3) (h2 : Word a2) (h1 : Word a1) (h0 : Word a0) : Dig (dw a3 a2 a1 a0) := by
  unfold Word at *
  unfold dw
  iterate 8 (refine dig_cons.2 ⟨by omega, ?_⟩)
  exact dig_nil
theorem dw_val (a3 a2 a1 a0 : Int) : val (dw a3 a2 a1 a0) = uw a3 a2 a1 a0 := by
  simp only [dw, val, uw]; omega
end Go.Proofs.Ytinilehbhdpdkaa
