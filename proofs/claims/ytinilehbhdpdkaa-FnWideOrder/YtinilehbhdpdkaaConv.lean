/- The walks of words made from four words and back. -/
import Derived.Test.YtinilehbhdpdkaaWd
import Derived.Test.YtinilehbhdpdkaaPlus4
namespace Go.Proofs.Ytinilehbhdpdkaa
open Go.RowKit
set_option maxRecDepth 100000 in
set_option maxHeartbeats 400000 in
theorem wordsOf_any (a3 a2 a1 a0 : Int) (w : World) :
    Calls Try.prog 20 #[.agg #[.int .u64 a3, .int .u64 a2, .int .u64 a1, .int .u64 a0]] w (WideP a0 a1 a2 a3 w) := by
  go_enter Try.func20, Try.ntmps20
  go_wp2
  refine bodyPost_ret (v := .agg #[.int .u64 a0, .int .u64 a1, .int .u64 a2, .int .u64 a3]) (by simp [results, Try.results20, go_sem]) rfl ?_
  exact ⟨rfl, ((Below.refl _ _).alloc (Nat.le_refl _) _).alloc (by simp) _⟩
set_option maxRecDepth 100000 in
set_option maxHeartbeats 400000 in
theorem wideOf_any (a3 a2 a1 a0 : Int) (w : World) :
    Calls Try.prog 19 #[.agg #[.int .u64 a0, .int .u64 a1, .int .u64 a2, .int .u64 a3]] w (WideP a3 a2 a1 a0 w) := by
  go_enter Try.func19, Try.ntmps19
  go_wp2
  refine bodyPost_ret (v := .agg #[.int .u64 a3, .int .u64 a2, .int .u64 a1, .int .u64 a0]) (by simp [results, Try.results19, go_sem]) rfl ?_
  exact ⟨rfl, ((Below.refl _ _).alloc (Nat.le_refl _) _).alloc (by simp) _⟩
theorem words4 {a0 a1 a2 a3 : Int} (h0 : Word a0) (h1 : Word a1) (h2 : Word a2) (h3 : Word a3) : Words [a0, a1, a2, a3] := by
  intro d hd
  simp only [List.mem_cons, List.not_mem_nil, or_false] at hd
  rcases hd with rfl | rfl | rfl | rfl
  · exact h0
  · exact h1
  · exact h2
  · exact h3
theorem words4_of {a0 a1 a2 a3 : Int} (h : Words [a0, a1, a2, a3]) : Word a0 ∧ Word a1 ∧ Word a2 ∧ Word a3 := ⟨h _ (by simp), h _ (by simp), h _ (by simp), h _ (by simp)⟩
theorem val64_4 (a0 a1 a2 a3 : Int) : val64 [a0, a1, a2, a3] = uw a3 a2 a1 a0 := by simp only [val64, uw]; omega
/-- The sum of four words, cut off, and what the signs say of it. -/
theorem plus_told {a3 a2 a1 a0 b3 b2 b1 b0 z3 z2 z1 z0 c : Int} (h3 : Word a3) (h2 : Word a2) (h1 : Word a1) (h0 : Word a0) (k3 : Word b3) (k2 : Word b2) (k1 : Word b1) (k0 : Word b0) (l3 : Word z3) (l2 : Word z2) (l1 : Word z1) (l0 : Word z0) (c0 : 0 ≤ c) (c1 : c ≤ 1)
    (e : uw z3 z2 z1 z0 + c * 115792089237316195423570985008687907853269984665640564039457584007913129639936 = uw a3 a2 a1 a0 + uw b3 b2 b1 b0) :
    if ((a3 / 9223372036854775808 == 1) = (b3 / 9223372036854775808 == 1) ∧ (z3 / 9223372036854775808 == 1) ≠ (a3 / 9223372036854775808 == 1)) then told (sw a3 a2 a1 a0 + sw b3 b2 b1 b0) = false else told (sw a3 a2 a1 a0 + sw b3 b2 b1 b0) = true ∧ sw z3 z2 z1 z0 = sw a3 a2 a1 a0 + sw b3 b2 b1 b0 := by
  have ha : (a3 / 9223372036854775808 == 1) = decide (9223372036854775808 ≤ a3) := by unfold Word at h3; rw [Bool.eq_iff_iff]; simp; omega
  have hb : (b3 / 9223372036854775808 == 1) = decide (9223372036854775808 ≤ b3) := by unfold Word at k3; rw [Bool.eq_iff_iff]; simp; omega
  have hz : (z3 / 9223372036854775808 == 1) = decide (9223372036854775808 ≤ z3) := by unfold Word at l3; rw [Bool.eq_iff_iff]; simp; omega
  rw [ha, hb, hz]
  unfold told sw uw at *
  unfold Word at *
  by_cases p : 9223372036854775808 ≤ a3 <;> by_cases q : 9223372036854775808 ≤ b3 <;> by_cases r : 9223372036854775808 ≤ z3 <;> simp only [p, q, r, decide_true, decide_false] <;> simp only [show (a3 < 9223372036854775808) ↔ ¬ 9223372036854775808 ≤ a3 by omega, show (b3 < 9223372036854775808) ↔ ¬ 9223372036854775808 ≤ b3 by omega, show (z3 < 9223372036854775808) ↔ ¬ 9223372036854775808 ≤ z3 by omega, p, q, r, not_true, not_false_iff, if_true, if_false, decide_eq_true_iff, decide_eq_false_iff_not, Bool.false_eq_true, Bool.true_eq_false, ne_eq, and_self, and_true, and_false] <;> omega
/-- The difference of four words, cut off, and what the signs say of it. -/
theorem minus_told {a3 a2 a1 a0 b3 b2 b1 b0 z3 z2 z1 z0 c : Int} (h3 : Word a3) (h2 : Word a2) (h1 : Word a1) (h0 : Word a0) (k3 : Word b3) (k2 : Word b2) (k1 : Word b1) (k0 : Word b0) (l3 : Word z3) (l2 : Word z2) (l1 : Word z1) (l0 : Word z0) (c0 : 0 ≤ c) (c1 : c ≤ 1)
    (e : uw z3 z2 z1 z0 = uw a3 a2 a1 a0 - uw b3 b2 b1 b0 + c * 115792089237316195423570985008687907853269984665640564039457584007913129639936) :
    if ((a3 / 9223372036854775808 == 1) ≠ (b3 / 9223372036854775808 == 1) ∧ (z3 / 9223372036854775808 == 1) ≠ (a3 / 9223372036854775808 == 1)) then told (sw a3 a2 a1 a0 - sw b3 b2 b1 b0) = false else told (sw a3 a2 a1 a0 - sw b3 b2 b1 b0) = true ∧ sw z3 z2 z1 z0 = sw a3 a2 a1 a0 - sw b3 b2 b1 b0 := by
  have ha : (a3 / 9223372036854775808 == 1) = decide (9223372036854775808 ≤ a3) := by unfold Word at h3; rw [Bool.eq_iff_iff]; simp; omega
  have hb : (b3 / 9223372036854775808 == 1) = decide (9223372036854775808 ≤ b3) := by unfold Word at k3; rw [Bool.eq_iff_iff]; simp; omega
  have hz : (z3 / 9223372036854775808 == 1) = decide (9223372036854775808 ≤ z3) := by unfold Word at l3; rw [Bool.eq_iff_iff]; simp; omega
  rw [ha, hb, hz]
  unfold told sw uw at *
  unfold Word at *
  by_cases p : 9223372036854775808 ≤ a3 <;> by_cases q : 9223372036854775808 ≤ b3 <;> by_cases r : 9223372036854775808 ≤ z3 <;> simp only [p, q, r, decide_true, decide_false] <;> simp only [show (a3 < 9223372036854775808) ↔ ¬ 9223372036854775808 ≤ a3 by omega, show (b3 < 9223372036854775808) ↔ ¬ 9223372036854775808 ≤ b3 by omega, show (z3 < 9223372036854775808) ↔ ¬ 9223372036854775808 ≤ z3 by omega, p, q, r, not_true, not_false_iff, if_true, if_false, decide_eq_true_iff, decide_eq_false_iff_not, Bool.false_eq_true, Bool.true_eq_false, ne_eq, and_self, and_true, and_false] <;> omega
end Go.Proofs.Ytinilehbhdpdkaa
