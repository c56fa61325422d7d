/- The walks of a number's size without its sign, of the count of its words and of its bits, and of the law over them. -/
import Derived.Test.YtinilehbhdpdkaaLen
import Derived.Test.YtinilehbhdpdkaaConv
import Derived.Test.YtinilehbhdpdkaaCmpI
namespace Go.Proofs.Ytinilehbhdpdkaa
open Go.RowKit
theorem wd0 : Word 0 := ⟨by decide, by decide⟩
/-- Four words that stand for a number without its sign, the lowest first. -/
def SizeP (z : Int) (w : World) (e : Ending) (w' : World) : Prop :=
  ∃ x3 x2 x1 x0, e = .returned (.agg #[.int .u64 x0, .int .u64 x1, .int .u64 x2, .int .u64 x3]) ∧ Word x3 ∧ Word x2 ∧ Word x1 ∧ Word x0 ∧ uw x3 x2 x1 x0 = (z.natAbs : Int) ∧ Below w.heap.size w w'
theorem sizeP_set {z : Int} {w W : World} {R : Nat} {e : Ending} {u0 u1 u2 u3 : Value} (hR : w.heap.size ≤ R) (h : SizeP z w e W) : SizeP z w e ((((W.setCell ⟨R, 0, none⟩ u0).setCell ⟨R, 1, none⟩ u1).setCell ⟨R, 2, none⟩ u2).setCell ⟨R, 3, none⟩ u3) := by
  obtain ⟨x3, x2, x1, x0, e1, h3, h2, h1, h0, hu, hB⟩ := h
  exact ⟨x3, x2, x1, x0, e1, h3, h2, h1, h0, hu, tell_below hB hR⟩
set_option maxRecDepth 100000 in
set_option maxHeartbeats 1000000 in
theorem sizeOf_any (a3 a2 a1 a0 : Int) (h3 : Word a3) (h2 : Word a2) (h1 : Word a1) (h0 : Word a0) (w : World) :
    Calls Try.prog 45 #[.agg #[.int .u64 a3, .int .u64 a2, .int .u64 a1, .int .u64 a0]] w (SizeP (sw a3 a2 a1 a0) w) := by
  have hn := sw_neg h3 h2 h1 h0
  have A0 : Wd ((w.alloc (Obj.cells #[Value.int IntKind.u64 a3, Value.int IntKind.u64 a2, Value.int IntKind.u64 a1, Value.int IntKind.u64 a0] 26)).alloc (Obj.cells #[Value.int IntKind.u64 0, Value.int IntKind.u64 0, Value.int IntKind.u64 0, Value.int IntKind.u64 0] 40)) w.heap.size a3 a2 a1 a0 := (Wd.new _ _ _ _ _ 26 rfl).alloc _
  have R0 : Wd ((w.alloc (Obj.cells #[Value.int IntKind.u64 a3, Value.int IntKind.u64 a2, Value.int IntKind.u64 a1, Value.int IntKind.u64 a0] 26)).alloc (Obj.cells #[Value.int IntKind.u64 0, Value.int IntKind.u64 0, Value.int IntKind.u64 0, Value.int IntKind.u64 0] 40)) (w.heap.size + 1) 0 0 0 0 := Wd.new _ 0 0 0 0 40 (by simp)
  have HB : Below w.heap.size w ((w.alloc (Obj.cells #[Value.int IntKind.u64 a3, Value.int IntKind.u64 a2, Value.int IntKind.u64 a1, Value.int IntKind.u64 a0] 26)).alloc (Obj.cells #[Value.int IntKind.u64 0, Value.int IntKind.u64 0, Value.int IntKind.u64 0, Value.int IntKind.u64 0] 40)) := ((Below.refl _ _).alloc (Nat.le_refl _) _).alloc (by simp) _
  by_cases hp : 9223372036854775808 ≤ a3
  · have hb : (a3 / 9223372036854775808 == 1) = true := beq_iff_eq.2 (by have := h3.2; omega)
    go_enter Try.func45, Try.ntmps45
    go_wp2_with fail
    refine (isBelow_any a3 a2 a1 a0 h3 true hb _).mono ?_
    rintro e w1 ⟨rfl, hB⟩
    replace A0 := A0.step hB
    replace R0 := R0.step hB
    replace HB := HB.trans (hB.mono HB.size)
    clear hB
    have i0 := A0.c0; have i1 := A0.c1; have i2 := A0.c2; have i3 := A0.c3
    go_wp2_with fail
    refine (wordsOf_any a3 a2 a1 a0 _).mono ?_
    rintro e w2 ⟨rfl, hB⟩
    replace R0 := R0.step hB
    replace HB := HB.trans (hB.mono HB.size)
    clear hB A0 i0 i1 i2 i3
    go_wp2_with fail
    refine (minus4 0 0 0 0 a0 a1 a2 a3 (words4 wd0 wd0 wd0 wd0) (words4 h0 h1 h2 h3) _).mono ?_
    rintro e w3 ⟨zs, c, rfl, g1, g2, g3, g4, g5, hB⟩
    obtain ⟨z0, z1, z2, z3, rfl⟩ := list4 g1
    obtain ⟨l0, l1, l2, l3⟩ := words4_of g2
    rw [val64_4, val64_4, val64_4, show [(0 : Int), 0, 0, 0].length = 4 from rfl] at g5
    replace R0 := R0.step hB
    replace HB := HB.trans (hB.mono HB.size)
    have HP : Hid (SizeP (sw a3 a2 a1 a0) w (.returned (.agg #[.int .u64 z0, .int .u64 z1, .int .u64 z2, .int .u64 z3])) w3) := by
      refine ⟨z3, z2, z1, z0, rfl, l3, l2, l1, l0, ?_, HB⟩
      have e1 : pw64 4 = 115792089237316195423570985008687907853269984665640564039457584007913129639936 := by decide
      rw [e1] at g5
      have e2 : sw a3 a2 a1 a0 = uw a3 a2 a1 a0 - 115792089237316195423570985008687907853269984665640564039457584007913129639936 := by unfold sw; rw [if_neg (by omega)]
      have e3 := uw_bound h3 h2 h1 h0
      have e4 := uw_bound l3 l2 l1 l0
      have e5 : uw 0 0 0 0 = 0 := by decide
      have e6 : uw a3 a2 a1 a0 ≠ 0 := by unfold uw; unfold Word at *; omega
      omega
    have r0 := R0.c0; have r1 := R0.c1; have r2 := R0.c2; have r3 := R0.c3; have f0 := R0.f0; have f1 := R0.f1; have f2 := R0.f2; have f3 := R0.f3
    clear hB g5 g1 g2 g3 g4 HB R0
    go_wp2
    refine bodyPost_ret (v := .agg #[.int .u64 z0, .int .u64 z1, .int .u64 z2, .int .u64 z3]) (by simp [results, Try.results45, go_sem, r0, r1, r2, r3]) rfl ?_
    exact sizeP_set (Nat.le_succ _) HP.out
  · have hb : (a3 / 9223372036854775808 == 1) = false := beq_eq_false_iff_ne.2 (by have := h3.1; omega)
    go_enter Try.func45, Try.ntmps45
    go_wp2_with fail
    refine (isBelow_any a3 a2 a1 a0 h3 false hb _).mono ?_
    rintro e w1 ⟨rfl, hB⟩
    replace A0 := A0.step hB
    replace R0 := R0.step hB
    replace HB := HB.trans (hB.mono HB.size)
    clear hB
    have i0 := A0.c0; have i1 := A0.c1; have i2 := A0.c2; have i3 := A0.c3
    go_wp2_with fail
    refine (wordsOf_any a3 a2 a1 a0 _).mono ?_
    rintro e w2 ⟨rfl, hB⟩
    replace R0 := R0.step hB
    replace HB := HB.trans (hB.mono HB.size)
    have HP : Hid (SizeP (sw a3 a2 a1 a0) w (.returned (.agg #[.int .u64 a0, .int .u64 a1, .int .u64 a2, .int .u64 a3])) w2) := by
      refine ⟨a3, a2, a1, a0, rfl, h3, h2, h1, h0, ?_, HB⟩
      have e2 : sw a3 a2 a1 a0 = uw a3 a2 a1 a0 := by unfold sw; rw [if_pos (by omega)]
      have e3 := uw_bound h3 h2 h1 h0
      omega
    have r0 := R0.c0; have r1 := R0.c1; have r2 := R0.c2; have r3 := R0.c3; have f0 := R0.f0; have f1 := R0.f1; have f2 := R0.f2; have f3 := R0.f3
    clear hB HB R0 A0 i0 i1 i2 i3
    go_wp2
    refine bodyPost_ret (v := .agg #[.int .u64 a0, .int .u64 a1, .int .u64 a2, .int .u64 a3]) (by simp [results, Try.results45, go_sem, r0, r1, r2, r3]) rfl ?_
    exact sizeP_set (Nat.le_succ _) HP.out
/-- How many words are left when those that are 0 at the high end are cut off. -/
def CountP (xs : List Int) (w : World) (e : Ending) (w' : World) : Prop :=
  ∃ n : Nat, e = .returned (.int .i64 n) ∧ n ≤ xs.length ∧ (∀ j, n ≤ j → (h : j < xs.length) → xs[j] = 0) ∧ (∀ m, n = m + 1 → (h : m < xs.length) → xs[m] ≠ 0) ∧ w' = w
theorem count_some (w : World) {xs : List Int} {m : Nat} (hm : m < xs.length) (h0 : xs[m] ≠ 0) (hz : ∀ j, m + 1 ≤ j → (h : j < xs.length) → xs[j] = 0) (v : Int) (hv : v = ((m + 1 : Nat) : Int)) : CountP xs w (.returned (.int .i64 v)) w :=
  ⟨m + 1, by rw [hv], hm, hz, fun i hi hl => by
    have : m = i := by omega
    subst this
    exact h0, rfl⟩
/-- The bits of words by those of the highest one that is not 0. -/
theorem bits_words {xs : List Int} (hw : Words xs) (m : Nat) (hm : m < xs.length) (hz : ∀ j, m + 1 ≤ j → (h : j < xs.length) → xs[j] = 0) (h0 : xs[m] ≠ 0) {b : Nat} (hb : BitsOf xs[m] b) : BitsOf (val64 xs) (64 * m + b) := by
  have hd : val64 (xs.drop (m + 1)) = 0 := by
    have e : xs.drop (m + 1) = List.replicate (xs.length - (m + 1)) 0 := by
      apply List.ext_getElem
      · simp
      · intro i h1 h2
        simp only [List.getElem_drop, List.getElem_replicate]
        exact hz _ (by omega) _
    rw [e]
    generalize xs.length - (m + 1) = q
    induction q with
    | zero => rfl
    | succ q ih => simp [List.replicate_succ, val64, ih]
  have hl := val64_lt (a := xs.take m) (fun x hx => hw x (List.mem_of_mem_take hx))
  have e3 : (xs.take m).length = m := by simp; omega
  rw [e3] at hl
  rw [val64_split xs m hm, hd]
  simp only [Int.mul_zero, Int.add_zero]
  have hp : (2 : Int) ^ (64 * m) = pw64 m := by
    clear hd hl e3 hz h0 hb hm
    induction m with
    | zero => rfl
    | succ m ih => rw [show 64 * (m + 1) = 64 * m + 64 by omega, Int.pow_add, ih, pw64, show (2 : Int) ^ 64 = 18446744073709551616 by decide, Int.mul_comm]
  obtain ⟨g0, g1, g2⟩ := hb
  have p0 := pw64_pos m
  generalize xs[m] = t at *
  have ht : 0 < t := by omega
  refine ⟨by have := Int.mul_nonneg (Int.le_of_lt p0) g0; omega, ?_, Or.inr ?_⟩
  · rw [Int.pow_add, hp]
    have : pw64 m * (t + 1) ≤ pw64 m * 2 ^ b := Int.mul_le_mul_of_nonneg_left (by omega) (by omega)
    rw [Int.mul_add] at this
    omega
  · have hb0 : b ≠ 0 := by rintro rfl; simp at g1; omega
    rcases g2 with g2 | g2
    · exact absurd g2 hb0
    · rw [show 64 * m + b - 1 = 64 * m + (b - 1) by omega, Int.pow_add, hp]
      have : pw64 m * 2 ^ (b - 1) ≤ pw64 m * t := Int.mul_le_mul_of_nonneg_left g2 (by omega)
      omega
end Go.Proofs.Ytinilehbhdpdkaa
