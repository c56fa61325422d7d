/- The product of two rows of words, round by round: the reckoning. -/
import Derived.Test.YtinilehbhdpdkaaTakeW
namespace Go.Proofs.Ytinilehbhdpdkaa
open Go.RowKit
theorem val64_set (zs : List Int) (j : Nat) (h : j < zs.length) (u : Int) : val64 (zs.set j u) = val64 zs + pw64 j * (u - zs[j]) := by
  induction zs generalizing j with
  | nil => simp at h
  | cons d t ih =>
    cases j with
    | zero => simp [val64, pw64]; omega
    | succ j =>
      simp only [List.set_cons_succ, val64, pw64, List.getElem_cons_succ]
      rw [ih j (by simpa using h)]
      grind
theorem pw64_add (i k : Nat) : pw64 (i + k) = pw64 i * pw64 k := by
  induction i with
  | zero => simp [pw64]
  | succ i ih => rw [show i + 1 + k = (i + k) + 1 by omega, pw64, pw64, ih]; grind
theorem words_set {zs : List Int} (h : Words zs) (j : Nat) {u : Int} (hu : Word u) : Words (zs.set j u) := by
  intro d hd
  rcases List.mem_or_eq_of_mem_set hd with h' | h'
  · exact h d h'
  · subst h'; exact hu
theorem tm_arith {P z o : Int} (p0 : 0 ≤ P) (p1 : P ≤ 340282366920938463426481119284349108225) (hz : Word z) (ho : Word o) :
    Word (P / 18446744073709551616) ∧ Word (P % 18446744073709551616) ∧ Word ((P % 18446744073709551616 + z) % 18446744073709551616) ∧
    P / 18446744073709551616 + (P % 18446744073709551616 + z) / 18446744073709551616 < 18446744073709551616 ∧
    ((P % 18446744073709551616 + z) % 18446744073709551616 + o) % 18446744073709551616 = (P + z + o) % 18446744073709551616 ∧
    P / 18446744073709551616 + (P % 18446744073709551616 + z) / 18446744073709551616 + ((P % 18446744073709551616 + z) % 18446744073709551616 + o) / 18446744073709551616 = (P + z + o) / 18446744073709551616 ∧
    Word ((P + z + o) / 18446744073709551616) ∧ Word ((P + z + o) % 18446744073709551616) := by
  unfold Word at *
  refine ⟨?_, ?_, ?_, ?_, ?_, ?_, ?_, ?_⟩ <;> omega
theorem word_mul {x y : Int} (hx : Word x) (hy : Word y) : 0 ≤ x * y ∧ x * y ≤ 340282366920938463426481119284349108225 := by
  unfold Word at *
  refine ⟨Int.mul_nonneg hx.1 hy.1, ?_⟩
  have h1 : x * y ≤ 18446744073709551615 * y := Int.mul_le_mul_of_nonneg_right (by omega) hy.1
  omega
/-- Between the rounds of the inner loop. -/
structure TmJ (xs ys zs : List Int) (i k : Nat) (x o : Int) : Prop where
  len : zs.length = 8
  wds : Words zs
  eq : val64 zs + o * pw64 (i + k) = val64 (xs.take i) * val64 ys + x * (pw64 i * val64 (ys.take k))
  zero : ∀ j, i + 4 ≤ j → (h : j < zs.length) → zs[j] = 0
/-- Between the rounds of the outer loop. -/
structure TmI (xs ys zs : List Int) (i : Nat) : Prop where
  len : zs.length = 8
  wds : Words zs
  eq : val64 zs = val64 (xs.take i) * val64 ys
  zero : ∀ j, i + 4 ≤ j → (h : j < zs.length) → zs[j] = 0
theorem tm_start (xs ys : List Int) : TmI xs ys [0, 0, 0, 0, 0, 0, 0, 0] 0 := by
  refine ⟨rfl, ?_, by simp [val64], ?_⟩
  · intro d hd
    simp at hd
    subst hd
    exact ⟨by decide, by decide⟩
  · intro j _ h
    match j, h with
    | 0, _ => rfl
    | 1, _ => rfl
    | 2, _ => rfl
    | 3, _ => rfl
    | 4, _ => rfl
    | 5, _ => rfl
    | 6, _ => rfl
    | 7, _ => rfl
theorem tm_in {xs ys zs : List Int} {i : Nat} (h : TmI xs ys zs i) (x : Int) : TmJ xs ys zs i 0 x 0 := ⟨h.len, h.wds, by simp [val64, h.eq], h.zero⟩
theorem tm_step {xs ys zs : List Int} {i k : Nat} {x o : Int} (h : TmJ xs ys zs i k x o) (hk : k < ys.length) (hk4 : k < 4) (hj : i + k < zs.length) (T : Int) (hT : T = x * ys[k] + zs[i + k] + o) (hw : Word (T % 18446744073709551616)) :
    TmJ xs ys (zs.set (i + k) (T % 18446744073709551616)) i (k + 1) x (T / 18446744073709551616) := by
  refine ⟨by simpa using h.len, words_set h.wds _ hw, ?_, ?_⟩
  · rw [val64_set zs _ hj, show i + (k + 1) = (i + k) + 1 by omega, pw64, val64_take ys k hk]
    have e := h.eq
    have e2 : T = T % 18446744073709551616 + 18446744073709551616 * (T / 18446744073709551616) := by omega
    have e3 := pw64_add i k
    generalize T / 18446744073709551616 = q at *
    generalize T % 18446744073709551616 = r at *
    generalize zs[i + k] = zk at *
    generalize ys[k] = yk at *
    generalize pw64 (i + k) = p at *
    subst e2
    grind
  · intro j hj1 hj2
    have hj3 : j < zs.length := by simpa using hj2
    rw [List.getElem_set_ne (by omega)]
    exact h.zero j hj1 hj3
theorem tm_out {xs ys zs : List Int} {i : Nat} {o : Int} (hi : i < xs.length) (h : TmJ xs ys zs i 4 xs[i] o) (hy : ys.length = 4) (hj : i + 4 < zs.length) (ho : Word o) : TmI xs ys (zs.set (i + 4) o) (i + 1) := by
  refine ⟨by simpa using h.len, words_set h.wds _ ho, ?_, ?_⟩
  · rw [val64_set zs _ hj, h.zero (i + 4) (Nat.le_refl _) hj, val64_take xs i hi]
    have e := h.eq
    rw [show ys.take 4 = ys from List.take_of_length_le (by omega)] at e
    generalize pw64 (i + 4) = p at *
    grind
  · intro j hj1 hj2
    have hj3 : j < zs.length := by simpa using hj2
    rw [List.getElem_set_ne (by omega)]
    exact h.zero j (by omega) hj3
end Go.Proofs.Ytinilehbhdpdkaa
