/- Long division, digit by digit: the reckoning. -/
import Derived.Test.YtddniklhpkagmaaDivU
namespace Go.Proofs.Ytddniklhpkagmaa
open Go.RowKit
/-- Every number has its words. -/
theorem words_ex (n : Nat) (v : Int) (h0 : 0 ≤ v) (h1 : v < pw64 n) : ∃ zs : List Int, zs.length = n ∧ Words zs ∧ val64 zs = v := by
  induction n generalizing v with
  | zero => exact ⟨[], rfl, words_nil, by simp only [pw64] at h1; simp only [val64]; omega⟩
  | succ n ih =>
    simp only [pw64] at h1
    obtain ⟨zs, e1, e2, e3⟩ := ih (v / 18446744073709551616) (by omega) (by omega)
    refine ⟨v % 18446744073709551616 :: zs, by simp [e1], words_cons.2 ⟨⟨by omega, by omega⟩, e2⟩, ?_⟩
    simp only [val64, e3]
    omega
/-- Words behind which all are 0 are a number less than the base to that place. -/
theorem val64_few {xs : List Int} (hx : Words xs) (n : Nat) (hn : n ≤ xs.length) (hz : ∀ j, n ≤ j → (h : j < xs.length) → xs[j] = 0) : val64 xs = val64 (xs.take n) ∧ val64 xs < pw64 n := by
  have e := val64_part xs n hn
  have hd : xs.drop n = List.replicate (xs.length - n) 0 := by
    apply List.ext_getElem
    · simp
    · intro i h1 h2
      simp only [List.getElem_drop, List.getElem_replicate]
      exact hz _ (by omega) _
  rw [hd, val64_zeros, Int.mul_zero, Int.add_zero] at e
  have l := vq_lt (words_take hx n)
  rw [List.length_take, Nat.min_eq_left hn] at l
  exact ⟨e, by omega⟩
/-- The divisor, moved until its highest bit is set. -/
theorem kn_by {ys bs : List Int} {n m s : Nat} (hm : ys.length = 8) (hy : Words ys) (hmn : m + 1 = n) (hn : n ≤ 8) (hz : ∀ j, n ≤ j → (h : j < ys.length) → ys[j] = 0) (im : m < ys.length) (ht : ys[m] ≠ 0) (hs : s ≤ 64) (hb : BitsOf ys[m] (64 - s)) (bl : bs.length = 9) (bw : Words bs) (bv : val64 bs = 2 ^ s * val64 ys) :
    s < 64 ∧ val64 (bs.take n) = val64 bs ∧ 9223372036854775808 * pw64 m ≤ val64 bs ∧ val64 bs < pw64 n ∧ ∀ k, k + 1 = n → (h : k < bs.length) → bs[k] ≠ 0 := by
  subst hmn
  have wm := words_at hy m im
  obtain ⟨g0, g1, g2⟩ := hb
  have hs64 : s < 64 := by
    apply Decidable.byContradiction
    intro hn
    rw [show 64 - s = 0 by omega] at g1
    simp at g1
    have := wm.1
    omega
  have hp := pow_split s hs
  have p0 : (0 : Int) < 2 ^ s := Int.pow_pos (by decide)
  have q0 := pq_pos m
  obtain ⟨f1, f2⟩ := val64_few hy (m + 1) (by omega) hz
  rw [val64_take ys m im] at f1
  have t0 := val64_nonneg (words_take hy m)
  have t1 := vq_lt (words_take hy m)
  rw [List.length_take, Nat.min_eq_left (by omega)] at t1
  have e1 : (2 : Int) ^ (64 - s) = 2 * 2 ^ (64 - s - 1) := by
    rw [show 64 - s = (64 - s - 1) + 1 by omega, Int.pow_succ, Int.mul_comm]; rfl
  have e2 : (2 : Int) ^ s * 2 ^ (64 - s - 1) = 9223372036854775808 := by
    rw [e1] at hp
    have : (2 : Int) ^ s * (2 * 2 ^ (64 - s - 1)) = 2 * (2 ^ s * 2 ^ (64 - s - 1)) := by grind
    omega
  have low : 9223372036854775808 * pw64 m ≤ val64 bs := by
    rw [bv, f1, ← e2]
    have h1 : pw64 m * 2 ^ (64 - s - 1) ≤ pw64 m * ys[m] := Int.mul_le_mul_of_nonneg_left (by omega) (by omega)
    have h2 : 2 ^ s * (pw64 m * 2 ^ (64 - s - 1)) ≤ 2 ^ s * (val64 (ys.take m) + pw64 m * ys[m]) := Int.mul_le_mul_of_nonneg_left (by omega) (by omega)
    have h3 : (2 : Int) ^ s * 2 ^ (64 - s - 1) * pw64 m = 2 ^ s * (pw64 m * 2 ^ (64 - s - 1)) := by grind
    omega
  have high : val64 bs < pw64 (m + 1) := by
    rw [bv, f1, pw64, ← hp]
    have h1 : pw64 m * (ys[m] + 1) ≤ pw64 m * 2 ^ (64 - s) := Int.mul_le_mul_of_nonneg_left (by omega) (by omega)
    rw [Int.mul_add] at h1
    have h2 : (2 : Int) ^ s * (val64 (ys.take m) + pw64 m * ys[m] + 1) ≤ 2 ^ s * (pw64 m * 2 ^ (64 - s)) := Int.mul_le_mul_of_nonneg_left (by omega) (by omega)
    rw [Int.mul_add _ _ 1] at h2
    have h3 : (2 : Int) ^ s * 2 ^ (64 - s) * pw64 m = 2 ^ s * (pw64 m * 2 ^ (64 - s)) := by grind
    omega
  have tk := (val64_high bw (m + 1) (by omega) high).2
  refine ⟨hs64, tk, low, high, fun k hk h e => ?_⟩
  obtain rfl : k = m := by omega
  rw [val64_take bs k h, e, Int.mul_zero, Int.add_zero] at tk
  have l := vq_lt (words_take bw k)
  rw [List.length_take, Nat.min_eq_left (by omega)] at l
  omega
/-- Between the rounds of the long division: k digits are still to come. -/
structure DlI (X B : Int) (rs qs : List Int) (k : Nat) : Prop where
  rl : rs.length = 9
  rw : Words rs
  ql : qs.length = 8
  qw : Words qs
  eq : X = val64 qs * B + val64 rs
  lt : val64 rs < B * pw64 k
  low : ∀ j, j < k → (h : j < qs.length) → qs[j] = 0
theorem dl_start {B : Int} {rs : List Int} {n c m s : Nat} {X : Int} (rl : rs.length = 9) (rw' : Words rs) (hmn : m + 1 = n) (hn : n ≤ 8) (hc : c ≤ 9) (hz : ∀ j, c ≤ j → (h : j < rs.length) → rs[j] = 0) (hB : 9223372036854775808 * pw64 m ≤ B) (hs : s < 64) (rv : val64 rs = 2 ^ s * X) (hX : X < pw64 8) (k : Nat) (hk : (k : Int) = (if (min c 8 : Nat) < n then 0 else (min c 8 : Nat) - n + 1)) :
    DlI (val64 rs) B rs (List.replicate 8 0) k := by
  have q0 := pq_pos m
  have lt : val64 rs < B * pw64 k := by
    have f := (val64_few rw' c (by omega) hz).2
    have k0 := pq_pos k
    have m1 : pw64 m * pw64 k ≤ B * pw64 k := Int.mul_le_mul_of_nonneg_right (by omega) (by omega)
    rcases Nat.lt_or_ge c 9 with h9 | h9
    · rw [Nat.min_eq_left (by omega)] at hk
      rcases Nat.lt_or_ge c n with hcn | hcn
      · rw [if_pos hcn] at hk
        obtain rfl : k = 0 := by omega
        have := pw64_mono (a := c) (b := m) (by omega)
        simp only [pw64, Int.mul_one] at m1 ⊢
        omega
      · rw [if_neg (by omega)] at hk
        have e : m + k = c := by omega
        rw [← pw64_add, e] at m1
        omega
    · obtain rfl : c = 9 := by omega
      rw [if_neg (by simp; omega)] at hk
      have e : m + k = 8 := by simp at hk; omega
      have p0 : (0 : Int) < 2 ^ s := Int.pow_pos (by decide)
      have p1 := pow_le64 hs
      have h1 : (2 : Int) ^ s * (X + 1) ≤ 2 ^ s * pw64 8 := Int.mul_le_mul_of_nonneg_left (by omega) (by omega)
      rw [Int.mul_add] at h1
      have h2 : (2 : Int) ^ s * pw64 8 ≤ 9223372036854775808 * pw64 8 := Int.mul_le_mul_of_nonneg_right p1 (Int.le_of_lt (pq_pos 8))
      have h3 : 9223372036854775808 * pw64 m * pw64 k ≤ B * pw64 k := Int.mul_le_mul_of_nonneg_right hB (by omega)
      rw [Int.mul_assoc, ← pw64_add, e] at h3
      omega
  refine ⟨rl, rw', rfl, ?_, by rw [val64_zeros]; omega, lt, fun j _ h => List.getElem_replicate _⟩
  intro d hd
  rw [List.eq_of_mem_replicate hd]; exact ⟨by decide, by decide⟩
theorem dl_kn {X B : Int} {rs qs bs : List Int} {n p : Nat} (h : DlI X B rs qs (p + 1)) (bl : bs.length = 9) (bw : Words bs) (hn : 1 ≤ n) (hp : p + n ≤ 8) (tk : val64 (bs.take n) = B) (top : ∀ k, k + 1 = n → (h : k < bs.length) → bs[k] ≠ 0) : Kn rs bs n p := by
  refine ⟨h.rl, bl, h.rw, bw, hn, hp, top, ?_⟩
  rw [tk]
  have hl := h.rl
  have e1 := val64_part rs p (by omega)
  have e2 := val64_part (rs.drop p) (n + 1) (by simp; omega)
  have t0 := val64_nonneg (words_take h.rw p)
  have t1 := val64_nonneg (words_drop (words_drop h.rw p) (n + 1))
  have p0 := pq_pos p
  have p1 := pq_pos (n + 1)
  have lt := h.lt
  rw [pw64, e1] at lt
  have w0 : val64 (win rs p (n + 1)) ≤ val64 (rs.drop p) := by
    unfold win
    have := Int.mul_nonneg (Int.le_of_lt p1) t1
    omega
  apply Int.lt_of_mul_lt_mul_left (a := pw64 p) _ (by omega)
  have m1 : pw64 p * val64 (win rs p (n + 1)) ≤ pw64 p * val64 (rs.drop p) := Int.mul_le_mul_of_nonneg_left w0 (by omega)
  have e3 : B * (18446744073709551616 * pw64 p) = pw64 p * (18446744073709551616 * B) := by grind
  omega
theorem dl_step {X B : Int} {rs qs rs' : List Int} {n p : Nat} (h : DlI X B rs qs (p + 1)) (hn : 1 ≤ n) (hp : p + n ≤ 8) (B0 : 0 < B) (hB : B < pw64 n) (K : val64 (win rs p (n + 1)) < 18446744073709551616 * B) (rl : rs'.length = 9) (rw' : Words rs') (rv : val64 rs' = val64 rs - pw64 p * (val64 (win rs p (n + 1)) / B * B)) :
    Word (val64 (win rs p (n + 1)) / B) ∧ DlI X B rs' (qs.set p (val64 (win rs p (n + 1)) / B)) p := by
  have hl := h.rl
  have ql := h.ql
  have W0 := val64_nonneg (win_words h.rw p (n + 1))
  have hq : Word (val64 (win rs p (n + 1)) / B) := ⟨Int.ediv_nonneg W0 (by omega), Int.ediv_lt_of_lt_mul B0 K⟩
  refine ⟨hq, rl, rw', by simpa using ql, words_set h.qw _ hq, ?_, ?_, fun j hj hh => ?_⟩
  · rw [val64_set qs p (by omega), h.low p (by omega) (by omega), rv, Int.sub_zero]
    have := h.eq
    generalize val64 (win rs p (n + 1)) / B = q at *
    generalize pw64 p = P at *
    grind
  · rw [rv]
    have e1 := val64_part rs p (by omega)
    have e2 := val64_part (rs.drop p) (n + 1) (by simp; omega)
    have t1 := vq_lt (words_take h.rw p)
    rw [List.length_take, Nat.min_eq_left (by omega)] at t1
    have p0 := pq_pos p
    have big : val64 rs < pw64 (p + (n + 1)) := by
      have lt := h.lt
      rw [pw64] at lt
      rw [pw64_add, pw64]
      have m1 : pw64 p * (18446744073709551616 * (B + 1)) ≤ pw64 p * (18446744073709551616 * pw64 n) := Int.mul_le_mul_of_nonneg_left (by omega) (by omega)
      have e3 : B * (18446744073709551616 * pw64 p) = pw64 p * (18446744073709551616 * B) := by grind
      have e4 : pw64 p * (18446744073709551616 * (B + 1)) = pw64 p * (18446744073709551616 * B) + 18446744073709551616 * pw64 p := by grind
      omega
    have hz := (val64_high h.rw (p + (n + 1)) (by omega) big).1
    rw [List.drop_drop, hz, Int.mul_zero, Int.add_zero] at e2
    have e5 : val64 (win rs p (n + 1)) = val64 (rs.drop p) := by unfold win; rw [e2]
    rw [e1, ← e5]
    have e6 := Int.mul_ediv_add_emod (val64 (win rs p (n + 1))) B
    have e7 := Int.emod_lt_of_pos (val64 (win rs p (n + 1))) B0
    generalize val64 (win rs p (n + 1)) / B = q at *
    generalize val64 (win rs p (n + 1)) % B = r at *
    generalize val64 (win rs p (n + 1)) = W at *
    have e8 : pw64 p * (r + 1) ≤ pw64 p * B := Int.mul_le_mul_of_nonneg_left (by omega) (by omega)
    have e9 : pw64 p * (q * B) = pw64 p * W - pw64 p * r := by rw [← e6]; grind
    rw [Int.mul_add] at e8
    rw [e9, Int.mul_comm B]
    omega
  · have hh' : j < qs.length := by simpa using hh
    rw [List.getElem_set_ne (by omega)]
    exact h.low j (by omega) hh'
theorem dl_end {X Y B : Int} {rs qs : List Int} {s : Nat} (h : DlI (2 ^ s * X) B rs qs 0) (hY : 0 < Y) (hB : B = 2 ^ s * Y) : val64 qs = X / Y ∧ val64 rs = 2 ^ s * (X % Y) := by
  have p0 : (0 : Int) < 2 ^ s := Int.pow_pos (by decide)
  have e := h.eq
  have lt := h.lt
  rw [pw64, Int.mul_one, hB] at lt
  rw [hB] at e
  have r0 := val64_nonneg h.rw
  generalize val64 rs = R at *
  generalize val64 qs = Q at *
  have e1 : R = 2 ^ s * (X - Q * Y) := by grind
  have r1 : 0 ≤ X - Q * Y := by
    apply Decidable.byContradiction
    intro hn
    have h1 : (2 : Int) ^ s * (X - Q * Y + 1) ≤ 2 ^ s * 0 := Int.mul_le_mul_of_nonneg_left (by omega) (by omega)
    rw [Int.mul_add] at h1
    omega
  have r2 : X - Q * Y < Y := by
    apply Int.lt_of_mul_lt_mul_left (a := 2 ^ s) _ (by omega)
    omega
  have e2 : X = (X - Q * Y) + Y * Q := by grind
  have q : X / Y = Q := by
    rw [e2, Int.add_mul_ediv_left _ _ (by omega), Int.ediv_eq_zero_of_lt r1 r2]; omega
  have r : X % Y = X - Q * Y := by
    have := Int.mul_ediv_add_emod X Y
    rw [q] at this
    have e3 : Y * Q = Q * Y := Int.mul_comm _ _
    omega
  exact ⟨q.symm, by rw [r]; exact e1⟩
end Go.Proofs.Ytddniklhpkagmaa
