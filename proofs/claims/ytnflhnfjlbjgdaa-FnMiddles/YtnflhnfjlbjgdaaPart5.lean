/- Part 5 of the walks that the proof leans on. -/
import Derived.Test.YtnflhnfjlbjgdaaPart4
import Derived.Test.YtnflhnfjlbjgdaaPart2
import Derived.Deep.RegionHeld3
import Derived.Deep.DeepCutAuto
import Derived.Deep.QuietTactic
import Derived.BigQuiet
import Derived.Test.YtnflhnfjlbjgdaaPart3
import Derived.Deep.MidRow
/- Long division, digit by digit: the reckoning. -/
namespace Go.Proofs.Ytnflhnfjlbjgdaa
open Go.RowKit
/-- Every number has its words. -/
theorem words_ex (n : Nat) (v : Int) (h0 : 0 ≤ v) (h1 : v < pw64 n) : ∃ zs : List Int, zs.length = n ∧ Words zs ∧ val64 zs = v := by
  induction n generalizing v with
  | zero => exact ⟨[], rfl, words_nil, by simp only [pw64] at h1; simp only [val64]; omega⟩
  | succ n ih =>
    simp only [pw64] at h1
    obtain ⟨zs, e1, e2, e3⟩ := ih (v / 18446744073709551616) (by omega) (by omega)
    refine ⟨v % 18446744073709551616 :: zs, by simp [e1], words_cons.2 ⟨⟨by omega, by omega⟩, e2⟩, ?_⟩
    simp only [val64, e3]
    omega
/-- Words behind which all are 0 are a number less than the base to that place. -/
theorem val64_few {xs : List Int} (hx : Words xs) (n : Nat) (hn : n ≤ xs.length) (hz : ∀ j, n ≤ j → (h : j < xs.length) → xs[j] = 0) : val64 xs = val64 (xs.take n) ∧ val64 xs < pw64 n := by
  have e := val64_part xs n hn
  have hd : xs.drop n = List.replicate (xs.length - n) 0 := by
    apply List.ext_getElem
    · simp
    · intro i h1 h2
      simp only [List.getElem_drop, List.getElem_replicate]
      exact hz _ (by omega) _
  rw [hd, val64_zeros, Int.mul_zero, Int.add_zero] at e
  have l := vq_lt (words_take hx n)
  rw [List.length_take, Nat.min_eq_left hn] at l
  exact ⟨e, by omega⟩
/-- The divisor, moved until its highest bit is set. -/
theorem kn_by {ys bs : List Int} {n m s : Nat} (hm : ys.length = 8) (hy : Words ys) (hmn : m + 1 = n) (hn : n ≤ 8) (hz : ∀ j, n ≤ j → (h : j < ys.length) → ys[j] = 0) (im : m < ys.length) (ht : ys[m] ≠ 0) (hs : s ≤ 64) (hb : BitsOf ys[m] (64 - s)) (bl : bs.length = 9) (bw : Words bs) (bv : val64 bs = 2 ^ s * val64 ys) :
    s < 64 ∧ val64 (bs.take n) = val64 bs ∧ 9223372036854775808 * pw64 m ≤ val64 bs ∧ val64 bs < pw64 n ∧ ∀ k, k + 1 = n → (h : k < bs.length) → bs[k] ≠ 0 := by
  subst hmn
  have wm := words_at hy m im
  obtain ⟨g0, g1, g2⟩ := hb
  have hs64 : s < 64 := by
    apply Decidable.byContradiction
    intro hn
    rw [show 64 - s = 0 by omega] at g1
    simp at g1
    have := wm.1
    omega
  have hp := pow_split s hs
  have p0 : (0 : Int) < 2 ^ s := Int.pow_pos (by decide)
  have q0 := pq_pos m
  obtain ⟨f1, f2⟩ := val64_few hy (m + 1) (by omega) hz
  rw [val64_take ys m im] at f1
  have t0 := val64_nonneg (words_take hy m)
  have t1 := vq_lt (words_take hy m)
  rw [List.length_take, Nat.min_eq_left (by omega)] at t1
  have e1 : (2 : Int) ^ (64 - s) = 2 * 2 ^ (64 - s - 1) := by
    rw [show 64 - s = (64 - s - 1) + 1 by omega, Int.pow_succ, Int.mul_comm]; rfl
  have e2 : (2 : Int) ^ s * 2 ^ (64 - s - 1) = 9223372036854775808 := by
    rw [e1] at hp
    have : (2 : Int) ^ s * (2 * 2 ^ (64 - s - 1)) = 2 * (2 ^ s * 2 ^ (64 - s - 1)) := by grind
    omega
  have low : 9223372036854775808 * pw64 m ≤ val64 bs := by
    rw [bv, f1, ← e2]
    have h1 : pw64 m * 2 ^ (64 - s - 1) ≤ pw64 m * ys[m] := Int.mul_le_mul_of_nonneg_left (by omega) (by omega)
    have h2 : 2 ^ s * (pw64 m * 2 ^ (64 - s - 1)) ≤ 2 ^ s * (val64 (ys.take m) + pw64 m * ys[m]) := Int.mul_le_mul_of_nonneg_left (by omega) (by omega)
    have h3 : (2 : Int) ^ s * 2 ^ (64 - s - 1) * pw64 m = 2 ^ s * (pw64 m * 2 ^ (64 - s - 1)) := by grind
    omega
  have high : val64 bs < pw64 (m + 1) := by
    rw [bv, f1, pw64, ← hp]
    have h1 : pw64 m * (ys[m] + 1) ≤ pw64 m * 2 ^ (64 - s) := Int.mul_le_mul_of_nonneg_left (by omega) (by omega)
    rw [Int.mul_add] at h1
    have h2 : (2 : Int) ^ s * (val64 (ys.take m) + pw64 m * ys[m] + 1) ≤ 2 ^ s * (pw64 m * 2 ^ (64 - s)) := Int.mul_le_mul_of_nonneg_left (by omega) (by omega)
    rw [Int.mul_add _ _ 1] at h2
    have h3 : (2 : Int) ^ s * 2 ^ (64 - s) * pw64 m = 2 ^ s * (pw64 m * 2 ^ (64 - s)) := by grind
    omega
  have tk := (val64_high bw (m + 1) (by omega) high).2
  refine ⟨hs64, tk, low, high, fun k hk h e => ?_⟩
  obtain rfl : k = m := by omega
  rw [val64_take bs k h, e, Int.mul_zero, Int.add_zero] at tk
  have l := vq_lt (words_take bw k)
  rw [List.length_take, Nat.min_eq_left (by omega)] at l
  omega
/-- Between the rounds of the long division: k digits are still to come. -/
structure DlI (X B : Int) (rs qs : List Int) (k : Nat) : Prop where
  rl : rs.length = 9
  rw : Words rs
  ql : qs.length = 8
  qw : Words qs
  eq : X = val64 qs * B + val64 rs
  lt : val64 rs < B * pw64 k
  low : ∀ j, j < k → (h : j < qs.length) → qs[j] = 0
theorem dl_start {B : Int} {rs : List Int} {n c m s : Nat} {X : Int} (rl : rs.length = 9) (rw' : Words rs) (hmn : m + 1 = n) (hn : n ≤ 8) (hc : c ≤ 9) (hz : ∀ j, c ≤ j → (h : j < rs.length) → rs[j] = 0) (hB : 9223372036854775808 * pw64 m ≤ B) (hs : s < 64) (rv : val64 rs = 2 ^ s * X) (hX : X < pw64 8) (k : Nat) (hk : (k : Int) = (if (min c 8 : Nat) < n then 0 else (min c 8 : Nat) - n + 1)) :
    DlI (val64 rs) B rs (List.replicate 8 0) k := by
  have q0 := pq_pos m
  have lt : val64 rs < B * pw64 k := by
    have f := (val64_few rw' c (by omega) hz).2
    have k0 := pq_pos k
    have m1 : pw64 m * pw64 k ≤ B * pw64 k := Int.mul_le_mul_of_nonneg_right (by omega) (by omega)
    rcases Nat.lt_or_ge c 9 with h9 | h9
    · rw [Nat.min_eq_left (by omega)] at hk
      rcases Nat.lt_or_ge c n with hcn | hcn
      · rw [if_pos hcn] at hk
        obtain rfl : k = 0 := by omega
        have := pw64_mono (a := c) (b := m) (by omega)
        simp only [pw64, Int.mul_one] at m1 ⊢
        omega
      · rw [if_neg (by omega)] at hk
        have e : m + k = c := by omega
        rw [← pw64_add, e] at m1
        omega
    · obtain rfl : c = 9 := by omega
      rw [if_neg (by simp; omega)] at hk
      have e : m + k = 8 := by simp at hk; omega
      have p0 : (0 : Int) < 2 ^ s := Int.pow_pos (by decide)
      have p1 := pow_le64 hs
      have h1 : (2 : Int) ^ s * (X + 1) ≤ 2 ^ s * pw64 8 := Int.mul_le_mul_of_nonneg_left (by omega) (by omega)
      rw [Int.mul_add] at h1
      have h2 : (2 : Int) ^ s * pw64 8 ≤ 9223372036854775808 * pw64 8 := Int.mul_le_mul_of_nonneg_right p1 (Int.le_of_lt (pq_pos 8))
      have h3 : 9223372036854775808 * pw64 m * pw64 k ≤ B * pw64 k := Int.mul_le_mul_of_nonneg_right hB (by omega)
      rw [Int.mul_assoc, ← pw64_add, e] at h3
      omega
  refine ⟨rl, rw', rfl, ?_, by rw [val64_zeros]; omega, lt, fun j _ h => List.getElem_replicate _⟩
  intro d hd
  rw [List.eq_of_mem_replicate hd]; exact ⟨by decide, by decide⟩
theorem dl_kn {X B : Int} {rs qs bs : List Int} {n p : Nat} (h : DlI X B rs qs (p + 1)) (bl : bs.length = 9) (bw : Words bs) (hn : 1 ≤ n) (hp : p + n ≤ 8) (tk : val64 (bs.take n) = B) (top : ∀ k, k + 1 = n → (h : k < bs.length) → bs[k] ≠ 0) : Kn rs bs n p := by
  refine ⟨h.rl, bl, h.rw, bw, hn, hp, top, ?_⟩
  rw [tk]
  have hl := h.rl
  have e1 := val64_part rs p (by omega)
  have e2 := val64_part (rs.drop p) (n + 1) (by simp; omega)
  have t0 := val64_nonneg (words_take h.rw p)
  have t1 := val64_nonneg (words_drop (words_drop h.rw p) (n + 1))
  have p0 := pq_pos p
  have p1 := pq_pos (n + 1)
  have lt := h.lt
  rw [pw64, e1] at lt
  have w0 : val64 (win rs p (n + 1)) ≤ val64 (rs.drop p) := by
    unfold win
    have := Int.mul_nonneg (Int.le_of_lt p1) t1
    omega
  apply Int.lt_of_mul_lt_mul_left (a := pw64 p) _ (by omega)
  have m1 : pw64 p * val64 (win rs p (n + 1)) ≤ pw64 p * val64 (rs.drop p) := Int.mul_le_mul_of_nonneg_left w0 (by omega)
  have e3 : B * (18446744073709551616 * pw64 p) = pw64 p * (18446744073709551616 * B) := by grind
  omega
theorem dl_step {X B : Int} {rs qs rs' : List Int} {n p : Nat} (h : DlI X B rs qs (p + 1)) (hn : 1 ≤ n) (hp : p + n ≤ 8) (B0 : 0 < B) (hB : B < pw64 n) (K : val64 (win rs p (n + 1)) < 18446744073709551616 * B) (rl : rs'.length = 9) (rw' : Words rs') (rv : val64 rs' = val64 rs - pw64 p * (val64 (win rs p (n + 1)) / B * B)) :
    Word (val64 (win rs p (n + 1)) / B) ∧ DlI X B rs' (qs.set p (val64 (win rs p (n + 1)) / B)) p := by
  have hl := h.rl
  have ql := h.ql
  have W0 := val64_nonneg (win_words h.rw p (n + 1))
  have hq : Word (val64 (win rs p (n + 1)) / B) := ⟨Int.ediv_nonneg W0 (by omega), Int.ediv_lt_of_lt_mul B0 K⟩
  refine ⟨hq, rl, rw', by simpa using ql, words_set h.qw _ hq, ?_, ?_, fun j hj hh => ?_⟩
  · rw [val64_set qs p (by omega), h.low p (by omega) (by omega), rv, Int.sub_zero]
    have := h.eq
    generalize val64 (win rs p (n + 1)) / B = q at *
    generalize pw64 p = P at *
    grind
  · rw [rv]
    have e1 := val64_part rs p (by omega)
    have e2 := val64_part (rs.drop p) (n + 1) (by simp; omega)
    have t1 := vq_lt (words_take h.rw p)
    rw [List.length_take, Nat.min_eq_left (by omega)] at t1
    have p0 := pq_pos p
    have big : val64 rs < pw64 (p + (n + 1)) := by
      have lt := h.lt
      rw [pw64] at lt
      rw [pw64_add, pw64]
      have m1 : pw64 p * (18446744073709551616 * (B + 1)) ≤ pw64 p * (18446744073709551616 * pw64 n) := Int.mul_le_mul_of_nonneg_left (by omega) (by omega)
      have e3 : B * (18446744073709551616 * pw64 p) = pw64 p * (18446744073709551616 * B) := by grind
      have e4 : pw64 p * (18446744073709551616 * (B + 1)) = pw64 p * (18446744073709551616 * B) + 18446744073709551616 * pw64 p := by grind
      omega
    have hz := (val64_high h.rw (p + (n + 1)) (by omega) big).1
    rw [List.drop_drop, hz, Int.mul_zero, Int.add_zero] at e2
    have e5 : val64 (win rs p (n + 1)) = val64 (rs.drop p) := by unfold win; rw [e2]
    rw [e1, ← e5]
    have e6 := Int.mul_ediv_add_emod (val64 (win rs p (n + 1))) B
    have e7 := Int.emod_lt_of_pos (val64 (win rs p (n + 1))) B0
    generalize val64 (win rs p (n + 1)) / B = q at *
    generalize val64 (win rs p (n + 1)) % B = r at *
    generalize val64 (win rs p (n + 1)) = W at *
    have e8 : pw64 p * (r + 1) ≤ pw64 p * B := Int.mul_le_mul_of_nonneg_left (by omega) (by omega)
    have e9 : pw64 p * (q * B) = pw64 p * W - pw64 p * r := by rw [← e6]; grind
    rw [Int.mul_add] at e8
    rw [e9, Int.mul_comm B]
    omega
  · have hh' : j < qs.length := by simpa using hh
    rw [List.getElem_set_ne (by omega)]
    exact h.low j (by omega) hh'
theorem dl_end {X Y B : Int} {rs qs : List Int} {s : Nat} (h : DlI (2 ^ s * X) B rs qs 0) (hY : 0 < Y) (hB : B = 2 ^ s * Y) : val64 qs = X / Y ∧ val64 rs = 2 ^ s * (X % Y) := by
  have p0 : (0 : Int) < 2 ^ s := Int.pow_pos (by decide)
  have e := h.eq
  have lt := h.lt
  rw [pw64, Int.mul_one, hB] at lt
  rw [hB] at e
  have r0 := val64_nonneg h.rw
  generalize val64 rs = R at *
  generalize val64 qs = Q at *
  have e1 : R = 2 ^ s * (X - Q * Y) := by grind
  have r1 : 0 ≤ X - Q * Y := by
    apply Decidable.byContradiction
    intro hn
    have h1 : (2 : Int) ^ s * (X - Q * Y + 1) ≤ 2 ^ s * 0 := Int.mul_le_mul_of_nonneg_left (by omega) (by omega)
    rw [Int.mul_add] at h1
    omega
  have r2 : X - Q * Y < Y := by
    apply Int.lt_of_mul_lt_mul_left (a := 2 ^ s) _ (by omega)
    omega
  have e2 : X = (X - Q * Y) + Y * Q := by grind
  have q : X / Y = Q := by
    rw [e2, Int.add_mul_ediv_left _ _ (by omega), Int.ediv_eq_zero_of_lt r1 r2]; omega
  have r : X % Y = X - Q * Y := by
    have := Int.mul_ediv_add_emod X Y
    rw [q] at this
    have e3 : Y * Q = Q * Y := Int.mul_comm _ _
    omega
  exact ⟨q.symm, by rw [r]; exact e1⟩
end Go.Proofs.Ytnflhnfjlbjgdaa

/- Four words in a block of memory, and what is kept of them. -/
namespace Go.Proofs.Ytnflhnfjlbjgdaa
open Go.RowKit
/-- Four words lie in the block g. -/
structure Wd (W : World) (g : Nat) (a3 a2 a1 a0 : Int) : Prop where
  c0 : W.cell? ⟨g, 0, none⟩ = some (.int .u64 a3)
  c1 : W.cell? ⟨g, 1, none⟩ = some (.int .u64 a2)
  c2 : W.cell? ⟨g, 2, none⟩ = some (.int .u64 a1)
  c3 : W.cell? ⟨g, 3, none⟩ = some (.int .u64 a0)
  f0 : W.frozen? ⟨g, 0, none⟩ = false
  f1 : W.frozen? ⟨g, 1, none⟩ = false
  f2 : W.frozen? ⟨g, 2, none⟩ = false
  f3 : W.frozen? ⟨g, 3, none⟩ = false
  lt : g < W.heap.size
theorem Wd.step {W W' : World} {g : Nat} {a3 a2 a1 a0 : Int} (h : Wd W g a3 a2 a1 a0) (hb : Below W.heap.size W W') : Wd W' g a3 a2 a1 a0 := by
  have hc := fun o => hb.cell (p := ⟨g, o, none⟩) h.lt
  have hf := fun o => hb.frozen (p := ⟨g, o, none⟩) h.lt
  exact ⟨(hc _).trans h.c0, (hc _).trans h.c1, (hc _).trans h.c2, (hc _).trans h.c3, (hf _).trans h.f0, (hf _).trans h.f1, (hf _).trans h.f2, (hf _).trans h.f3, Nat.lt_of_lt_of_le h.lt hb.size⟩
theorem Wd.drew {W : World} {g : Nat} {a3 a2 a1 a0 : Int} (h : Wd W g a3 a2 a1 a0) : Wd W.drew g a3 a2 a1 a0 := ⟨h.c0, h.c1, h.c2, h.c3, h.f0, h.f1, h.f2, h.f3, h.lt⟩
theorem Wd.alloc {W : World} {g : Nat} {a3 a2 a1 a0 : Int} (h : Wd W g a3 a2 a1 a0) (o : Obj) : Wd (W.alloc o) g a3 a2 a1 a0 := h.step ((Below.refl _ _).alloc (Nat.le_refl _) o)
theorem Wd.new (W : World) (a3 a2 a1 a0 : Int) (T : TypeId) {g : Nat} (hg : g = W.heap.size) : Wd (W.alloc (Obj.cells #[Value.int IntKind.u64 a3, Value.int IntKind.u64 a2, Value.int IntKind.u64 a1, Value.int IntKind.u64 a0] T)) g a3 a2 a1 a0 := by
  subst hg
  exact ⟨by simp [go_sem], by simp [go_sem], by simp [go_sem], by simp [go_sem], by simp [go_sem], by simp [go_sem], by simp [go_sem], by simp [go_sem], by simp⟩
theorem Wd.set {W : World} {g R : Nat} {a3 a2 a1 a0 : Int} (h : Wd W g a3 a2 a1 a0) (hne : g ≠ R) (u0 u1 u2 u3 : Value) : Wd ((((W.setCell ⟨R, 0, none⟩ u0).setCell ⟨R, 1, none⟩ u1).setCell ⟨R, 2, none⟩ u2).setCell ⟨R, 3, none⟩ u3) g a3 a2 a1 a0 := by
  have hn : ∀ o j, (⟨R, j, none⟩ : Addr) ≠ ⟨g, o, none⟩ := by intro o j e; simp only [Addr.mk.injEq] at e; exact hne e.1.symm
  have hc : ∀ o, ((((W.setCell ⟨R, 0, none⟩ u0).setCell ⟨R, 1, none⟩ u1).setCell ⟨R, 2, none⟩ u2).setCell ⟨R, 3, none⟩ u3).cell? ⟨g, o, none⟩ = W.cell? ⟨g, o, none⟩ := fun o => by
    rw [World.cell?_setCell_other _ _ _ _ (hn o 3), World.cell?_setCell_other _ _ _ _ (hn o 2), World.cell?_setCell_other _ _ _ _ (hn o 1), World.cell?_setCell_other _ _ _ _ (hn o 0)]
  have hf : ∀ o, ((((W.setCell ⟨R, 0, none⟩ u0).setCell ⟨R, 1, none⟩ u1).setCell ⟨R, 2, none⟩ u2).setCell ⟨R, 3, none⟩ u3).frozen? ⟨g, o, none⟩ = W.frozen? ⟨g, o, none⟩ := fun o => by simp [go_sem]
  exact ⟨(hc _).trans h.c0, (hc _).trans h.c1, (hc _).trans h.c2, (hc _).trans h.c3, (hf _).trans h.f0, (hf _).trans h.f1, (hf _).trans h.f2, (hf _).trans h.f3, by simpa [World.setCell] using h.lt⟩
/-- Two boxed numbers of four words, as a call that takes two finds them. -/
structure TwoW (w W : World) (a3 a2 a1 a0 b3 b2 b1 b0 : Int) : Prop where
  a : Wd W w.heap.size a3 a2 a1 a0
  b : Wd W (w.heap.size + 1) b3 b2 b1 b0
  below : Below w.heap.size w W
theorem TwoW.step {w W W' : World} {a3 a2 a1 a0 b3 b2 b1 b0 : Int} (h : TwoW w W a3 a2 a1 a0 b3 b2 b1 b0) (hb : Below W.heap.size W W') : TwoW w W' a3 a2 a1 a0 b3 b2 b1 b0 := ⟨h.a.step hb, h.b.step hb, h.below.trans (hb.mono h.below.size)⟩
theorem TwoW.drew {w W : World} {a3 a2 a1 a0 b3 b2 b1 b0 : Int} (h : TwoW w W a3 a2 a1 a0 b3 b2 b1 b0) : TwoW w W.drew a3 a2 a1 a0 b3 b2 b1 b0 := ⟨h.a.drew, h.b.drew, h.below.drew⟩
theorem TwoW.alloc {w W : World} {a3 a2 a1 a0 b3 b2 b1 b0 : Int} (h : TwoW w W a3 a2 a1 a0 b3 b2 b1 b0) (o : Obj) : TwoW w (W.alloc o) a3 a2 a1 a0 b3 b2 b1 b0 := h.step ((Below.refl _ _).alloc (Nat.le_refl _) o)
theorem TwoW.set {w W : World} {R : Nat} {a3 a2 a1 a0 b3 b2 b1 b0 : Int} (h : TwoW w W a3 a2 a1 a0 b3 b2 b1 b0) (hR : w.heap.size + 1 < R) (u0 u1 u2 u3 : Value) : TwoW w ((((W.setCell ⟨R, 0, none⟩ u0).setCell ⟨R, 1, none⟩ u1).setCell ⟨R, 2, none⟩ u2).setCell ⟨R, 3, none⟩ u3) a3 a2 a1 a0 b3 b2 b1 b0 :=
  ⟨h.a.set (by omega) _ _ _ _, h.b.set (by omega) _ _ _ _, tell_below h.below (by omega)⟩
/-- What a region that reads both holds on to. -/
def Cells8 (w W : World) (a3 a2 a1 a0 b3 b2 b1 b0 : Int) : Prop :=
  W.cell? ⟨w.heap.size, 0, none⟩ = some (.int .u64 a3) ∧ W.cell? ⟨w.heap.size, 1, none⟩ = some (.int .u64 a2) ∧ W.cell? ⟨w.heap.size, 2, none⟩ = some (.int .u64 a1) ∧ W.cell? ⟨w.heap.size, 3, none⟩ = some (.int .u64 a0) ∧
  W.cell? ⟨w.heap.size + 1, 0, none⟩ = some (.int .u64 b3) ∧ W.cell? ⟨w.heap.size + 1, 1, none⟩ = some (.int .u64 b2) ∧ W.cell? ⟨w.heap.size + 1, 2, none⟩ = some (.int .u64 b1) ∧ W.cell? ⟨w.heap.size + 1, 3, none⟩ = some (.int .u64 b0)
theorem TwoW.cells {w W : World} {a3 a2 a1 a0 b3 b2 b1 b0 : Int} (h : TwoW w W a3 a2 a1 a0 b3 b2 b1 b0) : Cells8 w W a3 a2 a1 a0 b3 b2 b1 b0 := ⟨h.a.c0, h.a.c1, h.a.c2, h.a.c3, h.b.c0, h.b.c1, h.b.c2, h.b.c3⟩
theorem tellP_set {z : Int} {w W : World} {R : Nat} {e : Ending} {u0 u1 u2 u3 : Value} (hR : w.heap.size ≤ R) (h : TellP z w e W) : TellP z w e ((((W.setCell ⟨R, 0, none⟩ u0).setCell ⟨R, 1, none⟩ u1).setCell ⟨R, 2, none⟩ u2).setCell ⟨R, 3, none⟩ u3) := ⟨tell_below h.1 hR, h.2⟩
theorem tellP_drew {z : Int} {w W : World} {e : Ending} (h : TellP z w e W) : TellP z w e W.drew := ⟨h.1.drew, h.2⟩
theorem tellP_from {z : Int} {w W W' : World} {e : Ending} (hB : Below w.heap.size w W) (h : TellP z W e W') : TellP z w e W' := ⟨hB.trans (h.1.mono hB.size), h.2⟩
/-- A tell's value: four words and a flag. -/
theorem tellP_shape {z : Int} {w W : World} {e : Ending} (h : TellP z w e W) : ∃ a3 a2 a1 a0 b, e = .returned (.tuple #[.agg #[.int .u64 a3, .int .u64 a2, .int .u64 a1, .int .u64 a0], .bool b]) := by
  rcases h.2 with ⟨_, a3, a2, a1, a0, e, _⟩ | ⟨_, e⟩
  · exact ⟨a3, a2, a1, a0, true, e⟩
  · exact ⟨0, 0, 0, 0, false, e⟩
end Go.Proofs.Ytnflhnfjlbjgdaa

/- The walks of words made from four words and back. -/
namespace Go.Proofs.Ytnflhnfjlbjgdaa
open Go.RowKit
set_option maxRecDepth 100000 in
set_option maxHeartbeats 400000 in
theorem wordsOf_any (a3 a2 a1 a0 : Int) (w : World) :
    Calls Try.prog 99 #[.agg #[.int .u64 a3, .int .u64 a2, .int .u64 a1, .int .u64 a0]] w (WideP a0 a1 a2 a3 w) := by
  go_enter Try.func99, Try.ntmps99
  go_wp2
  refine bodyPost_ret (v := .agg #[.int .u64 a0, .int .u64 a1, .int .u64 a2, .int .u64 a3]) (by simp [results, Try.results99, go_sem]) rfl ?_
  exact ⟨rfl, ((Below.refl _ _).alloc (Nat.le_refl _) _).alloc (by simp) _⟩
theorem words4 {a0 a1 a2 a3 : Int} (h0 : Word a0) (h1 : Word a1) (h2 : Word a2) (h3 : Word a3) : Words [a0, a1, a2, a3] := by
  intro d hd
  simp only [List.mem_cons, List.not_mem_nil, or_false] at hd
  rcases hd with rfl | rfl | rfl | rfl
  · exact h0
  · exact h1
  · exact h2
  · exact h3
theorem words4_of {a0 a1 a2 a3 : Int} (h : Words [a0, a1, a2, a3]) : Word a0 ∧ Word a1 ∧ Word a2 ∧ Word a3 := ⟨h _ (by simp), h _ (by simp), h _ (by simp), h _ (by simp)⟩
theorem val64_4 (a0 a1 a2 a3 : Int) : val64 [a0, a1, a2, a3] = uw a3 a2 a1 a0 := by simp only [val64, uw]; omega
end Go.Proofs.Ytnflhnfjlbjgdaa

/- The walks of the program's sum and difference of four words. -/
namespace Go.Proofs.Ytnflhnfjlbjgdaa
open Go.RowKit
theorem Wd.stored {W : World} {g : Nat} {a3 a2 a1 a0 : Int} (h : Wd W g a3 a2 a1 a0) (z3 z2 z1 z0 : Int) : Wd ((((W.setCell ⟨g, 0, none⟩ (.int .u64 z3)).setCell ⟨g, 1, none⟩ (.int .u64 z2)).setCell ⟨g, 2, none⟩ (.int .u64 z1)).setCell ⟨g, 3, none⟩ (.int .u64 z0)) g z3 z2 z1 z0 := by
  have e0 := h.c0; have e1 := h.c1; have e2 := h.c2; have e3 := h.c3
  have p0 := h.f0; have p1 := h.f1; have p2 := h.f2; have p3 := h.f3
  exact ⟨by simp [go_sem, e0], by simp [go_sem, e1], by simp [go_sem, e2], by simp [go_sem, e3], by simp [go_sem, p0], by simp [go_sem, p1], by simp [go_sem, p2], by simp [go_sem, p3], by simpa [World.setCell] using h.lt⟩
end Go.Proofs.Ytnflhnfjlbjgdaa

/- The walk of the program's comparison of four words. -/
namespace Go.Proofs.Ytnflhnfjlbjgdaa
open Go.RowKit
theorem Wd.new2 (W : World) (o : Obj) (a3 a2 a1 a0 : Int) (T : TypeId) : Wd ((W.alloc o).alloc (Obj.cells #[Value.int IntKind.u64 a3, Value.int IntKind.u64 a2, Value.int IntKind.u64 a1, Value.int IntKind.u64 a0] T)) (W.heap.size + 1) a3 a2 a1 a0 := Wd.new _ _ _ _ _ _ (by simp)
theorem pw64_pos (n : Nat) : 0 < pw64 n := by
  induction n with
  | zero => simp [pw64]
  | succ n ih => simp only [pw64]; omega
theorem val64_lt {a : List Int} (h : Words a) : 0 ≤ val64 a ∧ val64 a < pw64 a.length := by
  induction a with
  | nil => simp [val64, pw64]
  | cons d t ih =>
    have h1 := h d (by simp)
    have h2 := ih (fun x hx => h x (by simp [hx]))
    unfold Word at h1
    simp only [val64, List.length_cons, pw64]; omega
theorem val64_append (a b : List Int) : val64 (a ++ b) = val64 a + pw64 a.length * val64 b := by
  induction a with
  | nil => simp [val64, pw64]
  | cons d t ih => simp only [List.cons_append, val64, List.length_cons, pw64, ih]; grind
theorem val64_split (a : List Int) (k : Nat) (h : k < a.length) : val64 a = val64 (a.take k) + pw64 k * (a[k] + 18446744073709551616 * val64 (a.drop (k + 1))) := by
  have h1 := val64_append (a.take k) (a.drop k)
  rw [List.take_append_drop, List.drop_eq_getElem_cons h] at h1
  simpa [val64, Nat.min_eq_left (Nat.le_of_lt h)] using h1
end Go.Proofs.Ytnflhnfjlbjgdaa

/- The walks of a number's size without its sign, of the count of its words and of its bits, and of the law over them. -/
namespace Go.Proofs.Ytnflhnfjlbjgdaa
open Go.RowKit
theorem wd0 : Word 0 := ⟨by decide, by decide⟩
/-- Four words that stand for a number without its sign, the lowest first. -/
def SizeP (z : Int) (w : World) (e : Ending) (w' : World) : Prop :=
  ∃ x3 x2 x1 x0, e = .returned (.agg #[.int .u64 x0, .int .u64 x1, .int .u64 x2, .int .u64 x3]) ∧ Word x3 ∧ Word x2 ∧ Word x1 ∧ Word x0 ∧ uw x3 x2 x1 x0 = (z.natAbs : Int) ∧ Below w.heap.size w w'
theorem sizeP_set {z : Int} {w W : World} {R : Nat} {e : Ending} {u0 u1 u2 u3 : Value} (hR : w.heap.size ≤ R) (h : SizeP z w e W) : SizeP z w e ((((W.setCell ⟨R, 0, none⟩ u0).setCell ⟨R, 1, none⟩ u1).setCell ⟨R, 2, none⟩ u2).setCell ⟨R, 3, none⟩ u3) := by
  obtain ⟨x3, x2, x1, x0, e1, h3, h2, h1, h0, hu, hB⟩ := h
  exact ⟨x3, x2, x1, x0, e1, h3, h2, h1, h0, hu, tell_below hB hR⟩
set_option maxRecDepth 100000 in
set_option maxHeartbeats 1000000 in
theorem sizeOf_any (a3 a2 a1 a0 : Int) (h3 : Word a3) (h2 : Word a2) (h1 : Word a1) (h0 : Word a0) (w : World) :
    Calls Try.prog 77 #[.agg #[.int .u64 a3, .int .u64 a2, .int .u64 a1, .int .u64 a0]] w (SizeP (sw a3 a2 a1 a0) w) := by
  have hn := sw_neg h3 h2 h1 h0
  have A0 : Wd ((w.alloc (Obj.cells #[Value.int IntKind.u64 a3, Value.int IntKind.u64 a2, Value.int IntKind.u64 a1, Value.int IntKind.u64 a0] 26)).alloc (Obj.cells #[Value.int IntKind.u64 0, Value.int IntKind.u64 0, Value.int IntKind.u64 0, Value.int IntKind.u64 0] 109)) w.heap.size a3 a2 a1 a0 := (Wd.new _ _ _ _ _ 26 rfl).alloc _
  have R0 : Wd ((w.alloc (Obj.cells #[Value.int IntKind.u64 a3, Value.int IntKind.u64 a2, Value.int IntKind.u64 a1, Value.int IntKind.u64 a0] 26)).alloc (Obj.cells #[Value.int IntKind.u64 0, Value.int IntKind.u64 0, Value.int IntKind.u64 0, Value.int IntKind.u64 0] 109)) (w.heap.size + 1) 0 0 0 0 := Wd.new _ 0 0 0 0 109 (by simp)
  have HB : Below w.heap.size w ((w.alloc (Obj.cells #[Value.int IntKind.u64 a3, Value.int IntKind.u64 a2, Value.int IntKind.u64 a1, Value.int IntKind.u64 a0] 26)).alloc (Obj.cells #[Value.int IntKind.u64 0, Value.int IntKind.u64 0, Value.int IntKind.u64 0, Value.int IntKind.u64 0] 109)) := ((Below.refl _ _).alloc (Nat.le_refl _) _).alloc (by simp) _
  by_cases hp : 9223372036854775808 ≤ a3
  · have hb : (a3 / 9223372036854775808 == 1) = true := beq_iff_eq.2 (by have := h3.2; omega)
    go_enter Try.func77, Try.ntmps77
    go_wp2_with fail
    refine (isBelow_any a3 a2 a1 a0 h3 true hb _).mono ?_
    rintro e w1 ⟨rfl, hB⟩
    replace A0 := A0.step hB
    replace R0 := R0.step hB
    replace HB := HB.trans (hB.mono HB.size)
    clear hB
    have i0 := A0.c0; have i1 := A0.c1; have i2 := A0.c2; have i3 := A0.c3
    go_wp2_with fail
    refine (wordsOf_any a3 a2 a1 a0 _).mono ?_
    rintro e w2 ⟨rfl, hB⟩
    replace R0 := R0.step hB
    replace HB := HB.trans (hB.mono HB.size)
    clear hB A0 i0 i1 i2 i3
    go_wp2_with fail
    refine (minus4 0 0 0 0 a0 a1 a2 a3 (words4 wd0 wd0 wd0 wd0) (words4 h0 h1 h2 h3) _).mono ?_
    rintro e w3 ⟨zs, c, rfl, g1, g2, g3, g4, g5, hB⟩
    obtain ⟨z0, z1, z2, z3, rfl⟩ := list4 g1
    obtain ⟨l0, l1, l2, l3⟩ := words4_of g2
    rw [val64_4, val64_4, val64_4, show [(0 : Int), 0, 0, 0].length = 4 from rfl] at g5
    replace R0 := R0.step hB
    replace HB := HB.trans (hB.mono HB.size)
    have HP : Hid (SizeP (sw a3 a2 a1 a0) w (.returned (.agg #[.int .u64 z0, .int .u64 z1, .int .u64 z2, .int .u64 z3])) w3) := by
      refine ⟨z3, z2, z1, z0, rfl, l3, l2, l1, l0, ?_, HB⟩
      have e1 : pw64 4 = 115792089237316195423570985008687907853269984665640564039457584007913129639936 := by decide
      rw [e1] at g5
      have e2 : sw a3 a2 a1 a0 = uw a3 a2 a1 a0 - 115792089237316195423570985008687907853269984665640564039457584007913129639936 := by unfold sw; rw [if_neg (by omega)]
      have e3 := uw_bound h3 h2 h1 h0
      have e4 := uw_bound l3 l2 l1 l0
      have e5 : uw 0 0 0 0 = 0 := by decide
      have e6 : uw a3 a2 a1 a0 ≠ 0 := by unfold uw; unfold Word at *; omega
      omega
    have r0 := R0.c0; have r1 := R0.c1; have r2 := R0.c2; have r3 := R0.c3; have f0 := R0.f0; have f1 := R0.f1; have f2 := R0.f2; have f3 := R0.f3
    clear hB g5 g1 g2 g3 g4 HB R0
    go_wp2
    refine bodyPost_ret (v := .agg #[.int .u64 z0, .int .u64 z1, .int .u64 z2, .int .u64 z3]) (by simp [results, Try.results77, go_sem, r0, r1, r2, r3]) rfl ?_
    exact sizeP_set (Nat.le_succ _) HP.out
  · have hb : (a3 / 9223372036854775808 == 1) = false := beq_eq_false_iff_ne.2 (by have := h3.1; omega)
    go_enter Try.func77, Try.ntmps77
    go_wp2_with fail
    refine (isBelow_any a3 a2 a1 a0 h3 false hb _).mono ?_
    rintro e w1 ⟨rfl, hB⟩
    replace A0 := A0.step hB
    replace R0 := R0.step hB
    replace HB := HB.trans (hB.mono HB.size)
    clear hB
    have i0 := A0.c0; have i1 := A0.c1; have i2 := A0.c2; have i3 := A0.c3
    go_wp2_with fail
    refine (wordsOf_any a3 a2 a1 a0 _).mono ?_
    rintro e w2 ⟨rfl, hB⟩
    replace R0 := R0.step hB
    replace HB := HB.trans (hB.mono HB.size)
    have HP : Hid (SizeP (sw a3 a2 a1 a0) w (.returned (.agg #[.int .u64 a0, .int .u64 a1, .int .u64 a2, .int .u64 a3])) w2) := by
      refine ⟨a3, a2, a1, a0, rfl, h3, h2, h1, h0, ?_, HB⟩
      have e2 : sw a3 a2 a1 a0 = uw a3 a2 a1 a0 := by unfold sw; rw [if_pos (by omega)]
      have e3 := uw_bound h3 h2 h1 h0
      omega
    have r0 := R0.c0; have r1 := R0.c1; have r2 := R0.c2; have r3 := R0.c3; have f0 := R0.f0; have f1 := R0.f1; have f2 := R0.f2; have f3 := R0.f3
    clear hB HB R0 A0 i0 i1 i2 i3
    go_wp2
    refine bodyPost_ret (v := .agg #[.int .u64 a0, .int .u64 a1, .int .u64 a2, .int .u64 a3]) (by simp [results, Try.results77, go_sem, r0, r1, r2, r3]) rfl ?_
    exact sizeP_set (Nat.le_succ _) HP.out
/-- How many words are left when those that are 0 at the high end are cut off. -/
def CountP (xs : List Int) (w : World) (e : Ending) (w' : World) : Prop :=
  ∃ n : Nat, e = .returned (.int .i64 n) ∧ n ≤ xs.length ∧ (∀ j, n ≤ j → (h : j < xs.length) → xs[j] = 0) ∧ (∀ m, n = m + 1 → (h : m < xs.length) → xs[m] ≠ 0) ∧ w' = w
theorem count_some (w : World) {xs : List Int} {m : Nat} (hm : m < xs.length) (h0 : xs[m] ≠ 0) (hz : ∀ j, m + 1 ≤ j → (h : j < xs.length) → xs[j] = 0) (v : Int) (hv : v = ((m + 1 : Nat) : Int)) : CountP xs w (.returned (.int .i64 v)) w :=
  ⟨m + 1, by rw [hv], hm, hz, fun i hi hl => by
    have : m = i := by omega
    subst this
    exact h0, rfl⟩
set_option maxRecDepth 100000 in
set_option maxHeartbeats 400000 in
theorem countWords_any (A off n cap : Nat) (xs : List Int) (w : World) (hn : xs.length = n) (hr : Row w A off xs) (hm : n ≤ 1000) :
    Calls Try.prog 79 #[.slice (some ⟨A, off, none⟩) n cap] w (CountP xs w) := by
  go_enter Try.func79, Try.ntmps79
  go_wp2
  go_loop [3] (fun i => ∃ k : Nat, k ≤ n ∧ i = .int .i64 k ∧ ∀ j, k ≤ j → (h : j < xs.length) → xs[j] = 0) (fun i => (intOf i).toNat)
  case atStart => exact ⟨n, Nat.le_refl _, rfl, fun j h1 h2 => by omega⟩
  case round =>
    obtain ⟨k, hk, rfl, hz⟩ := hrel
    have HN : Hid (xs.length = n) := hn
    have HZ : Hid (∀ j, k ≤ j → (h : j < xs.length) → xs[j] = 0) := hz
    have HR : Hid (Row w A off xs) := hr
    clear hz hr hn
    by_cases hk0 : 0 < k
    · obtain ⟨m, rfl⟩ : ∃ m, k = m + 1 := ⟨k - 1, by omega⟩
      have hml : m < xs.length := by have := HN.out; omega
      have hcell := HR.out.cell m hml
      go_wp2
      · go_round
        case rel =>
          have h0 : (xs[m] == 0) = true := by assumption
          exact ⟨m, by omega, by go_num, fun j h1 h2 => by
            by_cases e : j = m
            · subst e; simpa using h0
            · exact HZ.out j (by omega) h2⟩
        case measure => simp [intOf]
      · have h0 : (xs[m] == 0) = false := by assumption
        go_ret
        exact count_some w hml (by simpa using h0) HZ.out _ (by omega)
    · go_wp2
      go_ret
      exact ⟨k, rfl, by have := HN.out; omega, HZ.out, fun i hi => by omega, rfl⟩
/-- The bits of words by those of the highest one that is not 0. -/
theorem bits_words {xs : List Int} (hw : Words xs) (m : Nat) (hm : m < xs.length) (hz : ∀ j, m + 1 ≤ j → (h : j < xs.length) → xs[j] = 0) (h0 : xs[m] ≠ 0) {b : Nat} (hb : BitsOf xs[m] b) : BitsOf (val64 xs) (64 * m + b) := by
  have hd : val64 (xs.drop (m + 1)) = 0 := by
    have e : xs.drop (m + 1) = List.replicate (xs.length - (m + 1)) 0 := by
      apply List.ext_getElem
      · simp
      · intro i h1 h2
        simp only [List.getElem_drop, List.getElem_replicate]
        exact hz _ (by omega) _
    rw [e]
    generalize xs.length - (m + 1) = q
    induction q with
    | zero => rfl
    | succ q ih => simp [List.replicate_succ, val64, ih]
  have hl := val64_lt (a := xs.take m) (fun x hx => hw x (List.mem_of_mem_take hx))
  have e3 : (xs.take m).length = m := by simp; omega
  rw [e3] at hl
  rw [val64_split xs m hm, hd]
  simp only [Int.mul_zero, Int.add_zero]
  have hp : (2 : Int) ^ (64 * m) = pw64 m := by
    clear hd hl e3 hz h0 hb hm
    induction m with
    | zero => rfl
    | succ m ih => rw [show 64 * (m + 1) = 64 * m + 64 by omega, Int.pow_add, ih, pw64, show (2 : Int) ^ 64 = 18446744073709551616 by decide, Int.mul_comm]
  obtain ⟨g0, g1, g2⟩ := hb
  have p0 := pw64_pos m
  generalize xs[m] = t at *
  have ht : 0 < t := by omega
  refine ⟨by have := Int.mul_nonneg (Int.le_of_lt p0) g0; omega, ?_, Or.inr ?_⟩
  · rw [Int.pow_add, hp]
    have : pw64 m * (t + 1) ≤ pw64 m * 2 ^ b := Int.mul_le_mul_of_nonneg_left (by omega) (by omega)
    rw [Int.mul_add] at this
    omega
  · have hb0 : b ≠ 0 := by rintro rfl; simp at g1; omega
    rcases g2 with g2 | g2
    · exact absurd g2 hb0
    · rw [show 64 * m + b - 1 = 64 * m + (b - 1) by omega, Int.pow_add, hp]
      have : pw64 m * 2 ^ (b - 1) ≤ pw64 m * t := Int.mul_le_mul_of_nonneg_left g2 (by omega)
      omega
set_option maxRecDepth 100000 in
set_option maxHeartbeats 1000000 in
theorem implBits_any (a3 a2 a1 a0 : Int) (h3 : Word a3) (h2 : Word a2) (h1 : Word a1) (h0 : Word a0) (w : World) :
    Calls Try.prog 91 #[.agg #[.int .u64 a3, .int .u64 a2, .int .u64 a1, .int .u64 a0]] w (BitsP ((sw a3 a2 a1 a0).natAbs : Int) w) := by
  go_enter Try.func91, Try.ntmps91
  go_wp2_with fail
  refine (sizeOf_any a3 a2 a1 a0 h3 h2 h1 h0 _).mono ?_
  rintro e w1 ⟨x3, x2, x1, x0, rfl, l3, l2, l1, l0, hu, hB⟩
  have hB1 : Below w.heap.size w w1 := ((Below.refl _ _).alloc (Nat.le_refl _) _).trans (hB.mono (by simp))
  clear hB
  have HU : Hid (uw x3 x2 x1 x0 = ((sw a3 a2 a1 a0).natAbs : Int)) := hu
  clear hu
  have G0 := Wd.new w1 x0 x1 x2 x3 109 rfl
  have HR := row_of4 G0.lt G0.c0 G0.c1 G0.c2 G0.c3 G0.f0 G0.f1 G0.f2 G0.f3
  have hB2 := hB1.alloc hB1.size (Obj.cells #[Value.int IntKind.u64 x0, Value.int IntKind.u64 x1, Value.int IntKind.u64 x2, Value.int IntKind.u64 x3] 109)
  clear G0
  go_wp2_with fail
  refine (countWords_any w1.heap.size 0 4 4 [x0, x1, x2, x3] _ rfl HR (by omega)).mono ?_
  rintro e w2 ⟨n, rfl, hn, hz, hnz, rfl⟩
  have HW := words4 l0 l1 l2 l3
  have HV := val64_4 x0 x1 x2 x3
  generalize hxs : [x0, x1, x2, x3] = xs at *
  have hlx : xs.length = 4 := by rw [← hxs]; rfl
  rw [hlx] at hn
  by_cases hn0 : n = 0
  · subst hn0
    have hv0 : val64 xs = 0 := by
      rw [HV]
      have c0 := hz 0 (by omega) (by omega); have c1 := hz 1 (by omega) (by omega); have c2 := hz 2 (by omega) (by omega); have c3 := hz 3 (by omega) (by omega)
      subst hxs
      simp at c0 c1 c2 c3
      subst c0 c1 c2 c3
      decide
    have HE : Hid (((sw a3 a2 a1 a0).natAbs : Int) = 0) := by show _ = _; rw [← HU.out, ← HV, hv0]
    clear hz hnz HR HW HV hv0 hlx hxs
    go_wp2
    go_ret
    exact ⟨0, rfl, by rw [HE.out]; exact ⟨by decide, by decide, Or.inl rfl⟩, hB2⟩
  · obtain ⟨m, rfl⟩ : ∃ m, n = m + 1 := ⟨n - 1, by omega⟩
    have hml : m < xs.length := by omega
    have hnz' := hnz m rfl hml
    have hc := HR.cell m hml
    rw [Nat.zero_add] at hc
    have hwm := words_at HW m hml
    have HB := fun b hb => bits_words HW m hml hz hnz' (b := b) hb
    rw [HV, HU.out] at HB
    have HB' : Hid (∀ b : Nat, BitsOf xs[m] b → BitsOf ((sw a3 a2 a1 a0).natAbs : Int) (64 * m + b)) := HB
    have hm4 : (m : Int) < 4 := by omega
    have hmn : ((m : Int) + 1 == 0) = false := beq_eq_false_iff_ne.2 (by omega)
    clear hz hnz HR HW HV hxs HB hnz'
    go_wp2_with fail
    refine (len64_any xs[m] hwm _).mono ?_
    rintro e w3 ⟨b, rfl, hb, hB3⟩
    have hb64 : b ≤ 64 := (bits_le hb 64).2 (by rw [show (2 : Int) ^ 64 = 18446744073709551616 by decide]; exact hwm.2)
    have HH : Hid (BitsOf ((sw a3 a2 a1 a0).natAbs : Int) (64 * m + b)) := HB'.out b hb
    have hB4 := hB2.trans (hB3.mono hB2.size)
    clear hb hB3 hB2 HB'
    go_wp2
    go_ret
    exact ⟨64 * m + b, ret_int (by omega), HH.out, hB4⟩
end Go.Proofs.Ytnflhnfjlbjgdaa

/- The program's long division: what lies in memory around its first statements. -/
namespace Go.Proofs.Ytnflhnfjlbjgdaa
open Go.RowKit
theorem liftUp_det (xs : List Int) (r : Nat) (hl : xs.length = 8) (hx : Words xs) (hr : r < 64) (zs : List Int) (zl : zs.length = 9) (zw : Words zs) (zv : val64 zs = 2 ^ r * val64 xs) (w : World) : Calls Try.prog 104 #[agg xs, .int .i64 r] w (fun e w' => e = .returned (agg zs) ∧ Below w.heap.size w w') := by
  refine (liftUp_any xs r hl hx hr w).mono ?_
  rintro e w1 ⟨us, rfl, h1, h2, h3, hB⟩
  obtain rfl : us = zs := val64_inj h2 zw (h1.trans zl.symm) (h3.trans zv.symm)
  exact ⟨rfl, hB⟩
theorem dl_cells {x0 x1 x2 x3 x4 x5 x6 x7 y0 y1 y2 y3 y4 y5 y6 y7 : Int} {w W : World} (h : ArgsB w W [[.int .u64 x0, .int .u64 x1, .int .u64 x2, .int .u64 x3, .int .u64 x4, .int .u64 x5, .int .u64 x6, .int .u64 x7], [.int .u64 y0, .int .u64 y1, .int .u64 y2, .int .u64 y3, .int .u64 y4, .int .u64 y5, .int .u64 y6, .int .u64 y7], [.int .u64 0, .int .u64 0, .int .u64 0, .int .u64 0, .int .u64 0, .int .u64 0, .int .u64 0, .int .u64 0], [.int .u64 0, .int .u64 0, .int .u64 0, .int .u64 0, .int .u64 0, .int .u64 0, .int .u64 0, .int .u64 0]]) : (fun w' => w'.cell? ⟨w.heap.size, 0, none⟩ = some (.int .u64 x0) ∧ w'.cell? ⟨w.heap.size, 1, none⟩ = some (.int .u64 x1) ∧ w'.cell? ⟨w.heap.size, 2, none⟩ = some (.int .u64 x2) ∧ w'.cell? ⟨w.heap.size, 3, none⟩ = some (.int .u64 x3) ∧ w'.cell? ⟨w.heap.size, 4, none⟩ = some (.int .u64 x4) ∧ w'.cell? ⟨w.heap.size, 5, none⟩ = some (.int .u64 x5) ∧ w'.cell? ⟨w.heap.size, 6, none⟩ = some (.int .u64 x6) ∧ w'.cell? ⟨w.heap.size, 7, none⟩ = some (.int .u64 x7) ∧ w'.cell? ⟨w.heap.size + 1, 0, none⟩ = some (.int .u64 y0) ∧ w'.cell? ⟨w.heap.size + 1, 1, none⟩ = some (.int .u64 y1) ∧ w'.cell? ⟨w.heap.size + 1, 2, none⟩ = some (.int .u64 y2) ∧ w'.cell? ⟨w.heap.size + 1, 3, none⟩ = some (.int .u64 y3) ∧ w'.cell? ⟨w.heap.size + 1, 4, none⟩ = some (.int .u64 y4) ∧ w'.cell? ⟨w.heap.size + 1, 5, none⟩ = some (.int .u64 y5) ∧ w'.cell? ⟨w.heap.size + 1, 6, none⟩ = some (.int .u64 y6) ∧ w'.cell? ⟨w.heap.size + 1, 7, none⟩ = some (.int .u64 y7)) W :=
  ⟨(h.b 0 rfl).c 0 rfl, (h.b 0 rfl).c 1 rfl, (h.b 0 rfl).c 2 rfl, (h.b 0 rfl).c 3 rfl, (h.b 0 rfl).c 4 rfl, (h.b 0 rfl).c 5 rfl, (h.b 0 rfl).c 6 rfl, (h.b 0 rfl).c 7 rfl, (h.b 1 rfl).c 0 rfl, (h.b 1 rfl).c 1 rfl, (h.b 1 rfl).c 2 rfl, (h.b 1 rfl).c 3 rfl, (h.b 1 rfl).c 4 rfl, (h.b 1 rfl).c 5 rfl, (h.b 1 rfl).c 6 rfl, (h.b 1 rfl).c 7 rfl⟩
theorem dl_args (x0 x1 x2 x3 x4 x5 x6 x7 y0 y1 y2 y3 y4 y5 y6 y7 : Int) (w : World) : ArgsB w ((((w.alloc (.cells #[.int .u64 x0, .int .u64 x1, .int .u64 x2, .int .u64 x3, .int .u64 x4, .int .u64 x5, .int .u64 x6, .int .u64 x7] 67)).alloc (.cells #[.int .u64 y0, .int .u64 y1, .int .u64 y2, .int .u64 y3, .int .u64 y4, .int .u64 y5, .int .u64 y6, .int .u64 y7] 67)).alloc (.cells #[.int .u64 0, .int .u64 0, .int .u64 0, .int .u64 0, .int .u64 0, .int .u64 0, .int .u64 0, .int .u64 0] 67)).alloc (.cells #[.int .u64 0, .int .u64 0, .int .u64 0, .int .u64 0, .int .u64 0, .int .u64 0, .int .u64 0, .int .u64 0] 67)) [[.int .u64 x0, .int .u64 x1, .int .u64 x2, .int .u64 x3, .int .u64 x4, .int .u64 x5, .int .u64 x6, .int .u64 x7], [.int .u64 y0, .int .u64 y1, .int .u64 y2, .int .u64 y3, .int .u64 y4, .int .u64 y5, .int .u64 y6, .int .u64 y7], [.int .u64 0, .int .u64 0, .int .u64 0, .int .u64 0, .int .u64 0, .int .u64 0, .int .u64 0, .int .u64 0], [.int .u64 0, .int .u64 0, .int .u64 0, .int .u64 0, .int .u64 0, .int .u64 0, .int .u64 0, .int .u64 0]] := by
  refine ⟨((((Below.refl _ _).alloc (Nat.le_refl _) _).alloc (by simp) _).alloc (by simp; omega) _).alloc (by simp; omega) _, fun j vs hj => ?_⟩
  match j, hj with
  | 0, hj => cases hj; exact (((Blk.new w [.int .u64 x0, .int .u64 x1, .int .u64 x2, .int .u64 x3, .int .u64 x4, .int .u64 x5, .int .u64 x6, .int .u64 x7] 67 rfl).alloc _).alloc _).alloc _
  | 1, hj => cases hj; exact ((Blk.new (w.alloc (.cells #[.int .u64 x0, .int .u64 x1, .int .u64 x2, .int .u64 x3, .int .u64 x4, .int .u64 x5, .int .u64 x6, .int .u64 x7] 67)) [.int .u64 y0, .int .u64 y1, .int .u64 y2, .int .u64 y3, .int .u64 y4, .int .u64 y5, .int .u64 y6, .int .u64 y7] 67 (by simp)).alloc _).alloc _
  | 2, hj => cases hj; exact (Blk.new ((w.alloc (.cells #[.int .u64 x0, .int .u64 x1, .int .u64 x2, .int .u64 x3, .int .u64 x4, .int .u64 x5, .int .u64 x6, .int .u64 x7] 67)).alloc (.cells #[.int .u64 y0, .int .u64 y1, .int .u64 y2, .int .u64 y3, .int .u64 y4, .int .u64 y5, .int .u64 y6, .int .u64 y7] 67)) [.int .u64 0, .int .u64 0, .int .u64 0, .int .u64 0, .int .u64 0, .int .u64 0, .int .u64 0, .int .u64 0] 67 (by simp)).alloc _
  | 3, hj => cases hj; exact Blk.new (((w.alloc (.cells #[.int .u64 x0, .int .u64 x1, .int .u64 x2, .int .u64 x3, .int .u64 x4, .int .u64 x5, .int .u64 x6, .int .u64 x7] 67)).alloc (.cells #[.int .u64 y0, .int .u64 y1, .int .u64 y2, .int .u64 y3, .int .u64 y4, .int .u64 y5, .int .u64 y6, .int .u64 y7] 67)).alloc (.cells #[.int .u64 0, .int .u64 0, .int .u64 0, .int .u64 0, .int .u64 0, .int .u64 0, .int .u64 0, .int .u64 0] 67)) [.int .u64 0, .int .u64 0, .int .u64 0, .int .u64 0, .int .u64 0, .int .u64 0, .int .u64 0, .int .u64 0] 67 (by simp)
  | j + 4, hj => simp at hj
theorem ArgsB.lt4 {w W : World} {a b c d : List Value} (h : ArgsB w W [a, b, c, d]) : w.heap.size + 3 < W.heap.size := (h.b 3 rfl).lt
theorem Blk.newS (W : World) (o : Obj) (vs : List Value) (T : TypeId) : Blk ((W.alloc o).alloc (.cells vs.toArray T)) (W.heap.size + 1) vs := Blk.new _ _ _ (by simp)
theorem size_cells (b : Nat) : ∀ (vs : List Value) (o : Nat) (w : World), (w.setCells b o vs).heap.size = w.heap.size
  | [], _, _ => rfl
  | v :: r, o, w => by rw [World.setCells, size_cells b r]; simp [World.setCell]
theorem Blk.cellsO {g b : Nat} {zs : List Value} (hne : g ≠ b) : ∀ (vs : List Value) (o : Nat) {w : World}, Blk w g zs → Blk (w.setCells b o vs) g zs
  | [], _, _, h => h
  | v :: r, o, w, h => by rw [World.setCells]; exact Blk.cellsO hne r (o + 1) (h.setO hne v)
theorem Blk.cellsI {w : World} {g : Nat} {zs vs : List Value} (h : Blk w g zs) (hl : vs.length = zs.length) : Blk (w.setCells g 0 vs) g vs := by
  refine ⟨by rw [size_cells]; exact h.lt, fun i v hi => ?_⟩
  have hil : i < vs.length := by
    apply Decidable.byContradiction
    intro hn
    rw [List.getElem?_eq_none (by omega)] at hi
    simp at hi
  have hc : ∀ j, j < vs.length → (w.cell? ⟨g, 0 + j, none⟩).isSome = true := fun j hj => by
    rw [Nat.zero_add, h.c j (List.getElem?_eq_getElem (by omega))]; rfl
  have e := World.cell?_setCells_in g vs 0 w hc i hil
  rw [Nat.zero_add] at e
  rw [List.getElem?_eq_getElem hil] at hi
  cases hi
  exact ⟨e, by rw [World.frozen?_setCells]; exact h.f i (List.getElem?_eq_getElem (by omega))⟩
theorem below_cells {B g : Nat} {w0 : World} (hg : B ≤ g) : ∀ (vs : List Value) (o : Nat) {w : World}, Below B w0 w → Below B w0 (w.setCells g o vs)
  | [], _, _, h => h
  | v :: r, o, w, h => by rw [World.setCells]; exact below_cells hg r (o + 1) (h.setCell hg v)
theorem ArgsB.cells {w W : World} {a b c d : List Value} (h : ArgsB w W [a, b, c, d]) {g : Nat} (hg : w.heap.size + 3 < g) (vs : List Value) : ArgsB w (W.setCells g 0 vs) [a, b, c, d] := by
  refine ⟨below_cells (by omega) vs 0 h.1, fun j us hj => Blk.cellsO ?_ vs 0 (h.2 j us hj)⟩
  have : j < 4 := by
    apply Decidable.byContradiction
    intro hn
    rw [List.getElem?_eq_none (by simp; omega)] at hj
    simp at hj
  omega
theorem Blk.there {W : World} {g : Nat} {vs : List Value} (h : Blk W g vs) {n : Nat} (hn : vs.length = n) : W.there g 0 n := fun j hj => by
  rw [Nat.zero_add, h.c j (List.getElem?_eq_getElem (by omega)), h.f j (List.getElem?_eq_getElem (by omega))]
  exact ⟨rfl, rfl⟩
theorem there_cells (W : World) (b : Nat) (vs : List Value) (g n : Nat) (h : W.there g 0 n) : (W.setCells b 0 vs).there g 0 n := World.there_setCells h b 0 vs
theorem ArgsB.set9 {w W : World} {a b c d : List Value} (h : ArgsB w W [a, b, c, d]) {g : Nat} (hg : w.heap.size + 3 < g) (v0 v1 v2 v3 v4 v5 v6 v7 v8 : Value) : ArgsB w (((((((((W.setCell ⟨g, 0, none⟩ v0).setCell ⟨g, 1, none⟩ v1).setCell ⟨g, 2, none⟩ v2).setCell ⟨g, 3, none⟩ v3).setCell ⟨g, 4, none⟩ v4).setCell ⟨g, 5, none⟩ v5).setCell ⟨g, 6, none⟩ v6).setCell ⟨g, 7, none⟩ v7).setCell ⟨g, 8, none⟩ v8) [a, b, c, d] :=
  (((((((((h.set (by exact hg) _).set (by exact hg) _).set (by exact hg) _).set (by exact hg) _).set (by exact hg) _).set (by exact hg) _).set (by exact hg) _).set (by exact hg) _).set (by exact hg) _)
theorem Blk.stored9 {W : World} {g : Nat} {z0 z1 z2 z3 z4 z5 z6 z7 z8 : Value} (G : Blk W g [z0, z1, z2, z3, z4, z5, z6, z7, z8]) (v0 v1 v2 v3 v4 v5 v6 v7 v8 : Value) : Blk (((((((((W.setCell ⟨g, 0, none⟩ v0).setCell ⟨g, 1, none⟩ v1).setCell ⟨g, 2, none⟩ v2).setCell ⟨g, 3, none⟩ v3).setCell ⟨g, 4, none⟩ v4).setCell ⟨g, 5, none⟩ v5).setCell ⟨g, 6, none⟩ v6).setCell ⟨g, 7, none⟩ v7).setCell ⟨g, 8, none⟩ v8) g [v0, v1, v2, v3, v4, v5, v6, v7, v8] :=
  (((((((((G.setI 0 (by simp) v0).setI 1 (by simp) v1).setI 2 (by simp) v2).setI 3 (by simp) v3).setI 4 (by simp) v4).setI 5 (by simp) v5).setI 6 (by simp) v6).setI 7 (by simp) v7).setI 8 (by simp) v8)
theorem Blk.set9 {W : World} {vs : List Value} {v0 v1 v2 v3 v4 v5 v6 v7 v8 : Value} {g g' : Nat} (G : Blk W g' vs) (hg : g' ≠ g) : Blk (((((((((W.setCell ⟨g, 0, none⟩ v0).setCell ⟨g, 1, none⟩ v1).setCell ⟨g, 2, none⟩ v2).setCell ⟨g, 3, none⟩ v3).setCell ⟨g, 4, none⟩ v4).setCell ⟨g, 5, none⟩ v5).setCell ⟨g, 6, none⟩ v6).setCell ⟨g, 7, none⟩ v7).setCell ⟨g, 8, none⟩ v8) g' vs :=
  (((((((((G.setO (by exact hg) _).setO (by exact hg) _).setO (by exact hg) _).setO (by exact hg) _).setO (by exact hg) _).setO (by exact hg) _).setO (by exact hg) _).setO (by exact hg) _).setO (by exact hg) _)
theorem below_set8 {B g : Nat} {w W : World} {v0 v1 v2 v3 v4 v5 v6 v7 : Value} (hg : B ≤ g) (h : Below B w W) : Below B w ((((((((W.setCell ⟨g, 0, none⟩ v0).setCell ⟨g, 1, none⟩ v1).setCell ⟨g, 2, none⟩ v2).setCell ⟨g, 3, none⟩ v3).setCell ⟨g, 4, none⟩ v4).setCell ⟨g, 5, none⟩ v5).setCell ⟨g, 6, none⟩ v6).setCell ⟨g, 7, none⟩ v7) :=
  ((((((((h.setCell hg _).setCell hg _).setCell hg _).setCell hg _).setCell hg _).setCell hg _).setCell hg _).setCell hg _)
/-- Two rows laid behind the arguments. -/
def CutD (w wx : World) (vss : List (List Value)) (xs ys : List Value) (p q : Value) : Prop :=
  ∃ g g', p = .pointer (some ⟨g, 0, none⟩) ∧ q = .pointer (some ⟨g', 0, none⟩) ∧ g ≠ g' ∧ w.heap.size + 3 < g ∧ w.heap.size + 3 < g' ∧ ArgsB w wx vss ∧ Blk wx g xs ∧ Blk wx g' ys
theorem cutD_cells {w X : World} {a b c d : List Value} {zs zs' xs ys : List Value} {g g' : Nat} (h : ArgsB w X [a, b, c, d]) (G : Blk X g zs) (G' : Blk X g' zs') (lx : zs.length = xs.length) (ly : zs'.length = ys.length) (hg : w.heap.size + 3 < g) (hg' : w.heap.size + 3 < g') (hne : g ≠ g') :
    CutD w ((X.setCells g 0 xs).setCells g' 0 ys) [a, b, c, d] xs ys (.pointer (some ⟨g, 0, none⟩)) (.pointer (some ⟨g', 0, none⟩)) :=
  ⟨_, _, rfl, rfl, hne, hg, hg', (h.cells hg _).cells hg' _, Blk.cellsO hne _ _ (G.cellsI lx.symm), (Blk.cellsO (fun e => hne e.symm) _ _ G').cellsI ly.symm⟩
end Go.Proofs.Ytnflhnfjlbjgdaa
