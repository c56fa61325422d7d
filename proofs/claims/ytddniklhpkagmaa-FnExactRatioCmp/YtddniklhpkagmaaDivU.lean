/- One digit of a long division: the reckoning, and a window of a row that is written. -/
import Derived.Test.YtddniklhpkagmaaDivW
import Derived.Test.YtddniklhpkagmaaBase2
namespace Go.Proofs.Ytddniklhpkagmaa
open Go.RowKit
/-- The words of a row from a place on. -/
def win (rs : List Int) (place k : Nat) : List Int := (rs.drop place).take k
theorem win_len {rs : List Int} {place k : Nat} (h : place + k ≤ rs.length) : (win rs place k).length = k := by unfold win; simp; omega
theorem win_at {rs : List Int} {place k j : Nat} (h : place + k ≤ rs.length) (hj : j < k) (hj2 : j < (win rs place k).length) : (win rs place k)[j] = rs[place + j]'(by omega) := by simp only [win, List.getElem_take, List.getElem_drop]
theorem win_words {rs : List Int} (h : Words rs) (place k : Nat) : Words (win rs place k) := words_take (words_drop h place) k
theorem take_at {ps : List Int} {k j : Nat} (hj : j < (ps.take k).length) : (ps.take k)[j] = ps[j]'(by simp at hj; omega) := by simp
/-- A row with other words from a place on. -/
def put (rs : List Int) (place : Nat) (zs : List Int) : List Int := rs.take place ++ (zs ++ rs.drop (place + zs.length))
theorem put_len {rs zs : List Int} {place : Nat} (h : place + zs.length ≤ rs.length) : (put rs place zs).length = rs.length := by unfold put; simp; omega
theorem put_words {rs zs : List Int} {place : Nat} (hr : Words rs) (hz : Words zs) : Words (put rs place zs) := words_append.2 ⟨words_take hr _, words_append.2 ⟨hz, words_drop hr _⟩⟩
theorem put_val {rs zs : List Int} {place k : Nat} (hk : zs.length = k) (h : place + k ≤ rs.length) : val64 (put rs place zs) = val64 rs + pw64 place * (val64 zs - val64 (win rs place k)) := by
  have e1 := val64_part rs place (by omega)
  have e2 := val64_part (rs.drop place) k (by simp; omega)
  rw [List.drop_drop] at e2
  unfold put win
  rw [vq_append, vq_append, List.length_take, Nat.min_eq_left (by omega), hk]
  rw [e2] at e1
  rw [e1]
  generalize pw64 place = p at *
  grind
theorem put_at_in {rs zs : List Int} {place j : Nat} (h : place + zs.length ≤ rs.length) (hj : j < zs.length) : (put rs place zs)[place + j]? = some zs[j] := by
  unfold put
  rw [List.getElem?_append_right (by simp; omega), List.length_take, Nat.min_eq_left (by omega), Nat.add_sub_cancel_left, List.getElem?_append_left hj, List.getElem?_eq_getElem hj]
theorem put_at_out {rs zs : List Int} {place j : Nat} (h : place + zs.length ≤ rs.length) (hj : j < place ∨ place + zs.length ≤ j) : (put rs place zs)[j]? = rs[j]? := by
  unfold put
  rcases hj with hj | hj
  · rw [List.getElem?_append_left (by simp; omega), List.getElem?_take, if_pos hj]
  · rw [List.getElem?_append_right (by simp; omega), List.length_take, Nat.min_eq_left (by omega), List.getElem?_append_right (by omega), List.getElem?_drop]
    congr 1; omega
theorem blk_row {w : World} {A : Nat} {rs : List Int} (h : Blk w A (rs.map (Value.int .u64))) {place k : Nat} (hk : place + k ≤ rs.length) : Row w A place (win rs place k) := by
  have hl := win_len hk
  refine ⟨fun i hi => ?_, fun i hi => ?_, h.lt⟩
  · rw [win_at hk (by omega) hi]
    exact h.c _ (by simp)
  · exact h.f (place + i) (v := .int .u64 (rs[place + i]'(by omega))) (by simp)
theorem blk_row_take {w : World} {A : Nat} {rs : List Int} (h : Blk w A (rs.map (Value.int .u64))) {k : Nat} (hk : k ≤ rs.length) : Row w A 0 (rs.take k) := by
  have := blk_row h (place := 0) (k := k) (by omega)
  simpa [win] using this
theorem blk_put {w w' : World} {A place : Nat} {rs zs : List Int} (h : Blk w A (rs.map (Value.int .u64))) (hr : Row w' A place zs) (hw : Wrote A place zs.length w w') (hk : place + zs.length ≤ rs.length) : Blk w' A ((put rs place zs).map (Value.int .u64)) := by
  refine ⟨hr.lt, fun i v hi => ?_⟩
  rw [List.getElem?_map] at hi
  have hil : i < rs.length := by
    apply Decidable.byContradiction
    intro hn
    rw [List.getElem?_eq_none (by rw [put_len hk]; omega)] at hi
    simp at hi
  have hf : w'.frozen? ⟨A, i, none⟩ = false := by rw [hw.frz i]; exact h.f i (v := .int .u64 rs[i]) (by simp [hil])
  refine ⟨?_, hf⟩
  by_cases hin : place ≤ i ∧ i < place + zs.length
  · obtain ⟨j, rfl⟩ : ∃ j, i = place + j := ⟨i - place, by omega⟩
    rw [put_at_in hk (by omega)] at hi
    simp only [Option.map_some, Option.some.injEq] at hi
    rw [← hi]
    exact hr.cell j (by omega)
  · rw [put_at_out hk (by omega), List.getElem?_eq_getElem hil] at hi
    simp only [Option.map_some, Option.some.injEq] at hi
    rw [← hi, hw.cell i (by omega)]
    exact h.c i (by simp [hil])
theorem blk_wrote {w w' : World} {A off n g : Nat} {vs : List Value} (h : Blk w g vs) (hw : Wrote A off n w w') (hg : g ≠ A) : Blk w' g vs :=
  ⟨by rw [hw.size]; exact h.lt, fun i _ hi => ⟨(hw.cellOther hg i).trans (h.c i hi), (hw.frzOther hg i).trans (h.f i hi)⟩⟩
/-- What is divided by the divisor's words at a place, and the digit there. -/
structure Kn (rs ys : List Int) (n place : Nat) : Prop where
  hl : rs.length = 9
  hm : ys.length = 9
  hr : Words rs
  hy : Words ys
  hn : 1 ≤ n
  hp : place + n ≤ 8
  top : ∀ m, m + 1 = n → (h : m < ys.length) → ys[m] ≠ 0
  lt : val64 (win rs place (n + 1)) < 18446744073709551616 * val64 (ys.take n)
theorem Kn.pos {rs ys : List Int} {n place : Nat} (h : Kn rs ys n place) : 0 < val64 (ys.take n) := by
  have hn := h.hn
  obtain ⟨m, rfl⟩ : ∃ m, n = m + 1 := ⟨n - 1, by omega⟩
  have hm := h.hm
  have hp := h.hp
  have i : m < ys.length := by omega
  rw [val64_take ys m i]
  have t := h.top m rfl i
  have w := words_at h.hy m i
  have e := val64_nonneg (words_take h.hy m)
  have p := pq_pos m
  have : pw64 m * 1 ≤ pw64 m * ys[m] := Int.mul_le_mul_of_nonneg_left (by have := w.1; omega) (by omega)
  omega
theorem Kn.guess {rs ys : List Int} {n place m pn pm : Nat} (h : Kn rs ys n place) (hmn : m + 1 = n) (hpn : place + n = pn) (hpm : place + m = pm) (i1 : pn < rs.length) (i2 : pm < rs.length) (i3 : m < ys.length) :
    val64 (win rs place (n + 1)) / val64 (ys.take n) ≤ guessV rs[pn] rs[pm] ys[m] ∧ 0 ≤ guessV rs[pn] rs[pm] ys[m] ∧ guessV rs[pn] rs[pm] ys[m] < 18446744073709551616 := by
  subst hmn hpn hpm
  have hl := h.hl
  have hp := h.hp
  have hwl := win_len (rs := rs) (place := place) (k := m + 1 + 1) (by omega)
  have t := h.top m rfl i3
  have w3 := words_at h.hy m i3
  have w1 := words_at h.hr _ i1
  have w2 := words_at h.hr _ i2
  have eB := val64_take ys m i3
  have eW : val64 (win rs place (m + 1 + 1)) = val64 ((win rs place (m + 1 + 1)).take m) + pw64 m * (rs[place + m] + 18446744073709551616 * rs[place + (m + 1)]) := by
    have e1 := val64_take (win rs place (m + 1 + 1)) (m + 1) (by omega)
    have e2 := val64_take (win rs place (m + 1 + 1)) m (by omega)
    rw [List.take_of_length_le (by omega), e2, win_at (by omega) (by omega), win_at (by omega) (by omega), pw64] at e1
    rw [e1]
    generalize pw64 m = p at *
    grind
  have g1 := vq_lt (words_take (win_words h.hr place (m + 1 + 1)) m)
  rw [List.length_take, Nat.min_eq_left (by omega)] at g1
  refine ⟨?_, ?_⟩
  · exact kn_guess (pq_pos m) eW g1 eB (val64_nonneg (words_take h.hy m)) (by have := w3.1; omega) h.lt (val64_nonneg (win_words h.hr _ _))
  · unfold guessV
    split
    · exact ⟨by decide, by decide⟩
    · next hlt =>
      have t0 : 0 < ys[m] := by have := w3.1; omega
      have := w1.1
      have := w2.1
      have := w2.2
      refine ⟨Int.ediv_nonneg (by omega) (by omega), ?_⟩
      apply Int.ediv_lt_of_lt_mul t0
      omega
/-- The product with a digit, in n + 1 words. -/
theorem Kn.part {rs ys ps : List Int} {n place : Nat} {d : Int} (h : Kn rs ys n place) (hd : Word d) (hl : ps.length = 9) (hw : Words ps) (hv : val64 ps = d * val64 (ys.take n)) : val64 (ps.take (n + 1)) = d * val64 (ys.take n) := by
  have hp := h.hp
  have hm := h.hm
  have b0 := val64_nonneg (words_take h.hy n)
  have b1 := vq_lt (words_take h.hy n)
  rw [List.length_take, Nat.min_eq_left (by omega)] at b1
  have := (val64_high hw (n + 1) (by omega) (by
    rw [hv, pw64]
    have h1 : d * val64 (ys.take n) ≤ 18446744073709551615 * val64 (ys.take n) := Int.mul_le_mul_of_nonneg_right (by have := hd.2; omega) b0
    omega)).2
  rw [this, hv]
/-- Between the rounds of the comparison. -/
def Alike (rs ps : List Int) (n place k : Nat) : Prop := (ps.take (n + 1)).drop k = (win rs place (n + 1)).drop k
theorem alike_start {rs ps : List Int} {n place : Nat} (hr : place + (n + 1) ≤ rs.length) (hl : n + 1 ≤ ps.length) : Alike rs ps n place (n + 1) := by
  unfold Alike
  rw [List.drop_of_length_le (by simp; omega), List.drop_of_length_le (by rw [win_len hr]; omega)]
theorem alike_step {rs ps : List Int} {n place k : Nat} (h : Alike rs ps n place (k + 1)) (hr : place + (n + 1) ≤ rs.length) (hl : n + 1 ≤ ps.length) (hk : k < n + 1) (e : ps[k]'(by omega) = rs[place + k]'(by omega)) : Alike rs ps n place k := by
  unfold Alike at *
  have l1 : k < (ps.take (n + 1)).length := by simp; omega
  have l2 : k < (win rs place (n + 1)).length := by rw [win_len hr]; omega
  rw [List.drop_eq_getElem_cons l1, List.drop_eq_getElem_cons l2, h, take_at, win_at hr hk, e]
theorem alike_all {rs ps : List Int} {n place : Nat} (h : Alike rs ps n place 0) : val64 (ps.take (n + 1)) = val64 (win rs place (n + 1)) := by
  unfold Alike at h
  simpa using congrArg val64 h
theorem alike_less {rs ps : List Int} {n place k : Nat} (hw : Words rs) (hv : Words ps) (h : Alike rs ps n place (k + 1)) (hr : place + (n + 1) ≤ rs.length) (hl : n + 1 ≤ ps.length) (hk : k < n + 1) (e : ps[k]'(by omega) < rs[place + k]'(by omega)) : val64 (ps.take (n + 1)) < val64 (win rs place (n + 1)) := by
  have l1 : k < (ps.take (n + 1)).length := by simp; omega
  have l2 : k < (win rs place (n + 1)).length := by rw [win_len hr]; omega
  exact vq_above (words_take hv _) (win_words hw _ _) k l1 l2 h (by rw [take_at, win_at hr hk]; exact e)
theorem alike_more {rs ps : List Int} {n place k : Nat} (hw : Words rs) (hv : Words ps) (h : Alike rs ps n place (k + 1)) (hr : place + (n + 1) ≤ rs.length) (hl : n + 1 ≤ ps.length) (hk : k < n + 1) (e : rs[place + k]'(by omega) < ps[k]'(by omega)) : val64 (win rs place (n + 1)) < val64 (ps.take (n + 1)) := by
  have l1 : k < (ps.take (n + 1)).length := by simp; omega
  have l2 : k < (win rs place (n + 1)).length := by rw [win_len hr]; omega
  exact vq_above (win_words hw _ _) (words_take hv _) k l2 l1 h.symm (by rw [take_at, win_at hr hk]; exact e)
/-- What is left of the window. -/
theorem kn_left {xs ps zs : List Int} {c : Int} {k : Nat} (hz : Words zs) (hlz : zs.length = k) (hc0 : 0 ≤ c) (hc1 : c ≤ 1) (hv : val64 zs = val64 xs - val64 ps + c * pw64 k) (hle : val64 ps ≤ val64 xs) : val64 zs = val64 xs - val64 ps := by
  have h1 := vq_lt hz
  rw [hlz] at h1
  obtain rfl | rfl : c = 0 ∨ c = 1 := by omega
  · omega
  · omega
def DigP (rs ys : List Int) (n place : Nat) (w : World) (e : Ending) (w' : World) : Prop :=
  ∃ zs : List Int, e = .returned (.tuple #[.int .u64 (val64 (win rs place (n + 1)) / val64 (ys.take n)), agg zs]) ∧ zs.length = 9 ∧ Words zs ∧ val64 zs = val64 rs - pw64 place * (val64 (win rs place (n + 1)) / val64 (ys.take n) * val64 (ys.take n)) ∧ Below w.heap.size w w'
end Go.Proofs.Ytddniklhpkagmaa
