/- Part 4 of the walks that the proof leans on. -/
import Derived.Test.YtnnojeggjnddpaaPart2
import Derived.Test.YtnnojeggjnddpaaPart1
import Derived.Test.YtnnojeggjnddpaaPart3
import Derived.Deep.LoopGhost
import Derived.WalkMore
import Derived.Deep.RegionHeld3
import Derived.Deep.MidRow
/- One digit of a long division: the reckoning, and a window of a row that is written. -/
namespace Go.Proofs.Ytnnojeggjnddpaa
open Go.RowKit
/-- The words of a row from a place on. -/
def win (rs : List Int) (place k : Nat) : List Int := (rs.drop place).take k
theorem win_len {rs : List Int} {place k : Nat} (h : place + k ≤ rs.length) : (win rs place k).length = k := by unfold win; simp; omega
theorem win_at {rs : List Int} {place k j : Nat} (h : place + k ≤ rs.length) (hj : j < k) (hj2 : j < (win rs place k).length) : (win rs place k)[j] = rs[place + j]'(by omega) := by simp only [win, List.getElem_take, List.getElem_drop]
theorem win_words {rs : List Int} (h : Words rs) (place k : Nat) : Words (win rs place k) := words_take (words_drop h place) k
theorem take_at {ps : List Int} {k j : Nat} (hj : j < (ps.take k).length) : (ps.take k)[j] = ps[j]'(by simp at hj; omega) := by simp
/-- A row with other words from a place on. -/
def put (rs : List Int) (place : Nat) (zs : List Int) : List Int := rs.take place ++ (zs ++ rs.drop (place + zs.length))
theorem put_len {rs zs : List Int} {place : Nat} (h : place + zs.length ≤ rs.length) : (put rs place zs).length = rs.length := by unfold put; simp; omega
theorem put_words {rs zs : List Int} {place : Nat} (hr : Words rs) (hz : Words zs) : Words (put rs place zs) := words_append.2 ⟨words_take hr _, words_append.2 ⟨hz, words_drop hr _⟩⟩
theorem put_val {rs zs : List Int} {place k : Nat} (hk : zs.length = k) (h : place + k ≤ rs.length) : val64 (put rs place zs) = val64 rs + pw64 place * (val64 zs - val64 (win rs place k)) := by
  have e1 := val64_part rs place (by omega)
  have e2 := val64_part (rs.drop place) k (by simp; omega)
  rw [List.drop_drop] at e2
  unfold put win
  rw [vq_append, vq_append, List.length_take, Nat.min_eq_left (by omega), hk]
  rw [e2] at e1
  rw [e1]
  generalize pw64 place = p at *
  grind
theorem put_at_in {rs zs : List Int} {place j : Nat} (h : place + zs.length ≤ rs.length) (hj : j < zs.length) : (put rs place zs)[place + j]? = some zs[j] := by
  unfold put
  rw [List.getElem?_append_right (by simp; omega), List.length_take, Nat.min_eq_left (by omega), Nat.add_sub_cancel_left, List.getElem?_append_left hj, List.getElem?_eq_getElem hj]
theorem put_at_out {rs zs : List Int} {place j : Nat} (h : place + zs.length ≤ rs.length) (hj : j < place ∨ place + zs.length ≤ j) : (put rs place zs)[j]? = rs[j]? := by
  unfold put
  rcases hj with hj | hj
  · rw [List.getElem?_append_left (by simp; omega), List.getElem?_take, if_pos hj]
  · rw [List.getElem?_append_right (by simp; omega), List.length_take, Nat.min_eq_left (by omega), List.getElem?_append_right (by omega), List.getElem?_drop]
    congr 1; omega
theorem blk_row {w : World} {A : Nat} {rs : List Int} (h : Blk w A (rs.map (Value.int .u64))) {place k : Nat} (hk : place + k ≤ rs.length) : Row w A place (win rs place k) := by
  have hl := win_len hk
  refine ⟨fun i hi => ?_, fun i hi => ?_, h.lt⟩
  · rw [win_at hk (by omega) hi]
    exact h.c _ (by simp)
  · exact h.f (place + i) (v := .int .u64 (rs[place + i]'(by omega))) (by simp)
theorem blk_row_take {w : World} {A : Nat} {rs : List Int} (h : Blk w A (rs.map (Value.int .u64))) {k : Nat} (hk : k ≤ rs.length) : Row w A 0 (rs.take k) := by
  have := blk_row h (place := 0) (k := k) (by omega)
  simpa [win] using this
theorem blk_put {w w' : World} {A place : Nat} {rs zs : List Int} (h : Blk w A (rs.map (Value.int .u64))) (hr : Row w' A place zs) (hw : Wrote A place zs.length w w') (hk : place + zs.length ≤ rs.length) : Blk w' A ((put rs place zs).map (Value.int .u64)) := by
  refine ⟨hr.lt, fun i v hi => ?_⟩
  rw [List.getElem?_map] at hi
  have hil : i < rs.length := by
    apply Decidable.byContradiction
    intro hn
    rw [List.getElem?_eq_none (by rw [put_len hk]; omega)] at hi
    simp at hi
  have hf : w'.frozen? ⟨A, i, none⟩ = false := by rw [hw.frz i]; exact h.f i (v := .int .u64 rs[i]) (by simp [hil])
  refine ⟨?_, hf⟩
  by_cases hin : place ≤ i ∧ i < place + zs.length
  · obtain ⟨j, rfl⟩ : ∃ j, i = place + j := ⟨i - place, by omega⟩
    rw [put_at_in hk (by omega)] at hi
    simp only [Option.map_some, Option.some.injEq] at hi
    rw [← hi]
    exact hr.cell j (by omega)
  · rw [put_at_out hk (by omega), List.getElem?_eq_getElem hil] at hi
    simp only [Option.map_some, Option.some.injEq] at hi
    rw [← hi, hw.cell i (by omega)]
    exact h.c i (by simp [hil])
theorem blk_wrote {w w' : World} {A off n g : Nat} {vs : List Value} (h : Blk w g vs) (hw : Wrote A off n w w') (hg : g ≠ A) : Blk w' g vs :=
  ⟨by rw [hw.size]; exact h.lt, fun i _ hi => ⟨(hw.cellOther hg i).trans (h.c i hi), (hw.frzOther hg i).trans (h.f i hi)⟩⟩
/-- What is divided by the divisor's words at a place, and the digit there. -/
structure Kn (rs ys : List Int) (n place : Nat) : Prop where
  hl : rs.length = 9
  hm : ys.length = 9
  hr : Words rs
  hy : Words ys
  hn : 1 ≤ n
  hp : place + n ≤ 8
  top : ∀ m, m + 1 = n → (h : m < ys.length) → ys[m] ≠ 0
  lt : val64 (win rs place (n + 1)) < 18446744073709551616 * val64 (ys.take n)
theorem Kn.pos {rs ys : List Int} {n place : Nat} (h : Kn rs ys n place) : 0 < val64 (ys.take n) := by
  have hn := h.hn
  obtain ⟨m, rfl⟩ : ∃ m, n = m + 1 := ⟨n - 1, by omega⟩
  have hm := h.hm
  have hp := h.hp
  have i : m < ys.length := by omega
  rw [val64_take ys m i]
  have t := h.top m rfl i
  have w := words_at h.hy m i
  have e := val64_nonneg (words_take h.hy m)
  have p := pq_pos m
  have : pw64 m * 1 ≤ pw64 m * ys[m] := Int.mul_le_mul_of_nonneg_left (by have := w.1; omega) (by omega)
  omega
theorem Kn.guess {rs ys : List Int} {n place m pn pm : Nat} (h : Kn rs ys n place) (hmn : m + 1 = n) (hpn : place + n = pn) (hpm : place + m = pm) (i1 : pn < rs.length) (i2 : pm < rs.length) (i3 : m < ys.length) :
    val64 (win rs place (n + 1)) / val64 (ys.take n) ≤ guessV rs[pn] rs[pm] ys[m] ∧ 0 ≤ guessV rs[pn] rs[pm] ys[m] ∧ guessV rs[pn] rs[pm] ys[m] < 18446744073709551616 := by
  subst hmn hpn hpm
  have hl := h.hl
  have hp := h.hp
  have hwl := win_len (rs := rs) (place := place) (k := m + 1 + 1) (by omega)
  have t := h.top m rfl i3
  have w3 := words_at h.hy m i3
  have w1 := words_at h.hr _ i1
  have w2 := words_at h.hr _ i2
  have eB := val64_take ys m i3
  have eW : val64 (win rs place (m + 1 + 1)) = val64 ((win rs place (m + 1 + 1)).take m) + pw64 m * (rs[place + m] + 18446744073709551616 * rs[place + (m + 1)]) := by
    have e1 := val64_take (win rs place (m + 1 + 1)) (m + 1) (by omega)
    have e2 := val64_take (win rs place (m + 1 + 1)) m (by omega)
    rw [List.take_of_length_le (by omega), e2, win_at (by omega) (by omega), win_at (by omega) (by omega), pw64] at e1
    rw [e1]
    generalize pw64 m = p at *
    grind
  have g1 := vq_lt (words_take (win_words h.hr place (m + 1 + 1)) m)
  rw [List.length_take, Nat.min_eq_left (by omega)] at g1
  refine ⟨?_, ?_⟩
  · exact kn_guess (pq_pos m) eW g1 eB (val64_nonneg (words_take h.hy m)) (by have := w3.1; omega) h.lt (val64_nonneg (win_words h.hr _ _))
  · unfold guessV
    split
    · exact ⟨by decide, by decide⟩
    · next hlt =>
      have t0 : 0 < ys[m] := by have := w3.1; omega
      have := w1.1
      have := w2.1
      have := w2.2
      refine ⟨Int.ediv_nonneg (by omega) (by omega), ?_⟩
      apply Int.ediv_lt_of_lt_mul t0
      omega
/-- The product with a digit, in n + 1 words. -/
theorem Kn.part {rs ys ps : List Int} {n place : Nat} {d : Int} (h : Kn rs ys n place) (hd : Word d) (hl : ps.length = 9) (hw : Words ps) (hv : val64 ps = d * val64 (ys.take n)) : val64 (ps.take (n + 1)) = d * val64 (ys.take n) := by
  have hp := h.hp
  have hm := h.hm
  have b0 := val64_nonneg (words_take h.hy n)
  have b1 := vq_lt (words_take h.hy n)
  rw [List.length_take, Nat.min_eq_left (by omega)] at b1
  have := (val64_high hw (n + 1) (by omega) (by
    rw [hv, pw64]
    have h1 : d * val64 (ys.take n) ≤ 18446744073709551615 * val64 (ys.take n) := Int.mul_le_mul_of_nonneg_right (by have := hd.2; omega) b0
    omega)).2
  rw [this, hv]
/-- Between the rounds of the comparison. -/
def Alike (rs ps : List Int) (n place k : Nat) : Prop := (ps.take (n + 1)).drop k = (win rs place (n + 1)).drop k
theorem alike_start {rs ps : List Int} {n place : Nat} (hr : place + (n + 1) ≤ rs.length) (hl : n + 1 ≤ ps.length) : Alike rs ps n place (n + 1) := by
  unfold Alike
  rw [List.drop_of_length_le (by simp; omega), List.drop_of_length_le (by rw [win_len hr]; omega)]
theorem alike_step {rs ps : List Int} {n place k : Nat} (h : Alike rs ps n place (k + 1)) (hr : place + (n + 1) ≤ rs.length) (hl : n + 1 ≤ ps.length) (hk : k < n + 1) (e : ps[k]'(by omega) = rs[place + k]'(by omega)) : Alike rs ps n place k := by
  unfold Alike at *
  have l1 : k < (ps.take (n + 1)).length := by simp; omega
  have l2 : k < (win rs place (n + 1)).length := by rw [win_len hr]; omega
  rw [List.drop_eq_getElem_cons l1, List.drop_eq_getElem_cons l2, h, take_at, win_at hr hk, e]
theorem alike_all {rs ps : List Int} {n place : Nat} (h : Alike rs ps n place 0) : val64 (ps.take (n + 1)) = val64 (win rs place (n + 1)) := by
  unfold Alike at h
  simpa using congrArg val64 h
theorem alike_less {rs ps : List Int} {n place k : Nat} (hw : Words rs) (hv : Words ps) (h : Alike rs ps n place (k + 1)) (hr : place + (n + 1) ≤ rs.length) (hl : n + 1 ≤ ps.length) (hk : k < n + 1) (e : ps[k]'(by omega) < rs[place + k]'(by omega)) : val64 (ps.take (n + 1)) < val64 (win rs place (n + 1)) := by
  have l1 : k < (ps.take (n + 1)).length := by simp; omega
  have l2 : k < (win rs place (n + 1)).length := by rw [win_len hr]; omega
  exact vq_above (words_take hv _) (win_words hw _ _) k l1 l2 h (by rw [take_at, win_at hr hk]; exact e)
theorem alike_more {rs ps : List Int} {n place k : Nat} (hw : Words rs) (hv : Words ps) (h : Alike rs ps n place (k + 1)) (hr : place + (n + 1) ≤ rs.length) (hl : n + 1 ≤ ps.length) (hk : k < n + 1) (e : rs[place + k]'(by omega) < ps[k]'(by omega)) : val64 (win rs place (n + 1)) < val64 (ps.take (n + 1)) := by
  have l1 : k < (ps.take (n + 1)).length := by simp; omega
  have l2 : k < (win rs place (n + 1)).length := by rw [win_len hr]; omega
  exact vq_above (win_words hw _ _) (words_take hv _) k l2 l1 h.symm (by rw [take_at, win_at hr hk]; exact e)
/-- What is left of the window. -/
theorem kn_left {xs ps zs : List Int} {c : Int} {k : Nat} (hz : Words zs) (hlz : zs.length = k) (hc0 : 0 ≤ c) (hc1 : c ≤ 1) (hv : val64 zs = val64 xs - val64 ps + c * pw64 k) (hle : val64 ps ≤ val64 xs) : val64 zs = val64 xs - val64 ps := by
  have h1 := vq_lt hz
  rw [hlz] at h1
  obtain rfl | rfl : c = 0 ∨ c = 1 := by omega
  · omega
  · omega
def DigP (rs ys : List Int) (n place : Nat) (w : World) (e : Ending) (w' : World) : Prop :=
  ∃ zs : List Int, e = .returned (.tuple #[.int .u64 (val64 (win rs place (n + 1)) / val64 (ys.take n)), agg zs]) ∧ zs.length = 9 ∧ Words zs ∧ val64 zs = val64 rs - pw64 place * (val64 (win rs place (n + 1)) / val64 (ys.take n) * val64 (ys.take n)) ∧ Below w.heap.size w w'
end Go.Proofs.Ytnnojeggjnddpaa

/- The walk of one digit of the program's long division. -/
namespace Go.Proofs.Ytnnojeggjnddpaa
open Go.RowKit
/-- What stands while a digit is sought. -/
structure Tk (w wr : World) (rs ys : List Int) : Prop where
  below : Below w.heap.size w wr
  r : Blk wr w.heap.size (rs.map (Value.int .u64))
  y : Blk wr (w.heap.size + 1) (ys.map (Value.int .u64))
  o : Blk wr (w.heap.size + 1 + 1) (List.replicate 9 (Value.int .u64 0))
theorem Tk.step {w wr wr' : World} {rs ys : List Int} (h : Tk w wr rs ys) (hB : Below wr.heap.size wr wr') : Tk w wr' rs ys := ⟨h.below.trans (hB.mono h.below.size), h.r.step hB, h.y.step hB, h.o.step hB⟩
theorem Tk.drew {w wr : World} {rs ys : List Int} (h : Tk w wr rs ys) : Tk w wr.drew rs ys := ⟨h.below.drew, h.r, h.y, h.o⟩
theorem Tk.drewN {w wr : World} {rs ys : List Int} (h : Tk w wr rs ys) (n : Nat) : Tk w (wr.drewN n) rs ys := ⟨bdrew h.below n, h.r, h.y, h.o⟩
theorem Tk.cr {w wr : World} {rs ys : List Int} (h : Tk w wr rs ys) (j : Nat) (hj : j < rs.length) : wr.cell? ⟨w.heap.size, j, none⟩ = some (.int .u64 rs[j]) := h.r.c j (by simp [hj])
theorem Tk.cy {w wr : World} {rs ys : List Int} (h : Tk w wr rs ys) (j : Nat) (hj : j < ys.length) : wr.cell? ⟨w.heap.size + 1, j, none⟩ = some (.int .u64 ys[j]) := h.y.c j (by simp [hj])
theorem below_set9 {B g : Nat} {w W : World} {v0 v1 v2 v3 v4 v5 v6 v7 v8 : Value} (hg : B ≤ g) (h : Below B w W) : Below B w (((((((((W.setCell ⟨g, 0, none⟩ v0).setCell ⟨g, 1, none⟩ v1).setCell ⟨g, 2, none⟩ v2).setCell ⟨g, 3, none⟩ v3).setCell ⟨g, 4, none⟩ v4).setCell ⟨g, 5, none⟩ v5).setCell ⟨g, 6, none⟩ v6).setCell ⟨g, 7, none⟩ v7).setCell ⟨g, 8, none⟩ v8) :=
  (((((((((h.setCell hg _).setCell hg _).setCell hg _).setCell hg _).setCell hg _).setCell hg _).setCell hg _).setCell hg _).setCell hg _)
set_option maxRecDepth 100000 in
set_option maxHeartbeats 2000000 in
theorem takeDigit_any (rs ys : List Int) (n place : Nat) (HK : Kn rs ys n place) (w : World) : Calls Try.prog 132 #[agg rs, agg ys, .int .i64 n, .int .i64 place] w (DigP rs ys n place w) := by
  obtain ⟨hl, hm, hr, hy, hn, hp, _, _⟩ := id HK
  have HL : Hid (rs.length = 9) := hl
  have HM : Hid (ys.length = 9) := hm
  have HR : Hid (Words rs) := hr
  have HY : Hid (Words ys) := hy
  obtain ⟨x0, x1, x2, x3, x4, x5, x6, x7, x8, hxs⟩ := list9 hl
  have HA : agg rs = .agg #[.int .u64 x0, .int .u64 x1, .int .u64 x2, .int .u64 x3, .int .u64 x4, .int .u64 x5, .int .u64 x6, .int .u64 x7, .int .u64 x8] := by rw [hxs]; rfl
  have AX : rs.map (Value.int .u64) = [.int .u64 x0, .int .u64 x1, .int .u64 x2, .int .u64 x3, .int .u64 x4, .int .u64 x5, .int .u64 x6, .int .u64 x7, .int .u64 x8] := by rw [hxs]; rfl
  rw [HA]
  clear HA
  obtain ⟨y0, y1, y2, y3, y4, y5, y6, y7, y8, hys⟩ := list9 hm
  have HA : agg ys = .agg #[.int .u64 y0, .int .u64 y1, .int .u64 y2, .int .u64 y3, .int .u64 y4, .int .u64 y5, .int .u64 y6, .int .u64 y7, .int .u64 y8] := by rw [hys]; rfl
  have AY : ys.map (Value.int .u64) = [.int .u64 y0, .int .u64 y1, .int .u64 y2, .int .u64 y3, .int .u64 y4, .int .u64 y5, .int .u64 y6, .int .u64 y7, .int .u64 y8] := by rw [hys]; rfl
  rw [HA]
  have HAG : Hid (agg ys = .agg #[.int .u64 y0, .int .u64 y1, .int .u64 y2, .int .u64 y3, .int .u64 y4, .int .u64 y5, .int .u64 y6, .int .u64 y7, .int .u64 y8]) := HA
  have HS : Tk w (((w.alloc (.cells #[.int .u64 x0, .int .u64 x1, .int .u64 x2, .int .u64 x3, .int .u64 x4, .int .u64 x5, .int .u64 x6, .int .u64 x7, .int .u64 x8] 163)).alloc (.cells #[.int .u64 y0, .int .u64 y1, .int .u64 y2, .int .u64 y3, .int .u64 y4, .int .u64 y5, .int .u64 y6, .int .u64 y7, .int .u64 y8] 163)).alloc (.cells #[.int .u64 0, .int .u64 0, .int .u64 0, .int .u64 0, .int .u64 0, .int .u64 0, .int .u64 0, .int .u64 0, .int .u64 0] 163)) rs ys :=
    ⟨(((Below.refl _ _).alloc (Nat.le_refl _) _).alloc (by simp) _).alloc (by simp; omega) _, by rw [AX]; exact ((Blk.new w _ _ rfl).alloc _).alloc _, by rw [AY]; exact (Blk.new _ [.int .u64 y0, .int .u64 y1, .int .u64 y2, .int .u64 y3, .int .u64 y4, .int .u64 y5, .int .u64 y6, .int .u64 y7, .int .u64 y8] _ (by simp)).alloc _, Blk.new _ [.int .u64 0, .int .u64 0, .int .u64 0, .int .u64 0, .int .u64 0, .int .u64 0, .int .u64 0, .int .u64 0, .int .u64 0] _ (by simp)⟩
  obtain ⟨m, hmn⟩ : ∃ m, m + 1 = n := ⟨n - 1, by omega⟩
  obtain ⟨pn, hpn⟩ : ∃ k, place + n = k := ⟨_, rfl⟩
  obtain ⟨pm, hpm⟩ : ∃ k, place + m = k := ⟨_, rfl⟩
  have HMN : Hid (m + 1 = n) := hmn
  have HPN : Hid (place + n = pn) := hpn
  have HPM : Hid (place + m = pm) := hpm
  have a1 : IntKind.i64.wrap ((place : Int) + (n : Int)) = (pn : Int) := by rw [IntKind.wrap_i64]; omega
  have a2 : IntKind.i64.wrap ((pn : Int) - 1) = (pm : Int) := by rw [IntKind.wrap_i64]; omega
  have a3 : IntKind.i64.wrap ((n : Int) - 1) = (m : Int) := by rw [IntKind.wrap_i64]; omega
  have b1 : (0 : Int) ≤ pn := by omega
  have b2 : (pn : Int) < 9 := by omega
  have b3 : (0 : Int) ≤ pm := by omega
  have b4 : (pm : Int) < 9 := by omega
  have b5 : (0 : Int) ≤ m := by omega
  have b6 : (m : Int) < 9 := by omega
  have i1 : pn < rs.length := by omega
  have i2 : pm < rs.length := by omega
  have i3 : m < ys.length := by omega
  have w1 := words_at hr _ i1
  have w2 := words_at hr _ i2
  have w3 := words_at hy _ i3
  have HAY : Hid (ys.map (Value.int .u64) = [.int .u64 y0, .int .u64 y1, .int .u64 y2, .int .u64 y3, .int .u64 y4, .int .u64 y5, .int .u64 y6, .int .u64 y7, .int .u64 y8]) := AY
  clear HA hxs hys hl hm hr hy AX AY hmn hpn hpm
  go_enter Try.func132, Try.ntmps132
  go_wp2_with fail
  go_step3
  go_wp2_with fail
  generalize (((w.alloc (.cells #[.int .u64 x0, .int .u64 x1, .int .u64 x2, .int .u64 x3, .int .u64 x4, .int .u64 x5, .int .u64 x6, .int .u64 x7, .int .u64 x8] 163)).alloc (.cells #[.int .u64 y0, .int .u64 y1, .int .u64 y2, .int .u64 y3, .int .u64 y4, .int .u64 y5, .int .u64 y6, .int .u64 y7, .int .u64 y8] 163)).alloc (.cells #[.int .u64 0, .int .u64 0, .int .u64 0, .int .u64 0, .int .u64 0, .int .u64 0, .int .u64 0, .int .u64 0, .int .u64 0] 163)) = W at *
  obtain ⟨g, hg⟩ : ∃ g, guessV rs[pn] rs[pm] ys[m] = g := ⟨_, rfl⟩
  have GC := guess_any rs[pn] rs[pm] ys[m] w1 w2 w3
  go_region_held3 (fun w' => w'.cell? ⟨w.heap.size, pn, none⟩ = some (.int .u64 rs[pn]) ∧ w'.cell? ⟨w.heap.size, pm, none⟩ = some (.int .u64 rs[pm]) ∧ w'.cell? ⟨w.heap.size + 1, m, none⟩ = some (.int .u64 ys[m])) (first | (with_reducible exact ⟨HS.cr _ i1, HS.cr _ i2, HS.cy _ i3⟩) | (with_reducible exact ⟨HS.drew.cr _ i1, HS.drew.cr _ i2, HS.drew.cy _ i3⟩))
    ((go_at_call 136; refine (GC _).mono ?_; rintro e w4 ⟨rfl, hB⟩; rw [hg]; (first | (have T1 := HS.step hB) | (have T1 := HS.drew.step hB)); clear HS; have HS := T1; clear T1 hB))
  obtain ⟨G1, G2, G3⟩ := HK.guess HMN.out HPN.out HPM.out i1 i2 i3
  rw [hg] at G1 G2 G3
  have BP := HK.pos
  have WP := val64_nonneg (win_words HR.out place (n + 1))
  obtain ⟨WV, eW⟩ : ∃ x, val64 (win rs place (n + 1)) = x := ⟨_, rfl⟩
  obtain ⟨BV, eB⟩ : ∃ x, val64 (ys.take n) = x := ⟨_, rfl⟩
  have HEW : Hid (val64 (win rs place (n + 1)) = WV) := eW
  have HEB : Hid (val64 (ys.take n) = BV) := eB
  rw [eW] at G1 WP
  rw [eB] at G1 BP
  clear GC hg eW eB w1 w2 w3 a1 a2 a3
  go_wp2_with fail
  go_step3
  go_wp2_with fail
  go_loopg [10] g.toNat (fun k p wr => ∃ d : Int, p = .int .u64 d ∧ d.toNat = k ∧ 0 ≤ d ∧ d < 18446744073709551616 ∧ WV / BV ≤ d ∧ Tk w wr rs ys)
  case atStart => exact ⟨g, rfl, rfl, G2, G3, G1, HS⟩
  case round =>
    clear HS G1 G2 G3
    obtain ⟨d, rfl, rfl, d0, d1, hd, HT⟩ := hrel
    have c0 := HT.y
    rw [HAY.out] at c0
    have y0c := c0.c 0 rfl; have y1c := c0.c 1 rfl; have y2c := c0.c 2 rfl; have y3c := c0.c 3 rfl; have y4c := c0.c 4 rfl; have y5c := c0.c 5 rfl; have y6c := c0.c 6 rfl; have y7c := c0.c 7 rfl; have y8c := c0.c 8 rfl
    have TC := timesDigit_any ys n d HM.out HY.out ⟨d0, d1⟩ (by omega)
    rw [HAG.out] at TC
    clear c0
    go_wp2_with fail
    refine (TC _).mono ?_
    rintro e w5 ⟨ps, rfl, pl, pw, pv, hB⟩
    replace HT := HT.step hB
    clear hB TC y0c y1c y2c y3c y4c y5c y6c y7c y8c
    have PV := HK.part ⟨d0, d1⟩ pl pw pv
    rw [HEB.out] at PV
    have HPV : Hid (val64 (ps.take (n + 1)) = d * BV) := PV
    have HPL : Hid (ps.length = 9) := pl
    have HPW : Hid (Words ps) := pw
    obtain ⟨p0, p1, p2, p3, p4, p5, p6, p7, p8, hps⟩ := list9 pl
    have HPA : agg ps = .agg #[.int .u64 p0, .int .u64 p1, .int .u64 p2, .int .u64 p3, .int .u64 p4, .int .u64 p5, .int .u64 p6, .int .u64 p7, .int .u64 p8] := by rw [hps]; rfl
    have PX : ps.map (Value.int .u64) = [.int .u64 p0, .int .u64 p1, .int .u64 p2, .int .u64 p3, .int .u64 p4, .int .u64 p5, .int .u64 p6, .int .u64 p7, .int .u64 p8] := by rw [hps]; rfl
    rw [HPA]
    have HPX : Hid (ps.map (Value.int .u64) = [.int .u64 p0, .int .u64 p1, .int .u64 p2, .int .u64 p3, .int .u64 p4, .int .u64 p5, .int .u64 p6, .int .u64 p7, .int .u64 p8]) := PX
    clear HPA PX hps pl pw pv PV
    go_upto_block 2 with fail
    have GP : Blk (w5.alloc (.cells #[.int .u64 p0, .int .u64 p1, .int .u64 p2, .int .u64 p3, .int .u64 p4, .int .u64 p5, .int .u64 p6, .int .u64 p7, .int .u64 p8] 163)) w5.heap.size (ps.map (Value.int .u64)) := by rw [HPX.out]; exact Blk.new w5 [.int .u64 p0, .int .u64 p1, .int .u64 p2, .int .u64 p3, .int .u64 p4, .int .u64 p5, .int .u64 p6, .int .u64 p7, .int .u64 p8] 163 rfl
    have hgp := HT.o.lt
    replace HT := HT.step ((Below.refl w5.heap.size w5).alloc (Nat.le_refl _) (.cells #[.int .u64 p0, .int .u64 p1, .int .u64 p2, .int .u64 p3, .int .u64 p4, .int .u64 p5, .int .u64 p6, .int .u64 p7, .int .u64 p8] 163))
    generalize w5.alloc (.cells #[.int .u64 p0, .int .u64 p1, .int .u64 p2, .int .u64 p3, .int .u64 p4, .int .u64 p5, .int .u64 p6, .int .u64 p7, .int .u64 p8] 163) = W5 at *
    generalize w5.heap.size = gp at *
    have hr9 : place + (n + 1) ≤ rs.length := by have := HL.out; omega
    have hp9 : n + 1 ≤ ps.length := by have := HPL.out; omega
    have hd1 : IntKind.u64.wrap (d - 1) = IntKind.u64.wrap (d - 1) := rfl
    go_cut [12] (fun _ wx => d * BV ≤ WV ∧ Tk w wx rs ys ∧ Blk wx gp (ps.map (Value.int .u64)))
    case first =>
      go_wp2_with fail
      go_loopg [12] (n + 1) (fun k p wr => ∃ i : Int, p = .int .i64 i ∧ i + 1 = (k : Int) ∧ k ≤ n + 1 ∧ Alike rs ps n place k ∧ Tk w wr rs ys ∧ Blk wr gp (ps.map (Value.int .u64)))
      case atStart => exact ⟨(n : Int), rfl, by omega, by omega, alike_start hr9 hp9, HT, GP⟩
      case round =>
        clear HT GP
        obtain ⟨i, rfl, hi, hk, hA, HT, GP⟩ := hrel
        rcases Nat.eq_zero_or_pos gk with h0 | h0
        · subst h0
          obtain rfl : i = -1 := by omega
          have HE := alike_all hA
          rw [HPV.out, HEW.out] at HE
          have HE' : Hid (d * BV ≤ WV) := by show _ ≤ _; omega
          clear HE hA
          go_wp2
          go_meet
          case rel => exact ⟨HE'.out, HT, GP⟩
        · obtain ⟨k, rfl⟩ : ∃ k, gk = k + 1 := ⟨gk - 1, by omega⟩
          obtain rfl : i = (k : Int) := by omega
          have hk1 : k < n + 1 := by omega
          have j1 : k < ps.length := by omega
          have j2 : place + k < rs.length := by omega
          have e1 : wr.cell? ⟨gp, k, none⟩ = some (.int .u64 ps[k]) := GP.c k (by simp [j1])
          have e2 := HT.cr (place + k) j2
          have bb1 : (0 : Int) ≤ k := by omega
          have bb2 : (k : Int) < 9 := by have := HPL.out; omega
          have bb3 : (place : Int) + (k : Int) < 9 := by have := HL.out; omega
          have A1 := alike_less HR.out HPW.out hA hr9 hp9 hk1
          have A2 := alike_more HR.out HPW.out hA hr9 hp9 hk1
          have A3 := alike_step hA hr9 hp9 hk1
          rw [HPV.out, HEW.out] at A1 A2
          clear hi hA h0
          generalize hx : ps[k] = x at *
          generalize hy : rs[place + k] = y at *
          clear hx hy
          rcases Int.lt_trichotomy x y with hc | hc | hc
          · have HE : Hid (d * BV ≤ WV) := by show _ ≤ _; have := A1 hc; omega
            clear A1 A2 A3
            go_wp2
            go_quiet (fail)
            go_wp2
            go_quiet (fail)
            go_wp2
            go_meet
            case rel => exact ⟨HE.out, by first | exact HT.drewN _ | exact (HT.drewN _).drewN _, GP⟩
          · have HA := A3 hc
            subst hc
            clear A1 A2 A3
            go_wp2
            go_quiet (fail)
            go_wp2
            go_quiet (fail)
            go_wp2
            go_roundg k
            case measure => omega
            case rel => exact ⟨(k : Int) - 1, by go_num, by omega, by omega, HA, by first | exact HT.drewN _ | exact (HT.drewN _).drewN _, GP⟩
          · obtain ⟨K1, K2⟩ := kn_more BP WP (A2 hc)
            have hw := wrap_word (show 0 ≤ d - 1 by omega) (show d - 1 < 18446744073709551616 by omega)
            clear A1 A2 A3
            go_wp2
            go_quiet (fail)
            go_wp2
            go_roundg (d - 1).toNat
            case measure => omega
            case rel => exact ⟨d - 1, rfl, rfl, by omega, by omega, K1, HT.drewN _⟩
    case rest =>
      clear HT GP
      obtain ⟨HLE, HT, GP⟩ := hcut
      have HD : Hid (d = WV / BV) := kn_digit BP hd HLE
      have SL1 := slice9_lh w.heap.size place (place + n + 1) (by omega) (by omega) (by omega) (place : Int) ((place : Int) + (n : Int) + 1) rfl (by omega)
      have SL2 := slice9_j gp (n + 1) (by omega) ((n : Int) + 1) (by omega)
      rw [show place + n + 1 - place = n + 1 by omega] at SL1
      have rx := blk_row HT.r hr9
      have ry := blk_row_take GP hp9
      have TW := fun ca cc cb => takeWords_any w.heap.size gp place 0 (n + 1) ca cc cb (win rs place (n + 1)) (ps.take (n + 1)) wc (win_len hr9) (by simp; omega) (win_words HR.out _ _) (words_take HPW.out _) rx ry (by omega) (by omega)
      clear rx ry
      go_wp2_with fail
      refine (TW _ _ _).mono ?_
      rintro e w6 ⟨zs, c, rfl, l1, l2, l3, l4, l5, l6, l7⟩
      have ZV := kn_left l2 l1 l3 l4 l5 (by rw [HPV.out, HEW.out]; exact HLE)
      rw [HPV.out] at ZV
      have RB := blk_put HT.r l6 (by rw [l1]; exact l7) (by rw [l1]; exact hr9)
      have OB := blk_wrote HT.o l7 (by omega)
      have HB := HT.below.trans (l7.below (Nat.le_refl _))
      have PVL := put_val (rs := rs) (place := place) l1 hr9
      rw [ZV] at PVL
      have PLN := put_len (rs := rs) (zs := zs) (place := place) (by rw [l1]; exact hr9)
      have PWD := put_words (place := place) HR.out l2
      have HF : Hid ((put rs place zs).length = 9 ∧ Words (put rs place zs) ∧ val64 (put rs place zs) = val64 rs - pw64 place * (val64 (win rs place (n + 1)) / val64 (ys.take n) * val64 (ys.take n))) := by
        refine ⟨by rw [PLN]; exact HL.out, PWD, ?_⟩
        rw [PVL, HEW.out, HEB.out, ← HD.out]
        generalize pw64 place = p
        grind
      obtain ⟨HF1, HF2, HF3⟩ := HF.out
      generalize put rs place zs = qs at *
      obtain ⟨z0, z1, z2, z3, z4, z5, z6, z7, z8, rfl⟩ := list9 HF1
      clear TW SL1 SL2 l1 l2 l3 l4 l5 l6 l7 ZV PVL PLN PWD HF1 HF2 HF3 HT GP
      have r0c := RB.c 0 rfl; have o0c := OB.c 0 rfl; have o0f := OB.f 0 rfl
      have r1c := RB.c 1 rfl; have o1c := OB.c 1 rfl; have o1f := OB.f 1 rfl
      have r2c := RB.c 2 rfl; have o2c := OB.c 2 rfl; have o2f := OB.f 2 rfl
      have r3c := RB.c 3 rfl; have o3c := OB.c 3 rfl; have o3f := OB.f 3 rfl
      have r4c := RB.c 4 rfl; have o4c := OB.c 4 rfl; have o4f := OB.f 4 rfl
      have r5c := RB.c 5 rfl; have o5c := OB.c 5 rfl; have o5f := OB.f 5 rfl
      have r6c := RB.c 6 rfl; have o6c := OB.c 6 rfl; have o6f := OB.f 6 rfl
      have r7c := RB.c 7 rfl; have o7c := OB.c 7 rfl; have o7f := OB.f 7 rfl
      have r8c := RB.c 8 rfl; have o8c := OB.c 8 rfl; have o8f := OB.f 8 rfl
      have olt := OB.lt
      clear RB OB
      go_wp2
      go_region
      go_wp2
      try rw [Exit.noGoto_ret]
      refine bodyPost_ret (v := .tuple #[.int .u64 d, .agg #[.int .u64 z0, .int .u64 z1, .int .u64 z2, .int .u64 z3, .int .u64 z4, .int .u64 z5, .int .u64 z6, .int .u64 z7, .int .u64 z8]]) (by simp [results, Try.results132, go_sem, o0c, o1c, o2c, o3c, o4c, o5c, o6c, o7c, o8c]) rfl ?_
      obtain ⟨HF1, HF2, HF3⟩ := HF.out
      refine ⟨[z0, z1, z2, z3, z4, z5, z6, z7, z8], by rw [HEW.out, HEB.out, ← HD.out]; rfl, rfl, HF2, HF3, ?_⟩
      exact (below_set9 (g := w.heap.size + 1 + 1) (by omega) HB).drew
end Go.Proofs.Ytnnojeggjnddpaa

/- Long division, digit by digit: the reckoning. -/
namespace Go.Proofs.Ytnnojeggjnddpaa
open Go.RowKit
/-- Every number has its words. -/
theorem words_ex (n : Nat) (v : Int) (h0 : 0 ≤ v) (h1 : v < pw64 n) : ∃ zs : List Int, zs.length = n ∧ Words zs ∧ val64 zs = v := by
  induction n generalizing v with
  | zero => exact ⟨[], rfl, words_nil, by simp only [pw64] at h1; simp only [val64]; omega⟩
  | succ n ih =>
    simp only [pw64] at h1
    obtain ⟨zs, e1, e2, e3⟩ := ih (v / 18446744073709551616) (by omega) (by omega)
    refine ⟨v % 18446744073709551616 :: zs, by simp [e1], words_cons.2 ⟨⟨by omega, by omega⟩, e2⟩, ?_⟩
    simp only [val64, e3]
    omega
/-- Words behind which all are 0 are a number less than the base to that place. -/
theorem val64_few {xs : List Int} (hx : Words xs) (n : Nat) (hn : n ≤ xs.length) (hz : ∀ j, n ≤ j → (h : j < xs.length) → xs[j] = 0) : val64 xs = val64 (xs.take n) ∧ val64 xs < pw64 n := by
  have e := val64_part xs n hn
  have hd : xs.drop n = List.replicate (xs.length - n) 0 := by
    apply List.ext_getElem
    · simp
    · intro i h1 h2
      simp only [List.getElem_drop, List.getElem_replicate]
      exact hz _ (by omega) _
  rw [hd, val64_zeros, Int.mul_zero, Int.add_zero] at e
  have l := vq_lt (words_take hx n)
  rw [List.length_take, Nat.min_eq_left hn] at l
  exact ⟨e, by omega⟩
/-- The divisor, moved until its highest bit is set. -/
theorem kn_by {ys bs : List Int} {n m s : Nat} (hm : ys.length = 8) (hy : Words ys) (hmn : m + 1 = n) (hn : n ≤ 8) (hz : ∀ j, n ≤ j → (h : j < ys.length) → ys[j] = 0) (im : m < ys.length) (ht : ys[m] ≠ 0) (hs : s ≤ 64) (hb : BitsOf ys[m] (64 - s)) (bl : bs.length = 9) (bw : Words bs) (bv : val64 bs = 2 ^ s * val64 ys) :
    s < 64 ∧ val64 (bs.take n) = val64 bs ∧ 9223372036854775808 * pw64 m ≤ val64 bs ∧ val64 bs < pw64 n ∧ ∀ k, k + 1 = n → (h : k < bs.length) → bs[k] ≠ 0 := by
  subst hmn
  have wm := words_at hy m im
  obtain ⟨g0, g1, g2⟩ := hb
  have hs64 : s < 64 := by
    apply Decidable.byContradiction
    intro hn
    rw [show 64 - s = 0 by omega] at g1
    simp at g1
    have := wm.1
    omega
  have hp := pow_split s hs
  have p0 : (0 : Int) < 2 ^ s := Int.pow_pos (by decide)
  have q0 := pq_pos m
  obtain ⟨f1, f2⟩ := val64_few hy (m + 1) (by omega) hz
  rw [val64_take ys m im] at f1
  have t0 := val64_nonneg (words_take hy m)
  have t1 := vq_lt (words_take hy m)
  rw [List.length_take, Nat.min_eq_left (by omega)] at t1
  have e1 : (2 : Int) ^ (64 - s) = 2 * 2 ^ (64 - s - 1) := by
    rw [show 64 - s = (64 - s - 1) + 1 by omega, Int.pow_succ, Int.mul_comm]; rfl
  have e2 : (2 : Int) ^ s * 2 ^ (64 - s - 1) = 9223372036854775808 := by
    rw [e1] at hp
    have : (2 : Int) ^ s * (2 * 2 ^ (64 - s - 1)) = 2 * (2 ^ s * 2 ^ (64 - s - 1)) := by grind
    omega
  have low : 9223372036854775808 * pw64 m ≤ val64 bs := by
    rw [bv, f1, ← e2]
    have h1 : pw64 m * 2 ^ (64 - s - 1) ≤ pw64 m * ys[m] := Int.mul_le_mul_of_nonneg_left (by omega) (by omega)
    have h2 : 2 ^ s * (pw64 m * 2 ^ (64 - s - 1)) ≤ 2 ^ s * (val64 (ys.take m) + pw64 m * ys[m]) := Int.mul_le_mul_of_nonneg_left (by omega) (by omega)
    have h3 : (2 : Int) ^ s * 2 ^ (64 - s - 1) * pw64 m = 2 ^ s * (pw64 m * 2 ^ (64 - s - 1)) := by grind
    omega
  have high : val64 bs < pw64 (m + 1) := by
    rw [bv, f1, pw64, ← hp]
    have h1 : pw64 m * (ys[m] + 1) ≤ pw64 m * 2 ^ (64 - s) := Int.mul_le_mul_of_nonneg_left (by omega) (by omega)
    rw [Int.mul_add] at h1
    have h2 : (2 : Int) ^ s * (val64 (ys.take m) + pw64 m * ys[m] + 1) ≤ 2 ^ s * (pw64 m * 2 ^ (64 - s)) := Int.mul_le_mul_of_nonneg_left (by omega) (by omega)
    rw [Int.mul_add _ _ 1] at h2
    have h3 : (2 : Int) ^ s * 2 ^ (64 - s) * pw64 m = 2 ^ s * (pw64 m * 2 ^ (64 - s)) := by grind
    omega
  have tk := (val64_high bw (m + 1) (by omega) high).2
  refine ⟨hs64, tk, low, high, fun k hk h e => ?_⟩
  obtain rfl : k = m := by omega
  rw [val64_take bs k h, e, Int.mul_zero, Int.add_zero] at tk
  have l := vq_lt (words_take bw k)
  rw [List.length_take, Nat.min_eq_left (by omega)] at l
  omega
/-- Between the rounds of the long division: k digits are still to come. -/
structure DlI (X B : Int) (rs qs : List Int) (k : Nat) : Prop where
  rl : rs.length = 9
  rw : Words rs
  ql : qs.length = 8
  qw : Words qs
  eq : X = val64 qs * B + val64 rs
  lt : val64 rs < B * pw64 k
  low : ∀ j, j < k → (h : j < qs.length) → qs[j] = 0
theorem dl_start {B : Int} {rs : List Int} {n c m s : Nat} {X : Int} (rl : rs.length = 9) (rw' : Words rs) (hmn : m + 1 = n) (hn : n ≤ 8) (hc : c ≤ 9) (hz : ∀ j, c ≤ j → (h : j < rs.length) → rs[j] = 0) (hB : 9223372036854775808 * pw64 m ≤ B) (hs : s < 64) (rv : val64 rs = 2 ^ s * X) (hX : X < pw64 8) (k : Nat) (hk : (k : Int) = (if (min c 8 : Nat) < n then 0 else (min c 8 : Nat) - n + 1)) :
    DlI (val64 rs) B rs (List.replicate 8 0) k := by
  have q0 := pq_pos m
  have lt : val64 rs < B * pw64 k := by
    have f := (val64_few rw' c (by omega) hz).2
    have k0 := pq_pos k
    have m1 : pw64 m * pw64 k ≤ B * pw64 k := Int.mul_le_mul_of_nonneg_right (by omega) (by omega)
    rcases Nat.lt_or_ge c 9 with h9 | h9
    · rw [Nat.min_eq_left (by omega)] at hk
      rcases Nat.lt_or_ge c n with hcn | hcn
      · rw [if_pos hcn] at hk
        obtain rfl : k = 0 := by omega
        have := pw64_mono (a := c) (b := m) (by omega)
        simp only [pw64, Int.mul_one] at m1 ⊢
        omega
      · rw [if_neg (by omega)] at hk
        have e : m + k = c := by omega
        rw [← pw64_add, e] at m1
        omega
    · obtain rfl : c = 9 := by omega
      rw [if_neg (by simp; omega)] at hk
      have e : m + k = 8 := by simp at hk; omega
      have p0 : (0 : Int) < 2 ^ s := Int.pow_pos (by decide)
      have p1 := pow_le64 hs
      have h1 : (2 : Int) ^ s * (X + 1) ≤ 2 ^ s * pw64 8 := Int.mul_le_mul_of_nonneg_left (by omega) (by omega)
      rw [Int.mul_add] at h1
      have h2 : (2 : Int) ^ s * pw64 8 ≤ 9223372036854775808 * pw64 8 := Int.mul_le_mul_of_nonneg_right p1 (Int.le_of_lt (pq_pos 8))
      have h3 : 9223372036854775808 * pw64 m * pw64 k ≤ B * pw64 k := Int.mul_le_mul_of_nonneg_right hB (by omega)
      rw [Int.mul_assoc, ← pw64_add, e] at h3
      omega
  refine ⟨rl, rw', rfl, ?_, by rw [val64_zeros]; omega, lt, fun j _ h => List.getElem_replicate _⟩
  intro d hd
  rw [List.eq_of_mem_replicate hd]; exact ⟨by decide, by decide⟩
theorem dl_kn {X B : Int} {rs qs bs : List Int} {n p : Nat} (h : DlI X B rs qs (p + 1)) (bl : bs.length = 9) (bw : Words bs) (hn : 1 ≤ n) (hp : p + n ≤ 8) (tk : val64 (bs.take n) = B) (top : ∀ k, k + 1 = n → (h : k < bs.length) → bs[k] ≠ 0) : Kn rs bs n p := by
  refine ⟨h.rl, bl, h.rw, bw, hn, hp, top, ?_⟩
  rw [tk]
  have hl := h.rl
  have e1 := val64_part rs p (by omega)
  have e2 := val64_part (rs.drop p) (n + 1) (by simp; omega)
  have t0 := val64_nonneg (words_take h.rw p)
  have t1 := val64_nonneg (words_drop (words_drop h.rw p) (n + 1))
  have p0 := pq_pos p
  have p1 := pq_pos (n + 1)
  have lt := h.lt
  rw [pw64, e1] at lt
  have w0 : val64 (win rs p (n + 1)) ≤ val64 (rs.drop p) := by
    unfold win
    have := Int.mul_nonneg (Int.le_of_lt p1) t1
    omega
  apply Int.lt_of_mul_lt_mul_left (a := pw64 p) _ (by omega)
  have m1 : pw64 p * val64 (win rs p (n + 1)) ≤ pw64 p * val64 (rs.drop p) := Int.mul_le_mul_of_nonneg_left w0 (by omega)
  have e3 : B * (18446744073709551616 * pw64 p) = pw64 p * (18446744073709551616 * B) := by grind
  omega
theorem dl_step {X B : Int} {rs qs rs' : List Int} {n p : Nat} (h : DlI X B rs qs (p + 1)) (hn : 1 ≤ n) (hp : p + n ≤ 8) (B0 : 0 < B) (hB : B < pw64 n) (K : val64 (win rs p (n + 1)) < 18446744073709551616 * B) (rl : rs'.length = 9) (rw' : Words rs') (rv : val64 rs' = val64 rs - pw64 p * (val64 (win rs p (n + 1)) / B * B)) :
    Word (val64 (win rs p (n + 1)) / B) ∧ DlI X B rs' (qs.set p (val64 (win rs p (n + 1)) / B)) p := by
  have hl := h.rl
  have ql := h.ql
  have W0 := val64_nonneg (win_words h.rw p (n + 1))
  have hq : Word (val64 (win rs p (n + 1)) / B) := ⟨Int.ediv_nonneg W0 (by omega), Int.ediv_lt_of_lt_mul B0 K⟩
  refine ⟨hq, rl, rw', by simpa using ql, words_set h.qw _ hq, ?_, ?_, fun j hj hh => ?_⟩
  · rw [val64_set qs p (by omega), h.low p (by omega) (by omega), rv, Int.sub_zero]
    have := h.eq
    generalize val64 (win rs p (n + 1)) / B = q at *
    generalize pw64 p = P at *
    grind
  · rw [rv]
    have e1 := val64_part rs p (by omega)
    have e2 := val64_part (rs.drop p) (n + 1) (by simp; omega)
    have t1 := vq_lt (words_take h.rw p)
    rw [List.length_take, Nat.min_eq_left (by omega)] at t1
    have p0 := pq_pos p
    have big : val64 rs < pw64 (p + (n + 1)) := by
      have lt := h.lt
      rw [pw64] at lt
      rw [pw64_add, pw64]
      have m1 : pw64 p * (18446744073709551616 * (B + 1)) ≤ pw64 p * (18446744073709551616 * pw64 n) := Int.mul_le_mul_of_nonneg_left (by omega) (by omega)
      have e3 : B * (18446744073709551616 * pw64 p) = pw64 p * (18446744073709551616 * B) := by grind
      have e4 : pw64 p * (18446744073709551616 * (B + 1)) = pw64 p * (18446744073709551616 * B) + 18446744073709551616 * pw64 p := by grind
      omega
    have hz := (val64_high h.rw (p + (n + 1)) (by omega) big).1
    rw [List.drop_drop, hz, Int.mul_zero, Int.add_zero] at e2
    have e5 : val64 (win rs p (n + 1)) = val64 (rs.drop p) := by unfold win; rw [e2]
    rw [e1, ← e5]
    have e6 := Int.mul_ediv_add_emod (val64 (win rs p (n + 1))) B
    have e7 := Int.emod_lt_of_pos (val64 (win rs p (n + 1))) B0
    generalize val64 (win rs p (n + 1)) / B = q at *
    generalize val64 (win rs p (n + 1)) % B = r at *
    generalize val64 (win rs p (n + 1)) = W at *
    have e8 : pw64 p * (r + 1) ≤ pw64 p * B := Int.mul_le_mul_of_nonneg_left (by omega) (by omega)
    have e9 : pw64 p * (q * B) = pw64 p * W - pw64 p * r := by rw [← e6]; grind
    rw [Int.mul_add] at e8
    rw [e9, Int.mul_comm B]
    omega
  · have hh' : j < qs.length := by simpa using hh
    rw [List.getElem_set_ne (by omega)]
    exact h.low j (by omega) hh'
theorem dl_end {X Y B : Int} {rs qs : List Int} {s : Nat} (h : DlI (2 ^ s * X) B rs qs 0) (hY : 0 < Y) (hB : B = 2 ^ s * Y) : val64 qs = X / Y ∧ val64 rs = 2 ^ s * (X % Y) := by
  have p0 : (0 : Int) < 2 ^ s := Int.pow_pos (by decide)
  have e := h.eq
  have lt := h.lt
  rw [pw64, Int.mul_one, hB] at lt
  rw [hB] at e
  have r0 := val64_nonneg h.rw
  generalize val64 rs = R at *
  generalize val64 qs = Q at *
  have e1 : R = 2 ^ s * (X - Q * Y) := by grind
  have r1 : 0 ≤ X - Q * Y := by
    apply Decidable.byContradiction
    intro hn
    have h1 : (2 : Int) ^ s * (X - Q * Y + 1) ≤ 2 ^ s * 0 := Int.mul_le_mul_of_nonneg_left (by omega) (by omega)
    rw [Int.mul_add] at h1
    omega
  have r2 : X - Q * Y < Y := by
    apply Int.lt_of_mul_lt_mul_left (a := 2 ^ s) _ (by omega)
    omega
  have e2 : X = (X - Q * Y) + Y * Q := by grind
  have q : X / Y = Q := by
    rw [e2, Int.add_mul_ediv_left _ _ (by omega), Int.ediv_eq_zero_of_lt r1 r2]; omega
  have r : X % Y = X - Q * Y := by
    have := Int.mul_ediv_add_emod X Y
    rw [q] at this
    have e3 : Y * Q = Q * Y := Int.mul_comm _ _
    omega
  exact ⟨q.symm, by rw [r]; exact e1⟩
end Go.Proofs.Ytnnojeggjnddpaa

/- The program's long division: what lies in memory around its first statements. -/
namespace Go.Proofs.Ytnnojeggjnddpaa
open Go.RowKit
theorem liftUp_det (xs : List Int) (r : Nat) (hl : xs.length = 8) (hx : Words xs) (hr : r < 64) (zs : List Int) (zl : zs.length = 9) (zw : Words zs) (zv : val64 zs = 2 ^ r * val64 xs) (w : World) : Calls Try.prog 131 #[agg xs, .int .i64 r] w (fun e w' => e = .returned (agg zs) ∧ Below w.heap.size w w') := by
  refine (liftUp_any xs r hl hx hr w).mono ?_
  rintro e w1 ⟨us, rfl, h1, h2, h3, hB⟩
  obtain rfl : us = zs := val64_inj h2 zw (h1.trans zl.symm) (h3.trans zv.symm)
  exact ⟨rfl, hB⟩
theorem dl_cells {x0 x1 x2 x3 x4 x5 x6 x7 y0 y1 y2 y3 y4 y5 y6 y7 : Int} {w W : World} (h : ArgsB w W [[.int .u64 x0, .int .u64 x1, .int .u64 x2, .int .u64 x3, .int .u64 x4, .int .u64 x5, .int .u64 x6, .int .u64 x7], [.int .u64 y0, .int .u64 y1, .int .u64 y2, .int .u64 y3, .int .u64 y4, .int .u64 y5, .int .u64 y6, .int .u64 y7], [.int .u64 0, .int .u64 0, .int .u64 0, .int .u64 0, .int .u64 0, .int .u64 0, .int .u64 0, .int .u64 0], [.int .u64 0, .int .u64 0, .int .u64 0, .int .u64 0, .int .u64 0, .int .u64 0, .int .u64 0, .int .u64 0]]) : (fun w' => w'.cell? ⟨w.heap.size, 0, none⟩ = some (.int .u64 x0) ∧ w'.cell? ⟨w.heap.size, 1, none⟩ = some (.int .u64 x1) ∧ w'.cell? ⟨w.heap.size, 2, none⟩ = some (.int .u64 x2) ∧ w'.cell? ⟨w.heap.size, 3, none⟩ = some (.int .u64 x3) ∧ w'.cell? ⟨w.heap.size, 4, none⟩ = some (.int .u64 x4) ∧ w'.cell? ⟨w.heap.size, 5, none⟩ = some (.int .u64 x5) ∧ w'.cell? ⟨w.heap.size, 6, none⟩ = some (.int .u64 x6) ∧ w'.cell? ⟨w.heap.size, 7, none⟩ = some (.int .u64 x7) ∧ w'.cell? ⟨w.heap.size + 1, 0, none⟩ = some (.int .u64 y0) ∧ w'.cell? ⟨w.heap.size + 1, 1, none⟩ = some (.int .u64 y1) ∧ w'.cell? ⟨w.heap.size + 1, 2, none⟩ = some (.int .u64 y2) ∧ w'.cell? ⟨w.heap.size + 1, 3, none⟩ = some (.int .u64 y3) ∧ w'.cell? ⟨w.heap.size + 1, 4, none⟩ = some (.int .u64 y4) ∧ w'.cell? ⟨w.heap.size + 1, 5, none⟩ = some (.int .u64 y5) ∧ w'.cell? ⟨w.heap.size + 1, 6, none⟩ = some (.int .u64 y6) ∧ w'.cell? ⟨w.heap.size + 1, 7, none⟩ = some (.int .u64 y7)) W :=
  ⟨(h.b 0 rfl).c 0 rfl, (h.b 0 rfl).c 1 rfl, (h.b 0 rfl).c 2 rfl, (h.b 0 rfl).c 3 rfl, (h.b 0 rfl).c 4 rfl, (h.b 0 rfl).c 5 rfl, (h.b 0 rfl).c 6 rfl, (h.b 0 rfl).c 7 rfl, (h.b 1 rfl).c 0 rfl, (h.b 1 rfl).c 1 rfl, (h.b 1 rfl).c 2 rfl, (h.b 1 rfl).c 3 rfl, (h.b 1 rfl).c 4 rfl, (h.b 1 rfl).c 5 rfl, (h.b 1 rfl).c 6 rfl, (h.b 1 rfl).c 7 rfl⟩
theorem dl_args (x0 x1 x2 x3 x4 x5 x6 x7 y0 y1 y2 y3 y4 y5 y6 y7 : Int) (w : World) : ArgsB w ((((w.alloc (.cells #[.int .u64 x0, .int .u64 x1, .int .u64 x2, .int .u64 x3, .int .u64 x4, .int .u64 x5, .int .u64 x6, .int .u64 x7] 82)).alloc (.cells #[.int .u64 y0, .int .u64 y1, .int .u64 y2, .int .u64 y3, .int .u64 y4, .int .u64 y5, .int .u64 y6, .int .u64 y7] 82)).alloc (.cells #[.int .u64 0, .int .u64 0, .int .u64 0, .int .u64 0, .int .u64 0, .int .u64 0, .int .u64 0, .int .u64 0] 82)).alloc (.cells #[.int .u64 0, .int .u64 0, .int .u64 0, .int .u64 0, .int .u64 0, .int .u64 0, .int .u64 0, .int .u64 0] 82)) [[.int .u64 x0, .int .u64 x1, .int .u64 x2, .int .u64 x3, .int .u64 x4, .int .u64 x5, .int .u64 x6, .int .u64 x7], [.int .u64 y0, .int .u64 y1, .int .u64 y2, .int .u64 y3, .int .u64 y4, .int .u64 y5, .int .u64 y6, .int .u64 y7], [.int .u64 0, .int .u64 0, .int .u64 0, .int .u64 0, .int .u64 0, .int .u64 0, .int .u64 0, .int .u64 0], [.int .u64 0, .int .u64 0, .int .u64 0, .int .u64 0, .int .u64 0, .int .u64 0, .int .u64 0, .int .u64 0]] := by
  refine ⟨((((Below.refl _ _).alloc (Nat.le_refl _) _).alloc (by simp) _).alloc (by simp; omega) _).alloc (by simp; omega) _, fun j vs hj => ?_⟩
  match j, hj with
  | 0, hj => cases hj; exact (((Blk.new w [.int .u64 x0, .int .u64 x1, .int .u64 x2, .int .u64 x3, .int .u64 x4, .int .u64 x5, .int .u64 x6, .int .u64 x7] 82 rfl).alloc _).alloc _).alloc _
  | 1, hj => cases hj; exact ((Blk.new (w.alloc (.cells #[.int .u64 x0, .int .u64 x1, .int .u64 x2, .int .u64 x3, .int .u64 x4, .int .u64 x5, .int .u64 x6, .int .u64 x7] 82)) [.int .u64 y0, .int .u64 y1, .int .u64 y2, .int .u64 y3, .int .u64 y4, .int .u64 y5, .int .u64 y6, .int .u64 y7] 82 (by simp)).alloc _).alloc _
  | 2, hj => cases hj; exact (Blk.new ((w.alloc (.cells #[.int .u64 x0, .int .u64 x1, .int .u64 x2, .int .u64 x3, .int .u64 x4, .int .u64 x5, .int .u64 x6, .int .u64 x7] 82)).alloc (.cells #[.int .u64 y0, .int .u64 y1, .int .u64 y2, .int .u64 y3, .int .u64 y4, .int .u64 y5, .int .u64 y6, .int .u64 y7] 82)) [.int .u64 0, .int .u64 0, .int .u64 0, .int .u64 0, .int .u64 0, .int .u64 0, .int .u64 0, .int .u64 0] 82 (by simp)).alloc _
  | 3, hj => cases hj; exact Blk.new (((w.alloc (.cells #[.int .u64 x0, .int .u64 x1, .int .u64 x2, .int .u64 x3, .int .u64 x4, .int .u64 x5, .int .u64 x6, .int .u64 x7] 82)).alloc (.cells #[.int .u64 y0, .int .u64 y1, .int .u64 y2, .int .u64 y3, .int .u64 y4, .int .u64 y5, .int .u64 y6, .int .u64 y7] 82)).alloc (.cells #[.int .u64 0, .int .u64 0, .int .u64 0, .int .u64 0, .int .u64 0, .int .u64 0, .int .u64 0, .int .u64 0] 82)) [.int .u64 0, .int .u64 0, .int .u64 0, .int .u64 0, .int .u64 0, .int .u64 0, .int .u64 0, .int .u64 0] 82 (by simp)
  | j + 4, hj => simp at hj
theorem ArgsB.lt4 {w W : World} {a b c d : List Value} (h : ArgsB w W [a, b, c, d]) : w.heap.size + 3 < W.heap.size := (h.b 3 rfl).lt
theorem Blk.newS (W : World) (o : Obj) (vs : List Value) (T : TypeId) : Blk ((W.alloc o).alloc (.cells vs.toArray T)) (W.heap.size + 1) vs := Blk.new _ _ _ (by simp)
theorem size_cells (b : Nat) : ∀ (vs : List Value) (o : Nat) (w : World), (w.setCells b o vs).heap.size = w.heap.size
  | [], _, _ => rfl
  | v :: r, o, w => by rw [World.setCells, size_cells b r]; simp [World.setCell]
theorem Blk.cellsO {g b : Nat} {zs : List Value} (hne : g ≠ b) : ∀ (vs : List Value) (o : Nat) {w : World}, Blk w g zs → Blk (w.setCells b o vs) g zs
  | [], _, _, h => h
  | v :: r, o, w, h => by rw [World.setCells]; exact Blk.cellsO hne r (o + 1) (h.setO hne v)
theorem Blk.cellsI {w : World} {g : Nat} {zs vs : List Value} (h : Blk w g zs) (hl : vs.length = zs.length) : Blk (w.setCells g 0 vs) g vs := by
  refine ⟨by rw [size_cells]; exact h.lt, fun i v hi => ?_⟩
  have hil : i < vs.length := by
    apply Decidable.byContradiction
    intro hn
    rw [List.getElem?_eq_none (by omega)] at hi
    simp at hi
  have hc : ∀ j, j < vs.length → (w.cell? ⟨g, 0 + j, none⟩).isSome = true := fun j hj => by
    rw [Nat.zero_add, h.c j (List.getElem?_eq_getElem (by omega))]; rfl
  have e := World.cell?_setCells_in g vs 0 w hc i hil
  rw [Nat.zero_add] at e
  rw [List.getElem?_eq_getElem hil] at hi
  cases hi
  exact ⟨e, by rw [World.frozen?_setCells]; exact h.f i (List.getElem?_eq_getElem (by omega))⟩
theorem below_cells {B g : Nat} {w0 : World} (hg : B ≤ g) : ∀ (vs : List Value) (o : Nat) {w : World}, Below B w0 w → Below B w0 (w.setCells g o vs)
  | [], _, _, h => h
  | v :: r, o, w, h => by rw [World.setCells]; exact below_cells hg r (o + 1) (h.setCell hg v)
theorem ArgsB.cells {w W : World} {a b c d : List Value} (h : ArgsB w W [a, b, c, d]) {g : Nat} (hg : w.heap.size + 3 < g) (vs : List Value) : ArgsB w (W.setCells g 0 vs) [a, b, c, d] := by
  refine ⟨below_cells (by omega) vs 0 h.1, fun j us hj => Blk.cellsO ?_ vs 0 (h.2 j us hj)⟩
  have : j < 4 := by
    apply Decidable.byContradiction
    intro hn
    rw [List.getElem?_eq_none (by simp; omega)] at hj
    simp at hj
  omega
theorem Blk.there {W : World} {g : Nat} {vs : List Value} (h : Blk W g vs) {n : Nat} (hn : vs.length = n) : W.there g 0 n := fun j hj => by
  rw [Nat.zero_add, h.c j (List.getElem?_eq_getElem (by omega)), h.f j (List.getElem?_eq_getElem (by omega))]
  exact ⟨rfl, rfl⟩
theorem there_cells (W : World) (b : Nat) (vs : List Value) (g n : Nat) (h : W.there g 0 n) : (W.setCells b 0 vs).there g 0 n := World.there_setCells h b 0 vs
theorem ArgsB.set9 {w W : World} {a b c d : List Value} (h : ArgsB w W [a, b, c, d]) {g : Nat} (hg : w.heap.size + 3 < g) (v0 v1 v2 v3 v4 v5 v6 v7 v8 : Value) : ArgsB w (((((((((W.setCell ⟨g, 0, none⟩ v0).setCell ⟨g, 1, none⟩ v1).setCell ⟨g, 2, none⟩ v2).setCell ⟨g, 3, none⟩ v3).setCell ⟨g, 4, none⟩ v4).setCell ⟨g, 5, none⟩ v5).setCell ⟨g, 6, none⟩ v6).setCell ⟨g, 7, none⟩ v7).setCell ⟨g, 8, none⟩ v8) [a, b, c, d] :=
  (((((((((h.set (by exact hg) _).set (by exact hg) _).set (by exact hg) _).set (by exact hg) _).set (by exact hg) _).set (by exact hg) _).set (by exact hg) _).set (by exact hg) _).set (by exact hg) _)
theorem Blk.stored9 {W : World} {g : Nat} {z0 z1 z2 z3 z4 z5 z6 z7 z8 : Value} (G : Blk W g [z0, z1, z2, z3, z4, z5, z6, z7, z8]) (v0 v1 v2 v3 v4 v5 v6 v7 v8 : Value) : Blk (((((((((W.setCell ⟨g, 0, none⟩ v0).setCell ⟨g, 1, none⟩ v1).setCell ⟨g, 2, none⟩ v2).setCell ⟨g, 3, none⟩ v3).setCell ⟨g, 4, none⟩ v4).setCell ⟨g, 5, none⟩ v5).setCell ⟨g, 6, none⟩ v6).setCell ⟨g, 7, none⟩ v7).setCell ⟨g, 8, none⟩ v8) g [v0, v1, v2, v3, v4, v5, v6, v7, v8] :=
  (((((((((G.setI 0 (by simp) v0).setI 1 (by simp) v1).setI 2 (by simp) v2).setI 3 (by simp) v3).setI 4 (by simp) v4).setI 5 (by simp) v5).setI 6 (by simp) v6).setI 7 (by simp) v7).setI 8 (by simp) v8)
theorem Blk.set9 {W : World} {vs : List Value} {v0 v1 v2 v3 v4 v5 v6 v7 v8 : Value} {g g' : Nat} (G : Blk W g' vs) (hg : g' ≠ g) : Blk (((((((((W.setCell ⟨g, 0, none⟩ v0).setCell ⟨g, 1, none⟩ v1).setCell ⟨g, 2, none⟩ v2).setCell ⟨g, 3, none⟩ v3).setCell ⟨g, 4, none⟩ v4).setCell ⟨g, 5, none⟩ v5).setCell ⟨g, 6, none⟩ v6).setCell ⟨g, 7, none⟩ v7).setCell ⟨g, 8, none⟩ v8) g' vs :=
  (((((((((G.setO (by exact hg) _).setO (by exact hg) _).setO (by exact hg) _).setO (by exact hg) _).setO (by exact hg) _).setO (by exact hg) _).setO (by exact hg) _).setO (by exact hg) _).setO (by exact hg) _)
theorem below_set8 {B g : Nat} {w W : World} {v0 v1 v2 v3 v4 v5 v6 v7 : Value} (hg : B ≤ g) (h : Below B w W) : Below B w ((((((((W.setCell ⟨g, 0, none⟩ v0).setCell ⟨g, 1, none⟩ v1).setCell ⟨g, 2, none⟩ v2).setCell ⟨g, 3, none⟩ v3).setCell ⟨g, 4, none⟩ v4).setCell ⟨g, 5, none⟩ v5).setCell ⟨g, 6, none⟩ v6).setCell ⟨g, 7, none⟩ v7) :=
  ((((((((h.setCell hg _).setCell hg _).setCell hg _).setCell hg _).setCell hg _).setCell hg _).setCell hg _).setCell hg _)
/-- Two rows laid behind the arguments. -/
def CutD (w wx : World) (vss : List (List Value)) (xs ys : List Value) (p q : Value) : Prop :=
  ∃ g g', p = .pointer (some ⟨g, 0, none⟩) ∧ q = .pointer (some ⟨g', 0, none⟩) ∧ g ≠ g' ∧ w.heap.size + 3 < g ∧ w.heap.size + 3 < g' ∧ ArgsB w wx vss ∧ Blk wx g xs ∧ Blk wx g' ys
theorem cutD_cells {w X : World} {a b c d : List Value} {zs zs' xs ys : List Value} {g g' : Nat} (h : ArgsB w X [a, b, c, d]) (G : Blk X g zs) (G' : Blk X g' zs') (lx : zs.length = xs.length) (ly : zs'.length = ys.length) (hg : w.heap.size + 3 < g) (hg' : w.heap.size + 3 < g') (hne : g ≠ g') :
    CutD w ((X.setCells g 0 xs).setCells g' 0 ys) [a, b, c, d] xs ys (.pointer (some ⟨g, 0, none⟩)) (.pointer (some ⟨g', 0, none⟩)) :=
  ⟨_, _, rfl, rfl, hne, hg, hg', (h.cells hg _).cells hg' _, Blk.cellsO hne _ _ (G.cellsI lx.symm), (Blk.cellsO (fun e => hne e.symm) _ _ G').cellsI ly.symm⟩
end Go.Proofs.Ytnnojeggjnddpaa

/- The walk of the program's long division. -/
namespace Go.Proofs.Ytnnojeggjnddpaa
open Go.RowKit
def DivLP (X Y : Int) (w : World) (e : Ending) (w' : World) : Prop :=
  ∃ qs rs : List Int, e = .returned (.tuple #[agg qs, agg rs]) ∧ qs.length = 8 ∧ rs.length = 8 ∧ Words qs ∧ Words rs ∧ val64 qs = X / Y ∧ val64 rs = X % Y ∧ Below w.heap.size w w'
set_option maxRecDepth 100000 in
set_option maxHeartbeats 4000000 in
theorem divideLong_any (xs ys : List Int) (hl : xs.length = 8) (hm : ys.length = 8) (hx : Words xs) (hy : Words ys) (h0 : 0 < val64 ys) (w : World) : Calls Try.prog 123 #[agg xs, agg ys] w (DivLP (val64 xs) (val64 ys) w) := by
  have HL : Hid (xs.length = 8) := hl
  have HM : Hid (ys.length = 8) := hm
  have HX : Hid (Words xs) := hx
  have HY : Hid (Words ys) := hy
  have H0 : Hid (0 < val64 ys) := h0
  obtain ⟨x0, x1, x2, x3, x4, x5, x6, x7, hxs⟩ := list8' hl
  have HAX : Hid (agg xs = .agg #[.int .u64 x0, .int .u64 x1, .int .u64 x2, .int .u64 x3, .int .u64 x4, .int .u64 x5, .int .u64 x6, .int .u64 x7]) := by show _ = _; rw [hxs]; rfl
  rw [HAX.out]
  obtain ⟨y0, y1, y2, y3, y4, y5, y6, y7, hys⟩ := list8' hm
  have HAY : Hid (agg ys = .agg #[.int .u64 y0, .int .u64 y1, .int .u64 y2, .int .u64 y3, .int .u64 y4, .int .u64 y5, .int .u64 y6, .int .u64 y7]) := by show _ = _; rw [hys]; rfl
  have HMY : Hid (ys.map (Value.int .u64) = [.int .u64 y0, .int .u64 y1, .int .u64 y2, .int .u64 y3, .int .u64 y4, .int .u64 y5, .int .u64 y6, .int .u64 y7]) := by show _ = _; rw [hys]; rfl
  rw [HAY.out]
  have T0 := dl_args x0 x1 x2 x3 x4 x5 x6 x7 y0 y1 y2 y3 y4 y5 y6 y7 w
  clear hl hm hx hy h0 hxs hys
  have tok1 : True := trivial
  go_enter Try.func123, Try.ntmps123
  go_wp2_with fail
  generalize ((((w.alloc (.cells #[.int .u64 x0, .int .u64 x1, .int .u64 x2, .int .u64 x3, .int .u64 x4, .int .u64 x5, .int .u64 x6, .int .u64 x7] 82)).alloc (.cells #[.int .u64 y0, .int .u64 y1, .int .u64 y2, .int .u64 y3, .int .u64 y4, .int .u64 y5, .int .u64 y6, .int .u64 y7] 82)).alloc (.cells #[.int .u64 0, .int .u64 0, .int .u64 0, .int .u64 0, .int .u64 0, .int .u64 0, .int .u64 0, .int .u64 0] 82)).alloc (.cells #[.int .u64 0, .int .u64 0, .int .u64 0, .int .u64 0, .int .u64 0, .int .u64 0, .int .u64 0, .int .u64 0] 82)) = W at *
  have BY : Blk W (w.heap.size + 1) (ys.map (Value.int .u64)) := by rw [HMY.out]; exact T0.b 1 rfl
  have RY := blk_row_take BY (k := 8) (by have := HM.out; omega)
  rw [List.take_of_length_le (by have := HM.out; omega)] at RY
  refine (countWords_any (w.heap.size + 1) 0 8 8 ys _ HM.out RY (by decide)).mono ?_
  rintro e w1 ⟨n, rfl, c1, c2, c3, rfl⟩
  have hn1 : 1 ≤ n := by
    apply Decidable.byContradiction
    intro hn
    have := (val64_few HY.out n c1 c2).2
    obtain rfl : n = 0 := by omega
    have := H0.out
    simp only [pw64] at *
    omega
  obtain ⟨m, hmn⟩ : ∃ m, m + 1 = n := ⟨n - 1, by omega⟩
  have im : m < ys.length := by omega
  have hn8 : n ≤ 8 := by have := HM.out; omega
  have htop := c3 m hmn.symm im
  have C2 : Hid (∀ j, n ≤ j → (h : j < ys.length) → ys[j] = 0) := c2
  have HMN : Hid (m + 1 = n) := hmn
  have cm : w1.cell? ⟨w.heap.size + 1, m, none⟩ = some (.int .u64 ys[m]) := BY.c m (by simp [im])
  have am : (n : Int) - 1 = (m : Int) := by omega
  have bm1 : (0 : Int) ≤ m := by omega
  have bm2 : (m : Int) < 8 := by omega
  have HT : Hid (ys[m] ≠ 0) := htop
  have wm := words_at HY.out m im
  clear RY c1 c2 c3 BY htop hmn
  go_wp2_with fail
  refine (lead_any ys[m] wm _).mono ?_
  rintro e w2 ⟨s, rfl, hs, hb, hB⟩
  replace T0 := T0.step hB
  clear hB cm
  have y0p := val64_nonneg HY.out
  have x0p := val64_nonneg HX.out
  have ylt := vq_lt HY.out
  have xlt := vq_lt HX.out
  rw [HM.out] at ylt
  rw [HL.out] at xlt
  have s64 : s < 64 := by
    apply Decidable.byContradiction
    intro hn
    have g1 := hb.2.1
    rw [show 64 - s = 0 by omega] at g1
    simp at g1
    have := wm.1
    have := HT.out
    omega
  have ps := pow_le64 s64
  have ps0 : (0 : Int) < 2 ^ s := Int.pow_pos (by decide)
  have p9 : (9223372036854775808 : Int) * pw64 8 ≤ pw64 9 := by decide
  obtain ⟨bs, bl, bw, bv⟩ := words_ex 9 (2 ^ s * val64 ys) (Int.mul_nonneg (by omega) y0p) (by
    have h1 : (2 : Int) ^ s * (val64 ys + 1) ≤ 2 ^ s * pw64 8 := Int.mul_le_mul_of_nonneg_left (by omega) (by omega)
    have h2 : (2 : Int) ^ s * pw64 8 ≤ 9223372036854775808 * pw64 8 := Int.mul_le_mul_of_nonneg_right ps (Int.le_of_lt (pq_pos 8))
    rw [Int.mul_add] at h1
    omega)
  obtain ⟨rs, rl, rw', rv⟩ := words_ex 9 (2 ^ s * val64 xs) (Int.mul_nonneg (by omega) x0p) (by
    have h1 : (2 : Int) ^ s * (val64 xs + 1) ≤ 2 ^ s * pw64 8 := Int.mul_le_mul_of_nonneg_left (by omega) (by omega)
    have h2 : (2 : Int) ^ s * pw64 8 ≤ 9223372036854775808 * pw64 8 := Int.mul_le_mul_of_nonneg_right ps (Int.le_of_lt (pq_pos 8))
    rw [Int.mul_add] at h1
    omega)
  obtain ⟨_, tk, lowB, highB, topB⟩ := kn_by HM.out HY.out HMN.out hn8 C2.out im HT.out hs hb bl bw bv
  have LY := liftUp_det ys s HM.out HY.out s64 bs bl bw bv
  have LX := liftUp_det xs s HL.out HX.out s64 rs rl rw' rv
  rw [HAY.out] at LY
  rw [HAX.out] at LX
  have HBL : Hid (bs.length = 9) := bl
  have HBW : Hid (Words bs) := bw
  have HBV : Hid (val64 bs = 2 ^ s * val64 ys) := bv
  have HRL : Hid (rs.length = 9) := rl
  have HRW : Hid (Words rs) := rw'
  have HRV : Hid (val64 rs = 2 ^ s * val64 xs) := rv
  have HTK : Hid (val64 (bs.take n) = val64 bs) := tk
  have HLO : Hid (9223372036854775808 * pw64 m ≤ val64 bs) := lowB
  have HHI : Hid (val64 bs < pw64 n) := highB
  have HTP : Hid (∀ k, k + 1 = n → (h : k < bs.length) → bs[k] ≠ 0) := topB
  have HXL : Hid (val64 xs < pw64 8) := xlt
  unfold agg at LY LX
  clear bl bw bv rl rw' rv tk lowB highB topB xlt ylt y0p x0p ps ps0 p9 hb wm
  go_upto_region 3 with fail
  go_cut [8, 9] (fun p q wx => CutD w wx [[.int .u64 x0, .int .u64 x1, .int .u64 x2, .int .u64 x3, .int .u64 x4, .int .u64 x5, .int .u64 x6, .int .u64 x7], [.int .u64 y0, .int .u64 y1, .int .u64 y2, .int .u64 y3, .int .u64 y4, .int .u64 y5, .int .u64 y6, .int .u64 y7], [.int .u64 0, .int .u64 0, .int .u64 0, .int .u64 0, .int .u64 0, .int .u64 0, .int .u64 0, .int .u64 0], [.int .u64 0, .int .u64 0, .int .u64 0, .int .u64 0, .int .u64 0, .int .u64 0, .int .u64 0, .int .u64 0]] (bs.map (Value.int .u64)) (rs.map (Value.int .u64)) p q)
  case first =>
    have is0 : Option.map (fun x => x.size) (Try.prog.info? 163) = some 9 := by kernel_rfl
    have hbl : (bs.map (Value.int .u64)).length = 9 := by rw [List.length_map]; exact HBL.out
    have hrl : (rs.map (Value.int .u64)).length = 9 := by rw [List.length_map]; exact HRL.out
    have hbl9 : ([.int .u64 0, .int .u64 0, .int .u64 0, .int .u64 0, .int .u64 0, .int .u64 0, .int .u64 0, .int .u64 0, .int .u64 0] : List Value).length = (bs.map (Value.int .u64)).length := hbl.symm
    have hrl9 : ([.int .u64 0, .int .u64 0, .int .u64 0, .int .u64 0, .int .u64 0, .int .u64 0, .int .u64 0, .int .u64 0, .int .u64 0] : List Value).length = (rs.map (Value.int .u64)).length := hrl.symm
    have ob1 : ∀ v ∈ (bs.map (Value.int .u64)), v.oneCell' = true := by
      intro v hv
      obtain ⟨d, _, rfl⟩ := List.mem_map.1 hv
      rfl
    have ob2 : ∀ v ∈ (rs.map (Value.int .u64)), v.oneCell' = true := by
      intro v hv
      obtain ⟨d, _, rfl⟩ := List.mem_map.1 hv
      rfl
    have is1 : Option.map (fun x => x.size) (Try.prog.info? 163) = some (bs.map (Value.int .u64)).length := by rw [hbl]; exact is0
    have is2 : Option.map (fun x => x.size) (Try.prog.info? 163) = some (rs.map (Value.int .u64)).length := by rw [hrl]; exact is0
    have thab : ∀ (W : World), (W.alloc (.cells #[.int .u64 0, .int .u64 0, .int .u64 0, .int .u64 0, .int .u64 0, .int .u64 0, .int .u64 0, .int .u64 0, .int .u64 0] 163)).there W.heap.size 0 (bs.map (Value.int .u64)).length := fun W => (Blk.new W [.int .u64 0, .int .u64 0, .int .u64 0, .int .u64 0, .int .u64 0, .int .u64 0, .int .u64 0, .int .u64 0, .int .u64 0] _ rfl).there hbl9
    have thbb : ∀ (W : World) (o : Obj), ((W.alloc (.cells #[.int .u64 0, .int .u64 0, .int .u64 0, .int .u64 0, .int .u64 0, .int .u64 0, .int .u64 0, .int .u64 0, .int .u64 0] 163)).alloc o).there W.heap.size 0 (bs.map (Value.int .u64)).length := fun W o => ((Blk.new W [.int .u64 0, .int .u64 0, .int .u64 0, .int .u64 0, .int .u64 0, .int .u64 0, .int .u64 0, .int .u64 0, .int .u64 0] _ rfl).alloc o).there hbl9
    have thcb : ∀ (W : World) (o : Obj), ((W.alloc o).alloc (.cells #[.int .u64 0, .int .u64 0, .int .u64 0, .int .u64 0, .int .u64 0, .int .u64 0, .int .u64 0, .int .u64 0, .int .u64 0] 163)).there (W.heap.size + 1) 0 (bs.map (Value.int .u64)).length := fun W o => (Blk.newS W o [.int .u64 0, .int .u64 0, .int .u64 0, .int .u64 0, .int .u64 0, .int .u64 0, .int .u64 0, .int .u64 0, .int .u64 0] _).there hbl9
    have thdb : ∀ (W : World) (o : Obj) (b : Nat) (vs : List Value), (((W.alloc o).alloc (.cells #[.int .u64 0, .int .u64 0, .int .u64 0, .int .u64 0, .int .u64 0, .int .u64 0, .int .u64 0, .int .u64 0, .int .u64 0] 163)).setCells b 0 vs).there (W.heap.size + 1) 0 (bs.map (Value.int .u64)).length := fun W o b vs => there_cells _ _ _ _ _ ((Blk.newS W o [.int .u64 0, .int .u64 0, .int .u64 0, .int .u64 0, .int .u64 0, .int .u64 0, .int .u64 0, .int .u64 0, .int .u64 0] _).there hbl9)
    have theb : ∀ (W : World) (o : Obj) (b : Nat) (vs : List Value), (((W.alloc (.cells #[.int .u64 0, .int .u64 0, .int .u64 0, .int .u64 0, .int .u64 0, .int .u64 0, .int .u64 0, .int .u64 0, .int .u64 0] 163)).alloc o).setCells b 0 vs).there W.heap.size 0 (bs.map (Value.int .u64)).length := fun W o b vs => there_cells _ _ _ _ _ (((Blk.new W [.int .u64 0, .int .u64 0, .int .u64 0, .int .u64 0, .int .u64 0, .int .u64 0, .int .u64 0, .int .u64 0, .int .u64 0] _ rfl).alloc o).there hbl9)
    have thfb : ∀ (W : World) (b g : Nat) (vs : List Value), W.there g 0 (bs.map (Value.int .u64)).length → (W.setCells b 0 vs).there g 0 (bs.map (Value.int .u64)).length := fun W b g vs h => there_cells _ _ _ _ _ h
    have thgb : ∀ (W : World) (o : Obj) (g : Nat), W.there g 0 (bs.map (Value.int .u64)).length → (W.alloc o).there g 0 (bs.map (Value.int .u64)).length := fun W o g h => World.there_alloc h o
    have thar : ∀ (W : World), (W.alloc (.cells #[.int .u64 0, .int .u64 0, .int .u64 0, .int .u64 0, .int .u64 0, .int .u64 0, .int .u64 0, .int .u64 0, .int .u64 0] 163)).there W.heap.size 0 (rs.map (Value.int .u64)).length := fun W => (Blk.new W [.int .u64 0, .int .u64 0, .int .u64 0, .int .u64 0, .int .u64 0, .int .u64 0, .int .u64 0, .int .u64 0, .int .u64 0] _ rfl).there hrl9
    have thbr : ∀ (W : World) (o : Obj), ((W.alloc (.cells #[.int .u64 0, .int .u64 0, .int .u64 0, .int .u64 0, .int .u64 0, .int .u64 0, .int .u64 0, .int .u64 0, .int .u64 0] 163)).alloc o).there W.heap.size 0 (rs.map (Value.int .u64)).length := fun W o => ((Blk.new W [.int .u64 0, .int .u64 0, .int .u64 0, .int .u64 0, .int .u64 0, .int .u64 0, .int .u64 0, .int .u64 0, .int .u64 0] _ rfl).alloc o).there hrl9
    have thcr : ∀ (W : World) (o : Obj), ((W.alloc o).alloc (.cells #[.int .u64 0, .int .u64 0, .int .u64 0, .int .u64 0, .int .u64 0, .int .u64 0, .int .u64 0, .int .u64 0, .int .u64 0] 163)).there (W.heap.size + 1) 0 (rs.map (Value.int .u64)).length := fun W o => (Blk.newS W o [.int .u64 0, .int .u64 0, .int .u64 0, .int .u64 0, .int .u64 0, .int .u64 0, .int .u64 0, .int .u64 0, .int .u64 0] _).there hrl9
    have thdr : ∀ (W : World) (o : Obj) (b : Nat) (vs : List Value), (((W.alloc o).alloc (.cells #[.int .u64 0, .int .u64 0, .int .u64 0, .int .u64 0, .int .u64 0, .int .u64 0, .int .u64 0, .int .u64 0, .int .u64 0] 163)).setCells b 0 vs).there (W.heap.size + 1) 0 (rs.map (Value.int .u64)).length := fun W o b vs => there_cells _ _ _ _ _ ((Blk.newS W o [.int .u64 0, .int .u64 0, .int .u64 0, .int .u64 0, .int .u64 0, .int .u64 0, .int .u64 0, .int .u64 0, .int .u64 0] _).there hrl9)
    have ther : ∀ (W : World) (o : Obj) (b : Nat) (vs : List Value), (((W.alloc (.cells #[.int .u64 0, .int .u64 0, .int .u64 0, .int .u64 0, .int .u64 0, .int .u64 0, .int .u64 0, .int .u64 0, .int .u64 0] 163)).alloc o).setCells b 0 vs).there W.heap.size 0 (rs.map (Value.int .u64)).length := fun W o b vs => there_cells _ _ _ _ _ (((Blk.new W [.int .u64 0, .int .u64 0, .int .u64 0, .int .u64 0, .int .u64 0, .int .u64 0, .int .u64 0, .int .u64 0, .int .u64 0] _ rfl).alloc o).there hrl9)
    have thfr : ∀ (W : World) (b g : Nat) (vs : List Value), W.there g 0 (rs.map (Value.int .u64)).length → (W.setCells b 0 vs).there g 0 (rs.map (Value.int .u64)).length := fun W b g vs h => there_cells _ _ _ _ _ h
    have thgr : ∀ (W : World) (o : Obj) (g : Nat), W.there g 0 (rs.map (Value.int .u64)).length → (W.alloc o).there g 0 (rs.map (Value.int .u64)).length := fun W o g h => World.there_alloc h o
    clear hbl hrl is0
    go_region_held3 (fun w' => w'.cell? ⟨w.heap.size, 0, none⟩ = some (.int .u64 x0) ∧ w'.cell? ⟨w.heap.size, 1, none⟩ = some (.int .u64 x1) ∧ w'.cell? ⟨w.heap.size, 2, none⟩ = some (.int .u64 x2) ∧ w'.cell? ⟨w.heap.size, 3, none⟩ = some (.int .u64 x3) ∧ w'.cell? ⟨w.heap.size, 4, none⟩ = some (.int .u64 x4) ∧ w'.cell? ⟨w.heap.size, 5, none⟩ = some (.int .u64 x5) ∧ w'.cell? ⟨w.heap.size, 6, none⟩ = some (.int .u64 x6) ∧ w'.cell? ⟨w.heap.size, 7, none⟩ = some (.int .u64 x7) ∧ w'.cell? ⟨w.heap.size + 1, 0, none⟩ = some (.int .u64 y0) ∧ w'.cell? ⟨w.heap.size + 1, 1, none⟩ = some (.int .u64 y1) ∧ w'.cell? ⟨w.heap.size + 1, 2, none⟩ = some (.int .u64 y2) ∧ w'.cell? ⟨w.heap.size + 1, 3, none⟩ = some (.int .u64 y3) ∧ w'.cell? ⟨w.heap.size + 1, 4, none⟩ = some (.int .u64 y4) ∧ w'.cell? ⟨w.heap.size + 1, 5, none⟩ = some (.int .u64 y5) ∧ w'.cell? ⟨w.heap.size + 1, 6, none⟩ = some (.int .u64 y6) ∧ w'.cell? ⟨w.heap.size + 1, 7, none⟩ = some (.int .u64 y7)) ((refine dl_cells ?_; repeat (first | (with_reducible exact T0) | (with_reducible refine ArgsB.drew ?_) | (with_reducible refine ArgsB.alloc ?_ _) | (with_reducible refine ArgsB.cells ?_ (by have := T0.lt4; first | omega | (simp; omega)) _))))
      (first
        | (go_at_call 131; have _t := tok1; refine (LY _).mono ?_; rintro e w3 ⟨rfl, hB⟩; (first | (have T1 : ArgsB w w3 _ := (by with_reducible exact T0.step hB); have hltw3 := T0.lt4; try (replace G0 := G0.step hB; have jtb := G0.there (n := (bs.map (Value.int .u64)).length) hbl9; have jtr := G0.there (n := (rs.map (Value.int .u64)).length) hrl9; obtain ⟨j0c, j0f, j1c, j1f, j2c, j2f, j3c, j3f, j4c, j4f, j5c, j5f, j6c, j6f, j7c, j7f, j8c, j8f⟩ := G0.cf9; have jlt := G0.lt); try (replace G1 := G1.step hB; have ktb := G1.there (n := (bs.map (Value.int .u64)).length) hbl9; have ktr := G1.there (n := (rs.map (Value.int .u64)).length) hrl9; obtain ⟨k0c, k0f, k1c, k1f, k2c, k2f, k3c, k3f, k4c, k4f, k5c, k5f, k6c, k6f, k7c, k7f, k8c, k8f⟩ := G1.cf9; have klt := G1.lt)) | (have T1 : ArgsB w w3 _ := (by with_reducible exact T0.drew.step hB); have hltw3 := T0.lt4; try (replace G0 := G0.drew.step hB; have jtb := G0.there (n := (bs.map (Value.int .u64)).length) hbl9; have jtr := G0.there (n := (rs.map (Value.int .u64)).length) hrl9; obtain ⟨j0c, j0f, j1c, j1f, j2c, j2f, j3c, j3f, j4c, j4f, j5c, j5f, j6c, j6f, j7c, j7f, j8c, j8f⟩ := G0.cf9; have jlt := G0.lt); try (replace G1 := G1.drew.step hB; have ktb := G1.there (n := (bs.map (Value.int .u64)).length) hbl9; have ktr := G1.there (n := (rs.map (Value.int .u64)).length) hrl9; obtain ⟨k0c, k0f, k1c, k1f, k2c, k2f, k3c, k3f, k4c, k4f, k5c, k5f, k6c, k6f, k7c, k7f, k8c, k8f⟩ := G1.cf9; have klt := G1.lt)) | (have T1 : ArgsB w w3 _ := (by with_reducible exact (T0.alloc _).step hB); have hltw3 := T0.lt4; (first | (have G1 := (Blk.new _ [.int .u64 0, .int .u64 0, .int .u64 0, .int .u64 0, .int .u64 0, .int .u64 0, .int .u64 0, .int .u64 0, .int .u64 0] _ rfl).step hB; have hgg := G0.lt; replace G0 := (G0.alloc _).step hB; have jtb := G0.there (n := (bs.map (Value.int .u64)).length) hbl9; have jtr := G0.there (n := (rs.map (Value.int .u64)).length) hrl9; obtain ⟨j0c, j0f, j1c, j1f, j2c, j2f, j3c, j3f, j4c, j4f, j5c, j5f, j6c, j6f, j7c, j7f, j8c, j8f⟩ := G0.cf9; have jlt := G0.lt; have ktb := G1.there (n := (bs.map (Value.int .u64)).length) hbl9; have ktr := G1.there (n := (rs.map (Value.int .u64)).length) hrl9; obtain ⟨k0c, k0f, k1c, k1f, k2c, k2f, k3c, k3f, k4c, k4f, k5c, k5f, k6c, k6f, k7c, k7f, k8c, k8f⟩ := G1.cf9; have klt := G1.lt) | (have G0 := (Blk.new _ [.int .u64 0, .int .u64 0, .int .u64 0, .int .u64 0, .int .u64 0, .int .u64 0, .int .u64 0, .int .u64 0, .int .u64 0] _ rfl).step hB; have jtb := G0.there (n := (bs.map (Value.int .u64)).length) hbl9; have jtr := G0.there (n := (rs.map (Value.int .u64)).length) hrl9; obtain ⟨j0c, j0f, j1c, j1f, j2c, j2f, j3c, j3f, j4c, j4f, j5c, j5f, j6c, j6f, j7c, j7f, j8c, j8f⟩ := G0.cf9; have jlt := G0.lt))) | (have T1 : ArgsB w w3 _ := (by with_reducible exact (T0.alloc _).drew.step hB); have hltw3 := T0.lt4; (first | (have G1 := (Blk.new _ [.int .u64 0, .int .u64 0, .int .u64 0, .int .u64 0, .int .u64 0, .int .u64 0, .int .u64 0, .int .u64 0, .int .u64 0] _ rfl).drew.step hB; have hgg := G0.lt; replace G0 := (G0.alloc _).drew.step hB; have jtb := G0.there (n := (bs.map (Value.int .u64)).length) hbl9; have jtr := G0.there (n := (rs.map (Value.int .u64)).length) hrl9; obtain ⟨j0c, j0f, j1c, j1f, j2c, j2f, j3c, j3f, j4c, j4f, j5c, j5f, j6c, j6f, j7c, j7f, j8c, j8f⟩ := G0.cf9; have jlt := G0.lt; have ktb := G1.there (n := (bs.map (Value.int .u64)).length) hbl9; have ktr := G1.there (n := (rs.map (Value.int .u64)).length) hrl9; obtain ⟨k0c, k0f, k1c, k1f, k2c, k2f, k3c, k3f, k4c, k4f, k5c, k5f, k6c, k6f, k7c, k7f, k8c, k8f⟩ := G1.cf9; have klt := G1.lt) | (have G0 := (Blk.new _ [.int .u64 0, .int .u64 0, .int .u64 0, .int .u64 0, .int .u64 0, .int .u64 0, .int .u64 0, .int .u64 0, .int .u64 0] _ rfl).drew.step hB; have jtb := G0.there (n := (bs.map (Value.int .u64)).length) hbl9; have jtr := G0.there (n := (rs.map (Value.int .u64)).length) hrl9; obtain ⟨j0c, j0f, j1c, j1f, j2c, j2f, j3c, j3f, j4c, j4f, j5c, j5f, j6c, j6f, j7c, j7f, j8c, j8f⟩ := G0.cf9; have jlt := G0.lt))) | (have T1 : ArgsB w w3 _ := (by with_reducible exact ((T0.alloc _).alloc _).step hB); have hltw3 := T0.lt4; have G0 := ((Blk.new _ [.int .u64 0, .int .u64 0, .int .u64 0, .int .u64 0, .int .u64 0, .int .u64 0, .int .u64 0, .int .u64 0, .int .u64 0] _ rfl).alloc _).step hB; have G1 := (Blk.newS _ _ [.int .u64 0, .int .u64 0, .int .u64 0, .int .u64 0, .int .u64 0, .int .u64 0, .int .u64 0, .int .u64 0, .int .u64 0] _).step hB; have jtb := G0.there (n := (bs.map (Value.int .u64)).length) hbl9; have jtr := G0.there (n := (rs.map (Value.int .u64)).length) hrl9; obtain ⟨j0c, j0f, j1c, j1f, j2c, j2f, j3c, j3f, j4c, j4f, j5c, j5f, j6c, j6f, j7c, j7f, j8c, j8f⟩ := G0.cf9; have jlt := G0.lt; have ktb := G1.there (n := (bs.map (Value.int .u64)).length) hbl9; have ktr := G1.there (n := (rs.map (Value.int .u64)).length) hrl9; obtain ⟨k0c, k0f, k1c, k1f, k2c, k2f, k3c, k3f, k4c, k4f, k5c, k5f, k6c, k6f, k7c, k7f, k8c, k8f⟩ := G1.cf9; have klt := G1.lt) | (have T1 : ArgsB w w3 _ := (by with_reducible exact ((T0.alloc _).alloc _).drew.step hB); have hltw3 := T0.lt4; have G0 := ((Blk.new _ [.int .u64 0, .int .u64 0, .int .u64 0, .int .u64 0, .int .u64 0, .int .u64 0, .int .u64 0, .int .u64 0, .int .u64 0] _ rfl).alloc _).drew.step hB; have G1 := (Blk.newS _ _ [.int .u64 0, .int .u64 0, .int .u64 0, .int .u64 0, .int .u64 0, .int .u64 0, .int .u64 0, .int .u64 0, .int .u64 0] _).drew.step hB; have jtb := G0.there (n := (bs.map (Value.int .u64)).length) hbl9; have jtr := G0.there (n := (rs.map (Value.int .u64)).length) hrl9; obtain ⟨j0c, j0f, j1c, j1f, j2c, j2f, j3c, j3f, j4c, j4f, j5c, j5f, j6c, j6f, j7c, j7f, j8c, j8f⟩ := G0.cf9; have jlt := G0.lt; have ktb := G1.there (n := (bs.map (Value.int .u64)).length) hbl9; have ktr := G1.there (n := (rs.map (Value.int .u64)).length) hrl9; obtain ⟨k0c, k0f, k1c, k1f, k2c, k2f, k3c, k3f, k4c, k4f, k5c, k5f, k6c, k6f, k7c, k7f, k8c, k8f⟩ := G1.cf9; have klt := G1.lt)); clear T0; have T0 := T1; clear T1; clear tok1 _t hB)
        | (go_at_call 131; refine (LX _).mono ?_; rintro e w4 ⟨rfl, hB⟩; (first | (have T1 : ArgsB w w4 _ := (by with_reducible exact T0.step hB); have hltw4 := T0.lt4; try (replace G0 := G0.step hB; have jtb := G0.there (n := (bs.map (Value.int .u64)).length) hbl9; have jtr := G0.there (n := (rs.map (Value.int .u64)).length) hrl9; obtain ⟨j0c, j0f, j1c, j1f, j2c, j2f, j3c, j3f, j4c, j4f, j5c, j5f, j6c, j6f, j7c, j7f, j8c, j8f⟩ := G0.cf9; have jlt := G0.lt); try (replace G1 := G1.step hB; have ktb := G1.there (n := (bs.map (Value.int .u64)).length) hbl9; have ktr := G1.there (n := (rs.map (Value.int .u64)).length) hrl9; obtain ⟨k0c, k0f, k1c, k1f, k2c, k2f, k3c, k3f, k4c, k4f, k5c, k5f, k6c, k6f, k7c, k7f, k8c, k8f⟩ := G1.cf9; have klt := G1.lt)) | (have T1 : ArgsB w w4 _ := (by with_reducible exact T0.drew.step hB); have hltw4 := T0.lt4; try (replace G0 := G0.drew.step hB; have jtb := G0.there (n := (bs.map (Value.int .u64)).length) hbl9; have jtr := G0.there (n := (rs.map (Value.int .u64)).length) hrl9; obtain ⟨j0c, j0f, j1c, j1f, j2c, j2f, j3c, j3f, j4c, j4f, j5c, j5f, j6c, j6f, j7c, j7f, j8c, j8f⟩ := G0.cf9; have jlt := G0.lt); try (replace G1 := G1.drew.step hB; have ktb := G1.there (n := (bs.map (Value.int .u64)).length) hbl9; have ktr := G1.there (n := (rs.map (Value.int .u64)).length) hrl9; obtain ⟨k0c, k0f, k1c, k1f, k2c, k2f, k3c, k3f, k4c, k4f, k5c, k5f, k6c, k6f, k7c, k7f, k8c, k8f⟩ := G1.cf9; have klt := G1.lt)) | (have T1 : ArgsB w w4 _ := (by with_reducible exact (T0.alloc _).step hB); have hltw4 := T0.lt4; (first | (have G1 := (Blk.new _ [.int .u64 0, .int .u64 0, .int .u64 0, .int .u64 0, .int .u64 0, .int .u64 0, .int .u64 0, .int .u64 0, .int .u64 0] _ rfl).step hB; have hgg := G0.lt; replace G0 := (G0.alloc _).step hB; have jtb := G0.there (n := (bs.map (Value.int .u64)).length) hbl9; have jtr := G0.there (n := (rs.map (Value.int .u64)).length) hrl9; obtain ⟨j0c, j0f, j1c, j1f, j2c, j2f, j3c, j3f, j4c, j4f, j5c, j5f, j6c, j6f, j7c, j7f, j8c, j8f⟩ := G0.cf9; have jlt := G0.lt; have ktb := G1.there (n := (bs.map (Value.int .u64)).length) hbl9; have ktr := G1.there (n := (rs.map (Value.int .u64)).length) hrl9; obtain ⟨k0c, k0f, k1c, k1f, k2c, k2f, k3c, k3f, k4c, k4f, k5c, k5f, k6c, k6f, k7c, k7f, k8c, k8f⟩ := G1.cf9; have klt := G1.lt) | (have G0 := (Blk.new _ [.int .u64 0, .int .u64 0, .int .u64 0, .int .u64 0, .int .u64 0, .int .u64 0, .int .u64 0, .int .u64 0, .int .u64 0] _ rfl).step hB; have jtb := G0.there (n := (bs.map (Value.int .u64)).length) hbl9; have jtr := G0.there (n := (rs.map (Value.int .u64)).length) hrl9; obtain ⟨j0c, j0f, j1c, j1f, j2c, j2f, j3c, j3f, j4c, j4f, j5c, j5f, j6c, j6f, j7c, j7f, j8c, j8f⟩ := G0.cf9; have jlt := G0.lt))) | (have T1 : ArgsB w w4 _ := (by with_reducible exact (T0.alloc _).drew.step hB); have hltw4 := T0.lt4; (first | (have G1 := (Blk.new _ [.int .u64 0, .int .u64 0, .int .u64 0, .int .u64 0, .int .u64 0, .int .u64 0, .int .u64 0, .int .u64 0, .int .u64 0] _ rfl).drew.step hB; have hgg := G0.lt; replace G0 := (G0.alloc _).drew.step hB; have jtb := G0.there (n := (bs.map (Value.int .u64)).length) hbl9; have jtr := G0.there (n := (rs.map (Value.int .u64)).length) hrl9; obtain ⟨j0c, j0f, j1c, j1f, j2c, j2f, j3c, j3f, j4c, j4f, j5c, j5f, j6c, j6f, j7c, j7f, j8c, j8f⟩ := G0.cf9; have jlt := G0.lt; have ktb := G1.there (n := (bs.map (Value.int .u64)).length) hbl9; have ktr := G1.there (n := (rs.map (Value.int .u64)).length) hrl9; obtain ⟨k0c, k0f, k1c, k1f, k2c, k2f, k3c, k3f, k4c, k4f, k5c, k5f, k6c, k6f, k7c, k7f, k8c, k8f⟩ := G1.cf9; have klt := G1.lt) | (have G0 := (Blk.new _ [.int .u64 0, .int .u64 0, .int .u64 0, .int .u64 0, .int .u64 0, .int .u64 0, .int .u64 0, .int .u64 0, .int .u64 0] _ rfl).drew.step hB; have jtb := G0.there (n := (bs.map (Value.int .u64)).length) hbl9; have jtr := G0.there (n := (rs.map (Value.int .u64)).length) hrl9; obtain ⟨j0c, j0f, j1c, j1f, j2c, j2f, j3c, j3f, j4c, j4f, j5c, j5f, j6c, j6f, j7c, j7f, j8c, j8f⟩ := G0.cf9; have jlt := G0.lt))) | (have T1 : ArgsB w w4 _ := (by with_reducible exact ((T0.alloc _).alloc _).step hB); have hltw4 := T0.lt4; have G0 := ((Blk.new _ [.int .u64 0, .int .u64 0, .int .u64 0, .int .u64 0, .int .u64 0, .int .u64 0, .int .u64 0, .int .u64 0, .int .u64 0] _ rfl).alloc _).step hB; have G1 := (Blk.newS _ _ [.int .u64 0, .int .u64 0, .int .u64 0, .int .u64 0, .int .u64 0, .int .u64 0, .int .u64 0, .int .u64 0, .int .u64 0] _).step hB; have jtb := G0.there (n := (bs.map (Value.int .u64)).length) hbl9; have jtr := G0.there (n := (rs.map (Value.int .u64)).length) hrl9; obtain ⟨j0c, j0f, j1c, j1f, j2c, j2f, j3c, j3f, j4c, j4f, j5c, j5f, j6c, j6f, j7c, j7f, j8c, j8f⟩ := G0.cf9; have jlt := G0.lt; have ktb := G1.there (n := (bs.map (Value.int .u64)).length) hbl9; have ktr := G1.there (n := (rs.map (Value.int .u64)).length) hrl9; obtain ⟨k0c, k0f, k1c, k1f, k2c, k2f, k3c, k3f, k4c, k4f, k5c, k5f, k6c, k6f, k7c, k7f, k8c, k8f⟩ := G1.cf9; have klt := G1.lt) | (have T1 : ArgsB w w4 _ := (by with_reducible exact ((T0.alloc _).alloc _).drew.step hB); have hltw4 := T0.lt4; have G0 := ((Blk.new _ [.int .u64 0, .int .u64 0, .int .u64 0, .int .u64 0, .int .u64 0, .int .u64 0, .int .u64 0, .int .u64 0, .int .u64 0] _ rfl).alloc _).drew.step hB; have G1 := (Blk.newS _ _ [.int .u64 0, .int .u64 0, .int .u64 0, .int .u64 0, .int .u64 0, .int .u64 0, .int .u64 0, .int .u64 0, .int .u64 0] _).drew.step hB; have jtb := G0.there (n := (bs.map (Value.int .u64)).length) hbl9; have jtr := G0.there (n := (rs.map (Value.int .u64)).length) hrl9; obtain ⟨j0c, j0f, j1c, j1f, j2c, j2f, j3c, j3f, j4c, j4f, j5c, j5f, j6c, j6f, j7c, j7f, j8c, j8f⟩ := G0.cf9; have jlt := G0.lt; have ktb := G1.there (n := (bs.map (Value.int .u64)).length) hbl9; have ktr := G1.there (n := (rs.map (Value.int .u64)).length) hrl9; obtain ⟨k0c, k0f, k1c, k1f, k2c, k2f, k3c, k3f, k4c, k4f, k5c, k5f, k6c, k6f, k7c, k7f, k8c, k8f⟩ := G1.cf9; have klt := G1.lt)); clear T0; have T0 := T1; clear T1; clear hB))
    all_goals go_wp2_with fail
    all_goals go_meet
    all_goals first | (with_reducible exact cutD_cells ((T0.alloc _).alloc _) ((Blk.new w4 [.int .u64 0, .int .u64 0, .int .u64 0, .int .u64 0, .int .u64 0, .int .u64 0, .int .u64 0, .int .u64 0, .int .u64 0] _ rfl).alloc _) (Blk.newS w4 _ [.int .u64 0, .int .u64 0, .int .u64 0, .int .u64 0, .int .u64 0, .int .u64 0, .int .u64 0, .int .u64 0, .int .u64 0] _) hbl9 hrl9 (by have := T0.lt4; omega) (by have := T0.lt4; omega) (by have := T0.lt4; omega)) | (with_reducible exact cutD_cells ((T0.alloc _).alloc _) (Blk.newS w4 _ [.int .u64 0, .int .u64 0, .int .u64 0, .int .u64 0, .int .u64 0, .int .u64 0, .int .u64 0, .int .u64 0, .int .u64 0] _) ((Blk.new w4 [.int .u64 0, .int .u64 0, .int .u64 0, .int .u64 0, .int .u64 0, .int .u64 0, .int .u64 0, .int .u64 0, .int .u64 0] _ rfl).alloc _) hbl9 hrl9 (by have := T0.lt4; omega) (by have := T0.lt4; omega) (by have := T0.lt4; omega)) | (with_reducible exact cutD_cells (T0.alloc _) (G0.alloc _) (Blk.new w4 [.int .u64 0, .int .u64 0, .int .u64 0, .int .u64 0, .int .u64 0, .int .u64 0, .int .u64 0, .int .u64 0, .int .u64 0] _ rfl) hbl9 hrl9 (by have := T0.lt4; omega) (by have := T0.lt4; omega) (by have := T0.lt4; have := G0.lt; omega)) | (with_reducible exact cutD_cells (T0.alloc _) (Blk.new w4 [.int .u64 0, .int .u64 0, .int .u64 0, .int .u64 0, .int .u64 0, .int .u64 0, .int .u64 0, .int .u64 0, .int .u64 0] _ rfl) (G0.alloc _) hbl9 hrl9 (by have := T0.lt4; omega) (by have := T0.lt4; omega) (by have := T0.lt4; have := G0.lt; omega)) | (with_reducible exact cutD_cells T0 G0 G1 hbl9 hrl9 (by have := T0.lt4; omega) (by have := T0.lt4; omega) (by have := T0.lt4; have := G0.lt; omega)) | (with_reducible exact cutD_cells T0 G1 G0 hbl9 hrl9 (by have := T0.lt4; omega) (by have := T0.lt4; omega) (by have := T0.lt4; have := G0.lt; omega))
  case rest =>
    clear T0 tok1 LY LX
    obtain ⟨gb, gr, hp, hq, hne, hgb, hgr, T0, GB, GR⟩ := hcut
    subst hp; subst hq
    have hl4 := T0.lt4
    have GBL := GB.lt
    have GRL := GR.lt
    have GQ := Blk.new wc [.int .u64 0, .int .u64 0, .int .u64 0, .int .u64 0, .int .u64 0, .int .u64 0, .int .u64 0, .int .u64 0] 82 rfl
    replace T0 := T0.alloc (.cells #[.int .u64 0, .int .u64 0, .int .u64 0, .int .u64 0, .int .u64 0, .int .u64 0, .int .u64 0, .int .u64 0] 82)
    replace GB := GB.alloc (.cells #[.int .u64 0, .int .u64 0, .int .u64 0, .int .u64 0, .int .u64 0, .int .u64 0, .int .u64 0, .int .u64 0] 82)
    replace GR := GR.alloc (.cells #[.int .u64 0, .int .u64 0, .int .u64 0, .int .u64 0, .int .u64 0, .int .u64 0, .int .u64 0, .int .u64 0] 82)
    have gbl : gb < wc.heap.size := GBL
    have grl : gr < wc.heap.size := GRL
    go_upto_region 5 with fail
    generalize wc.alloc (.cells #[.int .u64 0, .int .u64 0, .int .u64 0, .int .u64 0, .int .u64 0, .int .u64 0, .int .u64 0, .int .u64 0] 82) = W1 at *
    generalize wc.heap.size = gq at *
    go_cut [11] (fun p wx => wx = W1 ∧ ∃ c : Nat, c ≤ 9 ∧ (∀ j, c ≤ j → (h : j < rs.length) → rs[j] = 0) ∧ p = .int .i64 (((min c 8 : Nat) : Int) - (n : Int)))
    case first =>
      have RR := blk_row_take GR (k := 9) (by have := HRL.out; omega)
      rw [List.take_of_length_le (by have := HRL.out; omega)] at RR
      go_wp2_with fail
      refine (countWords_any gr 0 9 9 rs _ HRL.out RR (by decide)).mono ?_
      rintro e w5 ⟨c, rfl, c1, c2, c3, rfl⟩
      clear RR c3
      rw [HRL.out] at c1
      have hc9 : (c : Int) ≤ 9 := by omega
      go_wp2_with fail
      all_goals go_meet
      all_goals exact ⟨rfl, c, c1, c2, by congr 1; omega⟩
    case rest =>
      obtain ⟨rfl, c, c1, c2, rfl⟩ := hcut
      obtain ⟨k0, hk0⟩ : ∃ k : Nat, (k : Int) = (if (min c 8 : Nat) < n then 0 else (min c 8 : Nat) - n + 1) := by
        split
        · exact ⟨0, rfl⟩
        · exact ⟨min c 8 - n + 1, by omega⟩
      have D0 := dl_start HRL.out HRW.out HMN.out hn8 c1 c2 HLO.out s64 HRV.out HXL.out k0 hk0
      rw [HRV.out] at D0
      have hk9 : k0 + n ≤ 9 := by split at hk0 <;> omega
      have hp0 : ∃ i : Int, (((min c 8 : Nat) : Int) - (n : Int)) = i ∧ (i + 1 = (k0 : Int) ∨ (k0 = 0 ∧ i < 0)) := ⟨_, rfl, by split at hk0 <;> omega⟩
      obtain ⟨i0, hi0, hi1⟩ := hp0
      rw [hi0]
      have i0l : i0 < 9 := by omega
      have i0g : -9 < i0 := by omega
      clear hi0 hk0 c1 c2
      go_wp2_with fail
      go_loopg [11] k0 (fun k p wr => ∃ (i : Int) (us qs : List Int), p = .int .i64 i ∧ (i + 1 = (k : Int) ∨ (k = 0 ∧ i < 0)) ∧ -9 < i ∧ k + n ≤ 9 ∧ DlI (2 ^ s * val64 xs) (val64 bs) us qs k ∧ ArgsB w wr [[.int .u64 x0, .int .u64 x1, .int .u64 x2, .int .u64 x3, .int .u64 x4, .int .u64 x5, .int .u64 x6, .int .u64 x7], [.int .u64 y0, .int .u64 y1, .int .u64 y2, .int .u64 y3, .int .u64 y4, .int .u64 y5, .int .u64 y6, .int .u64 y7], [.int .u64 0, .int .u64 0, .int .u64 0, .int .u64 0, .int .u64 0, .int .u64 0, .int .u64 0, .int .u64 0], [.int .u64 0, .int .u64 0, .int .u64 0, .int .u64 0, .int .u64 0, .int .u64 0, .int .u64 0, .int .u64 0]] ∧ Blk wr gb (bs.map (Value.int .u64)) ∧ Blk wr gr (us.map (Value.int .u64)) ∧ Blk wr gq (qs.map (Value.int .u64)))
      case atStart => exact ⟨i0, rs, List.replicate 8 0, rfl, hi1, i0g, hk9, D0, T0, GB, GR, GQ⟩
      case round =>
        clear T0 GB GR GQ D0 hi1 hk9 i0l i0g
        obtain ⟨i, us, qs, rfl, hi, ig, hkn, hD, T0, GB, GR, GQ⟩ := hrel
        rcases Nat.eq_zero_or_pos gk with hg0 | hg0
        · subst hg0
          have hneg : i < 0 := by omega
          obtain ⟨E1, E2⟩ := dl_end hD H0.out HBV.out
          have EM : val64 xs % val64 ys < pw64 8 := by
            have h1 := Int.emod_lt_of_pos (val64 xs) H0.out
            have h2 := vq_lt HY.out
            rw [HM.out] at h2
            omega
          have LD := liftDown_any us s (val64 xs % val64 ys) hD.rl hD.rw s64 E2 EM
          have HE1 : Hid (val64 qs = val64 xs / val64 ys) := E1
          have HQW : Hid (Words qs) := hD.qw
          have HB := T0.below
          obtain ⟨u0, u1, u2, u3, u4, u5, u6, u7, u8, hus⟩ := list9 hD.rl
          obtain ⟨q0, q1, q2, q3, q4, q5, q6, q7, rfl⟩ := list8' hD.ql
          have UA : agg us = .agg #[.int .u64 u0, .int .u64 u1, .int .u64 u2, .int .u64 u3, .int .u64 u4, .int .u64 u5, .int .u64 u6, .int .u64 u7, .int .u64 u8] := by rw [hus]; rfl
          rw [UA] at LD
          have GR9 : Blk wr gr [.int .u64 u0, .int .u64 u1, .int .u64 u2, .int .u64 u3, .int .u64 u4, .int .u64 u5, .int .u64 u6, .int .u64 u7, .int .u64 u8] := by have := GR; rw [hus] at this; exact this
          clear E1 E2 EM UA hus GR hD hi
          have OA : Blk wr (w.heap.size + 1 + 1) [.int .u64 0, .int .u64 0, .int .u64 0, .int .u64 0, .int .u64 0, .int .u64 0, .int .u64 0, .int .u64 0] := T0.b 2 rfl
          have OB : Blk wr (w.heap.size + 1 + 1 + 1) [.int .u64 0, .int .u64 0, .int .u64 0, .int .u64 0, .int .u64 0, .int .u64 0, .int .u64 0, .int .u64 0] := T0.b 3 rfl
          replace GQ : Blk wr gq [.int .u64 q0, .int .u64 q1, .int .u64 q2, .int .u64 q3, .int .u64 q4, .int .u64 q5, .int .u64 q6, .int .u64 q7] := GQ
          have uu0c := GR9.c 0 rfl
          have uu1c := GR9.c 1 rfl
          have uu2c := GR9.c 2 rfl
          have uu3c := GR9.c 3 rfl
          have uu4c := GR9.c 4 rfl
          have uu5c := GR9.c 5 rfl
          have uu6c := GR9.c 6 rfl
          have uu7c := GR9.c 7 rfl
          have uu8c := GR9.c 8 rfl
          obtain ⟨qq0c, qq1c, qq2c, qq3c, qq4c, qq5c, qq6c, qq7c⟩ := GQ.cs8
          have oa0c := OA.c 0 rfl; have oa0f := OA.f 0 rfl; have ob0c := OB.c 0 rfl; have ob0f := OB.f 0 rfl; have oa1c := OA.c 1 rfl; have oa1f := OA.f 1 rfl; have ob1c := OB.c 1 rfl; have ob1f := OB.f 1 rfl; have oa2c := OA.c 2 rfl; have oa2f := OA.f 2 rfl; have ob2c := OB.c 2 rfl; have ob2f := OB.f 2 rfl; have oa3c := OA.c 3 rfl; have oa3f := OA.f 3 rfl; have ob3c := OB.c 3 rfl; have ob3f := OB.f 3 rfl; have oa4c := OA.c 4 rfl; have oa4f := OA.f 4 rfl; have ob4c := OB.c 4 rfl; have ob4f := OB.f 4 rfl; have oa5c := OA.c 5 rfl; have oa5f := OA.f 5 rfl; have ob5c := OB.c 5 rfl; have ob5f := OB.f 5 rfl; have oa6c := OA.c 6 rfl; have oa6f := OA.f 6 rfl; have ob6c := OB.c 6 rfl; have ob6f := OB.f 6 rfl; have oa7c := OA.c 7 rfl; have oa7f := OA.f 7 rfl; have ob7c := OB.c 7 rfl; have ob7f := OB.f 7 rfl
          have olta := OA.lt
          have oltb := OB.lt
          clear T0 GB
          go_wp2_with fail
          go_region_with ((go_at_call 133; refine (LD _).mono ?_; rintro e w8 ⟨zs, rfl, z1, z2, z3, hB⟩; (first | (replace GQ := GQ.step hB; replace OA := OA.step hB; replace OB := OB.step hB; replace HB := HB.trans (hB.mono HB.size)) | (replace GQ := GQ.drew.step hB; replace OA := OA.drew.step hB; replace OB := OB.drew.step hB; replace HB := HB.drew.trans (hB.mono HB.size))); clear hB; obtain ⟨qq0c, qq1c, qq2c, qq3c, qq4c, qq5c, qq6c, qq7c⟩ := GQ.cs8; have oa0c := OA.c 0 rfl; have oa0f := OA.f 0 rfl; have ob0c := OB.c 0 rfl; have ob0f := OB.f 0 rfl; have oa1c := OA.c 1 rfl; have oa1f := OA.f 1 rfl; have ob1c := OB.c 1 rfl; have ob1f := OB.f 1 rfl; have oa2c := OA.c 2 rfl; have oa2f := OA.f 2 rfl; have ob2c := OB.c 2 rfl; have ob2f := OB.f 2 rfl; have oa3c := OA.c 3 rfl; have oa3f := OA.f 3 rfl; have ob3c := OB.c 3 rfl; have ob3f := OB.f 3 rfl; have oa4c := OA.c 4 rfl; have oa4f := OA.f 4 rfl; have ob4c := OB.c 4 rfl; have ob4f := OB.f 4 rfl; have oa5c := OA.c 5 rfl; have oa5f := OA.f 5 rfl; have ob5c := OB.c 5 rfl; have ob5f := OB.f 5 rfl; have oa6c := OA.c 6 rfl; have oa6f := OA.f 6 rfl; have ob6c := OB.c 6 rfl; have ob6f := OB.f 6 rfl; have oa7c := OA.c 7 rfl; have oa7f := OA.f 7 rfl; have ob7c := OB.c 7 rfl; have ob7f := OB.f 7 rfl; have olta8 := OA.lt; have oltb8 := OB.lt; obtain ⟨z0, z1', z2', z3', z4, z5, z6, z7, rfl⟩ := list8' z1; unfold agg; simp only [List.map_cons, List.map_nil]))
          all_goals clear GQ OA OB LD GR9
          all_goals go_wp2
          all_goals refine bodyPost_ret (v := .tuple #[.agg #[.int .u64 q0, .int .u64 q1, .int .u64 q2, .int .u64 q3, .int .u64 q4, .int .u64 q5, .int .u64 q6, .int .u64 q7], .agg #[.int .u64 z0, .int .u64 z1', .int .u64 z2', .int .u64 z3', .int .u64 z4, .int .u64 z5, .int .u64 z6, .int .u64 z7]]) (by simp [results, Try.results123, go_sem, oa0c, ob0c, oa1c, ob1c, oa2c, ob2c, oa3c, ob3c, oa4c, ob4c, oa5c, ob5c, oa6c, ob6c, oa7c, ob7c]) rfl ?_
          all_goals refine ⟨[q0, q1, q2, q3, q4, q5, q6, q7], [z0, z1', z2', z3', z4, z5, z6, z7], rfl, rfl, rfl, HQW.out, z2, HE1.out, z3, ?_⟩
          all_goals exact below_set8 (g := w.heap.size + 1 + 1 + 1) (by omega) (below_set8 (g := w.heap.size + 1 + 1) (by omega) HB)
        · obtain ⟨p, rfl⟩ : ∃ p, gk = p + 1 := ⟨gk - 1, by omega⟩
          obtain rfl : i = (p : Int) := by omega
          have hpn : p + n ≤ 8 := by omega
          have HKN := dl_kn hD HBL.out HBW.out hn1 hpn HTK.out HTP.out
          have TD := takeDigit_any us bs n p HKN
          have HUL : Hid (us.length = 9) := hD.rl
          have HQL : Hid (qs.length = 8) := hD.ql
          obtain ⟨u0, u1, u2, u3, u4, u5, u6, u7, u8, hus⟩ := list9 hD.rl
          obtain ⟨b0, b1, b2, b3, b4, b5, b6, b7, b8, hbs⟩ := list9 HBL.out
          have UA : agg us = .agg #[.int .u64 u0, .int .u64 u1, .int .u64 u2, .int .u64 u3, .int .u64 u4, .int .u64 u5, .int .u64 u6, .int .u64 u7, .int .u64 u8] := by rw [hus]; rfl
          have BA : agg bs = .agg #[.int .u64 b0, .int .u64 b1, .int .u64 b2, .int .u64 b3, .int .u64 b4, .int .u64 b5, .int .u64 b6, .int .u64 b7, .int .u64 b8] := by rw [hbs]; rfl
          rw [UA, BA] at TD
          have GR9 : Blk wr gr [.int .u64 u0, .int .u64 u1, .int .u64 u2, .int .u64 u3, .int .u64 u4, .int .u64 u5, .int .u64 u6, .int .u64 u7, .int .u64 u8] := by have := GR; rw [hus] at this; exact this
          have GB9 : Blk wr gb [.int .u64 b0, .int .u64 b1, .int .u64 b2, .int .u64 b3, .int .u64 b4, .int .u64 b5, .int .u64 b6, .int .u64 b7, .int .u64 b8] := by have := GB; rw [hbs] at this; exact this
          have uu0c := GR9.c 0 rfl; have uu0f := GR9.f 0 rfl
          have uu1c := GR9.c 1 rfl; have uu1f := GR9.f 1 rfl
          have uu2c := GR9.c 2 rfl; have uu2f := GR9.f 2 rfl
          have uu3c := GR9.c 3 rfl; have uu3f := GR9.f 3 rfl
          have uu4c := GR9.c 4 rfl; have uu4f := GR9.f 4 rfl
          have uu5c := GR9.c 5 rfl; have uu5f := GR9.f 5 rfl
          have uu6c := GR9.c 6 rfl; have uu6f := GR9.f 6 rfl
          have uu7c := GR9.c 7 rfl; have uu7f := GR9.f 7 rfl
          have uu8c := GR9.c 8 rfl; have uu8f := GR9.f 8 rfl
          have bb0c := GB9.c 0 rfl; have bb0f := GB9.f 0 rfl
          have bb1c := GB9.c 1 rfl; have bb1f := GB9.f 1 rfl
          have bb2c := GB9.c 2 rfl; have bb2f := GB9.f 2 rfl
          have bb3c := GB9.c 3 rfl; have bb3f := GB9.f 3 rfl
          have bb4c := GB9.c 4 rfl; have bb4f := GB9.f 4 rfl
          have bb5c := GB9.c 5 rfl; have bb5f := GB9.f 5 rfl
          have bb6c := GB9.c 6 rfl; have bb6f := GB9.f 6 rfl
          have bb7c := GB9.c 7 rfl; have bb7f := GB9.f 7 rfl
          have bb8c := GB9.c 8 rfl; have bb8f := GB9.f 8 rfl
          clear UA BA hus hbs GR
          go_wp2_with fail
          refine (TD _).mono ?_
          rintro e w7 ⟨zs, rfl, z1, z2, z3, hB⟩
          have HLT := HKN.lt
          rw [HTK.out] at z3 HLT ⊢
          have BP : 0 < val64 bs := by have := HKN.pos; rwa [HTK.out] at this
          obtain ⟨HQW, HD2⟩ := dl_step hD hn1 hpn BP HHI.out HLT z1 z2 z3
          replace T0 := T0.step hB
          replace GB := GB.step hB
          replace GR9 := GR9.step hB
          replace GQ := GQ.step hB
          have hpq : p < qs.length := by have := HQL.out; omega
          have qc : w7.cell? ⟨gq, p, none⟩ = some (.int .u64 qs[p]) := GQ.c p (by simp [hpq])
          have qf : w7.frozen? ⟨gq, p, none⟩ = false := GQ.f p (v := .int .u64 qs[p]) (by simp [hpq])
          have hp8 : (p : Int) < 8 := by omega
          generalize val64 (win us p (n + 1)) / val64 bs = qd at *
          have HDH : Hid (DlI (2 ^ s * val64 xs) (val64 bs) zs (qs.set p qd) p) := HD2
          obtain ⟨z0, z1, z2, z3, z4, z5, z6, z7, z8, hzs⟩ := list9 z1
          have ZA : agg zs = .agg #[.int .u64 z0, .int .u64 z1, .int .u64 z2, .int .u64 z3, .int .u64 z4, .int .u64 z5, .int .u64 z6, .int .u64 z7, .int .u64 z8] := by rw [hzs]; rfl
          have HZM : Hid (zs.map (Value.int .u64) = [.int .u64 z0, .int .u64 z1, .int .u64 z2, .int .u64 z3, .int .u64 z4, .int .u64 z5, .int .u64 z6, .int .u64 z7, .int .u64 z8]) := by show _ = _; rw [hzs]; rfl
          rw [ZA]
          have uu0c := GR9.c 0 rfl; have uu0f := GR9.f 0 rfl
          have uu1c := GR9.c 1 rfl; have uu1f := GR9.f 1 rfl
          have uu2c := GR9.c 2 rfl; have uu2f := GR9.f 2 rfl
          have uu3c := GR9.c 3 rfl; have uu3f := GR9.f 3 rfl
          have uu4c := GR9.c 4 rfl; have uu4f := GR9.f 4 rfl
          have uu5c := GR9.c 5 rfl; have uu5f := GR9.f 5 rfl
          have uu6c := GR9.c 6 rfl; have uu6f := GR9.f 6 rfl
          have uu7c := GR9.c 7 rfl; have uu7f := GR9.f 7 rfl
          have uu8c := GR9.c 8 rfl; have uu8f := GR9.f 8 rfl
          clear ZA hzs hB HD2 hD HKN TD GB9
          go_wp2
          go_roundg p
          case measure => omega
          case rel =>
            refine ⟨(p : Int) - 1, zs, qs.set p qd, by go_num, Or.inl (by omega), by omega, by omega, HDH.out, ?_, ?_, ?_, ?_⟩
            · exact (T0.set (p := ⟨gq, p, none⟩) (by show w.heap.size + 4 ≤ gq; omega) _).set9 hgr _ _ _ _ _ _ _ _ _
            · exact (GB.setO (p := ⟨gq, p, none⟩) (by show gb ≠ gq; omega) _).set9 hne
            · rw [HZM.out]
              exact (GR9.setO (p := ⟨gq, p, none⟩) (by show gr ≠ gq; omega) _).stored9 _ _ _ _ _ _ _ _ _
            · have := GQ.setI p (by simpa using hpq) (.int .u64 qd)
              rw [← List.map_set] at this
              exact this.set9 (by omega)
end Go.Proofs.Ytnnojeggjnddpaa
