/- Part 3 of the walks that the proof leans on. -/
import Derived.Test.YtnnojeggjnddpaaPart2
import Derived.Lib.Strings
import Derived.Test.YtnnojeggjnddpaaPart1
import Derived.Deep.LoopGhost
import Derived.WalkMore
import Derived.Deep.RegionHeld3
import Derived.Deep.MidRow
import Derived.Deep.QuietTactic
import Derived.BigQuiet
import Derived.Deep.DeepCutAuto
import Derived.Deep.RegionWith
/- Whether a text is a number in decimal, and a text without its sign: the program's. -/
namespace Go.Proofs.Ytnnojeggjnddpaa
open Go.RowKit
theorem tl_data (s : ByteArray) : s.toList = s.data.toList := Lib.toList_data s
theorem tl_btL (s : ByteArray) : btL s = s.toList.map UInt8.toNat := by rw [tl_data]; rfl
theorem btL_getQ {s : ByteArray} {i : Nat} (h : i < s.size) : (btL s)[i]? = some (bt s i) := by
  have h2 : i < s.data.toList.length := h
  unfold btL bt
  rw [List.getElem?_map, List.getD_eq_getElem?_getD, List.getElem?_eq_getElem h2]
  rfl
theorem btL_get {s : ByteArray} {i : Nat} (h : i < (btL s).length) : (btL s)[i] = bt s i := (List.getElem?_eq_some_iff.1 (btL_getQ (by rw [btL_len] at h; exact h))).2
theorem tl_nil {s : ByteArray} : s.toList = [] ↔ btL s = [] := by rw [tl_btL, List.map_eq_nil_iff]
theorem tl_one {s : ByteArray} (c : UInt8) : s.toList = [c] ↔ btL s = [c.toNat] := by
  rw [tl_btL]
  constructor
  · intro h; rw [h]; rfl
  · intro h
    cases hl : s.toList with
    | nil => rw [hl] at h; simp at h
    | cons x l =>
      rw [hl] at h
      cases l with
      | nil => simp only [List.map_cons, List.map_nil, List.cons.injEq, and_true] at h; rw [UInt8.toNat_inj.1 h]
      | cons y m => simp at h
theorem btL_head {s : ByteArray} (h : 0 < s.size) : (btL s).head? = some (bt s 0) := by
  have h2 : 0 < (btL s).length := by rw [btL_len]; exact h
  rw [List.head?_eq_getElem?, List.getElem?_eq_getElem h2, btL_get h2]
theorem btL_mem {s : ByteArray} {P : Nat → Prop} : (∀ b ∈ btL s, P b) ↔ ∀ j, j < s.size → P (bt s j) := by
  rw [← btL_len]
  constructor
  · intro h j hj
    rw [← btL_get hj]
    exact h _ (List.getElem_mem hj)
  · intro h b hb
    obtain ⟨j, hj, rfl⟩ := List.getElem_of_mem hb
    rw [btL_get hj]
    exact h j hj
set_option maxRecDepth 100000 in
set_option maxHeartbeats 1000000 in
theorem isDecimal_any (s : ByteArray) (hm : s.size ≤ 9223372036854775807) (b : Bool) (hb : b = true ↔ DecL (btL s)) (w : World) : Calls Try.prog 50 #[.string s] w (VP (.bool b) w) := by
  have HB : Hid (b = true ↔ DecL (btL s)) := hb
  clear hb
  by_cases h0 : s.toList = []
  · obtain rfl : b = false := by
      cases b
      · rfl
      · exact absurd (tl_nil.1 h0) (HB.out.1 rfl).1
    have e1 : s.toList.isEmpty = true := by rw [h0]; rfl
    clear h0
    go_enter Try.func50, Try.ntmps50
    go_wp2
    go_ret
    exact ⟨rfl, Below.refl _ _⟩
  · have e1 : s.toList.isEmpty = false := by rw [List.isEmpty_eq_false_iff]; exact h0
    have hs : 0 < s.size := by
      rcases Nat.eq_zero_or_pos s.size with h | h
      · exact absurd (tl_nil.2 (List.length_eq_zero_iff.1 (by rw [btL_len]; exact h))) h0
      · exact h
    have hbt := bt_at hs
    have hlt := bt_lt s 0
    by_cases hz : bt s 0 = 48 ∧ ¬ s.toList = [48]
    · obtain ⟨hz0, hz1⟩ := hz
      obtain rfl : b = false := by
        cases b
        · rfl
        · exact absurd ((HB.out.1 rfl).2.1 (by rw [btL_head hs, hz0])) (fun h => hz1 ((tl_one 48).2 h))
      rw [hz0] at hbt
      have e2 : (s.toList == [48]) = false := beq_eq_false_iff_ne.2 hz1
      clear h0 hz1
      go_enter Try.func50, Try.ntmps50
      go_wp2
      go_ret
      exact ⟨rfl, Below.refl _ _⟩
    · have HZ : Hid ((btL s).head? = some 48 → btL s = [48]) := by
        intro h
        rw [btL_head hs] at h
        have h2 : bt s 0 = 48 := by simpa using h
        exact (tl_one 48).1 (Classical.byContradiction fun h3 => hz ⟨h2, h3⟩)
      have hcase : (bt s 0 = 48 ∧ s.toList = [48]) ∨ ¬ bt s 0 = 48 := by
        by_cases h2 : bt s 0 = 48
        · exact Or.inl ⟨h2, Classical.byContradiction fun h3 => hz ⟨h2, h3⟩⟩
        · exact Or.inr h2
      clear hz
      rcases hcase with ⟨h2, h3⟩ | h2
      · have hb0 : ((bt s 0 : Int) == 48) = true := by rw [h2]; rfl
        have e2 : (s.toList == [48]) = true := beq_iff_eq.2 h3
        have H0 : Hid (¬ s.toList = []) := h0
        clear h2 h3 h0
        go_enter Try.func50, Try.ntmps50
        go_wp2
        go_loop [17] (fun i => ∃ c : Nat, c ≤ s.size ∧ i = .int .i64 c ∧ ∀ j, j < c → isD (bt s j)) (fun i => s.size - (intOf i).toNat)
        case atStart => exact ⟨0, by omega, rfl, fun j hj => by omega⟩
        case round =>
          obtain ⟨c, hc, rfl, hI⟩ := hrel
          have HI : Hid (∀ j, j < c → isD (bt s j)) := hI
          clear hI hbt hlt
          by_cases hcs : c < s.size
          · have hbt := bt_at hcs
            have hlt := bt_lt s c
            have hcI : (c : Int) < s.size := by omega
            by_cases hd : isD (bt s c)
            · obtain ⟨hd1, hd2⟩ := hd
              have hd3 : ¬ ((bt s c : Int) < 48) := by omega
              have hd4 : ¬ ((57 : Int) < (bt s c : Int)) := by omega
              go_wp2
              go_round
              case rel => exact ⟨c + 1, by omega, by go_num, fun j hj => by
                by_cases e : j = c
                · rw [e]; exact ⟨hd1, hd2⟩
                · exact HI.out j (by omega)⟩
              case measure => simp [intOf]; omega
            · obtain rfl : b = false := by
                cases b
                · rfl
                · exact absurd (btL_mem.1 (HB.out.1 rfl).2.2 c hcs) hd
              by_cases hd1 : 48 ≤ bt s c
              · have hd3 : ¬ ((bt s c : Int) < 48) := by omega
                have hd4 : (57 : Int) < (bt s c : Int) := by unfold isD at hd; omega
                clear hd
                go_wp2
                go_ret
                exact ⟨rfl, Below.refl _ _⟩
              · have hd3 : (bt s c : Int) < 48 := by omega
                clear hd
                go_wp2
                go_ret
                exact ⟨rfl, Below.refl _ _⟩
          · obtain rfl : c = s.size := by omega
            obtain rfl : b = true := HB.out.2 ⟨fun h => H0.out (tl_nil.2 h), HZ.out, btL_mem.2 HI.out⟩
            go_wp2
            go_ret
            exact ⟨rfl, Below.refl _ _⟩
      · have hb0 : ((bt s 0 : Int) == 48) = false := beq_eq_false_iff_ne.2 (by omega)
        have H0 : Hid (¬ s.toList = []) := h0
        clear h2 h0
        go_enter Try.func50, Try.ntmps50
        go_wp2
        go_loop [17] (fun i => ∃ c : Nat, c ≤ s.size ∧ i = .int .i64 c ∧ ∀ j, j < c → isD (bt s j)) (fun i => s.size - (intOf i).toNat)
        case atStart => exact ⟨0, by omega, rfl, fun j hj => by omega⟩
        case round =>
          obtain ⟨c, hc, rfl, hI⟩ := hrel
          have HI : Hid (∀ j, j < c → isD (bt s j)) := hI
          clear hI hbt hlt
          by_cases hcs : c < s.size
          · have hbt := bt_at hcs
            have hlt := bt_lt s c
            have hcI : (c : Int) < s.size := by omega
            by_cases hd : isD (bt s c)
            · obtain ⟨hd1, hd2⟩ := hd
              have hd3 : ¬ ((bt s c : Int) < 48) := by omega
              have hd4 : ¬ ((57 : Int) < (bt s c : Int)) := by omega
              go_wp2
              go_round
              case rel => exact ⟨c + 1, by omega, by go_num, fun j hj => by
                by_cases e : j = c
                · rw [e]; exact ⟨hd1, hd2⟩
                · exact HI.out j (by omega)⟩
              case measure => simp [intOf]; omega
            · obtain rfl : b = false := by
                cases b
                · rfl
                · exact absurd (btL_mem.1 (HB.out.1 rfl).2.2 c hcs) hd
              by_cases hd1 : 48 ≤ bt s c
              · have hd3 : ¬ ((bt s c : Int) < 48) := by omega
                have hd4 : (57 : Int) < (bt s c : Int) := by unfold isD at hd; omega
                clear hd
                go_wp2
                go_ret
                exact ⟨rfl, Below.refl _ _⟩
              · have hd3 : (bt s c : Int) < 48 := by omega
                clear hd
                go_wp2
                go_ret
                exact ⟨rfl, Below.refl _ _⟩
          · obtain rfl : c = s.size := by omega
            obtain rfl : b = true := HB.out.2 ⟨fun h => H0.out (tl_nil.2 h), HZ.out, btL_mem.2 HI.out⟩
            go_wp2
            go_ret
            exact ⟨rfl, Below.refl _ _⟩
end Go.Proofs.Ytnnojeggjnddpaa

/- A text cut of its sign: the program's. -/
namespace Go.Proofs.Ytnnojeggjnddpaa
open Go.RowKit
theorem ex_head {s : ByteArray} (hs : 0 < s.size) : ((s.extract 0 1).toList == [45]) = decide ((btL s).head? = some 45) := by
  rw [Bool.eq_iff_iff, beq_iff_eq, decide_eq_true_iff, tl_one, btL_extract]
  have h : 0 < (btL s).length := by rw [btL_len]; exact hs
  cases hl : btL s with
  | nil => rw [hl] at h; simp at h
  | cons x t => simp
theorem ex_tail {s : ByteArray} (h : (btL s).head? = some 45) : s.extract 1 s.size = strL (cutM (btL s)) := by
  rw [← strL_btL (s.extract 1 s.size), btL_extract, ← btL_len]
  congr 1
  unfold cutM
  rw [if_pos h, List.drop_one, List.take_of_length_le (by simp)]
set_option maxRecDepth 100000 in
set_option maxHeartbeats 1000000 in
theorem cutPre_any (s : ByteArray) (hm : s.size ≤ 9223372036854775807) (b : Bool) (hb : b = decide ((btL s).head? = some 45)) (w : World) : Calls Try.prog 49 #[.string s, .string ⟨#[45]⟩] w (VP (.tuple #[.string (strL (cutM (btL s))), .bool b]) w) := by
  by_cases h : (btL s).head? = some 45
  · obtain rfl : b = true := by rw [hb]; exact decide_eq_true h
    have hs : 0 < s.size := by
      rw [← btL_len]
      cases hl : btL s with
      | nil => rw [hl] at h; simp at h
      | cons x t => simp
    have e1 := ex_head hs
    rw [← hb] at e1
    have e2 := ex_tail h
    have hs1 : (1 : Int) ≤ s.size := by omega
    clear h hb
    go_enter Try.func49, Try.ntmps49
    go_wp2
    refine bodyPost_ret (v := .tuple #[.string (strL (cutM (btL s))), .bool true]) (by simp [results, Try.results49, go_sem]) rfl ?_
    exact ⟨rfl, Below.refl _ _⟩
  · obtain rfl : b = false := by rw [hb]; exact decide_eq_false h
    have e2 : Hid (strL (cutM (btL s)) = s) := by show _ = _; rw [cutM_pos h, strL_btL]
    rw [e2.out]
    clear e2
    by_cases hs : 0 < s.size
    · have e1 := ex_head hs
      rw [← hb] at e1
      have hs1 : (1 : Int) ≤ s.size := by omega
      clear h hb
      go_enter Try.func49, Try.ntmps49
      go_wp2
      refine bodyPost_ret (v := .tuple #[.string s, .bool false]) (by simp [results, Try.results49, go_sem]) rfl ?_
      exact ⟨rfl, Below.refl _ _⟩
    · have hs1 : ¬ (1 : Int) ≤ s.size := by omega
      clear h hb
      go_enter Try.func49, Try.ntmps49
      go_wp2
      refine bodyPost_ret (v := .tuple #[.string s, .bool false]) (by simp [results, Try.results49, go_sem]) rfl ?_
      exact ⟨rfl, Below.refl _ _⟩
end Go.Proofs.Ytnnojeggjnddpaa

/- One digit of a long division: the reckoning, and a window of a row that is written. -/
namespace Go.Proofs.Ytnnojeggjnddpaa
open Go.RowKit
end Go.Proofs.Ytnnojeggjnddpaa

/- The walk of one digit of the program's long division. -/
namespace Go.Proofs.Ytnnojeggjnddpaa
open Go.RowKit
/-- What stands while a digit is sought. -/
structure Tk (w wr : World) (rs ys : List Int) : Prop where
  below : Below w.heap.size w wr
  r : Blk wr w.heap.size (rs.map (Value.int .u64))
  y : Blk wr (w.heap.size + 1) (ys.map (Value.int .u64))
  o : Blk wr (w.heap.size + 1 + 1) (List.replicate 9 (Value.int .u64 0))
theorem Tk.step {w wr wr' : World} {rs ys : List Int} (h : Tk w wr rs ys) (hB : Below wr.heap.size wr wr') : Tk w wr' rs ys := ⟨h.below.trans (hB.mono h.below.size), h.r.step hB, h.y.step hB, h.o.step hB⟩
theorem Tk.drew {w wr : World} {rs ys : List Int} (h : Tk w wr rs ys) : Tk w wr.drew rs ys := ⟨h.below.drew, h.r, h.y, h.o⟩
theorem Tk.drewN {w wr : World} {rs ys : List Int} (h : Tk w wr rs ys) (n : Nat) : Tk w (wr.drewN n) rs ys := ⟨bdrew h.below n, h.r, h.y, h.o⟩
theorem Tk.cr {w wr : World} {rs ys : List Int} (h : Tk w wr rs ys) (j : Nat) (hj : j < rs.length) : wr.cell? ⟨w.heap.size, j, none⟩ = some (.int .u64 rs[j]) := h.r.c j (by simp [hj])
end Go.Proofs.Ytnnojeggjnddpaa

/- Long division, digit by digit: the reckoning. -/
namespace Go.Proofs.Ytnnojeggjnddpaa
open Go.RowKit
end Go.Proofs.Ytnnojeggjnddpaa

/- The program's long division: what lies in memory around its first statements. -/
namespace Go.Proofs.Ytnnojeggjnddpaa
open Go.RowKit
theorem Blk.cellsO {g b : Nat} {zs : List Value} (hne : g ≠ b) : ∀ (vs : List Value) (o : Nat) {w : World}, Blk w g zs → Blk (w.setCells b o vs) g zs
  | [], _, _, h => h
  | v :: r, o, w, h => by rw [World.setCells]; exact Blk.cellsO hne r (o + 1) (h.setO hne v)
theorem below_cells {B g : Nat} {w0 : World} (hg : B ≤ g) : ∀ (vs : List Value) (o : Nat) {w : World}, Below B w0 w → Below B w0 (w.setCells g o vs)
  | [], _, _, h => h
  | v :: r, o, w, h => by rw [World.setCells]; exact below_cells hg r (o + 1) (h.setCell hg v)
theorem ArgsB.cells {w W : World} {a b c d : List Value} (h : ArgsB w W [a, b, c, d]) {g : Nat} (hg : w.heap.size + 3 < g) (vs : List Value) : ArgsB w (W.setCells g 0 vs) [a, b, c, d] := by
  refine ⟨below_cells (by omega) vs 0 h.1, fun j us hj => Blk.cellsO ?_ vs 0 (h.2 j us hj)⟩
  have : j < 4 := by
    apply Decidable.byContradiction
    intro hn
    rw [List.getElem?_eq_none (by simp; omega)] at hj
    simp at hj
  omega
end Go.Proofs.Ytnnojeggjnddpaa

/- The walk of the program's long division. -/
namespace Go.Proofs.Ytnnojeggjnddpaa
open Go.RowKit
end Go.Proofs.Ytnnojeggjnddpaa

/- The walk of a number of eight words, told as four. -/
namespace Go.Proofs.Ytnnojeggjnddpaa
open Go.RowKit
theorem tw_cells {x0 x1 x2 x3 x4 x5 x6 x7 : Int} {w W : World} (h : ArgsB w W [[.int .u64 x0, .int .u64 x1, .int .u64 x2, .int .u64 x3, .int .u64 x4, .int .u64 x5, .int .u64 x6, .int .u64 x7], [.int .u64 0, .int .u64 0, .int .u64 0, .int .u64 0], [.int .u64 x3, .int .u64 x2, .int .u64 x1, .int .u64 x0]]) : (fun w' => w'.cell? ⟨w.heap.size, 0, none⟩ = some (.int .u64 x0) ∧ w'.cell? ⟨w.heap.size, 1, none⟩ = some (.int .u64 x1) ∧ w'.cell? ⟨w.heap.size, 2, none⟩ = some (.int .u64 x2) ∧ w'.cell? ⟨w.heap.size, 3, none⟩ = some (.int .u64 x3) ∧ w'.cell? ⟨w.heap.size, 4, none⟩ = some (.int .u64 x4) ∧ w'.cell? ⟨w.heap.size, 5, none⟩ = some (.int .u64 x5) ∧ w'.cell? ⟨w.heap.size, 6, none⟩ = some (.int .u64 x6) ∧ w'.cell? ⟨w.heap.size, 7, none⟩ = some (.int .u64 x7) ∧ w'.cell? ⟨w.heap.size + 1 + 1, 0, none⟩ = some (.int .u64 x3) ∧ w'.cell? ⟨w.heap.size + 1 + 1, 1, none⟩ = some (.int .u64 x2) ∧ w'.cell? ⟨w.heap.size + 1 + 1, 2, none⟩ = some (.int .u64 x1) ∧ w'.cell? ⟨w.heap.size + 1 + 1, 3, none⟩ = some (.int .u64 x0)) W :=
  ⟨(h.b 0 rfl).c 0 rfl, (h.b 0 rfl).c 1 rfl, (h.b 0 rfl).c 2 rfl, (h.b 0 rfl).c 3 rfl, (h.b 0 rfl).c 4 rfl, (h.b 0 rfl).c 5 rfl, (h.b 0 rfl).c 6 rfl, (h.b 0 rfl).c 7 rfl, (h.b 2 rfl).c 0 rfl, (h.b 2 rfl).c 1 rfl, (h.b 2 rfl).c 2 rfl, (h.b 2 rfl).c 3 rfl⟩
theorem tw_start (x0 x1 x2 x3 x4 x5 x6 x7 : Int) (w : World) : ArgsB w (((w.alloc (.cells #[.int .u64 x0, .int .u64 x1, .int .u64 x2, .int .u64 x3, .int .u64 x4, .int .u64 x5, .int .u64 x6, .int .u64 x7] 82)).alloc (.cells #[.int .u64 0, .int .u64 0, .int .u64 0, .int .u64 0] 26)).alloc (.cells #[.int .u64 x3, .int .u64 x2, .int .u64 x1, .int .u64 x0] 26)) [[.int .u64 x0, .int .u64 x1, .int .u64 x2, .int .u64 x3, .int .u64 x4, .int .u64 x5, .int .u64 x6, .int .u64 x7], [.int .u64 0, .int .u64 0, .int .u64 0, .int .u64 0], [.int .u64 x3, .int .u64 x2, .int .u64 x1, .int .u64 x0]] := by
  refine ⟨(((Below.refl _ _).alloc (Nat.le_refl _) _).alloc (by simp) _).alloc (by simp; omega) _, fun j vs hj => ?_⟩
  match j, hj with
  | 0, hj => cases hj; exact ((Blk.new w [.int .u64 x0, .int .u64 x1, .int .u64 x2, .int .u64 x3, .int .u64 x4, .int .u64 x5, .int .u64 x6, .int .u64 x7] 82 rfl).alloc _).alloc _
  | 1, hj => cases hj; exact (Blk.new (w.alloc (.cells #[.int .u64 x0, .int .u64 x1, .int .u64 x2, .int .u64 x3, .int .u64 x4, .int .u64 x5, .int .u64 x6, .int .u64 x7] 82)) [.int .u64 0, .int .u64 0, .int .u64 0, .int .u64 0] 26 (by simp)).alloc _
  | 2, hj => cases hj; exact Blk.new ((w.alloc (.cells #[.int .u64 x0, .int .u64 x1, .int .u64 x2, .int .u64 x3, .int .u64 x4, .int .u64 x5, .int .u64 x6, .int .u64 x7] 82)).alloc (.cells #[.int .u64 0, .int .u64 0, .int .u64 0, .int .u64 0] 26)) [.int .u64 x3, .int .u64 x2, .int .u64 x1, .int .u64 x0] 26 (by simp)
  | j + 3, hj => simp at hj
theorem words8_of {x0 x1 x2 x3 x4 x5 x6 x7 : Int} (h : Words [x0, x1, x2, x3, x4, x5, x6, x7]) : Word x0 ∧ Word x1 ∧ Word x2 ∧ Word x3 ∧ Word x4 ∧ Word x5 ∧ Word x6 ∧ Word x7 := ⟨h _ (by simp), h _ (by simp), h _ (by simp), h _ (by simp), h _ (by simp), h _ (by simp), h _ (by simp), h _ (by simp)⟩
theorem sl_told {x0 x1 x2 x3 x4 x5 x6 x7 : Int} (h : Words [x0, x1, x2, x3, x4, x5, x6, x7]) (he : x4 = fillW x3 ∧ x5 = fillW x3 ∧ x6 = fillW x3 ∧ x7 = fillW x3) : told (sl x0 x1 x2 x3 x4 x5 x6 x7) = true ∧ sw x3 x2 x1 x0 = sl x0 x1 x2 x3 x4 x5 x6 x7 := by
  obtain ⟨h0, h1, h2, h3, h4, h5, h6, h7⟩ := words8_of h
  obtain ⟨e4, e5, e6, e7⟩ := he
  have hs : sw x3 x2 x1 x0 = sl x0 x1 x2 x3 x4 x5 x6 x7 := by
    unfold sl sw uw fillW Word at *
    simp only [val64]
    by_cases p : x3 < 9223372036854775808
    · rw [if_pos p] at e4 e5 e6 e7 ⊢
      subst e4 e5 e6 e7
      rw [if_pos (by decide)]
      omega
    · rw [if_neg p] at e4 e5 e6 e7 ⊢
      subst e4 e5 e6 e7
      rw [if_neg (by decide)]
      omega
  refine ⟨?_, hs⟩
  rw [← hs]
  unfold told
  apply decide_eq_true
  unfold sw uw Word at *
  by_cases p : x3 < 9223372036854775808
  · rw [if_pos p]; omega
  · rw [if_neg p]; omega
theorem sl_not {x0 x1 x2 x3 x4 x5 x6 x7 : Int} (h : Words [x0, x1, x2, x3, x4, x5, x6, x7]) (he : ¬ (x4 = fillW x3 ∧ x5 = fillW x3 ∧ x6 = fillW x3 ∧ x7 = fillW x3)) : told (sl x0 x1 x2 x3 x4 x5 x6 x7) = false := by
  obtain ⟨h0, h1, h2, h3, h4, h5, h6, h7⟩ := words8_of h
  unfold told
  apply decide_eq_false
  intro hh
  unfold sl fillW Word at *
  simp only [val64] at hh
  by_cases p : x3 < 9223372036854775808 <;> by_cases q : x7 < 9223372036854775808
  · rw [if_pos p] at he; rw [if_pos q] at hh; omega
  · rw [if_pos p] at he; rw [if_neg q] at hh; omega
  · rw [if_neg p] at he; rw [if_pos q] at hh; omega
  · rw [if_neg p] at he; rw [if_neg q] at hh; omega
set_option maxRecDepth 100000 in
set_option maxHeartbeats 2000000 in
theorem eqLong (x0 x1 x2 x3 y4 y5 y6 y7 x4 x5 x6 x7 : Int) (w : World) : (Op.equalIn 10000 82 (L8 x0 x1 x2 x3 y4 y5 y6 y7) (L8 x0 x1 x2 x3 x4 x5 x6 x7)).run Try.prog w = .ok (y4 == x4 && y5 == x5 && y6 == x6 && y7 == x7) w := by
  have u3 := Try.underlying22
  have a3 := Try.isAgg22
  have z3 := Try.sizeOf22
  rw [show (10000 : Nat) = 9999 + 1 from rfl, Op.equalIn]
  simp only [Sem.run_bind, run_underlying Try.underlying82, Result.andThen_ok]
  simp only [Std.Legacy.Range.forIn_eq_forIn_range', Std.Legacy.Range.size, Nat.sub_zero, Nat.add_sub_cancel, Nat.div_one, List.range'_succ, List.range'_zero, List.forIn_cons, List.forIn_nil]
  go_simp
  by_cases h4 : y4 = x4 <;> by_cases h5 : y5 = x5 <;> by_cases h6 : y6 = x6 <;> by_cases h7 : y7 = x7 <;> simp [h4, h5, h6, h7]
set_option maxRecDepth 100000 in
set_option maxHeartbeats 2000000 in
theorem tellWide_any (x0 x1 x2 x3 x4 x5 x6 x7 : Int) (wx : Words [x0, x1, x2, x3, x4, x5, x6, x7]) (w : World) :
    Calls Try.prog 52 #[L8 x0 x1 x2 x3 x4 x5 x6 x7] w (TellP (sl x0 x1 x2 x3 x4 x5 x6 x7) w) := by
  have T0 := tw_start x0 x1 x2 x3 x4 x5 x6 x7 w
  have h3 := (words8_of wx).2.2.2.1
  have EQ : ∀ W : World, (Op.equalIn 10000 82 (L8 x0 x1 x2 x3 (fillW x3) (fillW x3) (fillW x3) (fillW x3)) (L8 x0 x1 x2 x3 x4 x5 x6 x7)).run Try.prog W = .ok (fillW x3 == x4 && fillW x3 == x5 && fillW x3 == x6 && fillW x3 == x7) W := eqLong _ _ _ _ _ _ _ _ _ _ _ _
  obtain ⟨B, hB0⟩ : ∃ B, (fillW x3 == x4 && fillW x3 == x5 && fillW x3 == x6 && fillW x3 == x7) = B := ⟨_, rfl⟩
  simp only [hB0] at EQ
  go_enter Try.func52, Try.ntmps52
  go_upto_region 2 with fail
  generalize (((w.alloc (.cells #[.int .u64 x0, .int .u64 x1, .int .u64 x2, .int .u64 x3, .int .u64 x4, .int .u64 x5, .int .u64 x6, .int .u64 x7] 82)).alloc (.cells #[.int .u64 0, .int .u64 0, .int .u64 0, .int .u64 0] 26)).alloc (.cells #[.int .u64 x3, .int .u64 x2, .int .u64 x1, .int .u64 x0] 26)) = W at *
  go_cut [17] (fun q wc => q = .bool (!B) ∧ ArgsB w wc [[.int .u64 x0, .int .u64 x1, .int .u64 x2, .int .u64 x3, .int .u64 x4, .int .u64 x5, .int .u64 x6, .int .u64 x7], [.int .u64 0, .int .u64 0, .int .u64 0, .int .u64 0], [.int .u64 x3, .int .u64 x2, .int .u64 x1, .int .u64 x0]])
  case first =>
    go_region_held3 (fun w' => w'.cell? ⟨w.heap.size, 0, none⟩ = some (.int .u64 x0) ∧ w'.cell? ⟨w.heap.size, 1, none⟩ = some (.int .u64 x1) ∧ w'.cell? ⟨w.heap.size, 2, none⟩ = some (.int .u64 x2) ∧ w'.cell? ⟨w.heap.size, 3, none⟩ = some (.int .u64 x3) ∧ w'.cell? ⟨w.heap.size, 4, none⟩ = some (.int .u64 x4) ∧ w'.cell? ⟨w.heap.size, 5, none⟩ = some (.int .u64 x5) ∧ w'.cell? ⟨w.heap.size, 6, none⟩ = some (.int .u64 x6) ∧ w'.cell? ⟨w.heap.size, 7, none⟩ = some (.int .u64 x7) ∧ w'.cell? ⟨w.heap.size + 1 + 1, 0, none⟩ = some (.int .u64 x3) ∧ w'.cell? ⟨w.heap.size + 1 + 1, 1, none⟩ = some (.int .u64 x2) ∧ w'.cell? ⟨w.heap.size + 1 + 1, 2, none⟩ = some (.int .u64 x1) ∧ w'.cell? ⟨w.heap.size + 1 + 1, 3, none⟩ = some (.int .u64 x0)) (first | (with_reducible exact tw_cells T0) | (with_reducible exact tw_cells T0.drew))
      ((go_at_call 89; refine (longOf_any x3 x2 x1 x0 h3 _).mono ?_; rintro e w1 ⟨rfl, hB⟩; (first | (have T1 := T0.step hB) | (have T1 := T0.drew.step hB)); clear T0; have T0 := T1; clear T1; clear hB))
    all_goals go_wp2_with fail
    all_goals go_meet
    all_goals first | exact ⟨rfl, T0⟩ | exact ⟨rfl, T0.drew⟩
  case rest =>
    clear T0 EQ
    obtain ⟨hq, T0⟩ := hcut
    subst hq
    have HB := T0.below
    have p0 := (T0.b 1 rfl).c 0 rfl; have f0 := (T0.b 1 rfl).f 0 rfl; have q0 := (T0.b 2 rfl).c 0 rfl; have p1 := (T0.b 1 rfl).c 1 rfl; have f1 := (T0.b 1 rfl).f 1 rfl; have q1 := (T0.b 2 rfl).c 1 rfl; have p2 := (T0.b 1 rfl).c 2 rfl; have f2 := (T0.b 1 rfl).f 2 rfl; have q2 := (T0.b 2 rfl).c 2 rfl; have p3 := (T0.b 1 rfl).c 3 rfl; have f3 := (T0.b 1 rfl).f 3 rfl; have q3 := (T0.b 2 rfl).c 3 rfl
    have l1 := (T0.b 1 rfl).lt
    have l2 := (T0.b 2 rfl).lt
    clear T0
    cases B
    · have hn : ¬ (x4 = fillW x3 ∧ x5 = fillW x3 ∧ x6 = fillW x3 ∧ x7 = fillW x3) := by
        rintro ⟨e4, e5, e6, e7⟩
        rw [← e4] at hB0
        simp [← e4, e5, e6, e7] at hB0
      have HT := sl_not wx hn
      clear hB0 hn
      go_wp2
      refine bodyPost_ret (v := .tuple #[.agg #[.int .u64 0, .int .u64 0, .int .u64 0, .int .u64 0], .bool false]) (by simp [results, Try.results52, go_sem, p0, p1, p2, p3]) rfl ?_
      refine ⟨?_, Or.inr ⟨HT, rfl⟩⟩
      repeat' (refine Below.setCell ?_ (by simp) _)
      exact HB
    · have he : x4 = fillW x3 ∧ x5 = fillW x3 ∧ x6 = fillW x3 ∧ x7 = fillW x3 := by
        simp at hB0
        obtain ⟨⟨⟨e4, e5⟩, e6⟩, e7⟩ := hB0
        exact ⟨e4.symm, e5.symm, e6.symm, e7.symm⟩
      have HT := sl_told wx he
      obtain ⟨w0, w1, w2, w3, -, -, -, -⟩ := words8_of wx
      clear hB0 he
      go_wp2
      refine bodyPost_ret (v := .tuple #[.agg #[.int .u64 x3, .int .u64 x2, .int .u64 x1, .int .u64 x0], .bool true]) (by simp [results, Try.results52, go_sem, p0, p1, p2, p3]) rfl ?_
      refine ⟨?_, Or.inl ⟨HT.1, x3, x2, x1, x0, rfl, w3, w2, w1, w0, HT.2⟩⟩
      repeat' (refine Below.setCell ?_ (by simp) _)
      exact HB
end Go.Proofs.Ytnnojeggjnddpaa

/- The product of two numbers of four words: what the walk of its first statement wants. -/
namespace Go.Proofs.Ytnnojeggjnddpaa
open Go.RowKit
theorem ArgsB.set4 {w W : World} {a b c : List Value} (h : ArgsB w W [a, b, c]) {g : Nat} (hg : w.heap.size + 2 < g) (v0 v1 v2 v3 : Value) : ArgsB w ((((W.setCell ⟨g, 0, none⟩ v0).setCell ⟨g, 1, none⟩ v1).setCell ⟨g, 2, none⟩ v2).setCell ⟨g, 3, none⟩ v3) [a, b, c] :=
  (((h.set (by exact hg) _).set (by exact hg) _).set (by exact hg) _).set (by exact hg) _
/-- Two rows of four values laid behind the arguments. -/
def CutT (w wx : World) (vss : List (List Value)) (xs ys : List Value) (p q : Value) : Prop :=
  ∃ g g', p = .pointer (some ⟨g, 0, none⟩) ∧ q = .pointer (some ⟨g', 0, none⟩) ∧ g ≠ g' ∧ w.heap.size + 2 < g ∧ w.heap.size + 2 < g' ∧ ArgsB w wx vss ∧ Blk wx g xs ∧ Blk wx g' ys
theorem CutT.drew {w wx : World} {vss : List (List Value)} {xs ys : List Value} {p q : Value} (h : CutT w wx vss xs ys p q) : CutT w wx.drew vss xs ys p q := by
  obtain ⟨g, g', e, f, n, l, l', A, B, C⟩ := h
  exact ⟨g, g', e, f, n, l, l', A.drew, B.drew, C.drew⟩
end Go.Proofs.Ytnnojeggjnddpaa

/- A product of two rows of words added to a third row, round by round: the reckoning. -/
namespace Go.Proofs.Ytnnojeggjnddpaa
open Go.RowKit
end Go.Proofs.Ytnnojeggjnddpaa

/- A product of two rows of words added to a third row: the program's walk. -/
namespace Go.Proofs.Ytnnojeggjnddpaa
open Go.RowKit
structure ApW (w wr : World) (gp L g g' : Nat) (xs ys zs : List Int) : Prop where
  wrote : Wrote gp 0 L w wr
  z : Blk wr gp (zs.map (Value.int .u64))
  x : ∀ i, (h : i < xs.length) → wr.cell? ⟨g, i, none⟩ = some (.int .u64 xs[i])
  y : ∀ i, (h : i < ys.length) → wr.cell? ⟨g', i, none⟩ = some (.int .u64 ys[i])
theorem ApW.drewN {w wr : World} {gp L g g' : Nat} {xs ys zs : List Int} (h : ApW w wr gp L g g' xs ys zs) (n : Nat) : ApW w (wr.drewN n) gp L g g' xs ys zs :=
  ⟨⟨h.wrote.os, h.wrote.tape, h.wrote.output, h.wrote.size, h.wrote.block, h.wrote.cell, h.wrote.frz⟩, h.z, h.x, h.y⟩
theorem ApW.set {w wr : World} {gp L g g' : Nat} {xs ys zs : List Int} (h : ApW w wr gp L g g' xs ys zs) (ng : g ≠ gp) (ng' : g' ≠ gp) (j : Nat) (hj : j < zs.length) (hl : j < L) (u : Int) : ApW w (wr.setCell ⟨gp, j, none⟩ (.int .u64 u)) gp L g g' xs ys (zs.set j u) := by
  refine ⟨h.wrote.set j ⟨by omega, by omega⟩ _, ?_, fun i hi => ?_, fun i hi => ?_⟩
  · have := h.z.setI j (by simpa using hj) (.int .u64 u)
    rwa [← List.map_set] at this
  · rw [World.cell?_setCell_other _ _ _ _ (by intro e; simp only [Addr.mk.injEq] at e; exact ng e.1.symm)]; exact h.x i hi
  · rw [World.cell?_setCell_other _ _ _ _ (by intro e; simp only [Addr.mk.injEq] at e; exact ng' e.1.symm)]; exact h.y i hi
end Go.Proofs.Ytnnojeggjnddpaa

/- The walk of the program's product of two numbers of four words. -/
namespace Go.Proofs.Ytnnojeggjnddpaa
open Go.RowKit
def TimesP (z : Int) (w : World) (e : Ending) (w' : World) : Prop :=
  ∃ z0 z1 z2 z3 z4 z5 z6 z7, e = .returned (L8 z0 z1 z2 z3 z4 z5 z6 z7) ∧ Words [z0, z1, z2, z3, z4, z5, z6, z7] ∧ sl z0 z1 z2 z3 z4 z5 z6 z7 = z ∧ Below w.heap.size w w'
structure Tm3 (w wr : World) (vss : List (List Value)) (g g' gp : Nat) (xs ys zs : List Int) : Prop where
  args : ArgsB w wr vss
  x : Blk wr g (xs.map (Value.int .u64))
  y : Blk wr g' (ys.map (Value.int .u64))
  p : Blk wr gp (zs.map (Value.int .u64))
theorem Tm3.drew {w wr : World} {vss : List (List Value)} {g g' gp : Nat} {xs ys zs : List Int} (h : Tm3 w wr vss g g' gp xs ys zs) (n : Nat) : Tm3 w (wr.drewN n) vss g g' gp xs ys zs := ⟨⟨bdrew h.args.1 n, h.args.2⟩, h.x, h.y, h.p⟩
theorem Tm3.set {w wr : World} {vss : List (List Value)} {g g' gp : Nat} {xs ys zs : List Int} (h : Tm3 w wr vss g g' gp xs ys zs) (h1 : g ≠ gp) (h2 : g' ≠ gp) (hg : w.heap.size + vss.length ≤ gp) (j : Nat) (hj : j < zs.length) (u : Int) : Tm3 w (wr.setCell ⟨gp, j, none⟩ (.int .u64 u)) vss g g' gp xs ys (zs.set j u) :=
  ⟨h.args.set hg _, h.x.setO h1 _, h.y.setO h2 _, by have := h.p.setI j (by simpa using hj) (.int .u64 u); rwa [← List.map_set] at this⟩
theorem Tm3.cp {w wr : World} {vss : List (List Value)} {g g' gp : Nat} {xs ys zs : List Int} (h : Tm3 w wr vss g g' gp xs ys zs) (j : Nat) (hj : j < zs.length) : wr.cell? ⟨gp, j, none⟩ = some (.int .u64 zs[j]) ∧ wr.frozen? ⟨gp, j, none⟩ = false := ⟨h.p.c j (by simp [hj]), h.p.f j (v := .int .u64 zs[j]) (by simp [hj])⟩
theorem Tm3.step {w wr wr' : World} {vss : List (List Value)} {g g' gp : Nat} {xs ys zs : List Int} (h : Tm3 w wr vss g g' gp xs ys zs) (hB : Below wr.heap.size wr wr') : Tm3 w wr' vss g g' gp xs ys zs := ⟨h.args.step hB, h.x.step hB, h.y.step hB, h.p.step hB⟩
theorem Blk.wrote {W W' : World} {A off n g : Nat} {vs : List Value} (h : Blk W g vs) (hw : Wrote A off n W W') (hg : g ≠ A) : Blk W' g vs :=
  ⟨by rw [hw.size]; exact h.1, fun i v hi => ⟨(hw.cellOther hg i).trans (h.2 i v hi).1, (hw.frzOther hg i).trans (h.2 i v hi).2⟩⟩
theorem Tm3.wrote {w W W' : World} {vss : List (List Value)} {g g' gp : Nat} {xs ys zs zs' : List Int} (h : Tm3 w W vss g g' gp xs ys zs) (hw : Wrote gp 0 8 W W') (hz : Blk W' gp (zs'.map (Value.int .u64))) (ng : g ≠ gp) (ng' : g' ≠ gp) (hg : w.heap.size + vss.length ≤ gp) : Tm3 w W' vss g g' gp xs ys zs' :=
  ⟨⟨h.args.1.trans ((hw.below (Nat.le_of_add_right_le hg))), fun j vs hj => (h.args.2 j vs hj).wrote hw (by have := (List.getElem?_eq_some_iff.1 hj).1; omega)⟩, h.x.wrote hw ng, h.y.wrote hw ng', hz⟩
theorem sl_top {z0 z1 z2 z3 z4 z5 z6 z7 : Int} (h : Words [z0, z1, z2, z3, z4, z5, z6, z7]) : (z7 < 9223372036854775808 ↔ val64 [z0, z1, z2, z3, z4, z5, z6, z7] < 6703903964971298549787012499102923063739682910296196688861780721860882015036773488400937149083451713845015929093243025426876941405973284973216824503042048) ∧ 0 ≤ val64 [z0, z1, z2, z3, z4, z5, z6, z7] ∧ val64 [z0, z1, z2, z3, z4, z5, z6, z7] < 13407807929942597099574024998205846127479365820592393377723561443721764030073546976801874298166903427690031858186486050853753882811946569946433649006084096 := by
  obtain ⟨h0, h1, h2, h3, h4, h5, h6, h7⟩ := words8_of h
  unfold Word at *
  simp only [val64]
  omega
end Go.Proofs.Ytnnojeggjnddpaa

/- The walks of a number's size in eight words, and of the common divisor of two words. -/
namespace Go.Proofs.Ytnnojeggjnddpaa
open Go.RowKit
structure Gl (w wr : World) (xs ys : List Int) : Prop where
  below : Below w.heap.size w wr
  x : Blk wr w.heap.size (xs.map (Value.int .u64))
  y : Blk wr (w.heap.size + 1) (ys.map (Value.int .u64))
  o : Blk wr (w.heap.size + 1 + 1) [.int .u64 0, .int .u64 0, .int .u64 0, .int .u64 0, .int .u64 0, .int .u64 0, .int .u64 0, .int .u64 0]
theorem Gl.step {w wr wr' : World} {xs ys : List Int} (h : Gl w wr xs ys) (hB : Below wr.heap.size wr wr') : Gl w wr' xs ys := ⟨h.below.trans (hB.mono h.below.size), h.x.step hB, h.y.step hB, h.o.step hB⟩
end Go.Proofs.Ytnnojeggjnddpaa

/- The walk of the program's common divisor of two numbers of four words. -/
namespace Go.Proofs.Ytnnojeggjnddpaa
open Go.RowKit
end Go.Proofs.Ytnnojeggjnddpaa

/- The walk of the model's product of two numbers. -/
namespace Go.Proofs.Ytnnojeggjnddpaa
open Go.RowKit
theorem val_set (zs : List Int) (j : Nat) (h : j < zs.length) (u : Int) : val (zs.set j u) = val zs + pw j * (u - zs[j]) := by
  have e1 := val_split zs j h
  have e2 := val_split (zs.set j u) j (by simpa using h)
  rw [e2, e1]
  have t1 : (zs.set j u).take j = zs.take j := by rw [List.take_set_of_le (by omega)]
  have t2 : (zs.set j u).drop (j + 1) = zs.drop (j + 1) := by rw [List.drop_set_of_lt (by omega)]
  rw [t1, t2]
  simp only [List.getElem_set_self]
  grind
theorem dig_set {zs : List Int} (h : Dig zs) (j : Nat) {u : Int} (h0 : 0 ≤ u) (h1 : u < 4294967296) : Dig (zs.set j u) := by
  intro d hd
  rcases List.mem_or_eq_of_mem_set hd with h' | h'
  · exact h d h'
  · subst h'; exact ⟨h0, h1⟩
/-- Between the rounds of the outer loop. -/
structure MuI (W wr : World) (g nm : Nat) (xs ys zs : List Int) (i m : Nat) : Prop where
  len : zs.length = nm
  dig : Dig zs
  eq : val zs = val (xs.take i) * val ys
  zero : ∀ j, i + m ≤ j → (h : j < zs.length) → zs[j] = 0
  own : wr.ownsRow g 112 1 (.slice (some ⟨g, 0, none⟩) nm nm) nm (zs.map (Value.int .u32))
  below : Below g W wr
/-- Between the rounds of the inner loop. -/
structure MuJ (W wr : World) (g nm : Nat) (xs ys zs : List Int) (i m k : Nat) (x c : Int) : Prop where
  len : zs.length = nm
  dig : Dig zs
  eq : val zs + c * pw (i + k) = val (xs.take i) * val ys + x * (pw i * val (ys.take k))
  zero : ∀ j, i + m ≤ j → (h : j < zs.length) → zs[j] = 0
  own : wr.ownsRow g 112 1 (.slice (some ⟨g, 0, none⟩) nm nm) nm (zs.map (Value.int .u32))
  below : Below g W wr
theorem mu_in {W wr : World} {g nm : Nat} {xs ys zs : List Int} {i m : Nat} (h : MuI W wr g nm xs ys zs i m) (x : Int) : MuJ W wr g nm xs ys zs i m 0 x 0 :=
  ⟨h.len, h.dig, by simp [val, h.eq], h.zero, h.own, h.below⟩
theorem mu_cell {W wr : World} {g nm : Nat} {xs ys zs : List Int} {i m k : Nat} {x c : Int} (h : MuJ W wr g nm xs ys zs i m k x c) (j : Nat) (hj : j < zs.length) : wr.cell? ⟨g, j, none⟩ = some (.int .u32 zs[j]) ∧ wr.frozen? ⟨g, j, none⟩ = false := by
  refine ⟨?_, h.own.frozenAt j⟩
  rw [h.own.cellAt j (by rw [← h.len]; omega)]
  simp [hj]
theorem mu_step {W wr : World} {g nm : Nat} {xs ys zs : List Int} {i m k : Nat} {x c : Int} (h : MuJ W wr g nm xs ys zs i m k x c) (hk : k < ys.length) (hkm : k < m) (hj : i + k < zs.length) (t : Int) (ht : t = c + x * ys[k] + zs[i + k]) (nq : Nat) :
    MuJ W ((wr.setCell ⟨g, i + k, none⟩ (.int .u32 (t % 4294967296))).drewN nq) g nm xs ys (zs.set (i + k) (t % 4294967296)) i m (k + 1) x (t / 4294967296) := by
  obtain ⟨o1, o2⟩ := h.own.stored (i + k) (.int .u32 (t % 4294967296))
  refine ⟨by simpa using h.len, dig_set h.dig _ (by omega) (by omega), ?_, ?_, ?_, bdrew (h.below.setCell (Nat.le_refl _) _) _⟩
  · rw [val_set zs _ hj, show i + (k + 1) = (i + k) + 1 by omega, pw, val_take_succ ys k hk]
    have e := h.eq
    have e2 : t = t % 4294967296 + 4294967296 * (t / 4294967296) := by omega
    have e3 := pw_add i k
    generalize t / 4294967296 = q at *
    generalize t % 4294967296 = r at *
    generalize zs[i + k] = zk at *
    generalize ys[k] = yk at *
    generalize pw (i + k) = p at *
    subst e2
    grind
  · intro j hj1 hj2
    have hj3 : j < zs.length := by simpa using hj2
    rw [List.getElem_set_ne (by omega)]
    exact h.zero j hj1 hj3
  · have : (zs.map (Value.int .u32)).set (i + k) (.int .u32 (t % 4294967296)) = (zs.set (i + k) (t % 4294967296)).map (Value.int .u32) := by rw [List.map_set]
    rw [← this]; exact o1
theorem mu_out {W wr : World} {g nm : Nat} {xs ys zs : List Int} {i m : Nat} {c : Int} (hi : i < xs.length) (h : MuJ W wr g nm xs ys zs i m m xs[i] c) (hm : ys.length = m) (hj : i + m < zs.length) (h0 : 0 ≤ c) (h1 : c < 4294967296) :
    MuI W (wr.setCell ⟨g, i + m, none⟩ (.int .u32 c)) g nm xs ys (zs.set (i + m) c) (i + 1) m := by
  obtain ⟨o1, o2⟩ := h.own.stored (i + m) (.int .u32 c)
  refine ⟨by simpa using h.len, dig_set h.dig _ h0 h1, ?_, ?_, ?_, h.below.setCell (Nat.le_refl _) _⟩
  · rw [val_set zs _ hj, h.zero (i + m) (Nat.le_refl _) hj, val_take_succ xs i hi]
    have e := h.eq
    rw [val_take_all ys m (by omega)] at e
    generalize pw (i + m) = p at *
    grind
  · intro j hj1 hj2
    have hj3 : j < zs.length := by simpa using hj2
    rw [List.getElem_set_ne (by omega)]
    exact h.zero j (by omega) hj3
  · have : (zs.map (Value.int .u32)).set (i + m) (.int .u32 c) = (zs.set (i + m) c).map (Value.int .u32) := by rw [List.map_set]
    rw [← this]; exact o1
theorem mul_bound {x y : Int} (hx0 : 0 ≤ x) (hx1 : x < 4294967296) (hy0 : 0 ≤ y) (hy1 : y < 4294967296) : 0 ≤ x * y ∧ x * y ≤ 18446744065119617025 := by
  refine ⟨Int.mul_nonneg hx0 hy0, ?_⟩
  have h1 : x * y ≤ 4294967295 * y := Int.mul_le_mul_of_nonneg_right (by omega) hy0
  omega
theorem mul_sign {x y : Int} {s t : Bool} {xs ys : List Int} (hs : s = decide (x < 0)) (ht : t = decide (y < 0)) (hx : val xs = (x.natAbs : Int)) (hy : val ys = (y.natAbs : Int)) : (x * y ≠ 0 → (s != t) = decide (x * y < 0)) ∧ val xs * val ys = ((x * y).natAbs : Int) := by
  constructor
  · intro hz
    have hx0 : x ≠ 0 := by rintro rfl; simp at hz
    have hy0 : y ≠ 0 := by rintro rfl; simp at hz
    rw [hs, ht]
    by_cases p : x < 0 <;> by_cases q : y < 0
    · have := Int.mul_pos_of_neg_of_neg p q; simp [p, q]; omega
    · have := Int.mul_neg_of_neg_of_pos p (show 0 < y by omega); simp [p, q, this]
    · have := Int.mul_neg_of_pos_of_neg (show 0 < x by omega) q; simp [p, q, this]
    · have := Int.mul_pos (show 0 < x by omega) (show 0 < y by omega); simp [p, q]; omega
  · rw [hx, hy, Int.natAbs_mul]; simp
theorem mu_start {W w1 : World} {g nm : Nat} {xs ys : List Int} {m : Nat} (hg : g = W.heap.size) (hown : w1.ownsRow g 112 1 (.slice (some ⟨g, 0, none⟩) nm nm) nm (madeCells #[Value.int .u32 0] nm).toList) (hgrow : W.grownBy w1 none) : MuI W w1 g nm xs ys (List.replicate nm 0) 0 m := by
  subst hg
  refine ⟨by simp, fun d hd => by rw [List.eq_of_mem_replicate hd]; decide, by simp [val_zeros, val], fun j _ h => by simp, ?_, (Below.refl _ _).grown hgrow (Nat.le_refl _) (by simp)⟩
  rw [made_one] at hown
  simpa using hown
set_option maxRecDepth 100000 in
set_option maxHeartbeats 2000000 in
theorem mul_some (s t : Bool) (ao bo : Option Addr) (n m ca cb k : Nat) (xs ys : List Int) (x y : Int) (w : World) (hx : IsNum w s ao n ca xs x k) (hy : IsNum w t bo m cb ys y k) (hk : k ≤ 100000) (hx0 : x ≠ 0) (hy0 : y ≠ 0) :
    Calls Try.prog 82 #[.agg #[.bool s, .slice ao n ca], .agg #[.bool t, .slice bo m cb]] w (NumP (k + k) (x * y) w) := by
  obtain ⟨i0, hi, hz0, hz1, hz2⟩ := info_parts Try.info88
  have hn0 : ((n : Int) == 0) = false := beq_eq_false_iff_ne.2 (by intro h; exact hx0 (hx.zero.1 (by omega)))
  have hm0 : ((m : Int) == 0) = false := beq_eq_false_iff_ne.2 (by intro h; exact hy0 (hy.zero.1 (by omega)))
  have T0 := two_start w (.bool s) (.slice ao n ca) (.bool t) (.slice bo m cb)
  have HX : Hid (xs.length = n) := hx.len
  have HY : Hid (ys.length = m) := hy.len
  have HDX : Hid (Dig xs) := hx.nrm.1
  have HDY : Hid (Dig ys) := hy.nrm.1
  have hnk := hx.le
  have hmk := hy.le
  have HRX0 := hx.rd.below T0.below (Nat.le_refl _)
  have HRY0 := hy.rd.below T0.below (Nat.le_refl _)
  have HSG : Hid ((x * y ≠ 0 → (s != t) = decide (x * y < 0)) ∧ val xs * val ys = ((x * y).natAbs : Int)) := mul_sign hx.neg hy.neg hx.val hy.val
  clear hx hy
  go_enter Try.func82, Try.ntmps82
  go_upto_region 3 with fail
  generalize ((w.alloc (Obj.cells #[Value.bool s, Value.slice ao n ca] 66)).alloc (Obj.cells #[Value.bool t, Value.slice bo m cb] 66)).alloc (Obj.cells #[Value.bool false, Value.slice none 0 0] 66) = W at *
  have q0 := T0.a0; have q1 := T0.a1; have q2 := T0.b0; have q3 := T0.b1
  have HRX : Hid (Rd W ao xs) := HRX0
  have HRY : Hid (Rd W bo ys) := HRY0
  clear HRX0 HRY0
  go_wp2_with (at_make; refine wpList_make_full _ rfl _ _ 64 rfl W.heap.size 112 i0 (.int .u32 0) 1 Try.underlying64 hi hz0 hz1 _ _ _ _ (n + m) rfl rfl (by omega) (by omega) (by rw [hz2]; omega) (by unfold maxLen; omega) (Nat.le_refl _) ?_)
  intro w1 hown hgrow
  have HS : MuI W w1 W.heap.size (n + m) xs ys (List.replicate (n + m) 0) 0 m := mu_start rfl (by simpa using hown) hgrow
  clear hown hgrow q0 q1 q2 q3
  have hsz := T0.sz
  go_wp2
  go_loopw [6] (fun i wr => ∃ (c : Nat) (zs : List Int), c ≤ n ∧ i = .int .i64 c ∧ MuI W wr W.heap.size (n + m) xs ys zs c m) (fun i _ => n - (intOf i).toNat)
  case atStart => exact ⟨0, _, Nat.zero_le _, rfl, HS⟩
  case round =>
    obtain ⟨i, zs, hin, rfl, hI⟩ := hrel
    clear HS
    have T1 := T0.step hI.below
    have q1 := T1.a1; have q3 := T1.b1
    by_cases hi' : i < n
    · have hix : i < xs.length := by have := HX.out; omega
      obtain ⟨bx, ox, rfl, hbx, hcx0⟩ := HRX.out i hix
      obtain ⟨hx0', hx1'⟩ := dig_at HDX.out i hix
      have HJ := mu_in hI xs[i]
      clear hI
      go_wp2
      obtain ⟨wo, hwo⟩ : ∃ wo : World, wo = wr := ⟨_, rfl⟩
      subst hwo
      go_loopw [7, 8] (fun c k wr => ∃ (j : Nat) (cv : Int) (zs : List Int), j ≤ m ∧ k = .int .i64 j ∧ 0 ≤ cv ∧ cv < 4294967296 ∧ c = .int .u64 cv ∧ MuJ W wr W.heap.size (n + m) xs ys zs i m j xs[i] cv) (fun _ k _ => m - (intOf k).toNat)
      case atStart => exact ⟨0, 0, _, Nat.zero_le _, rfl, by decide, by decide, rfl, HJ⟩
      case round =>
        obtain ⟨j, cv, zs', hj, rfl, hc0, hc1, rfl, hJ⟩ := hrel
        clear HJ T1 q1 q3
        have T1 := T0.step hJ.below
        have q1 := T1.a1; have q3 := T1.b1
        have hlen := hJ.len
        by_cases hj' : j < m
        · have hjy : j < ys.length := by have := HY.out; omega
          obtain ⟨by', oy, rfl, hby, hcy0⟩ := HRY.out j hjy
          obtain ⟨hy0', hy1'⟩ := dig_at HDY.out j hjy
          have hcx := (hJ.below.cell (p := ⟨bx, ox + i, none⟩) hbx).trans hcx0
          have hcy := (hJ.below.cell (p := ⟨by', oy + j, none⟩) hby).trans hcy0
          have hij : i + j < zs'.length := by omega
          obtain ⟨hcz, hfz⟩ := mu_cell hJ (i + j) hij
          obtain ⟨hz0', hz1'⟩ := dig_at hJ.dig (i + j) hij
          obtain ⟨P, hP⟩ : ∃ P, xs[i] * ys[j] = P := ⟨_, rfl⟩
          obtain ⟨hP0, hP1⟩ := mul_bound hx0' hx1' hy0' hy1'
          rw [hP] at hP0 hP1
          have R := fun nq => mu_step hJ hjy hj' hij (cv + P + zs'[i + j]) (by rw [hP]) nq
          clear hJ hlen
          have hin' : (i : Int) < n := by omega
          have hjm' : (j : Int) < m := by omega
          have hijn : (i : Int) + j < n + m := by omega
          go_wp2
          go_quiet (fail)
          go_wp2
          go_roundw
          case rel => exact ⟨j + 1, (cv + P + zs'[i + j]) / 4294967296, _, by omega, by go_num, by omega, by omega, rfl, by first | exact R _ | exact mu_drew R⟩
          case measure => simp [intOf]; omega
        · obtain rfl : j = m := by omega
          have him : i + j < zs'.length := by omega
          obtain ⟨hcz, hfz⟩ := mu_cell hJ (i + j) him
          have R := mu_out hix hJ HY.out him hc0 hc1
          clear hJ hlen
          have hijn : (i : Int) + j < n + j := by omega
          go_wp2
          go_roundw
          case rel => exact ⟨i + 1, _, by omega, by go_num, R⟩
          case measure => simp [intOf]; omega
    · obtain rfl : i = n := by omega
      have q0 := T1.a0; have q2 := T1.b0
      have R1 := hI.dig
      have R2 := Rd.own hI.own hI.len
      have R3 := hI.len
      have HE : Hid (val zs = ((x * y).natAbs : Int)) := by show _ = _; rw [hI.eq, val_take_all xs i (by have := HX.out; omega)]; exact HSG.out.2
      clear hI
      obtain ⟨sg, hsg⟩ : ∃ b, (!(s == t)) = b := ⟨_, rfl⟩
      have HG : Hid (x * y ≠ 0 → sg = decide (x * y < 0)) := by rw [← hsg]; exact HSG.out.1
      go_wp2_with fail
      refine (trim_any sg _ _ _ zs _ R3 (Nat.le_refl _) R1 R2 (by omega)).mono ?_
      rintro e w3 ⟨neg', ao', n', cap', ds', rfl, k1, k2, k3, k4, k5, k6, k7, k8⟩
      have T2 := T1.step k8
      have HN := num_of (z := x * y) (k := k + k) k1 k2 (by omega) k4 (k5.trans HE.out) (k6.trans (by rw [HE.out])) k7 rfl HG.out
      have c0 := T2.r0; have c1 := T2.r1; have f0 := T2.f0; have f1 := T2.f1
      have HB := T2.below
      clear k1 k2 k3 k4 k5 k6 k7 k8 R1 R2 R3 T1 q0 q1 q2 q3 T2
      go_wp2
      refine bodyPost_ret (v := .agg #[.bool neg', .slice ao' n' cap']) (by simp [results, Try.results82, go_sem, c0, c1]) rfl ?_
      exact num_ret (by omega) c0 c1 HN HB
set_option maxRecDepth 100000 in
set_option maxHeartbeats 1000000 in
theorem mul_none (s t : Bool) (ao bo : Option Addr) (n m ca cb k : Nat) (xs ys : List Int) (x y : Int) (w : World) (hx : IsNum w s ao n ca xs x k) (hy : IsNum w t bo m cb ys y k) (h0 : x = 0 ∨ y = 0) :
    Calls Try.prog 82 #[.agg #[.bool s, .slice ao n ca], .agg #[.bool t, .slice bo m cb]] w (NumP (k + k) (x * y) w) := by
  have HP : ∀ o1 o2 o3, NumP (k + k) (x * y) w (.returned (.agg #[.bool false, .slice none 0 0])) (((w.alloc o1).alloc o2).alloc o3) := by
    intro o1 o2 o3
    have hz : x * y = 0 := by rcases h0 with rfl | rfl <;> simp
    rw [hz]
    exact ⟨false, none, 0, 0, [], rfl, ⟨by decide, rfl, Nat.le_refl _, Rd.nil _ _, nrm_nil, rfl, Nat.zero_le _⟩, (((Below.refl _ _).alloc (Nat.le_refl _) _).alloc (by simp) _).alloc (by simp; omega) _⟩
  by_cases hx0 : x = 0
  · have hn := hx.zero.2 hx0
    subst hn
    clear hx hy
    go_enter Try.func82, Try.ntmps82
    go_wp2
    refine bodyPost_ret (v := .agg #[.bool false, .slice none 0 0]) (by simp [results, Try.results82, go_sem]) rfl ?_
    exact HP _ _ _
  · have hm := hy.zero.2 (by omega)
    subst hm
    have hn0 : ((n : Int) == 0) = false := beq_eq_false_iff_ne.2 (by intro h; exact hx0 (hx.zero.1 (by omega)))
    clear hx hy
    go_enter Try.func82, Try.ntmps82
    go_wp2
    refine bodyPost_ret (v := .agg #[.bool false, .slice none 0 0]) (by simp [results, Try.results82, go_sem]) rfl ?_
    exact HP _ _ _
theorem mul_any (s t : Bool) (ao bo : Option Addr) (n m ca cb k : Nat) (xs ys : List Int) (x y : Int) (w : World) (hx : IsNum w s ao n ca xs x k) (hy : IsNum w t bo m cb ys y k) (hk : k ≤ 100000) :
    Calls Try.prog 82 #[.agg #[.bool s, .slice ao n ca], .agg #[.bool t, .slice bo m cb]] w (NumP (k + k) (x * y) w) := by
  by_cases hx0 : x = 0
  · exact mul_none s t ao bo n m ca cb k xs ys x y w hx hy (Or.inl hx0)
  · by_cases hy0 : y = 0
    · exact mul_none s t ao bo n m ca cb k xs ys x y w hx hy (Or.inr hy0)
    · exact mul_some s t ao bo n m ca cb k xs ys x y w hx hy hk hx0 hy0
end Go.Proofs.Ytnnojeggjnddpaa

/- The quotient bit by bit: the reckoning. -/
namespace Go.Proofs.Ytnnojeggjnddpaa
open Go.RowKit
end Go.Proofs.Ytnnojeggjnddpaa

/- The difference of digits and the trimming once more, with where their answers lie. -/
namespace Go.Proofs.Ytnnojeggjnddpaa
open Go.RowKit
end Go.Proofs.Ytnnojeggjnddpaa

/- The walk of the model's quotient and rest of digits, bit by bit. -/
namespace Go.Proofs.Ytnnojeggjnddpaa
open Go.RowKit
/-- What lies in memory between the rounds. -/
structure DvM (W wr : World) (g : Nat) (qs : List Int) (ro : Option Addr) (rn rc : Nat) (rs : List Int) (n : Nat) : Prop where
  below : Below W.heap.size W wr
  q : Blk wr g (qs.map (Value.int .u32))
  rlen : rs.length = rn
  rcap : rn ≤ rc
  rle : rn ≤ n
  rnrm : Nrm rs
  rrd : Rd wr ro rs
  rne : ∀ b off, ro = some ⟨b, off, none⟩ → rs ≠ [] → b ≠ g
theorem DvM.step {W wr wr' : World} {g : Nat} {qs : List Int} {ro : Option Addr} {rn rc : Nat} {rs : List Int} {n : Nat} (h : DvM W wr g qs ro rn rc rs n) (hB : Below wr.heap.size wr wr') : DvM W wr' g qs ro rn rc rs n :=
  ⟨h.below.trans (hB.mono h.below.size), h.q.step hB, h.rlen, h.rcap, h.rle, h.rnrm, h.rrd.below hB (Nat.le_refl _), h.rne⟩
end Go.Proofs.Ytnnojeggjnddpaa

/- The walk of the model's greatest common divisor. -/
namespace Go.Proofs.Ytnnojeggjnddpaa
open Go.RowKit
end Go.Proofs.Ytnnojeggjnddpaa

/- The walk of the model's common divisor of two numbers of four words. -/
namespace Go.Proofs.Ytnnojeggjnddpaa
open Go.RowKit
end Go.Proofs.Ytnnojeggjnddpaa

/- Fractions: whether one is right. -/
namespace Go.Proofs.Ytnnojeggjnddpaa
open Go.RowKit
/-- Two numbers as they lie in memory, side by side. -/
def TwoNP (x y : Int) (w : World) (e : Ending) (w' : World) : Prop :=
  ∃ (s : Bool) (ao : Option Addr) (n cap : Nat) (ds : List Int) (t : Bool) (bo : Option Addr) (m c : Nat) (es : List Int), e = .returned (.agg #[.bool s, .slice ao n cap, .bool t, .slice bo m c]) ∧ IsNum w' s ao n cap ds x 8 ∧ IsNum w' t bo m c es y 8 ∧ Below w.heap.size w w'
theorem IsNum.set {w : World} {s : Bool} {ao : Option Addr} {n cap : Nat} {ds : List Int} {z : Int} {k : Nat} (h : IsNum w s ao n cap ds z k) {p : Addr} {v : Value} (h0 : w.cell? p = some v) (hv : ∀ i, v ≠ .int .u32 i) (u : Value) : IsNum (w.setCell p u) s ao n cap ds z k :=
  ⟨h.neg, h.len, h.cap, h.rd.set u h0 hv, h.nrm, h.val, h.le⟩
theorem TwoNP.drew {x y : Int} {w w' : World} {e : Ending} (h : TwoNP x y w e w') : TwoNP x y w e w'.drew := by
  obtain ⟨s, ao, n, cap, ds, t, bo, m, c, es, he, N1, N2, hB⟩ := h
  exact ⟨s, ao, n, cap, ds, t, bo, m, c, es, he, ⟨N1.neg, N1.len, N1.cap, N1.rd, N1.nrm, N1.val, N1.le⟩, ⟨N2.neg, N2.len, N2.cap, N2.rd, N2.nrm, N2.val, N2.le⟩, hB.drew⟩
end Go.Proofs.Ytnnojeggjnddpaa

/- Fractions in their order: the program's walks. -/
namespace Go.Proofs.Ytnnojeggjnddpaa
open Go.RowKit
end Go.Proofs.Ytnnojeggjnddpaa

/- The quotient and the rest of numbers with signs: the reckoning. -/
namespace Go.Proofs.Ytnnojeggjnddpaa
open Go.RowKit
end Go.Proofs.Ytnnojeggjnddpaa

/- Quotients with their signs: the reckoning, and the walks of the pieces. -/
namespace Go.Proofs.Ytnnojeggjnddpaa
open Go.RowKit
/-- The number with its sign turned where b holds. -/
theorem signedL_any (x0 x1 x2 x3 x4 x5 x6 x7 : Int) (b : Bool) (wx : Words [x0, x1, x2, x3, x4, x5, x6, x7]) (hv : val64 [x0, x1, x2, x3, x4, x5, x6, x7] < 6703903964971298549787012499102923063739682910296196688861780721860882015036773488400937149083451713845015929093243025426876941405973284973216824503042048) (w : World) : Calls Try.prog 53 #[L8 x0 x1 x2 x3 x4 x5 x6 x7, .bool b] w (TimesP (if b then -val64 [x0, x1, x2, x3, x4, x5, x6, x7] else val64 [x0, x1, x2, x3, x4, x5, x6, x7]) w) := by
  refine (signed_any x0 x1 x2 x3 x4 x5 x6 x7 b wx w).mono ?_
  rintro e w1 ⟨z0, z1, z2, z3, z4, z5, z6, z7, rfl, wz, ⟨c, c0, c1, hz⟩, hB⟩
  refine ⟨z0, z1, z2, z3, z4, z5, z6, z7, rfl, wz, ?_, hB⟩
  obtain ⟨t1, t2, t3⟩ := sl_top wz
  have v0 := val64_nonneg wx
  unfold sl
  generalize val64 [z0, z1, z2, z3, z4, z5, z6, z7] = Z at *
  generalize val64 [x0, x1, x2, x3, x4, x5, x6, x7] = X at *
  simp only [t1]
  clear t1
  cases b
  · simp only [Bool.false_eq_true, if_false] at hz ⊢
    rw [if_pos (by omega)]
    omega
  · simp only [if_true] at hz ⊢
    obtain rfl | rfl : c = 0 ∨ c = 1 := by omega
    · rw [if_pos (by omega)]; omega
    · rw [if_neg (by omega)]; omega
/-- What is told, its words known ahead. -/
def tellV (z : Int) : Value := if told z then .tuple #[W4 z, .bool true] else .tuple #[W4 0, .bool false]
theorem tellWide_det (x0 x1 x2 x3 x4 x5 x6 x7 : Int) (wx : Words [x0, x1, x2, x3, x4, x5, x6, x7]) (z : Int) (hz : sl x0 x1 x2 x3 x4 x5 x6 x7 = z) (w : World) : Calls Try.prog 52 #[L8 x0 x1 x2 x3 x4 x5 x6 x7] w (VP (tellV z) w) := by
  refine (tellWide_any x0 x1 x2 x3 x4 x5 x6 x7 wx w).mono ?_
  rw [hz]
  rintro e w' ⟨hB, ⟨ht, a3, a2, a1, a0, rfl, g3, g2, g1, g0, hs⟩ | ⟨ht, rfl⟩⟩
  · obtain ⟨rfl, rfl, rfl, rfl⟩ := wd_of g3 g2 g1 g0 hs
    exact ⟨by unfold tellV; rw [ht]; rfl, hB⟩
  · exact ⟨by unfold tellV; rw [ht]; rfl, hB⟩
end Go.Proofs.Ytnnojeggjnddpaa

/- A number read from its text: the program's. -/
namespace Go.Proofs.Ytnnojeggjnddpaa
open Go.RowKit
/-- What is told of a text. -/
noncomputable def rdV (l : List Nat) : Value := @ite _ (RdOk l) (Classical.propDecidable _) (tellV (rdI l)) (.tuple #[W4 0, .bool false])
theorem rdV_yes {l : List Nat} (h : RdOk l) : rdV l = tellV (rdI l) := by unfold rdV; rw [if_pos h]
theorem rdV_no {l : List Nat} (h : ¬ RdOk l) : rdV l = .tuple #[W4 0, .bool false] := by unfold rdV; rw [if_neg h]
/-- While digits are read. -/
structure RwI (w wr : World) (g : Nat) (zs : List Int) (n : Nat) : Prop where
  below : Below w.heap.size w wr
  br : Blk wr w.heap.size [.int .u64 0, .int .u64 0, .int .u64 0, .int .u64 0]
  bs : Blk wr g (zs.map (Value.int .u64))
  zl : zs.length = 4
  zw : Words zs
  gl : w.heap.size < g
  eq : val64 zs = (n : Int)
theorem RwI.drew {w wr : World} {g : Nat} {zs : List Int} {n : Nat} (h : RwI w wr g zs n) : RwI w wr.drew g zs n := ⟨h.below.drew, h.br, h.bs, h.zl, h.zw, h.gl, h.eq⟩
theorem RwI.next {w wr w1 : World} {g : Nat} {zs ys : List Int} {n m : Nat} (h : RwI w wr g zs n) (hB : Below wr.heap.size wr w1) {y0 y1 y2 y3 : Int} (hy : ys = [y0, y1, y2, y3]) (yw : Words ys) (yv : val64 ys = (m : Int)) :
    RwI w ((((w1.setCell ⟨g, 0, none⟩ (.int .u64 y0)).setCell ⟨g, 1, none⟩ (.int .u64 y1)).setCell ⟨g, 2, none⟩ (.int .u64 y2)).setCell ⟨g, 3, none⟩ (.int .u64 y3)) g ys m := by
  have hgl := h.gl
  have B1 := h.below.trans (hB.mono h.below.size)
  have BS := h.bs.step hB
  obtain ⟨z0, z1, z2, z3, hz⟩ := list4 h.zl
  rw [hz] at BS
  refine ⟨tell_below B1 (by omega), (h.br.step hB).set4 (by omega), ?_, by rw [hy]; rfl, yw, hgl, yv⟩
  rw [hy]
  exact Blk.stored4g BS _ _ _ _
theorem tellV_form (z : Int) : ∃ y3 y2 y1 y0 b, tellV z = .tuple #[.agg #[.int .u64 y3, .int .u64 y2, .int .u64 y1, .int .u64 y0], .bool b] := by
  unfold tellV
  split <;> exact ⟨_, _, _, _, _, rfl⟩
set_option maxRecDepth 100000 in
set_option maxHeartbeats 2000000 in
theorem implRead_any (s : ByteArray) (hm : s.size ≤ 9223372036854775807) (w : World) : Calls Try.prog 16 #[.string s] w (VP (rdV (btL s)) w) := by
  have CC := cutPre_any s hm _ rfl
  obtain ⟨u, hu⟩ : ∃ u, u = strL (cutM (btL s)) := ⟨_, rfl⟩
  have hul : btL u = cutM (btL s) := by
    rw [hu]
    refine btL_strL fun b hb => btL_lt s b ?_
    unfold cutM at hb
    split at hb
    · exact List.mem_of_mem_tail hb
    · exact hb
  have hus : u.size ≤ 9223372036854775807 := by
    rw [← btL_len, hul]
    have h2 := btL_len s
    unfold cutM
    split
    · rw [List.length_tail]; omega
    · omega
  have CD := fun b hb => isDecimal_any u hus b hb
  rw [← hu] at CC
  have HU : Hid (btL u = cutM (btL s)) := hul
  have HB0 : Hid (Below w.heap.size w (w.alloc (Obj.cells #[.int .u64 0, .int .u64 0, .int .u64 0, .int .u64 0] 26))) := (Below.refl _ _).alloc (Nat.le_refl _) _
  have BR0 : Hid (Blk (w.alloc (Obj.cells #[.int .u64 0, .int .u64 0, .int .u64 0, .int .u64 0] 26)) w.heap.size [.int .u64 0, .int .u64 0, .int .u64 0, .int .u64 0]) := Blk.new w [.int .u64 0, .int .u64 0, .int .u64 0, .int .u64 0] _ rfl
  clear hul hu hm
  by_cases hok : RdOk (btL s)
  · obtain ⟨h1, h2, h3⟩ := hok
    have HR : Hid (rdV (btL s) = tellV (rdI (btL s))) := rdV_yes ⟨h1, h2, h3⟩
    have CD1 := CD true (by rw [HU.out]; exact ⟨fun _ => h1, fun _ => rfl⟩)
    have hl77 : u.size ≤ 77 := by rw [← btL_len, HU.out]; exact h2
    have hl77' : ¬ ((77 : Int) < u.size) := by omega
    obtain ⟨b, hb⟩ : ∃ b, b = decide ((btL s).head? = some 45) := ⟨_, rfl⟩
    rw [← hb] at CC
    have e1 : (b && (u.toList == [48])) = false := by
      cases b
      · rfl
      · simp only [Bool.true_and]
        refine beq_eq_false_iff_ne.2 fun h => h3 ⟨of_decide_eq_true hb.symm, ?_⟩
        rw [← HU.out]
        exact (tl_one 48).1 h
    have HD : Hid (DecL (cutM (btL s))) := h1
    have HBB : Hid (b = decide ((btL s).head? = some 45)) := hb
    clear h1 h2 h3 CD hb
    go_enter Try.func16, Try.ntmps16
    go_wp2_with fail
    generalize (w.alloc (Obj.cells #[.int .u64 0, .int .u64 0, .int .u64 0, .int .u64 0] 26)) = W0 at *
    refine (CC _).mono ?_
    rintro e w1 ⟨rfl, hB⟩
    have BR1 := BR0.out.step hB
    have HB1 := HB0.out.trans (hB.mono HB0.out.size)
    clear BR0 HB0 hB CC
    go_upto_region 2 with fail
    go_cut [28] (fun p wx => p = .bool false ∧ Blk wx w.heap.size [.int .u64 0, .int .u64 0, .int .u64 0, .int .u64 0] ∧ Below w.heap.size w wx)
    case first =>
      cases b
      · go_wp2_with fail
        refine (CD1 _).mono ?_
        rintro e w2 ⟨rfl, hB⟩
        have BR2 := BR1.step hB
        have HB2 := HB1.trans (hB.mono HB1.size)
        clear BR1 HB1 hB CD1
        go_wp2
        go_meet
        exact ⟨congrArg Value.bool (decide_eq_false (by omega)), BR2, HB2⟩
      · simp only [Bool.true_and] at e1
        go_wp2_with fail
        refine (CD1 _).mono ?_
        rintro e w2 ⟨rfl, hB⟩
        have BR2 := BR1.step hB
        have HB2 := HB1.trans (hB.mono HB1.size)
        clear BR1 HB1 hB CD1
        go_wp2
        go_meet
        exact ⟨congrArg Value.bool (decide_eq_false (by omega)), BR2, HB2⟩
    case rest =>
      clear BR1 HB1 CD1 e1
      obtain ⟨hp, BR2, HB2⟩ := hcut
      subst hp
      have HI0 : Hid (RwI w (wc.alloc (Obj.cells #[.int .u64 0, .int .u64 0, .int .u64 0, .int .u64 0] 70)) wc.heap.size [0, 0, 0, 0] 0) :=
        ⟨HB2.alloc HB2.size _, BR2.alloc _, Blk.new _ [.int .u64 0, .int .u64 0, .int .u64 0, .int .u64 0] _ rfl, rfl, words4 wd0 wd0 wd0 wd0, BR2.lt, rfl⟩
      clear BR2 HB2
      rename_i hk
      refine hk _ _ ?_
      go_wp2
      generalize (wc.alloc (Obj.cells #[.int .u64 0, .int .u64 0, .int .u64 0, .int .u64 0] 70)) = W1 at *
      generalize wc.heap.size = g at *
      go_loopw [32] (fun i wr => ∃ (c : Nat) (zs : List Int), c ≤ u.size ∧ i = .int .i64 c ∧ RwI w wr g zs (rdN ((btL u).take c))) (fun i _ => u.size - (intOf i).toNat)
      case atStart => exact ⟨0, _, Nat.zero_le _, rfl, HI0.out⟩
      case round =>
        clear HI0
        obtain ⟨c, zs, hc, rfl, hI⟩ := hrel
        have zl := hI.zl
        have zw := hI.zw
        have hgl := hI.gl
        obtain ⟨y0, y1, y2, y3, hy⟩ := list4 zl
        have BS := hI.bs
        rw [hy] at BS
        obtain ⟨c0, f0, c1, f1, c2, f2, c3, f3⟩ := BS.cf4
        have slt := BS.lt
        have HII : Hid (RwI w wr g zs (rdN ((btL u).take c))) := hI
        by_cases hcs : c < u.size
        · have hbt := bt_at hcs
          have hlt := bt_lt u c
          have hcI : (c : Int) < u.size := by omega
          have hdl : ∀ b ∈ btL u, isD b := by rw [HU.out]; exact HD.out.2.2
          have hcl : c < (btL u).length := by rw [btL_len]; exact hcs
          obtain ⟨hd1, hd2⟩ : isD (bt u c) := by rw [← btL_get hcl]; exact hdl _ (List.getElem_mem hcl)
          obtain ⟨d, hd⟩ : ∃ d, d = bt u c - 48 := ⟨_, rfl⟩
          have hdI : (bt u c : Int) - 48 = d := by omega
          have hnx : Hid (10 * rdN ((btL u).take c) + d = rdN ((btL u).take (c + 1))) := by show _ = _; rw [rdN_take _ _ hcl, btL_get hcl, hd]
          have hn2 : rdN ((btL u).take (c + 1)) < 10 ^ 77 := by
            have h5 := rdN_lt ((btL u).take (c + 1)) (fun b hb => hdl b (List.mem_of_mem_take hb))
            have h6 : 10 ^ ((btL u).take (c + 1)).length ≤ 10 ^ 77 := Nat.pow_le_pow_right (by omega) (by rw [List.length_take]; omega)
            omega
          have CT0 := tenfold_any zs d zl zw (by omega) (by omega) (by rw [hI.eq]; have := hnx.out; omega)
          have CT : ∀ w, Calls Try.prog 51 #[.agg #[.int .u64 y0, .int .u64 y1, .int .u64 y2, .int .u64 y3], .int .u64 d] w (AggP 4 ((rdN ((btL u).take (c + 1)) : Nat) : Int) w) := by
            intro w
            have := CT0 w
            rw [hI.eq, show 10 * ((rdN ((btL u).take c) : Nat) : Int) + (d : Int) = ((rdN ((btL u).take (c + 1)) : Nat) : Int) by have := hnx.out; omega, show agg zs = .agg #[.int .u64 y0, .int .u64 y1, .int .u64 y2, .int .u64 y3] by rw [hy]; rfl] at this
            exact this
          have hd9 : (d : Int) < 10 := by omega
          have hw1 : IntKind.u8.wrap (d : Int) = d := by rw [IntKind.wrap_u8]; omega
          have hw2 : IntKind.u64.wrap (d : Int) = d := wrap_word (by omega) (by omega)
          have BS0 : Hid (Blk wr.drew g [.int .u64 y0, .int .u64 y1, .int .u64 y2, .int .u64 y3]) := BS.drew
          have HJJ : Hid (RwI w wr.drew g zs (rdN ((btL u).take c))) := hI.drew
          clear hI hy CT0 hn2 hdl hd BS HII
          go_wp2
          go_region_with (go_at_call 51; refine (CT _).mono ?_; rintro e w4 ⟨xs, rfl, xl, xw, xv, hB⟩; obtain ⟨s0, s1, s2, s3, hs⟩ := list4 xl; have N1 : Hid (RwI w ((((w4.setCell ⟨g, 0, none⟩ (.int .u64 s0)).setCell ⟨g, 1, none⟩ (.int .u64 s1)).setCell ⟨g, 2, none⟩ (.int .u64 s2)).setCell ⟨g, 3, none⟩ (.int .u64 s3)) g xs (rdN ((btL u).take (c + 1)))) := HJJ.out.next hB hs xw xv; have SA : agg xs = .agg #[.int .u64 s0, .int .u64 s1, .int .u64 s2, .int .u64 s3] := (by rw [hs]; rfl); rw [SA]; obtain ⟨k0, l0, k1, l1, k2, l2, k3, l3⟩ := (show Blk w4 g [.int .u64 y0, .int .u64 y1, .int .u64 y2, .int .u64 y3] from BS0.out.step hB).cf4; have l4 := (show Blk w4 g [.int .u64 y0, .int .u64 y1, .int .u64 y2, .int .u64 y3] from BS0.out.step hB).lt; clear hB hs SA xv xw xl)
          all_goals
            go_wp2
            go_roundw
            case rel => exact ⟨c + 1, _, by omega, by go_num, N1.out⟩
            case measure => simp [intOf]; omega
        · obtain rfl : c = u.size := by omega
          have hv := hI.eq
          rw [← btL_len, List.take_length] at hv
          have h5 : rdN (btL u) < 10 ^ 77 := by
            have h5 := rdN_lt (btL u) (by rw [HU.out]; exact HD.out.2.2)
            have h6 : 10 ^ (btL u).length ≤ 10 ^ 77 := Nat.pow_le_pow_right (by omega) (by rw [btL_len]; omega)
            omega
          obtain ⟨g0, g1, g2, g3⟩ := words4_of (by rw [← hy]; exact zw)
          have hw8 : Words [y0, y1, y2, y3, 0, 0, 0, 0] := words_cons.2 ⟨g0, words_cons.2 ⟨g1, words_cons.2 ⟨g2, words_cons.2 ⟨g3, words4 wd0 wd0 wd0 wd0⟩⟩⟩⟩
          have hv8 : val64 [y0, y1, y2, y3, 0, 0, 0, 0] = (rdN (btL u) : Int) := by
            rw [← hv, hy]
            simp only [val64]
            omega
          have CS := signedL_any y0 y1 y2 y3 0 0 0 0 b hw8 (by rw [hv8]; omega)
          have ez : (if b = true then -val64 [y0, y1, y2, y3, 0, 0, 0, 0] else val64 [y0, y1, y2, y3, 0, 0, 0, 0]) = rdI (btL s) := by
            rw [hv8, HU.out, HBB.out]
            unfold rdI
            by_cases h : (btL s).head? = some 45
            · rw [if_pos h, if_pos (decide_eq_true h)]
            · rw [if_neg h, if_neg (by simpa using h)]
          rw [ez] at CS
          have BR := hI.br
          have HB := hI.below
          have BR1 := BR.alloc (Obj.cells #[.int .u64 y0, .int .u64 y1, .int .u64 y2, .int .u64 y3, .int .u64 0, .int .u64 0, .int .u64 0, .int .u64 0] 82)
          have HB1 := HB.alloc HB.size (Obj.cells #[.int .u64 y0, .int .u64 y1, .int .u64 y2, .int .u64 y3, .int .u64 0, .int .u64 0, .int .u64 0, .int .u64 0] 82)
          have BR2 : Hid (Blk (wr.alloc (Obj.cells #[.int .u64 y0, .int .u64 y1, .int .u64 y2, .int .u64 y3, .int .u64 0, .int .u64 0, .int .u64 0, .int .u64 0] 82)) w.heap.size [.int .u64 0, .int .u64 0, .int .u64 0, .int .u64 0]) := BR1
          have HB2 : Hid (Below w.heap.size w (wr.alloc (Obj.cells #[.int .u64 y0, .int .u64 y1, .int .u64 y2, .int .u64 y3, .int .u64 0, .int .u64 0, .int .u64 0, .int .u64 0] 82))) := HB1
          clear hI hv BR HB BR1 HB1 hy BS hv8 ez h5
          go_wp2_with fail
          generalize (wr.alloc (Obj.cells #[.int .u64 y0, .int .u64 y1, .int .u64 y2, .int .u64 y3, .int .u64 0, .int .u64 0, .int .u64 0, .int .u64 0] 82)) = W5 at *
          refine (CS _).mono ?_
          rintro e w6 ⟨q0, q1, q2, q3, q4, q5, q6, q7, rfl, qw, qz, hB⟩
          have BR6 := BR2.out.step hB
          have HB6 := HB2.out.trans (hB.mono HB2.out.size)
          clear BR2 HB2 hB CS c0 c1 c2 c3 f0 f1 f2 f3
          have CT := tellWide_det q0 q1 q2 q3 q4 q5 q6 q7 qw _ qz
          obtain ⟨t3, t2, t1, t0, tb, ht⟩ := tellV_form (rdI (btL s))
          have HT : Hid (tellV (rdI (btL s)) = .tuple #[.agg #[.int .u64 t3, .int .u64 t2, .int .u64 t1, .int .u64 t0], .bool tb]) := ht
          rw [ht] at CT
          go_wp2_with fail
          refine (CT _).mono ?_
          rintro e w7 ⟨rfl, hB⟩
          have BR7 := BR6.step hB
          have HB7 := HB6.trans (hB.mono HB6.size)
          clear BR6 HB6 hB CT ht
          obtain ⟨d0, e0, d1, e1, d2, e2, d3, e3⟩ := BR7.cf4
          have dl := BR7.lt
          go_wp2
          refine bodyPost_ret (v := .tuple #[.agg #[.int .u64 t3, .int .u64 t2, .int .u64 t1, .int .u64 t0], .bool tb]) (by simp [results, Try.results16, go_sem, d0, d1, d2, d3]) rfl ?_
          exact ⟨by rw [HR.out, HT.out], tell_below HB7 (Nat.le_refl _)⟩
  · have HR : Hid (rdV (btL s) = .tuple #[W4 0, .bool false]) := rdV_no hok
    obtain ⟨b, hb⟩ : ∃ b, b = decide ((btL s).head? = some 45) := ⟨_, rfl⟩
    rw [← hb] at CC
    by_cases h1 : DecL (cutM (btL s))
    · have CD1 := CD true (by rw [HU.out]; exact ⟨fun _ => h1, fun _ => rfl⟩)
      by_cases h2 : u.size ≤ 77
      · have h3 : (btL s).head? = some 45 ∧ cutM (btL s) = [48] := Classical.byContradiction fun h3 => hok ⟨h1, by rw [← HU.out, btL_len]; exact h2, h3⟩
        obtain rfl : b = true := by rw [hb]; exact decide_eq_true h3.1
        have e1 : (u.toList == [48]) = true := beq_iff_eq.2 ((tl_one 48).2 (by rw [HU.out]; exact h3.2))
        have e2 : ¬ ((77 : Int) < u.size) := by omega
        clear hok h1 h3 hb CD
        go_enter Try.func16, Try.ntmps16
        go_wp2_with fail
        generalize (w.alloc (Obj.cells #[.int .u64 0, .int .u64 0, .int .u64 0, .int .u64 0] 26)) = W0 at *
        refine (CC _).mono ?_
        rintro e w1 ⟨rfl, hB⟩
        have BR1 := BR0.out.step hB
        have HB1 := HB0.out.trans (hB.mono HB0.out.size)
        clear BR0 HB0 hB CC
        go_wp2_with fail
        refine (CD1 _).mono ?_
        rintro e w2 ⟨rfl, hB⟩
        have BR2 := BR1.step hB
        have HB2 := HB1.trans (hB.mono HB1.size)
        clear BR1 HB1 hB CD1
        obtain ⟨d0, e0, d1, e1, d2, e2, d3, e3⟩ := BR2.cf4
        have dl := BR2.lt
        go_wp2
        refine bodyPost_ret (v := .tuple #[.agg #[.int .u64 0, .int .u64 0, .int .u64 0, .int .u64 0], .bool false]) (by simp [results, Try.results16, go_sem, d0, d1, d2, d3]) rfl ?_
        exact ⟨by rw [HR.out]; rfl, tell_below HB2 (Nat.le_refl _)⟩
      · have e2 : (77 : Int) < u.size := by omega
        clear hok h1 hb CD
        go_enter Try.func16, Try.ntmps16
        go_wp2_with fail
        generalize (w.alloc (Obj.cells #[.int .u64 0, .int .u64 0, .int .u64 0, .int .u64 0] 26)) = W0 at *
        refine (CC _).mono ?_
        rintro e w1 ⟨rfl, hB⟩
        have BR1 := BR0.out.step hB
        have HB1 := HB0.out.trans (hB.mono HB0.out.size)
        clear BR0 HB0 hB CC
        go_wp2_with fail
        refine (CD1 _).mono ?_
        rintro e w2 ⟨rfl, hB⟩
        have BR2 := BR1.step hB
        have HB2 := HB1.trans (hB.mono HB1.size)
        clear BR1 HB1 hB CD1
        obtain ⟨d0, e0, d1, e1, d2, e2, d3, e3⟩ := BR2.cf4
        have dl := BR2.lt
        go_wp2
        refine bodyPost_ret (v := .tuple #[.agg #[.int .u64 0, .int .u64 0, .int .u64 0, .int .u64 0], .bool false]) (by simp [results, Try.results16, go_sem, d0, d1, d2, d3]) rfl ?_
        exact ⟨by rw [HR.out]; rfl, tell_below HB2 (Nat.le_refl _)⟩
    · have CD1 := CD false (by rw [HU.out]; exact ⟨fun h => Bool.noConfusion h, fun h => absurd h h1⟩)
      clear hok h1 hb CD
      go_enter Try.func16, Try.ntmps16
      go_wp2_with fail
      generalize (w.alloc (Obj.cells #[.int .u64 0, .int .u64 0, .int .u64 0, .int .u64 0] 26)) = W0 at *
      refine (CC _).mono ?_
      rintro e w1 ⟨rfl, hB⟩
      have BR1 := BR0.out.step hB
      have HB1 := HB0.out.trans (hB.mono HB0.out.size)
      clear BR0 HB0 hB CC
      go_wp2_with fail
      refine (CD1 _).mono ?_
      rintro e w2 ⟨rfl, hB⟩
      have BR2 := BR1.step hB
      have HB2 := HB1.trans (hB.mono HB1.size)
      clear BR1 HB1 hB CD1
      obtain ⟨d0, e0, d1, e1, d2, e2, d3, e3⟩ := BR2.cf4
      have dl := BR2.lt
      go_wp2
      refine bodyPost_ret (v := .tuple #[.agg #[.int .u64 0, .int .u64 0, .int .u64 0, .int .u64 0], .bool false]) (by simp [results, Try.results16, go_sem, d0, d1, d2, d3]) rfl ?_
      exact ⟨by rw [HR.out]; rfl, tell_below HB2 (Nat.le_refl _)⟩
end Go.Proofs.Ytnnojeggjnddpaa

/- The walk of the model's quotient and rest of numbers with signs. -/
namespace Go.Proofs.Ytnnojeggjnddpaa
open Go.RowKit
theorem num_put {w : World} {s : Bool} {ao : Option Addr} {n cap : Nat} {ds : List Int} {z : Int} {k R : Nat} {p : Bool} {q : Option Addr} {q1 q2 : Nat} (h : IsNum w s ao n cap ds z k) (B : Blk w R [.bool p, .slice q q1 q2]) (u0 u1 : Value) : IsNum ((w.setCell ⟨R, 0, none⟩ u0).setCell ⟨R, 1, none⟩ u1) s ao n cap ds z k := by
  have h1 := h.rd.set u0 (B.c 0 rfl) (by intro x e; cases e)
  have B1 := B.setI 0 (by simp) u0
  have h2 := h1.set u1 (B1.c 1 rfl) (by intro x e; cases e)
  exact ⟨h.neg, h.len, h.cap, h2, h.nrm, h.val, h.le⟩
theorem num_more {w : World} {s : Bool} {ao : Option Addr} {n cap : Nat} {ds : List Int} {z : Int} {k k' : Nat} (h : IsNum w s ao n cap ds z k) (hk : k ≤ k') : IsNum w s ao n cap ds z k' := ⟨h.neg, h.len, h.cap, h.rd, h.nrm, h.val, Nat.le_trans h.le hk⟩
end Go.Proofs.Ytnnojeggjnddpaa

/- The program's quotient of two numbers of four words: what lies in memory around the division. -/
namespace Go.Proofs.Ytnnojeggjnddpaa
open Go.RowKit
end Go.Proofs.Ytnnojeggjnddpaa

/- The walk of the program's quotient and rest of two numbers of four words. -/
namespace Go.Proofs.Ytnnojeggjnddpaa
open Go.RowKit
theorem W40 : W4 0 = .agg #[.int .u64 0, .int .u64 0, .int .u64 0, .int .u64 0] := by simp [ww3, ww2, ww1, ww0]
end Go.Proofs.Ytnnojeggjnddpaa

/- Two numbers of digits laid behind the arguments; the model's tell of a number, its value known. -/
namespace Go.Proofs.Ytnnojeggjnddpaa
open Go.RowKit
theorem IsNum.step {w w' : World} {s : Bool} {ao : Option Addr} {n cap : Nat} {ds : List Int} {z : Int} {k : Nat} (h : IsNum w s ao n cap ds z k) (hb : Below w.heap.size w w') : IsNum w' s ao n cap ds z k := h.below hb
theorem IsNum.alloc {w : World} {s : Bool} {ao : Option Addr} {n cap : Nat} {ds : List Int} {z : Int} {k : Nat} (h : IsNum w s ao n cap ds z k) (o : Obj) : IsNum (w.alloc o) s ao n cap ds z k := h.below ((Below.refl _ _).alloc (Nat.le_refl _) o)
theorem ArgsB.set2 {w W : World} {vss : List (List Value)} (h : ArgsB w W vss) {g : Nat} (hg : w.heap.size + vss.length ≤ g) (v0 v1 : Value) : ArgsB w ((W.setCell ⟨g, 0, none⟩ v0).setCell ⟨g, 1, none⟩ v1) vss := (h.set (by exact hg) _).set (by exact hg) _
theorem Blk.set2 {W : World} {vs : List Value} {v0 v1 : Value} {g g' : Nat} (G : Blk W g' vs) (hg : g' ≠ g) : Blk ((W.setCell ⟨g, 0, none⟩ v0).setCell ⟨g, 1, none⟩ v1) g' vs := (G.setO (by exact hg) _).setO (by exact hg) _
theorem tellP_VP {z : Int} {w w' : World} {e : Ending} (h : TellP z w e w') : VP (tellV z) w e w' := by
  rcases h.2 with ⟨t, a3, a2, a1, a0, rfl, h3, h2, h1, h0, hz⟩ | ⟨t, rfl⟩
  · obtain ⟨rfl, rfl, rfl, rfl⟩ := wd_of h3 h2 h1 h0 hz
    exact ⟨by unfold tellV; rw [if_pos t], h.1⟩
  · exact ⟨by unfold tellV; rw [if_neg (by simp [t]), W40], h.1⟩
theorem toW_det (s : Bool) (ao : Option Addr) (n cap : Nat) (ds : List Int) (z : Int) (k : Nat) (w : World) (h : IsNum w s ao n cap ds z k) (hk : k ≤ 1000000) :
    Calls Try.prog 48 #[.agg #[.bool s, .slice ao n cap]] w (VP (tellV z) w) := (toW_any s ao n cap ds z k w h hk).mono fun _ _ => tellP_VP
end Go.Proofs.Ytnnojeggjnddpaa

/- A number read from its text: the model's. -/
namespace Go.Proofs.Ytnnojeggjnddpaa
open Go.RowKit
/-- While the model reads digits: the number lies in a block of its own. -/
structure MrI (w wr : World) (g : Nat) (s : Bool) (o : Option Addr) (n c : Nat) (ds : List Int) (v : Nat) : Prop where
  below : Below w.heap.size w wr
  br : Blk wr w.heap.size [.bool false, .slice none 0 0]
  bs : Blk wr g [.bool s, .slice o n c]
  num : IsNum wr s o n c ds (v : Int) 9
  gl : w.heap.size < g
theorem MrI.drew {w wr : World} {g : Nat} {s : Bool} {o : Option Addr} {n c : Nat} {ds : List Int} {v : Nat} (h : MrI w wr g s o n c ds v) : MrI w wr.drew g s o n c ds v := ⟨h.below.drew, h.br, h.bs, h.num.drew, h.gl⟩
theorem MrI.step {w wr w1 : World} {g : Nat} {s : Bool} {o : Option Addr} {n c : Nat} {ds : List Int} {v : Nat} (h : MrI w wr g s o n c ds v) (hB : Below wr.heap.size wr w1) : MrI w w1 g s o n c ds v :=
  ⟨h.below.trans (hB.mono h.below.size), h.br.step hB, h.bs.step hB, h.num.step hB, h.gl⟩
theorem MrI.next {w wr : World} {g : Nat} {s : Bool} {o : Option Addr} {n c : Nat} {ds : List Int} {v : Nat} (h : MrI w wr g s o n c ds v) {s' : Bool} {o' : Option Addr} {n' c' : Nat} {ds' : List Int} {v' k : Nat} (hN : IsNum wr s' o' n' c' ds' (v' : Int) k) (hv : (v' : Int) < pw 9) :
    MrI w ((wr.setCell ⟨g, 0, none⟩ (.bool s')).setCell ⟨g, 1, none⟩ (.slice o' n' c')) g s' o' n' c' ds' v' := by
  have hgl := h.gl
  refine ⟨(h.below.setCell (p := ⟨g, 0, none⟩) (by show w.heap.size ≤ g; omega) _).setCell (p := ⟨g, 1, none⟩) (by show w.heap.size ≤ g; omega) _, h.br.set2 (by omega), (h.bs.setI 0 (by simp) _).setI 1 (by simp) _, ?_, hgl⟩
  exact num_put (hN.tight 9 (by simpa using hv)) h.bs _ _
/-- What the model tells of a text. -/
def RdP (l : List Nat) (w : World) (e : Ending) (w' : World) : Prop :=
  (RdOk l ∧ (∃ (s : Bool) (o : Option Addr) (n c : Nat) (ds : List Int), e = .returned (.tuple #[.agg #[.bool s, .slice o n c], .bool true]) ∧ IsNum w' s o n c ds (rdI l) 9) ∧ Below w.heap.size w w') ∨ (¬ RdOk l ∧ e = .returned (.tuple #[.agg #[.bool false, .slice none 0 0], .bool false]) ∧ Below w.heap.size w w')
set_option maxRecDepth 100000 in
set_option maxHeartbeats 2000000 in
theorem l1Read_any (s : ByteArray) (hm : s.size ≤ 9223372036854775807) (w : World) : Calls Try.prog 47 #[.string s, .int .i64 77] w (RdP (btL s) w) := by
  obtain ⟨u, hu⟩ : ∃ u, u = strL (cutM (btL s)) := ⟨_, rfl⟩
  have hul : btL u = cutM (btL s) := by rw [hu]; exact btL_strL (cutM_lt (btL_lt s))
  have hus : u.size ≤ 9223372036854775807 := by
    rw [← btL_len, hul]
    have h2 := btL_len s
    have h3 := cutM_len (btL s)
    omega
  obtain ⟨b, hb⟩ : ∃ b, b = decide ((btL s).head? = some 45) := ⟨_, rfl⟩
  have HU : Hid (btL u = cutM (btL s)) := hul
  have HS : Hid (u = strL (cutM (btL s))) := hu
  have HBB : Hid (b = decide ((btL s).head? = some 45)) := hb
  have HB0 : Hid (Below w.heap.size w (w.alloc (Obj.cells #[.bool false, .slice none 0 0] 66))) := (Below.refl _ _).alloc (Nat.le_refl _) _
  have BR0 : Hid (Blk (w.alloc (Obj.cells #[.bool false, .slice none 0 0] 66)) w.heap.size [.bool false, .slice none 0 0]) := Blk.new w [.bool false, .slice none 0 0] _ rfl
  clear hul hu hb
  go_enter Try.func47, Try.ntmps47
  go_upto_region 2 with fail
  generalize (w.alloc (Obj.cells #[.bool false, .slice none 0 0] 66)) = W0 at *
  go_cut [7] (fun p wx => p = .bool b ∧ wx = W0)
  case first =>
    by_cases hs : 0 < s.size
    · have hbt := bt_at hs
      have hlt := bt_lt s 0
      have hs1 : (0 : Int) < s.size := by omega
      have e1 : ((bt s 0 : Int) == 45) = b := by
        rw [HBB.out, btL_head hs, Bool.eq_iff_iff, beq_iff_eq, decide_eq_true_iff]
        simp only [Option.some.injEq]
        omega
      go_wp2
      go_meet
      exact ⟨rfl, rfl⟩
    · have hs1 : ¬ (0 : Int) < s.size := by omega
      have e1 : b = false := by
        rw [HBB.out, List.length_eq_zero_iff.1 (show (btL s).length = 0 by rw [btL_len]; omega)]
        rfl
      go_wp2
      go_meet
      exact ⟨by rw [e1], rfl⟩
  case rest =>
    obtain ⟨hp, hw⟩ := hcut
    have hw' := hw.symm
    subst hp hw'
    rename_i hk
    refine hk _ _ ?_
    clear hk hw
    go_upto_region 3 with fail
    go_cut [19] (fun p wx => p = .bool b ∧ wx = W0)
    case first =>
      go_wp2
      go_meet
      exact ⟨rfl, rfl⟩
    case rest =>
      obtain ⟨hp, hw⟩ := hcut
      have hw' := hw.symm
      subst hp hw'
      rename_i hk
      refine hk _ _ ?_
      clear hk hw
      go_cut [6] (fun p wx => p = .string u ∧ wx = W0)
      case first =>
        cases b
        · have h1 : ¬ (btL s).head? = some 45 := by simpa using HBB.out
          have e1 : Hid (u = s) := by show _ = _; rw [HS.out, cutM_pos h1, strL_btL]
          clear h1
          go_wp2
          go_meet
          exact ⟨by rw [e1.out], rfl⟩
        · have h1 : (btL s).head? = some 45 := by simpa using HBB.out
          have hs : 0 < s.size := by
            rw [← btL_len]
            cases hl : btL s with
            | nil => rw [hl] at h1; simp at h1
            | cons x t => simp
          have e1 : Hid (s.extract 1 s.size = u) := by show _ = _; rw [HS.out]; exact ex_tail h1
          have hs1 : (1 : Int) ≤ s.size := by omega
          clear h1
          go_wp2
          go_meet
          exact ⟨by rw [e1.out], rfl⟩
      case rest =>
        obtain ⟨hp, hw⟩ := hcut
        have hw' := hw.symm
        subst hp hw'
        clear hw
        go_upto_region 5 with fail
        by_cases hT : TestL (btL s)
        · obtain ⟨t1, t2, t3⟩ := hT
          have hT : TestL (btL s) := ⟨t1, t2, t3⟩
          rw [← HU.out] at t1 t2 t3
          rw [btL_len] at t2 t3
          have hu0 : 0 < u.size := by
            rw [← btL_len]
            exact List.length_pos_iff.2 t1
          rw [btL_head hu0] at t3
          have HT : Hid (TestL (btL s)) := hT
          have HT3 : Hid (¬ (some (bt u 0) = some 48 ∧ ((btL s).head? = some 45 ∨ 1 < u.size))) := t3
          clear t1 t3 hT
          have hbt := bt_at hu0
          have hlt := bt_lt u 0
          have i1 : ¬ ((u.size : Int) < 1) := by omega
          have i2 : ¬ ((77 : Int) < u.size) := by omega
          go_cut [43] (fun p wx => p = .bool false ∧ wx = W0)
          case first =>
            by_cases h48 : bt u 0 = 48
            · have hb0 : ((bt u 0 : Int) == 48) = true := by rw [h48]; rfl
              obtain rfl : b = false := by
                rw [HBB.out]
                exact decide_eq_false fun h => HT3.out ⟨by rw [h48], Or.inl h⟩
              have i3 : ¬ ((1 : Int) < u.size) := fun h => HT3.out ⟨by rw [h48], Or.inr (by omega)⟩
              clear h48
              go_wp2
              go_meet
              exact ⟨by first | rfl | (exact congrArg Value.bool (decide_eq_false i3)) | (exact congrArg Value.bool (decide_eq_false (by omega))), rfl⟩
            · have hb0 : ((bt u 0 : Int) == 48) = false := beq_eq_false_iff_ne.2 (by omega)
              clear h48
              go_wp2
              go_meet
              exact ⟨by first | rfl | (exact congrArg Value.bool (decide_eq_false (by omega))), rfl⟩
          case rest =>
            obtain ⟨hp, hw⟩ := hcut
            have hw' := hw.symm
            subst hp hw'
            clear hw hbt hlt i1 i2
            have HB := HB0.out
            have N0 : IsNum (W0.alloc (Obj.cells #[.bool false, .slice none 0 0] 66)) false none 0 0 [] ((0 : Nat) : Int) 9 := ⟨rfl, rfl, Nat.le_refl _, Rd.nil _ _, nrm_nil, rfl, by omega⟩
            have HI0 : Hid (MrI w (W0.alloc (Obj.cells #[.bool false, .slice none 0 0] 66)) W0.heap.size false none 0 0 [] 0) :=
              ⟨HB.alloc HB.size _, BR0.out.alloc _, Blk.new _ [.bool false, .slice none 0 0] _ rfl, N0, BR0.out.lt⟩
            clear N0 HB
            go_wp2
            generalize (W0.alloc (Obj.cells #[.bool false, .slice none 0 0] 66)) = W1 at *
            generalize W0.heap.size = g at *
            clear BR0 HB0
            go_loopw [9] (fun i wr => ∃ (c : Nat) (s' : Bool) (o : Option Addr) (n cp : Nat) (ds : List Int), c ≤ u.size ∧ i = .int .i64 c ∧ MrI w wr g s' o n cp ds (rdN ((btL u).take c)) ∧ ∀ j, j < c → isD (bt u j)) (fun i _ => u.size - (intOf i).toNat)
            case atStart => exact ⟨0, _, _, _, _, _, Nat.zero_le _, rfl, HI0.out, fun j hj => by omega⟩
            case round =>
              clear HI0
              obtain ⟨c, s', o, n, cp, ds, hc, rfl, hI, hD⟩ := hrel
              have HD : Hid (∀ j, j < c → isD (bt u j)) := hD
              have HII : Hid (MrI w wr g s' o n cp ds (rdN ((btL u).take c))) := hI
              have hgl := hI.gl
              clear hD
              by_cases hcs : c < u.size
              · have hbt := bt_at hcs
                have hlt := bt_lt u c
                have hcI : (c : Int) < u.size := by omega
                by_cases hd : isD (bt u c)
                · obtain ⟨hd1, hd2⟩ := hd
                  have hd3 : ¬ ((bt u c : Int) < 48) := by omega
                  have hd4 : ¬ ((57 : Int) < (bt u c : Int)) := by omega
                  obtain ⟨d, hd⟩ : ∃ d, d = bt u c - 48 := ⟨_, rfl⟩
                  have hdI : (bt u c : Int) - 48 = d := by omega
                  have hcl : c < (btL u).length := by rw [btL_len]; exact hcs
                  have hnx : Hid (10 * rdN ((btL u).take c) + d = rdN ((btL u).take (c + 1))) := by show _ = _; rw [rdN_take _ _ hcl, btL_get hcl, hd]
                  have hn2 : Hid (((rdN ((btL u).take (c + 1)) : Nat) : Int) < pw 9) := by
                    have hall : ∀ b ∈ (btL u).take (c + 1), isD b := by
                      intro b hb
                      obtain ⟨j, hj, rfl⟩ := List.getElem_of_mem hb
                      rw [List.length_take] at hj
                      rw [List.getElem_take, btL_get]
                      by_cases e : j = c
                      · rw [e]; exact ⟨hd1, hd2⟩
                      · exact HD.out j (by omega)
                    have h5 := rdN_lt _ hall
                    have h6 : 10 ^ ((btL u).take (c + 1)).length ≤ 10 ^ 77 := Nat.pow_le_pow_right (by omega) (by rw [List.length_take]; omega)
                    show _ < _
                    rw [show pw 9 = 497323236409786642155382248146820840100456150797347717440463976893159497012533375533056 by decide]
                    omega
                  have hw1 : IntKind.u8.wrap (d : Int) = d := by rw [IntKind.wrap_u8]; omega
                  have hw2 : IntKind.i64.wrap (d : Int) = d := by rw [IntKind.wrap_i64]; omega
                  have J0 : MrI w wr.drew g s' o n cp ds (rdN ((btL u).take c)) := hI.drew
                  obtain ⟨c0, f0, c1, f1⟩ := hI.bs.cf2
                  have slt := hI.bs.lt
                  have hd9 : (d : Int) < 10 := by omega
                  have HDD : Hid (isD (bt u c)) := ⟨hd1, hd2⟩
                  have tok1 : True := trivial
                  clear hI hd HII
                  go_upto_region 13 with fail
                  --BEGINREG
                  go_region_with ((first
                    | (go_at_call 57; have _t := tok1; refine (int_any 10 _ (by decide) (by decide)).mono ?_; rintro e w5 ⟨s5, o5, n5, c5, d5, rfl, N5, hB⟩; have J5 := J0.step hB; obtain ⟨p0, pf0, p1, pf1⟩ := J5.bs.cf2; have pl := J5.bs.lt; clear hB tok1 _t)
                    | (go_at_call 82; refine (mul_any s' s5 o o5 n n5 cp c5 9 ds d5 _ _ _ J5.num (num_more N5 (by omega)) (by omega)).mono ?_; rintro e w6 ⟨s6, o6, n6, c6, d6, rfl, N6, hB⟩; have J6 := J5.step hB; clear hB N5)
                    | (go_at_call 57; refine (int_any d _ (by omega) (by omega)).mono ?_; rintro e w7 ⟨s7, o7, n7, c7, d7, rfl, N7, hB⟩; have J7 := J6.step hB; have M6 := N6.step hB; clear hB N6)
                    | (go_at_call 81; refine (add_any s6 s7 o6 o7 n6 n7 c6 c7 18 d6 d7 _ _ _ M6 (num_more N7 (by omega)) (by omega)).mono ?_; rintro e w8 ⟨s8, o8, n8, c8, d8, rfl, N8, hB⟩; have J8 := J7.step hB; obtain ⟨q0, qf0, q1, qf1⟩ := J8.bs.cf2; have ql := J8.bs.lt; clear hB M6 N7)))
                  --ENDREG
                  all_goals
                    have JJ : Hid (MrI w ((w8.setCell ⟨g, 0, none⟩ (.bool s8)).setCell ⟨g, 1, none⟩ (.slice o8 n8 c8)) g s8 o8 n8 c8 d8 (rdN ((btL u).take (c + 1)))) := J8.next (by rw [← hnx.out]; exact (show (((10 * rdN ((btL u).take c) + d : Nat) : Nat) : Int) = ((rdN ((btL u).take c) : Nat) : Int) * 10 + (d : Int) by omega) ▸ N8) hn2.out
                    clear J8 N8 q0 qf0 q1 qf1 ql
                    go_wp2
                    go_roundw
                    case rel => exact ⟨c + 1, _, _, _, _, _, by omega, by go_num, JJ.out, fun j hj => by
                      by_cases e : j = c
                      · rw [e]; exact HDD.out
                      · exact HD.out j (by omega)⟩
                    case measure => simp [intOf]; omega
                · have HN : Hid (¬ RdOk (btL s)) := fun h => hd (by
                    have h2 := (rdOk_iff.1 h).2
                    rw [← HU.out] at h2
                    exact btL_mem.1 h2 c hcs)
                  obtain ⟨d0, e0, d1, e1⟩ := hI.br.cf2
                  have dl := hI.br.lt
                  have HB := hI.below
                  clear hI
                  by_cases hd1 : 48 ≤ bt u c
                  · have hd3 : ¬ ((bt u c : Int) < 48) := by omega
                    have hd4 : (57 : Int) < (bt u c : Int) := by unfold isD at hd; omega
                    clear hd
                    go_wp2
                    refine bodyPost_ret (v := .tuple #[.agg #[.bool false, .slice none 0 0], .bool false]) (by simp [results, Try.results47, go_sem, d0, d1]) rfl ?_
                    exact Or.inr ⟨HN.out, rfl, (HB.setCell (p := ⟨w.heap.size, 0, none⟩) (Nat.le_refl _) _).setCell (p := ⟨w.heap.size, 1, none⟩) (Nat.le_refl _) _⟩
                  · have hd3 : (bt u c : Int) < 48 := by omega
                    clear hd
                    go_wp2
                    refine bodyPost_ret (v := .tuple #[.agg #[.bool false, .slice none 0 0], .bool false]) (by simp [results, Try.results47, go_sem, d0, d1]) rfl ?_
                    exact Or.inr ⟨HN.out, rfl, (HB.setCell (p := ⟨w.heap.size, 0, none⟩) (Nat.le_refl _) _).setCell (p := ⟨w.heap.size, 1, none⟩) (Nat.le_refl _) _⟩
              · obtain rfl : c = u.size := by omega
                have HY : Hid (RdOk (btL s)) := rdOk_iff.2 ⟨HT.out, by rw [← HU.out]; exact btL_mem.2 HD.out⟩
                have hlast : (btL u).take u.size = btL u := by rw [← btL_len, List.take_length]
                rw [hlast] at hI
                have hI2 : MrI w wr g s' o n cp ds (rdN (btL u)) := hI
                obtain ⟨c0, f0, c1, f1⟩ := hI.bs.cf2
                have slt := hI.bs.lt
                obtain ⟨d0, e0, d1, e1⟩ := hI.br.cf2
                have dl := hI.br.lt
                clear hI HII hlast
                cases b
                · have hz : Hid (((rdN (btL u) : Nat) : Int) = rdI (btL s)) := by
                    have h1 : ¬ (btL s).head? = some 45 := by simpa using HBB.out
                    show _ = _
                    unfold rdI
                    rw [if_neg h1, HU.out]
                  have NN : Hid (IsNum wr s' o n cp ds (rdI (btL s)) 9) := by rw [← hz.out]; exact hI2.num
                  have HB := hI2.below
                  have BR := hI2.br
                  clear hI2
                  go_wp2
                  refine bodyPost_ret (v := .tuple #[.agg #[.bool s', .slice o n cp], .bool true]) (by simp [results, Try.results47, go_sem, d0, d1]) rfl ?_
                  exact Or.inl ⟨HY.out, ⟨s', o, n, cp, ds, rfl, num_put NN.out BR _ _⟩, (HB.setCell (p := ⟨w.heap.size, 0, none⟩) (Nat.le_refl _) _).setCell (p := ⟨w.heap.size, 1, none⟩) (Nat.le_refl _) _⟩
                · have hz : Hid (-((rdN (btL u) : Nat) : Int) = rdI (btL s)) := by
                    have h1 : (btL s).head? = some 45 := by simpa using HBB.out
                    show _ = _
                    unfold rdI
                    rw [if_pos h1, HU.out]
                  have CN := neg_any s' o n cp ds _ _ wr hI2.num
                  rw [hz.out] at CN
                  go_wp2_with fail
                  refine CN.mono ?_
                  rintro e w5 ⟨s5, o5, n5, c5, d5, rfl, N5, hB⟩
                  have J5 := hI2.step hB
                  clear hB CN c0 f0 c1 f1 slt d0 e0 d1 e1 dl hI2
                  obtain ⟨c0, f0, c1, f1⟩ := J5.bs.cf2
                  have slt := J5.bs.lt
                  have N6 := num_put N5 J5.bs (.bool s5) (.slice o5 n5 c5)
                  have BR := J5.br.set2 (g := g) (v0 := .bool s5) (v1 := .slice o5 n5 c5) (by omega)
                  have BS := (J5.bs.setI 0 (by simp) (.bool s5)).setI 1 (by simp) (.slice o5 n5 c5)
                  have HB := (J5.below.setCell (p := ⟨g, 0, none⟩) (by show w.heap.size ≤ g; omega) (.bool s5)).setCell (p := ⟨g, 1, none⟩) (by show w.heap.size ≤ g; omega) (.slice o5 n5 c5)
                  have bsl := BS
                  clear J5 N5
                  go_upto_region 16 with fail
                  generalize ((w5.setCell ⟨g, 0, none⟩ (.bool s5)).setCell ⟨g, 1, none⟩ (.slice o5 n5 c5)) = W6 at *
                  clear c0 f0 c1 f1 slt
                  have c0 : W6.cell? ⟨g, 0, none⟩ = some (.bool s5) := BS.c 0 rfl
                  have c1 : W6.cell? ⟨g, 1, none⟩ = some (.slice o5 n5 c5) := BS.c 1 rfl
                  obtain ⟨d0, e0, d1, e1⟩ := BR.cf2
                  have dl := BR.lt
                  have NN : Hid (IsNum W6 s5 o5 n5 c5 d5 (rdI (btL s)) 9) := N6
                  clear N6 bsl BS
                  go_wp2
                  refine bodyPost_ret (v := .tuple #[.agg #[.bool s5, .slice o5 n5 c5], .bool true]) (by simp [results, Try.results47, go_sem, d0, d1]) rfl ?_
                  exact Or.inl ⟨HY.out, ⟨s5, o5, n5, c5, d5, rfl, num_put NN.out BR _ _⟩, (HB.setCell (p := ⟨w.heap.size, 0, none⟩) (Nat.le_refl _) _).setCell (p := ⟨w.heap.size, 1, none⟩) (Nat.le_refl _) _⟩
        · have HN : Hid (¬ RdOk (btL s)) := fun h => hT (rdOk_iff.1 h).1
          obtain ⟨d0, e0, d1, e1⟩ := BR0.out.cf2
          have dl := BR0.out.lt
          have HB := HB0.out
          by_cases h1 : 1 ≤ u.size
          · have i1 : ¬ ((u.size : Int) < 1) := by omega
            by_cases h2 : u.size ≤ 77
            · have i2 : ¬ ((77 : Int) < u.size) := by omega
              have hbt := bt_at h1
              have hlt := bt_lt u 0
              have h3 : bt u 0 = 48 ∧ ((btL s).head? = some 45 ∨ 1 < u.size) := Classical.byContradiction fun h3 => hT ⟨by rw [← HU.out]; intro h; have := btL_len u; rw [h] at this; simp at this; omega, by rw [← HU.out, btL_len]; exact h2, fun h => h3 ⟨by have := h.1; rw [← HU.out, btL_head h1] at this; simpa using this, by have := h.2; rw [← HU.out, btL_len] at this; exact this⟩⟩
              have hb0 : ((bt u 0 : Int) == 48) = true := by rw [h3.1]; rfl
              cases b
              · have h4 : 1 < u.size := by
                  rcases h3.2 with h | h
                  · exact absurd h (by simpa using HBB.out)
                  · exact h
                have i3 : (1 : Int) < u.size := by omega
                clear h3 hT
                go_wp2
                refine bodyPost_ret (v := .tuple #[.agg #[.bool false, .slice none 0 0], .bool false]) (by simp [results, Try.results47, go_sem, d0, d1]) rfl ?_
                exact Or.inr ⟨HN.out, rfl, (HB.setCell (p := ⟨w.heap.size, 0, none⟩) (Nat.le_refl _) _).setCell (p := ⟨w.heap.size, 1, none⟩) (Nat.le_refl _) _⟩
              · clear h3 hT
                go_wp2
                refine bodyPost_ret (v := .tuple #[.agg #[.bool false, .slice none 0 0], .bool false]) (by simp [results, Try.results47, go_sem, d0, d1]) rfl ?_
                exact Or.inr ⟨HN.out, rfl, (HB.setCell (p := ⟨w.heap.size, 0, none⟩) (Nat.le_refl _) _).setCell (p := ⟨w.heap.size, 1, none⟩) (Nat.le_refl _) _⟩
            · have i2 : (77 : Int) < u.size := by omega
              clear hT
              go_wp2
              refine bodyPost_ret (v := .tuple #[.agg #[.bool false, .slice none 0 0], .bool false]) (by simp [results, Try.results47, go_sem, d0, d1]) rfl ?_
              exact Or.inr ⟨HN.out, rfl, (HB.setCell (p := ⟨w.heap.size, 0, none⟩) (Nat.le_refl _) _).setCell (p := ⟨w.heap.size, 1, none⟩) (Nat.le_refl _) _⟩
          · have i1 : (u.size : Int) < 1 := by omega
            clear hT
            go_wp2
            refine bodyPost_ret (v := .tuple #[.agg #[.bool false, .slice none 0 0], .bool false]) (by simp [results, Try.results47, go_sem, d0, d1]) rfl ?_
            exact Or.inr ⟨HN.out, rfl, (HB.setCell (p := ⟨w.heap.size, 0, none⟩) (Nat.le_refl _) _).setCell (p := ⟨w.heap.size, 1, none⟩) (Nat.le_refl _) _⟩
end Go.Proofs.Ytnnojeggjnddpaa

/- A number read from its text: the law over both sides. -/
namespace Go.Proofs.Ytnnojeggjnddpaa
open Go.RowKit
theorem rdV_form (l : List Nat) : ∃ y3 y2 y1 y0 b, rdV l = .tuple #[.agg #[.int .u64 y3, .int .u64 y2, .int .u64 y1, .int .u64 y0], .bool b] := by
  by_cases h : RdOk l
  · rw [rdV_yes h]; exact tellV_form _
  · rw [rdV_no h]; exact ⟨_, _, _, _, _, rfl⟩
set_option maxRecDepth 100000 in
set_option maxHeartbeats 2000000 in
theorem specRead_any (s : ByteArray) (hm : s.size ≤ 9223372036854775807) (w : World) : Calls Try.prog 15 #[.string s] w (VP (rdV (btL s)) w) := by
  have HB0 : Hid (Below w.heap.size w (w.alloc (Obj.cells #[.int .u64 0, .int .u64 0, .int .u64 0, .int .u64 0] 26))) := (Below.refl _ _).alloc (Nat.le_refl _) _
  have BR0 : Hid (Blk (w.alloc (Obj.cells #[.int .u64 0, .int .u64 0, .int .u64 0, .int .u64 0] 26)) w.heap.size [.int .u64 0, .int .u64 0, .int .u64 0, .int .u64 0]) := Blk.new w [.int .u64 0, .int .u64 0, .int .u64 0, .int .u64 0] _ rfl
  have C := l1Read_any s hm
  go_enter Try.func15, Try.ntmps15
  go_wp2_with fail
  generalize (w.alloc (Obj.cells #[.int .u64 0, .int .u64 0, .int .u64 0, .int .u64 0] 26)) = W0 at *
  refine (C _).mono ?_
  rintro e w1 (⟨hok, ⟨s1, o1, n1, c1, d1, rfl, N1⟩, hB⟩ | ⟨hok, rfl, hB⟩)
  · have BR1 := BR0.out.step hB
    have HB1 := HB0.out.trans (hB.mono HB0.out.size)
    have HR : Hid (rdV (btL s) = tellV (rdI (btL s))) := rdV_yes hok
    have N2 := N1.alloc (Obj.cells #[.bool s1, .slice o1 n1 c1] 66)
    have BR2 : Hid (Blk (w1.alloc (Obj.cells #[.bool s1, .slice o1 n1 c1] 66)) w.heap.size [.int .u64 0, .int .u64 0, .int .u64 0, .int .u64 0]) := BR1.alloc _
    have HB2 : Hid (Below w.heap.size w (w1.alloc (Obj.cells #[.bool s1, .slice o1 n1 c1] 66))) := HB1.alloc HB1.size _
    have CW := toW_det s1 o1 n1 c1 d1 _ _ _ N2 (by omega)
    clear BR0 HB0 hB C N1 N2 BR1 HB1 hok
    obtain ⟨t3, t2, t1, t0, tb, ht⟩ := tellV_form (rdI (btL s))
    have HT : Hid (tellV (rdI (btL s)) = .tuple #[.agg #[.int .u64 t3, .int .u64 t2, .int .u64 t1, .int .u64 t0], .bool tb]) := ht
    rw [ht] at CW
    clear ht
    go_wp2_with fail
    refine CW.mono ?_
    rintro e w2 ⟨rfl, hB⟩
    have BR3 := BR2.out.step hB
    have HB3 := HB2.out.trans (hB.mono HB2.out.size)
    clear BR2 HB2 hB CW
    obtain ⟨d0, e0, d1, e1, d2, e2, d3, e3⟩ := BR3.cf4
    have dl := BR3.lt
    go_wp2
    refine bodyPost_ret (v := .tuple #[.agg #[.int .u64 t3, .int .u64 t2, .int .u64 t1, .int .u64 t0], .bool tb]) (by simp [results, Try.results15, go_sem, d0, d1, d2, d3]) rfl ?_
    exact ⟨by rw [HR.out, HT.out], tell_below HB3 (Nat.le_refl _)⟩
  · have BR1 := BR0.out.step hB
    have HB1 := HB0.out.trans (hB.mono HB0.out.size)
    have HR : Hid (rdV (btL s) = .tuple #[W4 0, .bool false]) := rdV_no hok
    have BR2 := BR1.alloc (Obj.cells #[.bool false, .slice none 0 0] 66)
    have HB2 := HB1.alloc HB1.size (Obj.cells #[.bool false, .slice none 0 0] 66)
    clear BR0 HB0 hB C BR1 HB1 hok
    obtain ⟨d0, e0, d1, e1, d2, e2, d3, e3⟩ := BR2.cf4
    have dl := BR2.lt
    go_wp2
    refine bodyPost_ret (v := .tuple #[.agg #[.int .u64 0, .int .u64 0, .int .u64 0, .int .u64 0], .bool false]) (by simp [results, Try.results15, go_sem, d0, d1, d2, d3]) rfl ?_
    exact ⟨by rw [HR.out]; rfl, tell_below HB2 (Nat.le_refl _)⟩
set_option maxRecDepth 100000 in
set_option maxHeartbeats 2000000 in
theorem lawReadWide_any (s : ByteArray) (w : World) : Calls Try.prog 4 #[.string s] w (BoolP true w) := by
  by_cases hs : s.size ≤ 1048576
  · have i1 : ¬ ((1048576 : Int) < s.size) := by omega
    have C1 := specRead_any s (by omega)
    have C2 := implRead_any s (by omega)
    obtain ⟨t3, t2, t1, t0, tb, ht⟩ := rdV_form (btL s)
    rw [ht] at C1 C2
    clear ht
    have bb : (tb != tb) = false := by simp
    have CE := eqWide_same t3 t2 t1 t0
    go_enter Try.func4, Try.ntmps4
    go_wp2_with fail
    refine (C1 _).mono ?_
    rintro e w1 ⟨rfl, hB⟩
    have B1 := Blk.new w1 [.int .u64 t3, .int .u64 t2, .int .u64 t1, .int .u64 t0] 26 rfl
    have HB1 : Hid (Below w.heap.size w (w1.alloc (Obj.cells #[.int .u64 t3, .int .u64 t2, .int .u64 t1, .int .u64 t0] 26))) := hB.alloc hB.size _
    have hsz := hB.size
    clear hB C1
    go_wp2_with fail
    refine (C2 _).mono ?_
    rintro e w2 ⟨rfl, hB⟩
    have B2 := (B1.step hB).alloc (Obj.cells #[.int .u64 t3, .int .u64 t2, .int .u64 t1, .int .u64 t0] 26)
    have hB2 := HB1.out.trans (hB.mono HB1.out.size)
    have HB2 : Hid (Below w.heap.size w (w2.alloc (Obj.cells #[.int .u64 t3, .int .u64 t2, .int .u64 t1, .int .u64 t0] 26))) := hB2.alloc hB2.size _
    obtain ⟨d0, e0, d1, e1, d2, e2, d3, e3⟩ := B2.cf4
    clear hB C2 B1 B2 HB1 hB2
    go_wp2_with fail
    refine (CE _).mono ?_
    rintro e w3 ⟨rfl, hB⟩
    have hB3 := HB2.out.trans (hB.mono HB2.out.size)
    clear hB CE HB2
    go_wp2
    go_ret
    exact ⟨rfl, hB3⟩
  · have i1 : (1048576 : Int) < s.size := by omega
    go_enter Try.func4, Try.ntmps4
    go_wp2
    go_ret
    exact ⟨rfl, Below.refl _ _⟩
end Go.Proofs.Ytnnojeggjnddpaa
