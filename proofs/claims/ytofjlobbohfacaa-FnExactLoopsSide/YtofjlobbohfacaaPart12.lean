/- Part 12 of the walks that the proof leans on. -/
import Derived.Test.YtofjlobbohfacaaPart11
import Derived.Deep.OwnRows
import Derived.Test.YtofjlobbohfacaaPart8
/- Rows of points: how they lie, and the walks over them. -/
namespace Go.Proofs.Ytofjlobbohfacaa
open Go.RowKit
/-- The words of points, one behind the other. -/
def ptW (q : Nat → Int × Int × Int) (k : Nat) : Int :=
  if k % 12 = 0 then ww3 (q (k / 12)).1
  else if k % 12 = 1 then ww2 (q (k / 12)).1
  else if k % 12 = 2 then ww1 (q (k / 12)).1
  else if k % 12 = 3 then ww0 (q (k / 12)).1
  else if k % 12 = 4 then ww3 (q (k / 12)).2.1
  else if k % 12 = 5 then ww2 (q (k / 12)).2.1
  else if k % 12 = 6 then ww1 (q (k / 12)).2.1
  else if k % 12 = 7 then ww0 (q (k / 12)).2.1
  else if k % 12 = 8 then ww3 (q (k / 12)).2.2
  else if k % 12 = 9 then ww2 (q (k / 12)).2.2
  else if k % 12 = 10 then ww1 (q (k / 12)).2.2
  else ww0 (q (k / 12)).2.2
theorem ptW0 (q : Nat → Int × Int × Int) (c : Nat) : ptW q (c * 12) = ww3 (q c).1 := by
  unfold ptW
  rw [show (c * 12) / 12 = c by omega, show (c * 12) % 12 = 0 by omega]
  rfl
theorem ptW1 (q : Nat → Int × Int × Int) (c : Nat) : ptW q (c * 12 + 1) = ww2 (q c).1 := by
  unfold ptW
  rw [show (c * 12 + 1) / 12 = c by omega, show (c * 12 + 1) % 12 = 1 by omega]
  rfl
theorem ptW2 (q : Nat → Int × Int × Int) (c : Nat) : ptW q (c * 12 + 2) = ww1 (q c).1 := by
  unfold ptW
  rw [show (c * 12 + 2) / 12 = c by omega, show (c * 12 + 2) % 12 = 2 by omega]
  rfl
theorem ptW3 (q : Nat → Int × Int × Int) (c : Nat) : ptW q (c * 12 + 3) = ww0 (q c).1 := by
  unfold ptW
  rw [show (c * 12 + 3) / 12 = c by omega, show (c * 12 + 3) % 12 = 3 by omega]
  rfl
theorem ptW4 (q : Nat → Int × Int × Int) (c : Nat) : ptW q (c * 12 + 4) = ww3 (q c).2.1 := by
  unfold ptW
  rw [show (c * 12 + 4) / 12 = c by omega, show (c * 12 + 4) % 12 = 4 by omega]
  rfl
theorem ptW5 (q : Nat → Int × Int × Int) (c : Nat) : ptW q (c * 12 + 5) = ww2 (q c).2.1 := by
  unfold ptW
  rw [show (c * 12 + 5) / 12 = c by omega, show (c * 12 + 5) % 12 = 5 by omega]
  rfl
theorem ptW6 (q : Nat → Int × Int × Int) (c : Nat) : ptW q (c * 12 + 6) = ww1 (q c).2.1 := by
  unfold ptW
  rw [show (c * 12 + 6) / 12 = c by omega, show (c * 12 + 6) % 12 = 6 by omega]
  rfl
theorem ptW7 (q : Nat → Int × Int × Int) (c : Nat) : ptW q (c * 12 + 7) = ww0 (q c).2.1 := by
  unfold ptW
  rw [show (c * 12 + 7) / 12 = c by omega, show (c * 12 + 7) % 12 = 7 by omega]
  rfl
theorem ptW8 (q : Nat → Int × Int × Int) (c : Nat) : ptW q (c * 12 + 8) = ww3 (q c).2.2 := by
  unfold ptW
  rw [show (c * 12 + 8) / 12 = c by omega, show (c * 12 + 8) % 12 = 8 by omega]
  rfl
theorem ptW9 (q : Nat → Int × Int × Int) (c : Nat) : ptW q (c * 12 + 9) = ww2 (q c).2.2 := by
  unfold ptW
  rw [show (c * 12 + 9) / 12 = c by omega, show (c * 12 + 9) % 12 = 9 by omega]
  rfl
theorem ptW10 (q : Nat → Int × Int × Int) (c : Nat) : ptW q (c * 12 + 10) = ww1 (q c).2.2 := by
  unfold ptW
  rw [show (c * 12 + 10) / 12 = c by omega, show (c * 12 + 10) % 12 = 10 by omega]
  rfl
theorem ptW11 (q : Nat → Int × Int × Int) (c : Nat) : ptW q (c * 12 + 11) = ww0 (q c).2.2 := by
  unfold ptW
  rw [show (c * 12 + 11) / 12 = c by omega, show (c * 12 + 11) % 12 = 11 by omega]
  rfl
/-- n points lie behind a slice's address. -/
def PtIn (w : World) (ao : Option Addr) (n : Nat) (q : Nat → Int × Int × Int) : Prop :=
  ∀ i, i < n → ∃ A off, ao = some ⟨A, off, none⟩ ∧ A < w.heap.size ∧ ∀ j, j < 12 → w.cell? ⟨A, off + i * 12 + j, none⟩ = some (.int .u64 (ptW q (i * 12 + j)))
theorem PtIn.step {w w' : World} {ao : Option Addr} {n : Nat} {q : Nat → Int × Int × Int} (h : PtIn w ao n q) (hB : Below w.heap.size w w') : PtIn w' ao n q := fun i hi => by
  obtain ⟨A, off, e, hA, hc⟩ := h i hi
  exact ⟨A, off, e, Nat.lt_of_lt_of_le hA hB.size, fun j hj => (hB.cell (p := ⟨A, off + i * 12 + j, none⟩) hA).trans (hc j hj)⟩
theorem PtIn.drew {w : World} {ao : Option Addr} {n : Nat} {q : Nat → Int × Int × Int} (h : PtIn w ao n q) : PtIn w.drew ao n q := h
theorem ptIn_row {w : World} {g n : Nat} {T : TypeId} {q : Nat → Int × Int × Int} (h : w.rowIs g T (n * 12) (fun i => .int .u64 (ptW q i))) : PtIn w (some ⟨g, 0, none⟩) n q := fun i hi =>
  ⟨g, 0, rfl, h.lt, fun j hj => by rw [Nat.zero_add]; exact h.cell (by omega)⟩
theorem PtIn.at {w : World} {ao : Option Addr} {n : Nat} {q : Nat → Int × Int × Int} (h : PtIn w ao n q) {i : Nat} (hi : i < n) : ∃ A off, ao = some ⟨A, off, none⟩ ∧ A < w.heap.size ∧ w.cell? ⟨A, off + i * 12, none⟩ = some (.int .u64 (ww3 (q i).1)) ∧ w.cell? ⟨A, off + i * 12 + 1, none⟩ = some (.int .u64 (ww2 (q i).1)) ∧ w.cell? ⟨A, off + i * 12 + 2, none⟩ = some (.int .u64 (ww1 (q i).1)) ∧ w.cell? ⟨A, off + i * 12 + 3, none⟩ = some (.int .u64 (ww0 (q i).1)) ∧ w.cell? ⟨A, off + i * 12 + 4, none⟩ = some (.int .u64 (ww3 (q i).2.1)) ∧ w.cell? ⟨A, off + i * 12 + 5, none⟩ = some (.int .u64 (ww2 (q i).2.1)) ∧ w.cell? ⟨A, off + i * 12 + 6, none⟩ = some (.int .u64 (ww1 (q i).2.1)) ∧ w.cell? ⟨A, off + i * 12 + 7, none⟩ = some (.int .u64 (ww0 (q i).2.1)) ∧ w.cell? ⟨A, off + i * 12 + 8, none⟩ = some (.int .u64 (ww3 (q i).2.2)) ∧ w.cell? ⟨A, off + i * 12 + 9, none⟩ = some (.int .u64 (ww2 (q i).2.2)) ∧ w.cell? ⟨A, off + i * 12 + 10, none⟩ = some (.int .u64 (ww1 (q i).2.2)) ∧ w.cell? ⟨A, off + i * 12 + 11, none⟩ = some (.int .u64 (ww0 (q i).2.2)) := by
  obtain ⟨A, off, e, hA, hc⟩ := h i hi
  refine ⟨A, off, e, hA, ?_, ?_, ?_, ?_, ?_, ?_, ?_, ?_, ?_, ?_, ?_, ?_⟩
  · have := hc 0 (by omega); rw [show i * 12 + 0 = i * 12 from rfl, ptW0] at this; exact this
  · have := hc 1 (by omega); rw [show i * 12 + 1 = i * 12 + 1 from rfl, ptW1] at this; exact this
  · have := hc 2 (by omega); rw [show i * 12 + 2 = i * 12 + 2 from rfl, ptW2] at this; exact this
  · have := hc 3 (by omega); rw [show i * 12 + 3 = i * 12 + 3 from rfl, ptW3] at this; exact this
  · have := hc 4 (by omega); rw [show i * 12 + 4 = i * 12 + 4 from rfl, ptW4] at this; exact this
  · have := hc 5 (by omega); rw [show i * 12 + 5 = i * 12 + 5 from rfl, ptW5] at this; exact this
  · have := hc 6 (by omega); rw [show i * 12 + 6 = i * 12 + 6 from rfl, ptW6] at this; exact this
  · have := hc 7 (by omega); rw [show i * 12 + 7 = i * 12 + 7 from rfl, ptW7] at this; exact this
  · have := hc 8 (by omega); rw [show i * 12 + 8 = i * 12 + 8 from rfl, ptW8] at this; exact this
  · have := hc 9 (by omega); rw [show i * 12 + 9 = i * 12 + 9 from rfl, ptW9] at this; exact this
  · have := hc 10 (by omega); rw [show i * 12 + 10 = i * 12 + 10 from rfl, ptW10] at this; exact this
  · have := hc 11 (by omega); rw [show i * 12 + 11 = i * 12 + 11 from rfl, ptW11] at this; exact this
theorem Try.infoPoint : (Try.prog.info? 34).map (fun i => (i.zero, i.size, i.bytes)) = some (some (.agg #[.int .u64 0, .int .u64 0, .int .u64 0, .int .u64 0, .int .u64 0, .int .u64 0, .int .u64 0, .int .u64 0, .int .u64 0, .int .u64 0, .int .u64 0, .int .u64 0]), 12, 96) := by kernel_rfl
theorem make_points (n : Nat) (hn : n ≤ 1048576) (w : World) : (Instr.makeSlice 66 (.int .i64 (n : Int)) (.int .i64 (n : Int))).run Try.prog w = .ok (.slice (some ⟨w.heap.size, 0, none⟩) n n) (w.alloc (.cells (madeCells #[.int .u64 0, .int .u64 0, .int .u64 0, .int .u64 0, .int .u64 0, .int .u64 0, .int .u64 0, .int .u64 0, .int .u64 0, .int .u64 0, .int .u64 0, .int .u64 0] (n * 12)) 34)) := by
  obtain ⟨i, hi, hzz⟩ := Option.map_eq_some_iff.1 Try.infoPoint
  simp only [Prod.mk.injEq] at hzz
  obtain ⟨hz, hs, hb⟩ := hzz
  have hr := run_make (P := Try.prog) w 66 34 i (.agg #[.int .u64 0, .int .u64 0, .int .u64 0, .int .u64 0, .int .u64 0, .int .u64 0, .int .u64 0, .int .u64 0, .int .u64 0, .int .u64 0, .int .u64 0, .int .u64 0]) Try.underlying66 hi hz .i64 .i64 n n (by omega) (Int.le_refl _) (by rw [hb]; omega) (by omega)
  simp only [Int.toNat_natCast, hs, Value.cells] at hr
  exact hr
theorem rowp_made (w : World) (n : Nat) (T : TypeId) : (w.alloc (.cells (madeCells #[.int .u64 0, .int .u64 0, .int .u64 0, .int .u64 0, .int .u64 0, .int .u64 0, .int .u64 0, .int .u64 0, .int .u64 0, .int .u64 0, .int .u64 0, .int .u64 0] (n * 12)) T)).rowIs w.heap.size T (n * 12) (fun _ => .int .u64 0) := by
  have h := World.rowIs_alloc w (madeCells #[.int .u64 0, .int .u64 0, .int .u64 0, .int .u64 0, .int .u64 0, .int .u64 0, .int .u64 0, .int .u64 0, .int .u64 0, .int .u64 0, .int .u64 0, .int .u64 0] (n * 12)) T (fun _ => .int .u64 0) (fun i hi => by
    rw [size_madeCells] at hi
    simp [madeCells, hi]
    rcases (show i % 12 = 0 ∨ i % 12 = 1 ∨ i % 12 = 2 ∨ i % 12 = 3 ∨ i % 12 = 4 ∨ i % 12 = 5 ∨ i % 12 = 6 ∨ i % 12 = 7 ∨ i % 12 = 8 ∨ i % 12 = 9 ∨ i % 12 = 10 ∨ i % 12 = 11 by omega) with h | h | h | h | h | h | h | h | h | h | h | h <;> simp [h])
  rwa [size_madeCells] at h
/-- So far the row holds what was copied, behind it zeros. -/
def cpP (q : Nat → Int × Int × Int) (c : Nat) (i : Nat) : Value := .int .u64 (if i < c * 12 then ptW q i else 0)
theorem rowp_step {w w' : World} {g n : Nat} {T : TypeId} {f : Nat → Value} (h : w.rowIs g T n f) (hB : Below w.heap.size w w') : w'.rowIs g T n f := h.of_block (hB.block g h.lt)
theorem cpp_step {w : World} {g n c : Nat} {T : TypeId} {q : Nat → Int × Int × Int} (h : w.rowIs g T (n * 12) (cpP q c)) : ((((((((((((w.setCell ⟨g, c * 12, none⟩ (.int .u64 (ww3 (q c).1))).setCell ⟨g, c * 12 + 1, none⟩ (.int .u64 (ww2 (q c).1))).setCell ⟨g, c * 12 + 2, none⟩ (.int .u64 (ww1 (q c).1))).setCell ⟨g, c * 12 + 3, none⟩ (.int .u64 (ww0 (q c).1))).setCell ⟨g, c * 12 + 4, none⟩ (.int .u64 (ww3 (q c).2.1))).setCell ⟨g, c * 12 + 5, none⟩ (.int .u64 (ww2 (q c).2.1))).setCell ⟨g, c * 12 + 6, none⟩ (.int .u64 (ww1 (q c).2.1))).setCell ⟨g, c * 12 + 7, none⟩ (.int .u64 (ww0 (q c).2.1))).setCell ⟨g, c * 12 + 8, none⟩ (.int .u64 (ww3 (q c).2.2))).setCell ⟨g, c * 12 + 9, none⟩ (.int .u64 (ww2 (q c).2.2))).setCell ⟨g, c * 12 + 10, none⟩ (.int .u64 (ww1 (q c).2.2))).setCell ⟨g, c * 12 + 11, none⟩ (.int .u64 (ww0 (q c).2.2))).rowIs g T (n * 12) (cpP q (c + 1)) := by
  refine ((((((((((((h.set (c * 12) (.int .u64 (ww3 (q c).1))).set (c * 12 + 1) (.int .u64 (ww2 (q c).1))).set (c * 12 + 2) (.int .u64 (ww1 (q c).1))).set (c * 12 + 3) (.int .u64 (ww0 (q c).1))).set (c * 12 + 4) (.int .u64 (ww3 (q c).2.1))).set (c * 12 + 5) (.int .u64 (ww2 (q c).2.1))).set (c * 12 + 6) (.int .u64 (ww1 (q c).2.1))).set (c * 12 + 7) (.int .u64 (ww0 (q c).2.1))).set (c * 12 + 8) (.int .u64 (ww3 (q c).2.2))).set (c * 12 + 9) (.int .u64 (ww2 (q c).2.2))).set (c * 12 + 10) (.int .u64 (ww1 (q c).2.2))).set (c * 12 + 11) (.int .u64 (ww0 (q c).2.2))).congr (fun i hi => ?_)
  unfold cpP
  by_cases h11 : i = c * 12 + 11
  · subst h11
    rw [if_pos (show c * 12 + 11 < (c + 1) * 12 by omega), ptW11]
    simp
  by_cases h10 : i = c * 12 + 10
  · subst h10
    rw [if_pos (show c * 12 + 10 < (c + 1) * 12 by omega), ptW10]
    simp
  by_cases h9 : i = c * 12 + 9
  · subst h9
    rw [if_pos (show c * 12 + 9 < (c + 1) * 12 by omega), ptW9]
    simp
  by_cases h8 : i = c * 12 + 8
  · subst h8
    rw [if_pos (show c * 12 + 8 < (c + 1) * 12 by omega), ptW8]
    simp
  by_cases h7 : i = c * 12 + 7
  · subst h7
    rw [if_pos (show c * 12 + 7 < (c + 1) * 12 by omega), ptW7]
    simp
  by_cases h6 : i = c * 12 + 6
  · subst h6
    rw [if_pos (show c * 12 + 6 < (c + 1) * 12 by omega), ptW6]
    simp
  by_cases h5 : i = c * 12 + 5
  · subst h5
    rw [if_pos (show c * 12 + 5 < (c + 1) * 12 by omega), ptW5]
    simp
  by_cases h4 : i = c * 12 + 4
  · subst h4
    rw [if_pos (show c * 12 + 4 < (c + 1) * 12 by omega), ptW4]
    simp
  by_cases h3 : i = c * 12 + 3
  · subst h3
    rw [if_pos (show c * 12 + 3 < (c + 1) * 12 by omega), ptW3]
    simp
  by_cases h2 : i = c * 12 + 2
  · subst h2
    rw [if_pos (show c * 12 + 2 < (c + 1) * 12 by omega), ptW2]
    simp
  by_cases h1 : i = c * 12 + 1
  · subst h1
    rw [if_pos (show c * 12 + 1 < (c + 1) * 12 by omega), ptW1]
    simp
  by_cases h0 : i = c * 12
  · subst h0
    rw [if_pos (show c * 12 < (c + 1) * 12 by omega), ptW0]
    simp
  simp only [h0, h1, h2, h3, h4, h5, h6, h7, h8, h9, h10, h11, if_false]
  by_cases hl : i < c * 12
  · rw [if_pos hl, if_pos (by omega)]
  · rw [if_neg hl, if_neg (by omega)]
theorem belowp {w W : World} {g c : Nat} {q : Nat → Int × Int × Int} (hg : w.heap.size ≤ g) (h : Below w.heap.size w W) : Below w.heap.size w ((((((((((((W.setCell ⟨g, c * 12, none⟩ (.int .u64 (ww3 (q c).1))).setCell ⟨g, c * 12 + 1, none⟩ (.int .u64 (ww2 (q c).1))).setCell ⟨g, c * 12 + 2, none⟩ (.int .u64 (ww1 (q c).1))).setCell ⟨g, c * 12 + 3, none⟩ (.int .u64 (ww0 (q c).1))).setCell ⟨g, c * 12 + 4, none⟩ (.int .u64 (ww3 (q c).2.1))).setCell ⟨g, c * 12 + 5, none⟩ (.int .u64 (ww2 (q c).2.1))).setCell ⟨g, c * 12 + 6, none⟩ (.int .u64 (ww1 (q c).2.1))).setCell ⟨g, c * 12 + 7, none⟩ (.int .u64 (ww0 (q c).2.1))).setCell ⟨g, c * 12 + 8, none⟩ (.int .u64 (ww3 (q c).2.2))).setCell ⟨g, c * 12 + 9, none⟩ (.int .u64 (ww2 (q c).2.2))).setCell ⟨g, c * 12 + 10, none⟩ (.int .u64 (ww1 (q c).2.2))).setCell ⟨g, c * 12 + 11, none⟩ (.int .u64 (ww0 (q c).2.2))) := by
  repeat' (refine Below.setCell ?_ (by exact hg) _)
  exact h
set_option maxRecDepth 100000 in
set_option maxHeartbeats 2000000 in
theorem toPointS_any (ao : Option Addr) (n cap : Nat) (q : Nat → Int × Int × Int) (hn : n ≤ 1048576) (w : World) (hS : PtIn w ao n q) : Calls Try.prog 61 #[.slice ao n cap] w (fun e w' => ∃ g, e = .returned (.slice (some ⟨g, 0, none⟩) n n) ∧ w.heap.size ≤ g ∧ w'.rowIs g 34 (n * 12) (fun i => .int .u64 (ptW q i)) ∧ Below w.heap.size w w') := by
  have MK := make_points n hn
  have HS : Hid (PtIn w ao n q) := hS
  clear hS
  go_enter Try.func61, Try.ntmps61
  go_wp2_with fail
  have R0 := rowp_made w n 34
  have B0 : Below w.heap.size w (w.alloc (.cells (madeCells #[.int .u64 0, .int .u64 0, .int .u64 0, .int .u64 0, .int .u64 0, .int .u64 0, .int .u64 0, .int .u64 0, .int .u64 0, .int .u64 0, .int .u64 0, .int .u64 0] (n * 12)) 34)) := (Below.refl _ _).alloc (Nat.le_refl _) _
  generalize w.alloc (.cells (madeCells #[.int .u64 0, .int .u64 0, .int .u64 0, .int .u64 0, .int .u64 0, .int .u64 0, .int .u64 0, .int .u64 0, .int .u64 0, .int .u64 0, .int .u64 0, .int .u64 0] (n * 12)) 34) = W1 at *
  have hnI : (n : Int) ≤ 1048576 := by omega
  clear MK
  go_loopw [4] (fun i wr => ∃ c : Nat, c ≤ n ∧ i = .int .i64 c ∧ wr.rowIs w.heap.size 34 (n * 12) (cpP q c) ∧ Below w.heap.size w wr) (fun i _ => n - (intOf i).toNat)
  case atStart => exact ⟨0, by omega, rfl, R0.congr (fun i _ => by unfold cpP; simp), B0⟩
  case round =>
    clear R0 B0
    obtain ⟨c, hc, rfl, R, HB⟩ := hrel
    by_cases hcn : c < n
    · obtain ⟨A, off, rfl, hA, q0, q1, q2, q3, q4, q5, q6, q7, q8, q9, q10, q11⟩ := (HS.out.step HB).at hcn
      have hcI : (c : Int) < n := by omega
      go_wp2_with fail
      refine (toPoint_det (q c).1 (q c).2.1 (q c).2.2 _).mono ?_
      rintro e w1 ⟨rfl, hB⟩
      replace R := rowp_step R hB
      replace HB := HB.trans (hB.mono HB.size)
      have o0 := R.cell (i := c * 12) (by omega); have f0 := R.frozen (c * 12); have o1 := R.cell (i := c * 12 + 1) (by omega); have f1 := R.frozen (c * 12 + 1); have o2 := R.cell (i := c * 12 + 2) (by omega); have f2 := R.frozen (c * 12 + 2); have o3 := R.cell (i := c * 12 + 3) (by omega); have f3 := R.frozen (c * 12 + 3); have o4 := R.cell (i := c * 12 + 4) (by omega); have f4 := R.frozen (c * 12 + 4); have o5 := R.cell (i := c * 12 + 5) (by omega); have f5 := R.frozen (c * 12 + 5); have o6 := R.cell (i := c * 12 + 6) (by omega); have f6 := R.frozen (c * 12 + 6); have o7 := R.cell (i := c * 12 + 7) (by omega); have f7 := R.frozen (c * 12 + 7); have o8 := R.cell (i := c * 12 + 8) (by omega); have f8 := R.frozen (c * 12 + 8); have o9 := R.cell (i := c * 12 + 9) (by omega); have f9 := R.frozen (c * 12 + 9); have o10 := R.cell (i := c * 12 + 10) (by omega); have f10 := R.frozen (c * 12 + 10); have o11 := R.cell (i := c * 12 + 11) (by omega); have f11 := R.frozen (c * 12 + 11)
      have RN := cpp_step R
      have HN : Below w.heap.size w ((((((((((((w1.setCell ⟨w.heap.size, c * 12, none⟩ (.int .u64 (ww3 (q c).1))).setCell ⟨w.heap.size, c * 12 + 1, none⟩ (.int .u64 (ww2 (q c).1))).setCell ⟨w.heap.size, c * 12 + 2, none⟩ (.int .u64 (ww1 (q c).1))).setCell ⟨w.heap.size, c * 12 + 3, none⟩ (.int .u64 (ww0 (q c).1))).setCell ⟨w.heap.size, c * 12 + 4, none⟩ (.int .u64 (ww3 (q c).2.1))).setCell ⟨w.heap.size, c * 12 + 5, none⟩ (.int .u64 (ww2 (q c).2.1))).setCell ⟨w.heap.size, c * 12 + 6, none⟩ (.int .u64 (ww1 (q c).2.1))).setCell ⟨w.heap.size, c * 12 + 7, none⟩ (.int .u64 (ww0 (q c).2.1))).setCell ⟨w.heap.size, c * 12 + 8, none⟩ (.int .u64 (ww3 (q c).2.2))).setCell ⟨w.heap.size, c * 12 + 9, none⟩ (.int .u64 (ww2 (q c).2.2))).setCell ⟨w.heap.size, c * 12 + 10, none⟩ (.int .u64 (ww1 (q c).2.2))).setCell ⟨w.heap.size, c * 12 + 11, none⟩ (.int .u64 (ww0 (q c).2.2))) := belowp (Nat.le_refl _) HB
      clear hB q0 q1 q2 q3 q4 q5 q6 q7 q8 q9 q10 q11 hA R HB
      go_wp2
      go_roundw
      case rel => exact ⟨c + 1, by omega, by go_num, RN, HN⟩
      case measure => simp [intOf]; omega
    · obtain rfl : c = n := by omega
      have RN : wr.rowIs w.heap.size 34 (c * 12) (fun i => .int .u64 (ptW q i)) := R.congr (fun i hi => by unfold cpP; rw [if_pos hi])
      clear R HS
      go_wp2
      go_ret
      exact ⟨_, rfl, Nat.le_refl _, RN, HB⟩
set_option maxRecDepth 100000 in
set_option maxHeartbeats 2000000 in
theorem eqPointS_any (ao bo : Option Addr) (n ca cb : Nat) (q : Nat → Int × Int × Int) (hn : n ≤ 1048576) (w : World) (hA : PtIn w ao n q) (hC : PtIn w bo n q) : Calls Try.prog 68 #[.slice ao n ca, .slice bo n cb] w (BoolP true w) := by
  have HA : Hid (PtIn w ao n q) := hA
  have HC : Hid (PtIn w bo n q) := hC
  have hnI : (n : Int) ≤ 1048576 := by omega
  clear hA hC
  go_enter Try.func68, Try.ntmps68
  go_wp2_with fail
  go_loopw [5] (fun i wr => ∃ c : Nat, c ≤ n ∧ i = .int .i64 c ∧ Below w.heap.size w wr) (fun i _ => n - (intOf i).toNat)
  case atStart => exact ⟨0, by omega, rfl, Below.refl _ _⟩
  case round =>
    obtain ⟨c, hc, rfl, HB⟩ := hrel
    by_cases hcn : c < n
    · obtain ⟨A, off, rfl, hA, q0, q1, q2, q3, q4, q5, q6, q7, q8, q9, q10, q11⟩ := (HA.out.step HB).at hcn
      obtain ⟨B, of2, rfl, hB', r0, r1, r2, r3, r4, r5, r6, r7, r8, r9, r10, r11⟩ := (HC.out.step HB).at hcn
      have hcI : (c : Int) < n := by omega
      have KS : (fun w' => w'.cell? ⟨A, off + c * 12, none⟩ = some (.int .u64 (ww3 (q c).1)) ∧ w'.cell? ⟨A, off + c * 12 + 1, none⟩ = some (.int .u64 (ww2 (q c).1)) ∧ w'.cell? ⟨A, off + c * 12 + 2, none⟩ = some (.int .u64 (ww1 (q c).1)) ∧ w'.cell? ⟨A, off + c * 12 + 3, none⟩ = some (.int .u64 (ww0 (q c).1)) ∧ w'.cell? ⟨A, off + c * 12 + 4, none⟩ = some (.int .u64 (ww3 (q c).2.1)) ∧ w'.cell? ⟨A, off + c * 12 + 5, none⟩ = some (.int .u64 (ww2 (q c).2.1)) ∧ w'.cell? ⟨A, off + c * 12 + 6, none⟩ = some (.int .u64 (ww1 (q c).2.1)) ∧ w'.cell? ⟨A, off + c * 12 + 7, none⟩ = some (.int .u64 (ww0 (q c).2.1)) ∧ w'.cell? ⟨A, off + c * 12 + 8, none⟩ = some (.int .u64 (ww3 (q c).2.2)) ∧ w'.cell? ⟨A, off + c * 12 + 9, none⟩ = some (.int .u64 (ww2 (q c).2.2)) ∧ w'.cell? ⟨A, off + c * 12 + 10, none⟩ = some (.int .u64 (ww1 (q c).2.2)) ∧ w'.cell? ⟨A, off + c * 12 + 11, none⟩ = some (.int .u64 (ww0 (q c).2.2)) ∧ w'.cell? ⟨B, of2 + c * 12, none⟩ = some (.int .u64 (ww3 (q c).1)) ∧ w'.cell? ⟨B, of2 + c * 12 + 1, none⟩ = some (.int .u64 (ww2 (q c).1)) ∧ w'.cell? ⟨B, of2 + c * 12 + 2, none⟩ = some (.int .u64 (ww1 (q c).1)) ∧ w'.cell? ⟨B, of2 + c * 12 + 3, none⟩ = some (.int .u64 (ww0 (q c).1)) ∧ w'.cell? ⟨B, of2 + c * 12 + 4, none⟩ = some (.int .u64 (ww3 (q c).2.1)) ∧ w'.cell? ⟨B, of2 + c * 12 + 5, none⟩ = some (.int .u64 (ww2 (q c).2.1)) ∧ w'.cell? ⟨B, of2 + c * 12 + 6, none⟩ = some (.int .u64 (ww1 (q c).2.1)) ∧ w'.cell? ⟨B, of2 + c * 12 + 7, none⟩ = some (.int .u64 (ww0 (q c).2.1)) ∧ w'.cell? ⟨B, of2 + c * 12 + 8, none⟩ = some (.int .u64 (ww3 (q c).2.2)) ∧ w'.cell? ⟨B, of2 + c * 12 + 9, none⟩ = some (.int .u64 (ww2 (q c).2.2)) ∧ w'.cell? ⟨B, of2 + c * 12 + 10, none⟩ = some (.int .u64 (ww1 (q c).2.2)) ∧ w'.cell? ⟨B, of2 + c * 12 + 11, none⟩ = some (.int .u64 (ww0 (q c).2.2))) wr := ⟨q0, q1, q2, q3, q4, q5, q6, q7, q8, q9, q10, q11, r0, r1, r2, r3, r4, r5, r6, r7, r8, r9, r10, r11⟩
      go_wp2_with fail
      go_region_held3 (fun w' => w'.cell? ⟨A, off + c * 12, none⟩ = some (.int .u64 (ww3 (q c).1)) ∧ w'.cell? ⟨A, off + c * 12 + 1, none⟩ = some (.int .u64 (ww2 (q c).1)) ∧ w'.cell? ⟨A, off + c * 12 + 2, none⟩ = some (.int .u64 (ww1 (q c).1)) ∧ w'.cell? ⟨A, off + c * 12 + 3, none⟩ = some (.int .u64 (ww0 (q c).1)) ∧ w'.cell? ⟨A, off + c * 12 + 4, none⟩ = some (.int .u64 (ww3 (q c).2.1)) ∧ w'.cell? ⟨A, off + c * 12 + 5, none⟩ = some (.int .u64 (ww2 (q c).2.1)) ∧ w'.cell? ⟨A, off + c * 12 + 6, none⟩ = some (.int .u64 (ww1 (q c).2.1)) ∧ w'.cell? ⟨A, off + c * 12 + 7, none⟩ = some (.int .u64 (ww0 (q c).2.1)) ∧ w'.cell? ⟨A, off + c * 12 + 8, none⟩ = some (.int .u64 (ww3 (q c).2.2)) ∧ w'.cell? ⟨A, off + c * 12 + 9, none⟩ = some (.int .u64 (ww2 (q c).2.2)) ∧ w'.cell? ⟨A, off + c * 12 + 10, none⟩ = some (.int .u64 (ww1 (q c).2.2)) ∧ w'.cell? ⟨A, off + c * 12 + 11, none⟩ = some (.int .u64 (ww0 (q c).2.2)) ∧ w'.cell? ⟨B, of2 + c * 12, none⟩ = some (.int .u64 (ww3 (q c).1)) ∧ w'.cell? ⟨B, of2 + c * 12 + 1, none⟩ = some (.int .u64 (ww2 (q c).1)) ∧ w'.cell? ⟨B, of2 + c * 12 + 2, none⟩ = some (.int .u64 (ww1 (q c).1)) ∧ w'.cell? ⟨B, of2 + c * 12 + 3, none⟩ = some (.int .u64 (ww0 (q c).1)) ∧ w'.cell? ⟨B, of2 + c * 12 + 4, none⟩ = some (.int .u64 (ww3 (q c).2.1)) ∧ w'.cell? ⟨B, of2 + c * 12 + 5, none⟩ = some (.int .u64 (ww2 (q c).2.1)) ∧ w'.cell? ⟨B, of2 + c * 12 + 6, none⟩ = some (.int .u64 (ww1 (q c).2.1)) ∧ w'.cell? ⟨B, of2 + c * 12 + 7, none⟩ = some (.int .u64 (ww0 (q c).2.1)) ∧ w'.cell? ⟨B, of2 + c * 12 + 8, none⟩ = some (.int .u64 (ww3 (q c).2.2)) ∧ w'.cell? ⟨B, of2 + c * 12 + 9, none⟩ = some (.int .u64 (ww2 (q c).2.2)) ∧ w'.cell? ⟨B, of2 + c * 12 + 10, none⟩ = some (.int .u64 (ww1 (q c).2.2)) ∧ w'.cell? ⟨B, of2 + c * 12 + 11, none⟩ = some (.int .u64 (ww0 (q c).2.2))) (first | (exact KS) | (exact KS'))
        (first
          | (go_at_call 75; refine (eqPoint_same (ww3 (q c).1) (ww2 (q c).1) (ww1 (q c).1) (ww0 (q c).1) (ww3 (q c).2.1) (ww2 (q c).2.1) (ww1 (q c).2.1) (ww0 (q c).2.1) (ww3 (q c).2.2) (ww2 (q c).2.2) (ww1 (q c).2.2) (ww0 (q c).2.2) _).mono ?_; rintro e w1 ⟨rfl, hB⟩; have KS' : (fun w' => w'.cell? ⟨A, off + c * 12, none⟩ = some (.int .u64 (ww3 (q c).1)) ∧ w'.cell? ⟨A, off + c * 12 + 1, none⟩ = some (.int .u64 (ww2 (q c).1)) ∧ w'.cell? ⟨A, off + c * 12 + 2, none⟩ = some (.int .u64 (ww1 (q c).1)) ∧ w'.cell? ⟨A, off + c * 12 + 3, none⟩ = some (.int .u64 (ww0 (q c).1)) ∧ w'.cell? ⟨A, off + c * 12 + 4, none⟩ = some (.int .u64 (ww3 (q c).2.1)) ∧ w'.cell? ⟨A, off + c * 12 + 5, none⟩ = some (.int .u64 (ww2 (q c).2.1)) ∧ w'.cell? ⟨A, off + c * 12 + 6, none⟩ = some (.int .u64 (ww1 (q c).2.1)) ∧ w'.cell? ⟨A, off + c * 12 + 7, none⟩ = some (.int .u64 (ww0 (q c).2.1)) ∧ w'.cell? ⟨A, off + c * 12 + 8, none⟩ = some (.int .u64 (ww3 (q c).2.2)) ∧ w'.cell? ⟨A, off + c * 12 + 9, none⟩ = some (.int .u64 (ww2 (q c).2.2)) ∧ w'.cell? ⟨A, off + c * 12 + 10, none⟩ = some (.int .u64 (ww1 (q c).2.2)) ∧ w'.cell? ⟨A, off + c * 12 + 11, none⟩ = some (.int .u64 (ww0 (q c).2.2)) ∧ w'.cell? ⟨B, of2 + c * 12, none⟩ = some (.int .u64 (ww3 (q c).1)) ∧ w'.cell? ⟨B, of2 + c * 12 + 1, none⟩ = some (.int .u64 (ww2 (q c).1)) ∧ w'.cell? ⟨B, of2 + c * 12 + 2, none⟩ = some (.int .u64 (ww1 (q c).1)) ∧ w'.cell? ⟨B, of2 + c * 12 + 3, none⟩ = some (.int .u64 (ww0 (q c).1)) ∧ w'.cell? ⟨B, of2 + c * 12 + 4, none⟩ = some (.int .u64 (ww3 (q c).2.1)) ∧ w'.cell? ⟨B, of2 + c * 12 + 5, none⟩ = some (.int .u64 (ww2 (q c).2.1)) ∧ w'.cell? ⟨B, of2 + c * 12 + 6, none⟩ = some (.int .u64 (ww1 (q c).2.1)) ∧ w'.cell? ⟨B, of2 + c * 12 + 7, none⟩ = some (.int .u64 (ww0 (q c).2.1)) ∧ w'.cell? ⟨B, of2 + c * 12 + 8, none⟩ = some (.int .u64 (ww3 (q c).2.2)) ∧ w'.cell? ⟨B, of2 + c * 12 + 9, none⟩ = some (.int .u64 (ww2 (q c).2.2)) ∧ w'.cell? ⟨B, of2 + c * 12 + 10, none⟩ = some (.int .u64 (ww1 (q c).2.2)) ∧ w'.cell? ⟨B, of2 + c * 12 + 11, none⟩ = some (.int .u64 (ww0 (q c).2.2))) w1 := ⟨(hB.cell (p := ⟨A, _, none⟩) hA).trans q0, (hB.cell (p := ⟨A, _, none⟩) hA).trans q1, (hB.cell (p := ⟨A, _, none⟩) hA).trans q2, (hB.cell (p := ⟨A, _, none⟩) hA).trans q3, (hB.cell (p := ⟨A, _, none⟩) hA).trans q4, (hB.cell (p := ⟨A, _, none⟩) hA).trans q5, (hB.cell (p := ⟨A, _, none⟩) hA).trans q6, (hB.cell (p := ⟨A, _, none⟩) hA).trans q7, (hB.cell (p := ⟨A, _, none⟩) hA).trans q8, (hB.cell (p := ⟨A, _, none⟩) hA).trans q9, (hB.cell (p := ⟨A, _, none⟩) hA).trans q10, (hB.cell (p := ⟨A, _, none⟩) hA).trans q11, (hB.cell (p := ⟨B, _, none⟩) hB').trans r0, (hB.cell (p := ⟨B, _, none⟩) hB').trans r1, (hB.cell (p := ⟨B, _, none⟩) hB').trans r2, (hB.cell (p := ⟨B, _, none⟩) hB').trans r3, (hB.cell (p := ⟨B, _, none⟩) hB').trans r4, (hB.cell (p := ⟨B, _, none⟩) hB').trans r5, (hB.cell (p := ⟨B, _, none⟩) hB').trans r6, (hB.cell (p := ⟨B, _, none⟩) hB').trans r7, (hB.cell (p := ⟨B, _, none⟩) hB').trans r8, (hB.cell (p := ⟨B, _, none⟩) hB').trans r9, (hB.cell (p := ⟨B, _, none⟩) hB').trans r10, (hB.cell (p := ⟨B, _, none⟩) hB').trans r11⟩; (first | (have HB2 := HB.trans (hB.mono HB.size)) | (have HB2 := HB.drew.trans (hB.mono HB.drew.size))); clear hB))
      all_goals clear HB KS q0 r0 q1 r1 q2 r2 q3 r3 q4 r4 q5 r5 q6 r6 q7 r7 q8 r8 q9 r9 q10 r10 q11 r11
      all_goals go_wp2
      all_goals go_roundw
      case rel => exact ⟨c + 1, by omega, by go_num, HB2⟩
      case measure => simp [intOf]; omega
    · obtain rfl : c = n := by omega
      clear HA HC
      go_wp2
      go_ret
      exact ⟨rfl, HB⟩
end Go.Proofs.Ytofjlobbohfacaa

/- Rows of loops of points: how they lie, and the walks over them. -/
namespace Go.Proofs.Ytofjlobbohfacaa
open Go.RowKit
abbrev Qs := Nat → Int × Int × Int
/-- n loops lie behind a slice's address: each a slice of points. -/
def LpIn (w : World) (ao : Option Addr) (n : Nat) (S : Nat → Option Addr × Nat) (L : Nat → Nat) (q : Nat → Qs) : Prop :=
  ∀ i, i < n → ∃ A off, ao = some ⟨A, off, none⟩ ∧ A < w.heap.size ∧ w.cell? ⟨A, off + i, none⟩ = some (.slice (S i).1 (L i) (S i).2) ∧ PtIn w (S i).1 (L i) (q i)
theorem LpIn.step {w w' : World} {ao : Option Addr} {n : Nat} {S : Nat → Option Addr × Nat} {L : Nat → Nat} {q : Nat → Qs} (h : LpIn w ao n S L q) (hB : Below w.heap.size w w') : LpIn w' ao n S L q := fun i hi => by
  obtain ⟨A, off, e, hA, hc, hp⟩ := h i hi
  exact ⟨A, off, e, Nat.lt_of_lt_of_le hA hB.size, (hB.cell (p := ⟨A, off + i, none⟩) hA).trans hc, hp.step hB⟩
/-- All parts of the points are told. -/
def ToldQ (n : Nat) (L : Nat → Nat) (q : Nat → Qs) : Prop := ∀ i, i < n → ∀ k, k < L i → told (q i k).1 = true ∧ told (q i k).2.1 = true ∧ told (q i k).2.2 = true
def sumL (L : Nat → Nat) : Nat → Nat
  | 0 => 0
  | n + 1 => sumL L n + L n
theorem sumL_le (L : Nat → Nat) {m n : Nat} (h : m ≤ n) : sumL L m ≤ sumL L n := by
  induction n with
  | zero => obtain rfl : m = 0 := by omega
            exact Nat.le_refl _
  | succ k ih =>
    rcases Nat.lt_or_ge m (k + 1) with h' | h'
    · have := ih (by omega)
      show sumL L m ≤ sumL L k + L k
      omega
    · obtain rfl : m = k + 1 := by omega
      exact Nat.le_refl _
theorem sumL_bound (L : Nat → Nat) (b : Nat) (n : Nat) (h : ∀ i, i < n → L i ≤ b) : sumL L n ≤ n * b := by
  induction n with
  | zero => simp [sumL]
  | succ k ih =>
    have h1 := ih (fun i hi => h i (by omega))
    have h2 := h k (by omega)
    show sumL L k + L k ≤ (k + 1) * b
    rw [Nat.succ_mul]
    omega
/-- Whether a loop's points are right. -/
def rowB (m : Nat) (q : Qs) : Bool := decide (∀ k, k < m → ptB (q k).1 (q k).2.1 (q k).2.2 = true)
/-- Whether the loops are so. -/
def lpB (n : Nat) (L : Nat → Nat) (q : Nat → Qs) : Bool := decide (n ≤ 40 ∧ (∀ i, i < n → 3 ≤ L i) ∧ sumL L n ≤ 200 ∧ ∀ i, i < n → rowB (L i) (q i) = true)
theorem lpB_no {n : Nat} {L : Nat → Nat} {q : Nat → Qs} (h : ¬ (n ≤ 40 ∧ (∀ i, i < n → 3 ≤ L i) ∧ sumL L n ≤ 200 ∧ ∀ i, i < n → rowB (L i) (q i) = true)) : lpB n L q = false := by
  unfold lpB
  exact decide_eq_false h
theorem rowB_no {m : Nat} {q : Qs} {k : Nat} (hk : k < m) (h : ¬ ptB (q k).1 (q k).2.1 (q k).2.2 = true) : rowB m q = false := by
  unfold rowB
  exact decide_eq_false (fun hh => h (hh k hk))
theorem rowB_yes {m : Nat} {q : Qs} (h : ∀ k, k < m → ptB (q k).1 (q k).2.1 (q k).2.2 = true) : rowB m q = true := by
  unfold rowB
  exact decide_eq_true h
set_option maxRecDepth 100000 in
set_option maxHeartbeats 2000000 in
theorem specLoopsOk_any (ao : Option Addr) (n cap : Nat) (S : Nat → Option Addr × Nat) (L : Nat → Nat) (q : Nat → Qs) (w : World) (hS : LpIn w ao n S L q) (hT : ToldQ n L q) (hL : ∀ i, i < n → L i ≤ 1048576) : Calls Try.prog 23 #[.slice ao n cap] w (VP (.bool (lpB n L q)) w) := by
  by_cases hn : 40 < n
  · have HO : Hid (lpB n L q = false) := lpB_no (fun h => by omega)
    go_enter Try.func23, Try.ntmps23
    have hn' : (40 : Int) < n := by omega
    clear hS hT hL
    go_wp2
    go_ret
    exact ⟨by rw [HO.out]; rfl, Below.refl _ _⟩
  · go_enter Try.func23, Try.ntmps23
    have hn' : (n : Int) ≤ 40 := by omega
    have HS : Hid (LpIn w ao n S L q) := hS
    have HT : Hid (ToldQ n L q) := hT
    have HL : Hid (∀ i, i < n → L i ≤ 1048576) := hL
    clear hS hT hL
    go_wp2_with fail
    go_loopw [3, 4] (fun s i wr => ∃ c : Nat, c ≤ n ∧ i = .int .i64 c ∧ s = .int .i64 (sumL L c) ∧ sumL L c ≤ 200 ∧ (∀ j, j < c → 3 ≤ L j) ∧ (∀ j, j < c → rowB (L j) (q j) = true) ∧ Below w.heap.size w wr) (fun _ i _ => n - (intOf i).toNat)
    case atStart => exact ⟨0, by omega, rfl, rfl, by simp [sumL], fun j hj => by omega, fun j hj => by omega, Below.refl _ _⟩
    case round =>
      obtain ⟨c, hc, rfl, rfl, hsum, h3, hall, HB⟩ := hrel
      have H3 : Hid (∀ j, j < c → 3 ≤ L j) := h3
      have HA : Hid (∀ j, j < c → rowB (L j) (q j) = true) := hall
      clear hall h3
      by_cases hcn : c < n
      · obtain ⟨A, off, rfl, hA, hcell, hrow⟩ := HS.out.step HB c hcn
        have hLc := HL.out c hcn
        have hTc := HT.out c hcn
        have HR : Hid (PtIn wr (S c).1 (L c) (q c)) := hrow
        have HTc : Hid (∀ k, k < L c → told (q c k).1 = true ∧ told (q c k).2.1 = true ∧ told (q c k).2.2 = true) := hTc
        have hcI : (c : Int) < n := by omega
        have hs1 : sumL L (c + 1) = sumL L c + L c := rfl
        have hsI : (sumL L c : Int) ≤ 200 := by omega
        have hLI : (L c : Int) ≤ 1048576 := by omega
        clear hrow hTc
        by_cases hb : L c < 3 ∨ 200 < sumL L c + L c
        · have HO : Hid (lpB n L q = false) := lpB_no (fun h => by
            rcases hb with h' | h'
            · have := h.2.1 c hcn; omega
            · have := sumL_le L (show c + 1 ≤ n by omega); have := h.2.2.1; omega)
          rcases hb with h' | h'
          · have h'I : (L c : Int) < 3 := by omega
            clear HS HT HL HR HTc H3 HA hs1
            go_wp2
            go_ret
            exact ⟨by rw [HO.out]; rfl, HB⟩
          · have h'I : (200 : Int) < sumL L c + L c := by omega
            by_cases h2 : L c < 3
            · have h2I : (L c : Int) < 3 := by omega
              clear HS HT HL HR HTc H3 HA hs1
              go_wp2
              go_ret
              exact ⟨by rw [HO.out]; rfl, HB⟩
            · have h2I : (3 : Int) ≤ L c := by omega
              clear HS HT HL HR HTc H3 HA hs1
              go_wp2
              go_ret
              exact ⟨by rw [HO.out]; rfl, HB⟩
        · have h2I : (3 : Int) ≤ L c := by omega
          have h'I : (sumL L c : Int) + L c ≤ 200 := by omega
          have hcb : (c : Int) ≤ 40 := by omega
          go_wp2_with fail
          go_loopw [5] (fun k wk => ∃ d : Nat, d ≤ L c ∧ k = .int .i64 d ∧ (∀ j, j < d → ptB (q c j).1 (q c j).2.1 (q c j).2.2 = true) ∧ Below wr.heap.size wr wk) (fun k _ => L c - (intOf k).toNat)
          case atStart => exact ⟨0, by omega, rfl, fun j hj => by omega, Below.refl _ _⟩
          case round =>
            rename_i hrel
            obtain ⟨d, hd, rfl, hp, HB2⟩ := hrel
            have HP : Hid (∀ j, j < d → ptB (q c j).1 (q c j).2.1 (q c j).2.2 = true) := hp
            clear hp
            have hcell2 := (HB2.cell (p := ⟨A, off + c, none⟩) hA).trans hcell
            by_cases hdn : d < L c
            · obtain ⟨B, of2, hsc, hB', q0, q1, q2, q3, q4, q5, q6, q7, q8, q9, q10, q11⟩ := (HR.out.step HB2).at hdn
              rw [hsc] at hcell2
              obtain ⟨t1, t2, t3⟩ := HTc.out d hdn
              have PO := specPointOk_det (q c d).1 (q c d).2.1 (q c d).2.2 t1 t2 t3
              have hdI : (d : Int) < L c := by omega
              clear t1 t2 t3 hcell hsc
              go_wp2_with fail
              refine (PO _).mono ?_
              rintro e w1 ⟨rfl, hB⟩
              replace HB2 := HB2.trans (hB.mono HB2.size)
              clear hB PO q0 q1 q2 q3 q4 q5 q6 q7 q8 q9 q10 q11 hB'
              by_cases hk : ptB (q c d).1 (q c d).2.1 (q c d).2.2 = true
              · rw [hk]
                have HK : Hid (ptB (q c d).1 (q c d).2.1 (q c d).2.2 = true) := hk
                clear hk
                go_wp2
                go_roundw
                case rel => exact ⟨d + 1, by omega, by go_num, fun j hj => by
                  rcases Nat.lt_or_ge j d with h | h
                  · exact HP.out j h
                  · obtain rfl : j = d := by omega
                    exact HK.out, HB2⟩
                case measure => simp [intOf]; omega
              · have HO : Hid (lpB n L q = false) := lpB_no (fun h => by
                  have := h.2.2.2 c hcn
                  rw [rowB_no hdn hk] at this
                  cases this)
                rw [Bool.eq_false_iff.2 hk]
                have HBF := HB.trans (HB2.mono HB.size)
                clear hk
                go_wp2
                go_ret
                exact ⟨by rw [HO.out]; rfl, HBF⟩
            · obtain rfl : d = L c := by omega
              have HQ : Hid (rowB (L c) (q c) = true) := rowB_yes HP.out
              have HBF := HB.trans (HB2.mono HB.size)
              clear HP
              go_wp2
              go_roundw
              case rel => exact ⟨c + 1, by omega, by go_num, by show _ = Value.int _ ((sumL L c + L c : Nat) : Int); go_num, by show sumL L c + L c ≤ 200; omega, fun j hj => by
                rcases Nat.lt_or_ge j c with h | h
                · exact H3.out j h
                · obtain rfl : j = c := by omega
                  omega, fun j hj => by
                rcases Nat.lt_or_ge j c with h | h
                · exact HA.out j h
                · obtain rfl : j = c := by omega
                  exact HQ.out, HBF⟩
              case measure => simp [intOf]; omega
      · obtain rfl : c = n := by omega
        have HO : Hid (lpB c L q = true) := by
          show _ = _
          unfold lpB
          exact decide_eq_true ⟨by omega, H3.out, hsum, HA.out⟩
        clear HA HS HT HL H3
        go_wp2
        go_ret
        exact ⟨by rw [HO.out]; rfl, HB⟩
end Go.Proofs.Ytofjlobbohfacaa

/- Rows of loops of points: the program's walks. -/
namespace Go.Proofs.Ytofjlobbohfacaa
open Go.RowKit
set_option maxRecDepth 100000 in
set_option maxHeartbeats 2000000 in
theorem loopRight_any (ao : Option Addr) (m cap : Nat) (q : Qs) (w : World) (hS : PtIn w ao m q) (hT : ∀ k, k < m → told (q k).1 = true ∧ told (q k).2.1 = true ∧ told (q k).2.2 = true) (hm : m ≤ 1048576) : Calls Try.prog 62 #[.agg #[.slice ao m cap]] w (VP (.bool (rowB m q)) w) := by
  have B0 := Blk.new w [.slice ao m cap] 68 rfl
  have HB0 : Below w.heap.size w (w.alloc (.cells #[.slice ao m cap] 68)) := (Below.refl _ w).alloc (Nat.le_refl _) _
  have hmI : (m : Int) ≤ 1048576 := by omega
  have HS : Hid (PtIn (w.alloc (.cells #[.slice ao m cap] 68)) ao m q) := hS.step ((Below.refl _ w).alloc (Nat.le_refl _) _)
  have HT : Hid (∀ k, k < m → told (q k).1 = true ∧ told (q k).2.1 = true ∧ told (q k).2.2 = true) := hT
  clear hS hT
  go_enter Try.func62, Try.ntmps62
  have b0 := B0.c 0 rfl
  go_wp2_with fail
  generalize w.alloc (.cells #[.slice ao m cap] 68) = W1 at *
  go_loopw [8] (fun i wr => ∃ c : Nat, c ≤ m ∧ i = .int .i64 c ∧ (∀ j, j < c → ptB (q j).1 (q j).2.1 (q j).2.2 = true) ∧ Below W1.heap.size W1 wr) (fun i _ => m - (intOf i).toNat)
  case atStart => exact ⟨0, by omega, rfl, fun j hj => by omega, Below.refl _ _⟩
  case round =>
    obtain ⟨c, hc, rfl, hall, HB⟩ := hrel
    have HA : Hid (∀ j, j < c → ptB (q j).1 (q j).2.1 (q j).2.2 = true) := hall
    clear hall b0
    by_cases hcn : c < m
    · obtain ⟨A, off, rfl, hA, q0, q1, q2, q3, q4, q5, q6, q7, q8, q9, q10, q11⟩ := (HS.out.step HB).at hcn
      obtain ⟨t1, t2, t3⟩ := HT.out c hcn
      have PO := pright_det (q c).1 (q c).2.1 (q c).2.2 t1 t2 t3
      have hcI : (c : Int) < m := by omega
      clear t1 t2 t3 B0
      go_wp2_with fail
      refine (PO _).mono ?_
      rintro e w1 ⟨rfl, hB⟩
      replace HB := (HB.alloc HB.size _).trans (hB.mono (HB.alloc HB.size _).size)
      clear hB PO q0 q1 q2 q3 q4 q5 q6 q7 q8 q9 q10 q11 hA
      by_cases hk : ptB (q c).1 (q c).2.1 (q c).2.2 = true
      · rw [hk]
        have HK : Hid (ptB (q c).1 (q c).2.1 (q c).2.2 = true) := hk
        clear hk
        go_wp2
        go_roundw
        case rel => exact ⟨c + 1, by omega, by go_num, fun j hj => by
          rcases Nat.lt_or_ge j c with h | h
          · exact HA.out j h
          · obtain rfl : j = c := by omega
            exact HK.out, HB⟩
        case measure => simp [intOf]; omega
      · have HO : Hid (rowB m q = false) := rowB_no hcn hk
        rw [Bool.eq_false_iff.2 hk]
        have HBF := HB0.trans (HB.mono HB0.size)
        clear hk
        go_wp2
        go_ret
        exact ⟨by rw [HO.out]; rfl, HBF⟩
    · obtain rfl : c = m := by omega
      have HO : Hid (rowB c q = true) := rowB_yes HA.out
      have HBF := HB0.trans (HB.mono HB0.size)
      clear HA HS HT B0
      go_wp2
      go_ret
      exact ⟨by rw [HO.out]; rfl, HBF⟩
set_option maxRecDepth 100000 in
set_option maxHeartbeats 2000000 in
theorem implLoopsOk_any (ao : Option Addr) (n cap : Nat) (S : Nat → Option Addr × Nat) (L : Nat → Nat) (q : Nat → Qs) (w : World) (hS : LpIn w ao n S L q) (hT : ToldQ n L q) (hL : ∀ i, i < n → L i ≤ 1048576) : Calls Try.prog 30 #[.slice ao n cap] w (VP (.bool (lpB n L q)) w) := by
  by_cases hn : 40 < n
  · have HO : Hid (lpB n L q = false) := lpB_no (fun h => by omega)
    go_enter Try.func30, Try.ntmps30
    have hn' : (40 : Int) < n := by omega
    clear hS hT hL
    go_wp2
    go_ret
    exact ⟨by rw [HO.out]; rfl, Below.refl _ _⟩
  · go_enter Try.func30, Try.ntmps30
    have hn' : (n : Int) ≤ 40 := by omega
    have HS : Hid (LpIn w ao n S L q) := hS
    have HT : Hid (ToldQ n L q) := hT
    have HL : Hid (∀ i, i < n → L i ≤ 1048576) := hL
    clear hS hT hL
    go_wp2_with fail
    go_loopw [3, 13] (fun s i wr => ∃ c : Nat, c ≤ n ∧ i = .int .i64 c ∧ s = .int .i64 (sumL L c) ∧ (∀ j, j < c → 3 ≤ L j) ∧ Below w.heap.size w wr) (fun _ i _ => n - (intOf i).toNat)
    case atStart => exact ⟨0, by omega, rfl, rfl, fun j hj => by omega, Below.refl _ _⟩
    case round =>
      obtain ⟨c, hc, rfl, rfl, h3, HB⟩ := hrel
      have H3 : Hid (∀ j, j < c → 3 ≤ L j) := h3
      clear h3
      have hsb := sumL_bound L 1048576 c (fun i hi => HL.out i (by omega))
      have hsI : (sumL L c : Int) ≤ 41943040 := by omega
      by_cases hcn : c < n
      · obtain ⟨A, off, rfl, hA, hcell, -⟩ := HS.out.step HB c hcn
        have hLc := HL.out c hcn
        have hcI : (c : Int) < n := by omega
        have hLI : (L c : Int) ≤ 1048576 := by omega
        have HBA := HB.alloc HB.size (.cells #[.slice (S c).1 (L c) (S c).2] 68)
        have G := Blk.new wr [.slice (S c).1 (L c) (S c).2] 68 rfl
        have g0 := G.c 0 rfl
        by_cases h2 : L c < 3
        · have HO : Hid (lpB n L q = false) := lpB_no (fun h => by have := h.2.1 c hcn; omega)
          have h2I : (L c : Int) < 3 := by omega
          clear HS HT HL H3 hsb G
          go_wp2
          go_ret
          exact ⟨by rw [HO.out]; rfl, HBA⟩
        · have h2I : (3 : Int) ≤ L c := by omega
          have hcb : (c : Int) ≤ 40 := by omega
          clear hsb G
          go_wp2
          go_roundw
          case rel => exact ⟨c + 1, by omega, by go_num, by show _ = Value.int _ ((sumL L c + L c : Nat) : Int); go_num, fun j hj => by
            rcases Nat.lt_or_ge j c with h | h
            · exact H3.out j h
            · obtain rfl : j = c := by omega
              omega, HBA⟩
          case measure => simp [intOf]; omega
      · obtain rfl : c = n := by omega
        by_cases hs : 200 < sumL L c
        · have HO : Hid (lpB c L q = false) := lpB_no (fun h => by have := h.2.2.1; omega)
          have hs' : (200 : Int) < sumL L c := by omega
          clear HS HT HL H3 hsb
          go_wp2
          go_ret
          exact ⟨by rw [HO.out]; rfl, HB⟩
        · have hs' : (sumL L c : Int) ≤ 200 := by omega
          clear hsb
          go_wp2_with fail
          go_loopw [31] (fun i wk => ∃ d : Nat, d ≤ c ∧ i = .int .i64 d ∧ (∀ j, j < d → rowB (L j) (q j) = true) ∧ Below w.heap.size w wk) (fun i _ => c - (intOf i).toNat)
          case atStart => exact ⟨0, by omega, rfl, fun j hj => by omega, HB⟩
          case round =>
            rename_i hrel
            obtain ⟨d, hd, rfl, hp, HB2⟩ := hrel
            have HP : Hid (∀ j, j < d → rowB (L j) (q j) = true) := hp
            clear hp HB
            by_cases hdn : d < c
            · obtain ⟨A, off, rfl, hA, hcell, hrow⟩ := HS.out.step HB2 d hdn
              have hdI : (d : Int) < c := by omega
              have HBA := HB2.alloc HB2.size (.cells #[.slice (S d).1 (L d) (S d).2] 68)
              have G := Blk.new wr [.slice (S d).1 (L d) (S d).2] 68 rfl
              have LR := fun w h => loopRight_any (S d).1 (L d) (S d).2 (q d) w h (HT.out d hdn) (HL.out d hdn)
              have g0 := G.c 0 rfl
              have HR := hrow.step ((Below.refl _ _).alloc (Nat.le_refl _) (.cells #[.slice (S d).1 (L d) (S d).2] 68))
              clear hrow G
              go_wp2_with fail
              refine (LR _ HR).mono ?_
              rintro e w1 ⟨rfl, hB⟩
              replace HBA := HBA.trans (hB.mono HBA.size)
              clear hB LR HR g0 HB2
              by_cases hk : rowB (L d) (q d) = true
              · rw [hk]
                have HK : Hid (rowB (L d) (q d) = true) := hk
                clear hk
                go_wp2
                go_roundw
                case rel => exact ⟨d + 1, by omega, by go_num, fun j hj => by
                  rcases Nat.lt_or_ge j d with h | h
                  · exact HP.out j h
                  · obtain rfl : j = d := by omega
                    exact HK.out, HBA⟩
                case measure => simp [intOf]; omega
              · have HO : Hid (lpB c L q = false) := lpB_no (fun h => hk (h.2.2.2 d hdn))
                rw [Bool.eq_false_iff.2 hk]
                clear hk
                go_wp2
                go_ret
                exact ⟨by rw [HO.out]; rfl, HBA⟩
            · obtain rfl : d = c := by omega
              have HO : Hid (lpB d L q = true) := by
                show _ = _
                unfold lpB
                exact decide_eq_true ⟨by omega, H3.out, by omega, HP.out⟩
              clear HP HS HT HL H3
              go_wp2
              go_ret
              exact ⟨by rw [HO.out]; rfl, HB2⟩
end Go.Proofs.Ytofjlobbohfacaa

/- How a point lies to one loop: the program's walk. -/
namespace Go.Proofs.Ytofjlobbohfacaa
open Go.RowKit
/-- How a point lies to one loop, as the program asks. -/
def sdI (m : Nat) (q : Qs) (a b c : Int) : Int := if onI m q a b c m = true then 0 else if paI m q a b c m = true then 1 else -1
theorem onI_mono (m : Nat) (q : Qs) (a b c : Int) {d e : Nat} (h : d ≤ e) (ho : onI m q a b c d = true) : onI m q a b c e = true := by
  induction e with
  | zero => obtain rfl : d = 0 := by omega
            exact ho
  | succ k ih =>
    rcases Nat.lt_or_ge d (k + 1) with h' | h'
    · rw [onI, ih (by omega)]; rfl
    · obtain rfl : d = k + 1 := by omega
      exact ho
theorem pvN_lt {m d : Nat} (h : d < m) : pvN m d < m := by
  cases d with
  | zero => show m - 1 < m; omega
  | succ k => show k < m; omega
set_option maxRecDepth 100000 in
set_option maxHeartbeats 8000000 in
theorem loopSide_any (ao : Option Addr) (m cap : Nat) (q : Qs) (a b c : Int) (hm0 : 1 ≤ m) (hm : m ≤ 1048576) (hR : ∀ k, k < m → ptB (q k).1 (q k).2.1 (q k).2.2 = true) (hp : ptB a b c = true) (w : World) (hS : PtIn w ao m q) : Calls Try.prog 32 #[.agg #[.slice ao m cap], PV a b c] w (VP (.int .i64 (sdI m q a b c)) w) := by
  obtain ⟨hc, sa, sb, sc⟩ := ptB_small hp
  have B0 := ((Blk.new w [.slice ao m cap] 68 rfl).alloc (.cells #[.int .u64 (ww3 a), .int .u64 (ww2 a), .int .u64 (ww1 a), .int .u64 (ww0 a), .int .u64 (ww3 b), .int .u64 (ww2 b), .int .u64 (ww1 b), .int .u64 (ww0 b), .int .u64 (ww3 c), .int .u64 (ww2 c), .int .u64 (ww1 c), .int .u64 (ww0 c)] 34)).alloc (.cells #[.int .u64 (ww3 (q (m - 1)).1), .int .u64 (ww2 (q (m - 1)).1), .int .u64 (ww1 (q (m - 1)).1), .int .u64 (ww0 (q (m - 1)).1), .int .u64 (ww3 (q (m - 1)).2.1), .int .u64 (ww2 (q (m - 1)).2.1), .int .u64 (ww1 (q (m - 1)).2.1), .int .u64 (ww0 (q (m - 1)).2.1), .int .u64 (ww3 (q (m - 1)).2.2), .int .u64 (ww2 (q (m - 1)).2.2), .int .u64 (ww1 (q (m - 1)).2.2), .int .u64 (ww0 (q (m - 1)).2.2)] 34)
  have B1 := (Blk.new (w.alloc (.cells #[.slice ao m cap] 68)) [.int .u64 (ww3 a), .int .u64 (ww2 a), .int .u64 (ww1 a), .int .u64 (ww0 a), .int .u64 (ww3 b), .int .u64 (ww2 b), .int .u64 (ww1 b), .int .u64 (ww0 b), .int .u64 (ww3 c), .int .u64 (ww2 c), .int .u64 (ww1 c), .int .u64 (ww0 c)] 34 (g := w.heap.size + 1) (by simp)).alloc (.cells #[.int .u64 (ww3 (q (m - 1)).1), .int .u64 (ww2 (q (m - 1)).1), .int .u64 (ww1 (q (m - 1)).1), .int .u64 (ww0 (q (m - 1)).1), .int .u64 (ww3 (q (m - 1)).2.1), .int .u64 (ww2 (q (m - 1)).2.1), .int .u64 (ww1 (q (m - 1)).2.1), .int .u64 (ww0 (q (m - 1)).2.1), .int .u64 (ww3 (q (m - 1)).2.2), .int .u64 (ww2 (q (m - 1)).2.2), .int .u64 (ww1 (q (m - 1)).2.2), .int .u64 (ww0 (q (m - 1)).2.2)] 34)
  have B2 := Blk.new ((w.alloc (.cells #[.slice ao m cap] 68)).alloc (.cells #[.int .u64 (ww3 a), .int .u64 (ww2 a), .int .u64 (ww1 a), .int .u64 (ww0 a), .int .u64 (ww3 b), .int .u64 (ww2 b), .int .u64 (ww1 b), .int .u64 (ww0 b), .int .u64 (ww3 c), .int .u64 (ww2 c), .int .u64 (ww1 c), .int .u64 (ww0 c)] 34)) [.int .u64 (ww3 (q (m - 1)).1), .int .u64 (ww2 (q (m - 1)).1), .int .u64 (ww1 (q (m - 1)).1), .int .u64 (ww0 (q (m - 1)).1), .int .u64 (ww3 (q (m - 1)).2.1), .int .u64 (ww2 (q (m - 1)).2.1), .int .u64 (ww1 (q (m - 1)).2.1), .int .u64 (ww0 (q (m - 1)).2.1), .int .u64 (ww3 (q (m - 1)).2.2), .int .u64 (ww2 (q (m - 1)).2.2), .int .u64 (ww1 (q (m - 1)).2.2), .int .u64 (ww0 (q (m - 1)).2.2)] 34 (g := w.heap.size + 1 + 1) (by simp)
  have HB0 : Below w.heap.size w (((w.alloc (.cells #[.slice ao m cap] 68)).alloc (.cells #[.int .u64 (ww3 a), .int .u64 (ww2 a), .int .u64 (ww1 a), .int .u64 (ww0 a), .int .u64 (ww3 b), .int .u64 (ww2 b), .int .u64 (ww1 b), .int .u64 (ww0 b), .int .u64 (ww3 c), .int .u64 (ww2 c), .int .u64 (ww1 c), .int .u64 (ww0 c)] 34)).alloc (.cells #[.int .u64 (ww3 (q (m - 1)).1), .int .u64 (ww2 (q (m - 1)).1), .int .u64 (ww1 (q (m - 1)).1), .int .u64 (ww0 (q (m - 1)).1), .int .u64 (ww3 (q (m - 1)).2.1), .int .u64 (ww2 (q (m - 1)).2.1), .int .u64 (ww1 (q (m - 1)).2.1), .int .u64 (ww0 (q (m - 1)).2.1), .int .u64 (ww3 (q (m - 1)).2.2), .int .u64 (ww2 (q (m - 1)).2.2), .int .u64 (ww1 (q (m - 1)).2.2), .int .u64 (ww0 (q (m - 1)).2.2)] 34)) := (((Below.refl _ w).alloc (Nat.le_refl _) _).alloc (by simp) _).alloc (by simp; omega) _
  have HB2 : Below w.heap.size w ((w.alloc (.cells #[.slice ao m cap] 68)).alloc (.cells #[.int .u64 (ww3 a), .int .u64 (ww2 a), .int .u64 (ww1 a), .int .u64 (ww0 a), .int .u64 (ww3 b), .int .u64 (ww2 b), .int .u64 (ww1 b), .int .u64 (ww0 b), .int .u64 (ww3 c), .int .u64 (ww2 c), .int .u64 (ww1 c), .int .u64 (ww0 c)] 34)) := ((Below.refl _ w).alloc (Nat.le_refl _) _).alloc (by simp) _
  have hmI : (m : Int) ≤ 1048576 := by omega
  have hmI0 : (1 : Int) ≤ m := by omega
  obtain ⟨A, off, rfl, hA, q0, q1, q2, q3, q4, q5, q6, q7, q8, q9, q10, q11⟩ := (hS.step HB2).at (show m - 1 < m by omega)
  have HS0 : Hid (PtIn w (some ⟨A, off, none⟩) m q) := hS
  have HR : Hid (∀ k, k < m → ptB (q k).1 (q k).2.1 (q k).2.2 = true) := hR
  have hmc : ((m : Int) - 1) = ((m - 1 : Nat) : Int) := by omega
  have hm1 : (m - 1 : Nat) < m := by omega
  clear hS hR HB2
  go_enter Try.func32, Try.ntmps32
  have b0 := (Blk.new w [.slice (some ⟨A, off, none⟩) m cap] 68 rfl).c 0 rfl
  go_upto_region 3 with fail
  clear hA q0 q1 q2 q3 q4 q5 q6 q7 q8 q9 q10 q11
  generalize (((w.alloc (.cells #[.slice (some ⟨A, off, none⟩) m cap] 68)).alloc (.cells #[.int .u64 (ww3 a), .int .u64 (ww2 a), .int .u64 (ww1 a), .int .u64 (ww0 a), .int .u64 (ww3 b), .int .u64 (ww2 b), .int .u64 (ww1 b), .int .u64 (ww0 b), .int .u64 (ww3 c), .int .u64 (ww2 c), .int .u64 (ww1 c), .int .u64 (ww0 c)] 34)).alloc (.cells #[.int .u64 (ww3 (q (m - 1)).1), .int .u64 (ww2 (q (m - 1)).1), .int .u64 (ww1 (q (m - 1)).1), .int .u64 (ww0 (q (m - 1)).1), .int .u64 (ww3 (q (m - 1)).2.1), .int .u64 (ww2 (q (m - 1)).2.1), .int .u64 (ww1 (q (m - 1)).2.1), .int .u64 (ww0 (q (m - 1)).2.1), .int .u64 (ww3 (q (m - 1)).2.2), .int .u64 (ww2 (q (m - 1)).2.2), .int .u64 (ww1 (q (m - 1)).2.2), .int .u64 (ww0 (q (m - 1)).2.2)] 34)) = W at *
  have c0 := B0.c 0 rfl
  clear b0
  go_wp2_with fail
  clear c0 B0
  clear hmc hm1
  go_loopw [5, 20] (fun o i wr => ∃ (d : Nat) (t : Int), d ≤ m ∧ i = .int .i64 d ∧ o = .int .i64 t ∧ Hid (t = if paI m q a b c d = true then 1 else -1) ∧ onI m q a b c d = false ∧ Blk wr (w.heap.size + 1) [.int .u64 (ww3 a), .int .u64 (ww2 a), .int .u64 (ww1 a), .int .u64 (ww0 a), .int .u64 (ww3 b), .int .u64 (ww2 b), .int .u64 (ww1 b), .int .u64 (ww0 b), .int .u64 (ww3 c), .int .u64 (ww2 c), .int .u64 (ww1 c), .int .u64 (ww0 c)] ∧ Blk wr (w.heap.size + 1 + 1) [.int .u64 (ww3 (q (pvN m d)).1), .int .u64 (ww2 (q (pvN m d)).1), .int .u64 (ww1 (q (pvN m d)).1), .int .u64 (ww0 (q (pvN m d)).1), .int .u64 (ww3 (q (pvN m d)).2.1), .int .u64 (ww2 (q (pvN m d)).2.1), .int .u64 (ww1 (q (pvN m d)).2.1), .int .u64 (ww0 (q (pvN m d)).2.1), .int .u64 (ww3 (q (pvN m d)).2.2), .int .u64 (ww2 (q (pvN m d)).2.2), .int .u64 (ww1 (q (pvN m d)).2.2), .int .u64 (ww0 (q (pvN m d)).2.2)] ∧ Below w.heap.size w wr) (fun _ i _ => m - (intOf i).toNat)
  case atStart => exact ⟨0, -1, by omega, rfl, rfl, rfl, rfl, B1, B2, HB0⟩
  case round =>
    clear B1 B2 HB0
    obtain ⟨d, t, hd, rfl, rfl, HTT, hon, B1, B2, HB⟩ := hrel
    by_cases hdm : d < m
    · obtain ⟨A', of', hsc, hA, q0, q1, q2, q3, q4, q5, q6, q7, q8, q9, q10, q11⟩ := (HS0.out.step HB).at hdm
      obtain ⟨rfl, rfl⟩ : A = A' ∧ off = of' := by simpa using hsc
      have hpl := pvN_lt hdm
      obtain ⟨z1, s11, s12, s13⟩ := ptB_small (HR.out _ hpl)
      obtain ⟨z2, s21, s22, s23⟩ := ptB_small (HR.out d hdm)
      have LB := lies_det (q (pvN m d)).1 (q (pvN m d)).2.1 (q (pvN m d)).2.2 (q d).1 (q d).2.1 (q d).2.2 a b c s11 s12 s13 s21 s22 s23 sa sb sc z1 z2 hc
      have LC := crossed_det (q (pvN m d)).1 (q (pvN m d)).2.1 (q (pvN m d)).2.2 (q d).1 (q d).2.1 (q d).2.2 a b c s11 s12 s13 s21 s22 s23 sa sb sc
      clear z1 s11 s12 s13 z2 s21 s22 s23 hsc
      have hom1 : onI m q a b c (d + 1) = (onI m q a b c d || btwS (q (pvN m d)).1 (q (pvN m d)).2.1 (q (pvN m d)).2.2 (q d).1 (q d).2.1 (q d).2.2 a b c) := rfl
      have hpa1 : paI m q a b c (d + 1) = (paI m q a b c d ^^ upB (q (pvN m d)).1 (q (pvN m d)).2.1 (q (pvN m d)).2.2 (q d).1 (q d).2.1 (q d).2.2 a b c) := rfl
      generalize btwS (q (pvN m d)).1 (q (pvN m d)).2.1 (q (pvN m d)).2.2 (q d).1 (q d).2.1 (q d).2.2 a b c = bt at *
      generalize upB (q (pvN m d)).1 (q (pvN m d)).2.1 (q (pvN m d)).2.2 (q d).1 (q d).2.1 (q d).2.2 a b c = up at *
      have hdI : (d : Int) < m := by omega
      have Bn := Blk.new wr [.int .u64 (ww3 (q d).1), .int .u64 (ww2 (q d).1), .int .u64 (ww1 (q d).1), .int .u64 (ww0 (q d).1), .int .u64 (ww3 (q d).2.1), .int .u64 (ww2 (q d).2.1), .int .u64 (ww1 (q d).2.1), .int .u64 (ww0 (q d).2.1), .int .u64 (ww3 (q d).2.2), .int .u64 (ww2 (q d).2.2), .int .u64 (ww1 (q d).2.2), .int .u64 (ww0 (q d).2.2)] 34 rfl
      replace B1 := B1.alloc (.cells #[.int .u64 (ww3 (q d).1), .int .u64 (ww2 (q d).1), .int .u64 (ww1 (q d).1), .int .u64 (ww0 (q d).1), .int .u64 (ww3 (q d).2.1), .int .u64 (ww2 (q d).2.1), .int .u64 (ww1 (q d).2.1), .int .u64 (ww0 (q d).2.1), .int .u64 (ww3 (q d).2.2), .int .u64 (ww2 (q d).2.2), .int .u64 (ww1 (q d).2.2), .int .u64 (ww0 (q d).2.2)] 34)
      replace B2 := B2.alloc (.cells #[.int .u64 (ww3 (q d).1), .int .u64 (ww2 (q d).1), .int .u64 (ww1 (q d).1), .int .u64 (ww0 (q d).1), .int .u64 (ww3 (q d).2.1), .int .u64 (ww2 (q d).2.1), .int .u64 (ww1 (q d).2.1), .int .u64 (ww0 (q d).2.1), .int .u64 (ww3 (q d).2.2), .int .u64 (ww2 (q d).2.2), .int .u64 (ww1 (q d).2.2), .int .u64 (ww0 (q d).2.2)] 34)
      replace HB := HB.alloc HB.size (.cells #[.int .u64 (ww3 (q d).1), .int .u64 (ww2 (q d).1), .int .u64 (ww1 (q d).1), .int .u64 (ww0 (q d).1), .int .u64 (ww3 (q d).2.1), .int .u64 (ww2 (q d).2.1), .int .u64 (ww1 (q d).2.1), .int .u64 (ww0 (q d).2.1), .int .u64 (ww3 (q d).2.2), .int .u64 (ww2 (q d).2.2), .int .u64 (ww1 (q d).2.2), .int .u64 (ww0 (q d).2.2)] 34)
      have n0 := Bn.c 0 rfl; have n1 := Bn.c 1 rfl; have n2 := Bn.c 2 rfl; have n3 := Bn.c 3 rfl; have n4 := Bn.c 4 rfl; have n5 := Bn.c 5 rfl; have n6 := Bn.c 6 rfl; have n7 := Bn.c 7 rfl; have n8 := Bn.c 8 rfl; have n9 := Bn.c 9 rfl; have n10 := Bn.c 10 rfl; have n11 := Bn.c 11 rfl; have nl := Bn.lt; have p0 := B1.c 0 rfl; have p1 := B1.c 1 rfl; have p2 := B1.c 2 rfl; have p3 := B1.c 3 rfl; have p4 := B1.c 4 rfl; have p5 := B1.c 5 rfl; have p6 := B1.c 6 rfl; have p7 := B1.c 7 rfl; have p8 := B1.c 8 rfl; have p9 := B1.c 9 rfl; have p10 := B1.c 10 rfl; have p11 := B1.c 11 rfl; have pl := B1.lt; have l0 := B2.c 0 rfl; have l1 := B2.c 1 rfl; have l2 := B2.c 2 rfl; have l3 := B2.c 3 rfl; have l4 := B2.c 4 rfl; have l5 := B2.c 5 rfl; have l6 := B2.c 6 rfl; have l7 := B2.c 7 rfl; have l8 := B2.c 8 rfl; have l9 := B2.c 9 rfl; have l10 := B2.c 10 rfl; have l11 := B2.c 11 rfl; have ll := B2.lt
      go_wp2_with fail
      generalize wr.alloc (.cells #[.int .u64 (ww3 (q d).1), .int .u64 (ww2 (q d).1), .int .u64 (ww1 (q d).1), .int .u64 (ww0 (q d).1), .int .u64 (ww3 (q d).2.1), .int .u64 (ww2 (q d).2.1), .int .u64 (ww1 (q d).2.1), .int .u64 (ww0 (q d).2.1), .int .u64 (ww3 (q d).2.2), .int .u64 (ww2 (q d).2.2), .int .u64 (ww1 (q d).2.2), .int .u64 (ww0 (q d).2.2)] 34) = Wn at *
      refine (LB _).mono ?_
      rintro e w1 ⟨rfl, hB⟩
      replace Bn := Bn.step hB; replace B1 := B1.step hB; replace B2 := B2.step hB; replace HB := HB.trans (hB.mono HB.size)
      clear hB LB q0 q1 q2 q3 q4 q5 q6 q7 q8 q9 q10 q11 n0 n1 n2 n3 n4 n5 n6 n7 n8 n9 n10 n11 nl p0 p1 p2 p3 p4 p5 p6 p7 p8 p9 p10 p11 pl l0 l1 l2 l3 l4 l5 l6 l7 l8 l9 l10 l11 ll hA
      cases bt with
      | true =>
        have HO : Hid (sdI m q a b c = 0) := by
          show _ = _
          unfold sdI
          exact if_pos (onI_mono _ _ _ _ _ (show d + 1 ≤ m by omega) (by rw [hom1, Bool.or_true]))
        clear hom1 hpa1 hon LC B1 B2 Bn HS0 HR
        go_wp2
        go_ret
        exact ⟨by rw [HO.out]; rfl, HB⟩
      | false =>
        have hom2 : Hid (onI m q a b c (d + 1) = false) := by show _ = _; rw [hom1, hon]; rfl
        clear hom1 hon
        have n0 := Bn.c 0 rfl; have n1 := Bn.c 1 rfl; have n2 := Bn.c 2 rfl; have n3 := Bn.c 3 rfl; have n4 := Bn.c 4 rfl; have n5 := Bn.c 5 rfl; have n6 := Bn.c 6 rfl; have n7 := Bn.c 7 rfl; have n8 := Bn.c 8 rfl; have n9 := Bn.c 9 rfl; have n10 := Bn.c 10 rfl; have n11 := Bn.c 11 rfl; have nl := Bn.lt; have p0 := B1.c 0 rfl; have p1 := B1.c 1 rfl; have p2 := B1.c 2 rfl; have p3 := B1.c 3 rfl; have p4 := B1.c 4 rfl; have p5 := B1.c 5 rfl; have p6 := B1.c 6 rfl; have p7 := B1.c 7 rfl; have p8 := B1.c 8 rfl; have p9 := B1.c 9 rfl; have p10 := B1.c 10 rfl; have p11 := B1.c 11 rfl; have pl := B1.lt; have l0 := B2.c 0 rfl; have l1 := B2.c 1 rfl; have l2 := B2.c 2 rfl; have l3 := B2.c 3 rfl; have l4 := B2.c 4 rfl; have l5 := B2.c 5 rfl; have l6 := B2.c 6 rfl; have l7 := B2.c 7 rfl; have l8 := B2.c 8 rfl; have l9 := B2.c 9 rfl; have l10 := B2.c 10 rfl; have l11 := B2.c 11 rfl; have ll := B2.lt
        go_wp2_with fail
        refine (LC _).mono ?_
        rintro e w2 ⟨rfl, hB⟩
        replace Bn := Bn.step hB; replace B1 := B1.step hB; replace B2 := B2.step hB; replace HB := HB.trans (hB.mono HB.size)
        clear hB LC n0 n1 n2 n3 n4 n5 n6 n7 n8 n9 n10 n11 nl p0 p1 p2 p3 p4 p5 p6 p7 p8 p9 p10 p11 pl l0 l1 l2 l3 l4 l5 l6 l7 l8 l9 l10 l11 ll
        cases up with
        | true =>
          have HPA : Hid ((if t = 1 then (-1 : Int) else 1) = if paI m q a b c (d + 1) = true then 1 else -1) := by
            show _ = _
            rw [hpa1, HTT.out]
            generalize paI m q a b c d = X
            cases X <;> rfl
          clear hpa1
          have OS := otherSide_det t
          generalize (if t = 1 then (-1 : Int) else 1) = t2 at *
          go_wp2_with fail
          refine (OS _).mono ?_
          rintro e w3 ⟨rfl, hB⟩
          replace Bn := Bn.step hB; replace B1 := B1.step hB; replace B2 := B2.step hB; replace HB := HB.trans (hB.mono HB.size)
          clear hB OS
          have B1N : Blk ((((((((((((w3.setCell ⟨w.heap.size + 1 + 1, 0, none⟩ (.int .u64 (ww3 (q d).1))).setCell ⟨w.heap.size + 1 + 1, 1, none⟩ (.int .u64 (ww2 (q d).1))).setCell ⟨w.heap.size + 1 + 1, 2, none⟩ (.int .u64 (ww1 (q d).1))).setCell ⟨w.heap.size + 1 + 1, 3, none⟩ (.int .u64 (ww0 (q d).1))).setCell ⟨w.heap.size + 1 + 1, 4, none⟩ (.int .u64 (ww3 (q d).2.1))).setCell ⟨w.heap.size + 1 + 1, 5, none⟩ (.int .u64 (ww2 (q d).2.1))).setCell ⟨w.heap.size + 1 + 1, 6, none⟩ (.int .u64 (ww1 (q d).2.1))).setCell ⟨w.heap.size + 1 + 1, 7, none⟩ (.int .u64 (ww0 (q d).2.1))).setCell ⟨w.heap.size + 1 + 1, 8, none⟩ (.int .u64 (ww3 (q d).2.2))).setCell ⟨w.heap.size + 1 + 1, 9, none⟩ (.int .u64 (ww2 (q d).2.2))).setCell ⟨w.heap.size + 1 + 1, 10, none⟩ (.int .u64 (ww1 (q d).2.2))).setCell ⟨w.heap.size + 1 + 1, 11, none⟩ (.int .u64 (ww0 (q d).2.2))) (w.heap.size + 1) [.int .u64 (ww3 a), .int .u64 (ww2 a), .int .u64 (ww1 a), .int .u64 (ww0 a), .int .u64 (ww3 b), .int .u64 (ww2 b), .int .u64 (ww1 b), .int .u64 (ww0 b), .int .u64 (ww3 c), .int .u64 (ww2 c), .int .u64 (ww1 c), .int .u64 (ww0 c)] := B1.set12 (by omega)
          have B2N : Blk ((((((((((((w3.setCell ⟨w.heap.size + 1 + 1, 0, none⟩ (.int .u64 (ww3 (q d).1))).setCell ⟨w.heap.size + 1 + 1, 1, none⟩ (.int .u64 (ww2 (q d).1))).setCell ⟨w.heap.size + 1 + 1, 2, none⟩ (.int .u64 (ww1 (q d).1))).setCell ⟨w.heap.size + 1 + 1, 3, none⟩ (.int .u64 (ww0 (q d).1))).setCell ⟨w.heap.size + 1 + 1, 4, none⟩ (.int .u64 (ww3 (q d).2.1))).setCell ⟨w.heap.size + 1 + 1, 5, none⟩ (.int .u64 (ww2 (q d).2.1))).setCell ⟨w.heap.size + 1 + 1, 6, none⟩ (.int .u64 (ww1 (q d).2.1))).setCell ⟨w.heap.size + 1 + 1, 7, none⟩ (.int .u64 (ww0 (q d).2.1))).setCell ⟨w.heap.size + 1 + 1, 8, none⟩ (.int .u64 (ww3 (q d).2.2))).setCell ⟨w.heap.size + 1 + 1, 9, none⟩ (.int .u64 (ww2 (q d).2.2))).setCell ⟨w.heap.size + 1 + 1, 10, none⟩ (.int .u64 (ww1 (q d).2.2))).setCell ⟨w.heap.size + 1 + 1, 11, none⟩ (.int .u64 (ww0 (q d).2.2))) (w.heap.size + 1 + 1) [.int .u64 (ww3 (q d).1), .int .u64 (ww2 (q d).1), .int .u64 (ww1 (q d).1), .int .u64 (ww0 (q d).1), .int .u64 (ww3 (q d).2.1), .int .u64 (ww2 (q d).2.1), .int .u64 (ww1 (q d).2.1), .int .u64 (ww0 (q d).2.1), .int .u64 (ww3 (q d).2.2), .int .u64 (ww2 (q d).2.2), .int .u64 (ww1 (q d).2.2), .int .u64 (ww0 (q d).2.2)] := B2.stored12 _ _ _ _ _ _ _ _ _ _ _ _
          have HN : Below w.heap.size w ((((((((((((w3.setCell ⟨w.heap.size + 1 + 1, 0, none⟩ (.int .u64 (ww3 (q d).1))).setCell ⟨w.heap.size + 1 + 1, 1, none⟩ (.int .u64 (ww2 (q d).1))).setCell ⟨w.heap.size + 1 + 1, 2, none⟩ (.int .u64 (ww1 (q d).1))).setCell ⟨w.heap.size + 1 + 1, 3, none⟩ (.int .u64 (ww0 (q d).1))).setCell ⟨w.heap.size + 1 + 1, 4, none⟩ (.int .u64 (ww3 (q d).2.1))).setCell ⟨w.heap.size + 1 + 1, 5, none⟩ (.int .u64 (ww2 (q d).2.1))).setCell ⟨w.heap.size + 1 + 1, 6, none⟩ (.int .u64 (ww1 (q d).2.1))).setCell ⟨w.heap.size + 1 + 1, 7, none⟩ (.int .u64 (ww0 (q d).2.1))).setCell ⟨w.heap.size + 1 + 1, 8, none⟩ (.int .u64 (ww3 (q d).2.2))).setCell ⟨w.heap.size + 1 + 1, 9, none⟩ (.int .u64 (ww2 (q d).2.2))).setCell ⟨w.heap.size + 1 + 1, 10, none⟩ (.int .u64 (ww1 (q d).2.2))).setCell ⟨w.heap.size + 1 + 1, 11, none⟩ (.int .u64 (ww0 (q d).2.2))) := Below.set12 (by omega) HB
          have n0 := Bn.c 0 rfl; have n1 := Bn.c 1 rfl; have n2 := Bn.c 2 rfl; have n3 := Bn.c 3 rfl; have n4 := Bn.c 4 rfl; have n5 := Bn.c 5 rfl; have n6 := Bn.c 6 rfl; have n7 := Bn.c 7 rfl; have n8 := Bn.c 8 rfl; have n9 := Bn.c 9 rfl; have n10 := Bn.c 10 rfl; have n11 := Bn.c 11 rfl; have nl := Bn.lt; have l0 := B2.c 0 rfl; have lf0 := B2.f 0 rfl; have l1 := B2.c 1 rfl; have lf1 := B2.f 1 rfl; have l2 := B2.c 2 rfl; have lf2 := B2.f 2 rfl; have l3 := B2.c 3 rfl; have lf3 := B2.f 3 rfl; have l4 := B2.c 4 rfl; have lf4 := B2.f 4 rfl; have l5 := B2.c 5 rfl; have lf5 := B2.f 5 rfl; have l6 := B2.c 6 rfl; have lf6 := B2.f 6 rfl; have l7 := B2.c 7 rfl; have lf7 := B2.f 7 rfl; have l8 := B2.c 8 rfl; have lf8 := B2.f 8 rfl; have l9 := B2.c 9 rfl; have lf9 := B2.f 9 rfl; have l10 := B2.c 10 rfl; have lf10 := B2.f 10 rfl; have l11 := B2.c 11 rfl; have lf11 := B2.f 11 rfl; have ll := B2.lt
          clear Bn B1 B2 HB
          go_wp2
          go_roundw
          case rel => exact ⟨d + 1, t2, by omega, by go_num, rfl, HPA, hom2.out, B1N, B2N, HN⟩
          case measure => simp [intOf]; omega
        | false =>
          have HPA : Hid (t = if paI m q a b c (d + 1) = true then 1 else -1) := by show _ = _; rw [hpa1, Bool.xor_false]; exact HTT.out
          clear hpa1
          have B1N : Blk ((((((((((((w2.setCell ⟨w.heap.size + 1 + 1, 0, none⟩ (.int .u64 (ww3 (q d).1))).setCell ⟨w.heap.size + 1 + 1, 1, none⟩ (.int .u64 (ww2 (q d).1))).setCell ⟨w.heap.size + 1 + 1, 2, none⟩ (.int .u64 (ww1 (q d).1))).setCell ⟨w.heap.size + 1 + 1, 3, none⟩ (.int .u64 (ww0 (q d).1))).setCell ⟨w.heap.size + 1 + 1, 4, none⟩ (.int .u64 (ww3 (q d).2.1))).setCell ⟨w.heap.size + 1 + 1, 5, none⟩ (.int .u64 (ww2 (q d).2.1))).setCell ⟨w.heap.size + 1 + 1, 6, none⟩ (.int .u64 (ww1 (q d).2.1))).setCell ⟨w.heap.size + 1 + 1, 7, none⟩ (.int .u64 (ww0 (q d).2.1))).setCell ⟨w.heap.size + 1 + 1, 8, none⟩ (.int .u64 (ww3 (q d).2.2))).setCell ⟨w.heap.size + 1 + 1, 9, none⟩ (.int .u64 (ww2 (q d).2.2))).setCell ⟨w.heap.size + 1 + 1, 10, none⟩ (.int .u64 (ww1 (q d).2.2))).setCell ⟨w.heap.size + 1 + 1, 11, none⟩ (.int .u64 (ww0 (q d).2.2))) (w.heap.size + 1) [.int .u64 (ww3 a), .int .u64 (ww2 a), .int .u64 (ww1 a), .int .u64 (ww0 a), .int .u64 (ww3 b), .int .u64 (ww2 b), .int .u64 (ww1 b), .int .u64 (ww0 b), .int .u64 (ww3 c), .int .u64 (ww2 c), .int .u64 (ww1 c), .int .u64 (ww0 c)] := B1.set12 (by omega)
          have B2N : Blk ((((((((((((w2.setCell ⟨w.heap.size + 1 + 1, 0, none⟩ (.int .u64 (ww3 (q d).1))).setCell ⟨w.heap.size + 1 + 1, 1, none⟩ (.int .u64 (ww2 (q d).1))).setCell ⟨w.heap.size + 1 + 1, 2, none⟩ (.int .u64 (ww1 (q d).1))).setCell ⟨w.heap.size + 1 + 1, 3, none⟩ (.int .u64 (ww0 (q d).1))).setCell ⟨w.heap.size + 1 + 1, 4, none⟩ (.int .u64 (ww3 (q d).2.1))).setCell ⟨w.heap.size + 1 + 1, 5, none⟩ (.int .u64 (ww2 (q d).2.1))).setCell ⟨w.heap.size + 1 + 1, 6, none⟩ (.int .u64 (ww1 (q d).2.1))).setCell ⟨w.heap.size + 1 + 1, 7, none⟩ (.int .u64 (ww0 (q d).2.1))).setCell ⟨w.heap.size + 1 + 1, 8, none⟩ (.int .u64 (ww3 (q d).2.2))).setCell ⟨w.heap.size + 1 + 1, 9, none⟩ (.int .u64 (ww2 (q d).2.2))).setCell ⟨w.heap.size + 1 + 1, 10, none⟩ (.int .u64 (ww1 (q d).2.2))).setCell ⟨w.heap.size + 1 + 1, 11, none⟩ (.int .u64 (ww0 (q d).2.2))) (w.heap.size + 1 + 1) [.int .u64 (ww3 (q d).1), .int .u64 (ww2 (q d).1), .int .u64 (ww1 (q d).1), .int .u64 (ww0 (q d).1), .int .u64 (ww3 (q d).2.1), .int .u64 (ww2 (q d).2.1), .int .u64 (ww1 (q d).2.1), .int .u64 (ww0 (q d).2.1), .int .u64 (ww3 (q d).2.2), .int .u64 (ww2 (q d).2.2), .int .u64 (ww1 (q d).2.2), .int .u64 (ww0 (q d).2.2)] := B2.stored12 _ _ _ _ _ _ _ _ _ _ _ _
          have HN : Below w.heap.size w ((((((((((((w2.setCell ⟨w.heap.size + 1 + 1, 0, none⟩ (.int .u64 (ww3 (q d).1))).setCell ⟨w.heap.size + 1 + 1, 1, none⟩ (.int .u64 (ww2 (q d).1))).setCell ⟨w.heap.size + 1 + 1, 2, none⟩ (.int .u64 (ww1 (q d).1))).setCell ⟨w.heap.size + 1 + 1, 3, none⟩ (.int .u64 (ww0 (q d).1))).setCell ⟨w.heap.size + 1 + 1, 4, none⟩ (.int .u64 (ww3 (q d).2.1))).setCell ⟨w.heap.size + 1 + 1, 5, none⟩ (.int .u64 (ww2 (q d).2.1))).setCell ⟨w.heap.size + 1 + 1, 6, none⟩ (.int .u64 (ww1 (q d).2.1))).setCell ⟨w.heap.size + 1 + 1, 7, none⟩ (.int .u64 (ww0 (q d).2.1))).setCell ⟨w.heap.size + 1 + 1, 8, none⟩ (.int .u64 (ww3 (q d).2.2))).setCell ⟨w.heap.size + 1 + 1, 9, none⟩ (.int .u64 (ww2 (q d).2.2))).setCell ⟨w.heap.size + 1 + 1, 10, none⟩ (.int .u64 (ww1 (q d).2.2))).setCell ⟨w.heap.size + 1 + 1, 11, none⟩ (.int .u64 (ww0 (q d).2.2))) := Below.set12 (by omega) HB
          have n0 := Bn.c 0 rfl; have n1 := Bn.c 1 rfl; have n2 := Bn.c 2 rfl; have n3 := Bn.c 3 rfl; have n4 := Bn.c 4 rfl; have n5 := Bn.c 5 rfl; have n6 := Bn.c 6 rfl; have n7 := Bn.c 7 rfl; have n8 := Bn.c 8 rfl; have n9 := Bn.c 9 rfl; have n10 := Bn.c 10 rfl; have n11 := Bn.c 11 rfl; have nl := Bn.lt; have l0 := B2.c 0 rfl; have lf0 := B2.f 0 rfl; have l1 := B2.c 1 rfl; have lf1 := B2.f 1 rfl; have l2 := B2.c 2 rfl; have lf2 := B2.f 2 rfl; have l3 := B2.c 3 rfl; have lf3 := B2.f 3 rfl; have l4 := B2.c 4 rfl; have lf4 := B2.f 4 rfl; have l5 := B2.c 5 rfl; have lf5 := B2.f 5 rfl; have l6 := B2.c 6 rfl; have lf6 := B2.f 6 rfl; have l7 := B2.c 7 rfl; have lf7 := B2.f 7 rfl; have l8 := B2.c 8 rfl; have lf8 := B2.f 8 rfl; have l9 := B2.c 9 rfl; have lf9 := B2.f 9 rfl; have l10 := B2.c 10 rfl; have lf10 := B2.f 10 rfl; have l11 := B2.c 11 rfl; have lf11 := B2.f 11 rfl; have ll := B2.lt
          clear Bn B1 B2 HB
          go_wp2
          go_roundw
          case rel => exact ⟨d + 1, t, by omega, by go_num, rfl, HPA, hom2.out, B1N, B2N, HN⟩
          case measure => simp [intOf]; omega
    · obtain rfl : d = m := by omega
      have HO : Hid (sdI d q a b c = t) := by
        show _ = _
        unfold sdI
        rw [hon, HTT.out]
        rfl
      clear hon B1 B2 HS0 HR
      go_wp2
      go_ret
      exact ⟨by rw [HO.out]; rfl, HB⟩
end Go.Proofs.Ytofjlobbohfacaa

/- What lies between two points: the model's walk, and both sides. -/
namespace Go.Proofs.Ytofjlobbohfacaa
open Go.RowKit
theorem swap_args {ps1 ps2 ps3 : Bool} {po1 po2 po3 : Option Addr} {pn1 pc1 pn2 pc2 pn3 pc3 : Nat} {qs1 qs2 qs3 : Bool} {qo1 qo2 qo3 : Option Addr} {qn1 qc1 qn2 qc2 qn3 qc3 : Nat} {rs1 rs2 rs3 : Bool} {ro1 ro2 ro3 : Option Addr} {rn1 rc1 rn2 rc2 rn3 rc3 : Nat} {w W : World} (T0 : ArgsB w W [[.bool ps1, .slice po1 pn1 pc1, .bool ps2, .slice po2 pn2 pc2, .bool ps3, .slice po3 pn3 pc3], [.bool qs1, .slice qo1 qn1 qc1, .bool qs2, .slice qo2 qn2 qc2, .bool qs3, .slice qo3 qn3 qc3], [.bool rs1, .slice ro1 rn1 rc1, .bool rs2, .slice ro2 rn2 rc2, .bool rs3, .slice ro3 rn3 rc3]]) : ArgsB w ((((((((((((W.setCell ⟨w.heap.size, 0, none⟩ (.bool qs1)).setCell ⟨w.heap.size, 1, none⟩ (.slice qo1 qn1 qc1)).setCell ⟨w.heap.size, 2, none⟩ (.bool qs2)).setCell ⟨w.heap.size, 3, none⟩ (.slice qo2 qn2 qc2)).setCell ⟨w.heap.size, 4, none⟩ (.bool qs3)).setCell ⟨w.heap.size, 5, none⟩ (.slice qo3 qn3 qc3)).setCell ⟨w.heap.size + 1, 0, none⟩ (.bool ps1)).setCell ⟨w.heap.size + 1, 1, none⟩ (.slice po1 pn1 pc1)).setCell ⟨w.heap.size + 1, 2, none⟩ (.bool ps2)).setCell ⟨w.heap.size + 1, 3, none⟩ (.slice po2 pn2 pc2)).setCell ⟨w.heap.size + 1, 4, none⟩ (.bool ps3)).setCell ⟨w.heap.size + 1, 5, none⟩ (.slice po3 pn3 pc3)) [[.bool qs1, .slice qo1 qn1 qc1, .bool qs2, .slice qo2 qn2 qc2, .bool qs3, .slice qo3 qn3 qc3], [.bool ps1, .slice po1 pn1 pc1, .bool ps2, .slice po2 pn2 pc2, .bool ps3, .slice po3 pn3 pc3], [.bool rs1, .slice ro1 rn1 rc1, .bool rs2, .slice ro2 rn2 rc2, .bool rs3, .slice ro3 rn3 rc3]] := by
  have X0 : Blk W w.heap.size [.bool ps1, .slice po1 pn1 pc1, .bool ps2, .slice po2 pn2 pc2, .bool ps3, .slice po3 pn3 pc3] := T0.b 0 rfl
  have Y0 : Blk W (w.heap.size + 1) [.bool qs1, .slice qo1 qn1 qc1, .bool qs2, .slice qo2 qn2 qc2, .bool qs3, .slice qo3 qn3 qc3] := T0.b 1 rfl
  have Z0 : Blk W (w.heap.size + 2) [.bool rs1, .slice ro1 rn1 rc1, .bool rs2, .slice ro2 rn2 rc2, .bool rs3, .slice ro3 rn3 rc3] := T0.b 2 rfl
  have X1 := ((((((X0.setI 0 (by simp) (.bool qs1)).setI 1 (by simp) (.slice qo1 qn1 qc1)).setI 2 (by simp) (.bool qs2)).setI 3 (by simp) (.slice qo2 qn2 qc2)).setI 4 (by simp) (.bool qs3)).setI 5 (by simp) (.slice qo3 qn3 qc3))
  simp only [List.set_cons_zero, List.set_cons_succ] at X1
  have X2 := ((((((X1.setO (p := ⟨w.heap.size + 1, 0, none⟩) (by show w.heap.size ≠ w.heap.size + 1; omega) (.bool ps1)).setO (p := ⟨w.heap.size + 1, 1, none⟩) (by show w.heap.size ≠ w.heap.size + 1; omega) (.slice po1 pn1 pc1)).setO (p := ⟨w.heap.size + 1, 2, none⟩) (by show w.heap.size ≠ w.heap.size + 1; omega) (.bool ps2)).setO (p := ⟨w.heap.size + 1, 3, none⟩) (by show w.heap.size ≠ w.heap.size + 1; omega) (.slice po2 pn2 pc2)).setO (p := ⟨w.heap.size + 1, 4, none⟩) (by show w.heap.size ≠ w.heap.size + 1; omega) (.bool ps3)).setO (p := ⟨w.heap.size + 1, 5, none⟩) (by show w.heap.size ≠ w.heap.size + 1; omega) (.slice po3 pn3 pc3))
  have Y1 := ((((((Y0.setO (p := ⟨w.heap.size, 0, none⟩) (by show w.heap.size + 1 ≠ w.heap.size; omega) (.bool qs1)).setO (p := ⟨w.heap.size, 1, none⟩) (by show w.heap.size + 1 ≠ w.heap.size; omega) (.slice qo1 qn1 qc1)).setO (p := ⟨w.heap.size, 2, none⟩) (by show w.heap.size + 1 ≠ w.heap.size; omega) (.bool qs2)).setO (p := ⟨w.heap.size, 3, none⟩) (by show w.heap.size + 1 ≠ w.heap.size; omega) (.slice qo2 qn2 qc2)).setO (p := ⟨w.heap.size, 4, none⟩) (by show w.heap.size + 1 ≠ w.heap.size; omega) (.bool qs3)).setO (p := ⟨w.heap.size, 5, none⟩) (by show w.heap.size + 1 ≠ w.heap.size; omega) (.slice qo3 qn3 qc3))
  have Y2 := ((((((Y1.setI 0 (by simp) (.bool ps1)).setI 1 (by simp) (.slice po1 pn1 pc1)).setI 2 (by simp) (.bool ps2)).setI 3 (by simp) (.slice po2 pn2 pc2)).setI 4 (by simp) (.bool ps3)).setI 5 (by simp) (.slice po3 pn3 pc3))
  simp only [List.set_cons_zero, List.set_cons_succ] at Y2
  have Z1 := ((((((Z0.setO (p := ⟨w.heap.size, 0, none⟩) (by show w.heap.size + 2 ≠ w.heap.size; omega) (.bool qs1)).setO (p := ⟨w.heap.size, 1, none⟩) (by show w.heap.size + 2 ≠ w.heap.size; omega) (.slice qo1 qn1 qc1)).setO (p := ⟨w.heap.size, 2, none⟩) (by show w.heap.size + 2 ≠ w.heap.size; omega) (.bool qs2)).setO (p := ⟨w.heap.size, 3, none⟩) (by show w.heap.size + 2 ≠ w.heap.size; omega) (.slice qo2 qn2 qc2)).setO (p := ⟨w.heap.size, 4, none⟩) (by show w.heap.size + 2 ≠ w.heap.size; omega) (.bool qs3)).setO (p := ⟨w.heap.size, 5, none⟩) (by show w.heap.size + 2 ≠ w.heap.size; omega) (.slice qo3 qn3 qc3))
  have Z2 := ((((((Z1.setO (p := ⟨w.heap.size + 1, 0, none⟩) (by show w.heap.size + 2 ≠ w.heap.size + 1; omega) (.bool ps1)).setO (p := ⟨w.heap.size + 1, 1, none⟩) (by show w.heap.size + 2 ≠ w.heap.size + 1; omega) (.slice po1 pn1 pc1)).setO (p := ⟨w.heap.size + 1, 2, none⟩) (by show w.heap.size + 2 ≠ w.heap.size + 1; omega) (.bool ps2)).setO (p := ⟨w.heap.size + 1, 3, none⟩) (by show w.heap.size + 2 ≠ w.heap.size + 1; omega) (.slice po2 pn2 pc2)).setO (p := ⟨w.heap.size + 1, 4, none⟩) (by show w.heap.size + 2 ≠ w.heap.size + 1; omega) (.bool ps3)).setO (p := ⟨w.heap.size + 1, 5, none⟩) (by show w.heap.size + 2 ≠ w.heap.size + 1; omega) (.slice po3 pn3 pc3))
  refine ⟨?_, fun j vs hj => ?_⟩
  · repeat' (refine Below.setCell ?_ (by simp) _)
    exact T0.below
  · match j, hj with
    | 0, hj => cases hj; exact X2
    | 1, hj => cases hj; exact Y2
    | 2, hj => cases hj; exact Z2
    | j + 3, hj => simp at hj
theorem num_set6g {w : World} {s : Bool} {ao : Option Addr} {n cap : Nat} {ds : List Int} {z : Int} {k R : Nat} (h : IsNum w s ao n cap ds z k) {qs1 qs2 qs3 : Bool} {qo1 qo2 qo3 : Option Addr} {qn1 qc1 qn2 qc2 qn3 qc3 : Nat} (B : Blk w R [.bool qs1, .slice qo1 qn1 qc1, .bool qs2, .slice qo2 qn2 qc2, .bool qs3, .slice qo3 qn3 qc3]) (v0 v1 v2 v3 v4 v5 : Value) : IsNum ((((((w.setCell ⟨R, 0, none⟩ v0).setCell ⟨R, 1, none⟩ v1).setCell ⟨R, 2, none⟩ v2).setCell ⟨R, 3, none⟩ v3).setCell ⟨R, 4, none⟩ v4).setCell ⟨R, 5, none⟩ v5) s ao n cap ds z k := by
  have h1 := h.setp v0 (B.c 0 rfl) (by intro x e; cases e)
  have B1 := B.setI 0 (by simp) v0
  have h2 := h1.setp v1 (B1.c 1 rfl) (by intro x e; cases e)
  have B2 := B1.setI 1 (by simp) v1
  have h3 := h2.setp v2 (B2.c 2 rfl) (by intro x e; cases e)
  have B3 := B2.setI 2 (by simp) v2
  have h4 := h3.setp v3 (B3.c 3 rfl) (by intro x e; cases e)
  have B4 := B3.setI 3 (by simp) v3
  have h5 := h4.setp v4 (B4.c 4 rfl) (by intro x e; cases e)
  have B5 := B4.setI 4 (by simp) v4
  exact h5.setp v5 (B5.c 5 rfl) (by intro x e; cases e)
theorem swap_num {w W : World} {s : Bool} {ao : Option Addr} {n cap : Nat} {ds : List Int} {z : Int} {k : Nat} (h : IsNum W s ao n cap ds z k) {ps1 ps2 ps3 : Bool} {po1 po2 po3 : Option Addr} {pn1 pc1 pn2 pc2 pn3 pc3 : Nat} {qs1 qs2 qs3 : Bool} {qo1 qo2 qo3 : Option Addr} {qn1 qc1 qn2 qc2 qn3 qc3 : Nat} {rs1 rs2 rs3 : Bool} {ro1 ro2 ro3 : Option Addr} {rn1 rc1 rn2 rc2 rn3 rc3 : Nat} (T0 : ArgsB w W [[.bool ps1, .slice po1 pn1 pc1, .bool ps2, .slice po2 pn2 pc2, .bool ps3, .slice po3 pn3 pc3], [.bool qs1, .slice qo1 qn1 qc1, .bool qs2, .slice qo2 qn2 qc2, .bool qs3, .slice qo3 qn3 qc3], [.bool rs1, .slice ro1 rn1 rc1, .bool rs2, .slice ro2 rn2 rc2, .bool rs3, .slice ro3 rn3 rc3]]) : IsNum ((((((((((((W.setCell ⟨w.heap.size, 0, none⟩ (.bool qs1)).setCell ⟨w.heap.size, 1, none⟩ (.slice qo1 qn1 qc1)).setCell ⟨w.heap.size, 2, none⟩ (.bool qs2)).setCell ⟨w.heap.size, 3, none⟩ (.slice qo2 qn2 qc2)).setCell ⟨w.heap.size, 4, none⟩ (.bool qs3)).setCell ⟨w.heap.size, 5, none⟩ (.slice qo3 qn3 qc3)).setCell ⟨w.heap.size + 1, 0, none⟩ (.bool ps1)).setCell ⟨w.heap.size + 1, 1, none⟩ (.slice po1 pn1 pc1)).setCell ⟨w.heap.size + 1, 2, none⟩ (.bool ps2)).setCell ⟨w.heap.size + 1, 3, none⟩ (.slice po2 pn2 pc2)).setCell ⟨w.heap.size + 1, 4, none⟩ (.bool ps3)).setCell ⟨w.heap.size + 1, 5, none⟩ (.slice po3 pn3 pc3)) s ao n cap ds z k := by
  have X0 : Blk W w.heap.size [.bool ps1, .slice po1 pn1 pc1, .bool ps2, .slice po2 pn2 pc2, .bool ps3, .slice po3 pn3 pc3] := T0.b 0 rfl
  have Y0 : Blk W (w.heap.size + 1) [.bool qs1, .slice qo1 qn1 qc1, .bool qs2, .slice qo2 qn2 qc2, .bool qs3, .slice qo3 qn3 qc3] := T0.b 1 rfl
  have Y1 := ((((((Y0.setO (p := ⟨w.heap.size, 0, none⟩) (by show w.heap.size + 1 ≠ w.heap.size; omega) (.bool qs1)).setO (p := ⟨w.heap.size, 1, none⟩) (by show w.heap.size + 1 ≠ w.heap.size; omega) (.slice qo1 qn1 qc1)).setO (p := ⟨w.heap.size, 2, none⟩) (by show w.heap.size + 1 ≠ w.heap.size; omega) (.bool qs2)).setO (p := ⟨w.heap.size, 3, none⟩) (by show w.heap.size + 1 ≠ w.heap.size; omega) (.slice qo2 qn2 qc2)).setO (p := ⟨w.heap.size, 4, none⟩) (by show w.heap.size + 1 ≠ w.heap.size; omega) (.bool qs3)).setO (p := ⟨w.heap.size, 5, none⟩) (by show w.heap.size + 1 ≠ w.heap.size; omega) (.slice qo3 qn3 qc3))
  exact num_set6g (num_set6g h X0 _ _ _ _ _ _) Y1 _ _ _ _ _ _
set_option maxRecDepth 100000 in
set_option maxHeartbeats 8000000 in
theorem l3Between_any (ps1 ps2 ps3 : Bool) (po1 po2 po3 : Option Addr) (pn1 pc1 pn2 pc2 pn3 pc3 : Nat) (qs1 qs2 qs3 : Bool) (qo1 qo2 qo3 : Option Addr) (qn1 qc1 qn2 qc2 qn3 qc3 : Nat) (rs1 rs2 rs3 : Bool) (ro1 ro2 ro3 : Option Addr) (rn1 rc1 rn2 rc2 rn3 rc3 : Nat) (pd1 pd2 pd3 qd1 qd2 qd3 rd1 rd2 rd3 : List Int) (x y z u v t a b c : Int) (k : Nat) (hk : k ≤ 1000) (w : World) (Np1 : IsNum w ps1 po1 pn1 pc1 pd1 x k) (Np2 : IsNum w ps2 po2 pn2 pc2 pd2 y k) (Np3 : IsNum w ps3 po3 pn3 pc3 pd3 z k) (Nq1 : IsNum w qs1 qo1 qn1 qc1 qd1 u k) (Nq2 : IsNum w qs2 qo2 qn2 qc2 qd2 v k) (Nq3 : IsNum w qs3 qo3 qn3 qc3 qd3 t k) (Nr1 : IsNum w rs1 ro1 rn1 rc1 rd1 a k) (Nr2 : IsNum w rs2 ro2 rn2 rc2 rd2 b k) (Nr3 : IsNum w rs3 ro3 rn3 rc3 rd3 c k) : Calls Try.prog 26 #[.agg #[.bool ps1, .slice po1 pn1 pc1, .bool ps2, .slice po2 pn2 pc2, .bool ps3, .slice po3 pn3 pc3], .agg #[.bool qs1, .slice qo1 qn1 qc1, .bool qs2, .slice qo2 qn2 qc2, .bool qs3, .slice qo3 qn3 qc3], .agg #[.bool rs1, .slice ro1 rn1 rc1, .bool rs2, .slice ro2 rn2 rc2, .bool rs3, .slice ro3 rn3 rc3]] w (VP (.bool (btwS x y z u v t a b c)) w) := by
  have T0 : ArgsB w (((w.alloc (.cells #[.bool ps1, .slice po1 pn1 pc1, .bool ps2, .slice po2 pn2 pc2, .bool ps3, .slice po3 pn3 pc3] 64)).alloc (.cells #[.bool qs1, .slice qo1 qn1 qc1, .bool qs2, .slice qo2 qn2 qc2, .bool qs3, .slice qo3 qn3 qc3] 64)).alloc (.cells #[.bool rs1, .slice ro1 rn1 rc1, .bool rs2, .slice ro2 rn2 rc2, .bool rs3, .slice ro3 rn3 rc3] 64)) [[.bool ps1, .slice po1 pn1 pc1, .bool ps2, .slice po2 pn2 pc2, .bool ps3, .slice po3 pn3 pc3], [.bool qs1, .slice qo1 qn1 qc1, .bool qs2, .slice qo2 qn2 qc2, .bool qs3, .slice qo3 qn3 qc3], [.bool rs1, .slice ro1 rn1 rc1, .bool rs2, .slice ro2 rn2 rc2, .bool rs3, .slice ro3 rn3 rc3]] := ar3 _ _ _ _ _ _ w
  replace Np1 := Np1.below T0.below
  replace Np2 := Np2.below T0.below
  replace Np3 := Np3.below T0.below
  replace Nq1 := Nq1.below T0.below
  replace Nq2 := Nq2.below T0.below
  replace Nq3 := Nq3.below T0.below
  replace Nr1 := Nr1.below T0.below
  replace Nr2 := Nr2.below T0.below
  replace Nr3 := Nr3.below T0.below
  go_enter Try.func26, Try.ntmps26
  go_wp2_with fail
  generalize (((w.alloc (.cells #[.bool ps1, .slice po1 pn1 pc1, .bool ps2, .slice po2 pn2 pc2, .bool ps3, .slice po3 pn3 pc3] 64)).alloc (.cells #[.bool qs1, .slice qo1 qn1 qc1, .bool qs2, .slice qo2 qn2 qc2, .bool qs3, .slice qo3 qn3 qc3] 64)).alloc (.cells #[.bool rs1, .slice ro1 rn1 rc1, .bool rs2, .slice ro2 rn2 rc2, .bool rs3, .slice ro3 rn3 rc3] 64)) = W at *
  refine (l3Cmp_any ps1 ps2 ps3 po1 po2 po3 pn1 pc1 pn2 pc2 pn3 pc3 qs1 qs2 qs3 qo1 qo2 qo3 qn1 qc1 qn2 qc2 qn3 qc3 pd1 pd2 pd3 qd1 qd2 qd3 x y z u v t k hk _ Np1 Np2 Np3 Nq1 Nq2 Nq3).mono ?_
  rintro e w1 ⟨rfl, hB⟩
  replace T0 := T0.step hB
  replace Np1 := Np1.below hB
  replace Np2 := Np2.below hB
  replace Np3 := Np3.below hB
  replace Nq1 := Nq1.below hB
  replace Nq2 := Nq2.below hB
  replace Nq3 := Nq3.below hB
  replace Nr1 := Nr1.below hB
  replace Nr2 := Nr2.below hB
  replace Nr3 := Nr3.below hB
  clear hB
  by_cases h1 : 0 < ordI x y z u v t
  · have d1 : decide (0 < ordI x y z u v t) = true := decide_eq_true h1
    have HC : (if 0 < ordI x y z u v t then decide (ordI u v t a b c ≤ 0) && decide (ordI a b c x y z ≤ 0) && decide (turnI u v t x y z a b c = 0) else decide (ordI x y z a b c ≤ 0) && decide (ordI a b c u v t ≤ 0) && decide (turnI x y z u v t a b c = 0)) = (decide (ordI u v t a b c ≤ 0) && decide (ordI a b c x y z ≤ 0) && decide (turnI u v t x y z a b c = 0)) := if_pos h1
    have X0 : Blk _ w.heap.size _ := T0.b 0 rfl
    have Y0 : Blk _ (w.heap.size + 1) _ := T0.b 1 rfl
    have p0 := X0.c 0 rfl; have pf0 := X0.f 0 rfl; have q0 := Y0.c 0 rfl; have qf0 := Y0.f 0 rfl; have p1 := X0.c 1 rfl; have pf1 := X0.f 1 rfl; have q1 := Y0.c 1 rfl; have qf1 := Y0.f 1 rfl; have p2 := X0.c 2 rfl; have pf2 := X0.f 2 rfl; have q2 := Y0.c 2 rfl; have qf2 := Y0.f 2 rfl; have p3 := X0.c 3 rfl; have pf3 := X0.f 3 rfl; have q3 := Y0.c 3 rfl; have qf3 := Y0.f 3 rfl; have p4 := X0.c 4 rfl; have pf4 := X0.f 4 rfl; have q4 := Y0.c 4 rfl; have qf4 := Y0.f 4 rfl; have p5 := X0.c 5 rfl; have pf5 := X0.f 5 rfl; have q5 := Y0.c 5 rfl; have qf5 := Y0.f 5 rfl
    have xl := X0.lt; have yl := Y0.lt
    go_upto_region 3 with fail
    clear p0 pf0 q0 qf0 p1 pf1 q1 qf1 p2 pf2 q2 qf2 p3 pf3 q3 qf3 p4 pf4 q4 qf4 p5 pf5 q5 qf5 xl yl X0 Y0
    replace Np1 := swap_num Np1 T0
    replace Np2 := swap_num Np2 T0
    replace Np3 := swap_num Np3 T0
    replace Nq1 := swap_num Nq1 T0
    replace Nq2 := swap_num Nq2 T0
    replace Nq3 := swap_num Nq3 T0
    replace Nr1 := swap_num Nr1 T0
    replace Nr2 := swap_num Nr2 T0
    replace Nr3 := swap_num Nr3 T0
    replace T0 := swap_args T0
    generalize ((((((((((((w1.setCell ⟨w.heap.size, 0, none⟩ (.bool qs1)).setCell ⟨w.heap.size, 1, none⟩ (.slice qo1 qn1 qc1)).setCell ⟨w.heap.size, 2, none⟩ (.bool qs2)).setCell ⟨w.heap.size, 3, none⟩ (.slice qo2 qn2 qc2)).setCell ⟨w.heap.size, 4, none⟩ (.bool qs3)).setCell ⟨w.heap.size, 5, none⟩ (.slice qo3 qn3 qc3)).setCell ⟨w.heap.size + 1, 0, none⟩ (.bool ps1)).setCell ⟨w.heap.size + 1, 1, none⟩ (.slice po1 pn1 pc1)).setCell ⟨w.heap.size + 1, 2, none⟩ (.bool ps2)).setCell ⟨w.heap.size + 1, 3, none⟩ (.slice po2 pn2 pc2)).setCell ⟨w.heap.size + 1, 4, none⟩ (.bool ps3)).setCell ⟨w.heap.size + 1, 5, none⟩ (.slice po3 pn3 pc3)) = W1 at *
    have X0 : Blk _ w.heap.size _ := T0.b 0 rfl; have Y0 : Blk _ (w.heap.size + 1) _ := T0.b 1 rfl; have Z0 : Blk _ (w.heap.size + 1 + 1) _ := T0.b 2 rfl; have p0 := X0.c 0 rfl; have q0 := Y0.c 0 rfl; have r0 := Z0.c 0 rfl; have p1 := X0.c 1 rfl; have q1 := Y0.c 1 rfl; have r1 := Z0.c 1 rfl; have p2 := X0.c 2 rfl; have q2 := Y0.c 2 rfl; have r2 := Z0.c 2 rfl; have p3 := X0.c 3 rfl; have q3 := Y0.c 3 rfl; have r3 := Z0.c 3 rfl; have p4 := X0.c 4 rfl; have q4 := Y0.c 4 rfl; have r4 := Z0.c 4 rfl; have p5 := X0.c 5 rfl; have q5 := Y0.c 5 rfl; have r5 := Z0.c 5 rfl; clear X0 Y0 Z0
    go_wp2_with fail
    refine (l3Cmp_any qs1 qs2 qs3 qo1 qo2 qo3 qn1 qc1 qn2 qc2 qn3 qc3 rs1 rs2 rs3 ro1 ro2 ro3 rn1 rc1 rn2 rc2 rn3 rc3 qd1 qd2 qd3 rd1 rd2 rd3 u v t a b c k hk _ Nq1 Nq2 Nq3 Nr1 Nr2 Nr3).mono ?_
    rintro e f1 ⟨rfl, hB⟩
    replace T0 := T0.step hB
    replace Np1 := Np1.below hB
    replace Np2 := Np2.below hB
    replace Np3 := Np3.below hB
    replace Nq1 := Nq1.below hB
    replace Nq2 := Nq2.below hB
    replace Nq3 := Nq3.below hB
    replace Nr1 := Nr1.below hB
    replace Nr2 := Nr2.below hB
    replace Nr3 := Nr3.below hB
    clear hB p0 q0 r0 p1 q1 r1 p2 q2 r2 p3 q3 r3 p4 q4 r4 p5 q5 r5
    by_cases h2 : ordI u v t a b c ≤ 0
    · have d2 : decide (ordI u v t a b c ≤ 0) = true := decide_eq_true h2
      have X0 : Blk _ w.heap.size _ := T0.b 0 rfl; have Y0 : Blk _ (w.heap.size + 1) _ := T0.b 1 rfl; have Z0 : Blk _ (w.heap.size + 1 + 1) _ := T0.b 2 rfl; have p0 := X0.c 0 rfl; have q0 := Y0.c 0 rfl; have r0 := Z0.c 0 rfl; have p1 := X0.c 1 rfl; have q1 := Y0.c 1 rfl; have r1 := Z0.c 1 rfl; have p2 := X0.c 2 rfl; have q2 := Y0.c 2 rfl; have r2 := Z0.c 2 rfl; have p3 := X0.c 3 rfl; have q3 := Y0.c 3 rfl; have r3 := Z0.c 3 rfl; have p4 := X0.c 4 rfl; have q4 := Y0.c 4 rfl; have r4 := Z0.c 4 rfl; have p5 := X0.c 5 rfl; have q5 := Y0.c 5 rfl; have r5 := Z0.c 5 rfl; clear X0 Y0 Z0
      go_wp2_with fail
      refine (l3Cmp_any rs1 rs2 rs3 ro1 ro2 ro3 rn1 rc1 rn2 rc2 rn3 rc3 ps1 ps2 ps3 po1 po2 po3 pn1 pc1 pn2 pc2 pn3 pc3 rd1 rd2 rd3 pd1 pd2 pd3 a b c x y z k hk _ Nr1 Nr2 Nr3 Np1 Np2 Np3).mono ?_
      rintro e f2 ⟨rfl, hB⟩
      replace T0 := T0.step hB
      replace Np1 := Np1.below hB
      replace Np2 := Np2.below hB
      replace Np3 := Np3.below hB
      replace Nq1 := Nq1.below hB
      replace Nq2 := Nq2.below hB
      replace Nq3 := Nq3.below hB
      replace Nr1 := Nr1.below hB
      replace Nr2 := Nr2.below hB
      replace Nr3 := Nr3.below hB
      clear hB p0 q0 r0 p1 q1 r1 p2 q2 r2 p3 q3 r3 p4 q4 r4 p5 q5 r5
      by_cases h3 : ordI a b c x y z ≤ 0
      · have d3 : decide (ordI a b c x y z ≤ 0) = true := decide_eq_true h3
        have X0 : Blk _ w.heap.size _ := T0.b 0 rfl; have Y0 : Blk _ (w.heap.size + 1) _ := T0.b 1 rfl; have Z0 : Blk _ (w.heap.size + 1 + 1) _ := T0.b 2 rfl; have p0 := X0.c 0 rfl; have q0 := Y0.c 0 rfl; have r0 := Z0.c 0 rfl; have p1 := X0.c 1 rfl; have q1 := Y0.c 1 rfl; have r1 := Z0.c 1 rfl; have p2 := X0.c 2 rfl; have q2 := Y0.c 2 rfl; have r2 := Z0.c 2 rfl; have p3 := X0.c 3 rfl; have q3 := Y0.c 3 rfl; have r3 := Z0.c 3 rfl; have p4 := X0.c 4 rfl; have q4 := Y0.c 4 rfl; have r4 := Z0.c 4 rfl; have p5 := X0.c 5 rfl; have q5 := Y0.c 5 rfl; have r5 := Z0.c 5 rfl; clear X0 Y0 Z0
        go_wp2_with fail
        refine (l3Orient_any qs1 qs2 qs3 qo1 qo2 qo3 qn1 qc1 qn2 qc2 qn3 qc3 ps1 ps2 ps3 po1 po2 po3 pn1 pc1 pn2 pc2 pn3 pc3 rs1 rs2 rs3 ro1 ro2 ro3 rn1 rc1 rn2 rc2 rn3 rc3 qd1 qd2 qd3 pd1 pd2 pd3 rd1 rd2 rd3 u v t x y z a b c k hk _ Nq1 Nq2 Nq3 Np1 Np2 Np3 Nr1 Nr2 Nr3).mono ?_
        rintro e f3 ⟨rfl, hB⟩
        have HB := (T0.step hB).below
        have HR : Hid (btwS x y z u v t a b c = (turnI u v t x y z a b c == 0)) := by
          show _ = _
          unfold btwS
          rw [HC]
          simp only [h2, h3, decide_true, Bool.true_and]
          rw [Bool.eq_iff_iff, decide_eq_true_iff, beq_iff_eq]
        clear hB T0 p0 q0 r0 p1 q1 r1 p2 q2 r2 p3 q3 r3 p4 q4 r4 p5 q5 r5 Np1 Np2 Np3 Nq1 Nq2 Nq3 Nr1 Nr2 Nr3 HC h2 h3
        go_wp2
        go_ret
        exact ⟨by rw [HR.out]; rfl, HB⟩
      · have d3 : decide (ordI a b c x y z ≤ 0) = false := decide_eq_false h3
        have HR : Hid (btwS x y z u v t a b c = false) := by show _ = _; unfold btwS; rw [HC]; simp [h3]
        have HB := T0.below
        clear T0 Np1 Np2 Np3 Nq1 Nq2 Nq3 Nr1 Nr2 Nr3 HC h2 h3
        go_wp2
        go_ret
        exact ⟨by rw [HR.out]; rfl, HB⟩
    · have d2 : decide (ordI u v t a b c ≤ 0) = false := decide_eq_false h2
      have HR : Hid (btwS x y z u v t a b c = false) := by show _ = _; unfold btwS; rw [HC]; simp [h2]
      have HB := T0.below
      clear T0 Np1 Np2 Np3 Nq1 Nq2 Nq3 Nr1 Nr2 Nr3 HC h2
      go_wp2
      go_ret
      exact ⟨by rw [HR.out]; rfl, HB⟩
  · have d1 : decide (0 < ordI x y z u v t) = false := decide_eq_false h1
    have HC : (if 0 < ordI x y z u v t then decide (ordI u v t a b c ≤ 0) && decide (ordI a b c x y z ≤ 0) && decide (turnI u v t x y z a b c = 0) else decide (ordI x y z a b c ≤ 0) && decide (ordI a b c u v t ≤ 0) && decide (turnI x y z u v t a b c = 0)) = (decide (ordI x y z a b c ≤ 0) && decide (ordI a b c u v t ≤ 0) && decide (turnI x y z u v t a b c = 0)) := if_neg h1
    have X0 : Blk _ w.heap.size _ := T0.b 0 rfl; have Y0 : Blk _ (w.heap.size + 1) _ := T0.b 1 rfl; have Z0 : Blk _ (w.heap.size + 1 + 1) _ := T0.b 2 rfl; have p0 := X0.c 0 rfl; have q0 := Y0.c 0 rfl; have r0 := Z0.c 0 rfl; have p1 := X0.c 1 rfl; have q1 := Y0.c 1 rfl; have r1 := Z0.c 1 rfl; have p2 := X0.c 2 rfl; have q2 := Y0.c 2 rfl; have r2 := Z0.c 2 rfl; have p3 := X0.c 3 rfl; have q3 := Y0.c 3 rfl; have r3 := Z0.c 3 rfl; have p4 := X0.c 4 rfl; have q4 := Y0.c 4 rfl; have r4 := Z0.c 4 rfl; have p5 := X0.c 5 rfl; have q5 := Y0.c 5 rfl; have r5 := Z0.c 5 rfl; clear X0 Y0 Z0
    go_wp2_with fail
    refine (l3Cmp_any ps1 ps2 ps3 po1 po2 po3 pn1 pc1 pn2 pc2 pn3 pc3 rs1 rs2 rs3 ro1 ro2 ro3 rn1 rc1 rn2 rc2 rn3 rc3 pd1 pd2 pd3 rd1 rd2 rd3 x y z a b c k hk _ Np1 Np2 Np3 Nr1 Nr2 Nr3).mono ?_
    rintro e f1 ⟨rfl, hB⟩
    replace T0 := T0.step hB
    replace Np1 := Np1.below hB
    replace Np2 := Np2.below hB
    replace Np3 := Np3.below hB
    replace Nq1 := Nq1.below hB
    replace Nq2 := Nq2.below hB
    replace Nq3 := Nq3.below hB
    replace Nr1 := Nr1.below hB
    replace Nr2 := Nr2.below hB
    replace Nr3 := Nr3.below hB
    clear hB p0 q0 r0 p1 q1 r1 p2 q2 r2 p3 q3 r3 p4 q4 r4 p5 q5 r5
    by_cases h2 : ordI x y z a b c ≤ 0
    · have d2 : decide (ordI x y z a b c ≤ 0) = true := decide_eq_true h2
      have X0 : Blk _ w.heap.size _ := T0.b 0 rfl; have Y0 : Blk _ (w.heap.size + 1) _ := T0.b 1 rfl; have Z0 : Blk _ (w.heap.size + 1 + 1) _ := T0.b 2 rfl; have p0 := X0.c 0 rfl; have q0 := Y0.c 0 rfl; have r0 := Z0.c 0 rfl; have p1 := X0.c 1 rfl; have q1 := Y0.c 1 rfl; have r1 := Z0.c 1 rfl; have p2 := X0.c 2 rfl; have q2 := Y0.c 2 rfl; have r2 := Z0.c 2 rfl; have p3 := X0.c 3 rfl; have q3 := Y0.c 3 rfl; have r3 := Z0.c 3 rfl; have p4 := X0.c 4 rfl; have q4 := Y0.c 4 rfl; have r4 := Z0.c 4 rfl; have p5 := X0.c 5 rfl; have q5 := Y0.c 5 rfl; have r5 := Z0.c 5 rfl; clear X0 Y0 Z0
      go_wp2_with fail
      refine (l3Cmp_any rs1 rs2 rs3 ro1 ro2 ro3 rn1 rc1 rn2 rc2 rn3 rc3 qs1 qs2 qs3 qo1 qo2 qo3 qn1 qc1 qn2 qc2 qn3 qc3 rd1 rd2 rd3 qd1 qd2 qd3 a b c u v t k hk _ Nr1 Nr2 Nr3 Nq1 Nq2 Nq3).mono ?_
      rintro e f2 ⟨rfl, hB⟩
      replace T0 := T0.step hB
      replace Np1 := Np1.below hB
      replace Np2 := Np2.below hB
      replace Np3 := Np3.below hB
      replace Nq1 := Nq1.below hB
      replace Nq2 := Nq2.below hB
      replace Nq3 := Nq3.below hB
      replace Nr1 := Nr1.below hB
      replace Nr2 := Nr2.below hB
      replace Nr3 := Nr3.below hB
      clear hB p0 q0 r0 p1 q1 r1 p2 q2 r2 p3 q3 r3 p4 q4 r4 p5 q5 r5
      by_cases h3 : ordI a b c u v t ≤ 0
      · have d3 : decide (ordI a b c u v t ≤ 0) = true := decide_eq_true h3
        have X0 : Blk _ w.heap.size _ := T0.b 0 rfl; have Y0 : Blk _ (w.heap.size + 1) _ := T0.b 1 rfl; have Z0 : Blk _ (w.heap.size + 1 + 1) _ := T0.b 2 rfl; have p0 := X0.c 0 rfl; have q0 := Y0.c 0 rfl; have r0 := Z0.c 0 rfl; have p1 := X0.c 1 rfl; have q1 := Y0.c 1 rfl; have r1 := Z0.c 1 rfl; have p2 := X0.c 2 rfl; have q2 := Y0.c 2 rfl; have r2 := Z0.c 2 rfl; have p3 := X0.c 3 rfl; have q3 := Y0.c 3 rfl; have r3 := Z0.c 3 rfl; have p4 := X0.c 4 rfl; have q4 := Y0.c 4 rfl; have r4 := Z0.c 4 rfl; have p5 := X0.c 5 rfl; have q5 := Y0.c 5 rfl; have r5 := Z0.c 5 rfl; clear X0 Y0 Z0
        go_wp2_with fail
        refine (l3Orient_any ps1 ps2 ps3 po1 po2 po3 pn1 pc1 pn2 pc2 pn3 pc3 qs1 qs2 qs3 qo1 qo2 qo3 qn1 qc1 qn2 qc2 qn3 qc3 rs1 rs2 rs3 ro1 ro2 ro3 rn1 rc1 rn2 rc2 rn3 rc3 pd1 pd2 pd3 qd1 qd2 qd3 rd1 rd2 rd3 x y z u v t a b c k hk _ Np1 Np2 Np3 Nq1 Nq2 Nq3 Nr1 Nr2 Nr3).mono ?_
        rintro e f3 ⟨rfl, hB⟩
        have HB := (T0.step hB).below
        have HR : Hid (btwS x y z u v t a b c = (turnI x y z u v t a b c == 0)) := by
          show _ = _
          unfold btwS
          rw [HC]
          simp only [h2, h3, decide_true, Bool.true_and]
          rw [Bool.eq_iff_iff, decide_eq_true_iff, beq_iff_eq]
        clear hB T0 p0 q0 r0 p1 q1 r1 p2 q2 r2 p3 q3 r3 p4 q4 r4 p5 q5 r5 Np1 Np2 Np3 Nq1 Nq2 Nq3 Nr1 Nr2 Nr3 HC h2 h3
        go_wp2
        go_ret
        exact ⟨by rw [HR.out]; rfl, HB⟩
      · have d3 : decide (ordI a b c u v t ≤ 0) = false := decide_eq_false h3
        have HR : Hid (btwS x y z u v t a b c = false) := by show _ = _; unfold btwS; rw [HC]; simp [h3]
        have HB := T0.below
        clear T0 Np1 Np2 Np3 Nq1 Nq2 Nq3 Nr1 Nr2 Nr3 HC h2 h3
        go_wp2
        go_ret
        exact ⟨by rw [HR.out]; rfl, HB⟩
    · have d2 : decide (ordI x y z a b c ≤ 0) = false := decide_eq_false h2
      have HR : Hid (btwS x y z u v t a b c = false) := by show _ = _; unfold btwS; rw [HC]; simp [h2]
      have HB := T0.below
      clear T0 Np1 Np2 Np3 Nq1 Nq2 Nq3 Nr1 Nr2 Nr3 HC h2
      go_wp2
      go_ret
      exact ⟨by rw [HR.out]; rfl, HB⟩
end Go.Proofs.Ytofjlobbohfacaa
