/- Part 3 of the walks that the proof leans on. -/
import Derived.Test.YtddniklhpkagmaaBase2
import Derived.Deep.RegionWith
import Derived.Test.YtddniklhpkagmaaRows
import Derived.WalkKit
import Derived.WalkSpells
import Derived.WalkLawsBesides
import Derived.Shelf.Bits.Mul64
import Derived.Deep.RegionHeld3
import Derived.Deep.DeepCutAuto
import Derived.Test.YtddniklhpkagmaaBase1
import Derived.Deep.QuietTactic
import Derived.BigQuiet
/- The walks of plus and minus of 8 words. -/
namespace Go.Proofs.Ytddniklhpkagmaa
open Go.RowKit
theorem list8 {l : List Int} (h : l.length = 8) : ∃ z0 z1 z2 z3 z4 z5 z6 z7, l = [z0, z1, z2, z3, z4, z5, z6, z7] := by
  match l, h with
  | [z0, z1, z2, z3, z4, z5, z6, z7], _ => exact ⟨z0, z1, z2, z3, z4, z5, z6, z7, rfl⟩
theorem row_of8 {w : World} {A : Nat} {x0 x1 x2 x3 x4 x5 x6 x7 : Int} (hl : A < w.heap.size) (h0 : w.cell? ⟨A, 0, none⟩ = some (.int .u64 x0)) (h1 : w.cell? ⟨A, 1, none⟩ = some (.int .u64 x1)) (h2 : w.cell? ⟨A, 2, none⟩ = some (.int .u64 x2)) (h3 : w.cell? ⟨A, 3, none⟩ = some (.int .u64 x3)) (h4 : w.cell? ⟨A, 4, none⟩ = some (.int .u64 x4)) (h5 : w.cell? ⟨A, 5, none⟩ = some (.int .u64 x5)) (h6 : w.cell? ⟨A, 6, none⟩ = some (.int .u64 x6)) (h7 : w.cell? ⟨A, 7, none⟩ = some (.int .u64 x7)) (f0 : w.frozen? ⟨A, 0, none⟩ = false) (f1 : w.frozen? ⟨A, 1, none⟩ = false) (f2 : w.frozen? ⟨A, 2, none⟩ = false) (f3 : w.frozen? ⟨A, 3, none⟩ = false) (f4 : w.frozen? ⟨A, 4, none⟩ = false) (f5 : w.frozen? ⟨A, 5, none⟩ = false) (f6 : w.frozen? ⟨A, 6, none⟩ = false) (f7 : w.frozen? ⟨A, 7, none⟩ = false) : Row w A 0 [x0, x1, x2, x3, x4, x5, x6, x7] := by
  refine ⟨fun i hi => ?_, fun i hi => ?_, hl⟩
  · simp only [Nat.zero_add]
    match i, hi with
    | 0, _ => exact h0
    | 1, _ => exact h1
    | 2, _ => exact h2
    | 3, _ => exact h3
    | 4, _ => exact h4
    | 5, _ => exact h5
    | 6, _ => exact h6
    | 7, _ => exact h7
  · simp only [Nat.zero_add]
    match i, hi with
    | 0, _ => exact f0
    | 1, _ => exact f1
    | 2, _ => exact f2
    | 3, _ => exact f3
    | 4, _ => exact f4
    | 5, _ => exact f5
    | 6, _ => exact f6
    | 7, _ => exact f7
theorem row_cells8 {w : World} {A : Nat} {x0 x1 x2 x3 x4 x5 x6 x7 : Int} (h : Row w A 0 [x0, x1, x2, x3, x4, x5, x6, x7]) : w.cell? ⟨A, 0, none⟩ = some (.int .u64 x0) ∧ w.cell? ⟨A, 1, none⟩ = some (.int .u64 x1) ∧ w.cell? ⟨A, 2, none⟩ = some (.int .u64 x2) ∧ w.cell? ⟨A, 3, none⟩ = some (.int .u64 x3) ∧ w.cell? ⟨A, 4, none⟩ = some (.int .u64 x4) ∧ w.cell? ⟨A, 5, none⟩ = some (.int .u64 x5) ∧ w.cell? ⟨A, 6, none⟩ = some (.int .u64 x6) ∧ w.cell? ⟨A, 7, none⟩ = some (.int .u64 x7) :=
  ⟨by simpa using h.cell 0 (by simp), by simpa using h.cell 1 (by simp), by simpa using h.cell 2 (by simp), by simpa using h.cell 3 (by simp), by simpa using h.cell 4 (by simp), by simpa using h.cell 5 (by simp), by simpa using h.cell 6 (by simp), by simpa using h.cell 7 (by simp)⟩
theorem row_frz8 {w : World} {A : Nat} {x0 x1 x2 x3 x4 x5 x6 x7 : Int} (h : Row w A 0 [x0, x1, x2, x3, x4, x5, x6, x7]) : w.frozen? ⟨A, 0, none⟩ = false ∧ w.frozen? ⟨A, 1, none⟩ = false ∧ w.frozen? ⟨A, 2, none⟩ = false ∧ w.frozen? ⟨A, 3, none⟩ = false ∧ w.frozen? ⟨A, 4, none⟩ = false ∧ w.frozen? ⟨A, 5, none⟩ = false ∧ w.frozen? ⟨A, 6, none⟩ = false ∧ w.frozen? ⟨A, 7, none⟩ = false :=
  ⟨by simpa using h.frz 0 (by simp), by simpa using h.frz 1 (by simp), by simpa using h.frz 2 (by simp), by simpa using h.frz 3 (by simp), by simpa using h.frz 4 (by simp), by simpa using h.frz 5 (by simp), by simpa using h.frz 6 (by simp), by simpa using h.frz 7 (by simp)⟩
theorem plus8_ret {w w1 : World} {xs ys : List Int} {e : Ending} {u0 u1 u2 u3 u4 u5 u6 u7 : Value} (h : PlusP xs ys w e w1) : PlusP xs ys w e ((((((((w1.setCell ⟨w.heap.size + 1 + 1, 0, none⟩ u0).setCell ⟨w.heap.size + 1 + 1, 1, none⟩ u1).setCell ⟨w.heap.size + 1 + 1, 2, none⟩ u2).setCell ⟨w.heap.size + 1 + 1, 3, none⟩ u3).setCell ⟨w.heap.size + 1 + 1, 4, none⟩ u4).setCell ⟨w.heap.size + 1 + 1, 5, none⟩ u5).setCell ⟨w.heap.size + 1 + 1, 6, none⟩ u6).setCell ⟨w.heap.size + 1 + 1, 7, none⟩ u7) := by
  obtain ⟨zs, c, h1, h2, h3, h4, h5, h6, h7⟩ := h
  exact ⟨zs, c, h1, h2, h3, h4, h5, h6, ((((((((h7.setCell (by show w.heap.size ≤ w.heap.size + 1 + 1; omega) _).setCell (by show w.heap.size ≤ w.heap.size + 1 + 1; omega) _).setCell (by show w.heap.size ≤ w.heap.size + 1 + 1; omega) _).setCell (by show w.heap.size ≤ w.heap.size + 1 + 1; omega) _).setCell (by show w.heap.size ≤ w.heap.size + 1 + 1; omega) _).setCell (by show w.heap.size ≤ w.heap.size + 1 + 1; omega) _).setCell (by show w.heap.size ≤ w.heap.size + 1 + 1; omega) _).setCell (by show w.heap.size ≤ w.heap.size + 1 + 1; omega) _)⟩
set_option maxRecDepth 100000 in
set_option maxHeartbeats 2000000 in
theorem plus8 (x0 x1 x2 x3 x4 x5 x6 x7 y0 y1 y2 y3 y4 y5 y6 y7 : Int) (wx : Words [x0, x1, x2, x3, x4, x5, x6, x7]) (wy : Words [y0, y1, y2, y3, y4, y5, y6, y7]) (w : World) :
    Calls Try.prog 59 #[.agg #[.int .u64 x0, .int .u64 x1, .int .u64 x2, .int .u64 x3, .int .u64 x4, .int .u64 x5, .int .u64 x6, .int .u64 x7], .agg #[.int .u64 y0, .int .u64 y1, .int .u64 y2, .int .u64 y3, .int .u64 y4, .int .u64 y5, .int .u64 y6, .int .u64 y7]] w (PlusP [x0, x1, x2, x3, x4, x5, x6, x7] [y0, y1, y2, y3, y4, y5, y6, y7] w) := by
  have rx : Row (((w.alloc (Obj.cells #[Value.int IntKind.u64 x0, Value.int IntKind.u64 x1, Value.int IntKind.u64 x2, Value.int IntKind.u64 x3, Value.int IntKind.u64 x4, Value.int IntKind.u64 x5, Value.int IntKind.u64 x6, Value.int IntKind.u64 x7] 62)).alloc (Obj.cells #[Value.int IntKind.u64 y0, Value.int IntKind.u64 y1, Value.int IntKind.u64 y2, Value.int IntKind.u64 y3, Value.int IntKind.u64 y4, Value.int IntKind.u64 y5, Value.int IntKind.u64 y6, Value.int IntKind.u64 y7] 62)).alloc (Obj.cells #[Value.int IntKind.u64 0, Value.int IntKind.u64 0, Value.int IntKind.u64 0, Value.int IntKind.u64 0, Value.int IntKind.u64 0, Value.int IntKind.u64 0, Value.int IntKind.u64 0, Value.int IntKind.u64 0] 62)) w.heap.size 0 [x0, x1, x2, x3, x4, x5, x6, x7] := row_of8 (by simp <;> omega) (by simp [go_sem]) (by simp [go_sem]) (by simp [go_sem]) (by simp [go_sem]) (by simp [go_sem]) (by simp [go_sem]) (by simp [go_sem]) (by simp [go_sem]) (by simp [go_sem]) (by simp [go_sem]) (by simp [go_sem]) (by simp [go_sem]) (by simp [go_sem]) (by simp [go_sem]) (by simp [go_sem]) (by simp [go_sem])
  have ry : Row (((w.alloc (Obj.cells #[Value.int IntKind.u64 x0, Value.int IntKind.u64 x1, Value.int IntKind.u64 x2, Value.int IntKind.u64 x3, Value.int IntKind.u64 x4, Value.int IntKind.u64 x5, Value.int IntKind.u64 x6, Value.int IntKind.u64 x7] 62)).alloc (Obj.cells #[Value.int IntKind.u64 y0, Value.int IntKind.u64 y1, Value.int IntKind.u64 y2, Value.int IntKind.u64 y3, Value.int IntKind.u64 y4, Value.int IntKind.u64 y5, Value.int IntKind.u64 y6, Value.int IntKind.u64 y7] 62)).alloc (Obj.cells #[Value.int IntKind.u64 0, Value.int IntKind.u64 0, Value.int IntKind.u64 0, Value.int IntKind.u64 0, Value.int IntKind.u64 0, Value.int IntKind.u64 0, Value.int IntKind.u64 0, Value.int IntKind.u64 0] 62)) (w.heap.size + 1) 0 [y0, y1, y2, y3, y4, y5, y6, y7] := row_of8 (by simp <;> omega) (by simp [go_sem]) (by simp [go_sem]) (by simp [go_sem]) (by simp [go_sem]) (by simp [go_sem]) (by simp [go_sem]) (by simp [go_sem]) (by simp [go_sem]) (by simp [go_sem]) (by simp [go_sem]) (by simp [go_sem]) (by simp [go_sem]) (by simp [go_sem]) (by simp [go_sem]) (by simp [go_sem]) (by simp [go_sem])
  have rr : Row (((w.alloc (Obj.cells #[Value.int IntKind.u64 x0, Value.int IntKind.u64 x1, Value.int IntKind.u64 x2, Value.int IntKind.u64 x3, Value.int IntKind.u64 x4, Value.int IntKind.u64 x5, Value.int IntKind.u64 x6, Value.int IntKind.u64 x7] 62)).alloc (Obj.cells #[Value.int IntKind.u64 y0, Value.int IntKind.u64 y1, Value.int IntKind.u64 y2, Value.int IntKind.u64 y3, Value.int IntKind.u64 y4, Value.int IntKind.u64 y5, Value.int IntKind.u64 y6, Value.int IntKind.u64 y7] 62)).alloc (Obj.cells #[Value.int IntKind.u64 0, Value.int IntKind.u64 0, Value.int IntKind.u64 0, Value.int IntKind.u64 0, Value.int IntKind.u64 0, Value.int IntKind.u64 0, Value.int IntKind.u64 0, Value.int IntKind.u64 0] 62)) (w.heap.size + 1 + 1) 0 [0, 0, 0, 0, 0, 0, 0, 0] := row_of8 (by simp <;> omega) (by simp [go_sem]) (by simp [go_sem]) (by simp [go_sem]) (by simp [go_sem]) (by simp [go_sem]) (by simp [go_sem]) (by simp [go_sem]) (by simp [go_sem]) (by simp [go_sem]) (by simp [go_sem]) (by simp [go_sem]) (by simp [go_sem]) (by simp [go_sem]) (by simp [go_sem]) (by simp [go_sem]) (by simp [go_sem])
  have hB : Below w.heap.size w (((w.alloc (Obj.cells #[Value.int IntKind.u64 x0, Value.int IntKind.u64 x1, Value.int IntKind.u64 x2, Value.int IntKind.u64 x3, Value.int IntKind.u64 x4, Value.int IntKind.u64 x5, Value.int IntKind.u64 x6, Value.int IntKind.u64 x7] 62)).alloc (Obj.cells #[Value.int IntKind.u64 y0, Value.int IntKind.u64 y1, Value.int IntKind.u64 y2, Value.int IntKind.u64 y3, Value.int IntKind.u64 y4, Value.int IntKind.u64 y5, Value.int IntKind.u64 y6, Value.int IntKind.u64 y7] 62)).alloc (Obj.cells #[Value.int IntKind.u64 0, Value.int IntKind.u64 0, Value.int IntKind.u64 0, Value.int IntKind.u64 0, Value.int IntKind.u64 0, Value.int IntKind.u64 0, Value.int IntKind.u64 0, Value.int IntKind.u64 0] 62)) := (((Below.refl _ _).alloc (Nat.le_refl _) _).alloc (by simp) _).alloc (by simp; omega) _
  go_enter Try.func59, Try.ntmps59
  go_wp2
  generalize ((w.alloc (Obj.cells #[Value.int IntKind.u64 x0, Value.int IntKind.u64 x1, Value.int IntKind.u64 x2, Value.int IntKind.u64 x3, Value.int IntKind.u64 x4, Value.int IntKind.u64 x5, Value.int IntKind.u64 x6, Value.int IntKind.u64 x7] 62)).alloc (Obj.cells #[Value.int IntKind.u64 y0, Value.int IntKind.u64 y1, Value.int IntKind.u64 y2, Value.int IntKind.u64 y3, Value.int IntKind.u64 y4, Value.int IntKind.u64 y5, Value.int IntKind.u64 y6, Value.int IntKind.u64 y7] 62)).alloc (Obj.cells #[Value.int IntKind.u64 0, Value.int IntKind.u64 0, Value.int IntKind.u64 0, Value.int IntKind.u64 0, Value.int IntKind.u64 0, Value.int IntKind.u64 0, Value.int IntKind.u64 0, Value.int IntKind.u64 0] 62) = W at *
  go_region_with ((go_at_call 105; refine (addWords_any w.heap.size (w.heap.size + 1) 0 0 8 8 8 8 [x0, x1, x2, x3, x4, x5, x6, x7] [y0, y1, y2, y3, y4, y5, y6, y7] _ rfl rfl wx wy (row_drew rx) (row_drew ry) (by omega) (by omega)).mono ?_; rintro e w1 ⟨zs, c, rfl, h1, h2, h3, h4, h5, h6, h7⟩))
  obtain ⟨z0, z1, z2, z3, z4, z5, z6, z7, rfl⟩ := list8 h1
  have HP : Hid (PlusP [x0, x1, x2, x3, x4, x5, x6, x7] [y0, y1, y2, y3, y4, y5, y6, y7] w (.returned (.agg #[.int .u64 z0, .int .u64 z1, .int .u64 z2, .int .u64 z3, .int .u64 z4, .int .u64 z5, .int .u64 z6, .int .u64 z7])) w1) := ⟨[z0, z1, z2, z3, z4, z5, z6, z7], c, rfl, rfl, h2, h3, h4, h5, (hB.drew).trans (h7.below (Nat.le_refl _))⟩
  obtain ⟨c0, c1, c2, c3, c4, c5, c6, c7⟩ := row_cells8 h6
  have rr1 := row_other rr.drewd h7 (by omega)
  obtain ⟨g0, g1, g2, g3, g4, g5, g6, g7⟩ := row_cells8 rr1
  obtain ⟨f0, f1, f2, f3, f4, f5, f6, f7⟩ := row_frz8 rr1
  have hne : w.heap.size + 1 + 1 ≠ w.heap.size := by omega
  clear rx ry rr hB h2 h3 h4 h5 h6 h7 h1 rr1
  go_wp2
  refine bodyPost_ret (v := .agg #[.int .u64 z0, .int .u64 z1, .int .u64 z2, .int .u64 z3, .int .u64 z4, .int .u64 z5, .int .u64 z6, .int .u64 z7]) (by simp [results, Try.results59, go_sem, g0, g1, g2, g3, g4, g5, g6, g7]) rfl ?_
  exact plus8_ret HP.out
theorem minus8_ret {w w1 : World} {xs ys : List Int} {e : Ending} {u0 u1 u2 u3 u4 u5 u6 u7 : Value} (h : MinusP xs ys w e w1) : MinusP xs ys w e ((((((((w1.setCell ⟨w.heap.size + 1 + 1, 0, none⟩ u0).setCell ⟨w.heap.size + 1 + 1, 1, none⟩ u1).setCell ⟨w.heap.size + 1 + 1, 2, none⟩ u2).setCell ⟨w.heap.size + 1 + 1, 3, none⟩ u3).setCell ⟨w.heap.size + 1 + 1, 4, none⟩ u4).setCell ⟨w.heap.size + 1 + 1, 5, none⟩ u5).setCell ⟨w.heap.size + 1 + 1, 6, none⟩ u6).setCell ⟨w.heap.size + 1 + 1, 7, none⟩ u7) := by
  obtain ⟨zs, c, h1, h2, h3, h4, h5, h6, h7⟩ := h
  exact ⟨zs, c, h1, h2, h3, h4, h5, h6, ((((((((h7.setCell (by show w.heap.size ≤ w.heap.size + 1 + 1; omega) _).setCell (by show w.heap.size ≤ w.heap.size + 1 + 1; omega) _).setCell (by show w.heap.size ≤ w.heap.size + 1 + 1; omega) _).setCell (by show w.heap.size ≤ w.heap.size + 1 + 1; omega) _).setCell (by show w.heap.size ≤ w.heap.size + 1 + 1; omega) _).setCell (by show w.heap.size ≤ w.heap.size + 1 + 1; omega) _).setCell (by show w.heap.size ≤ w.heap.size + 1 + 1; omega) _).setCell (by show w.heap.size ≤ w.heap.size + 1 + 1; omega) _)⟩
set_option maxRecDepth 100000 in
set_option maxHeartbeats 2000000 in
theorem minus8 (x0 x1 x2 x3 x4 x5 x6 x7 y0 y1 y2 y3 y4 y5 y6 y7 : Int) (wx : Words [x0, x1, x2, x3, x4, x5, x6, x7]) (wy : Words [y0, y1, y2, y3, y4, y5, y6, y7]) (w : World) :
    Calls Try.prog 60 #[.agg #[.int .u64 x0, .int .u64 x1, .int .u64 x2, .int .u64 x3, .int .u64 x4, .int .u64 x5, .int .u64 x6, .int .u64 x7], .agg #[.int .u64 y0, .int .u64 y1, .int .u64 y2, .int .u64 y3, .int .u64 y4, .int .u64 y5, .int .u64 y6, .int .u64 y7]] w (MinusP [x0, x1, x2, x3, x4, x5, x6, x7] [y0, y1, y2, y3, y4, y5, y6, y7] w) := by
  have rx : Row (((w.alloc (Obj.cells #[Value.int IntKind.u64 x0, Value.int IntKind.u64 x1, Value.int IntKind.u64 x2, Value.int IntKind.u64 x3, Value.int IntKind.u64 x4, Value.int IntKind.u64 x5, Value.int IntKind.u64 x6, Value.int IntKind.u64 x7] 62)).alloc (Obj.cells #[Value.int IntKind.u64 y0, Value.int IntKind.u64 y1, Value.int IntKind.u64 y2, Value.int IntKind.u64 y3, Value.int IntKind.u64 y4, Value.int IntKind.u64 y5, Value.int IntKind.u64 y6, Value.int IntKind.u64 y7] 62)).alloc (Obj.cells #[Value.int IntKind.u64 0, Value.int IntKind.u64 0, Value.int IntKind.u64 0, Value.int IntKind.u64 0, Value.int IntKind.u64 0, Value.int IntKind.u64 0, Value.int IntKind.u64 0, Value.int IntKind.u64 0] 62)) w.heap.size 0 [x0, x1, x2, x3, x4, x5, x6, x7] := row_of8 (by simp <;> omega) (by simp [go_sem]) (by simp [go_sem]) (by simp [go_sem]) (by simp [go_sem]) (by simp [go_sem]) (by simp [go_sem]) (by simp [go_sem]) (by simp [go_sem]) (by simp [go_sem]) (by simp [go_sem]) (by simp [go_sem]) (by simp [go_sem]) (by simp [go_sem]) (by simp [go_sem]) (by simp [go_sem]) (by simp [go_sem])
  have ry : Row (((w.alloc (Obj.cells #[Value.int IntKind.u64 x0, Value.int IntKind.u64 x1, Value.int IntKind.u64 x2, Value.int IntKind.u64 x3, Value.int IntKind.u64 x4, Value.int IntKind.u64 x5, Value.int IntKind.u64 x6, Value.int IntKind.u64 x7] 62)).alloc (Obj.cells #[Value.int IntKind.u64 y0, Value.int IntKind.u64 y1, Value.int IntKind.u64 y2, Value.int IntKind.u64 y3, Value.int IntKind.u64 y4, Value.int IntKind.u64 y5, Value.int IntKind.u64 y6, Value.int IntKind.u64 y7] 62)).alloc (Obj.cells #[Value.int IntKind.u64 0, Value.int IntKind.u64 0, Value.int IntKind.u64 0, Value.int IntKind.u64 0, Value.int IntKind.u64 0, Value.int IntKind.u64 0, Value.int IntKind.u64 0, Value.int IntKind.u64 0] 62)) (w.heap.size + 1) 0 [y0, y1, y2, y3, y4, y5, y6, y7] := row_of8 (by simp <;> omega) (by simp [go_sem]) (by simp [go_sem]) (by simp [go_sem]) (by simp [go_sem]) (by simp [go_sem]) (by simp [go_sem]) (by simp [go_sem]) (by simp [go_sem]) (by simp [go_sem]) (by simp [go_sem]) (by simp [go_sem]) (by simp [go_sem]) (by simp [go_sem]) (by simp [go_sem]) (by simp [go_sem]) (by simp [go_sem])
  have rr : Row (((w.alloc (Obj.cells #[Value.int IntKind.u64 x0, Value.int IntKind.u64 x1, Value.int IntKind.u64 x2, Value.int IntKind.u64 x3, Value.int IntKind.u64 x4, Value.int IntKind.u64 x5, Value.int IntKind.u64 x6, Value.int IntKind.u64 x7] 62)).alloc (Obj.cells #[Value.int IntKind.u64 y0, Value.int IntKind.u64 y1, Value.int IntKind.u64 y2, Value.int IntKind.u64 y3, Value.int IntKind.u64 y4, Value.int IntKind.u64 y5, Value.int IntKind.u64 y6, Value.int IntKind.u64 y7] 62)).alloc (Obj.cells #[Value.int IntKind.u64 0, Value.int IntKind.u64 0, Value.int IntKind.u64 0, Value.int IntKind.u64 0, Value.int IntKind.u64 0, Value.int IntKind.u64 0, Value.int IntKind.u64 0, Value.int IntKind.u64 0] 62)) (w.heap.size + 1 + 1) 0 [0, 0, 0, 0, 0, 0, 0, 0] := row_of8 (by simp <;> omega) (by simp [go_sem]) (by simp [go_sem]) (by simp [go_sem]) (by simp [go_sem]) (by simp [go_sem]) (by simp [go_sem]) (by simp [go_sem]) (by simp [go_sem]) (by simp [go_sem]) (by simp [go_sem]) (by simp [go_sem]) (by simp [go_sem]) (by simp [go_sem]) (by simp [go_sem]) (by simp [go_sem]) (by simp [go_sem])
  have hB : Below w.heap.size w (((w.alloc (Obj.cells #[Value.int IntKind.u64 x0, Value.int IntKind.u64 x1, Value.int IntKind.u64 x2, Value.int IntKind.u64 x3, Value.int IntKind.u64 x4, Value.int IntKind.u64 x5, Value.int IntKind.u64 x6, Value.int IntKind.u64 x7] 62)).alloc (Obj.cells #[Value.int IntKind.u64 y0, Value.int IntKind.u64 y1, Value.int IntKind.u64 y2, Value.int IntKind.u64 y3, Value.int IntKind.u64 y4, Value.int IntKind.u64 y5, Value.int IntKind.u64 y6, Value.int IntKind.u64 y7] 62)).alloc (Obj.cells #[Value.int IntKind.u64 0, Value.int IntKind.u64 0, Value.int IntKind.u64 0, Value.int IntKind.u64 0, Value.int IntKind.u64 0, Value.int IntKind.u64 0, Value.int IntKind.u64 0, Value.int IntKind.u64 0] 62)) := (((Below.refl _ _).alloc (Nat.le_refl _) _).alloc (by simp) _).alloc (by simp; omega) _
  go_enter Try.func60, Try.ntmps60
  go_wp2
  generalize ((w.alloc (Obj.cells #[Value.int IntKind.u64 x0, Value.int IntKind.u64 x1, Value.int IntKind.u64 x2, Value.int IntKind.u64 x3, Value.int IntKind.u64 x4, Value.int IntKind.u64 x5, Value.int IntKind.u64 x6, Value.int IntKind.u64 x7] 62)).alloc (Obj.cells #[Value.int IntKind.u64 y0, Value.int IntKind.u64 y1, Value.int IntKind.u64 y2, Value.int IntKind.u64 y3, Value.int IntKind.u64 y4, Value.int IntKind.u64 y5, Value.int IntKind.u64 y6, Value.int IntKind.u64 y7] 62)).alloc (Obj.cells #[Value.int IntKind.u64 0, Value.int IntKind.u64 0, Value.int IntKind.u64 0, Value.int IntKind.u64 0, Value.int IntKind.u64 0, Value.int IntKind.u64 0, Value.int IntKind.u64 0, Value.int IntKind.u64 0] 62) = W at *
  go_region_with ((go_at_call 106; refine (takeWords_any w.heap.size (w.heap.size + 1) 0 0 8 8 8 8 [x0, x1, x2, x3, x4, x5, x6, x7] [y0, y1, y2, y3, y4, y5, y6, y7] _ rfl rfl wx wy (row_drew rx) (row_drew ry) (by omega) (by omega)).mono ?_; rintro e w1 ⟨zs, c, rfl, h1, h2, h3, h4, h5, h6, h7⟩))
  obtain ⟨z0, z1, z2, z3, z4, z5, z6, z7, rfl⟩ := list8 h1
  have HP : Hid (MinusP [x0, x1, x2, x3, x4, x5, x6, x7] [y0, y1, y2, y3, y4, y5, y6, y7] w (.returned (.agg #[.int .u64 z0, .int .u64 z1, .int .u64 z2, .int .u64 z3, .int .u64 z4, .int .u64 z5, .int .u64 z6, .int .u64 z7])) w1) := ⟨[z0, z1, z2, z3, z4, z5, z6, z7], c, rfl, rfl, h2, h3, h4, h5, (hB.drew).trans (h7.below (Nat.le_refl _))⟩
  obtain ⟨c0, c1, c2, c3, c4, c5, c6, c7⟩ := row_cells8 h6
  have rr1 := row_other rr.drewd h7 (by omega)
  obtain ⟨g0, g1, g2, g3, g4, g5, g6, g7⟩ := row_cells8 rr1
  obtain ⟨f0, f1, f2, f3, f4, f5, f6, f7⟩ := row_frz8 rr1
  have hne : w.heap.size + 1 + 1 ≠ w.heap.size := by omega
  clear rx ry rr hB h2 h3 h4 h5 h6 h7 h1 rr1
  go_wp2
  refine bodyPost_ret (v := .agg #[.int .u64 z0, .int .u64 z1, .int .u64 z2, .int .u64 z3, .int .u64 z4, .int .u64 z5, .int .u64 z6, .int .u64 z7]) (by simp [results, Try.results60, go_sem, g0, g1, g2, g3, g4, g5, g6, g7]) rfl ?_
  exact minus8_ret HP.out
end Go.Proofs.Ytddniklhpkagmaa

/- Blocks of cells in memory, and what leaves them as they are. -/
namespace Go.Proofs.Ytddniklhpkagmaa
open Go.RowKit
/-- The block g has these values, and may be written. -/
def Blk (W : World) (g : Nat) (vs : List Value) : Prop := g < W.heap.size ∧ ∀ i v, vs[i]? = some v → W.cell? ⟨g, i, none⟩ = some v ∧ W.frozen? ⟨g, i, none⟩ = false
theorem Blk.lt {W : World} {g : Nat} {vs : List Value} (h : Blk W g vs) : g < W.heap.size := h.1
theorem Blk.c {W : World} {g : Nat} {vs : List Value} (h : Blk W g vs) (i : Nat) {v : Value} (hi : vs[i]? = some v) : W.cell? ⟨g, i, none⟩ = some v := (h.2 i v hi).1
theorem Blk.f {W : World} {g : Nat} {vs : List Value} (h : Blk W g vs) (i : Nat) {v : Value} (hi : vs[i]? = some v) : W.frozen? ⟨g, i, none⟩ = false := (h.2 i v hi).2
theorem Blk.below {W W' : World} {B g : Nat} {vs : List Value} (h : Blk W g vs) (hB : Below B W W') (hg : g < B) : Blk W' g vs :=
  ⟨Nat.lt_of_lt_of_le h.1 hB.size, fun i _ hi => ⟨(hB.cell (p := ⟨g, i, none⟩) hg).trans (h.c i hi), (hB.frozen (p := ⟨g, i, none⟩) hg).trans (h.f i hi)⟩⟩
theorem Blk.step {W W' : World} {g : Nat} {vs : List Value} (h : Blk W g vs) (hB : Below W.heap.size W W') : Blk W' g vs := h.below hB h.1
theorem Blk.alloc {W : World} {g : Nat} {vs : List Value} (h : Blk W g vs) (o : Obj) : Blk (W.alloc o) g vs := h.step ((Below.refl W.heap.size W).alloc (Nat.le_refl _) o)
theorem Blk.drew {W : World} {g : Nat} {vs : List Value} (h : Blk W g vs) : Blk W.drew g vs := h
theorem Blk.new (W : World) (vs : List Value) (t : TypeId) {g : Nat} (hg : g = W.heap.size) : Blk (W.alloc (.cells vs.toArray t)) g vs := by
  subst hg
  refine ⟨by simp, fun i v hi => ⟨?_, by simp [go_sem]⟩⟩
  simp [go_sem, hi]
theorem Blk.setO {W : World} {g : Nat} {vs : List Value} (h : Blk W g vs) {p : Addr} (hne : g ≠ p.block) (u : Value) : Blk (W.setCell p u) g vs := by
  have hh : (W.setCell p u).heap[g]? = W.heap[g]? := Below.heap_setCell _ _ _ _ hne
  refine ⟨by simpa [World.setCell] using h.1, fun i v hi => ⟨?_, ?_⟩⟩
  · have := h.c i hi
    unfold World.cell? at *
    simpa [hh] using this
  · have := h.f i hi
    unfold World.frozen? at *
    simpa [hh] using this
theorem Blk.setI {W : World} {g : Nat} {vs : List Value} (h : Blk W g vs) (j : Nat) (hj : j < vs.length) (u : Value) : Blk (W.setCell ⟨g, j, none⟩ u) g (vs.set j u) := by
  refine ⟨by simpa [World.setCell] using h.1, fun i v hi => ?_⟩
  by_cases e : i = j
  · subst e
    have hv : v = u := by simpa [hj] using hi.symm
    subst hv
    exact ⟨by simp [go_sem, h.c i (List.getElem?_eq_getElem hj)], by simp [go_sem, h.f i (List.getElem?_eq_getElem hj)]⟩
  · have hi' : vs[i]? = some v := by simpa [List.getElem?_set, Ne.symm e] using hi
    exact ⟨(World.cell?_setCell_other _ _ _ _ (by simp)).trans (h.c i hi'), by simp [go_sem, h.f i hi']⟩
/-- The arguments as they lie: block by block from the call's first on. -/
def ArgsB (w W : World) (vss : List (List Value)) : Prop := Below w.heap.size w W ∧ ∀ j vs, vss[j]? = some vs → Blk W (w.heap.size + j) vs
theorem ArgsB.below {w W : World} {vss : List (List Value)} (h : ArgsB w W vss) : Below w.heap.size w W := h.1
theorem ArgsB.b {w W : World} {vss : List (List Value)} (h : ArgsB w W vss) (j : Nat) {vs : List Value} (hj : vss[j]? = some vs) : Blk W (w.heap.size + j) vs := h.2 j vs hj
theorem ArgsB.step {w W W' : World} {vss : List (List Value)} (h : ArgsB w W vss) (hB : Below W.heap.size W W') : ArgsB w W' vss := ⟨h.1.trans (hB.mono h.1.size), fun j vs hj => (h.2 j vs hj).step hB⟩
theorem ArgsB.alloc {w W : World} {vss : List (List Value)} (h : ArgsB w W vss) (o : Obj) : ArgsB w (W.alloc o) vss := h.step ((Below.refl W.heap.size W).alloc (Nat.le_refl _) o)
theorem ArgsB.drew {w W : World} {vss : List (List Value)} (h : ArgsB w W vss) : ArgsB w W.drew vss := ⟨h.1.drew, h.2⟩
theorem ArgsB.set {w W : World} {vss : List (List Value)} (h : ArgsB w W vss) {p : Addr} (hp : w.heap.size + vss.length ≤ p.block) (u : Value) : ArgsB w (W.setCell p u) vss := by
  refine ⟨h.1.setCell (by omega) u, fun j vs hj => (h.2 j vs hj).setO ?_ u⟩
  have : j < vss.length := by
    apply Decidable.byContradiction
    intro hn
    rw [List.getElem?_eq_none (by omega)] at hj
    simp at hj
  omega
/-- What stands behind a law's call: the answer in a block of its own. -/
def CutB (w wx : World) (vss : List (List Value)) (rs : List Value) (p : Value) : Prop :=
  ∃ g, p = .pointer (some ⟨g, 0, none⟩) ∧ w.heap.size + vss.length ≤ g ∧ ArgsB w wx vss ∧ Blk wx g rs
theorem CutB.drew {w wx : World} {vss : List (List Value)} {rs : List Value} {p : Value} (h : CutB w wx vss rs p) : CutB w wx.drew vss rs p := by
  obtain ⟨g, e, l, A, B⟩ := h
  exact ⟨g, e, l, A.drew, B.drew⟩
theorem cutB_new {w wx : World} {vss : List (List Value)} {rs : List Value} {T : TypeId} (h : ArgsB w wx vss) (hl : w.heap.size + vss.length ≤ wx.heap.size) :
    CutB w (wx.alloc (.cells rs.toArray T)) vss rs (.pointer (some ⟨wx.heap.size, 0, none⟩)) := ⟨_, rfl, hl, h.alloc _, Blk.new _ _ _ rfl⟩
theorem cutB_set4 {w wx : World} {vss : List (List Value)} {z0 z1 z2 z3 v0 v1 v2 v3 : Value} {g : Nat} (h : ArgsB w wx vss) (G : Blk wx g [z0, z1, z2, z3]) (hg : w.heap.size + vss.length ≤ g) :
    CutB w ((((wx.setCell ⟨g, 0, none⟩ v0).setCell ⟨g, 1, none⟩ v1).setCell ⟨g, 2, none⟩ v2).setCell ⟨g, 3, none⟩ v3) vss [v0, v1, v2, v3] (.pointer (some ⟨g, 0, none⟩)) :=
  ⟨g, rfl, hg, (((h.set (by exact hg) _).set (by exact hg) _).set (by exact hg) _).set (by exact hg) _, (((G.setI 0 (by simp) v0).setI 1 (by simp) v1).setI 2 (by simp) v2).setI 3 (by simp) v3⟩
theorem Blk.set4 {wx : World} {vs : List Value} {v0 v1 v2 v3 : Value} {g g' : Nat} (G : Blk wx g' vs) (hg : g' ≠ g) :
    Blk ((((wx.setCell ⟨g, 0, none⟩ v0).setCell ⟨g, 1, none⟩ v1).setCell ⟨g, 2, none⟩ v2).setCell ⟨g, 3, none⟩ v3) g' vs :=
  (((G.setO (by exact hg) _).setO (by exact hg) _).setO (by exact hg) _).setO (by exact hg) _
end Go.Proofs.Ytddniklhpkagmaa

/- The walks of numbers of eight words: made of four, turned in their sign, told as four; and of the product of two words. -/
namespace Go.Proofs.Ytddniklhpkagmaa
open Go.RowKit Go.Shelf
theorem mulLays : Lays.n264 Try.prog ⟨fun _ => 113, fun n => if n = 46 then 113 else 22, fun _ => 0⟩ where
  mixed := by kernel_rfl
  f264 := by kernel_rfl
  t46 := by kernel_rfl
  a46 := fun w => by kernel_rfl
  z46 := fun w => by kernel_rfl
  v46 := fun w => by kernel_rfl
  t53 := by kernel_rfl
  a53 := fun w => by kernel_rfl
  z53 := fun w => by kernel_rfl
  v53 := fun w => by kernel_rfl
def MulP (x y : Int) (w : World) (e : Ending) (w' : World) : Prop := e = .returned (.tuple #[.int .u64 (x * y / 18446744073709551616), .int .u64 (x * y % 18446744073709551616)]) ∧ w' = w
theorem mul64 (x y : Int) (hx : Word x) (hy : Word y) (w : World) : Calls Try.prog 113 #[.int .u64 x, .int .u64 y] w (MulP x y w) := by
  obtain ⟨hx0, hx1⟩ := hx
  obtain ⟨hy0, hy1⟩ := hy
  obtain ⟨x, rfl⟩ := Int.eq_ofNat_of_zero_le hx0
  obtain ⟨y, rfl⟩ := Int.eq_ofNat_of_zero_le hy0
  refine (Any.bits_Mul64 mulLays x y (by omega) (by omega) w).mono ?_
  rintro e w' ⟨rfl, rfl⟩
  exact ⟨by simp, rfl⟩
abbrev L8 (x0 x1 x2 x3 x4 x5 x6 x7 : Int) : Value := .agg #[.int .u64 x0, .int .u64 x1, .int .u64 x2, .int .u64 x3, .int .u64 x4, .int .u64 x5, .int .u64 x6, .int .u64 x7]
def LongP (x0 x1 x2 x3 x4 x5 x6 x7 : Int) (w : World) (e : Ending) (w' : World) : Prop := e = .returned (L8 x0 x1 x2 x3 x4 x5 x6 x7) ∧ Below w.heap.size w w'
/-- The words that a sign fills. -/
def fillW (a3 : Int) : Int := if a3 < 9223372036854775808 then 0 else 18446744073709551615
set_option maxRecDepth 100000 in
set_option maxHeartbeats 400000 in
theorem longOf_any (a3 a2 a1 a0 : Int) (h3 : Word a3) (w : World) :
    Calls Try.prog 55 #[.agg #[.int .u64 a3, .int .u64 a2, .int .u64 a1, .int .u64 a0]] w (LongP a0 a1 a2 a3 (fillW a3) (fillW a3) (fillW a3) (fillW a3) w) := by
  obtain ⟨f, hf⟩ : ∃ f, fillW a3 = f := ⟨_, rfl⟩
  have hd : IntKind.u64.wrap (wrap64 a3 / 9223372036854775808) = f := by
    unfold Word at h3
    rw [← hf, IntKind.wrap_u64]
    unfold fillW wrap64
    split <;> omega
  rw [hf]
  go_enter Try.func55, Try.ntmps55
  go_wp2
  refine bodyPost_ret (v := L8 a0 a1 a2 a3 f f f f) (by simp [results, Try.results55, go_sem]) rfl ?_
  exact ⟨rfl, ((Below.refl _ _).alloc (Nat.le_refl _) _).alloc (by simp) _⟩
/-- The number that eight words stand for, with its sign. -/
def sl (x0 x1 x2 x3 x4 x5 x6 x7 : Int) : Int := val64 [x0, x1, x2, x3, x4, x5, x6, x7] - (if x7 < 9223372036854775808 then 0 else 13407807929942597099574024998205846127479365820592393377723561443721764030073546976801874298166903427690031858186486050853753882811946569946433649006084096)
/-- The number with its sign turned where b holds, or as it was. -/
def SignP (x0 x1 x2 x3 x4 x5 x6 x7 : Int) (b : Bool) (w : World) (e : Ending) (w' : World) : Prop :=
  ∃ z0 z1 z2 z3 z4 z5 z6 z7, e = .returned (L8 z0 z1 z2 z3 z4 z5 z6 z7) ∧ Words [z0, z1, z2, z3, z4, z5, z6, z7] ∧ (∃ c, 0 ≤ c ∧ c ≤ 1 ∧ val64 [z0, z1, z2, z3, z4, z5, z6, z7] = if b then 0 - val64 [x0, x1, x2, x3, x4, x5, x6, x7] + c * 13407807929942597099574024998205846127479365820592393377723561443721764030073546976801874298166903427690031858186486050853753882811946569946433649006084096 else val64 [x0, x1, x2, x3, x4, x5, x6, x7]) ∧ Below w.heap.size w w'
theorem pw64_8 : pw64 8 = 13407807929942597099574024998205846127479365820592393377723561443721764030073546976801874298166903427690031858186486050853753882811946569946433649006084096 := by decide
set_option maxRecDepth 100000 in
set_option maxHeartbeats 1000000 in
theorem signed_any (x0 x1 x2 x3 x4 x5 x6 x7 : Int) (b : Bool) (wx : Words [x0, x1, x2, x3, x4, x5, x6, x7]) (w : World) :
    Calls Try.prog 61 #[L8 x0 x1 x2 x3 x4 x5 x6 x7, .bool b] w (SignP x0 x1 x2 x3 x4 x5 x6 x7 b w) := by
  have B0 := (Blk.new w [.int .u64 x0, .int .u64 x1, .int .u64 x2, .int .u64 x3, .int .u64 x4, .int .u64 x5, .int .u64 x6, .int .u64 x7] 62 rfl).alloc (.cells #[.int .u64 0, .int .u64 0, .int .u64 0, .int .u64 0, .int .u64 0, .int .u64 0, .int .u64 0, .int .u64 0] 62)
  have B1 := Blk.new (w.alloc (.cells #[.int .u64 x0, .int .u64 x1, .int .u64 x2, .int .u64 x3, .int .u64 x4, .int .u64 x5, .int .u64 x6, .int .u64 x7] 62)) [.int .u64 0, .int .u64 0, .int .u64 0, .int .u64 0, .int .u64 0, .int .u64 0, .int .u64 0, .int .u64 0] 62 (g := w.heap.size + 1) (by simp)
  have HB0 := ((Below.refl _ w).alloc (Nat.le_refl _) (.cells #[.int .u64 x0, .int .u64 x1, .int .u64 x2, .int .u64 x3, .int .u64 x4, .int .u64 x5, .int .u64 x6, .int .u64 x7] 62)).alloc (by simp) (.cells #[.int .u64 0, .int .u64 0, .int .u64 0, .int .u64 0, .int .u64 0, .int .u64 0, .int .u64 0, .int .u64 0] 62)
  have w0 : Words [0, 0, 0, 0, 0, 0, 0, 0] := by
    intro d hd
    simp at hd
    subst hd
    exact ⟨by decide, by decide⟩
  cases b
  · go_enter Try.func61, Try.ntmps61
    go_wp2
    refine bodyPost_ret (v := L8 x0 x1 x2 x3 x4 x5 x6 x7) (by simp [results, Try.results61, go_sem]) rfl ?_
    exact ⟨x0, x1, x2, x3, x4, x5, x6, x7, rfl, wx, ⟨0, by decide, by decide, by simp⟩, ((Below.refl _ _).alloc (Nat.le_refl _) _).alloc (by simp) _⟩
  · go_enter Try.func61, Try.ntmps61
    go_wp2_with fail
    refine (minus8 0 0 0 0 0 0 0 0 x0 x1 x2 x3 x4 x5 x6 x7 w0 wx _).mono ?_
    rintro e w1 ⟨zs, c, rfl, h1, h2, h3, h4, h5, hB⟩
    obtain ⟨z0, z1, z2, z3, z4, z5, z6, z7, rfl⟩ := list8 h1
    replace B1 := B1.step hB
    have HB : Below w.heap.size w w1 := HB0.trans (hB.mono HB0.size)
    have HV : val64 [z0, z1, z2, z3, z4, z5, z6, z7] = 0 - val64 [x0, x1, x2, x3, x4, x5, x6, x7] + c * 13407807929942597099574024998205846127479365820592393377723561443721764030073546976801874298166903427690031858186486050853753882811946569946433649006084096 := by
      rw [h5, show ([0, 0, 0, 0, 0, 0, 0, 0] : List Int).length = 8 from rfl, pw64_8]
      simp [val64]
    have c0 := B1.c 0 rfl; have f0 := B1.f 0 rfl; have c1 := B1.c 1 rfl; have f1 := B1.f 1 rfl; have c2 := B1.c 2 rfl; have f2 := B1.f 2 rfl; have c3 := B1.c 3 rfl; have f3 := B1.f 3 rfl; have c4 := B1.c 4 rfl; have f4 := B1.f 4 rfl; have c5 := B1.c 5 rfl; have f5 := B1.f 5 rfl; have c6 := B1.c 6 rfl; have f6 := B1.f 6 rfl; have c7 := B1.c 7 rfl; have f7 := B1.f 7 rfl
    have lt := B1.lt
    clear hB h5 h1 HB0 B0
    go_wp2
    refine bodyPost_ret (v := L8 z0 z1 z2 z3 z4 z5 z6 z7) (by simp [results, Try.results61, go_sem, c0, c1, c2, c3, c4, c5, c6, c7]) rfl ?_
    refine ⟨z0, z1, z2, z3, z4, z5, z6, z7, rfl, h2, ⟨c, h3, h4, by rw [if_pos rfl]; exact HV⟩, ?_⟩
    repeat' (refine Below.setCell ?_ (by simp) _)
    exact HB
end Go.Proofs.Ytddniklhpkagmaa

/- The walk of a number of eight words, told as four. -/
namespace Go.Proofs.Ytddniklhpkagmaa
open Go.RowKit
theorem tw_cells {x0 x1 x2 x3 x4 x5 x6 x7 : Int} {w W : World} (h : ArgsB w W [[.int .u64 x0, .int .u64 x1, .int .u64 x2, .int .u64 x3, .int .u64 x4, .int .u64 x5, .int .u64 x6, .int .u64 x7], [.int .u64 0, .int .u64 0, .int .u64 0, .int .u64 0], [.int .u64 x3, .int .u64 x2, .int .u64 x1, .int .u64 x0]]) : (fun w' => w'.cell? ⟨w.heap.size, 0, none⟩ = some (.int .u64 x0) ∧ w'.cell? ⟨w.heap.size, 1, none⟩ = some (.int .u64 x1) ∧ w'.cell? ⟨w.heap.size, 2, none⟩ = some (.int .u64 x2) ∧ w'.cell? ⟨w.heap.size, 3, none⟩ = some (.int .u64 x3) ∧ w'.cell? ⟨w.heap.size, 4, none⟩ = some (.int .u64 x4) ∧ w'.cell? ⟨w.heap.size, 5, none⟩ = some (.int .u64 x5) ∧ w'.cell? ⟨w.heap.size, 6, none⟩ = some (.int .u64 x6) ∧ w'.cell? ⟨w.heap.size, 7, none⟩ = some (.int .u64 x7) ∧ w'.cell? ⟨w.heap.size + 1 + 1, 0, none⟩ = some (.int .u64 x3) ∧ w'.cell? ⟨w.heap.size + 1 + 1, 1, none⟩ = some (.int .u64 x2) ∧ w'.cell? ⟨w.heap.size + 1 + 1, 2, none⟩ = some (.int .u64 x1) ∧ w'.cell? ⟨w.heap.size + 1 + 1, 3, none⟩ = some (.int .u64 x0)) W :=
  ⟨(h.b 0 rfl).c 0 rfl, (h.b 0 rfl).c 1 rfl, (h.b 0 rfl).c 2 rfl, (h.b 0 rfl).c 3 rfl, (h.b 0 rfl).c 4 rfl, (h.b 0 rfl).c 5 rfl, (h.b 0 rfl).c 6 rfl, (h.b 0 rfl).c 7 rfl, (h.b 2 rfl).c 0 rfl, (h.b 2 rfl).c 1 rfl, (h.b 2 rfl).c 2 rfl, (h.b 2 rfl).c 3 rfl⟩
theorem tw_start (x0 x1 x2 x3 x4 x5 x6 x7 : Int) (w : World) : ArgsB w (((w.alloc (.cells #[.int .u64 x0, .int .u64 x1, .int .u64 x2, .int .u64 x3, .int .u64 x4, .int .u64 x5, .int .u64 x6, .int .u64 x7] 62)).alloc (.cells #[.int .u64 0, .int .u64 0, .int .u64 0, .int .u64 0] 25)).alloc (.cells #[.int .u64 x3, .int .u64 x2, .int .u64 x1, .int .u64 x0] 25)) [[.int .u64 x0, .int .u64 x1, .int .u64 x2, .int .u64 x3, .int .u64 x4, .int .u64 x5, .int .u64 x6, .int .u64 x7], [.int .u64 0, .int .u64 0, .int .u64 0, .int .u64 0], [.int .u64 x3, .int .u64 x2, .int .u64 x1, .int .u64 x0]] := by
  refine ⟨(((Below.refl _ _).alloc (Nat.le_refl _) _).alloc (by simp) _).alloc (by simp; omega) _, fun j vs hj => ?_⟩
  match j, hj with
  | 0, hj => cases hj; exact ((Blk.new w [.int .u64 x0, .int .u64 x1, .int .u64 x2, .int .u64 x3, .int .u64 x4, .int .u64 x5, .int .u64 x6, .int .u64 x7] 62 rfl).alloc _).alloc _
  | 1, hj => cases hj; exact (Blk.new (w.alloc (.cells #[.int .u64 x0, .int .u64 x1, .int .u64 x2, .int .u64 x3, .int .u64 x4, .int .u64 x5, .int .u64 x6, .int .u64 x7] 62)) [.int .u64 0, .int .u64 0, .int .u64 0, .int .u64 0] 25 (by simp)).alloc _
  | 2, hj => cases hj; exact Blk.new ((w.alloc (.cells #[.int .u64 x0, .int .u64 x1, .int .u64 x2, .int .u64 x3, .int .u64 x4, .int .u64 x5, .int .u64 x6, .int .u64 x7] 62)).alloc (.cells #[.int .u64 0, .int .u64 0, .int .u64 0, .int .u64 0] 25)) [.int .u64 x3, .int .u64 x2, .int .u64 x1, .int .u64 x0] 25 (by simp)
  | j + 3, hj => simp at hj
theorem words8_of {x0 x1 x2 x3 x4 x5 x6 x7 : Int} (h : Words [x0, x1, x2, x3, x4, x5, x6, x7]) : Word x0 ∧ Word x1 ∧ Word x2 ∧ Word x3 ∧ Word x4 ∧ Word x5 ∧ Word x6 ∧ Word x7 := ⟨h _ (by simp), h _ (by simp), h _ (by simp), h _ (by simp), h _ (by simp), h _ (by simp), h _ (by simp), h _ (by simp)⟩
theorem sl_told {x0 x1 x2 x3 x4 x5 x6 x7 : Int} (h : Words [x0, x1, x2, x3, x4, x5, x6, x7]) (he : x4 = fillW x3 ∧ x5 = fillW x3 ∧ x6 = fillW x3 ∧ x7 = fillW x3) : told (sl x0 x1 x2 x3 x4 x5 x6 x7) = true ∧ sw x3 x2 x1 x0 = sl x0 x1 x2 x3 x4 x5 x6 x7 := by
  obtain ⟨h0, h1, h2, h3, h4, h5, h6, h7⟩ := words8_of h
  obtain ⟨e4, e5, e6, e7⟩ := he
  have hs : sw x3 x2 x1 x0 = sl x0 x1 x2 x3 x4 x5 x6 x7 := by
    unfold sl sw uw fillW Word at *
    simp only [val64]
    by_cases p : x3 < 9223372036854775808
    · rw [if_pos p] at e4 e5 e6 e7 ⊢
      subst e4 e5 e6 e7
      rw [if_pos (by decide)]
      omega
    · rw [if_neg p] at e4 e5 e6 e7 ⊢
      subst e4 e5 e6 e7
      rw [if_neg (by decide)]
      omega
  refine ⟨?_, hs⟩
  rw [← hs]
  unfold told
  apply decide_eq_true
  unfold sw uw Word at *
  by_cases p : x3 < 9223372036854775808
  · rw [if_pos p]; omega
  · rw [if_neg p]; omega
theorem sl_not {x0 x1 x2 x3 x4 x5 x6 x7 : Int} (h : Words [x0, x1, x2, x3, x4, x5, x6, x7]) (he : ¬ (x4 = fillW x3 ∧ x5 = fillW x3 ∧ x6 = fillW x3 ∧ x7 = fillW x3)) : told (sl x0 x1 x2 x3 x4 x5 x6 x7) = false := by
  obtain ⟨h0, h1, h2, h3, h4, h5, h6, h7⟩ := words8_of h
  unfold told
  apply decide_eq_false
  intro hh
  unfold sl fillW Word at *
  simp only [val64] at hh
  by_cases p : x3 < 9223372036854775808 <;> by_cases q : x7 < 9223372036854775808
  · rw [if_pos p] at he; rw [if_pos q] at hh; omega
  · rw [if_pos p] at he; rw [if_neg q] at hh; omega
  · rw [if_neg p] at he; rw [if_pos q] at hh; omega
  · rw [if_neg p] at he; rw [if_neg q] at hh; omega
set_option maxRecDepth 100000 in
set_option maxHeartbeats 2000000 in
theorem eqLong (x0 x1 x2 x3 y4 y5 y6 y7 x4 x5 x6 x7 : Int) (w : World) : (Op.equalIn 10000 62 (L8 x0 x1 x2 x3 y4 y5 y6 y7) (L8 x0 x1 x2 x3 x4 x5 x6 x7)).run Try.prog w = .ok (y4 == x4 && y5 == x5 && y6 == x6 && y7 == x7) w := by
  have u3 := Try.underlying22
  have a3 := Try.isAgg22
  have z3 := Try.sizeOf22
  rw [show (10000 : Nat) = 9999 + 1 from rfl, Op.equalIn]
  simp only [Sem.run_bind, run_underlying Try.underlying62, Result.andThen_ok]
  simp only [Std.Legacy.Range.forIn_eq_forIn_range', Std.Legacy.Range.size, Nat.sub_zero, Nat.add_sub_cancel, Nat.div_one, List.range'_succ, List.range'_zero, List.forIn_cons, List.forIn_nil]
  go_simp
  by_cases h4 : y4 = x4 <;> by_cases h5 : y5 = x5 <;> by_cases h6 : y6 = x6 <;> by_cases h7 : y7 = x7 <;> simp [h4, h5, h6, h7]
set_option maxRecDepth 100000 in
set_option maxHeartbeats 2000000 in
theorem tellWide_any (x0 x1 x2 x3 x4 x5 x6 x7 : Int) (wx : Words [x0, x1, x2, x3, x4, x5, x6, x7]) (w : World) :
    Calls Try.prog 52 #[L8 x0 x1 x2 x3 x4 x5 x6 x7] w (TellP (sl x0 x1 x2 x3 x4 x5 x6 x7) w) := by
  have T0 := tw_start x0 x1 x2 x3 x4 x5 x6 x7 w
  have h3 := (words8_of wx).2.2.2.1
  have EQ : ∀ W : World, (Op.equalIn 10000 62 (L8 x0 x1 x2 x3 (fillW x3) (fillW x3) (fillW x3) (fillW x3)) (L8 x0 x1 x2 x3 x4 x5 x6 x7)).run Try.prog W = .ok (fillW x3 == x4 && fillW x3 == x5 && fillW x3 == x6 && fillW x3 == x7) W := eqLong _ _ _ _ _ _ _ _ _ _ _ _
  obtain ⟨B, hB0⟩ : ∃ B, (fillW x3 == x4 && fillW x3 == x5 && fillW x3 == x6 && fillW x3 == x7) = B := ⟨_, rfl⟩
  simp only [hB0] at EQ
  go_enter Try.func52, Try.ntmps52
  go_upto_region 2 with fail
  generalize (((w.alloc (.cells #[.int .u64 x0, .int .u64 x1, .int .u64 x2, .int .u64 x3, .int .u64 x4, .int .u64 x5, .int .u64 x6, .int .u64 x7] 62)).alloc (.cells #[.int .u64 0, .int .u64 0, .int .u64 0, .int .u64 0] 25)).alloc (.cells #[.int .u64 x3, .int .u64 x2, .int .u64 x1, .int .u64 x0] 25)) = W at *
  go_cut [17] (fun q wc => q = .bool (!B) ∧ ArgsB w wc [[.int .u64 x0, .int .u64 x1, .int .u64 x2, .int .u64 x3, .int .u64 x4, .int .u64 x5, .int .u64 x6, .int .u64 x7], [.int .u64 0, .int .u64 0, .int .u64 0, .int .u64 0], [.int .u64 x3, .int .u64 x2, .int .u64 x1, .int .u64 x0]])
  case first =>
    go_region_held3 (fun w' => w'.cell? ⟨w.heap.size, 0, none⟩ = some (.int .u64 x0) ∧ w'.cell? ⟨w.heap.size, 1, none⟩ = some (.int .u64 x1) ∧ w'.cell? ⟨w.heap.size, 2, none⟩ = some (.int .u64 x2) ∧ w'.cell? ⟨w.heap.size, 3, none⟩ = some (.int .u64 x3) ∧ w'.cell? ⟨w.heap.size, 4, none⟩ = some (.int .u64 x4) ∧ w'.cell? ⟨w.heap.size, 5, none⟩ = some (.int .u64 x5) ∧ w'.cell? ⟨w.heap.size, 6, none⟩ = some (.int .u64 x6) ∧ w'.cell? ⟨w.heap.size, 7, none⟩ = some (.int .u64 x7) ∧ w'.cell? ⟨w.heap.size + 1 + 1, 0, none⟩ = some (.int .u64 x3) ∧ w'.cell? ⟨w.heap.size + 1 + 1, 1, none⟩ = some (.int .u64 x2) ∧ w'.cell? ⟨w.heap.size + 1 + 1, 2, none⟩ = some (.int .u64 x1) ∧ w'.cell? ⟨w.heap.size + 1 + 1, 3, none⟩ = some (.int .u64 x0)) (first | (with_reducible exact tw_cells T0) | (with_reducible exact tw_cells T0.drew))
      ((go_at_call 55; refine (longOf_any x3 x2 x1 x0 h3 _).mono ?_; rintro e w1 ⟨rfl, hB⟩; (first | (have T1 := T0.step hB) | (have T1 := T0.drew.step hB)); clear T0; have T0 := T1; clear T1; clear hB))
    all_goals go_wp2_with fail
    all_goals go_meet
    all_goals first | exact ⟨rfl, T0⟩ | exact ⟨rfl, T0.drew⟩
  case rest =>
    clear T0 EQ
    obtain ⟨hq, T0⟩ := hcut
    subst hq
    have HB := T0.below
    have p0 := (T0.b 1 rfl).c 0 rfl; have f0 := (T0.b 1 rfl).f 0 rfl; have q0 := (T0.b 2 rfl).c 0 rfl; have p1 := (T0.b 1 rfl).c 1 rfl; have f1 := (T0.b 1 rfl).f 1 rfl; have q1 := (T0.b 2 rfl).c 1 rfl; have p2 := (T0.b 1 rfl).c 2 rfl; have f2 := (T0.b 1 rfl).f 2 rfl; have q2 := (T0.b 2 rfl).c 2 rfl; have p3 := (T0.b 1 rfl).c 3 rfl; have f3 := (T0.b 1 rfl).f 3 rfl; have q3 := (T0.b 2 rfl).c 3 rfl
    have l1 := (T0.b 1 rfl).lt
    have l2 := (T0.b 2 rfl).lt
    clear T0
    cases B
    · have hn : ¬ (x4 = fillW x3 ∧ x5 = fillW x3 ∧ x6 = fillW x3 ∧ x7 = fillW x3) := by
        rintro ⟨e4, e5, e6, e7⟩
        rw [← e4] at hB0
        simp [← e4, e5, e6, e7] at hB0
      have HT := sl_not wx hn
      clear hB0 hn
      go_wp2
      refine bodyPost_ret (v := .tuple #[.agg #[.int .u64 0, .int .u64 0, .int .u64 0, .int .u64 0], .bool false]) (by simp [results, Try.results52, go_sem, p0, p1, p2, p3]) rfl ?_
      refine ⟨?_, Or.inr ⟨HT, rfl⟩⟩
      repeat' (refine Below.setCell ?_ (by simp) _)
      exact HB
    · have he : x4 = fillW x3 ∧ x5 = fillW x3 ∧ x6 = fillW x3 ∧ x7 = fillW x3 := by
        simp at hB0
        obtain ⟨⟨⟨e4, e5⟩, e6⟩, e7⟩ := hB0
        exact ⟨e4.symm, e5.symm, e6.symm, e7.symm⟩
      have HT := sl_told wx he
      obtain ⟨w0, w1, w2, w3, -, -, -, -⟩ := words8_of wx
      clear hB0 he
      go_wp2
      refine bodyPost_ret (v := .tuple #[.agg #[.int .u64 x3, .int .u64 x2, .int .u64 x1, .int .u64 x0], .bool true]) (by simp [results, Try.results52, go_sem, p0, p1, p2, p3]) rfl ?_
      refine ⟨?_, Or.inl ⟨HT.1, x3, x2, x1, x0, rfl, w3, w2, w1, w0, HT.2⟩⟩
      repeat' (refine Below.setCell ?_ (by simp) _)
      exact HB
end Go.Proofs.Ytddniklhpkagmaa

/- The product of two rows of words, round by round: the reckoning. -/
namespace Go.Proofs.Ytddniklhpkagmaa
open Go.RowKit
theorem val64_set (zs : List Int) (j : Nat) (h : j < zs.length) (u : Int) : val64 (zs.set j u) = val64 zs + pw64 j * (u - zs[j]) := by
  induction zs generalizing j with
  | nil => simp at h
  | cons d t ih =>
    cases j with
    | zero => simp [val64, pw64]; omega
    | succ j =>
      simp only [List.set_cons_succ, val64, pw64, List.getElem_cons_succ]
      rw [ih j (by simpa using h)]
      grind
theorem pw64_add (i k : Nat) : pw64 (i + k) = pw64 i * pw64 k := by
  induction i with
  | zero => simp [pw64]
  | succ i ih => rw [show i + 1 + k = (i + k) + 1 by omega, pw64, pw64, ih]; grind
theorem words_set {zs : List Int} (h : Words zs) (j : Nat) {u : Int} (hu : Word u) : Words (zs.set j u) := by
  intro d hd
  rcases List.mem_or_eq_of_mem_set hd with h' | h'
  · exact h d h'
  · subst h'; exact hu
theorem tm_arith {P z o : Int} (p0 : 0 ≤ P) (p1 : P ≤ 340282366920938463426481119284349108225) (hz : Word z) (ho : Word o) :
    Word (P / 18446744073709551616) ∧ Word (P % 18446744073709551616) ∧ Word ((P % 18446744073709551616 + z) % 18446744073709551616) ∧
    P / 18446744073709551616 + (P % 18446744073709551616 + z) / 18446744073709551616 < 18446744073709551616 ∧
    ((P % 18446744073709551616 + z) % 18446744073709551616 + o) % 18446744073709551616 = (P + z + o) % 18446744073709551616 ∧
    P / 18446744073709551616 + (P % 18446744073709551616 + z) / 18446744073709551616 + ((P % 18446744073709551616 + z) % 18446744073709551616 + o) / 18446744073709551616 = (P + z + o) / 18446744073709551616 ∧
    Word ((P + z + o) / 18446744073709551616) ∧ Word ((P + z + o) % 18446744073709551616) := by
  unfold Word at *
  refine ⟨?_, ?_, ?_, ?_, ?_, ?_, ?_, ?_⟩ <;> omega
theorem word_mul {x y : Int} (hx : Word x) (hy : Word y) : 0 ≤ x * y ∧ x * y ≤ 340282366920938463426481119284349108225 := by
  unfold Word at *
  refine ⟨Int.mul_nonneg hx.1 hy.1, ?_⟩
  have h1 : x * y ≤ 18446744073709551615 * y := Int.mul_le_mul_of_nonneg_right (by omega) hy.1
  omega
/-- Noughts at the high end do not count. -/
theorem val64_cut (xs : List Int) (n : Nat) (hn : n ≤ xs.length) (hz : ∀ j, n ≤ j → (h : j < xs.length) → xs[j] = 0) : val64 (xs.take n) = val64 xs := by
  induction xs generalizing n with
  | nil => simp
  | cons d t ih =>
    cases n with
    | zero =>
      have h0 : d = 0 := hz 0 (Nat.zero_le _) (by simp)
      have ht := ih 0 (Nat.zero_le _) (fun j _ h => by have := hz (j + 1) (by omega) (by simpa using h); simpa using this)
      simp only [List.take_zero, val64] at ht ⊢
      rw [h0, ← ht]; rfl
    | succ n =>
      simp only [List.take_succ_cons, val64]
      rw [ih n (by simpa using hn) (fun j hj h => by have := hz (j + 1) (by omega) (by simpa using h); simpa using this)]
end Go.Proofs.Ytddniklhpkagmaa

/- The walk of the table of a byte's bits. -/
namespace Go.Proofs.Ytddniklhpkagmaa
open Go.RowKit
def len8 : ByteArray := ⟨#[0, 1, 2, 2, 3, 3, 3, 3, 4, 4, 4, 4, 4, 4, 4, 4, 5, 5, 5, 5, 5, 5, 5, 5, 5, 5, 5, 5, 5, 5, 5, 5, 6, 6, 6, 6, 6, 6, 6, 6, 6, 6, 6, 6, 6, 6, 6, 6, 6, 6, 6, 6, 6, 6, 6, 6, 6, 6, 6, 6, 6, 6, 6, 6, 7, 7, 7, 7, 7, 7, 7, 7, 7, 7, 7, 7, 7, 7, 7, 7, 7, 7, 7, 7, 7, 7, 7, 7, 7, 7, 7, 7, 7, 7, 7, 7, 7, 7, 7, 7, 7, 7, 7, 7, 7, 7, 7, 7, 7, 7, 7, 7, 7, 7, 7, 7, 7, 7, 7, 7, 7, 7, 7, 7, 7, 7, 7, 7, 8, 8, 8, 8, 8, 8, 8, 8, 8, 8, 8, 8, 8, 8, 8, 8, 8, 8, 8, 8, 8, 8, 8, 8, 8, 8, 8, 8, 8, 8, 8, 8, 8, 8, 8, 8, 8, 8, 8, 8, 8, 8, 8, 8, 8, 8, 8, 8, 8, 8, 8, 8, 8, 8, 8, 8, 8, 8, 8, 8, 8, 8, 8, 8, 8, 8, 8, 8, 8, 8, 8, 8, 8, 8, 8, 8, 8, 8, 8, 8, 8, 8, 8, 8, 8, 8, 8, 8, 8, 8, 8, 8, 8, 8, 8, 8, 8, 8, 8, 8, 8, 8, 8, 8, 8, 8, 8, 8, 8, 8, 8, 8, 8, 8, 8, 8, 8, 8, 8, 8, 8, 8, 8, 8, 8, 8, 8, 8]⟩
def okLen (n : Nat) (b : Nat) : Bool := decide (n < 2 ^ b) && (b == 0 || decide (2 ^ (b - 1) ≤ n))
theorem len8_size : len8.size = 256 := by decide +kernel
theorem len8_all : ∀ n : Fin 256, okLen n.1 (len8[n.1]'(by rw [len8_size]; exact n.2)).toNat = true := by decide +kernel
theorem len8_small : ∀ n : Fin 256, (len8[n.1]'(by rw [len8_size]; exact n.2)).toNat ≤ 8 := by decide +kernel
theorem len8_at (y : Int) (h0 : 0 ≤ y) (h1 : y < 256) (hp : y.toNat < len8.size) : BitsOf y (len8[y.toNat]'hp).toNat ∧ (len8[y.toNat]'hp).toNat ≤ 8 := by
  have h := len8_all ⟨y.toNat, by omega⟩
  have h' := len8_small ⟨y.toNat, by omega⟩
  refine ⟨?_, h'⟩
  unfold okLen at h
  simp only [Bool.and_eq_true, decide_eq_true_iff, Bool.or_eq_true, beq_iff_eq] at h
  generalize (len8[y.toNat]'hp).toNat = b at *
  refine ⟨h0, ?_, ?_⟩
  · rw [ipow2]; have := h.1; omega
  · rcases h.2 with h2 | h2
    · exact Or.inl h2
    · right; rw [ipow2]; omega
theorem bits_shift {x y : Int} {k b : Nat} (hx : 0 ≤ x) (hy : y = x / 2 ^ k) (hb : BitsOf y b) (hp : k = 0 ∨ 0 < y) : BitsOf x (k + b) := by
  rcases hp with rfl | hp
  · simp only [Int.pow_zero, Int.ediv_one] at hy
    subst hy
    simpa using hb
  · obtain ⟨g0, g1, g2⟩ := hb
    have hk : (0 : Int) < 2 ^ k := Int.pow_pos (by decide)
    have hb0 : b ≠ 0 := by rintro rfl; simp at g1; omega
    refine ⟨hx, ?_, Or.inr ?_⟩
    · rw [Int.pow_add]
      have : x < (y + 1) * 2 ^ k := by rw [hy]; exact Int.lt_ediv_add_one_mul_self _ hk
      have h2 : (y + 1) * 2 ^ k ≤ 2 ^ b * 2 ^ k := Int.mul_le_mul_of_nonneg_right (by omega) (by omega)
      rw [Int.mul_comm (2 ^ k)]
      omega
    · rcases g2 with g2 | g2
      · exact absurd g2 hb0
      · rw [show k + b - 1 = k + (b - 1) by omega, Int.pow_add]
        have h1 : 2 ^ (b - 1) * 2 ^ k ≤ y * 2 ^ k := Int.mul_le_mul_of_nonneg_right g2 (by omega)
        have h2 : y * 2 ^ k ≤ x := by rw [hy]; exact Int.ediv_mul_le _ (by omega)
        rw [Int.mul_comm (2 ^ k)]
        omega
theorem len_e0 {b b' : Nat} (h : b = b') (hb : b' ≤ 8) : wrap64 (wrap64 (b : Int)) = ((0 : Nat) : Int) + (b' : Int) := by
  subst h; unfold wrap64; omega
theorem len_ek {b b' : Nat} (K : Int) (k : Nat) (hK : K = k) (hk : k ≤ 56) (h : b = b') (hb : b' ≤ 8) : wrap64 (K + wrap64 (b : Int)) = (k : Int) + (b' : Int) := by
  subst h; subst hK; unfold wrap64; omega
theorem len_close {x y : Int} {k : Nat} (w : World) (hx : 0 ≤ x) (hy : y = x / 2 ^ k) (h0 : 0 ≤ y) (h1 : y < 256) (_hk : k ≤ 56) (hp : k = 0 ∨ 0 < y) (hq : y.toNat < len8.size) (v : Int) (hv : v = (k : Int) + ((len8[y.toNat]'hq).toNat : Int)) : BitsP x w (.returned (.int .i64 v)) w := by
  obtain ⟨g1, g2⟩ := len8_at y h0 h1 hq
  exact ⟨k + (len8[y.toNat]'hq).toNat, by rw [hv]; rfl, bits_shift hx hy g1 hp, Below.refl _ _⟩
end Go.Proofs.Ytddniklhpkagmaa

/- The walk of the count of a word's bits. -/
namespace Go.Proofs.Ytddniklhpkagmaa
open Go.RowKit
set_option maxRecDepth 100000 in
set_option maxHeartbeats 1000000 in
theorem len64_0 (x : Int) (h : Word x) (w : World) (h1 : ¬ 4294967296 ≤ x) (h2 : ¬ 65536 ≤ x) (h3 : ¬ 256 ≤ x) :
    Calls Try.prog 120 #[.int .u64 x] w (BitsP x w) := by
  obtain ⟨l, u⟩ := h
  have hu : x < 256 := by omega
  have hl : 0 ≤ x := by omega
  go_enter Try.func120, Try.ntmps120
  go_wp2
  go_ret
  have hy : x = x / 2 ^ 0 := by rw [show (2 : Int) ^ 0 = 1 by decide] <;> omega
  refine len_close w l hy hl hu (by decide) (by omega) (by rw [len8_size]; omega) _ ?_
  have hs := (len8_at (x) hl hu (by rw [len8_size]; omega)).2
  exact len_e0 rfl hs
set_option maxRecDepth 100000 in
set_option maxHeartbeats 1000000 in
theorem len64_8 (x : Int) (h : Word x) (w : World) (h1 : ¬ 4294967296 ≤ x) (h2 : ¬ 65536 ≤ x) (h3 : 256 ≤ x) :
    Calls Try.prog 120 #[.int .u64 x] w (BitsP x w) := by
  obtain ⟨l, u⟩ := h
  have hu : x / 256 < 256 := by omega
  have hl : 0 ≤ x / 256 := by omega
  go_enter Try.func120, Try.ntmps120
  go_wp2
  go_ret
  have hy : x / 256 = x / 2 ^ 8 := by rw [show (2 : Int) ^ 8 = 256 by decide] <;> omega
  refine len_close w l hy hl hu (by decide) (by omega) (by rw [len8_size]; omega) _ ?_
  have hs := (len8_at (x / 256) hl hu (by rw [len8_size]; omega)).2
  exact len_ek 8 8 rfl (by decide) rfl hs
set_option maxRecDepth 100000 in
set_option maxHeartbeats 1000000 in
theorem len64_16 (x : Int) (h : Word x) (w : World) (h1 : ¬ 4294967296 ≤ x) (h2 : 65536 ≤ x) (h3 : ¬ 256 ≤ x / 65536) :
    Calls Try.prog 120 #[.int .u64 x] w (BitsP x w) := by
  obtain ⟨l, u⟩ := h
  have hu : x / 65536 < 256 := by omega
  have hl : 0 ≤ x / 65536 := by omega
  go_enter Try.func120, Try.ntmps120
  go_wp2
  go_ret
  have hy : x / 65536 = x / 2 ^ 16 := by rw [show (2 : Int) ^ 16 = 65536 by decide] <;> omega
  refine len_close w l hy hl hu (by decide) (by omega) (by rw [len8_size]; omega) _ ?_
  have hs := (len8_at (x / 65536) hl hu (by rw [len8_size]; omega)).2
  exact len_ek 16 16 rfl (by decide) rfl hs
set_option maxRecDepth 100000 in
set_option maxHeartbeats 1000000 in
theorem len64_24 (x : Int) (h : Word x) (w : World) (h1 : ¬ 4294967296 ≤ x) (h2 : 65536 ≤ x) (h3 : 256 ≤ x / 65536) :
    Calls Try.prog 120 #[.int .u64 x] w (BitsP x w) := by
  obtain ⟨l, u⟩ := h
  have hu : x / 65536 / 256 < 256 := by omega
  have hl : 0 ≤ x / 65536 / 256 := by omega
  go_enter Try.func120, Try.ntmps120
  go_wp2
  go_ret
  have hy : x / 65536 / 256 = x / 2 ^ 24 := by rw [show (2 : Int) ^ 24 = 16777216 by decide] <;> omega
  refine len_close w l hy hl hu (by decide) (by omega) (by rw [len8_size]; omega) _ ?_
  have hs := (len8_at (x / 65536 / 256) hl hu (by rw [len8_size]; omega)).2
  exact len_ek 24 24 rfl (by decide) rfl hs
set_option maxRecDepth 100000 in
set_option maxHeartbeats 1000000 in
theorem len64_32 (x : Int) (h : Word x) (w : World) (h1 : 4294967296 ≤ x) (h2 : ¬ 65536 ≤ x / 4294967296) (h3 : ¬ 256 ≤ x / 4294967296) :
    Calls Try.prog 120 #[.int .u64 x] w (BitsP x w) := by
  obtain ⟨l, u⟩ := h
  have hu : x / 4294967296 < 256 := by omega
  have hl : 0 ≤ x / 4294967296 := by omega
  go_enter Try.func120, Try.ntmps120
  go_wp2
  go_ret
  have hy : x / 4294967296 = x / 2 ^ 32 := by rw [show (2 : Int) ^ 32 = 4294967296 by decide] <;> omega
  refine len_close w l hy hl hu (by decide) (by omega) (by rw [len8_size]; omega) _ ?_
  have hs := (len8_at (x / 4294967296) hl hu (by rw [len8_size]; omega)).2
  exact len_ek 32 32 rfl (by decide) rfl hs
set_option maxRecDepth 100000 in
set_option maxHeartbeats 1000000 in
theorem len64_40 (x : Int) (h : Word x) (w : World) (h1 : 4294967296 ≤ x) (h2 : ¬ 65536 ≤ x / 4294967296) (h3 : 256 ≤ x / 4294967296) :
    Calls Try.prog 120 #[.int .u64 x] w (BitsP x w) := by
  obtain ⟨l, u⟩ := h
  have hu : x / 4294967296 / 256 < 256 := by omega
  have hl : 0 ≤ x / 4294967296 / 256 := by omega
  go_enter Try.func120, Try.ntmps120
  go_wp2
  go_ret
  have hy : x / 4294967296 / 256 = x / 2 ^ 40 := by rw [show (2 : Int) ^ 40 = 1099511627776 by decide] <;> omega
  refine len_close w l hy hl hu (by decide) (by omega) (by rw [len8_size]; omega) _ ?_
  have hs := (len8_at (x / 4294967296 / 256) hl hu (by rw [len8_size]; omega)).2
  exact len_ek 40 40 rfl (by decide) rfl hs
set_option maxRecDepth 100000 in
set_option maxHeartbeats 1000000 in
theorem len64_48 (x : Int) (h : Word x) (w : World) (h1 : 4294967296 ≤ x) (h2 : 65536 ≤ x / 4294967296) (h3 : ¬ 256 ≤ x / 4294967296 / 65536) :
    Calls Try.prog 120 #[.int .u64 x] w (BitsP x w) := by
  obtain ⟨l, u⟩ := h
  have hu : x / 4294967296 / 65536 < 256 := by omega
  have hl : 0 ≤ x / 4294967296 / 65536 := by omega
  go_enter Try.func120, Try.ntmps120
  go_wp2
  go_ret
  have hy : x / 4294967296 / 65536 = x / 2 ^ 48 := by rw [show (2 : Int) ^ 48 = 281474976710656 by decide] <;> omega
  refine len_close w l hy hl hu (by decide) (by omega) (by rw [len8_size]; omega) _ ?_
  have hs := (len8_at (x / 4294967296 / 65536) hl hu (by rw [len8_size]; omega)).2
  exact len_ek 48 48 rfl (by decide) rfl hs
set_option maxRecDepth 100000 in
set_option maxHeartbeats 1000000 in
theorem len64_56 (x : Int) (h : Word x) (w : World) (h1 : 4294967296 ≤ x) (h2 : 65536 ≤ x / 4294967296) (h3 : 256 ≤ x / 4294967296 / 65536) :
    Calls Try.prog 120 #[.int .u64 x] w (BitsP x w) := by
  obtain ⟨l, u⟩ := h
  have hu : x / 4294967296 / 65536 / 256 < 256 := by omega
  have hl : 0 ≤ x / 4294967296 / 65536 / 256 := by omega
  go_enter Try.func120, Try.ntmps120
  go_wp2
  go_ret
  have hy : x / 4294967296 / 65536 / 256 = x / 2 ^ 56 := by rw [show (2 : Int) ^ 56 = 72057594037927936 by decide] <;> omega
  refine len_close w l hy hl hu (by decide) (by omega) (by rw [len8_size]; omega) _ ?_
  have hs := (len8_at (x / 4294967296 / 65536 / 256) hl hu (by rw [len8_size]; omega)).2
  exact len_ek 56 56 rfl (by decide) rfl hs
theorem len64_any (x : Int) (h : Word x) (w : World) : Calls Try.prog 120 #[.int .u64 x] w (BitsP x w) := by
  by_cases h1 : 4294967296 ≤ x
  · by_cases h2 : 65536 ≤ x / 4294967296
    · by_cases h3 : 256 ≤ x / 4294967296 / 65536
      · exact len64_56 x h w h1 h2 h3
      · exact len64_48 x h w h1 h2 h3
    · by_cases h3 : 256 ≤ x / 4294967296
      · exact len64_40 x h w h1 h2 h3
      · exact len64_32 x h w h1 h2 h3
  · by_cases h2 : 65536 ≤ x
    · by_cases h3 : 256 ≤ x / 65536
      · exact len64_24 x h w h1 h2 h3
      · exact len64_16 x h w h1 h2 h3
    · by_cases h3 : 256 ≤ x
      · exact len64_8 x h w h1 h2 h3
      · exact len64_0 x h w h1 h2 h3
end Go.Proofs.Ytddniklhpkagmaa

/- The walk of the program's comparison of four words. -/
namespace Go.Proofs.Ytddniklhpkagmaa
open Go.RowKit
theorem Wd.new2 (W : World) (o : Obj) (a3 a2 a1 a0 : Int) (T : TypeId) : Wd ((W.alloc o).alloc (Obj.cells #[Value.int IntKind.u64 a3, Value.int IntKind.u64 a2, Value.int IntKind.u64 a1, Value.int IntKind.u64 a0] T)) (W.heap.size + 1) a3 a2 a1 a0 := Wd.new _ _ _ _ _ _ (by simp)
end Go.Proofs.Ytddniklhpkagmaa

/- The walks of a number's size without its sign, of the count of its words and of its bits, and of the law over them. -/
namespace Go.Proofs.Ytddniklhpkagmaa
open Go.RowKit
theorem wd0 : Word 0 := ⟨by decide, by decide⟩
/-- Four words that stand for a number without its sign, the lowest first. -/
def SizeP (z : Int) (w : World) (e : Ending) (w' : World) : Prop :=
  ∃ x3 x2 x1 x0, e = .returned (.agg #[.int .u64 x0, .int .u64 x1, .int .u64 x2, .int .u64 x3]) ∧ Word x3 ∧ Word x2 ∧ Word x1 ∧ Word x0 ∧ uw x3 x2 x1 x0 = (z.natAbs : Int) ∧ Below w.heap.size w w'
theorem sizeP_set {z : Int} {w W : World} {R : Nat} {e : Ending} {u0 u1 u2 u3 : Value} (hR : w.heap.size ≤ R) (h : SizeP z w e W) : SizeP z w e ((((W.setCell ⟨R, 0, none⟩ u0).setCell ⟨R, 1, none⟩ u1).setCell ⟨R, 2, none⟩ u2).setCell ⟨R, 3, none⟩ u3) := by
  obtain ⟨x3, x2, x1, x0, e1, h3, h2, h1, h0, hu, hB⟩ := h
  exact ⟨x3, x2, x1, x0, e1, h3, h2, h1, h0, hu, tell_below hB hR⟩
set_option maxRecDepth 100000 in
set_option maxHeartbeats 1000000 in
theorem sizeOf_any (a3 a2 a1 a0 : Int) (h3 : Word a3) (h2 : Word a2) (h1 : Word a1) (h0 : Word a0) (w : World) :
    Calls Try.prog 66 #[.agg #[.int .u64 a3, .int .u64 a2, .int .u64 a1, .int .u64 a0]] w (SizeP (sw a3 a2 a1 a0) w) := by
  have hn := sw_neg h3 h2 h1 h0
  have A0 : Wd ((w.alloc (Obj.cells #[Value.int IntKind.u64 a3, Value.int IntKind.u64 a2, Value.int IntKind.u64 a1, Value.int IntKind.u64 a0] 25)).alloc (Obj.cells #[Value.int IntKind.u64 0, Value.int IntKind.u64 0, Value.int IntKind.u64 0, Value.int IntKind.u64 0] 77)) w.heap.size a3 a2 a1 a0 := (Wd.new _ _ _ _ _ 25 rfl).alloc _
  have R0 : Wd ((w.alloc (Obj.cells #[Value.int IntKind.u64 a3, Value.int IntKind.u64 a2, Value.int IntKind.u64 a1, Value.int IntKind.u64 a0] 25)).alloc (Obj.cells #[Value.int IntKind.u64 0, Value.int IntKind.u64 0, Value.int IntKind.u64 0, Value.int IntKind.u64 0] 77)) (w.heap.size + 1) 0 0 0 0 := Wd.new _ 0 0 0 0 77 (by simp)
  have HB : Below w.heap.size w ((w.alloc (Obj.cells #[Value.int IntKind.u64 a3, Value.int IntKind.u64 a2, Value.int IntKind.u64 a1, Value.int IntKind.u64 a0] 25)).alloc (Obj.cells #[Value.int IntKind.u64 0, Value.int IntKind.u64 0, Value.int IntKind.u64 0, Value.int IntKind.u64 0] 77)) := ((Below.refl _ _).alloc (Nat.le_refl _) _).alloc (by simp) _
  by_cases hp : 9223372036854775808 ≤ a3
  · have hb : (a3 / 9223372036854775808 == 1) = true := beq_iff_eq.2 (by have := h3.2; omega)
    go_enter Try.func66, Try.ntmps66
    go_wp2_with fail
    refine (isBelow_any a3 a2 a1 a0 h3 true hb _).mono ?_
    rintro e w1 ⟨rfl, hB⟩
    replace A0 := A0.step hB
    replace R0 := R0.step hB
    replace HB := HB.trans (hB.mono HB.size)
    clear hB
    have i0 := A0.c0; have i1 := A0.c1; have i2 := A0.c2; have i3 := A0.c3
    go_wp2_with fail
    refine (wordsOf_any a3 a2 a1 a0 _).mono ?_
    rintro e w2 ⟨rfl, hB⟩
    replace R0 := R0.step hB
    replace HB := HB.trans (hB.mono HB.size)
    clear hB A0 i0 i1 i2 i3
    go_wp2_with fail
    refine (minus4 0 0 0 0 a0 a1 a2 a3 (words4 wd0 wd0 wd0 wd0) (words4 h0 h1 h2 h3) _).mono ?_
    rintro e w3 ⟨zs, c, rfl, g1, g2, g3, g4, g5, hB⟩
    obtain ⟨z0, z1, z2, z3, rfl⟩ := list4 g1
    obtain ⟨l0, l1, l2, l3⟩ := words4_of g2
    rw [val64_4, val64_4, val64_4, show [(0 : Int), 0, 0, 0].length = 4 from rfl] at g5
    replace R0 := R0.step hB
    replace HB := HB.trans (hB.mono HB.size)
    have HP : Hid (SizeP (sw a3 a2 a1 a0) w (.returned (.agg #[.int .u64 z0, .int .u64 z1, .int .u64 z2, .int .u64 z3])) w3) := by
      refine ⟨z3, z2, z1, z0, rfl, l3, l2, l1, l0, ?_, HB⟩
      have e1 : pw64 4 = 115792089237316195423570985008687907853269984665640564039457584007913129639936 := by decide
      rw [e1] at g5
      have e2 : sw a3 a2 a1 a0 = uw a3 a2 a1 a0 - 115792089237316195423570985008687907853269984665640564039457584007913129639936 := by unfold sw; rw [if_neg (by omega)]
      have e3 := uw_bound h3 h2 h1 h0
      have e4 := uw_bound l3 l2 l1 l0
      have e5 : uw 0 0 0 0 = 0 := by decide
      have e6 : uw a3 a2 a1 a0 ≠ 0 := by unfold uw; unfold Word at *; omega
      omega
    have r0 := R0.c0; have r1 := R0.c1; have r2 := R0.c2; have r3 := R0.c3; have f0 := R0.f0; have f1 := R0.f1; have f2 := R0.f2; have f3 := R0.f3
    clear hB g5 g1 g2 g3 g4 HB R0
    go_wp2
    refine bodyPost_ret (v := .agg #[.int .u64 z0, .int .u64 z1, .int .u64 z2, .int .u64 z3]) (by simp [results, Try.results66, go_sem, r0, r1, r2, r3]) rfl ?_
    exact sizeP_set (Nat.le_succ _) HP.out
  · have hb : (a3 / 9223372036854775808 == 1) = false := beq_eq_false_iff_ne.2 (by have := h3.1; omega)
    go_enter Try.func66, Try.ntmps66
    go_wp2_with fail
    refine (isBelow_any a3 a2 a1 a0 h3 false hb _).mono ?_
    rintro e w1 ⟨rfl, hB⟩
    replace A0 := A0.step hB
    replace R0 := R0.step hB
    replace HB := HB.trans (hB.mono HB.size)
    clear hB
    have i0 := A0.c0; have i1 := A0.c1; have i2 := A0.c2; have i3 := A0.c3
    go_wp2_with fail
    refine (wordsOf_any a3 a2 a1 a0 _).mono ?_
    rintro e w2 ⟨rfl, hB⟩
    replace R0 := R0.step hB
    replace HB := HB.trans (hB.mono HB.size)
    have HP : Hid (SizeP (sw a3 a2 a1 a0) w (.returned (.agg #[.int .u64 a0, .int .u64 a1, .int .u64 a2, .int .u64 a3])) w2) := by
      refine ⟨a3, a2, a1, a0, rfl, h3, h2, h1, h0, ?_, HB⟩
      have e2 : sw a3 a2 a1 a0 = uw a3 a2 a1 a0 := by unfold sw; rw [if_pos (by omega)]
      have e3 := uw_bound h3 h2 h1 h0
      omega
    have r0 := R0.c0; have r1 := R0.c1; have r2 := R0.c2; have r3 := R0.c3; have f0 := R0.f0; have f1 := R0.f1; have f2 := R0.f2; have f3 := R0.f3
    clear hB HB R0 A0 i0 i1 i2 i3
    go_wp2
    refine bodyPost_ret (v := .agg #[.int .u64 a0, .int .u64 a1, .int .u64 a2, .int .u64 a3]) (by simp [results, Try.results66, go_sem, r0, r1, r2, r3]) rfl ?_
    exact sizeP_set (Nat.le_succ _) HP.out
/-- How many words are left when those that are 0 at the high end are cut off. -/
def CountP (xs : List Int) (w : World) (e : Ending) (w' : World) : Prop :=
  ∃ n : Nat, e = .returned (.int .i64 n) ∧ n ≤ xs.length ∧ (∀ j, n ≤ j → (h : j < xs.length) → xs[j] = 0) ∧ (∀ m, n = m + 1 → (h : m < xs.length) → xs[m] ≠ 0) ∧ w' = w
theorem count_some (w : World) {xs : List Int} {m : Nat} (hm : m < xs.length) (h0 : xs[m] ≠ 0) (hz : ∀ j, m + 1 ≤ j → (h : j < xs.length) → xs[j] = 0) (v : Int) (hv : v = ((m + 1 : Nat) : Int)) : CountP xs w (.returned (.int .i64 v)) w :=
  ⟨m + 1, by rw [hv], hm, hz, fun i hi hl => by
    have : m = i := by omega
    subst this
    exact h0, rfl⟩
set_option maxRecDepth 100000 in
set_option maxHeartbeats 400000 in
theorem countWords_any (A off n cap : Nat) (xs : List Int) (w : World) (hn : xs.length = n) (hr : Row w A off xs) (hm : n ≤ 1000) :
    Calls Try.prog 96 #[.slice (some ⟨A, off, none⟩) n cap] w (CountP xs w) := by
  go_enter Try.func96, Try.ntmps96
  go_wp2
  go_loop [3] (fun i => ∃ k : Nat, k ≤ n ∧ i = .int .i64 k ∧ ∀ j, k ≤ j → (h : j < xs.length) → xs[j] = 0) (fun i => (intOf i).toNat)
  case atStart => exact ⟨n, Nat.le_refl _, rfl, fun j h1 h2 => by omega⟩
  case round =>
    obtain ⟨k, hk, rfl, hz⟩ := hrel
    have HN : Hid (xs.length = n) := hn
    have HZ : Hid (∀ j, k ≤ j → (h : j < xs.length) → xs[j] = 0) := hz
    have HR : Hid (Row w A off xs) := hr
    clear hz hr hn
    by_cases hk0 : 0 < k
    · obtain ⟨m, rfl⟩ : ∃ m, k = m + 1 := ⟨k - 1, by omega⟩
      have hml : m < xs.length := by have := HN.out; omega
      have hcell := HR.out.cell m hml
      go_wp2
      · go_round
        case rel =>
          have h0 : (xs[m] == 0) = true := by assumption
          exact ⟨m, by omega, by go_num, fun j h1 h2 => by
            by_cases e : j = m
            · subst e; simpa using h0
            · exact HZ.out j (by omega) h2⟩
        case measure => simp [intOf]
      · have h0 : (xs[m] == 0) = false := by assumption
        go_ret
        exact count_some w hml (by simpa using h0) HZ.out _ (by omega)
    · go_wp2
      go_ret
      exact ⟨k, rfl, by have := HN.out; omega, HZ.out, fun i hi => by omega, rfl⟩
end Go.Proofs.Ytddniklhpkagmaa

/- The product of two numbers of four words: what the walk of its first statement wants. -/
namespace Go.Proofs.Ytddniklhpkagmaa
open Go.RowKit
theorem uw_same {x3 x2 x1 x0 y3 y2 y1 y0 : Int} (_h3 : Word x3) (h2 : Word x2) (h1 : Word x1) (h0 : Word x0) (_k3 : Word y3) (k2 : Word y2) (k1 : Word y1) (k0 : Word y0) (h : uw x3 x2 x1 x0 = uw y3 y2 y1 y0) : x3 = y3 ∧ x2 = y2 ∧ x1 = y1 ∧ x0 = y0 := by
  unfold Word uw at *
  omega
theorem size_words (n : Int) (h0 : 0 ≤ n) (h1 : n < 115792089237316195423570985008687907853269984665640564039457584007913129639936) : ∃ x3 x2 x1 x0, Word x3 ∧ Word x2 ∧ Word x1 ∧ Word x0 ∧ uw x3 x2 x1 x0 = n := by
  refine ⟨n / 18446744073709551616 / 18446744073709551616 / 18446744073709551616, n / 18446744073709551616 / 18446744073709551616 % 18446744073709551616, n / 18446744073709551616 % 18446744073709551616, n % 18446744073709551616, ?_⟩
  unfold Word uw
  omega
theorem sw_size {a3 a2 a1 a0 : Int} (h3 : Word a3) (h2 : Word a2) (h1 : Word a1) (h0 : Word a0) : ((sw a3 a2 a1 a0).natAbs : Int) ≤ 57896044618658097711785492504343953926634992332820282019728792003956564819968 := by
  unfold Word sw uw at *
  split <;> omega
/-- The size of a number, its words known ahead. -/
theorem sizeOf_det (a3 a2 a1 a0 : Int) (h3 : Word a3) (h2 : Word a2) (h1 : Word a1) (h0 : Word a0) (x3 x2 x1 x0 : Int) (g3 : Word x3) (g2 : Word x2) (g1 : Word x1) (g0 : Word x0) (hx : uw x3 x2 x1 x0 = ((sw a3 a2 a1 a0).natAbs : Int)) (w : World) :
    Calls Try.prog 66 #[.agg #[.int .u64 a3, .int .u64 a2, .int .u64 a1, .int .u64 a0]] w (WideP x0 x1 x2 x3 w) := by
  refine (sizeOf_any a3 a2 a1 a0 h3 h2 h1 h0 w).mono ?_
  rintro e w1 ⟨y3, y2, y1, y0, rfl, k3, k2, k1, k0, hu, hB⟩
  obtain ⟨rfl, rfl, rfl, rfl⟩ := uw_same k3 k2 k1 k0 g3 g2 g1 g0 (hu.trans hx.symm)
  exact ⟨rfl, hB⟩
theorem tm_cells {a3 a2 a1 a0 b3 b2 b1 b0 : Int} {w W : World} (h : ArgsB w W [[.int .u64 a3, .int .u64 a2, .int .u64 a1, .int .u64 a0], [.int .u64 b3, .int .u64 b2, .int .u64 b1, .int .u64 b0], [.int .u64 0, .int .u64 0, .int .u64 0, .int .u64 0, .int .u64 0, .int .u64 0, .int .u64 0, .int .u64 0]]) : (fun w' => w'.cell? ⟨w.heap.size, 0, none⟩ = some (.int .u64 a3) ∧ w'.cell? ⟨w.heap.size, 1, none⟩ = some (.int .u64 a2) ∧ w'.cell? ⟨w.heap.size, 2, none⟩ = some (.int .u64 a1) ∧ w'.cell? ⟨w.heap.size, 3, none⟩ = some (.int .u64 a0) ∧ w'.cell? ⟨w.heap.size + 1, 0, none⟩ = some (.int .u64 b3) ∧ w'.cell? ⟨w.heap.size + 1, 1, none⟩ = some (.int .u64 b2) ∧ w'.cell? ⟨w.heap.size + 1, 2, none⟩ = some (.int .u64 b1) ∧ w'.cell? ⟨w.heap.size + 1, 3, none⟩ = some (.int .u64 b0)) W :=
  ⟨(h.b 0 rfl).c 0 rfl, (h.b 0 rfl).c 1 rfl, (h.b 0 rfl).c 2 rfl, (h.b 0 rfl).c 3 rfl, (h.b 1 rfl).c 0 rfl, (h.b 1 rfl).c 1 rfl, (h.b 1 rfl).c 2 rfl, (h.b 1 rfl).c 3 rfl⟩
theorem tm_args (a3 a2 a1 a0 b3 b2 b1 b0 : Int) (w : World) : ArgsB w (((w.alloc (.cells #[.int .u64 a3, .int .u64 a2, .int .u64 a1, .int .u64 a0] 25)).alloc (.cells #[.int .u64 b3, .int .u64 b2, .int .u64 b1, .int .u64 b0] 25)).alloc (.cells #[.int .u64 0, .int .u64 0, .int .u64 0, .int .u64 0, .int .u64 0, .int .u64 0, .int .u64 0, .int .u64 0] 62)) [[.int .u64 a3, .int .u64 a2, .int .u64 a1, .int .u64 a0], [.int .u64 b3, .int .u64 b2, .int .u64 b1, .int .u64 b0], [.int .u64 0, .int .u64 0, .int .u64 0, .int .u64 0, .int .u64 0, .int .u64 0, .int .u64 0, .int .u64 0]] := by
  refine ⟨(((Below.refl _ _).alloc (Nat.le_refl _) _).alloc (by simp) _).alloc (by simp; omega) _, fun j vs hj => ?_⟩
  match j, hj with
  | 0, hj => cases hj; exact ((Blk.new w [.int .u64 a3, .int .u64 a2, .int .u64 a1, .int .u64 a0] 25 rfl).alloc _).alloc _
  | 1, hj => cases hj; exact (Blk.new (w.alloc (.cells #[.int .u64 a3, .int .u64 a2, .int .u64 a1, .int .u64 a0] 25)) [.int .u64 b3, .int .u64 b2, .int .u64 b1, .int .u64 b0] 25 (by simp)).alloc _
  | 2, hj => cases hj; exact Blk.new ((w.alloc (.cells #[.int .u64 a3, .int .u64 a2, .int .u64 a1, .int .u64 a0] 25)).alloc (.cells #[.int .u64 b3, .int .u64 b2, .int .u64 b1, .int .u64 b0] 25)) [.int .u64 0, .int .u64 0, .int .u64 0, .int .u64 0, .int .u64 0, .int .u64 0, .int .u64 0, .int .u64 0] 62 (by simp)
  | j + 3, hj => simp at hj
theorem ArgsB.lt3 {w W : World} {a b c : List Value} (h : ArgsB w W [a, b, c]) : w.heap.size + 2 < W.heap.size := (h.b 2 rfl).lt
theorem ArgsB.set4 {w W : World} {a b c : List Value} (h : ArgsB w W [a, b, c]) {g : Nat} (hg : w.heap.size + 2 < g) (v0 v1 v2 v3 : Value) : ArgsB w ((((W.setCell ⟨g, 0, none⟩ v0).setCell ⟨g, 1, none⟩ v1).setCell ⟨g, 2, none⟩ v2).setCell ⟨g, 3, none⟩ v3) [a, b, c] :=
  (((h.set (by exact hg) _).set (by exact hg) _).set (by exact hg) _).set (by exact hg) _
theorem Blk.stored4 {W : World} {g : Nat} {z0 z1 z2 z3 : Value} (G : Blk W g [z0, z1, z2, z3]) (v0 v1 v2 v3 : Value) : Blk ((((W.setCell ⟨g, 0, none⟩ v0).setCell ⟨g, 1, none⟩ v1).setCell ⟨g, 2, none⟩ v2).setCell ⟨g, 3, none⟩ v3) g [v0, v1, v2, v3] :=
  (((G.setI 0 (by simp) v0).setI 1 (by simp) v1).setI 2 (by simp) v2).setI 3 (by simp) v3
theorem Blk.new2 (W : World) (o : Obj) (vs : List Value) (T : TypeId) : Blk ((W.alloc o).alloc (.cells vs.toArray T)) (W.heap.size + 1) vs := Blk.new _ _ _ (by simp)
/-- Two rows of four values laid behind the arguments. -/
def CutT (w wx : World) (vss : List (List Value)) (xs ys : List Value) (p q : Value) : Prop :=
  ∃ g g', p = .pointer (some ⟨g, 0, none⟩) ∧ q = .pointer (some ⟨g', 0, none⟩) ∧ g ≠ g' ∧ w.heap.size + 2 < g ∧ w.heap.size + 2 < g' ∧ ArgsB w wx vss ∧ Blk wx g xs ∧ Blk wx g' ys
theorem CutT.drew {w wx : World} {vss : List (List Value)} {xs ys : List Value} {p q : Value} (h : CutT w wx vss xs ys p q) : CutT w wx.drew vss xs ys p q := by
  obtain ⟨g, g', e, f, n, l, l', A, B, C⟩ := h
  exact ⟨g, g', e, f, n, l, l', A.drew, B.drew, C.drew⟩
theorem cutT_nn {w X : World} {a b c : List Value} {xs ys : List Value} {T T' : TypeId} (h : ArgsB w X [a, b, c]) (hl : w.heap.size + 2 < X.heap.size) : CutT w ((X.alloc (.cells xs.toArray T)).alloc (.cells ys.toArray T')) [a, b, c] xs ys (.pointer (some ⟨X.heap.size, 0, none⟩)) (.pointer (some ⟨X.heap.size + 1, 0, none⟩)) :=
  ⟨_, _, rfl, rfl, by omega, hl, by omega, (h.alloc _).alloc _, (Blk.new _ _ _ rfl).alloc _, Blk.new2 _ _ _ _⟩
theorem cutT_nn' {w X : World} {a b c : List Value} {xs ys : List Value} {T T' : TypeId} (h : ArgsB w X [a, b, c]) (hl : w.heap.size + 2 < X.heap.size) : CutT w ((X.alloc (.cells ys.toArray T)).alloc (.cells xs.toArray T')) [a, b, c] xs ys (.pointer (some ⟨X.heap.size + 1, 0, none⟩)) (.pointer (some ⟨X.heap.size, 0, none⟩)) :=
  ⟨_, _, rfl, rfl, by omega, by omega, hl, (h.alloc _).alloc _, Blk.new2 _ _ _ _, (Blk.new _ _ _ rfl).alloc _⟩
theorem cutT_sn {w X : World} {a b c : List Value} {v0 v1 v2 v3 z0 z1 z2 z3 : Value} {ys : List Value} {T : TypeId} {g : Nat} (h : ArgsB w X [a, b, c]) (G : Blk X g [z0, z1, z2, z3]) (hg : w.heap.size + 2 < g) (hl : w.heap.size + 2 < X.heap.size) : CutT w (((((X.setCell ⟨g, 0, none⟩ v0).setCell ⟨g, 1, none⟩ v1).setCell ⟨g, 2, none⟩ v2).setCell ⟨g, 3, none⟩ v3).alloc (.cells ys.toArray T)) [a, b, c] [v0, v1, v2, v3] ys (.pointer (some ⟨g, 0, none⟩)) (.pointer (some ⟨X.heap.size, 0, none⟩)) :=
  ⟨_, _, rfl, rfl, by have := G.lt; omega, hg, hl, (h.set4 hg _ _ _ _).alloc _, (G.stored4 _ _ _ _).alloc _, Blk.new _ _ _ (by simp)⟩
theorem cutT_sn' {w X : World} {a b c : List Value} {v0 v1 v2 v3 z0 z1 z2 z3 : Value} {xs : List Value} {T : TypeId} {g : Nat} (h : ArgsB w X [a, b, c]) (G : Blk X g [z0, z1, z2, z3]) (hg : w.heap.size + 2 < g) (hl : w.heap.size + 2 < X.heap.size) : CutT w (((((X.setCell ⟨g, 0, none⟩ v0).setCell ⟨g, 1, none⟩ v1).setCell ⟨g, 2, none⟩ v2).setCell ⟨g, 3, none⟩ v3).alloc (.cells xs.toArray T)) [a, b, c] xs [v0, v1, v2, v3] (.pointer (some ⟨X.heap.size, 0, none⟩)) (.pointer (some ⟨g, 0, none⟩)) :=
  ⟨_, _, rfl, rfl, by have := G.lt; omega, hl, hg, (h.set4 hg _ _ _ _).alloc _, Blk.new _ _ _ (by simp), (G.stored4 _ _ _ _).alloc _⟩
theorem cutT_ss {w X : World} {a b c : List Value} {v0 v1 v2 v3 u0 u1 u2 u3 z0 z1 z2 z3 y0 y1 y2 y3 : Value} {g g' : Nat} (h : ArgsB w X [a, b, c]) (G : Blk X g [z0, z1, z2, z3]) (G' : Blk X g' [y0, y1, y2, y3]) (hg : w.heap.size + 2 < g) (hg' : w.heap.size + 2 < g') (hne : g ≠ g') :
    CutT w ((((((((X.setCell ⟨g, 0, none⟩ v0).setCell ⟨g, 1, none⟩ v1).setCell ⟨g, 2, none⟩ v2).setCell ⟨g, 3, none⟩ v3).setCell ⟨g', 0, none⟩ u0).setCell ⟨g', 1, none⟩ u1).setCell ⟨g', 2, none⟩ u2).setCell ⟨g', 3, none⟩ u3) [a, b, c] [v0, v1, v2, v3] [u0, u1, u2, u3] (.pointer (some ⟨g, 0, none⟩)) (.pointer (some ⟨g', 0, none⟩)) :=
  ⟨_, _, rfl, rfl, hne, hg, hg', (h.set4 hg _ _ _ _).set4 hg' _ _ _ _, (G.stored4 _ _ _ _).set4 hne, (G'.set4 (fun e => hne e.symm)).stored4 _ _ _ _⟩
end Go.Proofs.Ytddniklhpkagmaa
