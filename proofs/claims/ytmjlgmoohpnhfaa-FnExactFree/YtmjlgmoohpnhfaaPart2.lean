/- Part 2 of the walks that the proof leans on. -/
import Derived.Test.YtmjlgmoohpnhfaaPart1
import Derived.Deep.RegionWith
import Derived.Shelf.Bits.Mul64
import Derived.Deep.RegionHeld3
import Derived.Deep.DeepCutAuto
import Derived.Deep.LoopGhost
import Derived.WalkMore
import Derived.Deep.QuietTactic
import Derived.BigQuiet
import Derived.Deep.MidRow
/- The walks of plus and minus of 4 words. -/
namespace Go.Proofs.Ytmjlgmoohpnhfaa
open Go.RowKit
/-- The sum of two rows of words, cut off. -/
def PlusP (xs ys : List Int) (w : World) (e : Ending) (w' : World) : Prop :=
  ∃ (zs : List Int) (c : Int), e = .returned (.agg (zs.map (Value.int .u64)).toArray) ∧ zs.length = xs.length ∧ Words zs ∧ 0 ≤ c ∧ c ≤ 1 ∧ val64 zs + c * pw64 xs.length = val64 xs + val64 ys ∧ Below w.heap.size w w'
/-- The difference of two rows of words, cut off. -/
def MinusP (xs ys : List Int) (w : World) (e : Ending) (w' : World) : Prop :=
  ∃ (zs : List Int) (c : Int), e = .returned (.agg (zs.map (Value.int .u64)).toArray) ∧ zs.length = xs.length ∧ Words zs ∧ 0 ≤ c ∧ c ≤ 1 ∧ val64 zs = val64 xs - val64 ys + c * pw64 xs.length ∧ Below w.heap.size w w'
theorem Row.drewd {w : World} {A off : Nat} {xs : List Int} (h : Row w A off xs) : Row w.drew A off xs := row_drew h
theorem row_other {w w' : World} {A B oa ob n : Nat} {xs : List Int} (h : Row w B ob xs) (hw : Wrote A oa n w w') (hne : B ≠ A) : Row w' B ob xs :=
  ⟨fun i hi => (hw.cellOther hne _).trans (h.cell i hi), fun i hi => (hw.frzOther hne _).trans (h.frz i hi), by rw [hw.size]; exact h.lt⟩
theorem list4 {l : List Int} (h : l.length = 4) : ∃ z0 z1 z2 z3, l = [z0, z1, z2, z3] := by
  match l, h with
  | [z0, z1, z2, z3], _ => exact ⟨z0, z1, z2, z3, rfl⟩
theorem row_of4 {w : World} {A : Nat} {x0 x1 x2 x3 : Int} (hl : A < w.heap.size) (h0 : w.cell? ⟨A, 0, none⟩ = some (.int .u64 x0)) (h1 : w.cell? ⟨A, 1, none⟩ = some (.int .u64 x1)) (h2 : w.cell? ⟨A, 2, none⟩ = some (.int .u64 x2)) (h3 : w.cell? ⟨A, 3, none⟩ = some (.int .u64 x3)) (f0 : w.frozen? ⟨A, 0, none⟩ = false) (f1 : w.frozen? ⟨A, 1, none⟩ = false) (f2 : w.frozen? ⟨A, 2, none⟩ = false) (f3 : w.frozen? ⟨A, 3, none⟩ = false) : Row w A 0 [x0, x1, x2, x3] := by
  refine ⟨fun i hi => ?_, fun i hi => ?_, hl⟩
  · simp only [Nat.zero_add]
    match i, hi with
    | 0, _ => exact h0
    | 1, _ => exact h1
    | 2, _ => exact h2
    | 3, _ => exact h3
  · simp only [Nat.zero_add]
    match i, hi with
    | 0, _ => exact f0
    | 1, _ => exact f1
    | 2, _ => exact f2
    | 3, _ => exact f3
theorem row_cells4 {w : World} {A : Nat} {x0 x1 x2 x3 : Int} (h : Row w A 0 [x0, x1, x2, x3]) : w.cell? ⟨A, 0, none⟩ = some (.int .u64 x0) ∧ w.cell? ⟨A, 1, none⟩ = some (.int .u64 x1) ∧ w.cell? ⟨A, 2, none⟩ = some (.int .u64 x2) ∧ w.cell? ⟨A, 3, none⟩ = some (.int .u64 x3) :=
  ⟨by simpa using h.cell 0 (by simp), by simpa using h.cell 1 (by simp), by simpa using h.cell 2 (by simp), by simpa using h.cell 3 (by simp)⟩
theorem row_frz4 {w : World} {A : Nat} {x0 x1 x2 x3 : Int} (h : Row w A 0 [x0, x1, x2, x3]) : w.frozen? ⟨A, 0, none⟩ = false ∧ w.frozen? ⟨A, 1, none⟩ = false ∧ w.frozen? ⟨A, 2, none⟩ = false ∧ w.frozen? ⟨A, 3, none⟩ = false :=
  ⟨by simpa using h.frz 0 (by simp), by simpa using h.frz 1 (by simp), by simpa using h.frz 2 (by simp), by simpa using h.frz 3 (by simp)⟩
theorem minus4_ret {w w1 : World} {xs ys : List Int} {e : Ending} {u0 u1 u2 u3 : Value} (h : MinusP xs ys w e w1) : MinusP xs ys w e ((((w1.setCell ⟨w.heap.size + 1 + 1, 0, none⟩ u0).setCell ⟨w.heap.size + 1 + 1, 1, none⟩ u1).setCell ⟨w.heap.size + 1 + 1, 2, none⟩ u2).setCell ⟨w.heap.size + 1 + 1, 3, none⟩ u3) := by
  obtain ⟨zs, c, h1, h2, h3, h4, h5, h6, h7⟩ := h
  exact ⟨zs, c, h1, h2, h3, h4, h5, h6, ((((h7.setCell (by show w.heap.size ≤ w.heap.size + 1 + 1; omega) _).setCell (by show w.heap.size ≤ w.heap.size + 1 + 1; omega) _).setCell (by show w.heap.size ≤ w.heap.size + 1 + 1; omega) _).setCell (by show w.heap.size ≤ w.heap.size + 1 + 1; omega) _)⟩
set_option maxRecDepth 100000 in
set_option maxHeartbeats 2000000 in
theorem minus4 (x0 x1 x2 x3 y0 y1 y2 y3 : Int) (wx : Words [x0, x1, x2, x3]) (wy : Words [y0, y1, y2, y3]) (w : World) :
    Calls Try.prog 179 #[.agg #[.int .u64 x0, .int .u64 x1, .int .u64 x2, .int .u64 x3], .agg #[.int .u64 y0, .int .u64 y1, .int .u64 y2, .int .u64 y3]] w (MinusP [x0, x1, x2, x3] [y0, y1, y2, y3] w) := by
  have rx : Row (((w.alloc (Obj.cells #[Value.int IntKind.u64 x0, Value.int IntKind.u64 x1, Value.int IntKind.u64 x2, Value.int IntKind.u64 x3] 207)).alloc (Obj.cells #[Value.int IntKind.u64 y0, Value.int IntKind.u64 y1, Value.int IntKind.u64 y2, Value.int IntKind.u64 y3] 207)).alloc (Obj.cells #[Value.int IntKind.u64 0, Value.int IntKind.u64 0, Value.int IntKind.u64 0, Value.int IntKind.u64 0] 207)) w.heap.size 0 [x0, x1, x2, x3] := row_of4 (by simp <;> omega) (by simp [go_sem]) (by simp [go_sem]) (by simp [go_sem]) (by simp [go_sem]) (by simp [go_sem]) (by simp [go_sem]) (by simp [go_sem]) (by simp [go_sem])
  have ry : Row (((w.alloc (Obj.cells #[Value.int IntKind.u64 x0, Value.int IntKind.u64 x1, Value.int IntKind.u64 x2, Value.int IntKind.u64 x3] 207)).alloc (Obj.cells #[Value.int IntKind.u64 y0, Value.int IntKind.u64 y1, Value.int IntKind.u64 y2, Value.int IntKind.u64 y3] 207)).alloc (Obj.cells #[Value.int IntKind.u64 0, Value.int IntKind.u64 0, Value.int IntKind.u64 0, Value.int IntKind.u64 0] 207)) (w.heap.size + 1) 0 [y0, y1, y2, y3] := row_of4 (by simp <;> omega) (by simp [go_sem]) (by simp [go_sem]) (by simp [go_sem]) (by simp [go_sem]) (by simp [go_sem]) (by simp [go_sem]) (by simp [go_sem]) (by simp [go_sem])
  have rr : Row (((w.alloc (Obj.cells #[Value.int IntKind.u64 x0, Value.int IntKind.u64 x1, Value.int IntKind.u64 x2, Value.int IntKind.u64 x3] 207)).alloc (Obj.cells #[Value.int IntKind.u64 y0, Value.int IntKind.u64 y1, Value.int IntKind.u64 y2, Value.int IntKind.u64 y3] 207)).alloc (Obj.cells #[Value.int IntKind.u64 0, Value.int IntKind.u64 0, Value.int IntKind.u64 0, Value.int IntKind.u64 0] 207)) (w.heap.size + 1 + 1) 0 [0, 0, 0, 0] := row_of4 (by simp <;> omega) (by simp [go_sem]) (by simp [go_sem]) (by simp [go_sem]) (by simp [go_sem]) (by simp [go_sem]) (by simp [go_sem]) (by simp [go_sem]) (by simp [go_sem])
  have hB : Below w.heap.size w (((w.alloc (Obj.cells #[Value.int IntKind.u64 x0, Value.int IntKind.u64 x1, Value.int IntKind.u64 x2, Value.int IntKind.u64 x3] 207)).alloc (Obj.cells #[Value.int IntKind.u64 y0, Value.int IntKind.u64 y1, Value.int IntKind.u64 y2, Value.int IntKind.u64 y3] 207)).alloc (Obj.cells #[Value.int IntKind.u64 0, Value.int IntKind.u64 0, Value.int IntKind.u64 0, Value.int IntKind.u64 0] 207)) := (((Below.refl _ _).alloc (Nat.le_refl _) _).alloc (by simp) _).alloc (by simp; omega) _
  go_enter Try.func179, Try.ntmps179
  go_wp2
  generalize ((w.alloc (Obj.cells #[Value.int IntKind.u64 x0, Value.int IntKind.u64 x1, Value.int IntKind.u64 x2, Value.int IntKind.u64 x3] 207)).alloc (Obj.cells #[Value.int IntKind.u64 y0, Value.int IntKind.u64 y1, Value.int IntKind.u64 y2, Value.int IntKind.u64 y3] 207)).alloc (Obj.cells #[Value.int IntKind.u64 0, Value.int IntKind.u64 0, Value.int IntKind.u64 0, Value.int IntKind.u64 0] 207) = W at *
  go_region_with ((go_at_call 176; refine (takeWords_any w.heap.size (w.heap.size + 1) 0 0 4 4 4 4 [x0, x1, x2, x3] [y0, y1, y2, y3] _ rfl rfl wx wy (row_drew rx) (row_drew ry) (by omega) (by omega)).mono ?_; rintro e w1 ⟨zs, c, rfl, h1, h2, h3, h4, h5, h6, h7⟩))
  obtain ⟨z0, z1, z2, z3, rfl⟩ := list4 h1
  have HP : Hid (MinusP [x0, x1, x2, x3] [y0, y1, y2, y3] w (.returned (.agg #[.int .u64 z0, .int .u64 z1, .int .u64 z2, .int .u64 z3])) w1) := ⟨[z0, z1, z2, z3], c, rfl, rfl, h2, h3, h4, h5, (hB.drew).trans (h7.below (Nat.le_refl _))⟩
  obtain ⟨c0, c1, c2, c3⟩ := row_cells4 h6
  have rr1 := row_other rr.drewd h7 (by omega)
  obtain ⟨g0, g1, g2, g3⟩ := row_cells4 rr1
  obtain ⟨f0, f1, f2, f3⟩ := row_frz4 rr1
  have hne : w.heap.size + 1 + 1 ≠ w.heap.size := by omega
  clear rx ry rr hB h2 h3 h4 h5 h6 h7 h1 rr1
  go_wp2
  refine bodyPost_ret (v := .agg #[.int .u64 z0, .int .u64 z1, .int .u64 z2, .int .u64 z3]) (by simp [results, Try.results179, go_sem, g0, g1, g2, g3]) rfl ?_
  exact minus4_ret HP.out
end Go.Proofs.Ytmjlgmoohpnhfaa

/- The walks of plus and minus of 8 words. -/
namespace Go.Proofs.Ytmjlgmoohpnhfaa
open Go.RowKit
theorem list8 {l : List Int} (h : l.length = 8) : ∃ z0 z1 z2 z3 z4 z5 z6 z7, l = [z0, z1, z2, z3, z4, z5, z6, z7] := by
  match l, h with
  | [z0, z1, z2, z3, z4, z5, z6, z7], _ => exact ⟨z0, z1, z2, z3, z4, z5, z6, z7, rfl⟩
theorem row_of8 {w : World} {A : Nat} {x0 x1 x2 x3 x4 x5 x6 x7 : Int} (hl : A < w.heap.size) (h0 : w.cell? ⟨A, 0, none⟩ = some (.int .u64 x0)) (h1 : w.cell? ⟨A, 1, none⟩ = some (.int .u64 x1)) (h2 : w.cell? ⟨A, 2, none⟩ = some (.int .u64 x2)) (h3 : w.cell? ⟨A, 3, none⟩ = some (.int .u64 x3)) (h4 : w.cell? ⟨A, 4, none⟩ = some (.int .u64 x4)) (h5 : w.cell? ⟨A, 5, none⟩ = some (.int .u64 x5)) (h6 : w.cell? ⟨A, 6, none⟩ = some (.int .u64 x6)) (h7 : w.cell? ⟨A, 7, none⟩ = some (.int .u64 x7)) (f0 : w.frozen? ⟨A, 0, none⟩ = false) (f1 : w.frozen? ⟨A, 1, none⟩ = false) (f2 : w.frozen? ⟨A, 2, none⟩ = false) (f3 : w.frozen? ⟨A, 3, none⟩ = false) (f4 : w.frozen? ⟨A, 4, none⟩ = false) (f5 : w.frozen? ⟨A, 5, none⟩ = false) (f6 : w.frozen? ⟨A, 6, none⟩ = false) (f7 : w.frozen? ⟨A, 7, none⟩ = false) : Row w A 0 [x0, x1, x2, x3, x4, x5, x6, x7] := by
  refine ⟨fun i hi => ?_, fun i hi => ?_, hl⟩
  · simp only [Nat.zero_add]
    match i, hi with
    | 0, _ => exact h0
    | 1, _ => exact h1
    | 2, _ => exact h2
    | 3, _ => exact h3
    | 4, _ => exact h4
    | 5, _ => exact h5
    | 6, _ => exact h6
    | 7, _ => exact h7
  · simp only [Nat.zero_add]
    match i, hi with
    | 0, _ => exact f0
    | 1, _ => exact f1
    | 2, _ => exact f2
    | 3, _ => exact f3
    | 4, _ => exact f4
    | 5, _ => exact f5
    | 6, _ => exact f6
    | 7, _ => exact f7
theorem row_cells8 {w : World} {A : Nat} {x0 x1 x2 x3 x4 x5 x6 x7 : Int} (h : Row w A 0 [x0, x1, x2, x3, x4, x5, x6, x7]) : w.cell? ⟨A, 0, none⟩ = some (.int .u64 x0) ∧ w.cell? ⟨A, 1, none⟩ = some (.int .u64 x1) ∧ w.cell? ⟨A, 2, none⟩ = some (.int .u64 x2) ∧ w.cell? ⟨A, 3, none⟩ = some (.int .u64 x3) ∧ w.cell? ⟨A, 4, none⟩ = some (.int .u64 x4) ∧ w.cell? ⟨A, 5, none⟩ = some (.int .u64 x5) ∧ w.cell? ⟨A, 6, none⟩ = some (.int .u64 x6) ∧ w.cell? ⟨A, 7, none⟩ = some (.int .u64 x7) :=
  ⟨by simpa using h.cell 0 (by simp), by simpa using h.cell 1 (by simp), by simpa using h.cell 2 (by simp), by simpa using h.cell 3 (by simp), by simpa using h.cell 4 (by simp), by simpa using h.cell 5 (by simp), by simpa using h.cell 6 (by simp), by simpa using h.cell 7 (by simp)⟩
theorem row_frz8 {w : World} {A : Nat} {x0 x1 x2 x3 x4 x5 x6 x7 : Int} (h : Row w A 0 [x0, x1, x2, x3, x4, x5, x6, x7]) : w.frozen? ⟨A, 0, none⟩ = false ∧ w.frozen? ⟨A, 1, none⟩ = false ∧ w.frozen? ⟨A, 2, none⟩ = false ∧ w.frozen? ⟨A, 3, none⟩ = false ∧ w.frozen? ⟨A, 4, none⟩ = false ∧ w.frozen? ⟨A, 5, none⟩ = false ∧ w.frozen? ⟨A, 6, none⟩ = false ∧ w.frozen? ⟨A, 7, none⟩ = false :=
  ⟨by simpa using h.frz 0 (by simp), by simpa using h.frz 1 (by simp), by simpa using h.frz 2 (by simp), by simpa using h.frz 3 (by simp), by simpa using h.frz 4 (by simp), by simpa using h.frz 5 (by simp), by simpa using h.frz 6 (by simp), by simpa using h.frz 7 (by simp)⟩
theorem plus8_ret {w w1 : World} {xs ys : List Int} {e : Ending} {u0 u1 u2 u3 u4 u5 u6 u7 : Value} (h : PlusP xs ys w e w1) : PlusP xs ys w e ((((((((w1.setCell ⟨w.heap.size + 1 + 1, 0, none⟩ u0).setCell ⟨w.heap.size + 1 + 1, 1, none⟩ u1).setCell ⟨w.heap.size + 1 + 1, 2, none⟩ u2).setCell ⟨w.heap.size + 1 + 1, 3, none⟩ u3).setCell ⟨w.heap.size + 1 + 1, 4, none⟩ u4).setCell ⟨w.heap.size + 1 + 1, 5, none⟩ u5).setCell ⟨w.heap.size + 1 + 1, 6, none⟩ u6).setCell ⟨w.heap.size + 1 + 1, 7, none⟩ u7) := by
  obtain ⟨zs, c, h1, h2, h3, h4, h5, h6, h7⟩ := h
  exact ⟨zs, c, h1, h2, h3, h4, h5, h6, ((((((((h7.setCell (by show w.heap.size ≤ w.heap.size + 1 + 1; omega) _).setCell (by show w.heap.size ≤ w.heap.size + 1 + 1; omega) _).setCell (by show w.heap.size ≤ w.heap.size + 1 + 1; omega) _).setCell (by show w.heap.size ≤ w.heap.size + 1 + 1; omega) _).setCell (by show w.heap.size ≤ w.heap.size + 1 + 1; omega) _).setCell (by show w.heap.size ≤ w.heap.size + 1 + 1; omega) _).setCell (by show w.heap.size ≤ w.heap.size + 1 + 1; omega) _).setCell (by show w.heap.size ≤ w.heap.size + 1 + 1; omega) _)⟩
set_option maxRecDepth 100000 in
set_option maxHeartbeats 2000000 in
theorem plus8 (x0 x1 x2 x3 x4 x5 x6 x7 y0 y1 y2 y3 y4 y5 y6 y7 : Int) (wx : Words [x0, x1, x2, x3, x4, x5, x6, x7]) (wy : Words [y0, y1, y2, y3, y4, y5, y6, y7]) (w : World) :
    Calls Try.prog 189 #[.agg #[.int .u64 x0, .int .u64 x1, .int .u64 x2, .int .u64 x3, .int .u64 x4, .int .u64 x5, .int .u64 x6, .int .u64 x7], .agg #[.int .u64 y0, .int .u64 y1, .int .u64 y2, .int .u64 y3, .int .u64 y4, .int .u64 y5, .int .u64 y6, .int .u64 y7]] w (PlusP [x0, x1, x2, x3, x4, x5, x6, x7] [y0, y1, y2, y3, y4, y5, y6, y7] w) := by
  have rx : Row (((w.alloc (Obj.cells #[Value.int IntKind.u64 x0, Value.int IntKind.u64 x1, Value.int IntKind.u64 x2, Value.int IntKind.u64 x3, Value.int IntKind.u64 x4, Value.int IntKind.u64 x5, Value.int IntKind.u64 x6, Value.int IntKind.u64 x7] 149)).alloc (Obj.cells #[Value.int IntKind.u64 y0, Value.int IntKind.u64 y1, Value.int IntKind.u64 y2, Value.int IntKind.u64 y3, Value.int IntKind.u64 y4, Value.int IntKind.u64 y5, Value.int IntKind.u64 y6, Value.int IntKind.u64 y7] 149)).alloc (Obj.cells #[Value.int IntKind.u64 0, Value.int IntKind.u64 0, Value.int IntKind.u64 0, Value.int IntKind.u64 0, Value.int IntKind.u64 0, Value.int IntKind.u64 0, Value.int IntKind.u64 0, Value.int IntKind.u64 0] 149)) w.heap.size 0 [x0, x1, x2, x3, x4, x5, x6, x7] := row_of8 (by simp <;> omega) (by simp [go_sem]) (by simp [go_sem]) (by simp [go_sem]) (by simp [go_sem]) (by simp [go_sem]) (by simp [go_sem]) (by simp [go_sem]) (by simp [go_sem]) (by simp [go_sem]) (by simp [go_sem]) (by simp [go_sem]) (by simp [go_sem]) (by simp [go_sem]) (by simp [go_sem]) (by simp [go_sem]) (by simp [go_sem])
  have ry : Row (((w.alloc (Obj.cells #[Value.int IntKind.u64 x0, Value.int IntKind.u64 x1, Value.int IntKind.u64 x2, Value.int IntKind.u64 x3, Value.int IntKind.u64 x4, Value.int IntKind.u64 x5, Value.int IntKind.u64 x6, Value.int IntKind.u64 x7] 149)).alloc (Obj.cells #[Value.int IntKind.u64 y0, Value.int IntKind.u64 y1, Value.int IntKind.u64 y2, Value.int IntKind.u64 y3, Value.int IntKind.u64 y4, Value.int IntKind.u64 y5, Value.int IntKind.u64 y6, Value.int IntKind.u64 y7] 149)).alloc (Obj.cells #[Value.int IntKind.u64 0, Value.int IntKind.u64 0, Value.int IntKind.u64 0, Value.int IntKind.u64 0, Value.int IntKind.u64 0, Value.int IntKind.u64 0, Value.int IntKind.u64 0, Value.int IntKind.u64 0] 149)) (w.heap.size + 1) 0 [y0, y1, y2, y3, y4, y5, y6, y7] := row_of8 (by simp <;> omega) (by simp [go_sem]) (by simp [go_sem]) (by simp [go_sem]) (by simp [go_sem]) (by simp [go_sem]) (by simp [go_sem]) (by simp [go_sem]) (by simp [go_sem]) (by simp [go_sem]) (by simp [go_sem]) (by simp [go_sem]) (by simp [go_sem]) (by simp [go_sem]) (by simp [go_sem]) (by simp [go_sem]) (by simp [go_sem])
  have rr : Row (((w.alloc (Obj.cells #[Value.int IntKind.u64 x0, Value.int IntKind.u64 x1, Value.int IntKind.u64 x2, Value.int IntKind.u64 x3, Value.int IntKind.u64 x4, Value.int IntKind.u64 x5, Value.int IntKind.u64 x6, Value.int IntKind.u64 x7] 149)).alloc (Obj.cells #[Value.int IntKind.u64 y0, Value.int IntKind.u64 y1, Value.int IntKind.u64 y2, Value.int IntKind.u64 y3, Value.int IntKind.u64 y4, Value.int IntKind.u64 y5, Value.int IntKind.u64 y6, Value.int IntKind.u64 y7] 149)).alloc (Obj.cells #[Value.int IntKind.u64 0, Value.int IntKind.u64 0, Value.int IntKind.u64 0, Value.int IntKind.u64 0, Value.int IntKind.u64 0, Value.int IntKind.u64 0, Value.int IntKind.u64 0, Value.int IntKind.u64 0] 149)) (w.heap.size + 1 + 1) 0 [0, 0, 0, 0, 0, 0, 0, 0] := row_of8 (by simp <;> omega) (by simp [go_sem]) (by simp [go_sem]) (by simp [go_sem]) (by simp [go_sem]) (by simp [go_sem]) (by simp [go_sem]) (by simp [go_sem]) (by simp [go_sem]) (by simp [go_sem]) (by simp [go_sem]) (by simp [go_sem]) (by simp [go_sem]) (by simp [go_sem]) (by simp [go_sem]) (by simp [go_sem]) (by simp [go_sem])
  have hB : Below w.heap.size w (((w.alloc (Obj.cells #[Value.int IntKind.u64 x0, Value.int IntKind.u64 x1, Value.int IntKind.u64 x2, Value.int IntKind.u64 x3, Value.int IntKind.u64 x4, Value.int IntKind.u64 x5, Value.int IntKind.u64 x6, Value.int IntKind.u64 x7] 149)).alloc (Obj.cells #[Value.int IntKind.u64 y0, Value.int IntKind.u64 y1, Value.int IntKind.u64 y2, Value.int IntKind.u64 y3, Value.int IntKind.u64 y4, Value.int IntKind.u64 y5, Value.int IntKind.u64 y6, Value.int IntKind.u64 y7] 149)).alloc (Obj.cells #[Value.int IntKind.u64 0, Value.int IntKind.u64 0, Value.int IntKind.u64 0, Value.int IntKind.u64 0, Value.int IntKind.u64 0, Value.int IntKind.u64 0, Value.int IntKind.u64 0, Value.int IntKind.u64 0] 149)) := (((Below.refl _ _).alloc (Nat.le_refl _) _).alloc (by simp) _).alloc (by simp; omega) _
  go_enter Try.func189, Try.ntmps189
  go_wp2
  generalize ((w.alloc (Obj.cells #[Value.int IntKind.u64 x0, Value.int IntKind.u64 x1, Value.int IntKind.u64 x2, Value.int IntKind.u64 x3, Value.int IntKind.u64 x4, Value.int IntKind.u64 x5, Value.int IntKind.u64 x6, Value.int IntKind.u64 x7] 149)).alloc (Obj.cells #[Value.int IntKind.u64 y0, Value.int IntKind.u64 y1, Value.int IntKind.u64 y2, Value.int IntKind.u64 y3, Value.int IntKind.u64 y4, Value.int IntKind.u64 y5, Value.int IntKind.u64 y6, Value.int IntKind.u64 y7] 149)).alloc (Obj.cells #[Value.int IntKind.u64 0, Value.int IntKind.u64 0, Value.int IntKind.u64 0, Value.int IntKind.u64 0, Value.int IntKind.u64 0, Value.int IntKind.u64 0, Value.int IntKind.u64 0, Value.int IntKind.u64 0] 149) = W at *
  go_region_with ((go_at_call 192; refine (addWords_any w.heap.size (w.heap.size + 1) 0 0 8 8 8 8 [x0, x1, x2, x3, x4, x5, x6, x7] [y0, y1, y2, y3, y4, y5, y6, y7] _ rfl rfl wx wy (row_drew rx) (row_drew ry) (by omega) (by omega)).mono ?_; rintro e w1 ⟨zs, c, rfl, h1, h2, h3, h4, h5, h6, h7⟩))
  obtain ⟨z0, z1, z2, z3, z4, z5, z6, z7, rfl⟩ := list8 h1
  have HP : Hid (PlusP [x0, x1, x2, x3, x4, x5, x6, x7] [y0, y1, y2, y3, y4, y5, y6, y7] w (.returned (.agg #[.int .u64 z0, .int .u64 z1, .int .u64 z2, .int .u64 z3, .int .u64 z4, .int .u64 z5, .int .u64 z6, .int .u64 z7])) w1) := ⟨[z0, z1, z2, z3, z4, z5, z6, z7], c, rfl, rfl, h2, h3, h4, h5, (hB.drew).trans (h7.below (Nat.le_refl _))⟩
  obtain ⟨c0, c1, c2, c3, c4, c5, c6, c7⟩ := row_cells8 h6
  have rr1 := row_other rr.drewd h7 (by omega)
  obtain ⟨g0, g1, g2, g3, g4, g5, g6, g7⟩ := row_cells8 rr1
  obtain ⟨f0, f1, f2, f3, f4, f5, f6, f7⟩ := row_frz8 rr1
  have hne : w.heap.size + 1 + 1 ≠ w.heap.size := by omega
  clear rx ry rr hB h2 h3 h4 h5 h6 h7 h1 rr1
  go_wp2
  refine bodyPost_ret (v := .agg #[.int .u64 z0, .int .u64 z1, .int .u64 z2, .int .u64 z3, .int .u64 z4, .int .u64 z5, .int .u64 z6, .int .u64 z7]) (by simp [results, Try.results189, go_sem, g0, g1, g2, g3, g4, g5, g6, g7]) rfl ?_
  exact plus8_ret HP.out
theorem minus8_ret {w w1 : World} {xs ys : List Int} {e : Ending} {u0 u1 u2 u3 u4 u5 u6 u7 : Value} (h : MinusP xs ys w e w1) : MinusP xs ys w e ((((((((w1.setCell ⟨w.heap.size + 1 + 1, 0, none⟩ u0).setCell ⟨w.heap.size + 1 + 1, 1, none⟩ u1).setCell ⟨w.heap.size + 1 + 1, 2, none⟩ u2).setCell ⟨w.heap.size + 1 + 1, 3, none⟩ u3).setCell ⟨w.heap.size + 1 + 1, 4, none⟩ u4).setCell ⟨w.heap.size + 1 + 1, 5, none⟩ u5).setCell ⟨w.heap.size + 1 + 1, 6, none⟩ u6).setCell ⟨w.heap.size + 1 + 1, 7, none⟩ u7) := by
  obtain ⟨zs, c, h1, h2, h3, h4, h5, h6, h7⟩ := h
  exact ⟨zs, c, h1, h2, h3, h4, h5, h6, ((((((((h7.setCell (by show w.heap.size ≤ w.heap.size + 1 + 1; omega) _).setCell (by show w.heap.size ≤ w.heap.size + 1 + 1; omega) _).setCell (by show w.heap.size ≤ w.heap.size + 1 + 1; omega) _).setCell (by show w.heap.size ≤ w.heap.size + 1 + 1; omega) _).setCell (by show w.heap.size ≤ w.heap.size + 1 + 1; omega) _).setCell (by show w.heap.size ≤ w.heap.size + 1 + 1; omega) _).setCell (by show w.heap.size ≤ w.heap.size + 1 + 1; omega) _).setCell (by show w.heap.size ≤ w.heap.size + 1 + 1; omega) _)⟩
set_option maxRecDepth 100000 in
set_option maxHeartbeats 2000000 in
theorem minus8 (x0 x1 x2 x3 x4 x5 x6 x7 y0 y1 y2 y3 y4 y5 y6 y7 : Int) (wx : Words [x0, x1, x2, x3, x4, x5, x6, x7]) (wy : Words [y0, y1, y2, y3, y4, y5, y6, y7]) (w : World) :
    Calls Try.prog 156 #[.agg #[.int .u64 x0, .int .u64 x1, .int .u64 x2, .int .u64 x3, .int .u64 x4, .int .u64 x5, .int .u64 x6, .int .u64 x7], .agg #[.int .u64 y0, .int .u64 y1, .int .u64 y2, .int .u64 y3, .int .u64 y4, .int .u64 y5, .int .u64 y6, .int .u64 y7]] w (MinusP [x0, x1, x2, x3, x4, x5, x6, x7] [y0, y1, y2, y3, y4, y5, y6, y7] w) := by
  have rx : Row (((w.alloc (Obj.cells #[Value.int IntKind.u64 x0, Value.int IntKind.u64 x1, Value.int IntKind.u64 x2, Value.int IntKind.u64 x3, Value.int IntKind.u64 x4, Value.int IntKind.u64 x5, Value.int IntKind.u64 x6, Value.int IntKind.u64 x7] 149)).alloc (Obj.cells #[Value.int IntKind.u64 y0, Value.int IntKind.u64 y1, Value.int IntKind.u64 y2, Value.int IntKind.u64 y3, Value.int IntKind.u64 y4, Value.int IntKind.u64 y5, Value.int IntKind.u64 y6, Value.int IntKind.u64 y7] 149)).alloc (Obj.cells #[Value.int IntKind.u64 0, Value.int IntKind.u64 0, Value.int IntKind.u64 0, Value.int IntKind.u64 0, Value.int IntKind.u64 0, Value.int IntKind.u64 0, Value.int IntKind.u64 0, Value.int IntKind.u64 0] 149)) w.heap.size 0 [x0, x1, x2, x3, x4, x5, x6, x7] := row_of8 (by simp <;> omega) (by simp [go_sem]) (by simp [go_sem]) (by simp [go_sem]) (by simp [go_sem]) (by simp [go_sem]) (by simp [go_sem]) (by simp [go_sem]) (by simp [go_sem]) (by simp [go_sem]) (by simp [go_sem]) (by simp [go_sem]) (by simp [go_sem]) (by simp [go_sem]) (by simp [go_sem]) (by simp [go_sem]) (by simp [go_sem])
  have ry : Row (((w.alloc (Obj.cells #[Value.int IntKind.u64 x0, Value.int IntKind.u64 x1, Value.int IntKind.u64 x2, Value.int IntKind.u64 x3, Value.int IntKind.u64 x4, Value.int IntKind.u64 x5, Value.int IntKind.u64 x6, Value.int IntKind.u64 x7] 149)).alloc (Obj.cells #[Value.int IntKind.u64 y0, Value.int IntKind.u64 y1, Value.int IntKind.u64 y2, Value.int IntKind.u64 y3, Value.int IntKind.u64 y4, Value.int IntKind.u64 y5, Value.int IntKind.u64 y6, Value.int IntKind.u64 y7] 149)).alloc (Obj.cells #[Value.int IntKind.u64 0, Value.int IntKind.u64 0, Value.int IntKind.u64 0, Value.int IntKind.u64 0, Value.int IntKind.u64 0, Value.int IntKind.u64 0, Value.int IntKind.u64 0, Value.int IntKind.u64 0] 149)) (w.heap.size + 1) 0 [y0, y1, y2, y3, y4, y5, y6, y7] := row_of8 (by simp <;> omega) (by simp [go_sem]) (by simp [go_sem]) (by simp [go_sem]) (by simp [go_sem]) (by simp [go_sem]) (by simp [go_sem]) (by simp [go_sem]) (by simp [go_sem]) (by simp [go_sem]) (by simp [go_sem]) (by simp [go_sem]) (by simp [go_sem]) (by simp [go_sem]) (by simp [go_sem]) (by simp [go_sem]) (by simp [go_sem])
  have rr : Row (((w.alloc (Obj.cells #[Value.int IntKind.u64 x0, Value.int IntKind.u64 x1, Value.int IntKind.u64 x2, Value.int IntKind.u64 x3, Value.int IntKind.u64 x4, Value.int IntKind.u64 x5, Value.int IntKind.u64 x6, Value.int IntKind.u64 x7] 149)).alloc (Obj.cells #[Value.int IntKind.u64 y0, Value.int IntKind.u64 y1, Value.int IntKind.u64 y2, Value.int IntKind.u64 y3, Value.int IntKind.u64 y4, Value.int IntKind.u64 y5, Value.int IntKind.u64 y6, Value.int IntKind.u64 y7] 149)).alloc (Obj.cells #[Value.int IntKind.u64 0, Value.int IntKind.u64 0, Value.int IntKind.u64 0, Value.int IntKind.u64 0, Value.int IntKind.u64 0, Value.int IntKind.u64 0, Value.int IntKind.u64 0, Value.int IntKind.u64 0] 149)) (w.heap.size + 1 + 1) 0 [0, 0, 0, 0, 0, 0, 0, 0] := row_of8 (by simp <;> omega) (by simp [go_sem]) (by simp [go_sem]) (by simp [go_sem]) (by simp [go_sem]) (by simp [go_sem]) (by simp [go_sem]) (by simp [go_sem]) (by simp [go_sem]) (by simp [go_sem]) (by simp [go_sem]) (by simp [go_sem]) (by simp [go_sem]) (by simp [go_sem]) (by simp [go_sem]) (by simp [go_sem]) (by simp [go_sem])
  have hB : Below w.heap.size w (((w.alloc (Obj.cells #[Value.int IntKind.u64 x0, Value.int IntKind.u64 x1, Value.int IntKind.u64 x2, Value.int IntKind.u64 x3, Value.int IntKind.u64 x4, Value.int IntKind.u64 x5, Value.int IntKind.u64 x6, Value.int IntKind.u64 x7] 149)).alloc (Obj.cells #[Value.int IntKind.u64 y0, Value.int IntKind.u64 y1, Value.int IntKind.u64 y2, Value.int IntKind.u64 y3, Value.int IntKind.u64 y4, Value.int IntKind.u64 y5, Value.int IntKind.u64 y6, Value.int IntKind.u64 y7] 149)).alloc (Obj.cells #[Value.int IntKind.u64 0, Value.int IntKind.u64 0, Value.int IntKind.u64 0, Value.int IntKind.u64 0, Value.int IntKind.u64 0, Value.int IntKind.u64 0, Value.int IntKind.u64 0, Value.int IntKind.u64 0] 149)) := (((Below.refl _ _).alloc (Nat.le_refl _) _).alloc (by simp) _).alloc (by simp; omega) _
  go_enter Try.func156, Try.ntmps156
  go_wp2
  generalize ((w.alloc (Obj.cells #[Value.int IntKind.u64 x0, Value.int IntKind.u64 x1, Value.int IntKind.u64 x2, Value.int IntKind.u64 x3, Value.int IntKind.u64 x4, Value.int IntKind.u64 x5, Value.int IntKind.u64 x6, Value.int IntKind.u64 x7] 149)).alloc (Obj.cells #[Value.int IntKind.u64 y0, Value.int IntKind.u64 y1, Value.int IntKind.u64 y2, Value.int IntKind.u64 y3, Value.int IntKind.u64 y4, Value.int IntKind.u64 y5, Value.int IntKind.u64 y6, Value.int IntKind.u64 y7] 149)).alloc (Obj.cells #[Value.int IntKind.u64 0, Value.int IntKind.u64 0, Value.int IntKind.u64 0, Value.int IntKind.u64 0, Value.int IntKind.u64 0, Value.int IntKind.u64 0, Value.int IntKind.u64 0, Value.int IntKind.u64 0] 149) = W at *
  go_region_with ((go_at_call 176; refine (takeWords_any w.heap.size (w.heap.size + 1) 0 0 8 8 8 8 [x0, x1, x2, x3, x4, x5, x6, x7] [y0, y1, y2, y3, y4, y5, y6, y7] _ rfl rfl wx wy (row_drew rx) (row_drew ry) (by omega) (by omega)).mono ?_; rintro e w1 ⟨zs, c, rfl, h1, h2, h3, h4, h5, h6, h7⟩))
  obtain ⟨z0, z1, z2, z3, z4, z5, z6, z7, rfl⟩ := list8 h1
  have HP : Hid (MinusP [x0, x1, x2, x3, x4, x5, x6, x7] [y0, y1, y2, y3, y4, y5, y6, y7] w (.returned (.agg #[.int .u64 z0, .int .u64 z1, .int .u64 z2, .int .u64 z3, .int .u64 z4, .int .u64 z5, .int .u64 z6, .int .u64 z7])) w1) := ⟨[z0, z1, z2, z3, z4, z5, z6, z7], c, rfl, rfl, h2, h3, h4, h5, (hB.drew).trans (h7.below (Nat.le_refl _))⟩
  obtain ⟨c0, c1, c2, c3, c4, c5, c6, c7⟩ := row_cells8 h6
  have rr1 := row_other rr.drewd h7 (by omega)
  obtain ⟨g0, g1, g2, g3, g4, g5, g6, g7⟩ := row_cells8 rr1
  obtain ⟨f0, f1, f2, f3, f4, f5, f6, f7⟩ := row_frz8 rr1
  have hne : w.heap.size + 1 + 1 ≠ w.heap.size := by omega
  clear rx ry rr hB h2 h3 h4 h5 h6 h7 h1 rr1
  go_wp2
  refine bodyPost_ret (v := .agg #[.int .u64 z0, .int .u64 z1, .int .u64 z2, .int .u64 z3, .int .u64 z4, .int .u64 z5, .int .u64 z6, .int .u64 z7]) (by simp [results, Try.results156, go_sem, g0, g1, g2, g3, g4, g5, g6, g7]) rfl ?_
  exact minus8_ret HP.out
end Go.Proofs.Ytmjlgmoohpnhfaa

/- The walks of the sign of four words, by the model and by the program, and of the law over both. -/
namespace Go.Proofs.Ytmjlgmoohpnhfaa
open Go.RowKit
/-- Four words as a value. -/
def WideP (a3 a2 a1 a0 : Int) (w : World) (e : Ending) (w' : World) : Prop := e = .returned (.agg #[.int .u64 a3, .int .u64 a2, .int .u64 a1, .int .u64 a0]) ∧ Below w.heap.size w w'
def BoolP (b : Bool) (w : World) (e : Ending) (w' : World) : Prop := e = .returned (.bool b) ∧ Below w.heap.size w w'
set_option maxRecDepth 100000 in
set_option maxHeartbeats 400000 in
theorem isBelow_any (a3 a2 a1 a0 : Int) (h3 : Word a3) (b : Bool) (hb : (a3 / 9223372036854775808 == 1) = b) (w : World) :
    Calls Try.prog 140 #[.agg #[.int .u64 a3, .int .u64 a2, .int .u64 a1, .int .u64 a0]] w (BoolP b w) := by
  obtain ⟨l3, u3⟩ := h3
  go_enter Try.func140, Try.ntmps140
  go_wp2
  go_ret
  exact ⟨rfl, (Below.refl _ _).alloc (Nat.le_refl _) _⟩
set_option maxRecDepth 100000 in
set_option maxHeartbeats 400000 in
theorem implSign_any (a3 a2 a1 a0 : Int) (h3 : Word a3) (h2 : Word a2) (h1 : Word a1) (h0 : Word a0) (w : World) :
    Calls Try.prog 99 #[.agg #[.int .u64 a3, .int .u64 a2, .int .u64 a1, .int .u64 a0]] w (IntP (cmpI (sw a3 a2 a1 a0) 0) w) := by
  have hn := sw_neg h3 h2 h1 h0
  by_cases hp : 9223372036854775808 ≤ a3
  · have hb : (a3 / 9223372036854775808 == 1) = true := beq_iff_eq.2 (by have := h3.2; omega)
    go_enter Try.func99, Try.ntmps99
    go_wp2_with fail
    refine (isBelow_any a3 a2 a1 a0 h3 true hb _).mono ?_
    rintro e w1 ⟨rfl, hB⟩
    go_wp2
    go_ret
    exact ⟨ret_int (cmpI_lt (hn.2 hp)), ((Below.refl _ _).alloc (Nat.le_refl _) _).trans (hB.mono (by simp))⟩
  · have hb : (a3 / 9223372036854775808 == 1) = false := beq_eq_false_iff_ne.2 (by have := h3.1; omega)
    go_enter Try.func99, Try.ntmps99
    go_wp2_with fail
    refine (isBelow_any a3 a2 a1 a0 h3 false hb _).mono ?_
    rintro e w1 ⟨rfl, hB⟩
    have HS : Hid (sw a3 a2 a1 a0 = uw a3 a2 a1 a0) := by show _ = _; unfold sw; rw [if_pos (by omega)]
    obtain ⟨hc, _⟩ := bcell hB
    have HB : Hid (Below w.heap.size w w1) := ((Below.refl _ _).alloc (Nat.le_refl _) _).trans (hB.mono (by simp))
    obtain ⟨l3, u3⟩ := h3; obtain ⟨l2, u2⟩ := h2; obtain ⟨l1, u1⟩ := h1; obtain ⟨l0, u0⟩ := h0
    clear hB hn
    go_wp2
    all_goals go_ret
    all_goals (refine ⟨ret_int ?_, HB.out⟩; rw [HS.out]; first | exact cmpI_gt (by unfold uw; omega) | exact cmpI_eq (by unfold uw; omega))
end Go.Proofs.Ytmjlgmoohpnhfaa

/- The walks of numbers of eight words: made of four, turned in their sign, told as four; and of the product of two words. -/
namespace Go.Proofs.Ytmjlgmoohpnhfaa
open Go.RowKit Go.Shelf
theorem mulLays : Lays.n264 Try.prog ⟨fun _ => 186, fun n => if n = 46 then 178 else 46, fun _ => 0⟩ where
  mixed := by kernel_rfl
  f264 := by kernel_rfl
  t46 := by kernel_rfl
  a46 := fun w => by kernel_rfl
  z46 := fun w => by kernel_rfl
  v46 := fun w => by kernel_rfl
  t53 := by kernel_rfl
  a53 := fun w => by kernel_rfl
  z53 := fun w => by kernel_rfl
  v53 := fun w => by kernel_rfl
def MulP (x y : Int) (w : World) (e : Ending) (w' : World) : Prop := e = .returned (.tuple #[.int .u64 (x * y / 18446744073709551616), .int .u64 (x * y % 18446744073709551616)]) ∧ w' = w
theorem mul64 (x y : Int) (hx : Word x) (hy : Word y) (w : World) : Calls Try.prog 186 #[.int .u64 x, .int .u64 y] w (MulP x y w) := by
  obtain ⟨hx0, hx1⟩ := hx
  obtain ⟨hy0, hy1⟩ := hy
  obtain ⟨x, rfl⟩ := Int.eq_ofNat_of_zero_le hx0
  obtain ⟨y, rfl⟩ := Int.eq_ofNat_of_zero_le hy0
  refine (Any.bits_Mul64 mulLays x y (by omega) (by omega) w).mono ?_
  rintro e w' ⟨rfl, rfl⟩
  exact ⟨by simp, rfl⟩
abbrev L8 (x0 x1 x2 x3 x4 x5 x6 x7 : Int) : Value := .agg #[.int .u64 x0, .int .u64 x1, .int .u64 x2, .int .u64 x3, .int .u64 x4, .int .u64 x5, .int .u64 x6, .int .u64 x7]
def LongP (x0 x1 x2 x3 x4 x5 x6 x7 : Int) (w : World) (e : Ending) (w' : World) : Prop := e = .returned (L8 x0 x1 x2 x3 x4 x5 x6 x7) ∧ Below w.heap.size w w'
/-- The words that a sign fills. -/
def fillW (a3 : Int) : Int := if a3 < 9223372036854775808 then 0 else 18446744073709551615
set_option maxRecDepth 100000 in
set_option maxHeartbeats 400000 in
theorem longOf_any (a3 a2 a1 a0 : Int) (h3 : Word a3) (w : World) :
    Calls Try.prog 143 #[.agg #[.int .u64 a3, .int .u64 a2, .int .u64 a1, .int .u64 a0]] w (LongP a0 a1 a2 a3 (fillW a3) (fillW a3) (fillW a3) (fillW a3) w) := by
  obtain ⟨f, hf⟩ : ∃ f, fillW a3 = f := ⟨_, rfl⟩
  have hd : IntKind.u64.wrap (wrap64 a3 / 9223372036854775808) = f := by
    unfold Word at h3
    rw [← hf, IntKind.wrap_u64]
    unfold fillW wrap64
    split <;> omega
  rw [hf]
  go_enter Try.func143, Try.ntmps143
  go_wp2
  refine bodyPost_ret (v := L8 a0 a1 a2 a3 f f f f) (by simp [results, Try.results143, go_sem]) rfl ?_
  exact ⟨rfl, ((Below.refl _ _).alloc (Nat.le_refl _) _).alloc (by simp) _⟩
/-- The number that eight words stand for, with its sign. -/
def sl (x0 x1 x2 x3 x4 x5 x6 x7 : Int) : Int := val64 [x0, x1, x2, x3, x4, x5, x6, x7] - (if x7 < 9223372036854775808 then 0 else 13407807929942597099574024998205846127479365820592393377723561443721764030073546976801874298166903427690031858186486050853753882811946569946433649006084096)
/-- The number with its sign turned where b holds, or as it was. -/
def SignP (x0 x1 x2 x3 x4 x5 x6 x7 : Int) (b : Bool) (w : World) (e : Ending) (w' : World) : Prop :=
  ∃ z0 z1 z2 z3 z4 z5 z6 z7, e = .returned (L8 z0 z1 z2 z3 z4 z5 z6 z7) ∧ Words [z0, z1, z2, z3, z4, z5, z6, z7] ∧ (∃ c, 0 ≤ c ∧ c ≤ 1 ∧ val64 [z0, z1, z2, z3, z4, z5, z6, z7] = if b then 0 - val64 [x0, x1, x2, x3, x4, x5, x6, x7] + c * 13407807929942597099574024998205846127479365820592393377723561443721764030073546976801874298166903427690031858186486050853753882811946569946433649006084096 else val64 [x0, x1, x2, x3, x4, x5, x6, x7]) ∧ Below w.heap.size w w'
theorem pw64_8 : pw64 8 = 13407807929942597099574024998205846127479365820592393377723561443721764030073546976801874298166903427690031858186486050853753882811946569946433649006084096 := by decide
set_option maxRecDepth 100000 in
set_option maxHeartbeats 1000000 in
theorem signed_any (x0 x1 x2 x3 x4 x5 x6 x7 : Int) (b : Bool) (wx : Words [x0, x1, x2, x3, x4, x5, x6, x7]) (w : World) :
    Calls Try.prog 171 #[L8 x0 x1 x2 x3 x4 x5 x6 x7, .bool b] w (SignP x0 x1 x2 x3 x4 x5 x6 x7 b w) := by
  have B0 := (Blk.new w [.int .u64 x0, .int .u64 x1, .int .u64 x2, .int .u64 x3, .int .u64 x4, .int .u64 x5, .int .u64 x6, .int .u64 x7] 149 rfl).alloc (.cells #[.int .u64 0, .int .u64 0, .int .u64 0, .int .u64 0, .int .u64 0, .int .u64 0, .int .u64 0, .int .u64 0] 149)
  have B1 := Blk.new (w.alloc (.cells #[.int .u64 x0, .int .u64 x1, .int .u64 x2, .int .u64 x3, .int .u64 x4, .int .u64 x5, .int .u64 x6, .int .u64 x7] 149)) [.int .u64 0, .int .u64 0, .int .u64 0, .int .u64 0, .int .u64 0, .int .u64 0, .int .u64 0, .int .u64 0] 149 (g := w.heap.size + 1) (by simp)
  have HB0 := ((Below.refl _ w).alloc (Nat.le_refl _) (.cells #[.int .u64 x0, .int .u64 x1, .int .u64 x2, .int .u64 x3, .int .u64 x4, .int .u64 x5, .int .u64 x6, .int .u64 x7] 149)).alloc (by simp) (.cells #[.int .u64 0, .int .u64 0, .int .u64 0, .int .u64 0, .int .u64 0, .int .u64 0, .int .u64 0, .int .u64 0] 149)
  have w0 : Words [0, 0, 0, 0, 0, 0, 0, 0] := by
    intro d hd
    simp at hd
    subst hd
    exact ⟨by decide, by decide⟩
  cases b
  · go_enter Try.func171, Try.ntmps171
    go_wp2
    refine bodyPost_ret (v := L8 x0 x1 x2 x3 x4 x5 x6 x7) (by simp [results, Try.results171, go_sem]) rfl ?_
    exact ⟨x0, x1, x2, x3, x4, x5, x6, x7, rfl, wx, ⟨0, by decide, by decide, by simp⟩, ((Below.refl _ _).alloc (Nat.le_refl _) _).alloc (by simp) _⟩
  · go_enter Try.func171, Try.ntmps171
    go_wp2_with fail
    refine (minus8 0 0 0 0 0 0 0 0 x0 x1 x2 x3 x4 x5 x6 x7 w0 wx _).mono ?_
    rintro e w1 ⟨zs, c, rfl, h1, h2, h3, h4, h5, hB⟩
    obtain ⟨z0, z1, z2, z3, z4, z5, z6, z7, rfl⟩ := list8 h1
    replace B1 := B1.step hB
    have HB : Below w.heap.size w w1 := HB0.trans (hB.mono HB0.size)
    have HV : val64 [z0, z1, z2, z3, z4, z5, z6, z7] = 0 - val64 [x0, x1, x2, x3, x4, x5, x6, x7] + c * 13407807929942597099574024998205846127479365820592393377723561443721764030073546976801874298166903427690031858186486050853753882811946569946433649006084096 := by
      rw [h5, show ([0, 0, 0, 0, 0, 0, 0, 0] : List Int).length = 8 from rfl, pw64_8]
      simp [val64]
    have c0 := B1.c 0 rfl; have f0 := B1.f 0 rfl; have c1 := B1.c 1 rfl; have f1 := B1.f 1 rfl; have c2 := B1.c 2 rfl; have f2 := B1.f 2 rfl; have c3 := B1.c 3 rfl; have f3 := B1.f 3 rfl; have c4 := B1.c 4 rfl; have f4 := B1.f 4 rfl; have c5 := B1.c 5 rfl; have f5 := B1.f 5 rfl; have c6 := B1.c 6 rfl; have f6 := B1.f 6 rfl; have c7 := B1.c 7 rfl; have f7 := B1.f 7 rfl
    have lt := B1.lt
    clear hB h5 h1 HB0 B0
    go_wp2
    refine bodyPost_ret (v := L8 z0 z1 z2 z3 z4 z5 z6 z7) (by simp [results, Try.results171, go_sem, c0, c1, c2, c3, c4, c5, c6, c7]) rfl ?_
    refine ⟨z0, z1, z2, z3, z4, z5, z6, z7, rfl, h2, ⟨c, h3, h4, by rw [if_pos rfl]; exact HV⟩, ?_⟩
    repeat' (refine Below.setCell ?_ (by simp) _)
    exact HB
end Go.Proofs.Ytmjlgmoohpnhfaa

/- The walks of the pieces of the program's long division: the shift down, a number times a digit. -/
namespace Go.Proofs.Ytmjlgmoohpnhfaa
open Go.RowKit
/-- A row that is made, beside one that is read. -/
structure MkX (w wr : World) (gx g gp : Nat) (xs : List Int) (vs : List Value) (zs : List Int) : Prop where
  m : Mk w wr g gp vs zs
  x : Blk wr gx (xs.map (Value.int .u64))
theorem MkX.drewN {w wr : World} {gx g gp : Nat} {xs : List Int} {vs : List Value} {zs : List Int} (h : MkX w wr gx g gp xs vs zs) (n : Nat) : MkX w (wr.drewN n) gx g gp xs vs zs := ⟨h.m.drewN n, h.x⟩
theorem MkX.drew {w wr : World} {gx g gp : Nat} {xs : List Int} {vs : List Value} {zs : List Int} (h : MkX w wr gx g gp xs vs zs) : MkX w wr.drew gx g gp xs vs zs := ⟨h.m.drew, h.x⟩
theorem MkX.set {w wr : World} {gx g gp : Nat} {xs : List Int} {vs : List Value} {zs : List Int} (h : MkX w wr gx g gp xs vs zs) (hx : gx ≠ gp) (hne : g ≠ gp) (hg : w.heap.size ≤ gp) (j : Nat) (hj : j < zs.length) (u : Int) : MkX w (wr.setCell ⟨gp, j, none⟩ (.int .u64 u)) gx g gp xs vs (zs.set j u) := ⟨h.m.set hne hg j hj u, h.x.setO hx _⟩
theorem MkX.cx {w wr : World} {gx g gp : Nat} {xs : List Int} {vs : List Value} {zs : List Int} (h : MkX w wr gx g gp xs vs zs) (j : Nat) (hj : j < xs.length) : wr.cell? ⟨gx, j, none⟩ = some (.int .u64 xs[j]) := h.x.c j (by simp [hj])
end Go.Proofs.Ytmjlgmoohpnhfaa

/- One digit of a long division: the reckoning, and a window of a row that is written. -/
namespace Go.Proofs.Ytmjlgmoohpnhfaa
open Go.RowKit
/-- The words of a row from a place on. -/
def win (rs : List Int) (place k : Nat) : List Int := (rs.drop place).take k
/-- A row with other words from a place on. -/
def put (rs : List Int) (place : Nat) (zs : List Int) : List Int := rs.take place ++ (zs ++ rs.drop (place + zs.length))
/-- What is divided by the divisor's words at a place, and the digit there. -/
structure Kn (rs ys : List Int) (n place : Nat) : Prop where
  hl : rs.length = 9
  hm : ys.length = 9
  hr : Words rs
  hy : Words ys
  hn : 1 ≤ n
  hp : place + n ≤ 8
  top : ∀ m, m + 1 = n → (h : m < ys.length) → ys[m] ≠ 0
  lt : val64 (win rs place (n + 1)) < 18446744073709551616 * val64 (ys.take n)
theorem Kn.pos {rs ys : List Int} {n place : Nat} (h : Kn rs ys n place) : 0 < val64 (ys.take n) := by
  have hn := h.hn
  obtain ⟨m, rfl⟩ : ∃ m, n = m + 1 := ⟨n - 1, by omega⟩
  have hm := h.hm
  have hp := h.hp
  have i : m < ys.length := by omega
  rw [val64_take ys m i]
  have t := h.top m rfl i
  have w := words_at h.hy m i
  have e := val64_nonneg (words_take h.hy m)
  have p := pq_pos m
  have : pw64 m * 1 ≤ pw64 m * ys[m] := Int.mul_le_mul_of_nonneg_left (by have := w.1; omega) (by omega)
  omega
end Go.Proofs.Ytmjlgmoohpnhfaa

/- The walk of one digit of the program's long division. -/
namespace Go.Proofs.Ytmjlgmoohpnhfaa
open Go.RowKit
/-- What stands while a digit is sought. -/
structure Tk (w wr : World) (rs ys : List Int) : Prop where
  below : Below w.heap.size w wr
  r : Blk wr w.heap.size (rs.map (Value.int .u64))
  y : Blk wr (w.heap.size + 1) (ys.map (Value.int .u64))
  o : Blk wr (w.heap.size + 1 + 1) (List.replicate 9 (Value.int .u64 0))
theorem Tk.step {w wr wr' : World} {rs ys : List Int} (h : Tk w wr rs ys) (hB : Below wr.heap.size wr wr') : Tk w wr' rs ys := ⟨h.below.trans (hB.mono h.below.size), h.r.step hB, h.y.step hB, h.o.step hB⟩
theorem Tk.drew {w wr : World} {rs ys : List Int} (h : Tk w wr rs ys) : Tk w wr.drew rs ys := ⟨h.below.drew, h.r, h.y, h.o⟩
theorem Tk.drewN {w wr : World} {rs ys : List Int} (h : Tk w wr rs ys) (n : Nat) : Tk w (wr.drewN n) rs ys := ⟨bdrew h.below n, h.r, h.y, h.o⟩
theorem Tk.cr {w wr : World} {rs ys : List Int} (h : Tk w wr rs ys) (j : Nat) (hj : j < rs.length) : wr.cell? ⟨w.heap.size, j, none⟩ = some (.int .u64 rs[j]) := h.r.c j (by simp [hj])
theorem Tk.cy {w wr : World} {rs ys : List Int} (h : Tk w wr rs ys) (j : Nat) (hj : j < ys.length) : wr.cell? ⟨w.heap.size + 1, j, none⟩ = some (.int .u64 ys[j]) := h.y.c j (by simp [hj])
end Go.Proofs.Ytmjlgmoohpnhfaa

/- Long division, digit by digit: the reckoning. -/
namespace Go.Proofs.Ytmjlgmoohpnhfaa
open Go.RowKit
end Go.Proofs.Ytmjlgmoohpnhfaa

/- The walk of the sum of digits. -/
namespace Go.Proofs.Ytmjlgmoohpnhfaa
open Go.RowKit
structure AddI (w wr : World) (xs ys : List Int) (k c : Nat) (cv : Int) (zs : List Int) : Prop where
  len : zs.length = k
  dig : Dig zs
  eq : val zs + cv * pw k = val (xs.take k) + val (ys.take k)
  own : wr.ownsRow w.heap.size 177 1 (.slice (some ⟨w.heap.size, 0, none⟩) k c) k (zs.map (Value.int .u32))
  below : Below w.heap.size w wr
theorem add_eq (xs ys zs : List Int) (k : Nat) (hl : zs.length = k) (cv x : Int) (eq : val zs + cv * pw k = val (xs.take k) + val (ys.take k)) (hx : x = cv + xs.getD k 0 + ys.getD k 0) :
    val (zs ++ [x % 4294967296]) + x / 4294967296 * pw (k + 1) = val (xs.take (k + 1)) + val (ys.take (k + 1)) := by
  rw [val_snoc, hl, val_take_getD, val_take_getD, pw]
  have e1 : pw k * (x % 4294967296) + x / 4294967296 * (4294967296 * pw k) = pw k * x := by
    have : x = x % 4294967296 + 4294967296 * (x / 4294967296) := by omega
    generalize x / 4294967296 = q at *
    generalize x % 4294967296 = r at *
    subst this
    grind
  have e2 : pw k * x = cv * pw k + pw k * xs.getD k 0 + pw k * ys.getD k 0 := by rw [hx]; grind
  omega
theorem add_step {w wr w2 : World} {xs ys : List Int} {k c : Nat} {cv : Int} {zs : List Int} (hI : AddI w wr xs ys k c cv zs) (x : Int) (hx : x = cv + xs.getD k 0 + ys.getD k 0) {o : Obj}
    (hown : w2.ownsRow w.heap.size 177 1 (.slice (some ⟨w.heap.size, 0, none⟩) (k + 1) c) (k + 1) (zs.map (Value.int .u32) ++ [.int .u32 (x % 4294967296)]))
    (hgrow : (wr.alloc o).grownBy w2 (some w.heap.size)) : AddI w w2 xs ys (k + 1) c (x / 4294967296) (zs ++ [x % 4294967296]) := by
  refine ⟨by simp [hI.len], dig_append.2 ⟨hI.dig, dig_cons.2 ⟨⟨by omega, by omega⟩, dig_nil⟩⟩, add_eq xs ys zs k hI.len cv x hI.eq hx, by simpa using hown, ?_⟩
  have hs := hI.below.size
  refine (hI.below.alloc hs o).grown hgrow (by simp; omega) ?_
  intro j hj
  cases hj
  exact Nat.le_refl _
/-- A slice of at most so many digits that stand for the number z. -/
def DigleP (k : Nat) (z : Int) (w : World) (e : Ending) (w' : World) : Prop :=
  ∃ (ao : Option Addr) (n cap : Nat) (zs : List Int), e = .returned (.slice ao n cap) ∧ zs.length = n ∧ n ≤ cap ∧ n ≤ k ∧ Dig zs ∧ val zs = z ∧ Rd w' ao zs ∧ Below w.heap.size w w'
theorem add_done {w wr : World} {n : Nat} {xs ys : List Int} {zs : List Int} (hI : AddI w wr xs ys n (n + 1) 0 zs) (hx : xs.length = n) (hy : ys.length ≤ n) :
    DigleP (n + 1) (val xs + val ys) w (.returned (.slice (some ⟨w.heap.size, 0, none⟩) n (n + 1))) wr := by
  refine ⟨_, n, n + 1, zs, rfl, hI.len, by omega, by omega, hI.dig, ?_, Rd.own hI.own hI.len, hI.below⟩
  have := hI.eq
  rw [val_take_all xs n (by omega), val_take_all ys n hy] at this
  simpa using this
theorem add_done1 {w wr w2 : World} {n : Nat} {xs ys : List Int} {cv : Int} {zs : List Int} (hI : AddI w wr xs ys n (n + 1) cv zs) (h0 : 0 ≤ cv) (h1 : cv < 4294967296) (hx : xs.length = n) (hy : ys.length ≤ n) {o : Obj}
    (hown : w2.ownsRow w.heap.size 177 1 (.slice (some ⟨w.heap.size, 0, none⟩) (n + 1) (n + 1)) (n + 1) (zs.map (Value.int .u32) ++ [.int .u32 cv])) (hgrow : (wr.alloc o).grownBy w2 (some w.heap.size)) :
    DigleP (n + 1) (val xs + val ys) w (.returned (.slice (some ⟨w.heap.size, 0, none⟩) (n + 1) (n + 1))) w2 := by
  have hl : (zs ++ [cv]).length = n + 1 := by simp [hI.len]
  refine ⟨_, n + 1, n + 1, zs ++ [cv], rfl, hl, Nat.le_refl _, Nat.le_refl _, dig_append.2 ⟨hI.dig, dig_cons.2 ⟨⟨h0, h1⟩, dig_nil⟩⟩, ?_, Rd.own (by simpa using hown) hl, ?_⟩
  · have := hI.eq
    rw [val_take_all xs n (by omega), val_take_all ys n hy] at this
    rw [val_snoc, hI.len, Int.mul_comm, this]
  · have hs := hI.below.size
    refine (hI.below.alloc hs o).grown hgrow (by simp; omega) ?_
    intro j hj
    cases hj
    exact Nat.le_refl _
set_option maxRecDepth 100000 in
set_option maxHeartbeats 1000000 in
/-- The first one is not the shorter. -/
theorem addAbs_ge (ao bo : Option Addr) (n m ca cb : Nat) (xs ys : List Int) (w : World) (hx : xs.length = n) (hy : ys.length = m) (dx : Dig xs) (dy : Dig ys) (rx : Rd w ao xs) (ry : Rd w bo ys) (hm : n ≤ 1000000) (hnm : m ≤ n) :
    Calls Try.prog 159 #[.slice ao n ca, .slice bo m cb] w (DigleP (n + 1) (val xs + val ys) w) := by
  obtain ⟨i0, hi, hz0, hz1, hz2⟩ := info_parts Try.info88
  have HX : Hid (xs.length = n) := hx
  have HY : Hid (ys.length = m) := hy
  have HDX : Hid (Dig xs) := dx
  have HDY : Hid (Dig ys) := dy
  have HRX : Hid (Rd w ao xs) := rx
  have HRY : Hid (Rd w bo ys) := ry
  have hnm' : ¬ n < m := by omega
  clear rx ry dx dy hx hy
  go_enter Try.func159, Try.ntmps159
  go_wp2_with (at_make; refine wpList_make_own _ rfl _ _ 87 rfl w.heap.size 177 i0 (.int .u32 0) 1 Try.underlying87 hi hz0 hz1 _ _ _ (n + 1) rfl rfl (by omega) (by rw [hz2]; omega) (by unfold maxLen; omega) (Nat.le_refl _) ?_)
  intro w1 hown hgrow
  have HS : AddI w w1 xs ys 0 (n + 1) 0 [] := ⟨rfl, dig_nil, by simp [val], hown, (Below.refl _ _).grown hgrow (Nat.le_refl _) (by simp)⟩
  clear hown hgrow
  go_wp2
  go_loopw [5, 6, 7] (fun o c i wr => ∃ (k : Nat) (cv : Int) (zs : List Int), k ≤ n ∧ i = .int .i64 k ∧ 0 ≤ cv ∧ cv ≤ 1 ∧ c = .int .u64 cv ∧ o = .slice (some ⟨w.heap.size, 0, none⟩) k (n + 1) ∧ AddI w wr xs ys k (n + 1) cv zs) (fun _ _ i _ => n - (intOf i).toNat)
  case atStart => exact ⟨0, 0, [], Nat.zero_le _, rfl, by decide, by decide, rfl, rfl, HS⟩
  case round =>
    obtain ⟨k, cv, zs, hk, rfl, hc0, hc1, rfl, rfl, hI⟩ := hrel
    clear HS
    by_cases hkn : k < n
    · have hkx : k < xs.length := by have := HX.out; omega
      obtain ⟨b, off, rfl, hbl, hcx0⟩ := HRX.out k hkx
      have hcx := (hI.below.cell (p := ⟨b, off + k, none⟩) hbl).trans hcx0
      clear hcx0
      obtain ⟨hx0, hx1⟩ := dig_at HDX.out k hkx
      by_cases hkm : k < m
      · have hky : k < ys.length := by have := HY.out; omega
        obtain ⟨b', off', rfl, hbl', hcy0⟩ := HRY.out k hky
        have hcy := (hI.below.cell (p := ⟨b', off' + k, none⟩) hbl').trans hcy0
        clear hcy0
        obtain ⟨hy0, hy1⟩ := dig_at HDY.out k hky
        go_wp2_with (at_builtin; refine wpList_append_fits _ rfl _ _ 87 rfl w.heap.size 177 i0 1 Try.underlying87 hi hz1 w.heap.size k (n + 1) _ rfl (hI.own.alloc _) ⟨wr.heap.size, 0, none⟩ 1 1 [.int .u32 ((cv + xs[k] + ys[k]) % 4294967296)] rfl rfl (cell_one_new _ _ _) (one_cell _ _) (by omega) ?_)
        intro w2 hown2 hgrow2
        go_wp2
        go_roundw
        case rel => exact ⟨k + 1, (cv + xs[k] + ys[k]) / 4294967296, _, by omega, by go_num, by omega, by omega, rfl, rfl, add_step hI _ (by simp [List.getD, hkx, hky]) hown2 hgrow2⟩
        case measure => simp [intOf]; omega
      · have hky : ¬ k < ys.length := by have := HY.out; omega
        go_wp2_with (at_builtin; refine wpList_append_fits _ rfl _ _ 87 rfl w.heap.size 177 i0 1 Try.underlying87 hi hz1 w.heap.size k (n + 1) _ rfl (hI.own.alloc _) ⟨wr.heap.size, 0, none⟩ 1 1 [.int .u32 ((cv + xs[k]) % 4294967296)] rfl rfl (cell_one_new _ _ _) (one_cell _ _) (by omega) ?_)
        intro w2 hown2 hgrow2
        go_wp2
        go_roundw
        case rel => exact ⟨k + 1, (cv + xs[k]) / 4294967296, _, by omega, by go_num, by omega, by omega, rfl, rfl, add_step hI _ (by simp [List.getD, hkx, hky]) hown2 hgrow2⟩
        case measure => simp [intOf]; omega
    · obtain rfl : k = n := by omega
      by_cases hcp : 0 < cv
      · obtain rfl : cv = 1 := by omega
        go_wp2_with (at_builtin; refine wpList_append_fits _ rfl _ _ 87 rfl w.heap.size 177 i0 1 Try.underlying87 hi hz1 w.heap.size k (k + 1) _ rfl (hI.own.alloc _) ⟨wr.heap.size, 0, none⟩ 1 1 [.int .u32 1] rfl rfl (cell_one_new _ _ _) (one_cell _ _) (by omega) ?_)
        intro w2 hown2 hgrow2
        go_wp2
        go_ret
        exact add_done1 hI (by omega) (by omega) HX.out (by have := HY.out; omega) hown2 hgrow2
      · obtain rfl : cv = 0 := by omega
        go_wp2
        go_ret
        exact add_done hI HX.out (by have := HY.out; omega)
set_option maxRecDepth 100000 in
set_option maxHeartbeats 1000000 in
/-- The first one is the shorter. -/
theorem addAbs_lt (ao bo : Option Addr) (n m ca cb : Nat) (xs ys : List Int) (w : World) (hx : xs.length = n) (hy : ys.length = m) (dx : Dig xs) (dy : Dig ys) (rx : Rd w ao xs) (ry : Rd w bo ys) (hm : n ≤ 1000000) (hnm : m < n) :
    Calls Try.prog 159 #[.slice bo m cb, .slice ao n ca] w (DigleP (n + 1) (val xs + val ys) w) := by
  obtain ⟨i0, hi, hz0, hz1, hz2⟩ := info_parts Try.info88
  have HX : Hid (xs.length = n) := hx
  have HY : Hid (ys.length = m) := hy
  have HDX : Hid (Dig xs) := dx
  have HDY : Hid (Dig ys) := dy
  have HRX : Hid (Rd w ao xs) := rx
  have HRY : Hid (Rd w bo ys) := ry
  clear rx ry dx dy hx hy
  go_enter Try.func159, Try.ntmps159
  go_wp2_with (at_make; refine wpList_make_own _ rfl _ _ 87 rfl w.heap.size 177 i0 (.int .u32 0) 1 Try.underlying87 hi hz0 hz1 _ _ _ (n + 1) rfl rfl (by omega) (by rw [hz2]; omega) (by unfold maxLen; omega) (Nat.le_refl _) ?_)
  intro w1 hown hgrow
  have HS : AddI w w1 xs ys 0 (n + 1) 0 [] := ⟨rfl, dig_nil, by simp [val], hown, (Below.refl _ _).grown hgrow (Nat.le_refl _) (by simp)⟩
  clear hown hgrow
  go_wp2
  go_loopw [5, 6, 7] (fun o c i wr => ∃ (k : Nat) (cv : Int) (zs : List Int), k ≤ n ∧ i = .int .i64 k ∧ 0 ≤ cv ∧ cv ≤ 1 ∧ c = .int .u64 cv ∧ o = .slice (some ⟨w.heap.size, 0, none⟩) k (n + 1) ∧ AddI w wr xs ys k (n + 1) cv zs) (fun _ _ i _ => n - (intOf i).toNat)
  case atStart => exact ⟨0, 0, [], Nat.zero_le _, rfl, by decide, by decide, rfl, rfl, HS⟩
  case round =>
    obtain ⟨k, cv, zs, hk, rfl, hc0, hc1, rfl, rfl, hI⟩ := hrel
    clear HS
    by_cases hkn : k < n
    · have hkx : k < xs.length := by have := HX.out; omega
      obtain ⟨b, off, rfl, hbl, hcx0⟩ := HRX.out k hkx
      have hcx := (hI.below.cell (p := ⟨b, off + k, none⟩) hbl).trans hcx0
      clear hcx0
      obtain ⟨hx0, hx1⟩ := dig_at HDX.out k hkx
      by_cases hkm : k < m
      · have hky : k < ys.length := by have := HY.out; omega
        obtain ⟨b', off', rfl, hbl', hcy0⟩ := HRY.out k hky
        have hcy := (hI.below.cell (p := ⟨b', off' + k, none⟩) hbl').trans hcy0
        clear hcy0
        obtain ⟨hy0, hy1⟩ := dig_at HDY.out k hky
        go_wp2_with (at_builtin; refine wpList_append_fits _ rfl _ _ 87 rfl w.heap.size 177 i0 1 Try.underlying87 hi hz1 w.heap.size k (n + 1) _ rfl (hI.own.alloc _) ⟨wr.heap.size, 0, none⟩ 1 1 [.int .u32 ((cv + xs[k] + ys[k]) % 4294967296)] rfl rfl (cell_one_new _ _ _) (one_cell _ _) (by omega) ?_)
        intro w2 hown2 hgrow2
        go_wp2
        go_roundw
        case rel => exact ⟨k + 1, (cv + xs[k] + ys[k]) / 4294967296, _, by omega, by go_num, by omega, by omega, rfl, rfl, add_step hI _ (by simp [List.getD, hkx, hky]) hown2 hgrow2⟩
        case measure => simp [intOf]; omega
      · have hky : ¬ k < ys.length := by have := HY.out; omega
        go_wp2_with (at_builtin; refine wpList_append_fits _ rfl _ _ 87 rfl w.heap.size 177 i0 1 Try.underlying87 hi hz1 w.heap.size k (n + 1) _ rfl (hI.own.alloc _) ⟨wr.heap.size, 0, none⟩ 1 1 [.int .u32 ((cv + xs[k]) % 4294967296)] rfl rfl (cell_one_new _ _ _) (one_cell _ _) (by omega) ?_)
        intro w2 hown2 hgrow2
        go_wp2
        go_roundw
        case rel => exact ⟨k + 1, (cv + xs[k]) / 4294967296, _, by omega, by go_num, by omega, by omega, rfl, rfl, add_step hI _ (by simp [List.getD, hkx, hky]) hown2 hgrow2⟩
        case measure => simp [intOf]; omega
    · obtain rfl : k = n := by omega
      by_cases hcp : 0 < cv
      · obtain rfl : cv = 1 := by omega
        go_wp2_with (at_builtin; refine wpList_append_fits _ rfl _ _ 87 rfl w.heap.size 177 i0 1 Try.underlying87 hi hz1 w.heap.size k (k + 1) _ rfl (hI.own.alloc _) ⟨wr.heap.size, 0, none⟩ 1 1 [.int .u32 1] rfl rfl (cell_one_new _ _ _) (one_cell _ _) (by omega) ?_)
        intro w2 hown2 hgrow2
        go_wp2
        go_ret
        exact add_done1 hI (by omega) (by omega) HX.out (by have := HY.out; omega) hown2 hgrow2
      · obtain rfl : cv = 0 := by omega
        go_wp2
        go_ret
        exact add_done hI HX.out (by have := HY.out; omega)
theorem addAbs_any (ao bo : Option Addr) (n m ca cb k : Nat) (xs ys : List Int) (w : World) (hx : xs.length = n) (hy : ys.length = m) (dx : Dig xs) (dy : Dig ys) (rx : Rd w ao xs) (ry : Rd w bo ys) (h1 : n ≤ k) (h2 : m ≤ k) (hk : k ≤ 1000000) :
    Calls Try.prog 159 #[.slice ao n ca, .slice bo m cb] w (DigleP (k + 1) (val xs + val ys) w) := by
  by_cases hnm : m ≤ n
  · refine (addAbs_ge ao bo n m ca cb xs ys w hx hy dx dy rx ry (by omega) hnm).mono ?_
    rintro e w' ⟨a, l, c, zs, he, g1, g2, g3, g⟩
    exact ⟨a, l, c, zs, he, g1, g2, by omega, g⟩
  · refine (addAbs_lt bo ao m n cb ca ys xs w hy hx dy dx ry rx (by omega) (by omega)).mono ?_
    rintro e w' ⟨a, l, c, zs, he, g1, g2, g3, g4, g5, g6, g7⟩
    exact ⟨a, l, c, zs, he, g1, g2, by omega, g4, by rw [g5, Int.add_comm], g6, g7⟩
end Go.Proofs.Ytmjlgmoohpnhfaa

/- The walks of negation, sum, difference and comparison of numbers. -/
namespace Go.Proofs.Ytmjlgmoohpnhfaa
open Go.RowKit
/-- What is kept of two boxed numbers and of the result's cell. -/
structure Two (w W : World) (A0 A1 B0 B1 : Value) : Prop where
  a0 : W.cell? ⟨w.heap.size, 0, none⟩ = some A0
  a1 : W.cell? ⟨w.heap.size, 1, none⟩ = some A1
  b0 : W.cell? ⟨w.heap.size + 1, 0, none⟩ = some B0
  b1 : W.cell? ⟨w.heap.size + 1, 1, none⟩ = some B1
  r0 : W.cell? ⟨w.heap.size + 1 + 1, 0, none⟩ = some (.bool false)
  r1 : W.cell? ⟨w.heap.size + 1 + 1, 1, none⟩ = some (.slice none 0 0)
  f0 : W.frozen? ⟨w.heap.size + 1 + 1, 0, none⟩ = false
  f1 : W.frozen? ⟨w.heap.size + 1 + 1, 1, none⟩ = false
  sz : w.heap.size + 1 + 1 < W.heap.size
  below : Below w.heap.size w W
theorem two_start (w : World) (A0 A1 B0 B1 : Value) : Two w (((w.alloc (Obj.cells #[A0, A1] 89)).alloc (Obj.cells #[B0, B1] 89)).alloc (Obj.cells #[Value.bool false, Value.slice none 0 0] 89)) A0 A1 B0 B1 :=
  ⟨by simp [go_sem], by simp [go_sem], by simp [go_sem], by simp [go_sem], by simp [go_sem], by simp [go_sem], by simp [go_sem], by simp [go_sem], by simp, (((Below.refl _ _).alloc (Nat.le_refl _) _).alloc (by simp) _).alloc (by simp; omega) _⟩
theorem Two.step {w W W' : World} {A0 A1 B0 B1 : Value} (h : Two w W A0 A1 B0 B1) (hb : Below W.heap.size W W') : Two w W' A0 A1 B0 B1 := by
  have hs := h.sz
  have hc := fun b o (hl : b < W.heap.size) => hb.cell (p := ⟨b, o, none⟩) hl
  have hf := fun b o (hl : b < W.heap.size) => hb.frozen (p := ⟨b, o, none⟩) hl
  exact ⟨(hc _ _ (by omega)).trans h.a0, (hc _ _ (by omega)).trans h.a1, (hc _ _ (by omega)).trans h.b0, (hc _ _ (by omega)).trans h.b1, (hc _ _ hs).trans h.r0, (hc _ _ hs).trans h.r1, (hf _ _ hs).trans h.f0, (hf _ _ hs).trans h.f1,
    Nat.lt_of_lt_of_le hs hb.size, h.below.trans (hb.mono h.below.size)⟩
theorem Two.drew {w W : World} {A0 A1 B0 B1 : Value} (h : Two w W A0 A1 B0 B1) : Two w W.drew A0 A1 B0 B1 := ⟨h.a0, h.a1, h.b0, h.b1, h.r0, h.r1, h.f0, h.f1, h.sz, h.below.drew⟩
theorem two_keep {w W : World} {u v : Value} (a o : Nat) {c : Value} (ha : a ≠ w.heap.size + 1 + 1) (hc : W.cell? ⟨a, o, none⟩ = some c) :
    ((W.setCell ⟨w.heap.size + 1 + 1, 0, none⟩ u).setCell ⟨w.heap.size + 1 + 1, 1, none⟩ v).cell? ⟨a, o, none⟩ = some c := by
  have hn : ∀ j, (⟨w.heap.size + 1 + 1, j, none⟩ : Addr) ≠ ⟨a, o, none⟩ := by intro j e; simp only [Addr.mk.injEq] at e; exact ha e.1.symm
  rw [World.cell?_setCell_other _ _ _ _ (hn 1), World.cell?_setCell_other _ _ _ _ (hn 0)]
  exact hc
theorem abs_add {x y : Int} (h : decide (x < 0) = decide (y < 0)) : ((x.natAbs : Int) + y.natAbs) = ((x + y).natAbs : Int) := by
  have : (x < 0) ↔ (y < 0) := by simpa using h
  omega
theorem sign_add {x y : Int} {s : Bool} (h1 : s = decide (x < 0)) (h : decide (x < 0) = decide (y < 0)) : x + y ≠ 0 → s = decide (x + y < 0) := by
  intro hz
  rw [h1]
  have : (x < 0) ↔ (y < 0) := by simpa using h
  rw [decide_eq_decide]; omega
theorem abs_sub {x y : Int} {s t : Bool} (hs : s = decide (x < 0)) (ht : t = decide (y < 0)) (hne : s ≠ t) (h : (y.natAbs : Int) ≤ x.natAbs) : ((x.natAbs : Int) - y.natAbs) = ((x + y).natAbs : Int) ∧ (x + y ≠ 0 → s = decide (x + y < 0)) := by
  have : ¬ ((x < 0) ↔ (y < 0)) := by intro h'; apply hne; rw [hs, ht, decide_eq_decide]; exact h'
  constructor
  · omega
  · intro hz; rw [hs, decide_eq_decide]; omega
theorem num_ret' {w w3 : World} {s : Bool} {ao : Option Addr} {n cap : Nat} {ds : List Int} {z : Int} {k R : Nat} {b0 : Bool} {a0 : Option Addr} {n0 c0 : Nat} (hR : w.heap.size ≤ R) (h0 : w3.cell? ⟨R, 0, none⟩ = some (.bool b0)) (h1 : w3.cell? ⟨R, 1, none⟩ = some (.slice a0 n0 c0))
    (h : IsNum w3 s ao n cap ds z k) (hb : Below w.heap.size w w3) {w4 : World} (hw : w4 = ((w3.setCell ⟨R, 0, none⟩ (.bool s)).setCell ⟨R, 1, none⟩ (.slice ao n cap)).drew ∨ w4 = (w3.setCell ⟨R, 0, none⟩ (.bool s)).setCell ⟨R, 1, none⟩ (.slice ao n cap) := by first | exact Or.inl rfl | exact Or.inr rfl) :
    NumP k z w (.returned (.agg #[.bool s, .slice ao n cap])) w4 := by
  obtain ⟨s', ao', n', cap', ds', e, hN, hB⟩ := num_ret hR h0 h1 h hb
  rcases hw with rfl | rfl
  · exact ⟨s', ao', n', cap', ds', e, ⟨hN.neg, hN.len, hN.cap, hN.rd, hN.nrm, hN.val, hN.le⟩, hB.drew⟩
  · exact ⟨s', ao', n', cap', ds', e, hN, hB⟩
def Nn (z : Int) : Prop := 0 ≤ z
def Ng (z : Int) : Prop := z < 0
set_option maxRecDepth 100000 in
set_option maxHeartbeats 1000000 in
theorem add_same (s : Bool) (ao bo : Option Addr) (n m ca cb k : Nat) (xs ys : List Int) (x y : Int) (w : World) (hx : IsNum w s ao n ca xs x k) (hy : IsNum w s bo m cb ys y k) (hk : k ≤ 1000000) :
    Calls Try.prog 118 #[.agg #[.bool s, .slice ao n ca], .agg #[.bool s, .slice bo m cb]] w (NumP (k + 1) (x + y) w) := by
  have hss : (s == s) = true := by simp
  have hsg : decide (x < 0) = decide (y < 0) := hx.neg.symm.trans hy.neg
  have HV : Hid (val xs + val ys = ((x + y).natAbs : Int) ∧ (x + y ≠ 0 → s = decide (x + y < 0))) := ⟨by rw [hx.val, hy.val]; exact abs_add hsg, sign_add hx.neg hsg⟩
  have HX : Hid (xs.length = n) := hx.len
  have HY : Hid (ys.length = m) := hy.len
  have hnk := hx.le
  have hmk := hy.le
  have dx := hx.nrm.1
  have dy := hy.nrm.1
  have T0 := two_start w (.bool s) (.slice ao n ca) (.bool s) (.slice bo m cb)
  have rx := hx.rd.below T0.below (Nat.le_refl _)
  have ry := hy.rd.below T0.below (Nat.le_refl _)
  clear hsg hx hy
  go_enter Try.func118, Try.ntmps118
  go_wp2
  generalize ((w.alloc (Obj.cells #[Value.bool s, Value.slice ao n ca] 89)).alloc (Obj.cells #[Value.bool s, Value.slice bo m cb] 89)).alloc (Obj.cells #[Value.bool false, Value.slice none 0 0] 89) = W at *
  go_region_held3 (fun w' => w'.cell? ⟨w.heap.size, 0, none⟩ = some (.bool s) ∧ w'.cell? ⟨w.heap.size, 1, none⟩ = some (.slice ao n ca) ∧ w'.cell? ⟨w.heap.size + 1, 1, none⟩ = some (.slice bo m cb)) (first | exact ⟨two_keep _ _ (by omega) T2.a0, two_keep _ _ (by omega) T2.a1, two_keep _ _ (by omega) T2.b1⟩ | exact ⟨T2.a0, T2.a1, T2.b1⟩ | exact ⟨T1.a0, T1.a1, T1.b1⟩ | exact ⟨T0.a0, T0.a1, T0.b1⟩)
    (first
      | (go_at_call 159; refine (addAbs_any ao bo n m ca cb k xs ys _ HX.out HY.out dx dy (by exact rx) (by exact ry) hnk hmk hk).mono ?_; rintro e w1 ⟨ao1, n1, c1, zs, rfl, p1, p2, p3, p4, p5, p6, p7⟩; have T1 := T0.drew.step p7; clear p7)
      | (go_at_call 136; refine (trim_any s _ _ _ zs _ p1 p2 p4 p6 (by omega)).mono ?_; rintro e w2 ⟨neg', ao', n', cap', ds', rfl, k1, k2, k3, k4, k5, k6, k7, k8⟩; have T2 := T1.step k8; have HN := num_of (z := x + y) (k := k + 1) k1 k2 (by omega) k4 (k5.trans p5) (k6.trans (by rw [p5])) k7 HV.out.1 HV.out.2; have c0 := T2.r0; have c1 := T2.r1; have f0 := T2.f0; have f1 := T2.f1; clear k1 k2 k3 k4 k5 k6 k7 k8))
  all_goals go_wp2
  all_goals refine bodyPost_ret (v := .agg #[.bool neg', .slice ao' n' cap']) (by simp [results, Try.results118, go_sem, c0, c1]) rfl ?_
  all_goals exact num_ret' (by omega) c0 c1 HN T2.below
set_option maxRecDepth 100000 in
set_option maxHeartbeats 1000000 in
theorem add_ge (s t : Bool) (hst : s ≠ t) (ao bo : Option Addr) (n m ca cb k : Nat) (xs ys : List Int) (x y : Int) (w : World) (hx : IsNum w s ao n ca xs x k) (hy : IsNum w t bo m cb ys y k) (hk : k ≤ 1000000) (hle : val ys ≤ val xs) :
    Calls Try.prog 118 #[.agg #[.bool s, .slice ao n ca], .agg #[.bool t, .slice bo m cb]] w (NumP (k + 1) (x + y) w) := by
  have hss : (s == t) = false := by simpa using hst
  have HV : Hid (val xs - val ys = ((x + y).natAbs : Int) ∧ (x + y ≠ 0 → s = decide (x + y < 0))) := by have := hle; rw [hx.val, hy.val] at this ⊢; exact abs_sub hx.neg hy.neg hst this
  have HX : Hid (xs.length = n) := hx.len
  have HY : Hid (ys.length = m) := hy.len
  have hnk := hx.le
  have hmk := hy.le
  have NX := hx.nrm
  have NY := hy.nrm
  have HLE : Hid (val ys ≤ val xs) := hle
  have T0 := two_start w (.bool s) (.slice ao n ca) (.bool t) (.slice bo m cb)
  have rx := hx.rd.below T0.below (Nat.le_refl _)
  have ry := hy.rd.below T0.below (Nat.le_refl _)
  have hcc : Nn (cmpI (val xs) (val ys)) := by show 0 ≤ _; unfold cmpI; split <;> (try split) <;> omega
  clear hx hy hst hle
  go_enter Try.func118, Try.ntmps118
  go_wp2_with fail
  generalize ((w.alloc (Obj.cells #[Value.bool s, Value.slice ao n ca] 89)).alloc (Obj.cells #[Value.bool t, Value.slice bo m cb] 89)).alloc (Obj.cells #[Value.bool false, Value.slice none 0 0] 89) = W0 at *
  refine (cmpAbs_any ao bo n m ca cb xs ys _ HX.out HY.out NX NY rx ry (by omega) (by omega)).mono ?_
  rintro e W ⟨rfl, hB⟩
  have T := T0.step hB
  have rx := rx.below hB (Nat.le_refl _)
  have ry := ry.below hB (Nat.le_refl _)
  generalize cmpI (val xs) (val ys) = cc at *
  have hcc : 0 ≤ cc := hcc
  clear T0 hB
  have T0 := T
  clear T
  go_wp2
  go_region_held3 (fun w' => w'.cell? ⟨w.heap.size, 0, none⟩ = some (.bool s) ∧ w'.cell? ⟨w.heap.size, 1, none⟩ = some (.slice ao n ca) ∧ w'.cell? ⟨w.heap.size + 1, 1, none⟩ = some (.slice bo m cb)) (first | exact ⟨two_keep _ _ (by omega) T2.a0, two_keep _ _ (by omega) T2.a1, two_keep _ _ (by omega) T2.b1⟩ | exact ⟨T2.a0, T2.a1, T2.b1⟩ | exact ⟨T1.a0, T1.a1, T1.b1⟩ | exact ⟨T0.a0, T0.a1, T0.b1⟩)
    (first
      | (go_at_call 137; refine (subAbs_any ao bo n m ca cb xs ys _ HX.out HY.out NX.1 NY.1 (by exact rx) (by exact ry) (by omega) (by omega) HLE.out).mono ?_; rintro e w1 ⟨ao1, c1, zs, rfl, p1, p2, p4, p5, p6, p7⟩; have T1 := T0.drew.step p7; clear p7)
      | (go_at_call 136; refine (trim_any s _ _ _ zs _ p1 p2 p4 p6 (by omega)).mono ?_; rintro e w2 ⟨neg', ao', n', cap', ds', rfl, k1, k2, k3, k4, k5, k6, k7, k8⟩; have T2 := T1.step k8; have HN := num_of (z := x + y) (k := k + 1) k1 k2 (by omega) k4 (k5.trans p5) (k6.trans (by rw [p5])) k7 HV.out.1 HV.out.2; have c0 := T2.r0; have c1 := T2.r1; have f0 := T2.f0; have f1 := T2.f1; clear k1 k2 k3 k4 k5 k6 k7 k8))
  all_goals go_wp2
  all_goals refine bodyPost_ret (v := .agg #[.bool neg', .slice ao' n' cap']) (by simp [results, Try.results118, go_sem, c0, c1]) rfl ?_
  all_goals exact num_ret' (by omega) c0 c1 HN T2.below
set_option maxRecDepth 100000 in
set_option maxHeartbeats 1000000 in
theorem add_lt (s t : Bool) (hst : s ≠ t) (ao bo : Option Addr) (n m ca cb k : Nat) (xs ys : List Int) (x y : Int) (w : World) (hx : IsNum w s ao n ca xs x k) (hy : IsNum w t bo m cb ys y k) (hk : k ≤ 1000000) (hle : val xs < val ys) :
    Calls Try.prog 118 #[.agg #[.bool s, .slice ao n ca], .agg #[.bool t, .slice bo m cb]] w (NumP (k + 1) (x + y) w) := by
  have hss : (s == t) = false := by simpa using hst
  have HV : Hid (val ys - val xs = ((x + y).natAbs : Int) ∧ (x + y ≠ 0 → t = decide (x + y < 0))) := by have := hle; rw [hx.val, hy.val] at this ⊢; have h := abs_sub hy.neg hx.neg (fun e => hst e.symm) (by omega); rw [Int.add_comm y x] at h; exact h
  have HX : Hid (xs.length = n) := hx.len
  have HY : Hid (ys.length = m) := hy.len
  have hnk := hx.le
  have hmk := hy.le
  have NX := hx.nrm
  have NY := hy.nrm
  have HLE : Hid (val xs < val ys) := hle
  have T0 := two_start w (.bool s) (.slice ao n ca) (.bool t) (.slice bo m cb)
  have rx := hx.rd.below T0.below (Nat.le_refl _)
  have ry := hy.rd.below T0.below (Nat.le_refl _)
  have hcc : Ng (cmpI (val xs) (val ys)) := by show _ < 0; rw [cmpI_lt hle]; decide
  clear hx hy hst hle
  go_enter Try.func118, Try.ntmps118
  go_wp2_with fail
  generalize ((w.alloc (Obj.cells #[Value.bool s, Value.slice ao n ca] 89)).alloc (Obj.cells #[Value.bool t, Value.slice bo m cb] 89)).alloc (Obj.cells #[Value.bool false, Value.slice none 0 0] 89) = W0 at *
  refine (cmpAbs_any ao bo n m ca cb xs ys _ HX.out HY.out NX NY rx ry (by omega) (by omega)).mono ?_
  rintro e W ⟨rfl, hB⟩
  have T := T0.step hB
  have rx := rx.below hB (Nat.le_refl _)
  have ry := ry.below hB (Nat.le_refl _)
  generalize cmpI (val xs) (val ys) = cc at *
  have hcc : ¬ 0 ≤ cc := by have : cc < 0 := hcc; omega
  clear T0 hB
  have T0 := T
  clear T
  go_wp2
  go_region_held3 (fun w' => w'.cell? ⟨w.heap.size + 1, 0, none⟩ = some (.bool t) ∧ w'.cell? ⟨w.heap.size + 1, 1, none⟩ = some (.slice bo m cb) ∧ w'.cell? ⟨w.heap.size, 1, none⟩ = some (.slice ao n ca)) (first | exact ⟨two_keep _ _ (by omega) T2.b0, two_keep _ _ (by omega) T2.b1, two_keep _ _ (by omega) T2.a1⟩ | exact ⟨T2.b0, T2.b1, T2.a1⟩ | exact ⟨T1.b0, T1.b1, T1.a1⟩ | exact ⟨T0.b0, T0.b1, T0.a1⟩)
    (first
      | (go_at_call 137; refine (subAbs_any bo ao m n cb ca ys xs _ HY.out HX.out NY.1 NX.1 (by exact ry) (by exact rx) (by omega) (by omega) (Int.le_of_lt HLE.out)).mono ?_; rintro e w1 ⟨ao1, c1, zs, rfl, p1, p2, p4, p5, p6, p7⟩; have T1 := T0.drew.step p7; clear p7)
      | (go_at_call 136; refine (trim_any t _ _ _ zs _ p1 p2 p4 p6 (by omega)).mono ?_; rintro e w2 ⟨neg', ao', n', cap', ds', rfl, k1, k2, k3, k4, k5, k6, k7, k8⟩; have T2 := T1.step k8; have HN := num_of (z := x + y) (k := k + 1) k1 k2 (by omega) k4 (k5.trans p5) (k6.trans (by rw [p5])) k7 HV.out.1 HV.out.2; have c0 := T2.r0; have c1 := T2.r1; have f0 := T2.f0; have f1 := T2.f1; clear k1 k2 k3 k4 k5 k6 k7 k8))
  all_goals go_wp2
  all_goals refine bodyPost_ret (v := .agg #[.bool neg', .slice ao' n' cap']) (by simp [results, Try.results118, go_sem, c0, c1]) rfl ?_
  all_goals exact num_ret' (by omega) c0 c1 HN T2.below
theorem add_any (s t : Bool) (ao bo : Option Addr) (n m ca cb k : Nat) (xs ys : List Int) (x y : Int) (w : World) (hx : IsNum w s ao n ca xs x k) (hy : IsNum w t bo m cb ys y k) (hk : k ≤ 1000000) :
    Calls Try.prog 118 #[.agg #[.bool s, .slice ao n ca], .agg #[.bool t, .slice bo m cb]] w (NumP (k + 1) (x + y) w) := by
  by_cases hst : s = t
  · subst hst
    exact add_same s ao bo n m ca cb k xs ys x y w hx hy hk
  · by_cases hle : val ys ≤ val xs
    · exact add_ge s t hst ao bo n m ca cb k xs ys x y w hx hy hk hle
    · exact add_lt s t hst ao bo n m ca cb k xs ys x y w hx hy hk (by omega)
end Go.Proofs.Ytmjlgmoohpnhfaa

/- The walks of negation, difference and comparison of numbers. -/
namespace Go.Proofs.Ytmjlgmoohpnhfaa
open Go.RowKit
theorem IsNum.drew {w : World} {s : Bool} {ao : Option Addr} {n cap : Nat} {ds : List Int} {z : Int} {k : Nat} (h : IsNum w s ao n cap ds z k) : IsNum w.drew s ao n cap ds z k := ⟨h.neg, h.len, h.cap, h.rd, h.nrm, h.val, h.le⟩
theorem IsNum.negated {w : World} {s : Bool} {ao : Option Addr} {n cap : Nat} {ds : List Int} {z : Int} {k : Nat} (h : IsNum w s ao n cap ds z k) (hz : z ≠ 0) : IsNum w (!s) ao n cap ds (-z) k :=
  ⟨by rw [h.neg]; by_cases h' : z < 0 <;> simp [h'] <;> omega, h.len, h.cap, h.rd, h.nrm, by rw [h.val]; omega, h.le⟩
set_option maxRecDepth 100000 in
set_option maxHeartbeats 400000 in
theorem neg_any (s : Bool) (ao : Option Addr) (n cap : Nat) (ds : List Int) (z : Int) (k : Nat) (w : World) (h : IsNum w s ao n cap ds z k) :
    Calls Try.prog 146 #[.agg #[.bool s, .slice ao n cap]] w (NumP k (-z) w) := by
  have h1 := h.zero
  have hB : ∀ o o', Below w.heap.size w ((w.alloc o).alloc o') := fun o o' => ((Below.refl _ _).alloc (Nat.le_refl _) o).alloc (by simp) o'
  by_cases hz : z = 0
  · subst hz
    have hn := h1.2 rfl
    subst hn
    have HH : Hid (IsNum w s ao 0 cap ds 0 k) := h
    clear h1 h
    go_enter Try.func146, Try.ntmps146
    go_wp2
    refine bodyPost_ret (v := .agg #[.bool s, .slice ao 0 cap]) (by simp [results, Try.results146, go_sem]) rfl ?_
    exact ⟨s, ao, 0, cap, ds, rfl, by simpa using HH.out.below (hB _ _), hB _ _⟩
  · have hn : ((n : Int) == 0) = false := beq_eq_false_iff_ne.2 (by have := fun h => hz (h1.1 h); omega)
    have HH : Hid (IsNum w (!s) ao n cap ds (-z) k) := h.negated hz
    clear h1 h
    go_enter Try.func146, Try.ntmps146
    go_wp2
    refine bodyPost_ret (v := .agg #[.bool (!s), .slice ao n cap]) (by simp [results, Try.results146, go_sem]) rfl ?_
    exact ⟨!s, ao, n, cap, ds, rfl, HH.out.below (hB _ _), hB _ _⟩
set_option maxRecDepth 100000 in
set_option maxHeartbeats 1000000 in
theorem sub_any (s t : Bool) (ao bo : Option Addr) (n m ca cb k : Nat) (xs ys : List Int) (x y : Int) (w : World) (hx : IsNum w s ao n ca xs x k) (hy : IsNum w t bo m cb ys y k) (hk : k ≤ 1000000) :
    Calls Try.prog 134 #[.agg #[.bool s, .slice ao n ca], .agg #[.bool t, .slice bo m cb]] w (NumP (k + 1) (x - y) w) := by
  have T0 := two_start w (.bool s) (.slice ao n ca) (.bool t) (.slice bo m cb)
  have nx := (hx.below T0.below).drew
  have ny := (hy.below T0.below).drew
  clear hx hy
  go_enter Try.func134, Try.ntmps134
  go_wp2
  generalize ((w.alloc (Obj.cells #[Value.bool s, Value.slice ao n ca] 89)).alloc (Obj.cells #[Value.bool t, Value.slice bo m cb] 89)).alloc (Obj.cells #[Value.bool false, Value.slice none 0 0] 89) = W at *
  go_region_held3 (fun w' => w'.cell? ⟨w.heap.size, 0, none⟩ = some (.bool s) ∧ w'.cell? ⟨w.heap.size, 1, none⟩ = some (.slice ao n ca) ∧ w'.cell? ⟨w.heap.size + 1, 0, none⟩ = some (.bool t) ∧ w'.cell? ⟨w.heap.size + 1, 1, none⟩ = some (.slice bo m cb))
    (first | exact ⟨two_keep _ _ (by omega) T2.a0, two_keep _ _ (by omega) T2.a1, two_keep _ _ (by omega) T2.b0, two_keep _ _ (by omega) T2.b1⟩ | exact ⟨T2.a0, T2.a1, T2.b0, T2.b1⟩ | exact ⟨T1.a0, T1.a1, T1.b0, T1.b1⟩ | exact ⟨T0.a0, T0.a1, T0.b0, T0.b1⟩)
    (first
      | (go_at_call 146; refine (neg_any t bo m cb ys y k _ ny).mono ?_; rintro e w1 ⟨s1, ao1, n1, c1, ds1, rfl, hN1, hB1⟩; have T1 := T0.drew.step hB1; have nx1 := nx.below hB1; clear hB1)
      | (go_at_call 118; refine (add_any s s1 ao ao1 n n1 ca c1 k xs ds1 x (-y) _ nx1 hN1 hk).mono ?_; rintro e w2 ⟨s2, ao2, n2, c2, ds2, rfl, hN2, hB2⟩; have T2 := T1.step hB2; have c0 := T2.r0; have c1 := T2.r1; have f0 := T2.f0; have f1 := T2.f1; clear hB2))
  all_goals go_wp2
  all_goals refine bodyPost_ret (v := .agg #[.bool s2, .slice ao2 n2 c2]) (by simp [results, Try.results134, go_sem, c0, c1]) rfl ?_
  all_goals exact num_ret' (by omega) c0 c1 hN2 T2.below
set_option maxRecDepth 100000 in
set_option maxHeartbeats 400000 in
theorem cmp_any (s t : Bool) (ao bo : Option Addr) (n m ca cb k : Nat) (xs ys : List Int) (x y : Int) (w : World) (hx : IsNum w s ao n ca xs x k) (hy : IsNum w t bo m cb ys y k) (hk : k ≤ 1000000) :
    Calls Try.prog 91 #[.agg #[.bool s, .slice ao n ca], .agg #[.bool t, .slice bo m cb]] w (IntP (cmpI x y) w) := by
  have hB : ∀ o o', Below w.heap.size w ((w.alloc o).alloc o') := fun o o' => ((Below.refl _ _).alloc (Nat.le_refl _) o).alloc (by simp) o'
  go_enter Try.func91, Try.ntmps91
  go_wp2_with fail
  refine (sub_any s t ao bo n m ca cb k xs ys x y _ (hx.below (hB _ _)) (hy.below (hB _ _)) hk).mono ?_
  rintro e w1 ⟨s1, ao1, n1, c1, ds1, rfl, hN1, hB1⟩
  have hB2 := (hB _ _).trans (hB1.mono (by simp; omega))
  clear hB1
  go_wp2_with fail
  refine (sign_any s1 ao1 n1 c1 ds1 _ _ _ hN1).mono ?_
  rintro e w2 ⟨rfl, hB3⟩
  have hB4 := hB2.trans (hB3.mono hB2.size)
  clear hB2 hB3 hN1
  go_wp2
  go_ret
  exact ⟨ret_int (by unfold cmpI; by_cases h1 : x < y <;> by_cases h2 : y < x <;> simp [h1, h2] <;> omega), hB4⟩
end Go.Proofs.Ytmjlgmoohpnhfaa

/- The walk of four words made from a number that is not below 0. -/
namespace Go.Proofs.Ytmjlgmoohpnhfaa
open Go.RowKit
end Go.Proofs.Ytmjlgmoohpnhfaa

/- The walk of four words made from a number below 0. -/
namespace Go.Proofs.Ytmjlgmoohpnhfaa
open Go.RowKit
end Go.Proofs.Ytmjlgmoohpnhfaa

/- The walks of a number of four words made from an integer, by the model and by the program, and of the law over both. -/
namespace Go.Proofs.Ytmjlgmoohpnhfaa
open Go.RowKit
/-- Four words that stand for z. -/
def SwP (z : Int) (w : World) (e : Ending) (w' : World) : Prop :=
  ∃ a3 a2 a1 a0, e = .returned (.agg #[.int .u64 a3, .int .u64 a2, .int .u64 a1, .int .u64 a0]) ∧ Word a3 ∧ Word a2 ∧ Word a1 ∧ Word a0 ∧ sw a3 a2 a1 a0 = z ∧ Below w.heap.size w w'
set_option maxRecDepth 100000 in
set_option maxHeartbeats 1000000 in
theorem implOf_any (n : Int) (w : World) (h0 : -9223372036854775808 ≤ n) (h1 : n ≤ 9223372036854775807) :
    Calls Try.prog 152 #[.int .i64 n] w (SwP n w) := by
  by_cases hn : n < 0
  · have hd1 : IntKind.u64.wrap (n / 9223372036854775808) = 18446744073709551615 := by rw [IntKind.wrap_u64]; omega
    have hd2 : IntKind.u64.wrap n = n + 18446744073709551616 := by rw [IntKind.wrap_u64]; omega
    go_enter Try.func152, Try.ntmps152
    go_wp2
    refine bodyPost_ret (v := .agg #[.int .u64 18446744073709551615, .int .u64 18446744073709551615, .int .u64 18446744073709551615, .int .u64 (n + 18446744073709551616)]) (by simp [results, Try.results152, go_sem]) rfl ?_
    refine ⟨_, _, _, _, rfl, ⟨by decide, by decide⟩, ⟨by decide, by decide⟩, ⟨by decide, by decide⟩, ⟨by omega, by omega⟩, ?_, (Below.refl _ _).alloc (Nat.le_refl _) _⟩
    unfold sw uw; rw [if_neg (by decide)]; omega
  · have hd1 : n / 9223372036854775808 = 0 := by omega
    go_enter Try.func152, Try.ntmps152
    go_wp2
    refine bodyPost_ret (v := .agg #[.int .u64 0, .int .u64 0, .int .u64 0, .int .u64 n]) (by simp [results, Try.results152, go_sem]) rfl ?_
    refine ⟨_, _, _, _, rfl, ⟨by decide, by decide⟩, ⟨by decide, by decide⟩, ⟨by decide, by decide⟩, ⟨by omega, by omega⟩, ?_, (Below.refl _ _).alloc (Nat.le_refl _) _⟩
    unfold sw uw; rw [if_pos (by decide)]; omega
end Go.Proofs.Ytmjlgmoohpnhfaa

/- Four words in a block of memory, and what is kept of them. -/
namespace Go.Proofs.Ytmjlgmoohpnhfaa
open Go.RowKit
/-- Four words lie in the block g. -/
structure Wd (W : World) (g : Nat) (a3 a2 a1 a0 : Int) : Prop where
  c0 : W.cell? ⟨g, 0, none⟩ = some (.int .u64 a3)
  c1 : W.cell? ⟨g, 1, none⟩ = some (.int .u64 a2)
  c2 : W.cell? ⟨g, 2, none⟩ = some (.int .u64 a1)
  c3 : W.cell? ⟨g, 3, none⟩ = some (.int .u64 a0)
  f0 : W.frozen? ⟨g, 0, none⟩ = false
  f1 : W.frozen? ⟨g, 1, none⟩ = false
  f2 : W.frozen? ⟨g, 2, none⟩ = false
  f3 : W.frozen? ⟨g, 3, none⟩ = false
  lt : g < W.heap.size
theorem Wd.step {W W' : World} {g : Nat} {a3 a2 a1 a0 : Int} (h : Wd W g a3 a2 a1 a0) (hb : Below W.heap.size W W') : Wd W' g a3 a2 a1 a0 := by
  have hc := fun o => hb.cell (p := ⟨g, o, none⟩) h.lt
  have hf := fun o => hb.frozen (p := ⟨g, o, none⟩) h.lt
  exact ⟨(hc _).trans h.c0, (hc _).trans h.c1, (hc _).trans h.c2, (hc _).trans h.c3, (hf _).trans h.f0, (hf _).trans h.f1, (hf _).trans h.f2, (hf _).trans h.f3, Nat.lt_of_lt_of_le h.lt hb.size⟩
theorem Wd.drew {W : World} {g : Nat} {a3 a2 a1 a0 : Int} (h : Wd W g a3 a2 a1 a0) : Wd W.drew g a3 a2 a1 a0 := ⟨h.c0, h.c1, h.c2, h.c3, h.f0, h.f1, h.f2, h.f3, h.lt⟩
theorem Wd.alloc {W : World} {g : Nat} {a3 a2 a1 a0 : Int} (h : Wd W g a3 a2 a1 a0) (o : Obj) : Wd (W.alloc o) g a3 a2 a1 a0 := h.step ((Below.refl _ _).alloc (Nat.le_refl _) o)
theorem Wd.new (W : World) (a3 a2 a1 a0 : Int) (T : TypeId) {g : Nat} (hg : g = W.heap.size) : Wd (W.alloc (Obj.cells #[Value.int IntKind.u64 a3, Value.int IntKind.u64 a2, Value.int IntKind.u64 a1, Value.int IntKind.u64 a0] T)) g a3 a2 a1 a0 := by
  subst hg
  exact ⟨by simp [go_sem], by simp [go_sem], by simp [go_sem], by simp [go_sem], by simp [go_sem], by simp [go_sem], by simp [go_sem], by simp [go_sem], by simp⟩
theorem Wd.set {W : World} {g R : Nat} {a3 a2 a1 a0 : Int} (h : Wd W g a3 a2 a1 a0) (hne : g ≠ R) (u0 u1 u2 u3 : Value) : Wd ((((W.setCell ⟨R, 0, none⟩ u0).setCell ⟨R, 1, none⟩ u1).setCell ⟨R, 2, none⟩ u2).setCell ⟨R, 3, none⟩ u3) g a3 a2 a1 a0 := by
  have hn : ∀ o j, (⟨R, j, none⟩ : Addr) ≠ ⟨g, o, none⟩ := by intro o j e; simp only [Addr.mk.injEq] at e; exact hne e.1.symm
  have hc : ∀ o, ((((W.setCell ⟨R, 0, none⟩ u0).setCell ⟨R, 1, none⟩ u1).setCell ⟨R, 2, none⟩ u2).setCell ⟨R, 3, none⟩ u3).cell? ⟨g, o, none⟩ = W.cell? ⟨g, o, none⟩ := fun o => by
    rw [World.cell?_setCell_other _ _ _ _ (hn o 3), World.cell?_setCell_other _ _ _ _ (hn o 2), World.cell?_setCell_other _ _ _ _ (hn o 1), World.cell?_setCell_other _ _ _ _ (hn o 0)]
  have hf : ∀ o, ((((W.setCell ⟨R, 0, none⟩ u0).setCell ⟨R, 1, none⟩ u1).setCell ⟨R, 2, none⟩ u2).setCell ⟨R, 3, none⟩ u3).frozen? ⟨g, o, none⟩ = W.frozen? ⟨g, o, none⟩ := fun o => by simp [go_sem]
  exact ⟨(hc _).trans h.c0, (hc _).trans h.c1, (hc _).trans h.c2, (hc _).trans h.c3, (hf _).trans h.f0, (hf _).trans h.f1, (hf _).trans h.f2, (hf _).trans h.f3, by simpa [World.setCell] using h.lt⟩
/-- Two boxed numbers of four words, as a call that takes two finds them. -/
structure TwoW (w W : World) (a3 a2 a1 a0 b3 b2 b1 b0 : Int) : Prop where
  a : Wd W w.heap.size a3 a2 a1 a0
  b : Wd W (w.heap.size + 1) b3 b2 b1 b0
  below : Below w.heap.size w W
theorem TwoW.step {w W W' : World} {a3 a2 a1 a0 b3 b2 b1 b0 : Int} (h : TwoW w W a3 a2 a1 a0 b3 b2 b1 b0) (hb : Below W.heap.size W W') : TwoW w W' a3 a2 a1 a0 b3 b2 b1 b0 := ⟨h.a.step hb, h.b.step hb, h.below.trans (hb.mono h.below.size)⟩
theorem TwoW.drew {w W : World} {a3 a2 a1 a0 b3 b2 b1 b0 : Int} (h : TwoW w W a3 a2 a1 a0 b3 b2 b1 b0) : TwoW w W.drew a3 a2 a1 a0 b3 b2 b1 b0 := ⟨h.a.drew, h.b.drew, h.below.drew⟩
theorem TwoW.alloc {w W : World} {a3 a2 a1 a0 b3 b2 b1 b0 : Int} (h : TwoW w W a3 a2 a1 a0 b3 b2 b1 b0) (o : Obj) : TwoW w (W.alloc o) a3 a2 a1 a0 b3 b2 b1 b0 := h.step ((Below.refl _ _).alloc (Nat.le_refl _) o)
theorem TwoW.set {w W : World} {R : Nat} {a3 a2 a1 a0 b3 b2 b1 b0 : Int} (h : TwoW w W a3 a2 a1 a0 b3 b2 b1 b0) (hR : w.heap.size + 1 < R) (u0 u1 u2 u3 : Value) : TwoW w ((((W.setCell ⟨R, 0, none⟩ u0).setCell ⟨R, 1, none⟩ u1).setCell ⟨R, 2, none⟩ u2).setCell ⟨R, 3, none⟩ u3) a3 a2 a1 a0 b3 b2 b1 b0 :=
  ⟨h.a.set (by omega) _ _ _ _, h.b.set (by omega) _ _ _ _, tell_below h.below (by omega)⟩
/-- What a region that reads both holds on to. -/
def Cells8 (w W : World) (a3 a2 a1 a0 b3 b2 b1 b0 : Int) : Prop :=
  W.cell? ⟨w.heap.size, 0, none⟩ = some (.int .u64 a3) ∧ W.cell? ⟨w.heap.size, 1, none⟩ = some (.int .u64 a2) ∧ W.cell? ⟨w.heap.size, 2, none⟩ = some (.int .u64 a1) ∧ W.cell? ⟨w.heap.size, 3, none⟩ = some (.int .u64 a0) ∧
  W.cell? ⟨w.heap.size + 1, 0, none⟩ = some (.int .u64 b3) ∧ W.cell? ⟨w.heap.size + 1, 1, none⟩ = some (.int .u64 b2) ∧ W.cell? ⟨w.heap.size + 1, 2, none⟩ = some (.int .u64 b1) ∧ W.cell? ⟨w.heap.size + 1, 3, none⟩ = some (.int .u64 b0)
theorem TwoW.cells {w W : World} {a3 a2 a1 a0 b3 b2 b1 b0 : Int} (h : TwoW w W a3 a2 a1 a0 b3 b2 b1 b0) : Cells8 w W a3 a2 a1 a0 b3 b2 b1 b0 := ⟨h.a.c0, h.a.c1, h.a.c2, h.a.c3, h.b.c0, h.b.c1, h.b.c2, h.b.c3⟩
end Go.Proofs.Ytmjlgmoohpnhfaa

/- The walks of words made from four words and back. -/
namespace Go.Proofs.Ytmjlgmoohpnhfaa
open Go.RowKit
set_option maxRecDepth 100000 in
set_option maxHeartbeats 400000 in
theorem wordsOf_any (a3 a2 a1 a0 : Int) (w : World) :
    Calls Try.prog 180 #[.agg #[.int .u64 a3, .int .u64 a2, .int .u64 a1, .int .u64 a0]] w (WideP a0 a1 a2 a3 w) := by
  go_enter Try.func180, Try.ntmps180
  go_wp2
  refine bodyPost_ret (v := .agg #[.int .u64 a0, .int .u64 a1, .int .u64 a2, .int .u64 a3]) (by simp [results, Try.results180, go_sem]) rfl ?_
  exact ⟨rfl, ((Below.refl _ _).alloc (Nat.le_refl _) _).alloc (by simp) _⟩
theorem words4 {a0 a1 a2 a3 : Int} (h0 : Word a0) (h1 : Word a1) (h2 : Word a2) (h3 : Word a3) : Words [a0, a1, a2, a3] := by
  intro d hd
  simp only [List.mem_cons, List.not_mem_nil, or_false] at hd
  rcases hd with rfl | rfl | rfl | rfl
  · exact h0
  · exact h1
  · exact h2
  · exact h3
theorem words4_of {a0 a1 a2 a3 : Int} (h : Words [a0, a1, a2, a3]) : Word a0 ∧ Word a1 ∧ Word a2 ∧ Word a3 := ⟨h _ (by simp), h _ (by simp), h _ (by simp), h _ (by simp)⟩
theorem val64_4 (a0 a1 a2 a3 : Int) : val64 [a0, a1, a2, a3] = uw a3 a2 a1 a0 := by simp only [val64, uw]; omega
end Go.Proofs.Ytmjlgmoohpnhfaa

/- The walks of the program's sum and difference of four words. -/
namespace Go.Proofs.Ytmjlgmoohpnhfaa
open Go.RowKit
theorem Wd.stored {W : World} {g : Nat} {a3 a2 a1 a0 : Int} (h : Wd W g a3 a2 a1 a0) (z3 z2 z1 z0 : Int) : Wd ((((W.setCell ⟨g, 0, none⟩ (.int .u64 z3)).setCell ⟨g, 1, none⟩ (.int .u64 z2)).setCell ⟨g, 2, none⟩ (.int .u64 z1)).setCell ⟨g, 3, none⟩ (.int .u64 z0)) g z3 z2 z1 z0 := by
  have e0 := h.c0; have e1 := h.c1; have e2 := h.c2; have e3 := h.c3
  have p0 := h.f0; have p1 := h.f1; have p2 := h.f2; have p3 := h.f3
  exact ⟨by simp [go_sem, e0], by simp [go_sem, e1], by simp [go_sem, e2], by simp [go_sem, e3], by simp [go_sem, p0], by simp [go_sem, p1], by simp [go_sem, p2], by simp [go_sem, p3], by simpa [World.setCell] using h.lt⟩
end Go.Proofs.Ytmjlgmoohpnhfaa

/- The walk of the program's comparison of four words. -/
namespace Go.Proofs.Ytmjlgmoohpnhfaa
open Go.RowKit
theorem Wd.new2 (W : World) (o : Obj) (a3 a2 a1 a0 : Int) (T : TypeId) : Wd ((W.alloc o).alloc (Obj.cells #[Value.int IntKind.u64 a3, Value.int IntKind.u64 a2, Value.int IntKind.u64 a1, Value.int IntKind.u64 a0] T)) (W.heap.size + 1) a3 a2 a1 a0 := Wd.new _ _ _ _ _ _ (by simp)
end Go.Proofs.Ytmjlgmoohpnhfaa

/- The walks of a number's size without its sign, of the count of its words and of its bits, and of the law over them. -/
namespace Go.Proofs.Ytmjlgmoohpnhfaa
open Go.RowKit
theorem wd0 : Word 0 := ⟨by decide, by decide⟩
/-- Four words that stand for a number without its sign, the lowest first. -/
def SizeP (z : Int) (w : World) (e : Ending) (w' : World) : Prop :=
  ∃ x3 x2 x1 x0, e = .returned (.agg #[.int .u64 x0, .int .u64 x1, .int .u64 x2, .int .u64 x3]) ∧ Word x3 ∧ Word x2 ∧ Word x1 ∧ Word x0 ∧ uw x3 x2 x1 x0 = (z.natAbs : Int) ∧ Below w.heap.size w w'
theorem sizeP_set {z : Int} {w W : World} {R : Nat} {e : Ending} {u0 u1 u2 u3 : Value} (hR : w.heap.size ≤ R) (h : SizeP z w e W) : SizeP z w e ((((W.setCell ⟨R, 0, none⟩ u0).setCell ⟨R, 1, none⟩ u1).setCell ⟨R, 2, none⟩ u2).setCell ⟨R, 3, none⟩ u3) := by
  obtain ⟨x3, x2, x1, x0, e1, h3, h2, h1, h0, hu, hB⟩ := h
  exact ⟨x3, x2, x1, x0, e1, h3, h2, h1, h0, hu, tell_below hB hR⟩
set_option maxRecDepth 100000 in
set_option maxHeartbeats 1000000 in
theorem sizeOf_any (a3 a2 a1 a0 : Int) (h3 : Word a3) (h2 : Word a2) (h1 : Word a1) (h0 : Word a0) (w : World) :
    Calls Try.prog 167 #[.agg #[.int .u64 a3, .int .u64 a2, .int .u64 a1, .int .u64 a0]] w (SizeP (sw a3 a2 a1 a0) w) := by
  have hn := sw_neg h3 h2 h1 h0
  have A0 : Wd ((w.alloc (Obj.cells #[Value.int IntKind.u64 a3, Value.int IntKind.u64 a2, Value.int IntKind.u64 a1, Value.int IntKind.u64 a0] 48)).alloc (Obj.cells #[Value.int IntKind.u64 0, Value.int IntKind.u64 0, Value.int IntKind.u64 0, Value.int IntKind.u64 0] 207)) w.heap.size a3 a2 a1 a0 := (Wd.new _ _ _ _ _ 48 rfl).alloc _
  have R0 : Wd ((w.alloc (Obj.cells #[Value.int IntKind.u64 a3, Value.int IntKind.u64 a2, Value.int IntKind.u64 a1, Value.int IntKind.u64 a0] 48)).alloc (Obj.cells #[Value.int IntKind.u64 0, Value.int IntKind.u64 0, Value.int IntKind.u64 0, Value.int IntKind.u64 0] 207)) (w.heap.size + 1) 0 0 0 0 := Wd.new _ 0 0 0 0 207 (by simp)
  have HB : Below w.heap.size w ((w.alloc (Obj.cells #[Value.int IntKind.u64 a3, Value.int IntKind.u64 a2, Value.int IntKind.u64 a1, Value.int IntKind.u64 a0] 48)).alloc (Obj.cells #[Value.int IntKind.u64 0, Value.int IntKind.u64 0, Value.int IntKind.u64 0, Value.int IntKind.u64 0] 207)) := ((Below.refl _ _).alloc (Nat.le_refl _) _).alloc (by simp) _
  by_cases hp : 9223372036854775808 ≤ a3
  · have hb : (a3 / 9223372036854775808 == 1) = true := beq_iff_eq.2 (by have := h3.2; omega)
    go_enter Try.func167, Try.ntmps167
    go_wp2_with fail
    refine (isBelow_any a3 a2 a1 a0 h3 true hb _).mono ?_
    rintro e w1 ⟨rfl, hB⟩
    replace A0 := A0.step hB
    replace R0 := R0.step hB
    replace HB := HB.trans (hB.mono HB.size)
    clear hB
    have i0 := A0.c0; have i1 := A0.c1; have i2 := A0.c2; have i3 := A0.c3
    go_wp2_with fail
    refine (wordsOf_any a3 a2 a1 a0 _).mono ?_
    rintro e w2 ⟨rfl, hB⟩
    replace R0 := R0.step hB
    replace HB := HB.trans (hB.mono HB.size)
    clear hB A0 i0 i1 i2 i3
    go_wp2_with fail
    refine (minus4 0 0 0 0 a0 a1 a2 a3 (words4 wd0 wd0 wd0 wd0) (words4 h0 h1 h2 h3) _).mono ?_
    rintro e w3 ⟨zs, c, rfl, g1, g2, g3, g4, g5, hB⟩
    obtain ⟨z0, z1, z2, z3, rfl⟩ := list4 g1
    obtain ⟨l0, l1, l2, l3⟩ := words4_of g2
    rw [val64_4, val64_4, val64_4, show [(0 : Int), 0, 0, 0].length = 4 from rfl] at g5
    replace R0 := R0.step hB
    replace HB := HB.trans (hB.mono HB.size)
    have HP : Hid (SizeP (sw a3 a2 a1 a0) w (.returned (.agg #[.int .u64 z0, .int .u64 z1, .int .u64 z2, .int .u64 z3])) w3) := by
      refine ⟨z3, z2, z1, z0, rfl, l3, l2, l1, l0, ?_, HB⟩
      have e1 : pw64 4 = 115792089237316195423570985008687907853269984665640564039457584007913129639936 := by decide
      rw [e1] at g5
      have e2 : sw a3 a2 a1 a0 = uw a3 a2 a1 a0 - 115792089237316195423570985008687907853269984665640564039457584007913129639936 := by unfold sw; rw [if_neg (by omega)]
      have e3 := uw_bound h3 h2 h1 h0
      have e4 := uw_bound l3 l2 l1 l0
      have e5 : uw 0 0 0 0 = 0 := by decide
      have e6 : uw a3 a2 a1 a0 ≠ 0 := by unfold uw; unfold Word at *; omega
      omega
    have r0 := R0.c0; have r1 := R0.c1; have r2 := R0.c2; have r3 := R0.c3; have f0 := R0.f0; have f1 := R0.f1; have f2 := R0.f2; have f3 := R0.f3
    clear hB g5 g1 g2 g3 g4 HB R0
    go_wp2
    refine bodyPost_ret (v := .agg #[.int .u64 z0, .int .u64 z1, .int .u64 z2, .int .u64 z3]) (by simp [results, Try.results167, go_sem, r0, r1, r2, r3]) rfl ?_
    exact sizeP_set (Nat.le_succ _) HP.out
  · have hb : (a3 / 9223372036854775808 == 1) = false := beq_eq_false_iff_ne.2 (by have := h3.1; omega)
    go_enter Try.func167, Try.ntmps167
    go_wp2_with fail
    refine (isBelow_any a3 a2 a1 a0 h3 false hb _).mono ?_
    rintro e w1 ⟨rfl, hB⟩
    replace A0 := A0.step hB
    replace R0 := R0.step hB
    replace HB := HB.trans (hB.mono HB.size)
    clear hB
    have i0 := A0.c0; have i1 := A0.c1; have i2 := A0.c2; have i3 := A0.c3
    go_wp2_with fail
    refine (wordsOf_any a3 a2 a1 a0 _).mono ?_
    rintro e w2 ⟨rfl, hB⟩
    replace R0 := R0.step hB
    replace HB := HB.trans (hB.mono HB.size)
    have HP : Hid (SizeP (sw a3 a2 a1 a0) w (.returned (.agg #[.int .u64 a0, .int .u64 a1, .int .u64 a2, .int .u64 a3])) w2) := by
      refine ⟨a3, a2, a1, a0, rfl, h3, h2, h1, h0, ?_, HB⟩
      have e2 : sw a3 a2 a1 a0 = uw a3 a2 a1 a0 := by unfold sw; rw [if_pos (by omega)]
      have e3 := uw_bound h3 h2 h1 h0
      omega
    have r0 := R0.c0; have r1 := R0.c1; have r2 := R0.c2; have r3 := R0.c3; have f0 := R0.f0; have f1 := R0.f1; have f2 := R0.f2; have f3 := R0.f3
    clear hB HB R0 A0 i0 i1 i2 i3
    go_wp2
    refine bodyPost_ret (v := .agg #[.int .u64 a0, .int .u64 a1, .int .u64 a2, .int .u64 a3]) (by simp [results, Try.results167, go_sem, r0, r1, r2, r3]) rfl ?_
    exact sizeP_set (Nat.le_succ _) HP.out
/-- How many words are left when those that are 0 at the high end are cut off. -/
def CountP (xs : List Int) (w : World) (e : Ending) (w' : World) : Prop :=
  ∃ n : Nat, e = .returned (.int .i64 n) ∧ n ≤ xs.length ∧ (∀ j, n ≤ j → (h : j < xs.length) → xs[j] = 0) ∧ (∀ m, n = m + 1 → (h : m < xs.length) → xs[m] ≠ 0) ∧ w' = w
theorem count_some (w : World) {xs : List Int} {m : Nat} (hm : m < xs.length) (h0 : xs[m] ≠ 0) (hz : ∀ j, m + 1 ≤ j → (h : j < xs.length) → xs[j] = 0) (v : Int) (hv : v = ((m + 1 : Nat) : Int)) : CountP xs w (.returned (.int .i64 v)) w :=
  ⟨m + 1, by rw [hv], hm, hz, fun i hi hl => by
    have : m = i := by omega
    subst this
    exact h0, rfl⟩
set_option maxRecDepth 100000 in
set_option maxHeartbeats 400000 in
theorem countWords_any (A off n cap : Nat) (xs : List Int) (w : World) (hn : xs.length = n) (hr : Row w A off xs) (hm : n ≤ 1000) :
    Calls Try.prog 168 #[.slice (some ⟨A, off, none⟩) n cap] w (CountP xs w) := by
  go_enter Try.func168, Try.ntmps168
  go_wp2
  go_loop [3] (fun i => ∃ k : Nat, k ≤ n ∧ i = .int .i64 k ∧ ∀ j, k ≤ j → (h : j < xs.length) → xs[j] = 0) (fun i => (intOf i).toNat)
  case atStart => exact ⟨n, Nat.le_refl _, rfl, fun j h1 h2 => by omega⟩
  case round =>
    obtain ⟨k, hk, rfl, hz⟩ := hrel
    have HN : Hid (xs.length = n) := hn
    have HZ : Hid (∀ j, k ≤ j → (h : j < xs.length) → xs[j] = 0) := hz
    have HR : Hid (Row w A off xs) := hr
    clear hz hr hn
    by_cases hk0 : 0 < k
    · obtain ⟨m, rfl⟩ : ∃ m, k = m + 1 := ⟨k - 1, by omega⟩
      have hml : m < xs.length := by have := HN.out; omega
      have hcell := HR.out.cell m hml
      go_wp2
      · go_round
        case rel =>
          have h0 : (xs[m] == 0) = true := by assumption
          exact ⟨m, by omega, by go_num, fun j h1 h2 => by
            by_cases e : j = m
            · subst e; simpa using h0
            · exact HZ.out j (by omega) h2⟩
        case measure => simp [intOf]
      · have h0 : (xs[m] == 0) = false := by assumption
        go_ret
        exact count_some w hml (by simpa using h0) HZ.out _ (by omega)
    · go_wp2
      go_ret
      exact ⟨k, rfl, by have := HN.out; omega, HZ.out, fun i hi => by omega, rfl⟩
end Go.Proofs.Ytmjlgmoohpnhfaa

/- The program's long division: what lies in memory around its first statements. -/
namespace Go.Proofs.Ytmjlgmoohpnhfaa
open Go.RowKit
theorem Blk.cellsO {g b : Nat} {zs : List Value} (hne : g ≠ b) : ∀ (vs : List Value) (o : Nat) {w : World}, Blk w g zs → Blk (w.setCells b o vs) g zs
  | [], _, _, h => h
  | v :: r, o, w, h => by rw [World.setCells]; exact Blk.cellsO hne r (o + 1) (h.setO hne v)
theorem below_cells {B g : Nat} {w0 : World} (hg : B ≤ g) : ∀ (vs : List Value) (o : Nat) {w : World}, Below B w0 w → Below B w0 (w.setCells g o vs)
  | [], _, _, h => h
  | v :: r, o, w, h => by rw [World.setCells]; exact below_cells hg r (o + 1) (h.setCell hg v)
theorem ArgsB.cells {w W : World} {a b c d : List Value} (h : ArgsB w W [a, b, c, d]) {g : Nat} (hg : w.heap.size + 3 < g) (vs : List Value) : ArgsB w (W.setCells g 0 vs) [a, b, c, d] := by
  refine ⟨below_cells (by omega) vs 0 h.1, fun j us hj => Blk.cellsO ?_ vs 0 (h.2 j us hj)⟩
  have : j < 4 := by
    apply Decidable.byContradiction
    intro hn
    rw [List.getElem?_eq_none (by simp; omega)] at hj
    simp at hj
  omega
theorem Blk.there {W : World} {g : Nat} {vs : List Value} (h : Blk W g vs) {n : Nat} (hn : vs.length = n) : W.there g 0 n := fun j hj => by
  rw [Nat.zero_add, h.c j (List.getElem?_eq_getElem (by omega)), h.f j (List.getElem?_eq_getElem (by omega))]
  exact ⟨rfl, rfl⟩
end Go.Proofs.Ytmjlgmoohpnhfaa

/- The walk of the program's long division. -/
namespace Go.Proofs.Ytmjlgmoohpnhfaa
open Go.RowKit
end Go.Proofs.Ytmjlgmoohpnhfaa
