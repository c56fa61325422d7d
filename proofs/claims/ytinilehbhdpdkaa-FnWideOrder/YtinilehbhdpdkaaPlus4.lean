/- The walks of plus and minus of 4 words. -/
import Derived.Test.YtinilehbhdpdkaaTakeW
import Derived.Deep.RegionWith
namespace Go.Proofs.Ytinilehbhdpdkaa
open Go.RowKit
/-- The sum of two rows of words, cut off. -/
def PlusP (xs ys : List Int) (w : World) (e : Ending) (w' : World) : Prop :=
  ∃ (zs : List Int) (c : Int), e = .returned (.agg (zs.map (Value.int .u64)).toArray) ∧ zs.length = xs.length ∧ Words zs ∧ 0 ≤ c ∧ c ≤ 1 ∧ val64 zs + c * pw64 xs.length = val64 xs + val64 ys ∧ Below w.heap.size w w'
/-- The difference of two rows of words, cut off. -/
def MinusP (xs ys : List Int) (w : World) (e : Ending) (w' : World) : Prop :=
  ∃ (zs : List Int) (c : Int), e = .returned (.agg (zs.map (Value.int .u64)).toArray) ∧ zs.length = xs.length ∧ Words zs ∧ 0 ≤ c ∧ c ≤ 1 ∧ val64 zs = val64 xs - val64 ys + c * pw64 xs.length ∧ Below w.heap.size w w'
theorem Row.drewd {w : World} {A off : Nat} {xs : List Int} (h : Row w A off xs) : Row w.drew A off xs := row_drew h
theorem row_other {w w' : World} {A B oa ob n : Nat} {xs : List Int} (h : Row w B ob xs) (hw : Wrote A oa n w w') (hne : B ≠ A) : Row w' B ob xs :=
  ⟨fun i hi => (hw.cellOther hne _).trans (h.cell i hi), fun i hi => (hw.frzOther hne _).trans (h.frz i hi), by rw [hw.size]; exact h.lt⟩
theorem list4 {l : List Int} (h : l.length = 4) : ∃ z0 z1 z2 z3, l = [z0, z1, z2, z3] := by
  match l, h with
  | [z0, z1, z2, z3], _ => exact ⟨z0, z1, z2, z3, rfl⟩
theorem row_of4 {w : World} {A : Nat} {x0 x1 x2 x3 : Int} (hl : A < w.heap.size) (h0 : w.cell? ⟨A, 0, none⟩ = some (.int .u64 x0)) (h1 : w.cell? ⟨A, 1, none⟩ = some (.int .u64 x1)) (h2 : w.cell? ⟨A, 2, none⟩ = some (.int .u64 x2)) (h3 : w.cell? ⟨A, 3, none⟩ = some (.int .u64 x3)) (f0 : w.frozen? ⟨A, 0, none⟩ = false) (f1 : w.frozen? ⟨A, 1, none⟩ = false) (f2 : w.frozen? ⟨A, 2, none⟩ = false) (f3 : w.frozen? ⟨A, 3, none⟩ = false) : Row w A 0 [x0, x1, x2, x3] := by
  refine ⟨fun i hi => ?_, fun i hi => ?_, hl⟩
  · simp only [Nat.zero_add]
    match i, hi with
    | 0, _ => exact h0
    | 1, _ => exact h1
    | 2, _ => exact h2
    | 3, _ => exact h3
  · simp only [Nat.zero_add]
    match i, hi with
    | 0, _ => exact f0
    | 1, _ => exact f1
    | 2, _ => exact f2
    | 3, _ => exact f3
theorem row_cells4 {w : World} {A : Nat} {x0 x1 x2 x3 : Int} (h : Row w A 0 [x0, x1, x2, x3]) : w.cell? ⟨A, 0, none⟩ = some (.int .u64 x0) ∧ w.cell? ⟨A, 1, none⟩ = some (.int .u64 x1) ∧ w.cell? ⟨A, 2, none⟩ = some (.int .u64 x2) ∧ w.cell? ⟨A, 3, none⟩ = some (.int .u64 x3) :=
  ⟨by simpa using h.cell 0 (by simp), by simpa using h.cell 1 (by simp), by simpa using h.cell 2 (by simp), by simpa using h.cell 3 (by simp)⟩
theorem row_frz4 {w : World} {A : Nat} {x0 x1 x2 x3 : Int} (h : Row w A 0 [x0, x1, x2, x3]) : w.frozen? ⟨A, 0, none⟩ = false ∧ w.frozen? ⟨A, 1, none⟩ = false ∧ w.frozen? ⟨A, 2, none⟩ = false ∧ w.frozen? ⟨A, 3, none⟩ = false :=
  ⟨by simpa using h.frz 0 (by simp), by simpa using h.frz 1 (by simp), by simpa using h.frz 2 (by simp), by simpa using h.frz 3 (by simp)⟩
theorem plus4_ret {w w1 : World} {xs ys : List Int} {e : Ending} {u0 u1 u2 u3 : Value} (h : PlusP xs ys w e w1) : PlusP xs ys w e ((((w1.setCell ⟨w.heap.size + 1 + 1, 0, none⟩ u0).setCell ⟨w.heap.size + 1 + 1, 1, none⟩ u1).setCell ⟨w.heap.size + 1 + 1, 2, none⟩ u2).setCell ⟨w.heap.size + 1 + 1, 3, none⟩ u3) := by
  obtain ⟨zs, c, h1, h2, h3, h4, h5, h6, h7⟩ := h
  exact ⟨zs, c, h1, h2, h3, h4, h5, h6, ((((h7.setCell (by show w.heap.size ≤ w.heap.size + 1 + 1; omega) _).setCell (by show w.heap.size ≤ w.heap.size + 1 + 1; omega) _).setCell (by show w.heap.size ≤ w.heap.size + 1 + 1; omega) _).setCell (by show w.heap.size ≤ w.heap.size + 1 + 1; omega) _)⟩
set_option maxRecDepth 100000 in
set_option maxHeartbeats 2000000 in
theorem plus4 (x0 x1 x2 x3 y0 y1 y2 y3 : Int) (wx : Words [x0, x1, x2, x3]) (wy : Words [y0, y1, y2, y3]) (w : World) :
    Calls Try.prog 21 #[.agg #[.int .u64 x0, .int .u64 x1, .int .u64 x2, .int .u64 x3], .agg #[.int .u64 y0, .int .u64 y1, .int .u64 y2, .int .u64 y3]] w (PlusP [x0, x1, x2, x3] [y0, y1, y2, y3] w) := by
  have rx : Row (((w.alloc (Obj.cells #[Value.int IntKind.u64 x0, Value.int IntKind.u64 x1, Value.int IntKind.u64 x2, Value.int IntKind.u64 x3] 40)).alloc (Obj.cells #[Value.int IntKind.u64 y0, Value.int IntKind.u64 y1, Value.int IntKind.u64 y2, Value.int IntKind.u64 y3] 40)).alloc (Obj.cells #[Value.int IntKind.u64 0, Value.int IntKind.u64 0, Value.int IntKind.u64 0, Value.int IntKind.u64 0] 40)) w.heap.size 0 [x0, x1, x2, x3] := row_of4 (by simp <;> omega) (by simp [go_sem]) (by simp [go_sem]) (by simp [go_sem]) (by simp [go_sem]) (by simp [go_sem]) (by simp [go_sem]) (by simp [go_sem]) (by simp [go_sem])
  have ry : Row (((w.alloc (Obj.cells #[Value.int IntKind.u64 x0, Value.int IntKind.u64 x1, Value.int IntKind.u64 x2, Value.int IntKind.u64 x3] 40)).alloc (Obj.cells #[Value.int IntKind.u64 y0, Value.int IntKind.u64 y1, Value.int IntKind.u64 y2, Value.int IntKind.u64 y3] 40)).alloc (Obj.cells #[Value.int IntKind.u64 0, Value.int IntKind.u64 0, Value.int IntKind.u64 0, Value.int IntKind.u64 0] 40)) (w.heap.size + 1) 0 [y0, y1, y2, y3] := row_of4 (by simp <;> omega) (by simp [go_sem]) (by simp [go_sem]) (by simp [go_sem]) (by simp [go_sem]) (by simp [go_sem]) (by simp [go_sem]) (by simp [go_sem]) (by simp [go_sem])
  have rr : Row (((w.alloc (Obj.cells #[Value.int IntKind.u64 x0, Value.int IntKind.u64 x1, Value.int IntKind.u64 x2, Value.int IntKind.u64 x3] 40)).alloc (Obj.cells #[Value.int IntKind.u64 y0, Value.int IntKind.u64 y1, Value.int IntKind.u64 y2, Value.int IntKind.u64 y3] 40)).alloc (Obj.cells #[Value.int IntKind.u64 0, Value.int IntKind.u64 0, Value.int IntKind.u64 0, Value.int IntKind.u64 0] 40)) (w.heap.size + 1 + 1) 0 [0, 0, 0, 0] := row_of4 (by simp <;> omega) (by simp [go_sem]) (by simp [go_sem]) (by simp [go_sem]) (by simp [go_sem]) (by simp [go_sem]) (by simp [go_sem]) (by simp [go_sem]) (by simp [go_sem])
  have hB : Below w.heap.size w (((w.alloc (Obj.cells #[Value.int IntKind.u64 x0, Value.int IntKind.u64 x1, Value.int IntKind.u64 x2, Value.int IntKind.u64 x3] 40)).alloc (Obj.cells #[Value.int IntKind.u64 y0, Value.int IntKind.u64 y1, Value.int IntKind.u64 y2, Value.int IntKind.u64 y3] 40)).alloc (Obj.cells #[Value.int IntKind.u64 0, Value.int IntKind.u64 0, Value.int IntKind.u64 0, Value.int IntKind.u64 0] 40)) := (((Below.refl _ _).alloc (Nat.le_refl _) _).alloc (by simp) _).alloc (by simp; omega) _
  go_enter Try.func21, Try.ntmps21
  go_wp2
  generalize ((w.alloc (Obj.cells #[Value.int IntKind.u64 x0, Value.int IntKind.u64 x1, Value.int IntKind.u64 x2, Value.int IntKind.u64 x3] 40)).alloc (Obj.cells #[Value.int IntKind.u64 y0, Value.int IntKind.u64 y1, Value.int IntKind.u64 y2, Value.int IntKind.u64 y3] 40)).alloc (Obj.cells #[Value.int IntKind.u64 0, Value.int IntKind.u64 0, Value.int IntKind.u64 0, Value.int IntKind.u64 0] 40) = W at *
  go_region_with ((go_at_call 39; refine (addWords_any w.heap.size (w.heap.size + 1) 0 0 4 4 4 4 [x0, x1, x2, x3] [y0, y1, y2, y3] _ rfl rfl wx wy (row_drew rx) (row_drew ry) (by omega) (by omega)).mono ?_; rintro e w1 ⟨zs, c, rfl, h1, h2, h3, h4, h5, h6, h7⟩))
  obtain ⟨z0, z1, z2, z3, rfl⟩ := list4 h1
  have HP : Hid (PlusP [x0, x1, x2, x3] [y0, y1, y2, y3] w (.returned (.agg #[.int .u64 z0, .int .u64 z1, .int .u64 z2, .int .u64 z3])) w1) := ⟨[z0, z1, z2, z3], c, rfl, rfl, h2, h3, h4, h5, (hB.drew).trans (h7.below (Nat.le_refl _))⟩
  obtain ⟨c0, c1, c2, c3⟩ := row_cells4 h6
  have rr1 := row_other rr.drewd h7 (by omega)
  obtain ⟨g0, g1, g2, g3⟩ := row_cells4 rr1
  obtain ⟨f0, f1, f2, f3⟩ := row_frz4 rr1
  have hne : w.heap.size + 1 + 1 ≠ w.heap.size := by omega
  clear rx ry rr hB h2 h3 h4 h5 h6 h7 h1 rr1
  go_wp2
  refine bodyPost_ret (v := .agg #[.int .u64 z0, .int .u64 z1, .int .u64 z2, .int .u64 z3]) (by simp [results, Try.results21, go_sem, g0, g1, g2, g3]) rfl ?_
  exact plus4_ret HP.out
theorem minus4_ret {w w1 : World} {xs ys : List Int} {e : Ending} {u0 u1 u2 u3 : Value} (h : MinusP xs ys w e w1) : MinusP xs ys w e ((((w1.setCell ⟨w.heap.size + 1 + 1, 0, none⟩ u0).setCell ⟨w.heap.size + 1 + 1, 1, none⟩ u1).setCell ⟨w.heap.size + 1 + 1, 2, none⟩ u2).setCell ⟨w.heap.size + 1 + 1, 3, none⟩ u3) := by
  obtain ⟨zs, c, h1, h2, h3, h4, h5, h6, h7⟩ := h
  exact ⟨zs, c, h1, h2, h3, h4, h5, h6, ((((h7.setCell (by show w.heap.size ≤ w.heap.size + 1 + 1; omega) _).setCell (by show w.heap.size ≤ w.heap.size + 1 + 1; omega) _).setCell (by show w.heap.size ≤ w.heap.size + 1 + 1; omega) _).setCell (by show w.heap.size ≤ w.heap.size + 1 + 1; omega) _)⟩
set_option maxRecDepth 100000 in
set_option maxHeartbeats 2000000 in
theorem minus4 (x0 x1 x2 x3 y0 y1 y2 y3 : Int) (wx : Words [x0, x1, x2, x3]) (wy : Words [y0, y1, y2, y3]) (w : World) :
    Calls Try.prog 28 #[.agg #[.int .u64 x0, .int .u64 x1, .int .u64 x2, .int .u64 x3], .agg #[.int .u64 y0, .int .u64 y1, .int .u64 y2, .int .u64 y3]] w (MinusP [x0, x1, x2, x3] [y0, y1, y2, y3] w) := by
  have rx : Row (((w.alloc (Obj.cells #[Value.int IntKind.u64 x0, Value.int IntKind.u64 x1, Value.int IntKind.u64 x2, Value.int IntKind.u64 x3] 40)).alloc (Obj.cells #[Value.int IntKind.u64 y0, Value.int IntKind.u64 y1, Value.int IntKind.u64 y2, Value.int IntKind.u64 y3] 40)).alloc (Obj.cells #[Value.int IntKind.u64 0, Value.int IntKind.u64 0, Value.int IntKind.u64 0, Value.int IntKind.u64 0] 40)) w.heap.size 0 [x0, x1, x2, x3] := row_of4 (by simp <;> omega) (by simp [go_sem]) (by simp [go_sem]) (by simp [go_sem]) (by simp [go_sem]) (by simp [go_sem]) (by simp [go_sem]) (by simp [go_sem]) (by simp [go_sem])
  have ry : Row (((w.alloc (Obj.cells #[Value.int IntKind.u64 x0, Value.int IntKind.u64 x1, Value.int IntKind.u64 x2, Value.int IntKind.u64 x3] 40)).alloc (Obj.cells #[Value.int IntKind.u64 y0, Value.int IntKind.u64 y1, Value.int IntKind.u64 y2, Value.int IntKind.u64 y3] 40)).alloc (Obj.cells #[Value.int IntKind.u64 0, Value.int IntKind.u64 0, Value.int IntKind.u64 0, Value.int IntKind.u64 0] 40)) (w.heap.size + 1) 0 [y0, y1, y2, y3] := row_of4 (by simp <;> omega) (by simp [go_sem]) (by simp [go_sem]) (by simp [go_sem]) (by simp [go_sem]) (by simp [go_sem]) (by simp [go_sem]) (by simp [go_sem]) (by simp [go_sem])
  have rr : Row (((w.alloc (Obj.cells #[Value.int IntKind.u64 x0, Value.int IntKind.u64 x1, Value.int IntKind.u64 x2, Value.int IntKind.u64 x3] 40)).alloc (Obj.cells #[Value.int IntKind.u64 y0, Value.int IntKind.u64 y1, Value.int IntKind.u64 y2, Value.int IntKind.u64 y3] 40)).alloc (Obj.cells #[Value.int IntKind.u64 0, Value.int IntKind.u64 0, Value.int IntKind.u64 0, Value.int IntKind.u64 0] 40)) (w.heap.size + 1 + 1) 0 [0, 0, 0, 0] := row_of4 (by simp <;> omega) (by simp [go_sem]) (by simp [go_sem]) (by simp [go_sem]) (by simp [go_sem]) (by simp [go_sem]) (by simp [go_sem]) (by simp [go_sem]) (by simp [go_sem])
  have hB : Below w.heap.size w (((w.alloc (Obj.cells #[Value.int IntKind.u64 x0, Value.int IntKind.u64 x1, Value.int IntKind.u64 x2, Value.int IntKind.u64 x3] 40)).alloc (Obj.cells #[Value.int IntKind.u64 y0, Value.int IntKind.u64 y1, Value.int IntKind.u64 y2, Value.int IntKind.u64 y3] 40)).alloc (Obj.cells #[Value.int IntKind.u64 0, Value.int IntKind.u64 0, Value.int IntKind.u64 0, Value.int IntKind.u64 0] 40)) := (((Below.refl _ _).alloc (Nat.le_refl _) _).alloc (by simp) _).alloc (by simp; omega) _
  go_enter Try.func28, Try.ntmps28
  go_wp2
  generalize ((w.alloc (Obj.cells #[Value.int IntKind.u64 x0, Value.int IntKind.u64 x1, Value.int IntKind.u64 x2, Value.int IntKind.u64 x3] 40)).alloc (Obj.cells #[Value.int IntKind.u64 y0, Value.int IntKind.u64 y1, Value.int IntKind.u64 y2, Value.int IntKind.u64 y3] 40)).alloc (Obj.cells #[Value.int IntKind.u64 0, Value.int IntKind.u64 0, Value.int IntKind.u64 0, Value.int IntKind.u64 0] 40) = W at *
  go_region_with ((go_at_call 49; refine (takeWords_any w.heap.size (w.heap.size + 1) 0 0 4 4 4 4 [x0, x1, x2, x3] [y0, y1, y2, y3] _ rfl rfl wx wy (row_drew rx) (row_drew ry) (by omega) (by omega)).mono ?_; rintro e w1 ⟨zs, c, rfl, h1, h2, h3, h4, h5, h6, h7⟩))
  obtain ⟨z0, z1, z2, z3, rfl⟩ := list4 h1
  have HP : Hid (MinusP [x0, x1, x2, x3] [y0, y1, y2, y3] w (.returned (.agg #[.int .u64 z0, .int .u64 z1, .int .u64 z2, .int .u64 z3])) w1) := ⟨[z0, z1, z2, z3], c, rfl, rfl, h2, h3, h4, h5, (hB.drew).trans (h7.below (Nat.le_refl _))⟩
  obtain ⟨c0, c1, c2, c3⟩ := row_cells4 h6
  have rr1 := row_other rr.drewd h7 (by omega)
  obtain ⟨g0, g1, g2, g3⟩ := row_cells4 rr1
  obtain ⟨f0, f1, f2, f3⟩ := row_frz4 rr1
  have hne : w.heap.size + 1 + 1 ≠ w.heap.size := by omega
  clear rx ry rr hB h2 h3 h4 h5 h6 h7 h1 rr1
  go_wp2
  refine bodyPost_ret (v := .agg #[.int .u64 z0, .int .u64 z1, .int .u64 z2, .int .u64 z3]) (by simp [results, Try.results28, go_sem, g0, g1, g2, g3]) rfl ?_
  exact minus4_ret HP.out
end Go.Proofs.Ytinilehbhdpdkaa
