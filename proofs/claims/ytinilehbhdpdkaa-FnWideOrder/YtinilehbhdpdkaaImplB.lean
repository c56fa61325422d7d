/- The walks of the program's sum and difference of four words. -/
import Derived.Test.YtinilehbhdpdkaaConv
import Derived.Deep.RegionHeld3
import Derived.Deep.DeepCutAuto
namespace Go.Proofs.Ytinilehbhdpdkaa
open Go.RowKit
/-- What stands behind the sum's first statement. -/
def CutP (rel : Int → Int → Int → Int → Prop) (w wx : World) (a3 a2 a1 a0 b3 b2 b1 b0 : Int) (p : Value) : Prop :=
  ∃ g z3 z2 z1 z0, p = .pointer (some ⟨g, 0, none⟩) ∧ TwoW w wx a3 a2 a1 a0 b3 b2 b1 b0 ∧ Wd wx (w.heap.size + 1 + 1) 0 0 0 0 ∧ Wd wx g z3 z2 z1 z0 ∧ w.heap.size + 1 + 1 < g ∧ rel z3 z2 z1 z0
theorem cut_new {rel : Int → Int → Int → Int → Prop} {w wx : World} {a3 a2 a1 a0 b3 b2 b1 b0 z3 z2 z1 z0 : Int} {T : TypeId} (h : TwoW w wx a3 a2 a1 a0 b3 b2 b1 b0) (r : Wd wx (w.heap.size + 1 + 1) 0 0 0 0) (hr : rel z3 z2 z1 z0) :
    CutP rel w (wx.alloc (Obj.cells #[Value.int IntKind.u64 z3, Value.int IntKind.u64 z2, Value.int IntKind.u64 z1, Value.int IntKind.u64 z0] T)) a3 a2 a1 a0 b3 b2 b1 b0 (.pointer (some ⟨wx.heap.size, 0, none⟩)) :=
  ⟨_, z3, z2, z1, z0, rfl, h.alloc _, r.alloc _, Wd.new _ _ _ _ _ _ rfl, r.lt, hr⟩
theorem Wd.stored {W : World} {g : Nat} {a3 a2 a1 a0 : Int} (h : Wd W g a3 a2 a1 a0) (z3 z2 z1 z0 : Int) : Wd ((((W.setCell ⟨g, 0, none⟩ (.int .u64 z3)).setCell ⟨g, 1, none⟩ (.int .u64 z2)).setCell ⟨g, 2, none⟩ (.int .u64 z1)).setCell ⟨g, 3, none⟩ (.int .u64 z0)) g z3 z2 z1 z0 := by
  have e0 := h.c0; have e1 := h.c1; have e2 := h.c2; have e3 := h.c3
  have p0 := h.f0; have p1 := h.f1; have p2 := h.f2; have p3 := h.f3
  exact ⟨by simp [go_sem, e0], by simp [go_sem, e1], by simp [go_sem, e2], by simp [go_sem, e3], by simp [go_sem, p0], by simp [go_sem, p1], by simp [go_sem, p2], by simp [go_sem, p3], by simpa [World.setCell] using h.lt⟩
theorem cut_set {rel : Int → Int → Int → Int → Prop} {w wx : World} {a3 a2 a1 a0 b3 b2 b1 b0 y3 y2 y1 y0 z3 z2 z1 z0 : Int} {g : Nat} (h : TwoW w wx a3 a2 a1 a0 b3 b2 b1 b0) (r : Wd wx (w.heap.size + 1 + 1) 0 0 0 0) (G : Wd wx g y3 y2 y1 y0) (hg : w.heap.size + 1 + 1 < g) (hr : rel z3 z2 z1 z0) :
    CutP rel w ((((wx.setCell ⟨g, 0, none⟩ (.int .u64 z3)).setCell ⟨g, 1, none⟩ (.int .u64 z2)).setCell ⟨g, 2, none⟩ (.int .u64 z1)).setCell ⟨g, 3, none⟩ (.int .u64 z0)) a3 a2 a1 a0 b3 b2 b1 b0 (.pointer (some ⟨g, 0, none⟩)) :=
  ⟨g, z3, z2, z1, z0, rfl, h.set (by omega) _ _ _ _, r.set (by omega) _ _ _ _, G.stored _ _ _ _, hg, hr⟩
theorem cut_drew {rel : Int → Int → Int → Int → Prop} {w wx : World} {a3 a2 a1 a0 b3 b2 b1 b0 : Int} {p : Value} (h : CutP rel w wx a3 a2 a1 a0 b3 b2 b1 b0 p) : CutP rel w wx.drew a3 a2 a1 a0 b3 b2 b1 b0 p := by
  obtain ⟨g, z3, z2, z1, z0, e, T, R, G, hg, hr⟩ := h
  exact ⟨g, z3, z2, z1, z0, e, T.drew, R.drew, G.drew, hg, hr⟩
def Cells12 (w W : World) (g : Nat) (a3 a2 a1 a0 b3 b2 b1 b0 z3 z2 z1 z0 : Int) : Prop :=
  W.cell? ⟨w.heap.size, 0, none⟩ = some (.int .u64 a3) ∧ W.cell? ⟨w.heap.size, 1, none⟩ = some (.int .u64 a2) ∧ W.cell? ⟨w.heap.size, 2, none⟩ = some (.int .u64 a1) ∧ W.cell? ⟨w.heap.size, 3, none⟩ = some (.int .u64 a0) ∧
  W.cell? ⟨w.heap.size + 1, 0, none⟩ = some (.int .u64 b3) ∧ W.cell? ⟨w.heap.size + 1, 1, none⟩ = some (.int .u64 b2) ∧ W.cell? ⟨w.heap.size + 1, 2, none⟩ = some (.int .u64 b1) ∧ W.cell? ⟨w.heap.size + 1, 3, none⟩ = some (.int .u64 b0) ∧
  W.cell? ⟨g, 0, none⟩ = some (.int .u64 z3) ∧ W.cell? ⟨g, 1, none⟩ = some (.int .u64 z2) ∧ W.cell? ⟨g, 2, none⟩ = some (.int .u64 z1) ∧ W.cell? ⟨g, 3, none⟩ = some (.int .u64 z0)
theorem cells12 {w W : World} {g : Nat} {a3 a2 a1 a0 b3 b2 b1 b0 z3 z2 z1 z0 : Int} (h : TwoW w W a3 a2 a1 a0 b3 b2 b1 b0) (G : Wd W g z3 z2 z1 z0) : Cells12 w W g a3 a2 a1 a0 b3 b2 b1 b0 z3 z2 z1 z0 :=
  ⟨h.a.c0, h.a.c1, h.a.c2, h.a.c3, h.b.c0, h.b.c1, h.b.c2, h.b.c3, G.c0, G.c1, G.c2, G.c3⟩
theorem cells8x {w W : World} {a3 a2 a1 a0 b3 b2 b1 b0 : Int} (h : TwoW w W a3 a2 a1 a0 b3 b2 b1 b0) : W.cell? ⟨w.heap.size, 0, none⟩ = some (.int .u64 a3) ∧ W.cell? ⟨w.heap.size, 1, none⟩ = some (.int .u64 a2) ∧ W.cell? ⟨w.heap.size, 2, none⟩ = some (.int .u64 a1) ∧ W.cell? ⟨w.heap.size, 3, none⟩ = some (.int .u64 a0) ∧ W.cell? ⟨w.heap.size + 1, 0, none⟩ = some (.int .u64 b3) ∧ W.cell? ⟨w.heap.size + 1, 1, none⟩ = some (.int .u64 b2) ∧ W.cell? ⟨w.heap.size + 1, 2, none⟩ = some (.int .u64 b1) ∧ W.cell? ⟨w.heap.size + 1, 3, none⟩ = some (.int .u64 b0) := ⟨h.a.c0, h.a.c1, h.a.c2, h.a.c3, h.b.c0, h.b.c1, h.b.c2, h.b.c3⟩
theorem cells12x {w W : World} {g : Nat} {a3 a2 a1 a0 b3 b2 b1 b0 z3 z2 z1 z0 : Int} (h : TwoW w W a3 a2 a1 a0 b3 b2 b1 b0) (G : Wd W g z3 z2 z1 z0) : W.cell? ⟨w.heap.size, 0, none⟩ = some (.int .u64 a3) ∧ W.cell? ⟨w.heap.size, 1, none⟩ = some (.int .u64 a2) ∧ W.cell? ⟨w.heap.size, 2, none⟩ = some (.int .u64 a1) ∧ W.cell? ⟨w.heap.size, 3, none⟩ = some (.int .u64 a0) ∧ W.cell? ⟨w.heap.size + 1, 0, none⟩ = some (.int .u64 b3) ∧ W.cell? ⟨w.heap.size + 1, 1, none⟩ = some (.int .u64 b2) ∧ W.cell? ⟨w.heap.size + 1, 2, none⟩ = some (.int .u64 b1) ∧ W.cell? ⟨w.heap.size + 1, 3, none⟩ = some (.int .u64 b0) ∧ W.cell? ⟨g, 0, none⟩ = some (.int .u64 z3) ∧ W.cell? ⟨g, 1, none⟩ = some (.int .u64 z2) ∧ W.cell? ⟨g, 2, none⟩ = some (.int .u64 z1) ∧ W.cell? ⟨g, 3, none⟩ = some (.int .u64 z0) := ⟨h.a.c0, h.a.c1, h.a.c2, h.a.c3, h.b.c0, h.b.c1, h.b.c2, h.b.c3, G.c0, G.c1, G.c2, G.c3⟩
def PlusR (a3 a2 a1 a0 b3 b2 b1 b0 z3 z2 z1 z0 : Int) : Prop := Word z3 ∧ Word z2 ∧ Word z1 ∧ Word z0 ∧ ∃ c, 0 ≤ c ∧ c ≤ 1 ∧ uw z3 z2 z1 z0 + c * 115792089237316195423570985008687907853269984665640564039457584007913129639936 = uw a3 a2 a1 a0 + uw b3 b2 b1 b0
def MinusR (a3 a2 a1 a0 b3 b2 b1 b0 z3 z2 z1 z0 : Int) : Prop := Word z3 ∧ Word z2 ∧ Word z1 ∧ Word z0 ∧ ∃ c, 0 ≤ c ∧ c ≤ 1 ∧ uw z3 z2 z1 z0 = uw a3 a2 a1 a0 - uw b3 b2 b1 b0 + c * 115792089237316195423570985008687907853269984665640564039457584007913129639936
theorem pw64_4 : pw64 4 = 115792089237316195423570985008687907853269984665640564039457584007913129639936 := by decide
theorem plusR_of {a3 a2 a1 a0 b3 b2 b1 b0 : Int} {w w' : World} {e : Ending} (h : PlusP [a0, a1, a2, a3] [b0, b1, b2, b3] w e w') : ∃ z3 z2 z1 z0, e = .returned (.agg #[.int .u64 z0, .int .u64 z1, .int .u64 z2, .int .u64 z3]) ∧ PlusR a3 a2 a1 a0 b3 b2 b1 b0 z3 z2 z1 z0 ∧ Below w.heap.size w w' := by
  obtain ⟨zs, c, rfl, h1, h2, h3, h4, h5, h6⟩ := h
  obtain ⟨z0, z1, z2, z3, rfl⟩ := list4 h1
  obtain ⟨g0, g1, g2, g3⟩ := words4_of h2
  rw [val64_4, val64_4, val64_4, show [a0, a1, a2, a3].length = 4 from rfl, pw64_4] at h5
  exact ⟨z3, z2, z1, z0, rfl, ⟨g3, g2, g1, g0, c, h3, h4, h5⟩, h6⟩
theorem minusR_of {a3 a2 a1 a0 b3 b2 b1 b0 : Int} {w w' : World} {e : Ending} (h : MinusP [a0, a1, a2, a3] [b0, b1, b2, b3] w e w') : ∃ z3 z2 z1 z0, e = .returned (.agg #[.int .u64 z0, .int .u64 z1, .int .u64 z2, .int .u64 z3]) ∧ MinusR a3 a2 a1 a0 b3 b2 b1 b0 z3 z2 z1 z0 ∧ Below w.heap.size w w' := by
  obtain ⟨zs, c, rfl, h1, h2, h3, h4, h5, h6⟩ := h
  obtain ⟨z0, z1, z2, z3, rfl⟩ := list4 h1
  obtain ⟨g0, g1, g2, g3⟩ := words4_of h2
  rw [val64_4, val64_4, val64_4, show [a0, a1, a2, a3].length = 4 from rfl, pw64_4] at h5
  exact ⟨z3, z2, z1, z0, rfl, ⟨g3, g2, g1, g0, c, h3, h4, h5⟩, h6⟩
end Go.Proofs.Ytinilehbhdpdkaa
