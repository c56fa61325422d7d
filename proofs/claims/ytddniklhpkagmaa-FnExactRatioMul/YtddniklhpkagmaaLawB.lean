/- What the walks of the laws over two numbers of four words share. -/
import Derived.Test.YtddniklhpkagmaaBase2
namespace Go.Proofs.Ytddniklhpkagmaa
open Go.RowKit
/-- A number that was told lies in the block g, its flag beside it. -/
def LayP (z : Int) (w wx : World) (g : Nat) (x3 x2 x1 x0 : Int) (t : Bool) : Prop :=
  Wd wx g x3 x2 x1 x0 ∧ w.heap.size + 1 < g ∧ ∃ u v, TellP z u (.returned (.tuple #[.agg #[.int .u64 x3, .int .u64 x2, .int .u64 x1, .int .u64 x0], .bool t])) v
theorem LayP.step {z : Int} {w W W' : World} {g : Nat} {x3 x2 x1 x0 : Int} {t : Bool} (h : LayP z w W g x3 x2 x1 x0 t) (hb : Below W.heap.size W W') : LayP z w W' g x3 x2 x1 x0 t := ⟨h.1.step hb, h.2⟩
theorem LayP.alloc {z : Int} {w W : World} {g : Nat} {x3 x2 x1 x0 : Int} {t : Bool} (h : LayP z w W g x3 x2 x1 x0 t) (o : Obj) : LayP z w (W.alloc o) g x3 x2 x1 x0 t := ⟨h.1.alloc o, h.2⟩
theorem LayP.drew {z : Int} {w W : World} {g : Nat} {x3 x2 x1 x0 : Int} {t : Bool} (h : LayP z w W g x3 x2 x1 x0 t) : LayP z w W.drew g x3 x2 x1 x0 t := ⟨h.1.drew, h.2⟩
theorem LayP.set {z : Int} {w W : World} {g R : Nat} {x3 x2 x1 x0 : Int} {t : Bool} (h : LayP z w W g x3 x2 x1 x0 t) (hne : g ≠ R) (u0 u1 u2 u3 : Value) : LayP z w ((((W.setCell ⟨R, 0, none⟩ u0).setCell ⟨R, 1, none⟩ u1).setCell ⟨R, 2, none⟩ u2).setCell ⟨R, 3, none⟩ u3) g x3 x2 x1 x0 t := ⟨h.1.set hne _ _ _ _, h.2⟩
/-- What stands behind a law's first call. -/
def CutL (z : Int) (w wx : World) (a3 a2 a1 a0 b3 b2 b1 b0 : Int) (p q : Value) : Prop :=
  ∃ g x3 x2 x1 x0 t, p = .pointer (some ⟨g, 0, none⟩) ∧ q = .bool t ∧ TwoW w wx a3 a2 a1 a0 b3 b2 b1 b0 ∧ LayP z w wx g x3 x2 x1 x0 t
theorem cutL_new {z : Int} {w wx u v : World} {a3 a2 a1 a0 b3 b2 b1 b0 x3 x2 x1 x0 : Int} {t : Bool} {T : TypeId} (h : TwoW w wx a3 a2 a1 a0 b3 b2 b1 b0) (hT : TellP z u (.returned (.tuple #[.agg #[.int .u64 x3, .int .u64 x2, .int .u64 x1, .int .u64 x0], .bool t])) v) :
    CutL z w (wx.alloc (Obj.cells #[Value.int IntKind.u64 x3, Value.int IntKind.u64 x2, Value.int IntKind.u64 x1, Value.int IntKind.u64 x0] T)) a3 a2 a1 a0 b3 b2 b1 b0 (.pointer (some ⟨wx.heap.size, 0, none⟩)) (.bool t) :=
  ⟨_, x3, x2, x1, x0, t, rfl, rfl, h.alloc _, Wd.new _ _ _ _ _ _ rfl, h.b.lt, u, v, hT⟩
theorem cutL_set {z : Int} {w wx u v : World} {a3 a2 a1 a0 b3 b2 b1 b0 y3 y2 y1 y0 x3 x2 x1 x0 : Int} {t : Bool} {g : Nat} (h : TwoW w wx a3 a2 a1 a0 b3 b2 b1 b0) (G : Wd wx g y3 y2 y1 y0) (hg : w.heap.size + 1 < g) (hT : TellP z u (.returned (.tuple #[.agg #[.int .u64 x3, .int .u64 x2, .int .u64 x1, .int .u64 x0], .bool t])) v) :
    CutL z w ((((wx.setCell ⟨g, 0, none⟩ (.int .u64 x3)).setCell ⟨g, 1, none⟩ (.int .u64 x2)).setCell ⟨g, 2, none⟩ (.int .u64 x1)).setCell ⟨g, 3, none⟩ (.int .u64 x0)) a3 a2 a1 a0 b3 b2 b1 b0 (.pointer (some ⟨g, 0, none⟩)) (.bool t) :=
  ⟨g, x3, x2, x1, x0, t, rfl, rfl, h.set hg _ _ _ _, G.stored _ _ _ _, hg, u, v, hT⟩
theorem cutL_drew {z : Int} {w wx : World} {a3 a2 a1 a0 b3 b2 b1 b0 : Int} {p q : Value} (h : CutL z w wx a3 a2 a1 a0 b3 b2 b1 b0 p q) : CutL z w wx.drew a3 a2 a1 a0 b3 b2 b1 b0 p q := by
  obtain ⟨g, x3, x2, x1, x0, t, e, f, T, L⟩ := h
  exact ⟨g, x3, x2, x1, x0, t, e, f, T.drew, L.drew⟩
end Go.Proofs.Ytddniklhpkagmaa
