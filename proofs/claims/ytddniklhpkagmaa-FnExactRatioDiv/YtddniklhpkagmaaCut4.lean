/- Two rows of four values, and a flag, laid behind the arguments. -/
import Derived.Test.YtddniklhpkagmaaBase3
namespace Go.Proofs.Ytddniklhpkagmaa
open Go.RowKit
theorem ArgsB.set4g {w W : World} {vss : List (List Value)} (h : ArgsB w W vss) {g : Nat} (hg : w.heap.size + vss.length ≤ g) (v0 v1 v2 v3 : Value) : ArgsB w ((((W.setCell ⟨g, 0, none⟩ v0).setCell ⟨g, 1, none⟩ v1).setCell ⟨g, 2, none⟩ v2).setCell ⟨g, 3, none⟩ v3) vss := (((h.set (by exact hg) _).set (by exact hg) _).set (by exact hg) _).set (by exact hg) _
theorem Blk.newG (W : World) (o : Obj) (vs : List Value) (T : TypeId) : Blk ((W.alloc o).alloc (.cells vs.toArray T)) (W.heap.size + 1) vs := Blk.new _ _ _ (by simp)
def CutY (w wx : World) (vss : List (List Value)) (xs ys : List Value) (b : Bool) (p q r : Value) : Prop :=
  ∃ g g', p = (.pointer (some ⟨g, 0, none⟩)) ∧ q = (.pointer (some ⟨g', 0, none⟩)) ∧ r = .bool b ∧ g ≠ g' ∧ w.heap.size + vss.length ≤ g ∧ w.heap.size + vss.length ≤ g' ∧ ArgsB w wx vss ∧ Blk wx g xs ∧ Blk wx g' ys
theorem CutY.drew {w wx : World} {vss : List (List Value)} {xs ys : List Value} {b : Bool} {p q r : Value} (h : CutY w wx vss xs ys b p q r) : CutY w wx.drew vss xs ys b p q r := by
  obtain ⟨g, g', e, f, i, n, l, l', A, B, C⟩ := h
  exact ⟨g, g', e, f, i, n, l, l', A.drew, B.drew, C.drew⟩
end Go.Proofs.Ytddniklhpkagmaa
