/- A row of twelve values laid behind the arguments; how a number reads as data. -/
import Derived.Test.YtckbhihdhcgaeaaBas12
namespace Go.Proofs.Ytckbhihdhcgaeaa
open Go.ChangeShapes Go.WideShapes Go.ChangeAt Go.RowKit Go.Joins
set_option maxRecDepth 100000 in
theorem ArgsB.set12g {w W : World} {vss : List (List Value)} (h : ArgsB w W vss) {g : Nat} (hg : w.heap.size + vss.length ≤ g) (v0 v1 v2 v3 v4 v5 v6 v7 v8 v9 v10 v11 : Value) : ArgsB w ((((((((((((W.setCell ⟨g, 0, none⟩ v0).setCell ⟨g, 1, none⟩ v1).setCell ⟨g, 2, none⟩ v2).setCell ⟨g, 3, none⟩ v3).setCell ⟨g, 4, none⟩ v4).setCell ⟨g, 5, none⟩ v5).setCell ⟨g, 6, none⟩ v6).setCell ⟨g, 7, none⟩ v7).setCell ⟨g, 8, none⟩ v8).setCell ⟨g, 9, none⟩ v9).setCell ⟨g, 10, none⟩ v10).setCell ⟨g, 11, none⟩ v11) vss :=
  (((((((((((h.set (by exact hg) _).set (by exact hg) _).set (by exact hg) _).set (by exact hg) _).set (by exact hg) _).set (by exact hg) _).set (by exact hg) _).set (by exact hg) _).set (by exact hg) _).set (by exact hg) _).set (by exact hg) _).set (by exact hg) _
set_option maxRecDepth 100000 in
theorem cutB_set12 {w wx : World} {vss : List (List Value)} {z0 z1 z2 z3 z4 z5 z6 z7 z8 z9 z10 z11 v0 v1 v2 v3 v4 v5 v6 v7 v8 v9 v10 v11 : Value} {g : Nat} (h : ArgsB w wx vss) (G : Blk wx g [z0, z1, z2, z3, z4, z5, z6, z7, z8, z9, z10, z11]) (hg : w.heap.size + vss.length ≤ g) :
    CutB w ((((((((((((wx.setCell ⟨g, 0, none⟩ v0).setCell ⟨g, 1, none⟩ v1).setCell ⟨g, 2, none⟩ v2).setCell ⟨g, 3, none⟩ v3).setCell ⟨g, 4, none⟩ v4).setCell ⟨g, 5, none⟩ v5).setCell ⟨g, 6, none⟩ v6).setCell ⟨g, 7, none⟩ v7).setCell ⟨g, 8, none⟩ v8).setCell ⟨g, 9, none⟩ v9).setCell ⟨g, 10, none⟩ v10).setCell ⟨g, 11, none⟩ v11) vss [v0, v1, v2, v3, v4, v5, v6, v7, v8, v9, v10, v11] (.pointer (some ⟨g, 0, none⟩)) :=
  ⟨g, rfl, hg, h.set12g hg _ _ _ _ _ _ _ _ _ _ _ _, G.stored12 _ _ _ _ _ _ _ _ _ _ _ _⟩
set_option maxRecDepth 100000 in
theorem open_wideW {H : Type} {enc : TypeId × Value → H} {w : World} {b0 : Nat} {v : Value} {d : DataW H} {p : List MemPlace} (hv : Value.okWide Try.prog w .any b0 24 v) (h : DataW.Trod enc Try.prog w 0 (fun _ => true) true 24 v d p) :
    ∃ x : Int, v = W4 x ∧ d = WdD (ww3 x) (ww2 x) (ww1 x) (ww0 x) ∧ p = [] ∧ told x = true := by
  obtain ⟨a, b, c, e, rfl, rfl, rfl, wa, wb, wc, we⟩ := open_wide hv h
  have ha := word_of_wf wa; have hb := word_of_wf wb; have hc := word_of_wf wc; have he := word_of_wf we
  obtain ⟨f3, f2, f1, f0⟩ := wd_of ha hb hc he rfl
  have ht : told (sw a b c e) = true := by
    unfold told
    apply decide_eq_true
    unfold Word sw uw at *
    split <;> omega
  exact ⟨sw a b c e, by show _ = Value.agg #[.int .u64 (ww3 (sw a b c e)), .int .u64 (ww2 (sw a b c e)), .int .u64 (ww1 (sw a b c e)), .int .u64 (ww0 (sw a b c e))]; rw [← f3, ← f2, ← f1, ← f0], by rw [← f3, ← f2, ← f1, ← f0], rfl, ht⟩
end Go.Proofs.Ytckbhihdhcgaeaa
