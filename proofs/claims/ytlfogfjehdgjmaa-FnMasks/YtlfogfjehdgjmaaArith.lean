/- The walks of negation, sum, difference and comparison of numbers. -/
import Derived.Test.YtlfogfjehdgjmaaAddAbs
import Derived.Test.YtlfogfjehdgjmaaSmall
import Derived.Deep.RegionHeld3
namespace Go.Proofs.Ytlfogfjehdgjmaa
open Go.RowKit
/-- What is kept of two boxed numbers and of the result's cell. -/
structure Two (w W : World) (A0 A1 B0 B1 : Value) : Prop where
  a0 : W.cell? ⟨w.heap.size, 0, none⟩ = some A0
  a1 : W.cell? ⟨w.heap.size, 1, none⟩ = some A1
  b0 : W.cell? ⟨w.heap.size + 1, 0, none⟩ = some B0
  b1 : W.cell? ⟨w.heap.size + 1, 1, none⟩ = some B1
  r0 : W.cell? ⟨w.heap.size + 1 + 1, 0, none⟩ = some (.bool false)
  r1 : W.cell? ⟨w.heap.size + 1 + 1, 1, none⟩ = some (.slice none 0 0)
  f0 : W.frozen? ⟨w.heap.size + 1 + 1, 0, none⟩ = false
  f1 : W.frozen? ⟨w.heap.size + 1 + 1, 1, none⟩ = false
  sz : w.heap.size + 1 + 1 < W.heap.size
  below : Below w.heap.size w W
theorem Two.step {w W W' : World} {A0 A1 B0 B1 : Value} (h : Two w W A0 A1 B0 B1) (hb : Below W.heap.size W W') : Two w W' A0 A1 B0 B1 := by
  have hs := h.sz
  have hc := fun b o (hl : b < W.heap.size) => hb.cell (p := ⟨b, o, none⟩) hl
  have hf := fun b o (hl : b < W.heap.size) => hb.frozen (p := ⟨b, o, none⟩) hl
  exact ⟨(hc _ _ (by omega)).trans h.a0, (hc _ _ (by omega)).trans h.a1, (hc _ _ (by omega)).trans h.b0, (hc _ _ (by omega)).trans h.b1, (hc _ _ hs).trans h.r0, (hc _ _ hs).trans h.r1, (hf _ _ hs).trans h.f0, (hf _ _ hs).trans h.f1,
    Nat.lt_of_lt_of_le hs hb.size, h.below.trans (hb.mono h.below.size)⟩
end Go.Proofs.Ytlfogfjehdgjmaa
