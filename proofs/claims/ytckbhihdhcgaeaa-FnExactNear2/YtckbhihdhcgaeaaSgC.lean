/- On which side of a segment a point lies: both sides. -/
import Derived.Test.YtckbhihdhcgaeaaBas12
import Derived.Test.YtckbhihdhcgaeaaPtV
namespace Go.Proofs.Ytckbhihdhcgaeaa
open Go.RowKit
theorem in6_seg {a b c d : Int} (h : segOk a b c d = true) : (-1000000 ≤ a ∧ a ≤ 1000000) ∧ (-1000000 ≤ b ∧ b ≤ 1000000) ∧ (-1000000 ≤ c ∧ c ≤ 1000000) ∧ (-1000000 ≤ d ∧ d ≤ 1000000) := by
  unfold segOk spotOk at h
  simp at h
  omega
end Go.Proofs.Ytckbhihdhcgaeaa
