/- Fractions: whether one is right. -/
import Derived.Test.YtllfpnnngdphfaaImplGcd
import Derived.Test.YtllfpnnngdphfaaSpecGcd
import Derived.Test.YtllfpnnngdphfaaBase2
namespace Go.Proofs.Ytllfpnnngdphfaa
open Go.RowKit
/-- Two numbers as they lie in memory, side by side. -/
def TwoNP (x y : Int) (w : World) (e : Ending) (w' : World) : Prop :=
  ∃ (s : Bool) (ao : Option Addr) (n cap : Nat) (ds : List Int) (t : Bool) (bo : Option Addr) (m c : Nat) (es : List Int), e = .returned (.agg #[.bool s, .slice ao n cap, .bool t, .slice bo m c]) ∧ IsNum w' s ao n cap ds x 8 ∧ IsNum w' t bo m c es y 8 ∧ Below w.heap.size w w'
theorem IsNum.set {w : World} {s : Bool} {ao : Option Addr} {n cap : Nat} {ds : List Int} {z : Int} {k : Nat} (h : IsNum w s ao n cap ds z k) {p : Addr} {v : Value} (h0 : w.cell? p = some v) (hv : ∀ i, v ≠ .int .u32 i) (u : Value) : IsNum (w.setCell p u) s ao n cap ds z k :=
  ⟨h.neg, h.len, h.cap, h.rd.set u h0 hv, h.nrm, h.val, h.le⟩
theorem TwoNP.drew {x y : Int} {w w' : World} {e : Ending} (h : TwoNP x y w e w') : TwoNP x y w e w'.drew := by
  obtain ⟨s, ao, n, cap, ds, t, bo, m, c, es, he, N1, N2, hB⟩ := h
  exact ⟨s, ao, n, cap, ds, t, bo, m, c, es, he, ⟨N1.neg, N1.len, N1.cap, N1.rd, N1.nrm, N1.val, N1.le⟩, ⟨N2.neg, N2.len, N2.cap, N2.rd, N2.nrm, N2.val, N2.le⟩, hB.drew⟩
end Go.Proofs.Ytllfpnnngdphfaa
