/- How a number's digits lie in memory: the words that the walks share. -/
import Derived.Test.YtlfogfjehdgjmaaNum
import Derived.Test.YtlfogfjehdgjmaaRows
import Derived.WalkKit
import Derived.WalkSpells
import Derived.WalkLawsBesides
namespace Go.Proofs.Ytlfogfjehdgjmaa
open Go.RowKit

/-- The digits lie behind the address (nothing is asked of an empty list). -/
def Rd (w : World) (ao : Option Addr) (ds : List Int) : Prop :=
  ∀ i, (h : i < ds.length) → ∃ b off, ao = some ⟨b, off, none⟩ ∧ b < w.heap.size ∧ w.cell? ⟨b, off + i, none⟩ = some (.int .u32 ds[i])
theorem Rd.below {w w' : World} {ao : Option Addr} {ds : List Int} (h : Rd w ao ds) {B : Nat} (hb : Below B w w') (hB : w.heap.size ≤ B) : Rd w' ao ds := by
  intro i hi
  obtain ⟨b, off, e, hl, hc⟩ := h i hi
  refine ⟨b, off, e, Nat.lt_of_lt_of_le hl hb.size, ?_⟩
  rw [hb.cell (by show b < B; omega)]; exact hc
/-- What is read at a place. -/
theorem Rd.at {w : World} {b off : Nat} {ds : List Int} (h : Rd w (some ⟨b, off, none⟩) ds) (k : Nat) (hk : k < ds.length) : w.cell? ⟨b, off + k, none⟩ = some (.int .u32 ds[k]) := by
  obtain ⟨b', off', e, hl, hc⟩ := h k hk
  cases e
  exact hc
/-- Digits in a row of the call's own. -/
theorem Rd.own {w : World} {base g n cap : Nat} {e : TypeId} {zs : List Int} (h : w.ownsRow base e 1 (.slice (some ⟨g, 0, none⟩) n cap) n (zs.map (Value.int .u32))) (hl : zs.length = n) : Rd w (some ⟨g, 0, none⟩) zs := by
  intro i hi
  refine ⟨g, 0, rfl, (h.lt g rfl).2, ?_⟩
  rw [Nat.zero_add, h.cellAt i (by omega)]
  simp [hi]
/-- A store into a cell that holds no digit turns no digit. -/
theorem Rd.set {w : World} {ao : Option Addr} {ds : List Int} (h : Rd w ao ds) {p : Addr} {v : Value} (u : Value) (hp : w.cell? p = some v) (hv : ∀ x, v ≠ .int .u32 x) : Rd (w.setCell p u) ao ds := by
  intro i hi
  obtain ⟨b, off, e, hl, hc⟩ := h i hi
  refine ⟨b, off, e, by simpa [World.setCell] using hl, ?_⟩
  have hne : p ≠ ⟨b, off + i, none⟩ := by
    intro e'
    rw [e', hc] at hp
    exact hv _ (by simpa using hp.symm)
  exact (World.cell?_setCell_other _ _ _ _ hne).trans hc
/-- A number of at most k digits as it lies in memory: its sign, its digits. -/
structure IsNum (w : World) (s : Bool) (ao : Option Addr) (n cap : Nat) (ds : List Int) (z : Int) (k : Nat) : Prop where
  neg : s = decide (z < 0)
  len : ds.length = n
  cap : n ≤ cap
  rd : Rd w ao ds
  nrm : Nrm ds
  val : val ds = (z.natAbs : Int)
  le : n ≤ k
theorem IsNum.below {w w' : World} {s : Bool} {ao : Option Addr} {n cap : Nat} {ds : List Int} {z : Int} {k : Nat} (h : IsNum w s ao n cap ds z k) (hb : Below w.heap.size w w') : IsNum w' s ao n cap ds z k :=
  ⟨h.neg, h.len, h.cap, h.rd.below hb (Nat.le_refl _), h.nrm, h.val, h.le⟩
end Go.Proofs.Ytlfogfjehdgjmaa
