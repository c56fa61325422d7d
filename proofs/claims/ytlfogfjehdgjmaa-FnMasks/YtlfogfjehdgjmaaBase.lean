/- How a number's digits lie in memory: the words that the walks share. -/
import Derived.Test.YtlfogfjehdgjmaaNum
import Derived.Test.YtlfogfjehdgjmaaRows
import Derived.WalkKit
import Derived.WalkSpells
import Derived.WalkLawsBesides
namespace Go.Proofs.Ytlfogfjehdgjmaa
open Go.RowKit

/-- The digits lie behind the address (nothing is asked of an empty list). -/
def Rd (w : World) (ao : Option Addr) (ds : List Int) : Prop :=
  ∀ i, (h : i < ds.length) → ∃ b off, ao = some ⟨b, off, none⟩ ∧ b < w.heap.size ∧ w.cell? ⟨b, off + i, none⟩ = some (.int .u32 ds[i])
theorem Rd.nil (w : World) (ao : Option Addr) : Rd w ao [] := by intro i h; simp at h
theorem Rd.below {w w' : World} {ao : Option Addr} {ds : List Int} (h : Rd w ao ds) {B : Nat} (hb : Below B w w') (hB : w.heap.size ≤ B) : Rd w' ao ds := by
  intro i hi
  obtain ⟨b, off, e, hl, hc⟩ := h i hi
  refine ⟨b, off, e, Nat.lt_of_lt_of_le hl hb.size, ?_⟩
  rw [hb.cell (by show b < B; omega)]; exact hc
theorem Rd.take {w : World} {ao : Option Addr} {ds : List Int} (h : Rd w ao ds) (n : Nat) : Rd w ao (ds.take n) := by
  intro i hi
  have : i < ds.length := by simp at hi; omega
  obtain ⟨b, off, e, hl, hc⟩ := h i this
  exact ⟨b, off, e, hl, by rw [hc]; simp⟩
/-- What is read at a place. -/
theorem Rd.at {w : World} {b off : Nat} {ds : List Int} (h : Rd w (some ⟨b, off, none⟩) ds) (k : Nat) (hk : k < ds.length) : w.cell? ⟨b, off + k, none⟩ = some (.int .u32 ds[k]) := by
  obtain ⟨b', off', e, hl, hc⟩ := h k hk
  cases e
  exact hc
theorem cell_alloc {w : World} {o : Obj} {b off : Nat} {v : Value} (hb : b < w.heap.size) (h : w.cell? ⟨b, off, none⟩ = some v) : (w.alloc o).cell? ⟨b, off, none⟩ = some v := by
  rw [((Below.refl w.heap.size w).alloc (Nat.le_refl _) o).cell (p := ⟨b, off, none⟩) hb]; exact h
theorem one_cell (k : IntKind) (x : Int) : ∀ u ∈ [Value.int k x], u.oneCell' = true := by
  intro u hu
  simp only [List.mem_singleton] at hu
  subst hu; rfl
/-- Digits in a row of the call's own. -/
theorem Rd.own {w : World} {base g n cap : Nat} {e : TypeId} {zs : List Int} (h : w.ownsRow base e 1 (.slice (some ⟨g, 0, none⟩) n cap) n (zs.map (Value.int .u32))) (hl : zs.length = n) : Rd w (some ⟨g, 0, none⟩) zs := by
  intro i hi
  refine ⟨g, 0, rfl, (h.lt g rfl).2, ?_⟩
  rw [Nat.zero_add, h.cellAt i (by omega)]
  simp [hi]
/-- A store into a cell that holds no digit turns no digit. -/
theorem Rd.set {w : World} {ao : Option Addr} {ds : List Int} (h : Rd w ao ds) {p : Addr} {v : Value} (u : Value) (hp : w.cell? p = some v) (hv : ∀ x, v ≠ .int .u32 x) : Rd (w.setCell p u) ao ds := by
  intro i hi
  obtain ⟨b, off, e, hl, hc⟩ := h i hi
  refine ⟨b, off, e, by simpa [World.setCell] using hl, ?_⟩
  have hne : p ≠ ⟨b, off + i, none⟩ := by
    intro e'
    rw [e', hc] at hp
    exact hv _ (by simpa using hp.symm)
  exact (World.cell?_setCell_other _ _ _ _ hne).trans hc
/-- A number of at most k digits as it lies in memory: its sign, its digits. -/
structure IsNum (w : World) (s : Bool) (ao : Option Addr) (n cap : Nat) (ds : List Int) (z : Int) (k : Nat) : Prop where
  neg : s = decide (z < 0)
  len : ds.length = n
  cap : n ≤ cap
  rd : Rd w ao ds
  nrm : Nrm ds
  val : val ds = (z.natAbs : Int)
  le : n ≤ k
theorem IsNum.below {w w' : World} {s : Bool} {ao : Option Addr} {n cap : Nat} {ds : List Int} {z : Int} {k : Nat} (h : IsNum w s ao n cap ds z k) (hb : Below w.heap.size w w') : IsNum w' s ao n cap ds z k :=
  ⟨h.neg, h.len, h.cap, h.rd.below hb (Nat.le_refl _), h.nrm, h.val, h.le⟩
theorem IsNum.zero {w : World} {s : Bool} {ao : Option Addr} {n cap : Nat} {ds : List Int} {z : Int} {k : Nat} (h : IsNum w s ao n cap ds z k) : n = 0 ↔ z = 0 := by
  have h1 := nrm_zero h.nrm
  have h2 := h.val
  have h3 := h.len
  constructor
  · intro h0
    have : ds = [] := List.eq_nil_of_length_eq_zero (by omega)
    have := h1.2 this; omega
  · rintro rfl
    have : ds = [] := h1.1 (by rw [h2]; rfl)
    rw [this] at h3; simpa using h3.symm
end Go.Proofs.Ytlfogfjehdgjmaa
