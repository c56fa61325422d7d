/- How a number's digits lie in memory: the words that the walks share. -/
import Derived.Test.YtinilehbhdpdkaaNum
import Derived.Test.YtinilehbhdpdkaaRows
import Derived.WalkKit
import Derived.WalkSpells
import Derived.WalkLawsBesides
namespace Go.Proofs.Ytinilehbhdpdkaa
open Go.RowKit

/-- The digits lie behind the address (nothing is asked of an empty list). -/
def Rd (w : World) (ao : Option Addr) (ds : List Int) : Prop :=
  ∀ i, (h : i < ds.length) → ∃ b off, ao = some ⟨b, off, none⟩ ∧ b < w.heap.size ∧ w.cell? ⟨b, off + i, none⟩ = some (.int .u32 ds[i])
theorem Rd.nil (w : World) (ao : Option Addr) : Rd w ao [] := by intro i h; simp at h
theorem Rd.below {w w' : World} {ao : Option Addr} {ds : List Int} (h : Rd w ao ds) {B : Nat} (hb : Below B w w') (hB : w.heap.size ≤ B) : Rd w' ao ds := by
  intro i hi
  obtain ⟨b, off, e, hl, hc⟩ := h i hi
  refine ⟨b, off, e, Nat.lt_of_lt_of_le hl hb.size, ?_⟩
  rw [hb.cell (by show b < B; omega)]; exact hc
theorem Rd.take {w : World} {ao : Option Addr} {ds : List Int} (h : Rd w ao ds) (n : Nat) : Rd w ao (ds.take n) := by
  intro i hi
  have : i < ds.length := by simp at hi; omega
  obtain ⟨b, off, e, hl, hc⟩ := h i this
  exact ⟨b, off, e, hl, by rw [hc]; simp⟩
/-- What is read at a place. -/
theorem Rd.at {w : World} {b off : Nat} {ds : List Int} (h : Rd w (some ⟨b, off, none⟩) ds) (k : Nat) (hk : k < ds.length) : w.cell? ⟨b, off + k, none⟩ = some (.int .u32 ds[k]) := by
  obtain ⟨b', off', e, hl, hc⟩ := h k hk
  cases e
  exact hc
theorem cell_alloc {w : World} {o : Obj} {b off : Nat} {v : Value} (hb : b < w.heap.size) (h : w.cell? ⟨b, off, none⟩ = some v) : (w.alloc o).cell? ⟨b, off, none⟩ = some v := by
  rw [((Below.refl w.heap.size w).alloc (Nat.le_refl _) o).cell (p := ⟨b, off, none⟩) hb]; exact h
theorem ret_int {k : IntKind} {a b : Int} (h : b = a) : Ending.returned (.int k a) = .returned (.int k b) := by rw [h]
theorem bdrew {B : Nat} {a w : World} (h : Below B a w) (n : Nat) : Below B a (w.drewN n) := ⟨h.os, h.tape, h.output, h.size, h.block⟩
theorem one_cell (k : IntKind) (x : Int) : ∀ u ∈ [Value.int k x], u.oneCell' = true := by
  intro u hu
  simp only [List.mem_singleton] at hu
  subst hu; rfl
/-- Digits in a row of the call's own. -/
theorem Rd.own {w : World} {base g n cap : Nat} {e : TypeId} {zs : List Int} (h : w.ownsRow base e 1 (.slice (some ⟨g, 0, none⟩) n cap) n (zs.map (Value.int .u32))) (hl : zs.length = n) : Rd w (some ⟨g, 0, none⟩) zs := by
  intro i hi
  refine ⟨g, 0, rfl, (h.lt g rfl).2, ?_⟩
  rw [Nat.zero_add, h.cellAt i (by omega)]
  simp [hi]
theorem own_cap {w : World} {base g n cap : Nat} {e : TypeId} {xs : List Value} (h : w.ownsRow base e 1 (.slice (some ⟨g, 0, none⟩) n cap) n xs) : n ≤ cap := by
  rcases h.2 with ⟨h', _⟩ | ⟨g', cap', cur, h', _, _, hc, _⟩
  · simp at h'
  · simp only [Value.slice.injEq, Option.some.injEq, Addr.mk.injEq, and_true, true_and] at h'
    omega
/-- What is owned and is not nil has its form. -/
theorem own_shape {w : World} {base n : Nat} {e : TypeId} {v : Value} {xs : List Value} (h : w.ownsRow base e 1 v n xs) (hne : v ≠ .slice none 0 0) : ∃ g cap, v = .slice (some ⟨g, 0, none⟩) n cap := by
  rcases h.2 with ⟨h', _⟩ | ⟨g, cap, _, h', _⟩
  · exact absurd h' hne
  · exact ⟨g, cap, h'⟩
theorem made_one (v : Value) (q : Nat) : (madeCells #[v] q).toList = List.replicate q v := by
  apply List.ext_getElem
  · simp [madeCells]
  · intro i h1 h2
    simp [madeCells, Nat.mod_one]
theorem field_d (x0 x1 : Value) (w : World) : (Instr.field 47 (.agg #[x0, x1]) 1).run Try.prog w = .ok x1 w := by kernel_rfl
/-- A store into a cell that holds no digit turns no digit. -/
theorem Rd.set {w : World} {ao : Option Addr} {ds : List Int} (h : Rd w ao ds) {p : Addr} {v : Value} (u : Value) (hp : w.cell? p = some v) (hv : ∀ x, v ≠ .int .u32 x) : Rd (w.setCell p u) ao ds := by
  intro i hi
  obtain ⟨b, off, e, hl, hc⟩ := h i hi
  refine ⟨b, off, e, by simpa [World.setCell] using hl, ?_⟩
  have hne : p ≠ ⟨b, off + i, none⟩ := by
    intro e'
    rw [e', hc] at hp
    exact hv _ (by simpa using hp.symm)
  exact (World.cell?_setCell_other _ _ _ _ hne).trans hc
/-- The digits of a slice that is written out. -/
theorem Rd.lit (w : World) {cs : Array Value} {e : TypeId} {zs : List Int} {g : Nat} (hg : g = w.heap.size) (h : cs.toList = zs.map (Value.int .u32)) (hl : zs.length ≤ maxLen) : Rd (w.alloc (.cells cs e)) (some ⟨g, 0, none⟩) zs := by
  subst hg
  have hs : cs.size = zs.length * 1 := by rw [← Array.length_toList, h]; simp
  have := World.ownsRow_lit (base := w.heap.size) (e := e) (size := 1) w cs zs.length (Nat.le_refl _) hl hs
  rw [h] at this
  exact Rd.own this rfl
/-- The two cells of a result that was laid first. -/
theorem res2 {w w3 : World} {a b : Value} {T : TypeId} (h : Below (w.heap.size + 1) (w.alloc (.cells #[a, b] T)) w3) :
    w3.cell? ⟨w.heap.size, 0, none⟩ = some a ∧ w3.cell? ⟨w.heap.size, 1, none⟩ = some b ∧ w3.frozen? ⟨w.heap.size, 0, none⟩ = false ∧ w3.frozen? ⟨w.heap.size, 1, none⟩ = false ∧ w.heap.size < w3.heap.size ∧ Below w.heap.size w w3 := by
  refine ⟨?_, ?_, ?_, ?_, ?_, ((Below.refl _ _).alloc (Nat.le_refl _) _).trans (h.mono (Nat.le_succ _))⟩
  · rw [h.cell (p := ⟨w.heap.size, 0, none⟩) (Nat.lt_succ_self _)]; simp [go_sem]
  · rw [h.cell (p := ⟨w.heap.size, 1, none⟩) (Nat.lt_succ_self _)]; simp [go_sem]
  · rw [h.frozen (p := ⟨w.heap.size, 0, none⟩) (Nat.lt_succ_self _)]; simp [go_sem]
  · rw [h.frozen (p := ⟨w.heap.size, 1, none⟩) (Nat.lt_succ_self _)]; simp [go_sem]
  · have := h.size; simp at this; omega
theorem bcell {W w1 : World} (hb : Below W.heap.size W w1) : (∀ b o, b < W.heap.size → w1.cell? ⟨b, o, none⟩ = W.cell? ⟨b, o, none⟩) ∧ (∀ b o, b < W.heap.size → w1.frozen? ⟨b, o, none⟩ = W.frozen? ⟨b, o, none⟩) :=
  ⟨fun b o h => hb.cell (p := ⟨b, o, none⟩) h, fun b o h => hb.frozen (p := ⟨b, o, none⟩) h⟩
/-- A number of at most k digits as it lies in memory: its sign, its digits. -/
structure IsNum (w : World) (s : Bool) (ao : Option Addr) (n cap : Nat) (ds : List Int) (z : Int) (k : Nat) : Prop where
  neg : s = decide (z < 0)
  len : ds.length = n
  cap : n ≤ cap
  rd : Rd w ao ds
  nrm : Nrm ds
  val : val ds = (z.natAbs : Int)
  le : n ≤ k
def NumP (k : Nat) (z : Int) (w : World) (e : Ending) (w' : World) : Prop :=
  ∃ (s : Bool) (ao : Option Addr) (n cap : Nat) (ds : List Int), e = .returned (.agg #[.bool s, .slice ao n cap]) ∧ IsNum w' s ao n cap ds z k ∧ Below w.heap.size w w'
theorem num_ret {w w3 : World} {s : Bool} {ao : Option Addr} {n cap : Nat} {ds : List Int} {z : Int} {k R : Nat} {b0 : Bool} {a0 : Option Addr} {n0 c0 : Nat} (hR : w.heap.size ≤ R) (h0 : w3.cell? ⟨R, 0, none⟩ = some (.bool b0)) (h1 : w3.cell? ⟨R, 1, none⟩ = some (.slice a0 n0 c0))
    (h : IsNum w3 s ao n cap ds z k) (hb : Below w.heap.size w w3) : NumP k z w (.returned (.agg #[.bool s, .slice ao n cap])) ((w3.setCell ⟨R, 0, none⟩ (.bool s)).setCell ⟨R, 1, none⟩ (.slice ao n cap)) := by
  refine ⟨s, ao, n, cap, ds, rfl, ⟨h.neg, h.len, h.cap, ?_, h.nrm, h.val, h.le⟩, (hb.setCell hR _).setCell hR _⟩
  have h2 : (w3.setCell ⟨R, 0, none⟩ (.bool s)).cell? ⟨R, 1, none⟩ = some (.slice a0 n0 c0) := (World.cell?_setCell_other _ _ _ _ (by simp)).trans h1
  exact (h.rd.set _ h0 (by simp)).set _ h2 (by simp)
/-- Out of the trimming: a number. -/
theorem num_of {w : World} {neg s : Bool} {ao : Option Addr} {n cap : Nat} {ds' : List Int} {z : Int} {k : Nat} {v : Int} (k1 : ds'.length = n) (k2 : n ≤ cap) (k3 : n ≤ k) (k4 : Nrm ds') (k5 : val ds' = v) (k6 : s = (neg && decide (v ≠ 0))) (k7 : Rd w ao ds')
    (hv : v = (z.natAbs : Int)) (hn : z ≠ 0 → neg = decide (z < 0)) : IsNum w s ao n cap ds' z k := by
  refine ⟨?_, k1, k2, k7, k4, by rw [k5, hv], k3⟩
  by_cases hz : z = 0
  · subst hz; rw [k6, hv]; simp
  · rw [k6, hn hz, hv]; simp [hz]
theorem IsNum.below {w w' : World} {s : Bool} {ao : Option Addr} {n cap : Nat} {ds : List Int} {z : Int} {k : Nat} (h : IsNum w s ao n cap ds z k) (hb : Below w.heap.size w w') : IsNum w' s ao n cap ds z k :=
  ⟨h.neg, h.len, h.cap, h.rd.below hb (Nat.le_refl _), h.nrm, h.val, h.le⟩
theorem IsNum.tight {w : World} {s : Bool} {ao : Option Addr} {n cap : Nat} {ds : List Int} {z : Int} {k : Nat} (h : IsNum w s ao n cap ds z k) (m : Nat) (hz : (z.natAbs : Int) < pw m) : IsNum w s ao n cap ds z m :=
  ⟨h.neg, h.len, h.cap, h.rd, h.nrm, h.val, by have := nrm_length h.nrm m (by rw [h.val]; exact hz); rw [h.len] at this; exact this⟩
theorem IsNum.zero {w : World} {s : Bool} {ao : Option Addr} {n cap : Nat} {ds : List Int} {z : Int} {k : Nat} (h : IsNum w s ao n cap ds z k) : n = 0 ↔ z = 0 := by
  have h1 := nrm_zero h.nrm
  have h2 := h.val
  have h3 := h.len
  constructor
  · intro h0
    have : ds = [] := List.eq_nil_of_length_eq_zero (by omega)
    have := h1.2 this; omega
  · rintro rfl
    have : ds = [] := h1.1 (by rw [h2]; rfl)
    rw [this] at h3; simpa using h3.symm
end Go.Proofs.Ytinilehbhdpdkaa
