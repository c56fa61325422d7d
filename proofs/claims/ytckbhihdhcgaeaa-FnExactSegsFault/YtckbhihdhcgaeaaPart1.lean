/- Part 1 of the walks that the proof leans on. -/
import Derived.Test.YtckbhihdhcgaeaaRows
import Derived.WalkKit
import Derived.WalkSpells
import Derived.WalkLawsBesides
import Derived.Laws.Bits64b
import Derived.Deep.QuietTactic
import Derived.BigQuiet
import Derived.Laws.Externs
import Derived.Shelf.Spec.BitsCarry
import Derived.BigRegion
import Derived.Deep.CutBlock
import Derived.Deep.DeepCutAuto
import Derived.Deep.RegionWith
import Derived.Shelf.Bits.Mul64
import Derived.Deep.RegionHeld3
import Derived.Deep.LoopGhost
import Derived.WalkMore
import Derived.Deep.MidRow
import Derived.ProofKit
import Derived.Lib.SmallJoins
import Derived.Deep.Strs
import Derived.Deep.OwnRows
/- Plain arithmetic of numbers by their digits in base 2 to the 32: no program in sight. -/
namespace Go.Proofs.Ytckbhihdhcgaeaa

/-- The number that digits stand for, the lowest first. -/
def val : List Int → Int
  | [] => 0
  | d :: t => d + 4294967296 * val t
/-- Each is a digit. -/
def Dig (ds : List Int) : Prop := ∀ d ∈ ds, 0 ≤ d ∧ d < 4294967296
/-- The base to the n. -/
def pw : Nat → Int
  | 0 => 1
  | n + 1 => 4294967296 * pw n

theorem pw_pos (n : Nat) : 0 < pw n := by
  induction n with
  | zero => simp [pw]
  | succ n ih => simp only [pw]; omega
theorem dig_cons {d : Int} {t : List Int} : Dig (d :: t) ↔ (0 ≤ d ∧ d < 4294967296) ∧ Dig t := by
  constructor
  · intro h; exact ⟨h d (by simp), fun x hx => h x (by simp [hx])⟩
  · rintro ⟨h1, h2⟩ x hx
    rcases List.mem_cons.1 hx with rfl | hx
    · exact h1
    · exact h2 x hx
theorem dig_append {a b : List Int} : Dig (a ++ b) ↔ Dig a ∧ Dig b := by
  constructor
  · intro h; exact ⟨fun x hx => h x (by simp [hx]), fun x hx => h x (by simp [hx])⟩
  · rintro ⟨h1, h2⟩ x hx
    rcases List.mem_append.1 hx with hx | hx
    · exact h1 x hx
    · exact h2 x hx
theorem val_append (a b : List Int) : val (a ++ b) = val a + pw a.length * val b := by
  induction a with
  | nil => simp [val, pw]
  | cons d t ih =>
    simp only [List.cons_append, val, List.length_cons, pw, ih, Int.mul_add, Int.mul_assoc]
    omega
theorem val_snoc (a : List Int) (d : Int) : val (a ++ [d]) = val a + pw a.length * d := by
  rw [val_append]; simp [val]
theorem val_nonneg {a : List Int} (h : Dig a) : 0 ≤ val a := by
  induction a with
  | nil => simp [val]
  | cons d t ih =>
    obtain ⟨h1, h2⟩ := dig_cons.1 h
    have := ih h2
    simp only [val]; omega
/-- No digit 0 at the high end. -/
def Nrm (ds : List Int) : Prop := Dig ds ∧ (ds = [] ∨ ∃ t d, ds = t ++ [d] ∧ d ≠ 0)
/-- So many digits and no fewer. -/
theorem nrm_low {ds : List Int} (h : Nrm ds) (hne : ds ≠ []) : pw (ds.length - 1) ≤ val ds := by
  obtain ⟨hd, h | ⟨t, d, rfl, h⟩⟩ := h
  · exact absurd h hne
  · obtain ⟨h1, h2⟩ := dig_append.1 hd
    have h3 := (dig_cons.1 h2).1
    rw [val_snoc]
    have h4 := val_nonneg h1
    have h5 := pw_pos t.length
    have : pw t.length * 1 ≤ pw t.length * d := Int.mul_le_mul_of_nonneg_left (by omega) (by omega)
    simp only [List.length_append, List.length_cons, List.length_nil]
    simp only [Nat.zero_add, Nat.add_sub_cancel]
    omega
theorem nrm_pos {ds : List Int} (h : Nrm ds) (hne : ds ≠ []) : 0 < val ds := by
  have := nrm_low h hne
  have := pw_pos (ds.length - 1)
  omega
theorem nrm_zero {ds : List Int} (h : Nrm ds) : val ds = 0 ↔ ds = [] := by
  constructor
  · intro h0
    by_cases hne : ds = []
    · exact hne
    · have := nrm_pos h hne; omega
  · rintro rfl; rfl
end Go.Proofs.Ytckbhihdhcgaeaa

/- How a number's digits lie in memory: the words that the walks share. -/
namespace Go.Proofs.Ytckbhihdhcgaeaa
open Go.RowKit

/-- The digits lie behind the address (nothing is asked of an empty list). -/
def Rd (w : World) (ao : Option Addr) (ds : List Int) : Prop :=
  ∀ i, (h : i < ds.length) → ∃ b off, ao = some ⟨b, off, none⟩ ∧ b < w.heap.size ∧ w.cell? ⟨b, off + i, none⟩ = some (.int .u32 ds[i])
theorem Rd.nil (w : World) (ao : Option Addr) : Rd w ao [] := by intro i h; simp at h
theorem Rd.below {w w' : World} {ao : Option Addr} {ds : List Int} (h : Rd w ao ds) {B : Nat} (hb : Below B w w') (hB : w.heap.size ≤ B) : Rd w' ao ds := by
  intro i hi
  obtain ⟨b, off, e, hl, hc⟩ := h i hi
  refine ⟨b, off, e, Nat.lt_of_lt_of_le hl hb.size, ?_⟩
  rw [hb.cell (by show b < B; omega)]; exact hc
/-- What is read at a place. -/
theorem Rd.at {w : World} {b off : Nat} {ds : List Int} (h : Rd w (some ⟨b, off, none⟩) ds) (k : Nat) (hk : k < ds.length) : w.cell? ⟨b, off + k, none⟩ = some (.int .u32 ds[k]) := by
  obtain ⟨b', off', e, hl, hc⟩ := h k hk
  cases e
  exact hc
theorem bdrew {B : Nat} {a w : World} (h : Below B a w) (n : Nat) : Below B a (w.drewN n) := ⟨h.os, h.tape, h.output, h.size, h.block⟩
/-- Digits in a row of the call's own. -/
theorem Rd.own {w : World} {base g n cap : Nat} {e : TypeId} {zs : List Int} (h : w.ownsRow base e 1 (.slice (some ⟨g, 0, none⟩) n cap) n (zs.map (Value.int .u32))) (hl : zs.length = n) : Rd w (some ⟨g, 0, none⟩) zs := by
  intro i hi
  refine ⟨g, 0, rfl, (h.lt g rfl).2, ?_⟩
  rw [Nat.zero_add, h.cellAt i (by omega)]
  simp [hi]
/-- A store into a cell that holds no digit turns no digit. -/
theorem Rd.set {w : World} {ao : Option Addr} {ds : List Int} (h : Rd w ao ds) {p : Addr} {v : Value} (u : Value) (hp : w.cell? p = some v) (hv : ∀ x, v ≠ .int .u32 x) : Rd (w.setCell p u) ao ds := by
  intro i hi
  obtain ⟨b, off, e, hl, hc⟩ := h i hi
  refine ⟨b, off, e, by simpa [World.setCell] using hl, ?_⟩
  have hne : p ≠ ⟨b, off + i, none⟩ := by
    intro e'
    rw [e', hc] at hp
    exact hv _ (by simpa using hp.symm)
  exact (World.cell?_setCell_other _ _ _ _ hne).trans hc
/-- The digits of a slice that is written out. -/
theorem Rd.lit (w : World) {cs : Array Value} {e : TypeId} {zs : List Int} {g : Nat} (hg : g = w.heap.size) (h : cs.toList = zs.map (Value.int .u32)) (hl : zs.length ≤ maxLen) : Rd (w.alloc (.cells cs e)) (some ⟨g, 0, none⟩) zs := by
  subst hg
  have hs : cs.size = zs.length * 1 := by rw [← Array.length_toList, h]; simp
  have := World.ownsRow_lit (base := w.heap.size) (e := e) (size := 1) w cs zs.length (Nat.le_refl _) hl hs
  rw [h] at this
  exact Rd.own this rfl
theorem bcell {W w1 : World} (hb : Below W.heap.size W w1) : (∀ b o, b < W.heap.size → w1.cell? ⟨b, o, none⟩ = W.cell? ⟨b, o, none⟩) ∧ (∀ b o, b < W.heap.size → w1.frozen? ⟨b, o, none⟩ = W.frozen? ⟨b, o, none⟩) :=
  ⟨fun b o h => hb.cell (p := ⟨b, o, none⟩) h, fun b o h => hb.frozen (p := ⟨b, o, none⟩) h⟩
/-- A number of at most k digits as it lies in memory: its sign, its digits. -/
structure IsNum (w : World) (s : Bool) (ao : Option Addr) (n cap : Nat) (ds : List Int) (z : Int) (k : Nat) : Prop where
  neg : s = decide (z < 0)
  len : ds.length = n
  cap : n ≤ cap
  rd : Rd w ao ds
  nrm : Nrm ds
  val : val ds = (z.natAbs : Int)
  le : n ≤ k
theorem IsNum.below {w w' : World} {s : Bool} {ao : Option Addr} {n cap : Nat} {ds : List Int} {z : Int} {k : Nat} (h : IsNum w s ao n cap ds z k) (hb : Below w.heap.size w w') : IsNum w' s ao n cap ds z k :=
  ⟨h.neg, h.len, h.cap, h.rd.below hb (Nat.le_refl _), h.nrm, h.val, h.le⟩
theorem IsNum.zero {w : World} {s : Bool} {ao : Option Addr} {n cap : Nat} {ds : List Int} {z : Int} {k : Nat} (h : IsNum w s ao n cap ds z k) : n = 0 ↔ z = 0 := by
  have h1 := nrm_zero h.nrm
  have h2 := h.val
  have h3 := h.len
  constructor
  · intro h0
    have : ds = [] := List.eq_nil_of_length_eq_zero (by omega)
    have := h1.2 this; omega
  · rintro rfl
    have : ds = [] := h1.1 (by rw [h2]; rfl)
    rw [this] at h3; simpa using h3.symm
end Go.Proofs.Ytckbhihdhcgaeaa

/- The walk of the number's trimming. -/
namespace Go.Proofs.Ytckbhihdhcgaeaa
open Go.RowKit
end Go.Proofs.Ytckbhihdhcgaeaa

/- The walk of the difference of digits. -/
namespace Go.Proofs.Ytckbhihdhcgaeaa
open Go.RowKit
end Go.Proofs.Ytckbhihdhcgaeaa

/- Plain facts on words' bits: no program in sight. -/
namespace Go.Proofs.Ytckbhihdhcgaeaa
end Go.Proofs.Ytckbhihdhcgaeaa

/- The walk of the shift to the left. -/
namespace Go.Proofs.Ytckbhihdhcgaeaa
open Go.RowKit
end Go.Proofs.Ytckbhihdhcgaeaa

/- The walk of the comparison of digits. -/
namespace Go.Proofs.Ytckbhihdhcgaeaa
open Go.RowKit
end Go.Proofs.Ytckbhihdhcgaeaa

/- The walks of the number's bits, of a number made from an integer, of its sign and of its negation. -/
namespace Go.Proofs.Ytckbhihdhcgaeaa
open Go.RowKit
end Go.Proofs.Ytckbhihdhcgaeaa

/- Plain arithmetic of numbers of four words: no program in sight. -/
namespace Go.Proofs.Ytckbhihdhcgaeaa
/-- A word of 64 bits. -/
def Word (x : Int) : Prop := 0 ≤ x ∧ x < 18446744073709551616
/-- Four words without a sign. -/
def uw (a3 a2 a1 a0 : Int) : Int := a0 + 18446744073709551616 * (a1 + 18446744073709551616 * (a2 + 18446744073709551616 * a3))
/-- Four words in two's complement. -/
def sw (a3 a2 a1 a0 : Int) : Int := if a3 < 9223372036854775808 then uw a3 a2 a1 a0 else uw a3 a2 a1 a0 - 115792089237316195423570985008687907853269984665640564039457584007913129639936
end Go.Proofs.Ytckbhihdhcgaeaa

/- The walk of a number made from four words. -/
namespace Go.Proofs.Ytckbhihdhcgaeaa
open Go.RowKit
end Go.Proofs.Ytckbhihdhcgaeaa

/- Plain arithmetic: four words out of digits. No program in sight. -/
namespace Go.Proofs.Ytckbhihdhcgaeaa
/-- The words of a number that is told; zeros for any other one. -/
def told (z : Int) : Bool := decide (-57896044618658097711785492504343953926634992332820282019728792003956564819968 ≤ z ∧ z < 57896044618658097711785492504343953926634992332820282019728792003956564819968)
end Go.Proofs.Ytckbhihdhcgaeaa

/- The words that the walk of four words made from a number shares between its branches. -/
namespace Go.Proofs.Ytckbhihdhcgaeaa
open Go.RowKit
/-- Four words that stand for z, and true; or zeros and false. -/
def TellP (z : Int) (w : World) (e : Ending) (w' : World) : Prop :=
  Below w.heap.size w w' ∧ ((told z = true ∧ ∃ a3 a2 a1 a0, e = .returned (.tuple #[.agg #[.int .u64 a3, .int .u64 a2, .int .u64 a1, .int .u64 a0], .bool true]) ∧ Word a3 ∧ Word a2 ∧ Word a1 ∧ Word a0 ∧ sw a3 a2 a1 a0 = z) ∨
    (told z = false ∧ e = .returned (.tuple #[.agg #[.int .u64 0, .int .u64 0, .int .u64 0, .int .u64 0], .bool false])))
theorem tell_below {w wr : World} {R : Nat} {v0 v1 v2 v3 : Value} (h : Below w.heap.size w wr) (hR : w.heap.size ≤ R) : Below w.heap.size w ((((wr.setCell ⟨R, 0, none⟩ v0).setCell ⟨R, 1, none⟩ v1).setCell ⟨R, 2, none⟩ v2).setCell ⟨R, 3, none⟩ v3) :=
  (((h.setCell hR _).setCell hR _).setCell hR _).setCell hR _
end Go.Proofs.Ytckbhihdhcgaeaa

/- Rows of words in memory, and the two sums with a carry: the words that the walks share. -/
namespace Go.Proofs.Ytckbhihdhcgaeaa
open Go.RowKit
/-- Behind it no other cell has turned than n cells of one block. -/
structure Wrote (A off n : Nat) (w w' : World) : Prop where
  os : w'.os = w.os
  tape : w'.tape = w.tape
  output : w'.output = w.output
  size : w'.heap.size = w.heap.size
  block : ∀ k, k ≠ A → w'.heap[k]? = w.heap[k]?
  cell : ∀ j, (j < off ∨ off + n ≤ j) → w'.cell? ⟨A, j, none⟩ = w.cell? ⟨A, j, none⟩
  frz : ∀ j, w'.frozen? ⟨A, j, none⟩ = w.frozen? ⟨A, j, none⟩
theorem Wrote.refl (A off n : Nat) (w : World) : Wrote A off n w w := ⟨rfl, rfl, rfl, rfl, fun _ _ => rfl, fun _ _ => rfl, fun _ => rfl⟩
theorem Wrote.drew {A off n : Nat} {w w' : World} (h : Wrote A off n w w') : Wrote A off n w w'.drew := ⟨h.os, h.tape, h.output, h.size, h.block, h.cell, h.frz⟩
theorem Wrote.set {A off n : Nat} {w w' : World} (h : Wrote A off n w w') (j : Nat) (hj : off ≤ j ∧ j < off + n) (u : Value) : Wrote A off n w (w'.setCell ⟨A, j, none⟩ u) := by
  refine ⟨h.os, h.tape, h.output, by simpa [World.setCell] using h.size, fun k hk => ?_, fun i hi => ?_, fun i => ?_⟩
  · rw [Below.heap_setCell _ _ _ _ hk]; exact h.block k hk
  · rw [World.cell?_setCell_other _ _ _ _ (by intro e; simp only [Addr.mk.injEq] at e; omega)]; exact h.cell i hi
  · rw [← h.frz i]; simp [go_sem]
theorem Wrote.cellOther {A off n : Nat} {w w' : World} (h : Wrote A off n w w') {b : Nat} (hb : b ≠ A) (o : Nat) : w'.cell? ⟨b, o, none⟩ = w.cell? ⟨b, o, none⟩ := World.cell?_of_block (w := w) (h.block b hb)
theorem Wrote.frzOther {A off n : Nat} {w w' : World} (h : Wrote A off n w w') {b : Nat} (hb : b ≠ A) (o : Nat) : w'.frozen? ⟨b, o, none⟩ = w.frozen? ⟨b, o, none⟩ := World.frozen?_of_block (w := w) (h.block b hb)
theorem Wrote.below {A off n : Nat} {w w' : World} (h : Wrote A off n w w') {B : Nat} (hB : B ≤ A) : Below B w w' := ⟨h.os, h.tape, h.output, by rw [h.size]; exact Nat.le_refl _, fun k hk => h.block k (by omega)⟩
end Go.Proofs.Ytckbhihdhcgaeaa

/- The walk of the sum of two rows of words. -/
namespace Go.Proofs.Ytckbhihdhcgaeaa
open Go.RowKit
end Go.Proofs.Ytckbhihdhcgaeaa

/- The walk of the difference of two rows of words. -/
namespace Go.Proofs.Ytckbhihdhcgaeaa
open Go.RowKit
end Go.Proofs.Ytckbhihdhcgaeaa

/- The product of two rows of words, round by round: the reckoning. -/
namespace Go.Proofs.Ytckbhihdhcgaeaa
open Go.RowKit
end Go.Proofs.Ytckbhihdhcgaeaa

/- Long division by words: the reckoning. -/
namespace Go.Proofs.Ytckbhihdhcgaeaa
open Go.RowKit
end Go.Proofs.Ytckbhihdhcgaeaa

/- The quotient of two words by one: the reckoning. -/
namespace Go.Proofs.Ytckbhihdhcgaeaa
end Go.Proofs.Ytckbhihdhcgaeaa

/- The walk of the table of a byte's bits. -/
namespace Go.Proofs.Ytckbhihdhcgaeaa
open Go.RowKit
end Go.Proofs.Ytckbhihdhcgaeaa

/- The walk of the count of a word's bits. -/
namespace Go.Proofs.Ytckbhihdhcgaeaa
open Go.RowKit
end Go.Proofs.Ytckbhihdhcgaeaa

/- The walk of the quotient of two words by one. -/
namespace Go.Proofs.Ytckbhihdhcgaeaa
open Go.RowKit
end Go.Proofs.Ytckbhihdhcgaeaa

/- Blocks of cells in memory, and what leaves them as they are. -/
namespace Go.Proofs.Ytckbhihdhcgaeaa
open Go.RowKit
/-- The block g has these values, and may be written. -/
def Blk (W : World) (g : Nat) (vs : List Value) : Prop := g < W.heap.size ∧ ∀ i v, vs[i]? = some v → W.cell? ⟨g, i, none⟩ = some v ∧ W.frozen? ⟨g, i, none⟩ = false
theorem Blk.lt {W : World} {g : Nat} {vs : List Value} (h : Blk W g vs) : g < W.heap.size := h.1
theorem Blk.c {W : World} {g : Nat} {vs : List Value} (h : Blk W g vs) (i : Nat) {v : Value} (hi : vs[i]? = some v) : W.cell? ⟨g, i, none⟩ = some v := (h.2 i v hi).1
theorem Blk.f {W : World} {g : Nat} {vs : List Value} (h : Blk W g vs) (i : Nat) {v : Value} (hi : vs[i]? = some v) : W.frozen? ⟨g, i, none⟩ = false := (h.2 i v hi).2
theorem Blk.below {W W' : World} {B g : Nat} {vs : List Value} (h : Blk W g vs) (hB : Below B W W') (hg : g < B) : Blk W' g vs :=
  ⟨Nat.lt_of_lt_of_le h.1 hB.size, fun i _ hi => ⟨(hB.cell (p := ⟨g, i, none⟩) hg).trans (h.c i hi), (hB.frozen (p := ⟨g, i, none⟩) hg).trans (h.f i hi)⟩⟩
theorem Blk.step {W W' : World} {g : Nat} {vs : List Value} (h : Blk W g vs) (hB : Below W.heap.size W W') : Blk W' g vs := h.below hB h.1
theorem Blk.alloc {W : World} {g : Nat} {vs : List Value} (h : Blk W g vs) (o : Obj) : Blk (W.alloc o) g vs := h.step ((Below.refl W.heap.size W).alloc (Nat.le_refl _) o)
theorem Blk.drew {W : World} {g : Nat} {vs : List Value} (h : Blk W g vs) : Blk W.drew g vs := h
theorem Blk.new (W : World) (vs : List Value) (t : TypeId) {g : Nat} (hg : g = W.heap.size) : Blk (W.alloc (.cells vs.toArray t)) g vs := by
  subst hg
  refine ⟨by simp, fun i v hi => ⟨?_, by simp [go_sem]⟩⟩
  simp [go_sem, hi]
theorem Blk.setO {W : World} {g : Nat} {vs : List Value} (h : Blk W g vs) {p : Addr} (hne : g ≠ p.block) (u : Value) : Blk (W.setCell p u) g vs := by
  have hh : (W.setCell p u).heap[g]? = W.heap[g]? := Below.heap_setCell _ _ _ _ hne
  refine ⟨by simpa [World.setCell] using h.1, fun i v hi => ⟨?_, ?_⟩⟩
  · have := h.c i hi
    unfold World.cell? at *
    simpa [hh] using this
  · have := h.f i hi
    unfold World.frozen? at *
    simpa [hh] using this
theorem Blk.setI {W : World} {g : Nat} {vs : List Value} (h : Blk W g vs) (j : Nat) (hj : j < vs.length) (u : Value) : Blk (W.setCell ⟨g, j, none⟩ u) g (vs.set j u) := by
  refine ⟨by simpa [World.setCell] using h.1, fun i v hi => ?_⟩
  by_cases e : i = j
  · subst e
    have hv : v = u := by simpa [hj] using hi.symm
    subst hv
    exact ⟨by simp [go_sem, h.c i (List.getElem?_eq_getElem hj)], by simp [go_sem, h.f i (List.getElem?_eq_getElem hj)]⟩
  · have hi' : vs[i]? = some v := by simpa [List.getElem?_set, Ne.symm e] using hi
    exact ⟨(World.cell?_setCell_other _ _ _ _ (by simp)).trans (h.c i hi'), by simp [go_sem, h.f i hi']⟩
/-- The arguments as they lie: block by block from the call's first on. -/
def ArgsB (w W : World) (vss : List (List Value)) : Prop := Below w.heap.size w W ∧ ∀ j vs, vss[j]? = some vs → Blk W (w.heap.size + j) vs
theorem ArgsB.below {w W : World} {vss : List (List Value)} (h : ArgsB w W vss) : Below w.heap.size w W := h.1
theorem ArgsB.b {w W : World} {vss : List (List Value)} (h : ArgsB w W vss) (j : Nat) {vs : List Value} (hj : vss[j]? = some vs) : Blk W (w.heap.size + j) vs := h.2 j vs hj
theorem ArgsB.step {w W W' : World} {vss : List (List Value)} (h : ArgsB w W vss) (hB : Below W.heap.size W W') : ArgsB w W' vss := ⟨h.1.trans (hB.mono h.1.size), fun j vs hj => (h.2 j vs hj).step hB⟩
theorem ArgsB.alloc {w W : World} {vss : List (List Value)} (h : ArgsB w W vss) (o : Obj) : ArgsB w (W.alloc o) vss := h.step ((Below.refl W.heap.size W).alloc (Nat.le_refl _) o)
theorem ArgsB.drew {w W : World} {vss : List (List Value)} (h : ArgsB w W vss) : ArgsB w W.drew vss := ⟨h.1.drew, h.2⟩
theorem ArgsB.set {w W : World} {vss : List (List Value)} (h : ArgsB w W vss) {p : Addr} (hp : w.heap.size + vss.length ≤ p.block) (u : Value) : ArgsB w (W.setCell p u) vss := by
  refine ⟨h.1.setCell (by omega) u, fun j vs hj => (h.2 j vs hj).setO ?_ u⟩
  have : j < vss.length := by
    apply Decidable.byContradiction
    intro hn
    rw [List.getElem?_eq_none (by omega)] at hj
    simp at hj
  omega
/-- What stands behind a law's call: the answer in a block of its own. -/
def CutB (w wx : World) (vss : List (List Value)) (rs : List Value) (p : Value) : Prop :=
  ∃ g, p = .pointer (some ⟨g, 0, none⟩) ∧ w.heap.size + vss.length ≤ g ∧ ArgsB w wx vss ∧ Blk wx g rs
theorem CutB.drew {w wx : World} {vss : List (List Value)} {rs : List Value} {p : Value} (h : CutB w wx vss rs p) : CutB w wx.drew vss rs p := by
  obtain ⟨g, e, l, A, B⟩ := h
  exact ⟨g, e, l, A.drew, B.drew⟩
end Go.Proofs.Ytckbhihdhcgaeaa

/- The walks of the pieces of the program's long division: the guess of a digit, the shifts. -/
namespace Go.Proofs.Ytckbhihdhcgaeaa
open Go.RowKit
/-- A row of words as a value. -/
def agg (xs : List Int) : Value := .agg (xs.map (Value.int .u64)).toArray
/-- The answer's block and the row that is made, behind some rounds. -/
structure Mk (w wr : World) (g gp : Nat) (vs : List Value) (zs : List Int) : Prop where
  below : Below w.heap.size w wr
  r : Blk wr g vs
  p : Blk wr gp (zs.map (Value.int .u64))
theorem Mk.drew {w wr : World} {g gp : Nat} {vs : List Value} {zs : List Int} (h : Mk w wr g gp vs zs) : Mk w wr.drew g gp vs zs := ⟨h.below.drew, h.r, h.p⟩
theorem Mk.drewN {w wr : World} {g gp : Nat} {vs : List Value} {zs : List Int} (h : Mk w wr g gp vs zs) (n : Nat) : Mk w (wr.drewN n) g gp vs zs := ⟨bdrew h.below n, h.r, h.p⟩
theorem Mk.set {w wr : World} {g gp : Nat} {vs : List Value} {zs : List Int} (h : Mk w wr g gp vs zs) (hne : g ≠ gp) (hg : w.heap.size ≤ gp) (j : Nat) (hj : j < zs.length) (u : Int) : Mk w (wr.setCell ⟨gp, j, none⟩ (.int .u64 u)) g gp vs (zs.set j u) :=
  ⟨h.below.setCell hg _, h.r.setO hne _, by have := h.p.setI j (by simpa using hj) (.int .u64 u); rwa [← List.map_set] at this⟩
theorem Mk.step {w wr wr' : World} {g gp : Nat} {vs : List Value} {zs : List Int} (h : Mk w wr g gp vs zs) (hB : Below wr.heap.size wr wr') : Mk w wr' g gp vs zs := ⟨h.below.trans (hB.mono h.below.size), h.r.step hB, h.p.step hB⟩
end Go.Proofs.Ytckbhihdhcgaeaa

/- The walks of plus and minus of 4 words. -/
namespace Go.Proofs.Ytckbhihdhcgaeaa
open Go.RowKit
end Go.Proofs.Ytckbhihdhcgaeaa

/- The walks of plus and minus of 8 words. -/
namespace Go.Proofs.Ytckbhihdhcgaeaa
open Go.RowKit
end Go.Proofs.Ytckbhihdhcgaeaa

/- The walks of the sign of four words, by the model and by the program, and of the law over both. -/
namespace Go.Proofs.Ytckbhihdhcgaeaa
open Go.RowKit
def BoolP (b : Bool) (w : World) (e : Ending) (w' : World) : Prop := e = .returned (.bool b) ∧ Below w.heap.size w w'
end Go.Proofs.Ytckbhihdhcgaeaa

/- The walks of numbers of eight words: made of four, turned in their sign, told as four; and of the product of two words. -/
namespace Go.Proofs.Ytckbhihdhcgaeaa
open Go.RowKit Go.Shelf
end Go.Proofs.Ytckbhihdhcgaeaa

/- The walks of the pieces of the program's long division: the shift down, a number times a digit. -/
namespace Go.Proofs.Ytckbhihdhcgaeaa
open Go.RowKit
/-- A row that is made, beside one that is read. -/
structure MkX (w wr : World) (gx g gp : Nat) (xs : List Int) (vs : List Value) (zs : List Int) : Prop where
  m : Mk w wr g gp vs zs
  x : Blk wr gx (xs.map (Value.int .u64))
theorem MkX.drewN {w wr : World} {gx g gp : Nat} {xs : List Int} {vs : List Value} {zs : List Int} (h : MkX w wr gx g gp xs vs zs) (n : Nat) : MkX w (wr.drewN n) gx g gp xs vs zs := ⟨h.m.drewN n, h.x⟩
theorem MkX.drew {w wr : World} {gx g gp : Nat} {xs : List Int} {vs : List Value} {zs : List Int} (h : MkX w wr gx g gp xs vs zs) : MkX w wr.drew gx g gp xs vs zs := ⟨h.m.drew, h.x⟩
theorem MkX.set {w wr : World} {gx g gp : Nat} {xs : List Int} {vs : List Value} {zs : List Int} (h : MkX w wr gx g gp xs vs zs) (hx : gx ≠ gp) (hne : g ≠ gp) (hg : w.heap.size ≤ gp) (j : Nat) (hj : j < zs.length) (u : Int) : MkX w (wr.setCell ⟨gp, j, none⟩ (.int .u64 u)) gx g gp xs vs (zs.set j u) := ⟨h.m.set hne hg j hj u, h.x.setO hx _⟩
end Go.Proofs.Ytckbhihdhcgaeaa

/- One digit of a long division: the reckoning, and a window of a row that is written. -/
namespace Go.Proofs.Ytckbhihdhcgaeaa
open Go.RowKit
end Go.Proofs.Ytckbhihdhcgaeaa

/- The walk of one digit of the program's long division. -/
namespace Go.Proofs.Ytckbhihdhcgaeaa
open Go.RowKit
/-- What stands while a digit is sought. -/
structure Tk (w wr : World) (rs ys : List Int) : Prop where
  below : Below w.heap.size w wr
  r : Blk wr w.heap.size (rs.map (Value.int .u64))
  y : Blk wr (w.heap.size + 1) (ys.map (Value.int .u64))
  o : Blk wr (w.heap.size + 1 + 1) (List.replicate 9 (Value.int .u64 0))
theorem Tk.step {w wr wr' : World} {rs ys : List Int} (h : Tk w wr rs ys) (hB : Below wr.heap.size wr wr') : Tk w wr' rs ys := ⟨h.below.trans (hB.mono h.below.size), h.r.step hB, h.y.step hB, h.o.step hB⟩
theorem Tk.drew {w wr : World} {rs ys : List Int} (h : Tk w wr rs ys) : Tk w wr.drew rs ys := ⟨h.below.drew, h.r, h.y, h.o⟩
theorem Tk.drewN {w wr : World} {rs ys : List Int} (h : Tk w wr rs ys) (n : Nat) : Tk w (wr.drewN n) rs ys := ⟨bdrew h.below n, h.r, h.y, h.o⟩
end Go.Proofs.Ytckbhihdhcgaeaa

/- Long division, digit by digit: the reckoning. -/
namespace Go.Proofs.Ytckbhihdhcgaeaa
open Go.RowKit
end Go.Proofs.Ytckbhihdhcgaeaa

/- The walk of the sum of digits. -/
namespace Go.Proofs.Ytckbhihdhcgaeaa
open Go.RowKit
end Go.Proofs.Ytckbhihdhcgaeaa

/- The walks of negation, sum, difference and comparison of numbers. -/
namespace Go.Proofs.Ytckbhihdhcgaeaa
open Go.RowKit
/-- What is kept of two boxed numbers and of the result's cell. -/
structure Two (w W : World) (A0 A1 B0 B1 : Value) : Prop where
  a0 : W.cell? ⟨w.heap.size, 0, none⟩ = some A0
  a1 : W.cell? ⟨w.heap.size, 1, none⟩ = some A1
  b0 : W.cell? ⟨w.heap.size + 1, 0, none⟩ = some B0
  b1 : W.cell? ⟨w.heap.size + 1, 1, none⟩ = some B1
  r0 : W.cell? ⟨w.heap.size + 1 + 1, 0, none⟩ = some (.bool false)
  r1 : W.cell? ⟨w.heap.size + 1 + 1, 1, none⟩ = some (.slice none 0 0)
  f0 : W.frozen? ⟨w.heap.size + 1 + 1, 0, none⟩ = false
  f1 : W.frozen? ⟨w.heap.size + 1 + 1, 1, none⟩ = false
  sz : w.heap.size + 1 + 1 < W.heap.size
  below : Below w.heap.size w W
theorem Two.step {w W W' : World} {A0 A1 B0 B1 : Value} (h : Two w W A0 A1 B0 B1) (hb : Below W.heap.size W W') : Two w W' A0 A1 B0 B1 := by
  have hs := h.sz
  have hc := fun b o (hl : b < W.heap.size) => hb.cell (p := ⟨b, o, none⟩) hl
  have hf := fun b o (hl : b < W.heap.size) => hb.frozen (p := ⟨b, o, none⟩) hl
  exact ⟨(hc _ _ (by omega)).trans h.a0, (hc _ _ (by omega)).trans h.a1, (hc _ _ (by omega)).trans h.b0, (hc _ _ (by omega)).trans h.b1, (hc _ _ hs).trans h.r0, (hc _ _ hs).trans h.r1, (hf _ _ hs).trans h.f0, (hf _ _ hs).trans h.f1,
    Nat.lt_of_lt_of_le hs hb.size, h.below.trans (hb.mono h.below.size)⟩
theorem Two.drew {w W : World} {A0 A1 B0 B1 : Value} (h : Two w W A0 A1 B0 B1) : Two w W.drew A0 A1 B0 B1 := ⟨h.a0, h.a1, h.b0, h.b1, h.r0, h.r1, h.f0, h.f1, h.sz, h.below.drew⟩
end Go.Proofs.Ytckbhihdhcgaeaa

/- The walks of negation, difference and comparison of numbers. -/
namespace Go.Proofs.Ytckbhihdhcgaeaa
open Go.RowKit
theorem IsNum.drew {w : World} {s : Bool} {ao : Option Addr} {n cap : Nat} {ds : List Int} {z : Int} {k : Nat} (h : IsNum w s ao n cap ds z k) : IsNum w.drew s ao n cap ds z k := ⟨h.neg, h.len, h.cap, h.rd, h.nrm, h.val, h.le⟩
end Go.Proofs.Ytckbhihdhcgaeaa

/- The walk of four words made from a number that is not below 0. -/
namespace Go.Proofs.Ytckbhihdhcgaeaa
open Go.RowKit
end Go.Proofs.Ytckbhihdhcgaeaa

/- The walk of four words made from a number below 0. -/
namespace Go.Proofs.Ytckbhihdhcgaeaa
open Go.RowKit
end Go.Proofs.Ytckbhihdhcgaeaa

/- The walks of a number of four words made from an integer, by the model and by the program, and of the law over both. -/
namespace Go.Proofs.Ytckbhihdhcgaeaa
open Go.RowKit
end Go.Proofs.Ytckbhihdhcgaeaa

/- Four words in a block of memory, and what is kept of them. -/
namespace Go.Proofs.Ytckbhihdhcgaeaa
open Go.RowKit
/-- Four words lie in the block g. -/
structure Wd (W : World) (g : Nat) (a3 a2 a1 a0 : Int) : Prop where
  c0 : W.cell? ⟨g, 0, none⟩ = some (.int .u64 a3)
  c1 : W.cell? ⟨g, 1, none⟩ = some (.int .u64 a2)
  c2 : W.cell? ⟨g, 2, none⟩ = some (.int .u64 a1)
  c3 : W.cell? ⟨g, 3, none⟩ = some (.int .u64 a0)
  f0 : W.frozen? ⟨g, 0, none⟩ = false
  f1 : W.frozen? ⟨g, 1, none⟩ = false
  f2 : W.frozen? ⟨g, 2, none⟩ = false
  f3 : W.frozen? ⟨g, 3, none⟩ = false
  lt : g < W.heap.size
theorem Wd.step {W W' : World} {g : Nat} {a3 a2 a1 a0 : Int} (h : Wd W g a3 a2 a1 a0) (hb : Below W.heap.size W W') : Wd W' g a3 a2 a1 a0 := by
  have hc := fun o => hb.cell (p := ⟨g, o, none⟩) h.lt
  have hf := fun o => hb.frozen (p := ⟨g, o, none⟩) h.lt
  exact ⟨(hc _).trans h.c0, (hc _).trans h.c1, (hc _).trans h.c2, (hc _).trans h.c3, (hf _).trans h.f0, (hf _).trans h.f1, (hf _).trans h.f2, (hf _).trans h.f3, Nat.lt_of_lt_of_le h.lt hb.size⟩
theorem Wd.drew {W : World} {g : Nat} {a3 a2 a1 a0 : Int} (h : Wd W g a3 a2 a1 a0) : Wd W.drew g a3 a2 a1 a0 := ⟨h.c0, h.c1, h.c2, h.c3, h.f0, h.f1, h.f2, h.f3, h.lt⟩
theorem Wd.alloc {W : World} {g : Nat} {a3 a2 a1 a0 : Int} (h : Wd W g a3 a2 a1 a0) (o : Obj) : Wd (W.alloc o) g a3 a2 a1 a0 := h.step ((Below.refl _ _).alloc (Nat.le_refl _) o)
theorem Wd.new (W : World) (a3 a2 a1 a0 : Int) (T : TypeId) {g : Nat} (hg : g = W.heap.size) : Wd (W.alloc (Obj.cells #[Value.int IntKind.u64 a3, Value.int IntKind.u64 a2, Value.int IntKind.u64 a1, Value.int IntKind.u64 a0] T)) g a3 a2 a1 a0 := by
  subst hg
  exact ⟨by simp [go_sem], by simp [go_sem], by simp [go_sem], by simp [go_sem], by simp [go_sem], by simp [go_sem], by simp [go_sem], by simp [go_sem], by simp⟩
theorem Wd.set {W : World} {g R : Nat} {a3 a2 a1 a0 : Int} (h : Wd W g a3 a2 a1 a0) (hne : g ≠ R) (u0 u1 u2 u3 : Value) : Wd ((((W.setCell ⟨R, 0, none⟩ u0).setCell ⟨R, 1, none⟩ u1).setCell ⟨R, 2, none⟩ u2).setCell ⟨R, 3, none⟩ u3) g a3 a2 a1 a0 := by
  have hn : ∀ o j, (⟨R, j, none⟩ : Addr) ≠ ⟨g, o, none⟩ := by intro o j e; simp only [Addr.mk.injEq] at e; exact hne e.1.symm
  have hc : ∀ o, ((((W.setCell ⟨R, 0, none⟩ u0).setCell ⟨R, 1, none⟩ u1).setCell ⟨R, 2, none⟩ u2).setCell ⟨R, 3, none⟩ u3).cell? ⟨g, o, none⟩ = W.cell? ⟨g, o, none⟩ := fun o => by
    rw [World.cell?_setCell_other _ _ _ _ (hn o 3), World.cell?_setCell_other _ _ _ _ (hn o 2), World.cell?_setCell_other _ _ _ _ (hn o 1), World.cell?_setCell_other _ _ _ _ (hn o 0)]
  have hf : ∀ o, ((((W.setCell ⟨R, 0, none⟩ u0).setCell ⟨R, 1, none⟩ u1).setCell ⟨R, 2, none⟩ u2).setCell ⟨R, 3, none⟩ u3).frozen? ⟨g, o, none⟩ = W.frozen? ⟨g, o, none⟩ := fun o => by simp [go_sem]
  exact ⟨(hc _).trans h.c0, (hc _).trans h.c1, (hc _).trans h.c2, (hc _).trans h.c3, (hf _).trans h.f0, (hf _).trans h.f1, (hf _).trans h.f2, (hf _).trans h.f3, by simpa [World.setCell] using h.lt⟩
/-- Two boxed numbers of four words, as a call that takes two finds them. -/
structure TwoW (w W : World) (a3 a2 a1 a0 b3 b2 b1 b0 : Int) : Prop where
  a : Wd W w.heap.size a3 a2 a1 a0
  b : Wd W (w.heap.size + 1) b3 b2 b1 b0
  below : Below w.heap.size w W
theorem TwoW.step {w W W' : World} {a3 a2 a1 a0 b3 b2 b1 b0 : Int} (h : TwoW w W a3 a2 a1 a0 b3 b2 b1 b0) (hb : Below W.heap.size W W') : TwoW w W' a3 a2 a1 a0 b3 b2 b1 b0 := ⟨h.a.step hb, h.b.step hb, h.below.trans (hb.mono h.below.size)⟩
theorem TwoW.drew {w W : World} {a3 a2 a1 a0 b3 b2 b1 b0 : Int} (h : TwoW w W a3 a2 a1 a0 b3 b2 b1 b0) : TwoW w W.drew a3 a2 a1 a0 b3 b2 b1 b0 := ⟨h.a.drew, h.b.drew, h.below.drew⟩
theorem TwoW.alloc {w W : World} {a3 a2 a1 a0 b3 b2 b1 b0 : Int} (h : TwoW w W a3 a2 a1 a0 b3 b2 b1 b0) (o : Obj) : TwoW w (W.alloc o) a3 a2 a1 a0 b3 b2 b1 b0 := h.step ((Below.refl _ _).alloc (Nat.le_refl _) o)
theorem TwoW.set {w W : World} {R : Nat} {a3 a2 a1 a0 b3 b2 b1 b0 : Int} (h : TwoW w W a3 a2 a1 a0 b3 b2 b1 b0) (hR : w.heap.size + 1 < R) (u0 u1 u2 u3 : Value) : TwoW w ((((W.setCell ⟨R, 0, none⟩ u0).setCell ⟨R, 1, none⟩ u1).setCell ⟨R, 2, none⟩ u2).setCell ⟨R, 3, none⟩ u3) a3 a2 a1 a0 b3 b2 b1 b0 :=
  ⟨h.a.set (by omega) _ _ _ _, h.b.set (by omega) _ _ _ _, tell_below h.below (by omega)⟩
/-- What a region that reads both holds on to. -/
def Cells8 (w W : World) (a3 a2 a1 a0 b3 b2 b1 b0 : Int) : Prop :=
  W.cell? ⟨w.heap.size, 0, none⟩ = some (.int .u64 a3) ∧ W.cell? ⟨w.heap.size, 1, none⟩ = some (.int .u64 a2) ∧ W.cell? ⟨w.heap.size, 2, none⟩ = some (.int .u64 a1) ∧ W.cell? ⟨w.heap.size, 3, none⟩ = some (.int .u64 a0) ∧
  W.cell? ⟨w.heap.size + 1, 0, none⟩ = some (.int .u64 b3) ∧ W.cell? ⟨w.heap.size + 1, 1, none⟩ = some (.int .u64 b2) ∧ W.cell? ⟨w.heap.size + 1, 2, none⟩ = some (.int .u64 b1) ∧ W.cell? ⟨w.heap.size + 1, 3, none⟩ = some (.int .u64 b0)
theorem TwoW.cells {w W : World} {a3 a2 a1 a0 b3 b2 b1 b0 : Int} (h : TwoW w W a3 a2 a1 a0 b3 b2 b1 b0) : Cells8 w W a3 a2 a1 a0 b3 b2 b1 b0 := ⟨h.a.c0, h.a.c1, h.a.c2, h.a.c3, h.b.c0, h.b.c1, h.b.c2, h.b.c3⟩
end Go.Proofs.Ytckbhihdhcgaeaa

/- The walks of words made from four words and back. -/
namespace Go.Proofs.Ytckbhihdhcgaeaa
open Go.RowKit
end Go.Proofs.Ytckbhihdhcgaeaa

/- The walks of the program's sum and difference of four words. -/
namespace Go.Proofs.Ytckbhihdhcgaeaa
open Go.RowKit
end Go.Proofs.Ytckbhihdhcgaeaa

/- The walk of the program's comparison of four words. -/
namespace Go.Proofs.Ytckbhihdhcgaeaa
open Go.RowKit
end Go.Proofs.Ytckbhihdhcgaeaa

/- The walks of a number's size without its sign, of the count of its words and of its bits, and of the law over them. -/
namespace Go.Proofs.Ytckbhihdhcgaeaa
open Go.RowKit
end Go.Proofs.Ytckbhihdhcgaeaa

/- The program's long division: what lies in memory around its first statements. -/
namespace Go.Proofs.Ytckbhihdhcgaeaa
open Go.RowKit
theorem Blk.cellsO {g b : Nat} {zs : List Value} (hne : g ≠ b) : ∀ (vs : List Value) (o : Nat) {w : World}, Blk w g zs → Blk (w.setCells b o vs) g zs
  | [], _, _, h => h
  | v :: r, o, w, h => by rw [World.setCells]; exact Blk.cellsO hne r (o + 1) (h.setO hne v)
theorem below_cells {B g : Nat} {w0 : World} (hg : B ≤ g) : ∀ (vs : List Value) (o : Nat) {w : World}, Below B w0 w → Below B w0 (w.setCells g o vs)
  | [], _, _, h => h
  | v :: r, o, w, h => by rw [World.setCells]; exact below_cells hg r (o + 1) (h.setCell hg v)
theorem ArgsB.cells {w W : World} {a b c d : List Value} (h : ArgsB w W [a, b, c, d]) {g : Nat} (hg : w.heap.size + 3 < g) (vs : List Value) : ArgsB w (W.setCells g 0 vs) [a, b, c, d] := by
  refine ⟨below_cells (by omega) vs 0 h.1, fun j us hj => Blk.cellsO ?_ vs 0 (h.2 j us hj)⟩
  have : j < 4 := by
    apply Decidable.byContradiction
    intro hn
    rw [List.getElem?_eq_none (by simp; omega)] at hj
    simp at hj
  omega
end Go.Proofs.Ytckbhihdhcgaeaa

/- The walk of the program's long division. -/
namespace Go.Proofs.Ytckbhihdhcgaeaa
open Go.RowKit
end Go.Proofs.Ytckbhihdhcgaeaa

/- The walk of a number of eight words, told as four. -/
namespace Go.Proofs.Ytckbhihdhcgaeaa
open Go.RowKit
end Go.Proofs.Ytckbhihdhcgaeaa

/- The product of two numbers of four words: what the walk of its first statement wants. -/
namespace Go.Proofs.Ytckbhihdhcgaeaa
open Go.RowKit
/-- Two rows of four values laid behind the arguments. -/
def CutT (w wx : World) (vss : List (List Value)) (xs ys : List Value) (p q : Value) : Prop :=
  ∃ g g', p = .pointer (some ⟨g, 0, none⟩) ∧ q = .pointer (some ⟨g', 0, none⟩) ∧ g ≠ g' ∧ w.heap.size + 2 < g ∧ w.heap.size + 2 < g' ∧ ArgsB w wx vss ∧ Blk wx g xs ∧ Blk wx g' ys
theorem CutT.drew {w wx : World} {vss : List (List Value)} {xs ys : List Value} {p q : Value} (h : CutT w wx vss xs ys p q) : CutT w wx.drew vss xs ys p q := by
  obtain ⟨g, g', e, f, n, l, l', A, B, C⟩ := h
  exact ⟨g, g', e, f, n, l, l', A.drew, B.drew, C.drew⟩
end Go.Proofs.Ytckbhihdhcgaeaa

/- A product of two rows of words added to a third row, round by round: the reckoning. -/
namespace Go.Proofs.Ytckbhihdhcgaeaa
open Go.RowKit
end Go.Proofs.Ytckbhihdhcgaeaa

/- A product of two rows of words added to a third row: the program's walk. -/
namespace Go.Proofs.Ytckbhihdhcgaeaa
open Go.RowKit
structure ApW (w wr : World) (gp L g g' : Nat) (xs ys zs : List Int) : Prop where
  wrote : Wrote gp 0 L w wr
  z : Blk wr gp (zs.map (Value.int .u64))
  x : ∀ i, (h : i < xs.length) → wr.cell? ⟨g, i, none⟩ = some (.int .u64 xs[i])
  y : ∀ i, (h : i < ys.length) → wr.cell? ⟨g', i, none⟩ = some (.int .u64 ys[i])
theorem ApW.drewN {w wr : World} {gp L g g' : Nat} {xs ys zs : List Int} (h : ApW w wr gp L g g' xs ys zs) (n : Nat) : ApW w (wr.drewN n) gp L g g' xs ys zs :=
  ⟨⟨h.wrote.os, h.wrote.tape, h.wrote.output, h.wrote.size, h.wrote.block, h.wrote.cell, h.wrote.frz⟩, h.z, h.x, h.y⟩
theorem ApW.set {w wr : World} {gp L g g' : Nat} {xs ys zs : List Int} (h : ApW w wr gp L g g' xs ys zs) (ng : g ≠ gp) (ng' : g' ≠ gp) (j : Nat) (hj : j < zs.length) (hl : j < L) (u : Int) : ApW w (wr.setCell ⟨gp, j, none⟩ (.int .u64 u)) gp L g g' xs ys (zs.set j u) := by
  refine ⟨h.wrote.set j ⟨by omega, by omega⟩ _, ?_, fun i hi => ?_, fun i hi => ?_⟩
  · have := h.z.setI j (by simpa using hj) (.int .u64 u)
    rwa [← List.map_set] at this
  · rw [World.cell?_setCell_other _ _ _ _ (by intro e; simp only [Addr.mk.injEq] at e; exact ng e.1.symm)]; exact h.x i hi
  · rw [World.cell?_setCell_other _ _ _ _ (by intro e; simp only [Addr.mk.injEq] at e; exact ng' e.1.symm)]; exact h.y i hi
end Go.Proofs.Ytckbhihdhcgaeaa

/- The walk of the program's product of two numbers of four words. -/
namespace Go.Proofs.Ytckbhihdhcgaeaa
open Go.RowKit
structure Tm3 (w wr : World) (vss : List (List Value)) (g g' gp : Nat) (xs ys zs : List Int) : Prop where
  args : ArgsB w wr vss
  x : Blk wr g (xs.map (Value.int .u64))
  y : Blk wr g' (ys.map (Value.int .u64))
  p : Blk wr gp (zs.map (Value.int .u64))
theorem Tm3.drew {w wr : World} {vss : List (List Value)} {g g' gp : Nat} {xs ys zs : List Int} (h : Tm3 w wr vss g g' gp xs ys zs) (n : Nat) : Tm3 w (wr.drewN n) vss g g' gp xs ys zs := ⟨⟨bdrew h.args.1 n, h.args.2⟩, h.x, h.y, h.p⟩
theorem Tm3.set {w wr : World} {vss : List (List Value)} {g g' gp : Nat} {xs ys zs : List Int} (h : Tm3 w wr vss g g' gp xs ys zs) (h1 : g ≠ gp) (h2 : g' ≠ gp) (hg : w.heap.size + vss.length ≤ gp) (j : Nat) (hj : j < zs.length) (u : Int) : Tm3 w (wr.setCell ⟨gp, j, none⟩ (.int .u64 u)) vss g g' gp xs ys (zs.set j u) :=
  ⟨h.args.set hg _, h.x.setO h1 _, h.y.setO h2 _, by have := h.p.setI j (by simpa using hj) (.int .u64 u); rwa [← List.map_set] at this⟩
theorem Tm3.step {w wr wr' : World} {vss : List (List Value)} {g g' gp : Nat} {xs ys zs : List Int} (h : Tm3 w wr vss g g' gp xs ys zs) (hB : Below wr.heap.size wr wr') : Tm3 w wr' vss g g' gp xs ys zs := ⟨h.args.step hB, h.x.step hB, h.y.step hB, h.p.step hB⟩
theorem Blk.wrote {W W' : World} {A off n g : Nat} {vs : List Value} (h : Blk W g vs) (hw : Wrote A off n W W') (hg : g ≠ A) : Blk W' g vs :=
  ⟨by rw [hw.size]; exact h.1, fun i v hi => ⟨(hw.cellOther hg i).trans (h.2 i v hi).1, (hw.frzOther hg i).trans (h.2 i v hi).2⟩⟩
theorem Tm3.wrote {w W W' : World} {vss : List (List Value)} {g g' gp : Nat} {xs ys zs zs' : List Int} (h : Tm3 w W vss g g' gp xs ys zs) (hw : Wrote gp 0 8 W W') (hz : Blk W' gp (zs'.map (Value.int .u64))) (ng : g ≠ gp) (ng' : g' ≠ gp) (hg : w.heap.size + vss.length ≤ gp) : Tm3 w W' vss g g' gp xs ys zs' :=
  ⟨⟨h.args.1.trans ((hw.below (Nat.le_of_add_right_le hg))), fun j vs hj => (h.args.2 j vs hj).wrote hw (by have := (List.getElem?_eq_some_iff.1 hj).1; omega)⟩, h.x.wrote hw ng, h.y.wrote hw ng', hz⟩
end Go.Proofs.Ytckbhihdhcgaeaa

/- The walks of a number's size in eight words, and of the common divisor of two words. -/
namespace Go.Proofs.Ytckbhihdhcgaeaa
open Go.RowKit
structure Gl (w wr : World) (xs ys : List Int) : Prop where
  below : Below w.heap.size w wr
  x : Blk wr w.heap.size (xs.map (Value.int .u64))
  y : Blk wr (w.heap.size + 1) (ys.map (Value.int .u64))
  o : Blk wr (w.heap.size + 1 + 1) [.int .u64 0, .int .u64 0, .int .u64 0, .int .u64 0, .int .u64 0, .int .u64 0, .int .u64 0, .int .u64 0]
theorem Gl.step {w wr wr' : World} {xs ys : List Int} (h : Gl w wr xs ys) (hB : Below wr.heap.size wr wr') : Gl w wr' xs ys := ⟨h.below.trans (hB.mono h.below.size), h.x.step hB, h.y.step hB, h.o.step hB⟩
end Go.Proofs.Ytckbhihdhcgaeaa

/- The walk of the program's common divisor of two numbers of four words. -/
namespace Go.Proofs.Ytckbhihdhcgaeaa
open Go.RowKit
end Go.Proofs.Ytckbhihdhcgaeaa

/- The walk of the model's product of two numbers. -/
namespace Go.Proofs.Ytckbhihdhcgaeaa
open Go.RowKit
end Go.Proofs.Ytckbhihdhcgaeaa

/- The quotient bit by bit: the reckoning. -/
namespace Go.Proofs.Ytckbhihdhcgaeaa
open Go.RowKit
end Go.Proofs.Ytckbhihdhcgaeaa

/- The difference of digits and the trimming once more, with where their answers lie. -/
namespace Go.Proofs.Ytckbhihdhcgaeaa
open Go.RowKit
end Go.Proofs.Ytckbhihdhcgaeaa

/- The walk of the model's quotient and rest of digits, bit by bit. -/
namespace Go.Proofs.Ytckbhihdhcgaeaa
open Go.RowKit
/-- What lies in memory between the rounds. -/
structure DvM (W wr : World) (g : Nat) (qs : List Int) (ro : Option Addr) (rn rc : Nat) (rs : List Int) (n : Nat) : Prop where
  below : Below W.heap.size W wr
  q : Blk wr g (qs.map (Value.int .u32))
  rlen : rs.length = rn
  rcap : rn ≤ rc
  rle : rn ≤ n
  rnrm : Nrm rs
  rrd : Rd wr ro rs
  rne : ∀ b off, ro = some ⟨b, off, none⟩ → rs ≠ [] → b ≠ g
theorem DvM.step {W wr wr' : World} {g : Nat} {qs : List Int} {ro : Option Addr} {rn rc : Nat} {rs : List Int} {n : Nat} (h : DvM W wr g qs ro rn rc rs n) (hB : Below wr.heap.size wr wr') : DvM W wr' g qs ro rn rc rs n :=
  ⟨h.below.trans (hB.mono h.below.size), h.q.step hB, h.rlen, h.rcap, h.rle, h.rnrm, h.rrd.below hB (Nat.le_refl _), h.rne⟩
end Go.Proofs.Ytckbhihdhcgaeaa

/- The walk of the model's greatest common divisor. -/
namespace Go.Proofs.Ytckbhihdhcgaeaa
open Go.RowKit
end Go.Proofs.Ytckbhihdhcgaeaa

/- The walk of the model's common divisor of two numbers of four words. -/
namespace Go.Proofs.Ytckbhihdhcgaeaa
open Go.RowKit
end Go.Proofs.Ytckbhihdhcgaeaa

/- Fractions: whether one is right. -/
namespace Go.Proofs.Ytckbhihdhcgaeaa
open Go.RowKit
/-- Two numbers as they lie in memory, side by side. -/
def TwoNP (x y : Int) (w : World) (e : Ending) (w' : World) : Prop :=
  ∃ (s : Bool) (ao : Option Addr) (n cap : Nat) (ds : List Int) (t : Bool) (bo : Option Addr) (m c : Nat) (es : List Int), e = .returned (.agg #[.bool s, .slice ao n cap, .bool t, .slice bo m c]) ∧ IsNum w' s ao n cap ds x 8 ∧ IsNum w' t bo m c es y 8 ∧ Below w.heap.size w w'
theorem IsNum.set {w : World} {s : Bool} {ao : Option Addr} {n cap : Nat} {ds : List Int} {z : Int} {k : Nat} (h : IsNum w s ao n cap ds z k) {p : Addr} {v : Value} (h0 : w.cell? p = some v) (hv : ∀ i, v ≠ .int .u32 i) (u : Value) : IsNum (w.setCell p u) s ao n cap ds z k :=
  ⟨h.neg, h.len, h.cap, h.rd.set u h0 hv, h.nrm, h.val, h.le⟩
theorem TwoNP.drew {x y : Int} {w w' : World} {e : Ending} (h : TwoNP x y w e w') : TwoNP x y w e w'.drew := by
  obtain ⟨s, ao, n, cap, ds, t, bo, m, c, es, he, N1, N2, hB⟩ := h
  exact ⟨s, ao, n, cap, ds, t, bo, m, c, es, he, ⟨N1.neg, N1.len, N1.cap, N1.rd, N1.nrm, N1.val, N1.le⟩, ⟨N2.neg, N2.len, N2.cap, N2.rd, N2.nrm, N2.val, N2.le⟩, hB.drew⟩
end Go.Proofs.Ytckbhihdhcgaeaa

/- Fractions in their order: the program's walks. -/
namespace Go.Proofs.Ytckbhihdhcgaeaa
open Go.RowKit
end Go.Proofs.Ytckbhihdhcgaeaa

/- The words of a number, as its bits lie. -/
namespace Go.Proofs.Ytckbhihdhcgaeaa
open Go.RowKit
def VP (v : Value) (w : World) (e : Ending) (w' : World) : Prop := e = .returned v ∧ Below w.heap.size w w'
end Go.Proofs.Ytckbhihdhcgaeaa

/- The quotient and the rest of numbers with signs: the reckoning. -/
namespace Go.Proofs.Ytckbhihdhcgaeaa
open Go.RowKit
end Go.Proofs.Ytckbhihdhcgaeaa

/- Quotients with their signs: the reckoning, and the walks of the pieces. -/
namespace Go.Proofs.Ytckbhihdhcgaeaa
open Go.RowKit
end Go.Proofs.Ytckbhihdhcgaeaa

/- The program's quotient of two numbers of four words: what lies in memory around the division. -/
namespace Go.Proofs.Ytckbhihdhcgaeaa
open Go.RowKit
end Go.Proofs.Ytckbhihdhcgaeaa

/- The walk of the program's quotient and rest of two numbers of four words. -/
namespace Go.Proofs.Ytckbhihdhcgaeaa
open Go.RowKit
end Go.Proofs.Ytckbhihdhcgaeaa

/- Two rows of four values, and a flag, laid behind the arguments. -/
namespace Go.Proofs.Ytckbhihdhcgaeaa
open Go.RowKit
def CutY (w wx : World) (vss : List (List Value)) (xs ys : List Value) (b : Bool) (p q r : Value) : Prop :=
  ∃ g g', p = (.pointer (some ⟨g, 0, none⟩)) ∧ q = (.pointer (some ⟨g', 0, none⟩)) ∧ r = .bool b ∧ g ≠ g' ∧ w.heap.size + vss.length ≤ g ∧ w.heap.size + vss.length ≤ g' ∧ ArgsB w wx vss ∧ Blk wx g xs ∧ Blk wx g' ys
theorem CutY.drew {w wx : World} {vss : List (List Value)} {xs ys : List Value} {b : Bool} {p q r : Value} (h : CutY w wx vss xs ys b p q r) : CutY w wx.drew vss xs ys b p q r := by
  obtain ⟨g, g', e, f, i, n, l, l', A, B, C⟩ := h
  exact ⟨g, g', e, f, i, n, l, l', A.drew, B.drew, C.drew⟩
end Go.Proofs.Ytckbhihdhcgaeaa

/- Rows of eight values laid behind the arguments. -/
namespace Go.Proofs.Ytckbhihdhcgaeaa
open Go.RowKit
end Go.Proofs.Ytckbhihdhcgaeaa

/- The walk of what a long is when it is divided by a divisor of it, told as four words. -/
namespace Go.Proofs.Ytckbhihdhcgaeaa
open Go.RowKit
end Go.Proofs.Ytckbhihdhcgaeaa

/- The walk of the model's quotient and rest of numbers with signs. -/
namespace Go.Proofs.Ytckbhihdhcgaeaa
open Go.RowKit
end Go.Proofs.Ytckbhihdhcgaeaa

/- Fractions: the model's word on whether one is right, and the law over both. -/
namespace Go.Proofs.Ytckbhihdhcgaeaa
open Go.RowKit
end Go.Proofs.Ytckbhihdhcgaeaa

/- Fractions in their order: the program's and the model's answer, and the law over both. -/
namespace Go.Proofs.Ytckbhihdhcgaeaa
open Go.RowKit
end Go.Proofs.Ytckbhihdhcgaeaa

/- The walk of a fraction in its lowest terms. -/
namespace Go.Proofs.Ytckbhihdhcgaeaa
open Go.RowKit
end Go.Proofs.Ytckbhihdhcgaeaa

/- Two numbers of digits laid behind the arguments; the model's tell of a number, its value known. -/
namespace Go.Proofs.Ytckbhihdhcgaeaa
open Go.RowKit
theorem IsNum.step {w w' : World} {s : Bool} {ao : Option Addr} {n cap : Nat} {ds : List Int} {z : Int} {k : Nat} (h : IsNum w s ao n cap ds z k) (hb : Below w.heap.size w w') : IsNum w' s ao n cap ds z k := h.below hb
theorem IsNum.alloc {w : World} {s : Bool} {ao : Option Addr} {n cap : Nat} {ds : List Int} {z : Int} {k : Nat} (h : IsNum w s ao n cap ds z k) (o : Obj) : IsNum (w.alloc o) s ao n cap ds z k := h.below ((Below.refl _ _).alloc (Nat.le_refl _) o)
end Go.Proofs.Ytckbhihdhcgaeaa

/- The walk of the model's quotient and rest of two numbers of four words. -/
namespace Go.Proofs.Ytckbhihdhcgaeaa
open Go.RowKit
end Go.Proofs.Ytckbhihdhcgaeaa

/- The walk of the model's fraction in lowest terms. -/
namespace Go.Proofs.Ytckbhihdhcgaeaa
open Go.RowKit
/-- Two numbers of digits in one answer. -/
def NumsP (k : Nat) (x y : Int) (w : World) (e : Ending) (w' : World) : Prop :=
  ∃ (s1 : Bool) (o1 : Option Addr) (n1 c1 : Nat) (d1 : List Int) (s2 : Bool) (o2 : Option Addr) (n2 c2 : Nat) (d2 : List Int), e = .returned (.agg #[.bool s1, .slice o1 n1 c1, .bool s2, .slice o2 n2 c2]) ∧ IsNum w' s1 o1 n1 c1 d1 x k ∧ IsNum w' s2 o2 n2 c2 d2 y k ∧ Below w.heap.size w w'
theorem NumsP.drew {k : Nat} {x y : Int} {w w' : World} {e : Ending} (h : NumsP k x y w e w') : NumsP k x y w e w'.drew := by
  obtain ⟨s1, o1, n1, c1, d1, s2, o2, n2, c2, d2, e, N1, N2, hB⟩ := h
  exact ⟨s1, o1, n1, c1, d1, s2, o2, n2, c2, d2, e, N1.drew, N2.drew, hB.drew⟩
/-- The two numbers as they lie in the arguments' places. -/
def CutM (w wx : World) (x y : Int) (k : Nat) : Prop :=
  ∃ (s1 : Bool) (o1 : Option Addr) (n1 c1 : Nat) (d1 : List Int) (s2 : Bool) (o2 : Option Addr) (n2 c2 : Nat) (d2 : List Int), ArgsB w wx [[.bool s1, .slice o1 n1 c1], [.bool s2, .slice o2 n2 c2], [.bool false, .slice none 0 0, .bool false, .slice none 0 0]] ∧ IsNum wx s1 o1 n1 c1 d1 x k ∧ IsNum wx s2 o2 n2 c2 d2 y k
theorem CutM.drew {w W : World} {x y : Int} {k : Nat} (h : CutM w W x y k) : CutM w W.drew x y k := by
  obtain ⟨s1, o1, n1, c1, d1, s2, o2, n2, c2, d2, A, N1, N2⟩ := h
  exact ⟨s1, o1, n1, c1, d1, s2, o2, n2, c2, d2, A.drew, N1.drew, N2.drew⟩
end Go.Proofs.Ytckbhihdhcgaeaa

/- What the walks of the laws over two numbers of four words share. -/
namespace Go.Proofs.Ytckbhihdhcgaeaa
open Go.RowKit
/-- A number that was told lies in the block g, its flag beside it. -/
def LayP (z : Int) (w wx : World) (g : Nat) (x3 x2 x1 x0 : Int) (t : Bool) : Prop :=
  Wd wx g x3 x2 x1 x0 ∧ w.heap.size + 1 < g ∧ ∃ u v, TellP z u (.returned (.tuple #[.agg #[.int .u64 x3, .int .u64 x2, .int .u64 x1, .int .u64 x0], .bool t])) v
theorem LayP.step {z : Int} {w W W' : World} {g : Nat} {x3 x2 x1 x0 : Int} {t : Bool} (h : LayP z w W g x3 x2 x1 x0 t) (hb : Below W.heap.size W W') : LayP z w W' g x3 x2 x1 x0 t := ⟨h.1.step hb, h.2⟩
theorem LayP.alloc {z : Int} {w W : World} {g : Nat} {x3 x2 x1 x0 : Int} {t : Bool} (h : LayP z w W g x3 x2 x1 x0 t) (o : Obj) : LayP z w (W.alloc o) g x3 x2 x1 x0 t := ⟨h.1.alloc o, h.2⟩
theorem LayP.drew {z : Int} {w W : World} {g : Nat} {x3 x2 x1 x0 : Int} {t : Bool} (h : LayP z w W g x3 x2 x1 x0 t) : LayP z w W.drew g x3 x2 x1 x0 t := ⟨h.1.drew, h.2⟩
theorem LayP.set {z : Int} {w W : World} {g R : Nat} {x3 x2 x1 x0 : Int} {t : Bool} (h : LayP z w W g x3 x2 x1 x0 t) (hne : g ≠ R) (u0 u1 u2 u3 : Value) : LayP z w ((((W.setCell ⟨R, 0, none⟩ u0).setCell ⟨R, 1, none⟩ u1).setCell ⟨R, 2, none⟩ u2).setCell ⟨R, 3, none⟩ u3) g x3 x2 x1 x0 t := ⟨h.1.set hne _ _ _ _, h.2⟩
end Go.Proofs.Ytckbhihdhcgaeaa

/- Fractions of two numbers: the program's, the model's; and when two fractions are one. -/
namespace Go.Proofs.Ytckbhihdhcgaeaa
open Go.RowKit
end Go.Proofs.Ytckbhihdhcgaeaa

/- The program's sums, products and quotients of fractions. -/
namespace Go.Proofs.Ytckbhihdhcgaeaa
open Go.RowKit
end Go.Proofs.Ytckbhihdhcgaeaa

/- A spot as a point: the walks of the model's numbers. -/
namespace Go.Proofs.Ytckbhihdhcgaeaa
open Go.RowKit
end Go.Proofs.Ytckbhihdhcgaeaa

/- A spot as a point: the walks of the model's point of numbers. -/
namespace Go.Proofs.Ytckbhihdhcgaeaa
open Go.RowKit
theorem ret_bool {a b : Bool} (h : b = a) : Ending.returned (.bool a) = .returned (.bool b) := by rw [h]
end Go.Proofs.Ytckbhihdhcgaeaa

/- Numbers by their own words: what is answered is known ahead. -/
namespace Go.Proofs.Ytckbhihdhcgaeaa
open Go.RowKit
end Go.Proofs.Ytckbhihdhcgaeaa

/- Points: the program's walks. -/
namespace Go.Proofs.Ytckbhihdhcgaeaa
open Go.RowKit
end Go.Proofs.Ytckbhihdhcgaeaa

/- Points: what three numbers have in common. -/
namespace Go.Proofs.Ytckbhihdhcgaeaa
open Go.RowKit
end Go.Proofs.Ytckbhihdhcgaeaa

/- Points: whether one is right, by the program. -/
namespace Go.Proofs.Ytckbhihdhcgaeaa
open Go.RowKit
end Go.Proofs.Ytckbhihdhcgaeaa

/- How a value of four words reads as data: opened and shut. -/
namespace Go.Proofs.Ytckbhihdhcgaeaa
open Go.ChangeShapes Go.WideShapes Go.ChangeAt Go.RowKit Go.Joins
theorem Try.own : ownKnob Try.prog.godebug = none := by kernel_rfl
end Go.Proofs.Ytckbhihdhcgaeaa

/- Points: the law's own copy of one, and how one reads as data. -/
namespace Go.Proofs.Ytckbhihdhcgaeaa
open Go.ChangeShapes Go.WideShapes Go.ChangeAt Go.RowKit Go.Joins
end Go.Proofs.Ytckbhihdhcgaeaa

/- A spot as a point: the walks of the model's point, told, of the program's, and of the law. -/
namespace Go.Proofs.Ytckbhihdhcgaeaa
open Go.RowKit
end Go.Proofs.Ytckbhihdhcgaeaa

/- A spot as a point: the walks of the model's point, of the program's, and of the law. -/
namespace Go.Proofs.Ytckbhihdhcgaeaa
open Go.RowKit
def SpotP (x y : Int) (w : World) (e : Ending) (w' : World) : Prop := e = .returned (.agg #[.int .i64 x, .int .i64 y]) ∧ Below w.heap.size w w'
theorem toSpot_any (x y : Int) (w : World) : Calls Try.prog 43 #[.agg #[.int .i64 x, .int .i64 y]] w (SpotP x y w) := by
  go_enter Try.func43, Try.ntmps43
  go_wp2
  refine bodyPost_ret (v := .agg #[.int .i64 x, .int .i64 y]) (by simp [results, Try.results43, go_sem]) rfl ?_
  exact ⟨rfl, (((Below.refl _ _).alloc (Nat.le_refl _) _).alloc (by simp) _).alloc (by simp; omega) _⟩
end Go.Proofs.Ytckbhihdhcgaeaa

/- Spots and segments beside points: the walks of their rightness, by the model and by the program. -/
namespace Go.Proofs.Ytckbhihdhcgaeaa
open Go.RowKit
abbrev Sp (x y : Int) : Value := .agg #[.int .i64 x, .int .i64 y]
def spotOk (x y : Int) : Bool := decide (-1000000 ≤ x ∧ x ≤ 1000000 ∧ -1000000 ≤ y ∧ y ≤ 1000000)
theorem l1In_any (x a b : Int) (c : Bool) (hc : decide (a ≤ x ∧ x ≤ b) = c) (w : World) : Calls Try.prog 110 #[.int .i64 x, .int .i64 a, .int .i64 b] w (BoolP c w) := by
  go_enter Try.func110, Try.ntmps110
  go_wp2
  all_goals go_ret
  all_goals exact ⟨ret_bool (by subst hc; simp; try omega), Below.refl _ _⟩
theorem implSpotOk_any (x y : Int) (c : Bool) (hc : spotOk x y = c) (w : World) : Calls Try.prog 99 #[Sp x y] w (BoolP c w) := by
  go_enter Try.func99, Try.ntmps99
  go_wp2
  all_goals go_ret
  all_goals exact ⟨ret_bool (by subst hc; unfold spotOk; simp [*]; try omega), (Below.refl _ _).alloc (Nat.le_refl _) _⟩
theorem specSpotOk_any (x y : Int) (c : Bool) (hc : spotOk x y = c) (w : World) : Calls Try.prog 97 #[Sp x y] w (BoolP c w) := by
  by_cases hx : -1000000 ≤ x ∧ x ≤ 1000000
  · go_enter Try.func97, Try.ntmps97
    go_wp2_with fail
    refine (l1In_any _ _ _ true (by simpa using hx) _).mono ?_
    rintro e w1 ⟨rfl, hB⟩
    obtain ⟨hq, _⟩ := bcell hB
    have HB : Below w.heap.size w w1 := ((Below.refl _ _).alloc (Nat.le_refl _) _).trans (hB.mono (by simp))
    clear hB
    go_wp2_with fail
    refine (l1In_any _ _ _ c (by subst hc; unfold spotOk; simp [hx]) _).mono ?_
    rintro e w2 ⟨rfl, hB⟩
    go_wp2
    go_ret
    exact ⟨rfl, HB.trans (hB.mono HB.size)⟩
  · go_enter Try.func97, Try.ntmps97
    go_wp2_with fail
    refine (l1In_any _ _ _ false (by simpa using hx) _).mono ?_
    rintro e w1 ⟨rfl, hB⟩
    have HB : Below w.heap.size w w1 := ((Below.refl _ _).alloc (Nat.le_refl _) _).trans (hB.mono (by simp))
    clear hB
    go_wp2
    go_ret
    exact ⟨ret_bool (by subst hc; unfold spotOk; simp; omega), HB⟩
def lessI (x y u v : Int) : Bool := decide (x < u ∨ x = u ∧ y < v)
theorem l4Less_any (x y u v : Int) (c : Bool) (hc : lessI x y u v = c) (w : World) : Calls Try.prog 141 #[Sp x y, Sp u v] w (BoolP c w) := by
  go_enter Try.func141, Try.ntmps141
  go_wp2
  all_goals go_ret
  all_goals exact ⟨ret_bool (by subst hc; unfold lessI; simp [*]; try omega), ((Below.refl _ _).alloc (Nat.le_refl _) _).alloc (by simp) _⟩
theorem isAhead_any (x y u v : Int) (c : Bool) (hc : lessI x y u v = c) (w : World) : Calls Try.prog 142 #[Sp x y, Sp u v] w (BoolP c w) := by
  go_enter Try.func142, Try.ntmps142
  go_wp2
  all_goals go_ret
  all_goals exact ⟨ret_bool (by subst hc; unfold lessI; simp [*]; try omega), ((Below.refl _ _).alloc (Nat.le_refl _) _).alloc (by simp) _⟩
abbrev Sg (a b c d : Int) : Value := .agg #[.int .i64 a, .int .i64 b, .int .i64 c, .int .i64 d]
def SegP (a b c d : Int) (w : World) (e : Ending) (w' : World) : Prop := e = .returned (Sg a b c d) ∧ Below w.heap.size w w'

/-- Four cells of a block, to be written. -/
structure Quad (W : World) (g : Nat) (v0 v1 v2 v3 : Value) : Prop where
  c0 : W.cell? ⟨g, 0, none⟩ = some v0
  c1 : W.cell? ⟨g, 1, none⟩ = some v1
  c2 : W.cell? ⟨g, 2, none⟩ = some v2
  c3 : W.cell? ⟨g, 3, none⟩ = some v3
  f0 : W.frozen? ⟨g, 0, none⟩ = false
  f1 : W.frozen? ⟨g, 1, none⟩ = false
  f2 : W.frozen? ⟨g, 2, none⟩ = false
  f3 : W.frozen? ⟨g, 3, none⟩ = false
  lt : g < W.heap.size
theorem Quad.below {W W' : World} {B g : Nat} {v0 v1 v2 v3 : Value} (h : Quad W g v0 v1 v2 v3) (hB : Below B W W') (hg : g < B) : Quad W' g v0 v1 v2 v3 :=
  ⟨(hB.cell (p := ⟨g, 0, none⟩) hg).trans h.c0, (hB.cell (p := ⟨g, 1, none⟩) hg).trans h.c1, (hB.cell (p := ⟨g, 2, none⟩) hg).trans h.c2, (hB.cell (p := ⟨g, 3, none⟩) hg).trans h.c3,
   (hB.frozen (p := ⟨g, 0, none⟩) hg).trans h.f0, (hB.frozen (p := ⟨g, 1, none⟩) hg).trans h.f1, (hB.frozen (p := ⟨g, 2, none⟩) hg).trans h.f2, (hB.frozen (p := ⟨g, 3, none⟩) hg).trans h.f3, Nat.lt_of_lt_of_le h.lt hB.size⟩
theorem Quad.alloc {W : World} {g : Nat} {v0 v1 v2 v3 : Value} (h : Quad W g v0 v1 v2 v3) (o : Obj) : Quad (W.alloc o) g v0 v1 v2 v3 := h.below ((Below.refl W.heap.size W).alloc (Nat.le_refl _) o) h.lt
theorem Quad.new (W : World) (v0 v1 v2 v3 : Value) (t : TypeId) {g : Nat} (hg : g = W.heap.size) : Quad (W.alloc (.cells #[v0, v1, v2, v3] t)) g v0 v1 v2 v3 := by
  subst hg
  constructor <;> simp [go_sem]
set_option maxRecDepth 100000 in
set_option maxHeartbeats 400000 in
theorem toSeg_any (a b c d : Int) (w : World) : Calls Try.prog 36 #[Sg a b c d] w (SegP a b c d w) := by
  go_enter Try.func36, Try.ntmps36
  go_wp2_with fail
  refine (toSpot_any _ _ _).mono ?_
  rintro e w1 ⟨rfl, hB⟩
  have hz := hB.size
  have HB : Below w.heap.size w w1 := ((((Below.refl _ _).alloc (Nat.le_refl _) _).alloc (by simp) _).alloc (by simp; omega) _).trans (hB.mono (by simp; omega))
  have q0 : Quad w1 w.heap.size _ _ _ _ := (((Quad.new w (.int .i64 a) (.int .i64 b) (.int .i64 c) (.int .i64 d) _ rfl).alloc _).alloc _).below hB (by simp; omega)
  have q1 : Quad w1 (w.heap.size + 1) _ _ _ _ := ((Quad.new (w.alloc _) (.int .i64 0) (.int .i64 0) (.int .i64 0) (.int .i64 0) _ (by simp)).alloc _).below hB (by simp)
  have q2 : Quad w1 (w.heap.size + 1 + 1) _ _ _ _ := (Quad.new ((w.alloc _).alloc _) (.int .i64 0) (.int .i64 0) (.int .i64 0) (.int .i64 0) _ (by simp)).below hB (by simp)
  clear hB
  simp at hz
  obtain ⟨q00, q01, q02, q03, -, -, -, -, q08⟩ := id q0
  obtain ⟨q20, q21, q22, q23, q24, q25, q26, q27, q28⟩ := id q2
  go_wp2_with fail
  refine (toSpot_any _ _ _).mono ?_
  rintro e w2 ⟨rfl, hB⟩
  have HB2 : Below w.heap.size w w2 := ((HB.setCell (p := ⟨w.heap.size + 2, 0, none⟩) (by simp) _).setCell (p := ⟨w.heap.size + 2, 1, none⟩) (by simp) _).trans (hB.mono (by have := HB.size; simpa [World.setCell] using this))
  have r2 : Quad w2 (w.heap.size + 1 + 1) (.int .i64 a) (.int .i64 b) (.int .i64 0) (.int .i64 0) := Quad.below (by constructor <;> simp [go_sem, q20, q21, q22, q23, q24, q25, q26, q27]; try exact q28) hB (by simpa [World.setCell] using q28)
  have r1 : Quad w2 (w.heap.size + 1) (.int .i64 0) (.int .i64 0) (.int .i64 0) (.int .i64 0) := Quad.below (by constructor <;> simp [go_sem, q1.c0, q1.c1, q1.c2, q1.c3, q1.f0, q1.f1, q1.f2, q1.f3]; try exact q1.lt) hB (by simpa [World.setCell] using q1.lt)
  clear hB HB q0 q1 q2 q00 q01 q02 q03 q08 q20 q21 q22 q23 q24 q25 q26 q27 q28
  obtain ⟨q10, q11, q12, q13, q14, q15, q16, q17, q18⟩ := id r1
  obtain ⟨q20, q21, q22, q23, q24, q25, q26, q27, q28⟩ := id r2
  go_wp2
  refine bodyPost_ret (v := Sg a b c d) (by simp [results, Try.results36, go_sem, q10, q11, q12, q13]) rfl ?_
  refine ⟨rfl, ?_⟩
  repeat' (first | (refine Below.setCell ?_ (by simp; try omega) _))
  exact HB2
def segOk (a b c d : Int) : Bool := spotOk a b && spotOk c d && lessI a b c d
set_option maxRecDepth 100000 in
theorem specSegOk_any (a b c d : Int) (z : Bool) (hz : segOk a b c d = z) (w : World) : Calls Try.prog 90 #[Sg a b c d] w (BoolP z w) := by
  have HB0 : Below w.heap.size w (w.alloc (.cells #[.int .i64 a, .int .i64 b, .int .i64 c, .int .i64 d] 56)) := (Below.refl _ _).alloc (Nat.le_refl _) _
  by_cases hx : spotOk a b = true
  · by_cases hy : spotOk c d = true
    · go_enter Try.func90, Try.ntmps90
      go_wp2_with fail
      refine (specSpotOk_any _ _ true hx _).mono ?_
      rintro e w1 ⟨rfl, hB⟩
      have HB : Below w.heap.size w w1 := HB0.trans (hB.mono (by simp))
      have q0 : Quad w1 w.heap.size _ _ _ _ := (Quad.new w (.int .i64 a) (.int .i64 b) (.int .i64 c) (.int .i64 d) _ rfl).below hB (by simp)
      obtain ⟨q00, q01, q02, q03, -, -, -, -, q08⟩ := id q0
      clear hB
      go_wp2_with fail
      refine (specSpotOk_any _ _ true hy _).mono ?_
      rintro e w2 ⟨rfl, hB⟩
      have HB2 : Below w.heap.size w w2 := HB.trans (hB.mono HB.size)
      have q2 := q0.below hB q0.lt
      clear q00 q01 q02 q03 q08
      obtain ⟨q00, q01, q02, q03, -, -, -, -, q08⟩ := q2
      clear hB HB
      go_wp2_with fail
      refine (l4Less_any _ _ _ _ z (by rw [← hz]; simp [segOk, hx, hy]) _).mono ?_
      rintro e w3 ⟨rfl, hB⟩
      go_wp2
      go_ret
      exact ⟨rfl, HB2.trans (hB.mono HB2.size)⟩
    · have hy := Bool.eq_false_iff.2 hy
      go_enter Try.func90, Try.ntmps90
      go_wp2_with fail
      refine (specSpotOk_any _ _ true hx _).mono ?_
      rintro e w1 ⟨rfl, hB⟩
      have HB : Below w.heap.size w w1 := HB0.trans (hB.mono (by simp))
      have q0 : Quad w1 w.heap.size _ _ _ _ := (Quad.new w (.int .i64 a) (.int .i64 b) (.int .i64 c) (.int .i64 d) _ rfl).below hB (by simp)
      obtain ⟨q00, q01, q02, q03, -, -, -, -, q08⟩ := id q0
      clear hB
      go_wp2_with fail
      refine (specSpotOk_any _ _ false hy _).mono ?_
      rintro e w2 ⟨rfl, hB⟩
      have HB2 : Below w.heap.size w w2 := HB.trans (hB.mono HB.size)
      clear hB HB
      go_wp2
      go_ret
      exact ⟨ret_bool (by rw [← hz]; simp [segOk, hx, hy]), HB2⟩
  · have hx := Bool.eq_false_iff.2 hx
    go_enter Try.func90, Try.ntmps90
    go_wp2_with fail
    refine (specSpotOk_any _ _ false hx _).mono ?_
    rintro e w1 ⟨rfl, hB⟩
    have HB : Below w.heap.size w w1 := HB0.trans (hB.mono (by simp))
    clear hB
    go_wp2
    go_ret
    exact ⟨ret_bool (by rw [← hz]; simp [segOk, hx]), HB⟩
set_option maxRecDepth 100000 in
theorem implSegOk_any (a b c d : Int) (z : Bool) (hz : segOk a b c d = z) (w : World) : Calls Try.prog 92 #[Sg a b c d] w (BoolP z w) := by
  have HB0 : Below w.heap.size w (w.alloc (.cells #[.int .i64 a, .int .i64 b, .int .i64 c, .int .i64 d] 56)) := (Below.refl _ _).alloc (Nat.le_refl _) _
  by_cases hx : spotOk a b = true
  · by_cases hy : spotOk c d = true
    · go_enter Try.func92, Try.ntmps92
      go_wp2_with fail
      refine (implSpotOk_any _ _ true hx _).mono ?_
      rintro e w1 ⟨rfl, hB⟩
      have HB : Below w.heap.size w w1 := HB0.trans (hB.mono (by simp))
      have q0 : Quad w1 w.heap.size _ _ _ _ := (Quad.new w (.int .i64 a) (.int .i64 b) (.int .i64 c) (.int .i64 d) _ rfl).below hB (by simp)
      obtain ⟨q00, q01, q02, q03, -, -, -, -, q08⟩ := id q0
      clear hB
      go_wp2_with fail
      refine (implSpotOk_any _ _ true hy _).mono ?_
      rintro e w2 ⟨rfl, hB⟩
      have HB2 : Below w.heap.size w w2 := HB.trans (hB.mono HB.size)
      have q2 := q0.below hB q0.lt
      clear q00 q01 q02 q03 q08
      obtain ⟨q00, q01, q02, q03, -, -, -, -, q08⟩ := q2
      clear hB HB
      go_wp2_with fail
      refine (isAhead_any _ _ _ _ z (by rw [← hz]; simp [segOk, hx, hy]) _).mono ?_
      rintro e w3 ⟨rfl, hB⟩
      go_wp2
      go_ret
      exact ⟨rfl, HB2.trans (hB.mono HB2.size)⟩
    · have hy := Bool.eq_false_iff.2 hy
      go_enter Try.func92, Try.ntmps92
      go_wp2_with fail
      refine (implSpotOk_any _ _ true hx _).mono ?_
      rintro e w1 ⟨rfl, hB⟩
      have HB : Below w.heap.size w w1 := HB0.trans (hB.mono (by simp))
      have q0 : Quad w1 w.heap.size _ _ _ _ := (Quad.new w (.int .i64 a) (.int .i64 b) (.int .i64 c) (.int .i64 d) _ rfl).below hB (by simp)
      obtain ⟨q00, q01, q02, q03, -, -, -, -, q08⟩ := id q0
      clear hB
      go_wp2_with fail
      refine (implSpotOk_any _ _ false hy _).mono ?_
      rintro e w2 ⟨rfl, hB⟩
      have HB2 : Below w.heap.size w w2 := HB.trans (hB.mono HB.size)
      clear hB HB
      go_wp2
      go_ret
      exact ⟨ret_bool (by rw [← hz]; simp [segOk, hx, hy]), HB2⟩
  · have hx := Bool.eq_false_iff.2 hx
    go_enter Try.func92, Try.ntmps92
    go_wp2_with fail
    refine (implSpotOk_any _ _ false hx _).mono ?_
    rintro e w1 ⟨rfl, hB⟩
    have HB : Below w.heap.size w w1 := HB0.trans (hB.mono (by simp))
    clear hB
    go_wp2
    go_ret
    exact ⟨ret_bool (by rw [← hz]; simp [segOk, hx]), HB⟩
end Go.Proofs.Ytckbhihdhcgaeaa

/- The ends of a segment as points: the program's walk. -/
namespace Go.Proofs.Ytckbhihdhcgaeaa
open Go.RowKit
end Go.Proofs.Ytckbhihdhcgaeaa

/- Rows of segments: how they lie, and the walks over them. -/
namespace Go.Proofs.Ytckbhihdhcgaeaa
open Go.RowKit
/-- n segments lie behind a slice's address, their numbers by x. -/
def SegIn (w : World) (ao : Option Addr) (n : Nat) (x : Nat → Int) : Prop :=
  ∀ i, i < n → ∃ A off, ao = some ⟨A, off, none⟩ ∧ A < w.heap.size ∧ ∀ j, j < 4 → w.cell? ⟨A, off + i * 4 + j, none⟩ = some (.int .i64 (x (i * 4 + j)))
theorem SegIn.step {w w' : World} {ao : Option Addr} {n : Nat} {x : Nat → Int} (h : SegIn w ao n x) (hB : Below w.heap.size w w') : SegIn w' ao n x := fun i hi => by
  obtain ⟨A, off, e, hA, hc⟩ := h i hi
  exact ⟨A, off, e, Nat.lt_of_lt_of_le hA hB.size, fun j hj => (hB.cell (p := ⟨A, off + i * 4 + j, none⟩) hA).trans (hc j hj)⟩
theorem SegIn.drew {w : World} {ao : Option Addr} {n : Nat} {x : Nat → Int} (h : SegIn w ao n x) : SegIn w.drew ao n x := h
theorem segIn_row {w : World} {g n : Nat} {T : TypeId} {x : Nat → Int} (h : w.rowIs g T (n * 4) (fun i => .int .i64 (x i))) : SegIn w (some ⟨g, 0, none⟩) n x := fun i hi =>
  ⟨g, 0, rfl, h.lt, fun j hj => by rw [Nat.zero_add]; exact h.cell (by omega)⟩
/-- What is at fault in a row of segments. -/
def sgI (n : Nat) (x : Nat → Int) : Int := if 40 < n then 1 else if ∀ i, i < n → segOk (x (i * 4)) (x (i * 4 + 1)) (x (i * 4 + 2)) (x (i * 4 + 3)) = true then 0 else 2
set_option maxRecDepth 100000 in
set_option maxHeartbeats 2000000 in
theorem specSegsFault_any (ao : Option Addr) (n cap : Nat) (x : Nat → Int) (w : World) (hS : SegIn w ao n x) : Calls Try.prog 48 #[.slice ao n cap] w (VP (.int .i64 (sgI n x)) w) := by
  by_cases hn : 40 < n
  · have HO : Hid (sgI n x = 1) := by show _ = _; unfold sgI; rw [if_pos hn]
    go_enter Try.func48, Try.ntmps48
    have hn' : (40 : Int) < n := by omega
    clear hS
    go_wp2
    go_ret
    exact ⟨by rw [HO.out]; rfl, Below.refl _ _⟩
  · go_enter Try.func48, Try.ntmps48
    have hn' : (n : Int) ≤ 40 := by omega
    have HS : Hid (SegIn w ao n x) := hS
    clear hS
    go_wp2_with fail
    go_loopw [3] (fun i wr => ∃ c : Nat, c ≤ n ∧ i = .int .i64 c ∧ (∀ j, j < c → segOk (x (j * 4)) (x (j * 4 + 1)) (x (j * 4 + 2)) (x (j * 4 + 3)) = true) ∧ Below w.heap.size w wr) (fun i _ => n - (intOf i).toNat)
    case atStart => exact ⟨0, by omega, rfl, fun j hj => by omega, Below.refl _ _⟩
    case round =>
      obtain ⟨c, hc, rfl, hall, HB⟩ := hrel
      have HA : Hid (∀ j, j < c → segOk (x (j * 4)) (x (j * 4 + 1)) (x (j * 4 + 2)) (x (j * 4 + 3)) = true) := hall
      clear hall
      by_cases hcn : c < n
      · obtain ⟨A, off, rfl, hA, hcell⟩ := HS.out.step HB c hcn
        have q0 := hcell 0 (by omega); have q1 := hcell 1 (by omega); have q2 := hcell 2 (by omega); have q3 := hcell 3 (by omega)
        simp only [Nat.add_zero] at q0
        have hcI : (c : Int) < n := by omega
        have SO := fun w => specSegOk_any (x (c * 4)) (x (c * 4 + 1)) (x (c * 4 + 2)) (x (c * 4 + 3)) _ rfl w
        clear hcell
        go_wp2_with fail
        refine (SO _).mono ?_
        rintro e w1 ⟨rfl, hB⟩
        
        replace HB := HB.trans (hB.mono HB.size)
        clear hB q0 q1 q2 q3 SO hA
        by_cases hk : segOk (x (c * 4)) (x (c * 4 + 1)) (x (c * 4 + 2)) (x (c * 4 + 3)) = true
        · rw [hk]
          have HK : Hid (segOk (x (c * 4)) (x (c * 4 + 1)) (x (c * 4 + 2)) (x (c * 4 + 3)) = true) := hk
          clear hk
          go_wp2
          go_roundw
          case rel => exact ⟨c + 1, by omega, by go_num, fun j hj => by
            rcases Nat.lt_or_ge j c with h | h
            · exact HA.out j h
            · obtain rfl : j = c := by omega
              exact HK.out, HB⟩
          case measure => simp [intOf]; omega
        · have HO : Hid (sgI n x = 2) := by show _ = _; unfold sgI; rw [if_neg hn, if_neg (fun h => hk (h c hcn))]
          rw [Bool.eq_false_iff.2 hk]
          clear hk
          go_wp2
          go_ret
          exact ⟨by rw [HO.out]; rfl, HB⟩
      · obtain rfl : c = n := by omega
        have HO : Hid (sgI c x = 0) := by show _ = _; unfold sgI; rw [if_neg hn, if_pos HA.out]
        clear HA HS
        go_wp2
        go_ret
        exact ⟨by rw [HO.out]; rfl, HB⟩
set_option maxRecDepth 100000 in
set_option maxHeartbeats 2000000 in
theorem implSegsFault_any (ao : Option Addr) (n cap : Nat) (x : Nat → Int) (w : World) (hS : SegIn w ao n x) : Calls Try.prog 50 #[.slice ao n cap] w (VP (.int .i64 (sgI n x)) w) := by
  by_cases hn : 40 < n
  · have HO : Hid (sgI n x = 1) := by show _ = _; unfold sgI; rw [if_pos hn]
    go_enter Try.func50, Try.ntmps50
    have hn' : (40 : Int) < n := by omega
    clear hS
    go_wp2
    go_ret
    exact ⟨by rw [HO.out]; rfl, Below.refl _ _⟩
  · go_enter Try.func50, Try.ntmps50
    have hn' : (n : Int) ≤ 40 := by omega
    have HS : Hid (SegIn w ao n x) := hS
    clear hS
    go_wp2_with fail
    go_loopw [10] (fun i wr => ∃ c : Nat, c ≤ n ∧ i = .int .i64 c ∧ (∀ j, j < c → segOk (x (j * 4)) (x (j * 4 + 1)) (x (j * 4 + 2)) (x (j * 4 + 3)) = true) ∧ Below w.heap.size w wr) (fun i _ => n - (intOf i).toNat)
    case atStart => exact ⟨0, by omega, rfl, fun j hj => by omega, Below.refl _ _⟩
    case round =>
      obtain ⟨c, hc, rfl, hall, HB⟩ := hrel
      have HA : Hid (∀ j, j < c → segOk (x (j * 4)) (x (j * 4 + 1)) (x (j * 4 + 2)) (x (j * 4 + 3)) = true) := hall
      clear hall
      by_cases hcn : c < n
      · obtain ⟨A, off, rfl, hA, hcell⟩ := HS.out.step HB c hcn
        have q0 := hcell 0 (by omega); have q1 := hcell 1 (by omega); have q2 := hcell 2 (by omega); have q3 := hcell 3 (by omega)
        simp only [Nat.add_zero] at q0
        have hcI : (c : Int) < n := by omega
        have SO := fun w => implSegOk_any (x (c * 4)) (x (c * 4 + 1)) (x (c * 4 + 2)) (x (c * 4 + 3)) _ rfl w
        clear hcell
        go_wp2_with fail
        refine (SO _).mono ?_
        rintro e w1 ⟨rfl, hB⟩
        
        replace HB := (HB.alloc HB.size _).trans (hB.mono (HB.alloc HB.size _).size)
        clear hB q0 q1 q2 q3 SO hA
        by_cases hk : segOk (x (c * 4)) (x (c * 4 + 1)) (x (c * 4 + 2)) (x (c * 4 + 3)) = true
        · rw [hk]
          have HK : Hid (segOk (x (c * 4)) (x (c * 4 + 1)) (x (c * 4 + 2)) (x (c * 4 + 3)) = true) := hk
          clear hk
          go_wp2
          go_roundw
          case rel => exact ⟨c + 1, by omega, by go_num, fun j hj => by
            rcases Nat.lt_or_ge j c with h | h
            · exact HA.out j h
            · obtain rfl : j = c := by omega
              exact HK.out, HB⟩
          case measure => simp [intOf]; omega
        · have HO : Hid (sgI n x = 2) := by show _ = _; unfold sgI; rw [if_neg hn, if_neg (fun h => hk (h c hcn))]
          rw [Bool.eq_false_iff.2 hk]
          clear hk
          go_wp2
          go_ret
          exact ⟨by rw [HO.out]; rfl, HB⟩
      · obtain rfl : c = n := by omega
        have HO : Hid (sgI c x = 0) := by show _ = _; unfold sgI; rw [if_neg hn, if_pos HA.out]
        clear HA HS
        go_wp2
        go_ret
        exact ⟨by rw [HO.out]; rfl, HB⟩
end Go.Proofs.Ytckbhihdhcgaeaa

/- Rows of segments: copied and held against one another; the law of what is at fault in them. -/
namespace Go.Proofs.Ytckbhihdhcgaeaa
open Go.RowKit
theorem eqSpot_same (x y : Int) (w : World) : Calls Try.prog 150 #[Sp x y, Sp x y] w (BoolP true w) := by
  go_enter Try.func150, Try.ntmps150
  go_wp2
  go_ret
  exact ⟨rfl, ((Below.refl _ _).alloc (Nat.le_refl _) _).alloc (by simp) _⟩
set_option maxRecDepth 100000 in
theorem eqSeg_same (a b c d : Int) (w : World) : Calls Try.prog 108 #[Sg a b c d, Sg a b c d] w (BoolP true w) := by
  have B0 := (Blk.new w [.int .i64 a, .int .i64 b, .int .i64 c, .int .i64 d] 56 rfl).alloc (.cells #[.int .i64 a, .int .i64 b, .int .i64 c, .int .i64 d] 56)
  have B1 := Blk.new (w.alloc (.cells #[.int .i64 a, .int .i64 b, .int .i64 c, .int .i64 d] 56)) [.int .i64 a, .int .i64 b, .int .i64 c, .int .i64 d] 56 (g := w.heap.size + 1) (by simp)
  have HB0 := ((Below.refl _ w).alloc (Nat.le_refl _) (.cells #[.int .i64 a, .int .i64 b, .int .i64 c, .int .i64 d] 56)).alloc (by simp) (.cells #[.int .i64 a, .int .i64 b, .int .i64 c, .int .i64 d] 56)
  go_enter Try.func108, Try.ntmps108
  go_wp2_with fail
  refine (eqSpot_same _ _ _).mono ?_
  rintro e w1 ⟨rfl, hB⟩
  replace B0 := B0.step hB; replace B1 := B1.step hB
  have HB : Below w.heap.size w w1 := HB0.trans (hB.mono HB0.size)
  clear hB HB0
  have p2 := B0.c 2 rfl; have p3 := B0.c 3 rfl; have q2 := B1.c 2 rfl; have q3 := B1.c 3 rfl
  go_wp2_with fail
  refine (eqSpot_same _ _ _).mono ?_
  rintro e w2 ⟨rfl, hB⟩
  have HB2 : Below w.heap.size w w2 := HB.trans (hB.mono HB.size)
  clear hB HB
  go_wp2
  go_ret
  exact ⟨rfl, HB2⟩
theorem Try.infoSeg : (Try.prog.info? 56).map (fun i => (i.zero, i.size, i.bytes)) = some (some (.agg #[.int .i64 0, .int .i64 0, .int .i64 0, .int .i64 0]), 4, 32) := by kernel_rfl
theorem make_segs (n : Nat) (hn : n ≤ 1048576) (w : World) : (Instr.makeSlice 69 (.int .i64 (n : Int)) (.int .i64 (n : Int))).run Try.prog w = .ok (.slice (some ⟨w.heap.size, 0, none⟩) n n) (w.alloc (.cells (madeCells #[.int .i64 0, .int .i64 0, .int .i64 0, .int .i64 0] (n * 4)) 56)) := by
  obtain ⟨i, hi, hzz⟩ := Option.map_eq_some_iff.1 Try.infoSeg
  simp only [Prod.mk.injEq] at hzz
  obtain ⟨hz, hs, hb⟩ := hzz
  have hr := run_make (P := Try.prog) w 69 56 i (.agg #[.int .i64 0, .int .i64 0, .int .i64 0, .int .i64 0]) Try.underlying69 hi hz .i64 .i64 n n (by omega) (Int.le_refl _) (by rw [hb]; omega) (by omega)
  simp only [Int.toNat_natCast, hs, Value.cells] at hr
  exact hr
theorem row_made (w : World) (n : Nat) (T : TypeId) : (w.alloc (.cells (madeCells #[.int .i64 0, .int .i64 0, .int .i64 0, .int .i64 0] (n * 4)) T)).rowIs w.heap.size T (n * 4) (fun _ => .int .i64 0) := by
  have h := World.rowIs_alloc w (madeCells #[.int .i64 0, .int .i64 0, .int .i64 0, .int .i64 0] (n * 4)) T (fun _ => .int .i64 0) (fun i hi => by
    rw [size_madeCells] at hi
    simp [madeCells, hi]
    rcases (show i % 4 = 0 ∨ i % 4 = 1 ∨ i % 4 = 2 ∨ i % 4 = 3 by omega) with h | h | h | h <;> simp [h])
  rwa [size_madeCells] at h
/-- So far the row holds what was copied, behind it zeros. -/
def cpF (x : Nat → Int) (c : Nat) (i : Nat) : Value := .int .i64 (if i < c * 4 then x i else 0)
theorem row_step {w w' : World} {g n : Nat} {T : TypeId} {f : Nat → Value} (h : w.rowIs g T n f) (hB : Below w.heap.size w w') : w'.rowIs g T n f := h.of_block (hB.block g h.lt)
theorem cp_step {w : World} {g n c : Nat} {T : TypeId} {x : Nat → Int} (h : w.rowIs g T (n * 4) (cpF x c)) (_hc : c < n) :
    ((((w.setCell ⟨g, c * 4, none⟩ (.int .i64 (x (c * 4)))).setCell ⟨g, c * 4 + 1, none⟩ (.int .i64 (x (c * 4 + 1)))).setCell ⟨g, c * 4 + 2, none⟩ (.int .i64 (x (c * 4 + 2)))).setCell ⟨g, c * 4 + 3, none⟩ (.int .i64 (x (c * 4 + 3)))).rowIs g T (n * 4) (cpF x (c + 1)) := by
  refine ((((h.set (c * 4) (.int .i64 (x (c * 4)))).set (c * 4 + 1) (.int .i64 (x (c * 4 + 1)))).set (c * 4 + 2) (.int .i64 (x (c * 4 + 2)))).set (c * 4 + 3) (.int .i64 (x (c * 4 + 3)))).congr (fun i hi => ?_)
  unfold cpF
  by_cases h3 : i = c * 4 + 3
  · subst h3; simp <;> omega
  by_cases h2 : i = c * 4 + 2
  · subst h2; simp <;> omega
  by_cases h1 : i = c * 4 + 1
  · subst h1; simp <;> omega
  by_cases h0 : i = c * 4
  · subst h0; simp <;> omega
  simp [h3, h2, h1, h0]
  by_cases hl : i < c * 4
  · simp [hl] <;> omega
  · simp [hl] <;> omega
set_option maxRecDepth 100000 in
set_option maxHeartbeats 2000000 in
theorem toSegS_any (ao : Option Addr) (n cap : Nat) (x : Nat → Int) (hn : n ≤ 1048576) (w : World) (hS : SegIn w ao n x) : Calls Try.prog 49 #[.slice ao n cap] w (fun e w' => ∃ g, e = .returned (.slice (some ⟨g, 0, none⟩) n n) ∧ w'.rowIs g 56 (n * 4) (fun i => .int .i64 (x i)) ∧ Below w.heap.size w w') := by
  have MK := make_segs n hn
  have HS : Hid (SegIn w ao n x) := hS
  clear hS
  go_enter Try.func49, Try.ntmps49
  go_wp2_with fail
  have R0 := row_made w n 56
  have B0 : Below w.heap.size w (w.alloc (.cells (madeCells #[.int .i64 0, .int .i64 0, .int .i64 0, .int .i64 0] (n * 4)) 56)) := (Below.refl _ _).alloc (Nat.le_refl _) _
  generalize w.alloc (.cells (madeCells #[.int .i64 0, .int .i64 0, .int .i64 0, .int .i64 0] (n * 4)) 56) = W1 at *
  have hnI : (n : Int) ≤ 1048576 := by omega
  clear MK
  go_loopw [4] (fun i wr => ∃ c : Nat, c ≤ n ∧ i = .int .i64 c ∧ wr.rowIs w.heap.size 56 (n * 4) (cpF x c) ∧ Below w.heap.size w wr) (fun i _ => n - (intOf i).toNat)
  case atStart => exact ⟨0, by omega, rfl, R0.congr (fun i _ => by unfold cpF; simp), B0⟩
  case round =>
    clear R0 B0
    obtain ⟨c, hc, rfl, R, HB⟩ := hrel
    by_cases hcn : c < n
    · obtain ⟨A, off, rfl, hA, hcell⟩ := HS.out c hcn
      have e0 : ∀ o, wr.cell? ⟨A, o, none⟩ = w.cell? ⟨A, o, none⟩ := fun o => HB.cell (p := ⟨A, o, none⟩) hA
      have q0 := (e0 _).trans (hcell 0 (by omega)); have q1 := (e0 _).trans (hcell 1 (by omega)); have q2 := (e0 _).trans (hcell 2 (by omega)); have q3 := (e0 _).trans (hcell 3 (by omega))
      simp only [Nat.add_zero] at q0
      have hcI : (c : Int) < n := by omega
      clear hcell e0
      go_wp2_with fail
      refine (toSeg_any (x (c * 4)) (x (c * 4 + 1)) (x (c * 4 + 2)) (x (c * 4 + 3)) _).mono ?_
      rintro e w1 ⟨rfl, hB⟩
      replace R := row_step R hB
      replace HB := HB.trans (hB.mono HB.size)
      have o0 := R.cell (i := c * 4) (by omega); have o1 := R.cell (i := c * 4 + 1) (by omega); have o2 := R.cell (i := c * 4 + 2) (by omega); have o3 := R.cell (i := c * 4 + 3) (by omega)
      have f0 := R.frozen (c * 4); have f1 := R.frozen (c * 4 + 1); have f2 := R.frozen (c * 4 + 2); have f3 := R.frozen (c * 4 + 3)
      have RN := cp_step R hcn
      have HN : Below w.heap.size w ((((w1.setCell ⟨w.heap.size, c * 4, none⟩ (.int .i64 (x (c * 4)))).setCell ⟨w.heap.size, c * 4 + 1, none⟩ (.int .i64 (x (c * 4 + 1)))).setCell ⟨w.heap.size, c * 4 + 2, none⟩ (.int .i64 (x (c * 4 + 2)))).setCell ⟨w.heap.size, c * 4 + 3, none⟩ (.int .i64 (x (c * 4 + 3)))) := (((HB.setCell (by simp) _).setCell (by simp) _).setCell (by simp) _).setCell (by simp) _
      clear hB q0 q1 q2 q3 hA R HB
      go_wp2
      go_roundw
      case rel => exact ⟨c + 1, by omega, by go_num, RN, HN⟩
      case measure => simp [intOf]; omega
    · obtain rfl : c = n := by omega
      have RN : wr.rowIs w.heap.size 56 (c * 4) (fun i => .int .i64 (x i)) := R.congr (fun i hi => by unfold cpF; rw [if_pos hi])
      clear R HS
      go_wp2
      go_ret
      exact ⟨_, rfl, RN, HB⟩
end Go.Proofs.Ytckbhihdhcgaeaa

/- Rows of segments: the law of what is at fault in them. -/
namespace Go.Proofs.Ytckbhihdhcgaeaa
open Go.RowKit
set_option maxRecDepth 100000 in
set_option maxHeartbeats 2000000 in
theorem eqSegS_any (ao bo : Option Addr) (n ca cb : Nat) (x : Nat → Int) (hn : n ≤ 1048576) (w : World) (hA : SegIn w ao n x) (hC : SegIn w bo n x) : Calls Try.prog 51 #[.slice ao n ca, .slice bo n cb] w (BoolP true w) := by
  have HA : Hid (SegIn w ao n x) := hA
  have HC : Hid (SegIn w bo n x) := hC
  have hnI : (n : Int) ≤ 1048576 := by omega
  clear hA hC
  go_enter Try.func51, Try.ntmps51
  go_wp2_with fail
  go_loopw [5] (fun i wr => ∃ c : Nat, c ≤ n ∧ i = .int .i64 c ∧ Below w.heap.size w wr) (fun i _ => n - (intOf i).toNat)
  case atStart => exact ⟨0, by omega, rfl, Below.refl _ _⟩
  case round =>
    obtain ⟨c, hc, rfl, HB⟩ := hrel
    by_cases hcn : c < n
    · obtain ⟨A, off, rfl, hA, hcell⟩ := HA.out.step HB c hcn
      have q0 := hcell 0 (by omega); have q1 := hcell 1 (by omega); have q2 := hcell 2 (by omega); have q3 := hcell 3 (by omega)
      simp only [Nat.add_zero] at q0
      obtain ⟨B, off', rfl, hB', hcell'⟩ := HC.out.step HB c hcn
      have r0 := hcell' 0 (by omega); have r1 := hcell' 1 (by omega); have r2 := hcell' 2 (by omega); have r3 := hcell' 3 (by omega)
      simp only [Nat.add_zero] at r0
      have hcI : (c : Int) < n := by omega
      clear hcell hcell'
      have KS : (fun w' => w'.cell? ⟨A, off + c * 4, none⟩ = some (.int .i64 (x (c * 4))) ∧ w'.cell? ⟨A, off + c * 4 + 1, none⟩ = some (.int .i64 (x (c * 4 + 1))) ∧ w'.cell? ⟨A, off + c * 4 + 2, none⟩ = some (.int .i64 (x (c * 4 + 2))) ∧ w'.cell? ⟨A, off + c * 4 + 3, none⟩ = some (.int .i64 (x (c * 4 + 3))) ∧ w'.cell? ⟨B, off' + c * 4, none⟩ = some (.int .i64 (x (c * 4))) ∧ w'.cell? ⟨B, off' + c * 4 + 1, none⟩ = some (.int .i64 (x (c * 4 + 1))) ∧ w'.cell? ⟨B, off' + c * 4 + 2, none⟩ = some (.int .i64 (x (c * 4 + 2))) ∧ w'.cell? ⟨B, off' + c * 4 + 3, none⟩ = some (.int .i64 (x (c * 4 + 3)))) wr := ⟨q0, q1, q2, q3, r0, r1, r2, r3⟩
      go_wp2_with fail
      go_region_held3 (fun w' => w'.cell? ⟨A, off + c * 4, none⟩ = some (.int .i64 (x (c * 4))) ∧ w'.cell? ⟨A, off + c * 4 + 1, none⟩ = some (.int .i64 (x (c * 4 + 1))) ∧ w'.cell? ⟨A, off + c * 4 + 2, none⟩ = some (.int .i64 (x (c * 4 + 2))) ∧ w'.cell? ⟨A, off + c * 4 + 3, none⟩ = some (.int .i64 (x (c * 4 + 3))) ∧ w'.cell? ⟨B, off' + c * 4, none⟩ = some (.int .i64 (x (c * 4))) ∧ w'.cell? ⟨B, off' + c * 4 + 1, none⟩ = some (.int .i64 (x (c * 4 + 1))) ∧ w'.cell? ⟨B, off' + c * 4 + 2, none⟩ = some (.int .i64 (x (c * 4 + 2))) ∧ w'.cell? ⟨B, off' + c * 4 + 3, none⟩ = some (.int .i64 (x (c * 4 + 3)))) (first | (exact KS) | (exact KS'))
        (first
          | (go_at_call 108; refine (eqSeg_same (x (c * 4)) (x (c * 4 + 1)) (x (c * 4 + 2)) (x (c * 4 + 3)) _).mono ?_; rintro e w1 ⟨rfl, hB⟩; have KS' : (fun w' => w'.cell? ⟨A, off + c * 4, none⟩ = some (.int .i64 (x (c * 4))) ∧ w'.cell? ⟨A, off + c * 4 + 1, none⟩ = some (.int .i64 (x (c * 4 + 1))) ∧ w'.cell? ⟨A, off + c * 4 + 2, none⟩ = some (.int .i64 (x (c * 4 + 2))) ∧ w'.cell? ⟨A, off + c * 4 + 3, none⟩ = some (.int .i64 (x (c * 4 + 3))) ∧ w'.cell? ⟨B, off' + c * 4, none⟩ = some (.int .i64 (x (c * 4))) ∧ w'.cell? ⟨B, off' + c * 4 + 1, none⟩ = some (.int .i64 (x (c * 4 + 1))) ∧ w'.cell? ⟨B, off' + c * 4 + 2, none⟩ = some (.int .i64 (x (c * 4 + 2))) ∧ w'.cell? ⟨B, off' + c * 4 + 3, none⟩ = some (.int .i64 (x (c * 4 + 3)))) w1 := ⟨(hB.cell (p := ⟨A, _, none⟩) hA).trans q0, (hB.cell (p := ⟨A, _, none⟩) hA).trans q1, (hB.cell (p := ⟨A, _, none⟩) hA).trans q2, (hB.cell (p := ⟨A, _, none⟩) hA).trans q3, (hB.cell (p := ⟨B, _, none⟩) hB').trans r0, (hB.cell (p := ⟨B, _, none⟩) hB').trans r1, (hB.cell (p := ⟨B, _, none⟩) hB').trans r2, (hB.cell (p := ⟨B, _, none⟩) hB').trans r3⟩; (first | (have HB2 := HB.trans (hB.mono HB.size)) | (have HB2 := HB.drew.trans (hB.mono HB.drew.size))); clear hB))
      all_goals clear HB KS q0 q1 q2 q3 r0 r1 r2 r3
      all_goals go_wp2
      all_goals go_roundw
      case rel => exact ⟨c + 1, by omega, by go_num, HB2⟩
      case measure => simp [intOf]; omega
    · obtain rfl : c = n := by omega
      clear HA HC
      go_wp2
      go_ret
      exact ⟨rfl, HB⟩
theorem szSegS_any (ao : Option Addr) (n cap : Nat) (hn : n ≤ 9223372036854775807) (w : World) : Calls Try.prog 47 #[.slice ao n cap, .int .i64 1048576] w (VP (.int .i64 (if n ≤ 1048576 then 1048576 - n else -1)) w) := by
  have hnI : (n : Int) ≤ 9223372036854775807 := by omega
  by_cases h : n ≤ 1048576
  · rw [if_pos h]
    have h' : (n : Int) ≤ 1048576 := by omega
    go_enter Try.func47, Try.ntmps47
    go_wp2
    go_ret
    exact ⟨rfl, Below.refl _ _⟩
  · rw [if_neg h]
    have h' : (1048576 : Int) < n := by omega
    go_enter Try.func47, Try.ntmps47
    go_wp2
    go_ret
    exact ⟨rfl, Below.refl _ _⟩
set_option maxRecDepth 100000 in
set_option maxHeartbeats 2000000 in
theorem lawSegsFault_any (ao : Option Addr) (n cap : Nat) (x : Nat → Int) (hn : n ≤ 9223372036854775807) (w : World) (hS : n ≤ 1048576 → SegIn w ao n x) : Calls Try.prog 15 #[.slice ao n cap] w (BoolP true w) := by
  have SZ := szSegS_any ao n cap hn
  go_enter Try.func15, Try.ntmps15
  by_cases hs : n ≤ 1048576
  · rw [if_pos hs] at SZ
    have HS := hS hs
    have hsI : (n : Int) ≤ 1048576 := by omega
    have T1 := fun w => toSegS_any ao n cap x hs w
    clear hS
    go_wp2_with fail
    refine (SZ _).mono ?_
    rintro e w1 ⟨rfl, hB⟩
    have HB := hB
    replace HS := HS.step hB
    clear hB SZ
    go_wp2_with fail
    refine (T1 _ HS).mono ?_
    rintro e w2 ⟨g1, rfl, R1, hB⟩
    replace HB := HB.trans (hB.mono HB.size)
    replace HS := HS.step hB
    clear hB
    go_wp2_with fail
    refine (specSegsFault_any _ n n x _ (segIn_row R1)).mono ?_
    rintro e w3 ⟨rfl, hB⟩
    replace HB := HB.trans (hB.mono HB.size)
    replace HS := HS.step hB
    clear hB R1
    go_wp2_with fail
    refine (T1 _ HS).mono ?_
    rintro e w4 ⟨g2, rfl, R2, hB⟩
    replace HB := HB.trans (hB.mono HB.size)
    replace HS := HS.step hB
    clear hB
    go_wp2_with fail
    refine (implSegsFault_any _ n n x _ (segIn_row R2)).mono ?_
    rintro e w5 ⟨rfl, hB⟩
    replace HB := HB.trans (hB.mono HB.size)
    replace HS := HS.step hB
    replace R2 := row_step R2 hB
    clear hB
    generalize sgI n x = o at *
    have hoo : (o == o) = true := by simp
    go_wp2_with fail
    refine (T1 _ HS).mono ?_
    rintro e w6 ⟨g3, rfl, R3, hB⟩
    replace HB := HB.trans (hB.mono HB.size)
    replace R2 := row_step R2 hB
    clear hB HS
    go_wp2_with fail
    refine (eqSegS_any _ _ n n n x hs _ (segIn_row R2) (segIn_row R3)).mono ?_
    rintro e w7 ⟨rfl, hB⟩
    replace HB := HB.trans (hB.mono HB.size)
    clear hB R2 R3 T1
    go_wp2
    go_ret
    exact ⟨rfl, HB⟩
  · rw [if_neg hs] at SZ
    clear hS
    go_wp2_with fail
    refine (SZ _).mono ?_
    rintro e w1 ⟨rfl, hB⟩
    clear SZ
    go_wp2
    go_ret
    exact ⟨rfl, hB⟩
end Go.Proofs.Ytckbhihdhcgaeaa

/- How spots and segments read as data, beside points: opened and shut. -/
namespace Go.Proofs.Ytckbhihdhcgaeaa
open Go.ChangeShapes Go.WideShapes Go.ChangeAt Go.RowKit Go.Joins
theorem Try.cellsSpot : Try.prog.cellsOf 50 = 2 := by kernel_rfl
theorem Try.cellsSeg : Try.prog.cellsOf 52 = 4 := by kernel_rfl
abbrev Wf (x : Int) : Prop := (Lit.int .i64 x).wf = true
abbrev SpD {H : Type} (x y : Int) : DataW H := .agg [.lit (.int .i64 x), .lit (.int .i64 y)]
theorem trod_spot {H : Type} {enc : TypeId × Value → H} {w : World} {base : Nat} {spare : TypeId → Bool} {held : Bool} {n : Nat} {c0 c1 : Value} {y : DataW H × List MemPlace} (h : DataW.trod enc Try.prog w base spare held n 50 [c0, c1] = some y) :
    ∃ a b : Int, c0 = .int .i64 a ∧ c1 = .int .i64 b ∧ y = (SpD a b, []) ∧ Wf a ∧ Wf b := by
  obtain ⟨y0, y1, m, hx, _, h0, h1⟩ := trod_struct2 Try.underlying50 h
  obtain ⟨a, e0, rfl, wa⟩ := DataW.trod_int Try.underlying2 h0
  obtain ⟨b, e1, rfl, wb⟩ := DataW.trod_int Try.underlying2 h1
  have k : Try.prog.cellsOf 2 = 1 := by kernel_rfl
  simp [k] at e0 e1
  exact ⟨a, b, e0, e1, hx, wa, wb⟩
end Go.Proofs.Ytckbhihdhcgaeaa

/- What the row of a law asks of the program as a whole, each by itself. -/
namespace Go.Proofs.Ytckbhihdhcgaeaa
open Go.ChangeShapes Go.WideShapes Go.ChangeAt Go.RowKit Go.Joins
theorem jn_laid : laidOutB Try.pinned.checked.prog = true := by kernel_rfl
theorem jn_maps : mapsRowed Try.pinned.checked.prog = true := by kernel_rfl
theorem jn_enter : Try.pinned.checked.prog.mayEnter = true := by kernel_rfl
theorem jn_heard : Try.pinned.checked.prog.stopsHeard = true := by kernel_rfl
end Go.Proofs.Ytckbhihdhcgaeaa
