/- Part 1 of the walks that the proof leans on. -/
import Derived.Test.YtpnnpkchogooaaaRows
import Derived.WalkKit
import Derived.WalkSpells
import Derived.WalkLawsBesides
import Derived.Laws.Bits64b
import Derived.Deep.QuietTactic
import Derived.BigQuiet
import Derived.Laws.Externs
import Derived.Shelf.Spec.BitsCarry
import Derived.BigRegion
import Derived.Deep.CutBlock
import Derived.Deep.DeepCutAuto
import Derived.Deep.RegionWith
import Derived.Shelf.Bits.Mul64
import Derived.Deep.RegionHeld3
import Derived.Deep.LoopGhost
import Derived.WalkMore
import Derived.Deep.MidRow
import Derived.ProofKit
import Derived.Lib.SmallJoins
import Derived.Deep.Strs
/- Plain arithmetic of numbers by their digits in base 2 to the 32: no program in sight. -/
namespace Go.Proofs.Ytpnnpkchogooaaa

/-- The number that digits stand for, the lowest first. -/
def val : List Int → Int
  | [] => 0
  | d :: t => d + 4294967296 * val t
/-- Each is a digit. -/
def Dig (ds : List Int) : Prop := ∀ d ∈ ds, 0 ≤ d ∧ d < 4294967296
/-- The base to the n. -/
def pw : Nat → Int
  | 0 => 1
  | n + 1 => 4294967296 * pw n

theorem pw_pos (n : Nat) : 0 < pw n := by
  induction n with
  | zero => simp [pw]
  | succ n ih => simp only [pw]; omega
theorem dig_cons {d : Int} {t : List Int} : Dig (d :: t) ↔ (0 ≤ d ∧ d < 4294967296) ∧ Dig t := by
  constructor
  · intro h; exact ⟨h d (by simp), fun x hx => h x (by simp [hx])⟩
  · rintro ⟨h1, h2⟩ x hx
    rcases List.mem_cons.1 hx with rfl | hx
    · exact h1
    · exact h2 x hx
theorem dig_append {a b : List Int} : Dig (a ++ b) ↔ Dig a ∧ Dig b := by
  constructor
  · intro h; exact ⟨fun x hx => h x (by simp [hx]), fun x hx => h x (by simp [hx])⟩
  · rintro ⟨h1, h2⟩ x hx
    rcases List.mem_append.1 hx with hx | hx
    · exact h1 x hx
    · exact h2 x hx
theorem val_append (a b : List Int) : val (a ++ b) = val a + pw a.length * val b := by
  induction a with
  | nil => simp [val, pw]
  | cons d t ih =>
    simp only [List.cons_append, val, List.length_cons, pw, ih, Int.mul_add, Int.mul_assoc]
    omega
theorem val_snoc (a : List Int) (d : Int) : val (a ++ [d]) = val a + pw a.length * d := by
  rw [val_append]; simp [val]
theorem val_nonneg {a : List Int} (h : Dig a) : 0 ≤ val a := by
  induction a with
  | nil => simp [val]
  | cons d t ih =>
    obtain ⟨h1, h2⟩ := dig_cons.1 h
    have := ih h2
    simp only [val]; omega
/-- No digit 0 at the high end. -/
def Nrm (ds : List Int) : Prop := Dig ds ∧ (ds = [] ∨ ∃ t d, ds = t ++ [d] ∧ d ≠ 0)
/-- So many digits and no fewer. -/
theorem nrm_low {ds : List Int} (h : Nrm ds) (hne : ds ≠ []) : pw (ds.length - 1) ≤ val ds := by
  obtain ⟨hd, h | ⟨t, d, rfl, h⟩⟩ := h
  · exact absurd h hne
  · obtain ⟨h1, h2⟩ := dig_append.1 hd
    have h3 := (dig_cons.1 h2).1
    rw [val_snoc]
    have h4 := val_nonneg h1
    have h5 := pw_pos t.length
    have : pw t.length * 1 ≤ pw t.length * d := Int.mul_le_mul_of_nonneg_left (by omega) (by omega)
    simp only [List.length_append, List.length_cons, List.length_nil]
    simp only [Nat.zero_add, Nat.add_sub_cancel]
    omega
theorem nrm_pos {ds : List Int} (h : Nrm ds) (hne : ds ≠ []) : 0 < val ds := by
  have := nrm_low h hne
  have := pw_pos (ds.length - 1)
  omega
theorem nrm_zero {ds : List Int} (h : Nrm ds) : val ds = 0 ↔ ds = [] := by
  constructor
  · intro h0
    by_cases hne : ds = []
    · exact hne
    · have := nrm_pos h hne; omega
  · rintro rfl; rfl
end Go.Proofs.Ytpnnpkchogooaaa

/- How a number's digits lie in memory: the words that the walks share. -/
namespace Go.Proofs.Ytpnnpkchogooaaa
open Go.RowKit

/-- The digits lie behind the address (nothing is asked of an empty list). -/
def Rd (w : World) (ao : Option Addr) (ds : List Int) : Prop :=
  ∀ i, (h : i < ds.length) → ∃ b off, ao = some ⟨b, off, none⟩ ∧ b < w.heap.size ∧ w.cell? ⟨b, off + i, none⟩ = some (.int .u32 ds[i])
theorem Rd.nil (w : World) (ao : Option Addr) : Rd w ao [] := by intro i h; simp at h
theorem Rd.below {w w' : World} {ao : Option Addr} {ds : List Int} (h : Rd w ao ds) {B : Nat} (hb : Below B w w') (hB : w.heap.size ≤ B) : Rd w' ao ds := by
  intro i hi
  obtain ⟨b, off, e, hl, hc⟩ := h i hi
  refine ⟨b, off, e, Nat.lt_of_lt_of_le hl hb.size, ?_⟩
  rw [hb.cell (by show b < B; omega)]; exact hc
theorem Rd.take {w : World} {ao : Option Addr} {ds : List Int} (h : Rd w ao ds) (n : Nat) : Rd w ao (ds.take n) := by
  intro i hi
  have : i < ds.length := by simp at hi; omega
  obtain ⟨b, off, e, hl, hc⟩ := h i this
  exact ⟨b, off, e, hl, by rw [hc]; simp⟩
/-- What is read at a place. -/
theorem Rd.at {w : World} {b off : Nat} {ds : List Int} (h : Rd w (some ⟨b, off, none⟩) ds) (k : Nat) (hk : k < ds.length) : w.cell? ⟨b, off + k, none⟩ = some (.int .u32 ds[k]) := by
  obtain ⟨b', off', e, hl, hc⟩ := h k hk
  cases e
  exact hc
theorem cell_alloc {w : World} {o : Obj} {b off : Nat} {v : Value} (hb : b < w.heap.size) (h : w.cell? ⟨b, off, none⟩ = some v) : (w.alloc o).cell? ⟨b, off, none⟩ = some v := by
  rw [((Below.refl w.heap.size w).alloc (Nat.le_refl _) o).cell (p := ⟨b, off, none⟩) hb]; exact h
theorem ret_int {k : IntKind} {a b : Int} (h : b = a) : Ending.returned (.int k a) = .returned (.int k b) := by rw [h]
theorem bdrew {B : Nat} {a w : World} (h : Below B a w) (n : Nat) : Below B a (w.drewN n) := ⟨h.os, h.tape, h.output, h.size, h.block⟩
/-- Digits in a row of the call's own. -/
theorem Rd.own {w : World} {base g n cap : Nat} {e : TypeId} {zs : List Int} (h : w.ownsRow base e 1 (.slice (some ⟨g, 0, none⟩) n cap) n (zs.map (Value.int .u32))) (hl : zs.length = n) : Rd w (some ⟨g, 0, none⟩) zs := by
  intro i hi
  refine ⟨g, 0, rfl, (h.lt g rfl).2, ?_⟩
  rw [Nat.zero_add, h.cellAt i (by omega)]
  simp [hi]
/-- A store into a cell that holds no digit turns no digit. -/
theorem Rd.set {w : World} {ao : Option Addr} {ds : List Int} (h : Rd w ao ds) {p : Addr} {v : Value} (u : Value) (hp : w.cell? p = some v) (hv : ∀ x, v ≠ .int .u32 x) : Rd (w.setCell p u) ao ds := by
  intro i hi
  obtain ⟨b, off, e, hl, hc⟩ := h i hi
  refine ⟨b, off, e, by simpa [World.setCell] using hl, ?_⟩
  have hne : p ≠ ⟨b, off + i, none⟩ := by
    intro e'
    rw [e', hc] at hp
    exact hv _ (by simpa using hp.symm)
  exact (World.cell?_setCell_other _ _ _ _ hne).trans hc
theorem bcell {W w1 : World} (hb : Below W.heap.size W w1) : (∀ b o, b < W.heap.size → w1.cell? ⟨b, o, none⟩ = W.cell? ⟨b, o, none⟩) ∧ (∀ b o, b < W.heap.size → w1.frozen? ⟨b, o, none⟩ = W.frozen? ⟨b, o, none⟩) :=
  ⟨fun b o h => hb.cell (p := ⟨b, o, none⟩) h, fun b o h => hb.frozen (p := ⟨b, o, none⟩) h⟩
/-- A number of at most k digits as it lies in memory: its sign, its digits. -/
structure IsNum (w : World) (s : Bool) (ao : Option Addr) (n cap : Nat) (ds : List Int) (z : Int) (k : Nat) : Prop where
  neg : s = decide (z < 0)
  len : ds.length = n
  cap : n ≤ cap
  rd : Rd w ao ds
  nrm : Nrm ds
  val : val ds = (z.natAbs : Int)
  le : n ≤ k
theorem IsNum.below {w w' : World} {s : Bool} {ao : Option Addr} {n cap : Nat} {ds : List Int} {z : Int} {k : Nat} (h : IsNum w s ao n cap ds z k) (hb : Below w.heap.size w w') : IsNum w' s ao n cap ds z k :=
  ⟨h.neg, h.len, h.cap, h.rd.below hb (Nat.le_refl _), h.nrm, h.val, h.le⟩
theorem IsNum.zero {w : World} {s : Bool} {ao : Option Addr} {n cap : Nat} {ds : List Int} {z : Int} {k : Nat} (h : IsNum w s ao n cap ds z k) : n = 0 ↔ z = 0 := by
  have h1 := nrm_zero h.nrm
  have h2 := h.val
  have h3 := h.len
  constructor
  · intro h0
    have : ds = [] := List.eq_nil_of_length_eq_zero (by omega)
    have := h1.2 this; omega
  · rintro rfl
    have : ds = [] := h1.1 (by rw [h2]; rfl)
    rw [this] at h3; simpa using h3.symm
end Go.Proofs.Ytpnnpkchogooaaa

/- The walk of the number's trimming. -/
namespace Go.Proofs.Ytpnnpkchogooaaa
open Go.RowKit
end Go.Proofs.Ytpnnpkchogooaaa

/- The walk of the difference of digits. -/
namespace Go.Proofs.Ytpnnpkchogooaaa
open Go.RowKit
end Go.Proofs.Ytpnnpkchogooaaa

/- Plain facts on words' bits: no program in sight. -/
namespace Go.Proofs.Ytpnnpkchogooaaa
end Go.Proofs.Ytpnnpkchogooaaa

/- The walk of the shift to the left. -/
namespace Go.Proofs.Ytpnnpkchogooaaa
open Go.RowKit
end Go.Proofs.Ytpnnpkchogooaaa

/- The walk of the comparison of digits. -/
namespace Go.Proofs.Ytpnnpkchogooaaa
open Go.RowKit
def IntP (z : Int) (w : World) (e : Ending) (w' : World) : Prop := e = .returned (.int .i64 z) ∧ Below w.heap.size w w'
end Go.Proofs.Ytpnnpkchogooaaa

/- The walks of the number's bits, of a number made from an integer, of its sign and of its negation. -/
namespace Go.Proofs.Ytpnnpkchogooaaa
open Go.RowKit
end Go.Proofs.Ytpnnpkchogooaaa

/- Plain arithmetic of numbers of four words: no program in sight. -/
namespace Go.Proofs.Ytpnnpkchogooaaa
/-- A word of 64 bits. -/
def Word (x : Int) : Prop := 0 ≤ x ∧ x < 18446744073709551616
/-- Four words without a sign. -/
def uw (a3 a2 a1 a0 : Int) : Int := a0 + 18446744073709551616 * (a1 + 18446744073709551616 * (a2 + 18446744073709551616 * a3))
/-- Four words in two's complement. -/
def sw (a3 a2 a1 a0 : Int) : Int := if a3 < 9223372036854775808 then uw a3 a2 a1 a0 else uw a3 a2 a1 a0 - 115792089237316195423570985008687907853269984665640564039457584007913129639936
end Go.Proofs.Ytpnnpkchogooaaa

/- The walk of a number made from four words. -/
namespace Go.Proofs.Ytpnnpkchogooaaa
open Go.RowKit
end Go.Proofs.Ytpnnpkchogooaaa

/- Plain arithmetic: four words out of digits. No program in sight. -/
namespace Go.Proofs.Ytpnnpkchogooaaa
/-- The words of a number that is told; zeros for any other one. -/
def told (z : Int) : Bool := decide (-57896044618658097711785492504343953926634992332820282019728792003956564819968 ≤ z ∧ z < 57896044618658097711785492504343953926634992332820282019728792003956564819968)
end Go.Proofs.Ytpnnpkchogooaaa

/- The words that the walk of four words made from a number shares between its branches. -/
namespace Go.Proofs.Ytpnnpkchogooaaa
open Go.RowKit
/-- Four words that stand for z, and true; or zeros and false. -/
def TellP (z : Int) (w : World) (e : Ending) (w' : World) : Prop :=
  Below w.heap.size w w' ∧ ((told z = true ∧ ∃ a3 a2 a1 a0, e = .returned (.tuple #[.agg #[.int .u64 a3, .int .u64 a2, .int .u64 a1, .int .u64 a0], .bool true]) ∧ Word a3 ∧ Word a2 ∧ Word a1 ∧ Word a0 ∧ sw a3 a2 a1 a0 = z) ∨
    (told z = false ∧ e = .returned (.tuple #[.agg #[.int .u64 0, .int .u64 0, .int .u64 0, .int .u64 0], .bool false])))
/-- What lies in the eight words behind k rounds. -/
def eight (ds : List Int) (k : Nat) : List Value := (List.range 8).map fun i => .int .u64 (if i < k then ds.getD i 0 else 0)
theorem tell_below {w wr : World} {R : Nat} {v0 v1 v2 v3 : Value} (h : Below w.heap.size w wr) (hR : w.heap.size ≤ R) : Below w.heap.size w ((((wr.setCell ⟨R, 0, none⟩ v0).setCell ⟨R, 1, none⟩ v1).setCell ⟨R, 2, none⟩ v2).setCell ⟨R, 3, none⟩ v3) :=
  (((h.setCell hR _).setCell hR _).setCell hR _).setCell hR _
end Go.Proofs.Ytpnnpkchogooaaa

/- Rows of words in memory, and the two sums with a carry: the words that the walks share. -/
namespace Go.Proofs.Ytpnnpkchogooaaa
open Go.RowKit
/-- The number that words stand for, the lowest first. -/
def val64 : List Int → Int
  | [] => 0
  | d :: t => d + 18446744073709551616 * val64 t
def Words (ds : List Int) : Prop := ∀ d ∈ ds, Word d
def pw64 : Nat → Int
  | 0 => 1
  | n + 1 => 18446744073709551616 * pw64 n
theorem val64_snoc (a : List Int) (d : Int) : val64 (a ++ [d]) = val64 a + pw64 a.length * d := by
  induction a with
  | nil => simp [val64, pw64]
  | cons x t ih => simp only [List.cons_append, val64, List.length_cons, pw64, ih]; grind
theorem words_at {a : List Int} (h : Words a) (n : Nat) (hn : n < a.length) : Word a[n] := h _ (List.getElem_mem hn)
theorem val64_take (a : List Int) (k : Nat) (h : k < a.length) : val64 (a.take (k + 1)) = val64 (a.take k) + pw64 k * a[k] := by
  rw [List.take_succ_eq_append_getElem h, val64_snoc]
  simp [Nat.min_eq_left (Nat.le_of_lt h)]
/-- Behind it no other cell has turned than n cells of one block. -/
structure Wrote (A off n : Nat) (w w' : World) : Prop where
  os : w'.os = w.os
  tape : w'.tape = w.tape
  output : w'.output = w.output
  size : w'.heap.size = w.heap.size
  block : ∀ k, k ≠ A → w'.heap[k]? = w.heap[k]?
  cell : ∀ j, (j < off ∨ off + n ≤ j) → w'.cell? ⟨A, j, none⟩ = w.cell? ⟨A, j, none⟩
  frz : ∀ j, w'.frozen? ⟨A, j, none⟩ = w.frozen? ⟨A, j, none⟩
theorem Wrote.refl (A off n : Nat) (w : World) : Wrote A off n w w := ⟨rfl, rfl, rfl, rfl, fun _ _ => rfl, fun _ _ => rfl, fun _ => rfl⟩
theorem Wrote.drew {A off n : Nat} {w w' : World} (h : Wrote A off n w w') : Wrote A off n w w'.drew := ⟨h.os, h.tape, h.output, h.size, h.block, h.cell, h.frz⟩
theorem Wrote.set {A off n : Nat} {w w' : World} (h : Wrote A off n w w') (j : Nat) (hj : off ≤ j ∧ j < off + n) (u : Value) : Wrote A off n w (w'.setCell ⟨A, j, none⟩ u) := by
  refine ⟨h.os, h.tape, h.output, by simpa [World.setCell] using h.size, fun k hk => ?_, fun i hi => ?_, fun i => ?_⟩
  · rw [Below.heap_setCell _ _ _ _ hk]; exact h.block k hk
  · rw [World.cell?_setCell_other _ _ _ _ (by intro e; simp only [Addr.mk.injEq] at e; omega)]; exact h.cell i hi
  · rw [← h.frz i]; simp [go_sem]
theorem Wrote.cellOther {A off n : Nat} {w w' : World} (h : Wrote A off n w w') {b : Nat} (hb : b ≠ A) (o : Nat) : w'.cell? ⟨b, o, none⟩ = w.cell? ⟨b, o, none⟩ := World.cell?_of_block (w := w) (h.block b hb)
theorem Wrote.frzOther {A off n : Nat} {w w' : World} (h : Wrote A off n w w') {b : Nat} (hb : b ≠ A) (o : Nat) : w'.frozen? ⟨b, o, none⟩ = w.frozen? ⟨b, o, none⟩ := World.frozen?_of_block (w := w) (h.block b hb)
theorem Wrote.below {A off n : Nat} {w w' : World} (h : Wrote A off n w w') {B : Nat} (hB : B ≤ A) : Below B w w' := ⟨h.os, h.tape, h.output, by rw [h.size]; exact Nat.le_refl _, fun k hk => h.block k (by omega)⟩
end Go.Proofs.Ytpnnpkchogooaaa

/- The walk of the sum of two rows of words. -/
namespace Go.Proofs.Ytpnnpkchogooaaa
open Go.RowKit
end Go.Proofs.Ytpnnpkchogooaaa

/- The walk of the difference of two rows of words. -/
namespace Go.Proofs.Ytpnnpkchogooaaa
open Go.RowKit
end Go.Proofs.Ytpnnpkchogooaaa

/- The product of two rows of words, round by round: the reckoning. -/
namespace Go.Proofs.Ytpnnpkchogooaaa
open Go.RowKit
end Go.Proofs.Ytpnnpkchogooaaa

/- Long division by words: the reckoning. -/
namespace Go.Proofs.Ytpnnpkchogooaaa
open Go.RowKit
theorem pq_pos (n : Nat) : 0 < pw64 n := by
  induction n with
  | zero => decide
  | succ n ih => simp only [pw64]; omega
theorem vq_append (a b : List Int) : val64 (a ++ b) = val64 a + pw64 a.length * val64 b := by
  induction a with
  | nil => simp [val64, pw64]
  | cons d t ih => simp only [List.cons_append, val64, List.length_cons, pw64, ih]; grind
theorem words_cons {d : Int} {t : List Int} : Words (d :: t) ↔ Word d ∧ Words t := by
  constructor
  · intro h; exact ⟨h d (by simp), fun x hx => h x (by simp [hx])⟩
  · rintro ⟨h1, h2⟩ x hx
    rcases List.mem_cons.1 hx with rfl | hx
    · exact h1
    · exact h2 x hx
theorem val64_nonneg {a : List Int} (h : Words a) : 0 ≤ val64 a := by
  induction a with
  | nil => simp [val64]
  | cons d t ih =>
    obtain ⟨h1, h2⟩ := words_cons.1 h
    have := ih h2
    have := h1.1
    simp only [val64]; omega
theorem vq_lt {a : List Int} (h : Words a) : val64 a < pw64 a.length := by
  induction a with
  | nil => simp [val64, pw64]
  | cons d t ih =>
    obtain ⟨h1, h2⟩ := words_cons.1 h
    have := ih h2
    have := h1.2
    simp only [val64, List.length_cons, pw64]; omega
theorem words_take {a : List Int} (h : Words a) (n : Nat) : Words (a.take n) := fun x hx => h x (List.mem_of_mem_take hx)
theorem words_drop {a : List Int} (h : Words a) (n : Nat) : Words (a.drop n) := fun x hx => h x (List.mem_of_mem_drop hx)
theorem val64_part (a : List Int) (k : Nat) (hk : k ≤ a.length) : val64 a = val64 (a.take k) + pw64 k * val64 (a.drop k) := by
  have h := vq_append (a.take k) (a.drop k)
  rw [List.take_append_drop] at h
  rw [h, List.length_take, Nat.min_eq_left hk]
/-- The words above a place are 0 where the number is less than the base to it. -/
theorem val64_high {a : List Int} (ha : Words a) (k : Nat) (hk : k ≤ a.length) (h : val64 a < pw64 k) : val64 (a.drop k) = 0 ∧ val64 (a.take k) = val64 a := by
  have e := val64_part a k hk
  have e2 := val64_nonneg (words_take ha k)
  have e3 := val64_nonneg (words_drop ha k)
  have e4 : val64 (a.drop k) = 0 := by
    apply Decidable.byContradiction
    intro e4
    have : pw64 k * 1 ≤ pw64 k * val64 (a.drop k) := Int.mul_le_mul_of_nonneg_left (by omega) (by have := pq_pos k; omega)
    omega
  exact ⟨e4, by rw [e4] at e; omega⟩
end Go.Proofs.Ytpnnpkchogooaaa

/- The quotient of two words by one: the reckoning. -/
namespace Go.Proofs.Ytpnnpkchogooaaa
theorem wrap_word {x : Int} (h0 : 0 ≤ x) (h1 : x < 18446744073709551616) : IntKind.u64.wrap x = x := by
  rw [IntKind.wrap_u64]; omega
end Go.Proofs.Ytpnnpkchogooaaa

/- The walk of the table of a byte's bits. -/
namespace Go.Proofs.Ytpnnpkchogooaaa
open Go.RowKit
end Go.Proofs.Ytpnnpkchogooaaa

/- The walk of the count of a word's bits. -/
namespace Go.Proofs.Ytpnnpkchogooaaa
open Go.RowKit
end Go.Proofs.Ytpnnpkchogooaaa

/- The walk of the quotient of two words by one. -/
namespace Go.Proofs.Ytpnnpkchogooaaa
open Go.RowKit
end Go.Proofs.Ytpnnpkchogooaaa

/- Blocks of cells in memory, and what leaves them as they are. -/
namespace Go.Proofs.Ytpnnpkchogooaaa
open Go.RowKit
/-- The block g has these values, and may be written. -/
def Blk (W : World) (g : Nat) (vs : List Value) : Prop := g < W.heap.size ∧ ∀ i v, vs[i]? = some v → W.cell? ⟨g, i, none⟩ = some v ∧ W.frozen? ⟨g, i, none⟩ = false
theorem Blk.lt {W : World} {g : Nat} {vs : List Value} (h : Blk W g vs) : g < W.heap.size := h.1
theorem Blk.c {W : World} {g : Nat} {vs : List Value} (h : Blk W g vs) (i : Nat) {v : Value} (hi : vs[i]? = some v) : W.cell? ⟨g, i, none⟩ = some v := (h.2 i v hi).1
theorem Blk.f {W : World} {g : Nat} {vs : List Value} (h : Blk W g vs) (i : Nat) {v : Value} (hi : vs[i]? = some v) : W.frozen? ⟨g, i, none⟩ = false := (h.2 i v hi).2
theorem Blk.cs2 {W : World} {g : Nat} {v0 v1 : Value} {vs : List Value} (h : Blk W g (v0 :: v1 :: vs)) : W.cell? ⟨g, 0, none⟩ = some v0 ∧ W.cell? ⟨g, 1, none⟩ = some v1 := ⟨h.c 0 rfl, h.c 1 rfl⟩
theorem Blk.cf2 {W : World} {g : Nat} {v0 v1 : Value} {vs : List Value} (h : Blk W g (v0 :: v1 :: vs)) : W.cell? ⟨g, 0, none⟩ = some v0 ∧ W.frozen? ⟨g, 0, none⟩ = false ∧ W.cell? ⟨g, 1, none⟩ = some v1 ∧ W.frozen? ⟨g, 1, none⟩ = false := ⟨h.c 0 rfl, h.f 0 rfl, h.c 1 rfl, h.f 1 rfl⟩
theorem Blk.cs4 {W : World} {g : Nat} {v0 v1 v2 v3 : Value} {vs : List Value} (h : Blk W g (v0 :: v1 :: v2 :: v3 :: vs)) : W.cell? ⟨g, 0, none⟩ = some v0 ∧ W.cell? ⟨g, 1, none⟩ = some v1 ∧ W.cell? ⟨g, 2, none⟩ = some v2 ∧ W.cell? ⟨g, 3, none⟩ = some v3 := ⟨h.c 0 rfl, h.c 1 rfl, h.c 2 rfl, h.c 3 rfl⟩
theorem Blk.cf12 {W : World} {g : Nat} {v0 v1 v2 v3 v4 v5 v6 v7 v8 v9 v10 v11 : Value} {vs : List Value} (h : Blk W g (v0 :: v1 :: v2 :: v3 :: v4 :: v5 :: v6 :: v7 :: v8 :: v9 :: v10 :: v11 :: vs)) : W.cell? ⟨g, 0, none⟩ = some v0 ∧ W.frozen? ⟨g, 0, none⟩ = false ∧ W.cell? ⟨g, 1, none⟩ = some v1 ∧ W.frozen? ⟨g, 1, none⟩ = false ∧ W.cell? ⟨g, 2, none⟩ = some v2 ∧ W.frozen? ⟨g, 2, none⟩ = false ∧ W.cell? ⟨g, 3, none⟩ = some v3 ∧ W.frozen? ⟨g, 3, none⟩ = false ∧ W.cell? ⟨g, 4, none⟩ = some v4 ∧ W.frozen? ⟨g, 4, none⟩ = false ∧ W.cell? ⟨g, 5, none⟩ = some v5 ∧ W.frozen? ⟨g, 5, none⟩ = false ∧ W.cell? ⟨g, 6, none⟩ = some v6 ∧ W.frozen? ⟨g, 6, none⟩ = false ∧ W.cell? ⟨g, 7, none⟩ = some v7 ∧ W.frozen? ⟨g, 7, none⟩ = false ∧ W.cell? ⟨g, 8, none⟩ = some v8 ∧ W.frozen? ⟨g, 8, none⟩ = false ∧ W.cell? ⟨g, 9, none⟩ = some v9 ∧ W.frozen? ⟨g, 9, none⟩ = false ∧ W.cell? ⟨g, 10, none⟩ = some v10 ∧ W.frozen? ⟨g, 10, none⟩ = false ∧ W.cell? ⟨g, 11, none⟩ = some v11 ∧ W.frozen? ⟨g, 11, none⟩ = false := ⟨h.c 0 rfl, h.f 0 rfl, h.c 1 rfl, h.f 1 rfl, h.c 2 rfl, h.f 2 rfl, h.c 3 rfl, h.f 3 rfl, h.c 4 rfl, h.f 4 rfl, h.c 5 rfl, h.f 5 rfl, h.c 6 rfl, h.f 6 rfl, h.c 7 rfl, h.f 7 rfl, h.c 8 rfl, h.f 8 rfl, h.c 9 rfl, h.f 9 rfl, h.c 10 rfl, h.f 10 rfl, h.c 11 rfl, h.f 11 rfl⟩
theorem Blk.below {W W' : World} {B g : Nat} {vs : List Value} (h : Blk W g vs) (hB : Below B W W') (hg : g < B) : Blk W' g vs :=
  ⟨Nat.lt_of_lt_of_le h.1 hB.size, fun i _ hi => ⟨(hB.cell (p := ⟨g, i, none⟩) hg).trans (h.c i hi), (hB.frozen (p := ⟨g, i, none⟩) hg).trans (h.f i hi)⟩⟩
theorem Blk.step {W W' : World} {g : Nat} {vs : List Value} (h : Blk W g vs) (hB : Below W.heap.size W W') : Blk W' g vs := h.below hB h.1
theorem Blk.alloc {W : World} {g : Nat} {vs : List Value} (h : Blk W g vs) (o : Obj) : Blk (W.alloc o) g vs := h.step ((Below.refl W.heap.size W).alloc (Nat.le_refl _) o)
theorem Blk.drew {W : World} {g : Nat} {vs : List Value} (h : Blk W g vs) : Blk W.drew g vs := h
theorem Blk.new (W : World) (vs : List Value) (t : TypeId) {g : Nat} (hg : g = W.heap.size) : Blk (W.alloc (.cells vs.toArray t)) g vs := by
  subst hg
  refine ⟨by simp, fun i v hi => ⟨?_, by simp [go_sem]⟩⟩
  simp [go_sem, hi]
theorem Blk.setO {W : World} {g : Nat} {vs : List Value} (h : Blk W g vs) {p : Addr} (hne : g ≠ p.block) (u : Value) : Blk (W.setCell p u) g vs := by
  have hh : (W.setCell p u).heap[g]? = W.heap[g]? := Below.heap_setCell _ _ _ _ hne
  refine ⟨by simpa [World.setCell] using h.1, fun i v hi => ⟨?_, ?_⟩⟩
  · have := h.c i hi
    unfold World.cell? at *
    simpa [hh] using this
  · have := h.f i hi
    unfold World.frozen? at *
    simpa [hh] using this
theorem Blk.setI {W : World} {g : Nat} {vs : List Value} (h : Blk W g vs) (j : Nat) (hj : j < vs.length) (u : Value) : Blk (W.setCell ⟨g, j, none⟩ u) g (vs.set j u) := by
  refine ⟨by simpa [World.setCell] using h.1, fun i v hi => ?_⟩
  by_cases e : i = j
  · subst e
    have hv : v = u := by simpa [hj] using hi.symm
    subst hv
    exact ⟨by simp [go_sem, h.c i (List.getElem?_eq_getElem hj)], by simp [go_sem, h.f i (List.getElem?_eq_getElem hj)]⟩
  · have hi' : vs[i]? = some v := by simpa [List.getElem?_set, Ne.symm e] using hi
    exact ⟨(World.cell?_setCell_other _ _ _ _ (by simp)).trans (h.c i hi'), by simp [go_sem, h.f i hi']⟩
/-- The arguments as they lie: block by block from the call's first on. -/
def ArgsB (w W : World) (vss : List (List Value)) : Prop := Below w.heap.size w W ∧ ∀ j vs, vss[j]? = some vs → Blk W (w.heap.size + j) vs
theorem ArgsB.below {w W : World} {vss : List (List Value)} (h : ArgsB w W vss) : Below w.heap.size w W := h.1
theorem ArgsB.b {w W : World} {vss : List (List Value)} (h : ArgsB w W vss) (j : Nat) {vs : List Value} (hj : vss[j]? = some vs) : Blk W (w.heap.size + j) vs := h.2 j vs hj
theorem ArgsB.step {w W W' : World} {vss : List (List Value)} (h : ArgsB w W vss) (hB : Below W.heap.size W W') : ArgsB w W' vss := ⟨h.1.trans (hB.mono h.1.size), fun j vs hj => (h.2 j vs hj).step hB⟩
theorem ArgsB.alloc {w W : World} {vss : List (List Value)} (h : ArgsB w W vss) (o : Obj) : ArgsB w (W.alloc o) vss := h.step ((Below.refl W.heap.size W).alloc (Nat.le_refl _) o)
theorem ArgsB.drew {w W : World} {vss : List (List Value)} (h : ArgsB w W vss) : ArgsB w W.drew vss := ⟨h.1.drew, h.2⟩
theorem ArgsB.set {w W : World} {vss : List (List Value)} (h : ArgsB w W vss) {p : Addr} (hp : w.heap.size + vss.length ≤ p.block) (u : Value) : ArgsB w (W.setCell p u) vss := by
  refine ⟨h.1.setCell (by omega) u, fun j vs hj => (h.2 j vs hj).setO ?_ u⟩
  have : j < vss.length := by
    apply Decidable.byContradiction
    intro hn
    rw [List.getElem?_eq_none (by omega)] at hj
    simp at hj
  omega
/-- What stands behind a law's call: the answer in a block of its own. -/
def CutB (w wx : World) (vss : List (List Value)) (rs : List Value) (p : Value) : Prop :=
  ∃ g, p = .pointer (some ⟨g, 0, none⟩) ∧ w.heap.size + vss.length ≤ g ∧ ArgsB w wx vss ∧ Blk wx g rs
theorem CutB.drew {w wx : World} {vss : List (List Value)} {rs : List Value} {p : Value} (h : CutB w wx vss rs p) : CutB w wx.drew vss rs p := by
  obtain ⟨g, e, l, A, B⟩ := h
  exact ⟨g, e, l, A.drew, B.drew⟩
end Go.Proofs.Ytpnnpkchogooaaa

/- The walks of the pieces of the program's long division: the guess of a digit, the shifts. -/
namespace Go.Proofs.Ytpnnpkchogooaaa
open Go.RowKit
/-- A row of words as a value. -/
def agg (xs : List Int) : Value := .agg (xs.map (Value.int .u64)).toArray
/-- The answer's block and the row that is made, behind some rounds. -/
structure Mk (w wr : World) (g gp : Nat) (vs : List Value) (zs : List Int) : Prop where
  below : Below w.heap.size w wr
  r : Blk wr g vs
  p : Blk wr gp (zs.map (Value.int .u64))
theorem Mk.drew {w wr : World} {g gp : Nat} {vs : List Value} {zs : List Int} (h : Mk w wr g gp vs zs) : Mk w wr.drew g gp vs zs := ⟨h.below.drew, h.r, h.p⟩
theorem Mk.drewN {w wr : World} {g gp : Nat} {vs : List Value} {zs : List Int} (h : Mk w wr g gp vs zs) (n : Nat) : Mk w (wr.drewN n) g gp vs zs := ⟨bdrew h.below n, h.r, h.p⟩
theorem Mk.set {w wr : World} {g gp : Nat} {vs : List Value} {zs : List Int} (h : Mk w wr g gp vs zs) (hne : g ≠ gp) (hg : w.heap.size ≤ gp) (j : Nat) (hj : j < zs.length) (u : Int) : Mk w (wr.setCell ⟨gp, j, none⟩ (.int .u64 u)) g gp vs (zs.set j u) :=
  ⟨h.below.setCell hg _, h.r.setO hne _, by have := h.p.setI j (by simpa using hj) (.int .u64 u); rwa [← List.map_set] at this⟩
theorem Mk.step {w wr wr' : World} {g gp : Nat} {vs : List Value} {zs : List Int} (h : Mk w wr g gp vs zs) (hB : Below wr.heap.size wr wr') : Mk w wr' g gp vs zs := ⟨h.below.trans (hB.mono h.below.size), h.r.step hB, h.p.step hB⟩
end Go.Proofs.Ytpnnpkchogooaaa

/- The walks of plus and minus of 4 words. -/
namespace Go.Proofs.Ytpnnpkchogooaaa
open Go.RowKit
end Go.Proofs.Ytpnnpkchogooaaa

/- The walks of plus and minus of 8 words. -/
namespace Go.Proofs.Ytpnnpkchogooaaa
open Go.RowKit
end Go.Proofs.Ytpnnpkchogooaaa

/- The walks of the sign of four words, by the model and by the program, and of the law over both. -/
namespace Go.Proofs.Ytpnnpkchogooaaa
open Go.RowKit
def BoolP (b : Bool) (w : World) (e : Ending) (w' : World) : Prop := e = .returned (.bool b) ∧ Below w.heap.size w w'
end Go.Proofs.Ytpnnpkchogooaaa

/- The walks of numbers of eight words: made of four, turned in their sign, told as four; and of the product of two words. -/
namespace Go.Proofs.Ytpnnpkchogooaaa
open Go.RowKit Go.Shelf
/-- The number that eight words stand for, with its sign. -/
def sl (x0 x1 x2 x3 x4 x5 x6 x7 : Int) : Int := val64 [x0, x1, x2, x3, x4, x5, x6, x7] - (if x7 < 9223372036854775808 then 0 else 13407807929942597099574024998205846127479365820592393377723561443721764030073546976801874298166903427690031858186486050853753882811946569946433649006084096)
end Go.Proofs.Ytpnnpkchogooaaa

/- The walks of the pieces of the program's long division: the shift down, a number times a digit. -/
namespace Go.Proofs.Ytpnnpkchogooaaa
open Go.RowKit
/-- A row that is made, beside one that is read. -/
structure MkX (w wr : World) (gx g gp : Nat) (xs : List Int) (vs : List Value) (zs : List Int) : Prop where
  m : Mk w wr g gp vs zs
  x : Blk wr gx (xs.map (Value.int .u64))
theorem MkX.drewN {w wr : World} {gx g gp : Nat} {xs : List Int} {vs : List Value} {zs : List Int} (h : MkX w wr gx g gp xs vs zs) (n : Nat) : MkX w (wr.drewN n) gx g gp xs vs zs := ⟨h.m.drewN n, h.x⟩
theorem MkX.drew {w wr : World} {gx g gp : Nat} {xs : List Int} {vs : List Value} {zs : List Int} (h : MkX w wr gx g gp xs vs zs) : MkX w wr.drew gx g gp xs vs zs := ⟨h.m.drew, h.x⟩
theorem MkX.set {w wr : World} {gx g gp : Nat} {xs : List Int} {vs : List Value} {zs : List Int} (h : MkX w wr gx g gp xs vs zs) (hx : gx ≠ gp) (hne : g ≠ gp) (hg : w.heap.size ≤ gp) (j : Nat) (hj : j < zs.length) (u : Int) : MkX w (wr.setCell ⟨gp, j, none⟩ (.int .u64 u)) gx g gp xs vs (zs.set j u) := ⟨h.m.set hne hg j hj u, h.x.setO hx _⟩
theorem MkX.cx {w wr : World} {gx g gp : Nat} {xs : List Int} {vs : List Value} {zs : List Int} (h : MkX w wr gx g gp xs vs zs) (j : Nat) (hj : j < xs.length) : wr.cell? ⟨gx, j, none⟩ = some (.int .u64 xs[j]) := h.x.c j (by simp [hj])
end Go.Proofs.Ytpnnpkchogooaaa

/- One digit of a long division: the reckoning, and a window of a row that is written. -/
namespace Go.Proofs.Ytpnnpkchogooaaa
open Go.RowKit
/-- The words of a row from a place on. -/
def win (rs : List Int) (place k : Nat) : List Int := (rs.drop place).take k
/-- A row with other words from a place on. -/
def put (rs : List Int) (place : Nat) (zs : List Int) : List Int := rs.take place ++ (zs ++ rs.drop (place + zs.length))
/-- What is divided by the divisor's words at a place, and the digit there. -/
structure Kn (rs ys : List Int) (n place : Nat) : Prop where
  hl : rs.length = 9
  hm : ys.length = 9
  hr : Words rs
  hy : Words ys
  hn : 1 ≤ n
  hp : place + n ≤ 8
  top : ∀ m, m + 1 = n → (h : m < ys.length) → ys[m] ≠ 0
  lt : val64 (win rs place (n + 1)) < 18446744073709551616 * val64 (ys.take n)
theorem Kn.pos {rs ys : List Int} {n place : Nat} (h : Kn rs ys n place) : 0 < val64 (ys.take n) := by
  have hn := h.hn
  obtain ⟨m, rfl⟩ : ∃ m, n = m + 1 := ⟨n - 1, by omega⟩
  have hm := h.hm
  have hp := h.hp
  have i : m < ys.length := by omega
  rw [val64_take ys m i]
  have t := h.top m rfl i
  have w := words_at h.hy m i
  have e := val64_nonneg (words_take h.hy m)
  have p := pq_pos m
  have : pw64 m * 1 ≤ pw64 m * ys[m] := Int.mul_le_mul_of_nonneg_left (by have := w.1; omega) (by omega)
  omega
/-- The product with a digit, in n + 1 words. -/
theorem Kn.part {rs ys ps : List Int} {n place : Nat} {d : Int} (h : Kn rs ys n place) (hd : Word d) (hl : ps.length = 9) (hw : Words ps) (hv : val64 ps = d * val64 (ys.take n)) : val64 (ps.take (n + 1)) = d * val64 (ys.take n) := by
  have hp := h.hp
  have hm := h.hm
  have b0 := val64_nonneg (words_take h.hy n)
  have b1 := vq_lt (words_take h.hy n)
  rw [List.length_take, Nat.min_eq_left (by omega)] at b1
  have := (val64_high hw (n + 1) (by omega) (by
    rw [hv, pw64]
    have h1 : d * val64 (ys.take n) ≤ 18446744073709551615 * val64 (ys.take n) := Int.mul_le_mul_of_nonneg_right (by have := hd.2; omega) b0
    omega)).2
  rw [this, hv]
end Go.Proofs.Ytpnnpkchogooaaa

/- The walk of one digit of the program's long division. -/
namespace Go.Proofs.Ytpnnpkchogooaaa
open Go.RowKit
/-- What stands while a digit is sought. -/
structure Tk (w wr : World) (rs ys : List Int) : Prop where
  below : Below w.heap.size w wr
  r : Blk wr w.heap.size (rs.map (Value.int .u64))
  y : Blk wr (w.heap.size + 1) (ys.map (Value.int .u64))
  o : Blk wr (w.heap.size + 1 + 1) (List.replicate 9 (Value.int .u64 0))
theorem Tk.step {w wr wr' : World} {rs ys : List Int} (h : Tk w wr rs ys) (hB : Below wr.heap.size wr wr') : Tk w wr' rs ys := ⟨h.below.trans (hB.mono h.below.size), h.r.step hB, h.y.step hB, h.o.step hB⟩
theorem Tk.drew {w wr : World} {rs ys : List Int} (h : Tk w wr rs ys) : Tk w wr.drew rs ys := ⟨h.below.drew, h.r, h.y, h.o⟩
theorem Tk.drewN {w wr : World} {rs ys : List Int} (h : Tk w wr rs ys) (n : Nat) : Tk w (wr.drewN n) rs ys := ⟨bdrew h.below n, h.r, h.y, h.o⟩
theorem Tk.cy {w wr : World} {rs ys : List Int} (h : Tk w wr rs ys) (j : Nat) (hj : j < ys.length) : wr.cell? ⟨w.heap.size + 1, j, none⟩ = some (.int .u64 ys[j]) := h.y.c j (by simp [hj])
end Go.Proofs.Ytpnnpkchogooaaa

/- Long division, digit by digit: the reckoning. -/
namespace Go.Proofs.Ytpnnpkchogooaaa
open Go.RowKit
end Go.Proofs.Ytpnnpkchogooaaa

/- The walk of the sum of digits. -/
namespace Go.Proofs.Ytpnnpkchogooaaa
open Go.RowKit
end Go.Proofs.Ytpnnpkchogooaaa

/- The walks of negation, sum, difference and comparison of numbers. -/
namespace Go.Proofs.Ytpnnpkchogooaaa
open Go.RowKit
/-- What is kept of two boxed numbers and of the result's cell. -/
structure Two (w W : World) (A0 A1 B0 B1 : Value) : Prop where
  a0 : W.cell? ⟨w.heap.size, 0, none⟩ = some A0
  a1 : W.cell? ⟨w.heap.size, 1, none⟩ = some A1
  b0 : W.cell? ⟨w.heap.size + 1, 0, none⟩ = some B0
  b1 : W.cell? ⟨w.heap.size + 1, 1, none⟩ = some B1
  r0 : W.cell? ⟨w.heap.size + 1 + 1, 0, none⟩ = some (.bool false)
  r1 : W.cell? ⟨w.heap.size + 1 + 1, 1, none⟩ = some (.slice none 0 0)
  f0 : W.frozen? ⟨w.heap.size + 1 + 1, 0, none⟩ = false
  f1 : W.frozen? ⟨w.heap.size + 1 + 1, 1, none⟩ = false
  sz : w.heap.size + 1 + 1 < W.heap.size
  below : Below w.heap.size w W
theorem Two.step {w W W' : World} {A0 A1 B0 B1 : Value} (h : Two w W A0 A1 B0 B1) (hb : Below W.heap.size W W') : Two w W' A0 A1 B0 B1 := by
  have hs := h.sz
  have hc := fun b o (hl : b < W.heap.size) => hb.cell (p := ⟨b, o, none⟩) hl
  have hf := fun b o (hl : b < W.heap.size) => hb.frozen (p := ⟨b, o, none⟩) hl
  exact ⟨(hc _ _ (by omega)).trans h.a0, (hc _ _ (by omega)).trans h.a1, (hc _ _ (by omega)).trans h.b0, (hc _ _ (by omega)).trans h.b1, (hc _ _ hs).trans h.r0, (hc _ _ hs).trans h.r1, (hf _ _ hs).trans h.f0, (hf _ _ hs).trans h.f1,
    Nat.lt_of_lt_of_le hs hb.size, h.below.trans (hb.mono h.below.size)⟩
theorem Two.drew {w W : World} {A0 A1 B0 B1 : Value} (h : Two w W A0 A1 B0 B1) : Two w W.drew A0 A1 B0 B1 := ⟨h.a0, h.a1, h.b0, h.b1, h.r0, h.r1, h.f0, h.f1, h.sz, h.below.drew⟩
end Go.Proofs.Ytpnnpkchogooaaa

/- The walks of negation, difference and comparison of numbers. -/
namespace Go.Proofs.Ytpnnpkchogooaaa
open Go.RowKit
theorem IsNum.drew {w : World} {s : Bool} {ao : Option Addr} {n cap : Nat} {ds : List Int} {z : Int} {k : Nat} (h : IsNum w s ao n cap ds z k) : IsNum w.drew s ao n cap ds z k := ⟨h.neg, h.len, h.cap, h.rd, h.nrm, h.val, h.le⟩
end Go.Proofs.Ytpnnpkchogooaaa

/- The walk of four words made from a number that is not below 0. -/
namespace Go.Proofs.Ytpnnpkchogooaaa
open Go.RowKit
end Go.Proofs.Ytpnnpkchogooaaa

/- The walk of four words made from a number below 0. -/
namespace Go.Proofs.Ytpnnpkchogooaaa
open Go.RowKit
end Go.Proofs.Ytpnnpkchogooaaa

/- The walks of a number of four words made from an integer, by the model and by the program, and of the law over both. -/
namespace Go.Proofs.Ytpnnpkchogooaaa
open Go.RowKit
/-- Four words that stand for z. -/
def SwP (z : Int) (w : World) (e : Ending) (w' : World) : Prop :=
  ∃ a3 a2 a1 a0, e = .returned (.agg #[.int .u64 a3, .int .u64 a2, .int .u64 a1, .int .u64 a0]) ∧ Word a3 ∧ Word a2 ∧ Word a1 ∧ Word a0 ∧ sw a3 a2 a1 a0 = z ∧ Below w.heap.size w w'
set_option maxRecDepth 100000 in
set_option maxHeartbeats 1000000 in
theorem implOf_any (n : Int) (w : World) (h0 : -9223372036854775808 ≤ n) (h1 : n ≤ 9223372036854775807) :
    Calls Try.prog 43 #[.int .i64 n] w (SwP n w) := by
  by_cases hn : n < 0
  · have hd1 : IntKind.u64.wrap (n / 9223372036854775808) = 18446744073709551615 := by rw [IntKind.wrap_u64]; omega
    have hd2 : IntKind.u64.wrap n = n + 18446744073709551616 := by rw [IntKind.wrap_u64]; omega
    go_enter Try.func43, Try.ntmps43
    go_wp2
    refine bodyPost_ret (v := .agg #[.int .u64 18446744073709551615, .int .u64 18446744073709551615, .int .u64 18446744073709551615, .int .u64 (n + 18446744073709551616)]) (by simp [results, Try.results43, go_sem]) rfl ?_
    refine ⟨_, _, _, _, rfl, ⟨by decide, by decide⟩, ⟨by decide, by decide⟩, ⟨by decide, by decide⟩, ⟨by omega, by omega⟩, ?_, (Below.refl _ _).alloc (Nat.le_refl _) _⟩
    unfold sw uw; rw [if_neg (by decide)]; omega
  · have hd1 : n / 9223372036854775808 = 0 := by omega
    go_enter Try.func43, Try.ntmps43
    go_wp2
    refine bodyPost_ret (v := .agg #[.int .u64 0, .int .u64 0, .int .u64 0, .int .u64 n]) (by simp [results, Try.results43, go_sem]) rfl ?_
    refine ⟨_, _, _, _, rfl, ⟨by decide, by decide⟩, ⟨by decide, by decide⟩, ⟨by decide, by decide⟩, ⟨by omega, by omega⟩, ?_, (Below.refl _ _).alloc (Nat.le_refl _) _⟩
    unfold sw uw; rw [if_pos (by decide)]; omega
end Go.Proofs.Ytpnnpkchogooaaa

/- Four words in a block of memory, and what is kept of them. -/
namespace Go.Proofs.Ytpnnpkchogooaaa
open Go.RowKit
/-- Four words lie in the block g. -/
structure Wd (W : World) (g : Nat) (a3 a2 a1 a0 : Int) : Prop where
  c0 : W.cell? ⟨g, 0, none⟩ = some (.int .u64 a3)
  c1 : W.cell? ⟨g, 1, none⟩ = some (.int .u64 a2)
  c2 : W.cell? ⟨g, 2, none⟩ = some (.int .u64 a1)
  c3 : W.cell? ⟨g, 3, none⟩ = some (.int .u64 a0)
  f0 : W.frozen? ⟨g, 0, none⟩ = false
  f1 : W.frozen? ⟨g, 1, none⟩ = false
  f2 : W.frozen? ⟨g, 2, none⟩ = false
  f3 : W.frozen? ⟨g, 3, none⟩ = false
  lt : g < W.heap.size
theorem Wd.step {W W' : World} {g : Nat} {a3 a2 a1 a0 : Int} (h : Wd W g a3 a2 a1 a0) (hb : Below W.heap.size W W') : Wd W' g a3 a2 a1 a0 := by
  have hc := fun o => hb.cell (p := ⟨g, o, none⟩) h.lt
  have hf := fun o => hb.frozen (p := ⟨g, o, none⟩) h.lt
  exact ⟨(hc _).trans h.c0, (hc _).trans h.c1, (hc _).trans h.c2, (hc _).trans h.c3, (hf _).trans h.f0, (hf _).trans h.f1, (hf _).trans h.f2, (hf _).trans h.f3, Nat.lt_of_lt_of_le h.lt hb.size⟩
theorem Wd.drew {W : World} {g : Nat} {a3 a2 a1 a0 : Int} (h : Wd W g a3 a2 a1 a0) : Wd W.drew g a3 a2 a1 a0 := ⟨h.c0, h.c1, h.c2, h.c3, h.f0, h.f1, h.f2, h.f3, h.lt⟩
theorem Wd.alloc {W : World} {g : Nat} {a3 a2 a1 a0 : Int} (h : Wd W g a3 a2 a1 a0) (o : Obj) : Wd (W.alloc o) g a3 a2 a1 a0 := h.step ((Below.refl _ _).alloc (Nat.le_refl _) o)
theorem Wd.new (W : World) (a3 a2 a1 a0 : Int) (T : TypeId) {g : Nat} (hg : g = W.heap.size) : Wd (W.alloc (Obj.cells #[Value.int IntKind.u64 a3, Value.int IntKind.u64 a2, Value.int IntKind.u64 a1, Value.int IntKind.u64 a0] T)) g a3 a2 a1 a0 := by
  subst hg
  exact ⟨by simp [go_sem], by simp [go_sem], by simp [go_sem], by simp [go_sem], by simp [go_sem], by simp [go_sem], by simp [go_sem], by simp [go_sem], by simp⟩
theorem Wd.set {W : World} {g R : Nat} {a3 a2 a1 a0 : Int} (h : Wd W g a3 a2 a1 a0) (hne : g ≠ R) (u0 u1 u2 u3 : Value) : Wd ((((W.setCell ⟨R, 0, none⟩ u0).setCell ⟨R, 1, none⟩ u1).setCell ⟨R, 2, none⟩ u2).setCell ⟨R, 3, none⟩ u3) g a3 a2 a1 a0 := by
  have hn : ∀ o j, (⟨R, j, none⟩ : Addr) ≠ ⟨g, o, none⟩ := by intro o j e; simp only [Addr.mk.injEq] at e; exact hne e.1.symm
  have hc : ∀ o, ((((W.setCell ⟨R, 0, none⟩ u0).setCell ⟨R, 1, none⟩ u1).setCell ⟨R, 2, none⟩ u2).setCell ⟨R, 3, none⟩ u3).cell? ⟨g, o, none⟩ = W.cell? ⟨g, o, none⟩ := fun o => by
    rw [World.cell?_setCell_other _ _ _ _ (hn o 3), World.cell?_setCell_other _ _ _ _ (hn o 2), World.cell?_setCell_other _ _ _ _ (hn o 1), World.cell?_setCell_other _ _ _ _ (hn o 0)]
  have hf : ∀ o, ((((W.setCell ⟨R, 0, none⟩ u0).setCell ⟨R, 1, none⟩ u1).setCell ⟨R, 2, none⟩ u2).setCell ⟨R, 3, none⟩ u3).frozen? ⟨g, o, none⟩ = W.frozen? ⟨g, o, none⟩ := fun o => by simp [go_sem]
  exact ⟨(hc _).trans h.c0, (hc _).trans h.c1, (hc _).trans h.c2, (hc _).trans h.c3, (hf _).trans h.f0, (hf _).trans h.f1, (hf _).trans h.f2, (hf _).trans h.f3, by simpa [World.setCell] using h.lt⟩
/-- Two boxed numbers of four words, as a call that takes two finds them. -/
structure TwoW (w W : World) (a3 a2 a1 a0 b3 b2 b1 b0 : Int) : Prop where
  a : Wd W w.heap.size a3 a2 a1 a0
  b : Wd W (w.heap.size + 1) b3 b2 b1 b0
  below : Below w.heap.size w W
theorem TwoW.step {w W W' : World} {a3 a2 a1 a0 b3 b2 b1 b0 : Int} (h : TwoW w W a3 a2 a1 a0 b3 b2 b1 b0) (hb : Below W.heap.size W W') : TwoW w W' a3 a2 a1 a0 b3 b2 b1 b0 := ⟨h.a.step hb, h.b.step hb, h.below.trans (hb.mono h.below.size)⟩
theorem TwoW.drew {w W : World} {a3 a2 a1 a0 b3 b2 b1 b0 : Int} (h : TwoW w W a3 a2 a1 a0 b3 b2 b1 b0) : TwoW w W.drew a3 a2 a1 a0 b3 b2 b1 b0 := ⟨h.a.drew, h.b.drew, h.below.drew⟩
theorem TwoW.alloc {w W : World} {a3 a2 a1 a0 b3 b2 b1 b0 : Int} (h : TwoW w W a3 a2 a1 a0 b3 b2 b1 b0) (o : Obj) : TwoW w (W.alloc o) a3 a2 a1 a0 b3 b2 b1 b0 := h.step ((Below.refl _ _).alloc (Nat.le_refl _) o)
theorem TwoW.set {w W : World} {R : Nat} {a3 a2 a1 a0 b3 b2 b1 b0 : Int} (h : TwoW w W a3 a2 a1 a0 b3 b2 b1 b0) (hR : w.heap.size + 1 < R) (u0 u1 u2 u3 : Value) : TwoW w ((((W.setCell ⟨R, 0, none⟩ u0).setCell ⟨R, 1, none⟩ u1).setCell ⟨R, 2, none⟩ u2).setCell ⟨R, 3, none⟩ u3) a3 a2 a1 a0 b3 b2 b1 b0 :=
  ⟨h.a.set (by omega) _ _ _ _, h.b.set (by omega) _ _ _ _, tell_below h.below (by omega)⟩
/-- What a region that reads both holds on to. -/
def Cells8 (w W : World) (a3 a2 a1 a0 b3 b2 b1 b0 : Int) : Prop :=
  W.cell? ⟨w.heap.size, 0, none⟩ = some (.int .u64 a3) ∧ W.cell? ⟨w.heap.size, 1, none⟩ = some (.int .u64 a2) ∧ W.cell? ⟨w.heap.size, 2, none⟩ = some (.int .u64 a1) ∧ W.cell? ⟨w.heap.size, 3, none⟩ = some (.int .u64 a0) ∧
  W.cell? ⟨w.heap.size + 1, 0, none⟩ = some (.int .u64 b3) ∧ W.cell? ⟨w.heap.size + 1, 1, none⟩ = some (.int .u64 b2) ∧ W.cell? ⟨w.heap.size + 1, 2, none⟩ = some (.int .u64 b1) ∧ W.cell? ⟨w.heap.size + 1, 3, none⟩ = some (.int .u64 b0)
theorem TwoW.cells {w W : World} {a3 a2 a1 a0 b3 b2 b1 b0 : Int} (h : TwoW w W a3 a2 a1 a0 b3 b2 b1 b0) : Cells8 w W a3 a2 a1 a0 b3 b2 b1 b0 := ⟨h.a.c0, h.a.c1, h.a.c2, h.a.c3, h.b.c0, h.b.c1, h.b.c2, h.b.c3⟩
end Go.Proofs.Ytpnnpkchogooaaa

/- The walks of words made from four words and back. -/
namespace Go.Proofs.Ytpnnpkchogooaaa
open Go.RowKit
end Go.Proofs.Ytpnnpkchogooaaa

/- The walks of the program's sum and difference of four words. -/
namespace Go.Proofs.Ytpnnpkchogooaaa
open Go.RowKit
theorem Wd.stored {W : World} {g : Nat} {a3 a2 a1 a0 : Int} (h : Wd W g a3 a2 a1 a0) (z3 z2 z1 z0 : Int) : Wd ((((W.setCell ⟨g, 0, none⟩ (.int .u64 z3)).setCell ⟨g, 1, none⟩ (.int .u64 z2)).setCell ⟨g, 2, none⟩ (.int .u64 z1)).setCell ⟨g, 3, none⟩ (.int .u64 z0)) g z3 z2 z1 z0 := by
  have e0 := h.c0; have e1 := h.c1; have e2 := h.c2; have e3 := h.c3
  have p0 := h.f0; have p1 := h.f1; have p2 := h.f2; have p3 := h.f3
  exact ⟨by simp [go_sem, e0], by simp [go_sem, e1], by simp [go_sem, e2], by simp [go_sem, e3], by simp [go_sem, p0], by simp [go_sem, p1], by simp [go_sem, p2], by simp [go_sem, p3], by simpa [World.setCell] using h.lt⟩
end Go.Proofs.Ytpnnpkchogooaaa

/- The walk of the program's comparison of four words. -/
namespace Go.Proofs.Ytpnnpkchogooaaa
open Go.RowKit
end Go.Proofs.Ytpnnpkchogooaaa

/- The walks of a number's size without its sign, of the count of its words and of its bits, and of the law over them. -/
namespace Go.Proofs.Ytpnnpkchogooaaa
open Go.RowKit
end Go.Proofs.Ytpnnpkchogooaaa

/- The program's long division: what lies in memory around its first statements. -/
namespace Go.Proofs.Ytpnnpkchogooaaa
open Go.RowKit
theorem Blk.cellsO {g b : Nat} {zs : List Value} (hne : g ≠ b) : ∀ (vs : List Value) (o : Nat) {w : World}, Blk w g zs → Blk (w.setCells b o vs) g zs
  | [], _, _, h => h
  | v :: r, o, w, h => by rw [World.setCells]; exact Blk.cellsO hne r (o + 1) (h.setO hne v)
theorem below_cells {B g : Nat} {w0 : World} (hg : B ≤ g) : ∀ (vs : List Value) (o : Nat) {w : World}, Below B w0 w → Below B w0 (w.setCells g o vs)
  | [], _, _, h => h
  | v :: r, o, w, h => by rw [World.setCells]; exact below_cells hg r (o + 1) (h.setCell hg v)
theorem ArgsB.cells {w W : World} {a b c d : List Value} (h : ArgsB w W [a, b, c, d]) {g : Nat} (hg : w.heap.size + 3 < g) (vs : List Value) : ArgsB w (W.setCells g 0 vs) [a, b, c, d] := by
  refine ⟨below_cells (by omega) vs 0 h.1, fun j us hj => Blk.cellsO ?_ vs 0 (h.2 j us hj)⟩
  have : j < 4 := by
    apply Decidable.byContradiction
    intro hn
    rw [List.getElem?_eq_none (by simp; omega)] at hj
    simp at hj
  omega
theorem Blk.there {W : World} {g : Nat} {vs : List Value} (h : Blk W g vs) {n : Nat} (hn : vs.length = n) : W.there g 0 n := fun j hj => by
  rw [Nat.zero_add, h.c j (List.getElem?_eq_getElem (by omega)), h.f j (List.getElem?_eq_getElem (by omega))]
  exact ⟨rfl, rfl⟩
end Go.Proofs.Ytpnnpkchogooaaa

/- The walk of the program's long division. -/
namespace Go.Proofs.Ytpnnpkchogooaaa
open Go.RowKit
end Go.Proofs.Ytpnnpkchogooaaa

/- The walk of a number of eight words, told as four. -/
namespace Go.Proofs.Ytpnnpkchogooaaa
open Go.RowKit
end Go.Proofs.Ytpnnpkchogooaaa

/- The product of two numbers of four words: what the walk of its first statement wants. -/
namespace Go.Proofs.Ytpnnpkchogooaaa
open Go.RowKit
/-- Two rows of four values laid behind the arguments. -/
def CutT (w wx : World) (vss : List (List Value)) (xs ys : List Value) (p q : Value) : Prop :=
  ∃ g g', p = .pointer (some ⟨g, 0, none⟩) ∧ q = .pointer (some ⟨g', 0, none⟩) ∧ g ≠ g' ∧ w.heap.size + 2 < g ∧ w.heap.size + 2 < g' ∧ ArgsB w wx vss ∧ Blk wx g xs ∧ Blk wx g' ys
theorem CutT.drew {w wx : World} {vss : List (List Value)} {xs ys : List Value} {p q : Value} (h : CutT w wx vss xs ys p q) : CutT w wx.drew vss xs ys p q := by
  obtain ⟨g, g', e, f, n, l, l', A, B, C⟩ := h
  exact ⟨g, g', e, f, n, l, l', A.drew, B.drew, C.drew⟩
end Go.Proofs.Ytpnnpkchogooaaa

/- A product of two rows of words added to a third row, round by round: the reckoning. -/
namespace Go.Proofs.Ytpnnpkchogooaaa
open Go.RowKit
end Go.Proofs.Ytpnnpkchogooaaa

/- A product of two rows of words added to a third row: the program's walk. -/
namespace Go.Proofs.Ytpnnpkchogooaaa
open Go.RowKit
structure ApW (w wr : World) (gp L g g' : Nat) (xs ys zs : List Int) : Prop where
  wrote : Wrote gp 0 L w wr
  z : Blk wr gp (zs.map (Value.int .u64))
  x : ∀ i, (h : i < xs.length) → wr.cell? ⟨g, i, none⟩ = some (.int .u64 xs[i])
  y : ∀ i, (h : i < ys.length) → wr.cell? ⟨g', i, none⟩ = some (.int .u64 ys[i])
theorem ApW.drewN {w wr : World} {gp L g g' : Nat} {xs ys zs : List Int} (h : ApW w wr gp L g g' xs ys zs) (n : Nat) : ApW w (wr.drewN n) gp L g g' xs ys zs :=
  ⟨⟨h.wrote.os, h.wrote.tape, h.wrote.output, h.wrote.size, h.wrote.block, h.wrote.cell, h.wrote.frz⟩, h.z, h.x, h.y⟩
theorem ApW.set {w wr : World} {gp L g g' : Nat} {xs ys zs : List Int} (h : ApW w wr gp L g g' xs ys zs) (ng : g ≠ gp) (ng' : g' ≠ gp) (j : Nat) (hj : j < zs.length) (hl : j < L) (u : Int) : ApW w (wr.setCell ⟨gp, j, none⟩ (.int .u64 u)) gp L g g' xs ys (zs.set j u) := by
  refine ⟨h.wrote.set j ⟨by omega, by omega⟩ _, ?_, fun i hi => ?_, fun i hi => ?_⟩
  · have := h.z.setI j (by simpa using hj) (.int .u64 u)
    rwa [← List.map_set] at this
  · rw [World.cell?_setCell_other _ _ _ _ (by intro e; simp only [Addr.mk.injEq] at e; exact ng e.1.symm)]; exact h.x i hi
  · rw [World.cell?_setCell_other _ _ _ _ (by intro e; simp only [Addr.mk.injEq] at e; exact ng' e.1.symm)]; exact h.y i hi
end Go.Proofs.Ytpnnpkchogooaaa

/- The walk of the program's product of two numbers of four words. -/
namespace Go.Proofs.Ytpnnpkchogooaaa
open Go.RowKit
structure Tm3 (w wr : World) (vss : List (List Value)) (g g' gp : Nat) (xs ys zs : List Int) : Prop where
  args : ArgsB w wr vss
  x : Blk wr g (xs.map (Value.int .u64))
  y : Blk wr g' (ys.map (Value.int .u64))
  p : Blk wr gp (zs.map (Value.int .u64))
theorem Tm3.drew {w wr : World} {vss : List (List Value)} {g g' gp : Nat} {xs ys zs : List Int} (h : Tm3 w wr vss g g' gp xs ys zs) (n : Nat) : Tm3 w (wr.drewN n) vss g g' gp xs ys zs := ⟨⟨bdrew h.args.1 n, h.args.2⟩, h.x, h.y, h.p⟩
theorem Tm3.set {w wr : World} {vss : List (List Value)} {g g' gp : Nat} {xs ys zs : List Int} (h : Tm3 w wr vss g g' gp xs ys zs) (h1 : g ≠ gp) (h2 : g' ≠ gp) (hg : w.heap.size + vss.length ≤ gp) (j : Nat) (hj : j < zs.length) (u : Int) : Tm3 w (wr.setCell ⟨gp, j, none⟩ (.int .u64 u)) vss g g' gp xs ys (zs.set j u) :=
  ⟨h.args.set hg _, h.x.setO h1 _, h.y.setO h2 _, by have := h.p.setI j (by simpa using hj) (.int .u64 u); rwa [← List.map_set] at this⟩
theorem Tm3.cx {w wr : World} {vss : List (List Value)} {g g' gp : Nat} {xs ys zs : List Int} (h : Tm3 w wr vss g g' gp xs ys zs) (j : Nat) (hj : j < xs.length) : wr.cell? ⟨g, j, none⟩ = some (.int .u64 xs[j]) := h.x.c j (by simp [hj])
theorem Tm3.cy {w wr : World} {vss : List (List Value)} {g g' gp : Nat} {xs ys zs : List Int} (h : Tm3 w wr vss g g' gp xs ys zs) (j : Nat) (hj : j < ys.length) : wr.cell? ⟨g', j, none⟩ = some (.int .u64 ys[j]) := h.y.c j (by simp [hj])
theorem Tm3.step {w wr wr' : World} {vss : List (List Value)} {g g' gp : Nat} {xs ys zs : List Int} (h : Tm3 w wr vss g g' gp xs ys zs) (hB : Below wr.heap.size wr wr') : Tm3 w wr' vss g g' gp xs ys zs := ⟨h.args.step hB, h.x.step hB, h.y.step hB, h.p.step hB⟩
theorem Blk.wrote {W W' : World} {A off n g : Nat} {vs : List Value} (h : Blk W g vs) (hw : Wrote A off n W W') (hg : g ≠ A) : Blk W' g vs :=
  ⟨by rw [hw.size]; exact h.1, fun i v hi => ⟨(hw.cellOther hg i).trans (h.2 i v hi).1, (hw.frzOther hg i).trans (h.2 i v hi).2⟩⟩
theorem Tm3.wrote {w W W' : World} {vss : List (List Value)} {g g' gp : Nat} {xs ys zs zs' : List Int} (h : Tm3 w W vss g g' gp xs ys zs) (hw : Wrote gp 0 8 W W') (hz : Blk W' gp (zs'.map (Value.int .u64))) (ng : g ≠ gp) (ng' : g' ≠ gp) (hg : w.heap.size + vss.length ≤ gp) : Tm3 w W' vss g g' gp xs ys zs' :=
  ⟨⟨h.args.1.trans ((hw.below (Nat.le_of_add_right_le hg))), fun j vs hj => (h.args.2 j vs hj).wrote hw (by have := (List.getElem?_eq_some_iff.1 hj).1; omega)⟩, h.x.wrote hw ng, h.y.wrote hw ng', hz⟩
end Go.Proofs.Ytpnnpkchogooaaa

/- The walks of a number's size in eight words, and of the common divisor of two words. -/
namespace Go.Proofs.Ytpnnpkchogooaaa
open Go.RowKit
def GcdWP (x y : Int) (w : World) (e : Ending) (w' : World) : Prop := e = .returned (.int .u64 (Int.gcd x y : Int)) ∧ Below w.heap.size w w'
theorem gcd_down {x y : Int} (hx : 0 ≤ x) (hy : 0 < y) : Int.gcd y (x % y) = Int.gcd x y := by
  obtain ⟨a, rfl⟩ := Int.eq_ofNat_of_zero_le hx
  obtain ⟨b, rfl⟩ := Int.eq_ofNat_of_zero_le (Int.le_of_lt hy)
  rw [show ((a : Int) % (b : Int)) = ((a % b : Nat) : Int) from (Int.natCast_emod a b).symm, Int.gcd_natCast_natCast, Int.gcd_natCast_natCast, Nat.gcd_comm a b, Nat.gcd_rec b a, Nat.gcd_comm]
set_option maxRecDepth 100000 in
set_option maxHeartbeats 400000 in
theorem gcdW_any (x y : Int) (hx : Word x) (hy : Word y) (w : World) : Calls Try.prog 41 #[.int .u64 x, .int .u64 y] w (GcdWP x y w) := by
  go_enter Try.func41, Try.ntmps41
  go_wp2
  go_loopg [0, 1] y.toNat (fun k p q wr => ∃ a b : Int, p = .int .u64 a ∧ q = .int .u64 b ∧ Word a ∧ Word b ∧ b.toNat = k ∧ Int.gcd a b = Int.gcd x y ∧ Below w.heap.size w wr)
  case atStart => exact ⟨x, y, rfl, rfl, hx, hy, rfl, rfl, Below.refl _ _⟩
  case round =>
    obtain ⟨a, b, rfl, rfl, ha, hb, hk, hg, hB⟩ := hrel
    have HG : Hid (Int.gcd a b = Int.gcd x y) := hg
    clear hg
    by_cases h0 : b = 0
    · subst h0
      go_wp2
      go_ret
      refine ⟨?_, hB⟩
      rw [← HG.out]
      have := ha.1
      simp
      omega
    · have hb0 : 0 < b := by have := hb.1; omega
      have d2 : a.tmod b = a % b := Int.tmod_eq_emod_of_nonneg ha.1
      have e0 := Int.emod_nonneg a (b := b) h0
      have e1 := Int.emod_lt_of_pos a hb0
      have e2 : Word (a % b) := ⟨e0, Int.lt_trans e1 hb.2⟩
      have e3 : Hid (Int.gcd b (a % b) = Int.gcd x y) := (gcd_down ha.1 hb0).trans HG.out
      have d3 := wrap_word e2.1 e2.2
      go_wp2
      go_quiet (fail)
      go_wp2
      go_roundg (a % b).toNat
      case measure => omega
      case rel => exact ⟨b, a % b, rfl, rfl, hb, e2, rfl, e3.out, bdrew hB _⟩
structure Gl (w wr : World) (xs ys : List Int) : Prop where
  below : Below w.heap.size w wr
  x : Blk wr w.heap.size (xs.map (Value.int .u64))
  y : Blk wr (w.heap.size + 1) (ys.map (Value.int .u64))
  o : Blk wr (w.heap.size + 1 + 1) [.int .u64 0, .int .u64 0, .int .u64 0, .int .u64 0, .int .u64 0, .int .u64 0, .int .u64 0, .int .u64 0]
theorem Gl.step {w wr wr' : World} {xs ys : List Int} (h : Gl w wr xs ys) (hB : Below wr.heap.size wr wr') : Gl w wr' xs ys := ⟨h.below.trans (hB.mono h.below.size), h.x.step hB, h.y.step hB, h.o.step hB⟩
end Go.Proofs.Ytpnnpkchogooaaa

/- The walk of the program's common divisor of two numbers of four words. -/
namespace Go.Proofs.Ytpnnpkchogooaaa
open Go.RowKit
end Go.Proofs.Ytpnnpkchogooaaa

/- The walk of the model's product of two numbers. -/
namespace Go.Proofs.Ytpnnpkchogooaaa
open Go.RowKit
end Go.Proofs.Ytpnnpkchogooaaa

/- The quotient bit by bit: the reckoning. -/
namespace Go.Proofs.Ytpnnpkchogooaaa
open Go.RowKit
end Go.Proofs.Ytpnnpkchogooaaa

/- The difference of digits and the trimming once more, with where their answers lie. -/
namespace Go.Proofs.Ytpnnpkchogooaaa
open Go.RowKit
end Go.Proofs.Ytpnnpkchogooaaa

/- The walk of the model's quotient and rest of digits, bit by bit. -/
namespace Go.Proofs.Ytpnnpkchogooaaa
open Go.RowKit
/-- What lies in memory between the rounds. -/
structure DvM (W wr : World) (g : Nat) (qs : List Int) (ro : Option Addr) (rn rc : Nat) (rs : List Int) (n : Nat) : Prop where
  below : Below W.heap.size W wr
  q : Blk wr g (qs.map (Value.int .u32))
  rlen : rs.length = rn
  rcap : rn ≤ rc
  rle : rn ≤ n
  rnrm : Nrm rs
  rrd : Rd wr ro rs
  rne : ∀ b off, ro = some ⟨b, off, none⟩ → rs ≠ [] → b ≠ g
theorem DvM.step {W wr wr' : World} {g : Nat} {qs : List Int} {ro : Option Addr} {rn rc : Nat} {rs : List Int} {n : Nat} (h : DvM W wr g qs ro rn rc rs n) (hB : Below wr.heap.size wr wr') : DvM W wr' g qs ro rn rc rs n :=
  ⟨h.below.trans (hB.mono h.below.size), h.q.step hB, h.rlen, h.rcap, h.rle, h.rnrm, h.rrd.below hB (Nat.le_refl _), h.rne⟩
end Go.Proofs.Ytpnnpkchogooaaa

/- The walk of the model's greatest common divisor. -/
namespace Go.Proofs.Ytpnnpkchogooaaa
open Go.RowKit
end Go.Proofs.Ytpnnpkchogooaaa

/- The walk of the model's common divisor of two numbers of four words. -/
namespace Go.Proofs.Ytpnnpkchogooaaa
open Go.RowKit
end Go.Proofs.Ytpnnpkchogooaaa

/- Fractions: whether one is right. -/
namespace Go.Proofs.Ytpnnpkchogooaaa
open Go.RowKit
/-- Two numbers as they lie in memory, side by side. -/
def TwoNP (x y : Int) (w : World) (e : Ending) (w' : World) : Prop :=
  ∃ (s : Bool) (ao : Option Addr) (n cap : Nat) (ds : List Int) (t : Bool) (bo : Option Addr) (m c : Nat) (es : List Int), e = .returned (.agg #[.bool s, .slice ao n cap, .bool t, .slice bo m c]) ∧ IsNum w' s ao n cap ds x 8 ∧ IsNum w' t bo m c es y 8 ∧ Below w.heap.size w w'
theorem IsNum.set {w : World} {s : Bool} {ao : Option Addr} {n cap : Nat} {ds : List Int} {z : Int} {k : Nat} (h : IsNum w s ao n cap ds z k) {p : Addr} {v : Value} (h0 : w.cell? p = some v) (hv : ∀ i, v ≠ .int .u32 i) (u : Value) : IsNum (w.setCell p u) s ao n cap ds z k :=
  ⟨h.neg, h.len, h.cap, h.rd.set u h0 hv, h.nrm, h.val, h.le⟩
theorem TwoNP.drew {x y : Int} {w w' : World} {e : Ending} (h : TwoNP x y w e w') : TwoNP x y w e w'.drew := by
  obtain ⟨s, ao, n, cap, ds, t, bo, m, c, es, he, N1, N2, hB⟩ := h
  exact ⟨s, ao, n, cap, ds, t, bo, m, c, es, he, ⟨N1.neg, N1.len, N1.cap, N1.rd, N1.nrm, N1.val, N1.le⟩, ⟨N2.neg, N2.len, N2.cap, N2.rd, N2.nrm, N2.val, N2.le⟩, hB.drew⟩
end Go.Proofs.Ytpnnpkchogooaaa

/- Fractions in their order: the program's walks. -/
namespace Go.Proofs.Ytpnnpkchogooaaa
open Go.RowKit
end Go.Proofs.Ytpnnpkchogooaaa

/- The words of a number, as its bits lie. -/
namespace Go.Proofs.Ytpnnpkchogooaaa
open Go.RowKit
/-- The words of a number, as its bits lie. -/
def ww0 (z : Int) : Int := z % 18446744073709551616
def ww1 (z : Int) : Int := z / 18446744073709551616 % 18446744073709551616
def ww2 (z : Int) : Int := z / 340282366920938463463374607431768211456 % 18446744073709551616
def ww3 (z : Int) : Int := z / 6277101735386680763835789423207666416102355444464034512896 % 18446744073709551616
theorem wd_of {a3 a2 a1 a0 z : Int} (h3 : Word a3) (h2 : Word a2) (h1 : Word a1) (h0 : Word a0) (h : sw a3 a2 a1 a0 = z) : a3 = ww3 z ∧ a2 = ww2 z ∧ a1 = ww1 z ∧ a0 = ww0 z := by
  unfold Word sw uw ww3 ww2 ww1 ww0 at *
  split at h <;> omega
abbrev W4 (z : Int) : Value := .agg #[.int .u64 (ww3 z), .int .u64 (ww2 z), .int .u64 (ww1 z), .int .u64 (ww0 z)]
def VP (v : Value) (w : World) (e : Ending) (w' : World) : Prop := e = .returned v ∧ Below w.heap.size w w'
end Go.Proofs.Ytpnnpkchogooaaa

/- The quotient and the rest of numbers with signs: the reckoning. -/
namespace Go.Proofs.Ytpnnpkchogooaaa
open Go.RowKit
end Go.Proofs.Ytpnnpkchogooaaa

/- Quotients with their signs: the reckoning, and the walks of the pieces. -/
namespace Go.Proofs.Ytpnnpkchogooaaa
open Go.RowKit
end Go.Proofs.Ytpnnpkchogooaaa

/- The program's quotient of two numbers of four words: what lies in memory around the division. -/
namespace Go.Proofs.Ytpnnpkchogooaaa
open Go.RowKit
end Go.Proofs.Ytpnnpkchogooaaa

/- Sums of numbers of eight words, and that words tell a number. -/
namespace Go.Proofs.Ytpnnpkchogooaaa
open Go.RowKit
end Go.Proofs.Ytpnnpkchogooaaa

/- The walk of the program's quotient and rest of two numbers of four words. -/
namespace Go.Proofs.Ytpnnpkchogooaaa
open Go.RowKit
end Go.Proofs.Ytpnnpkchogooaaa

/- Two rows of four values, and a flag, laid behind the arguments. -/
namespace Go.Proofs.Ytpnnpkchogooaaa
open Go.RowKit
def CutY (w wx : World) (vss : List (List Value)) (xs ys : List Value) (b : Bool) (p q r : Value) : Prop :=
  ∃ g g', p = (.pointer (some ⟨g, 0, none⟩)) ∧ q = (.pointer (some ⟨g', 0, none⟩)) ∧ r = .bool b ∧ g ≠ g' ∧ w.heap.size + vss.length ≤ g ∧ w.heap.size + vss.length ≤ g' ∧ ArgsB w wx vss ∧ Blk wx g xs ∧ Blk wx g' ys
theorem CutY.drew {w wx : World} {vss : List (List Value)} {xs ys : List Value} {b : Bool} {p q r : Value} (h : CutY w wx vss xs ys b p q r) : CutY w wx.drew vss xs ys b p q r := by
  obtain ⟨g, g', e, f, i, n, l, l', A, B, C⟩ := h
  exact ⟨g, g', e, f, i, n, l, l', A.drew, B.drew, C.drew⟩
end Go.Proofs.Ytpnnpkchogooaaa

/- Rows of eight values laid behind the arguments. -/
namespace Go.Proofs.Ytpnnpkchogooaaa
open Go.RowKit
end Go.Proofs.Ytpnnpkchogooaaa

/- The walk of what a long is when it is divided by a divisor of it, told as four words. -/
namespace Go.Proofs.Ytpnnpkchogooaaa
open Go.RowKit
/-- What is told of a quotient with its sign. -/
def shareZ (x d : Int) (b : Bool) : Int := if decide (x < 0) != b then -((x.natAbs : Int) / d) else (x.natAbs : Int) / d
end Go.Proofs.Ytpnnpkchogooaaa

/- A spot as a point: the walks of the model's numbers. -/
namespace Go.Proofs.Ytpnnpkchogooaaa
open Go.RowKit
theorem implOf_det (n : Int) (w : World) (h0 : -9223372036854775808 ≤ n) (h1 : n ≤ 9223372036854775807) : Calls Try.prog 43 #[.int .i64 n] w (VP (W4 n) w) := by
  refine (implOf_any n w h0 h1).mono ?_
  rintro e w' ⟨a3, a2, a1, a0, rfl, g3, g2, g1, g0, hs, hB⟩
  obtain ⟨rfl, rfl, rfl, rfl⟩ := wd_of g3 g2 g1 g0 hs
  exact ⟨rfl, hB⟩
theorem IsNum.setp {w : World} {s : Bool} {ao : Option Addr} {n cap : Nat} {ds : List Int} {z : Int} {k : Nat} (h : IsNum w s ao n cap ds z k) {p : Addr} {v : Value} (u : Value) (hp : w.cell? p = some v) (hv : ∀ x, v ≠ .int .u32 x) : IsNum (w.setCell p u) s ao n cap ds z k :=
  h.set hp hv u
end Go.Proofs.Ytpnnpkchogooaaa

/- A spot as a point: the walks of the model's point of numbers. -/
namespace Go.Proofs.Ytpnnpkchogooaaa
open Go.RowKit
theorem ret_bool {a b : Bool} (h : b = a) : Ending.returned (.bool a) = .returned (.bool b) := by rw [h]
def small (z : Int) : Bool := decide ((z.natAbs : Int) < 1208925819614629174706176)
end Go.Proofs.Ytpnnpkchogooaaa

/- Numbers by their own words: what is answered is known ahead. -/
namespace Go.Proofs.Ytpnnpkchogooaaa
open Go.RowKit
end Go.Proofs.Ytpnnpkchogooaaa

/- Points: the program's walks. -/
namespace Go.Proofs.Ytpnnpkchogooaaa
open Go.RowKit
theorem ar1 (a : List Value) (T : TypeId) (w : World) : ArgsB w (w.alloc (.cells a.toArray T)) [a] := by
  refine ⟨(Below.refl _ _).alloc (Nat.le_refl _) _, fun j vs hj => ?_⟩
  match j, hj with
  | 0, hj => cases hj; exact Blk.new w a T rfl
  | j + 1, hj => simp at hj
theorem ArgsB.more {w W : World} {vss : List (List Value)} (h : ArgsB w W vss) (hl : W.heap.size = w.heap.size + vss.length) (b : List Value) (T : TypeId) : ArgsB w (W.alloc (.cells b.toArray T)) (vss ++ [b]) := by
  refine ⟨(h.alloc _).below, fun j vs hj => ?_⟩
  rcases Nat.lt_trichotomy j vss.length with hlt | rfl | hgt
  · rw [List.getElem?_append_left hlt] at hj
    exact (h.b j hj).alloc _
  · simp at hj
    subst hj
    exact Blk.new W b T hl.symm
  · rw [List.getElem?_eq_none (by simp; omega)] at hj
    cases hj
theorem ArgsB.left {w W : World} {us vs : List (List Value)} (h : ArgsB w W (us ++ vs)) : ArgsB w W us := by
  refine ⟨h.below, fun j xs hj => h.b j ?_⟩
  rw [List.getElem?_append_left]
  · exact hj
  · rcases Nat.lt_or_ge j us.length with h | h
    · exact h
    · rw [List.getElem?_eq_none h] at hj; cases hj
theorem ar2 (a b : List Value) (T U : TypeId) (w : World) : ArgsB w ((w.alloc (.cells a.toArray T)).alloc (.cells b.toArray U)) [a, b] := (ar1 a T w).more (by simp) b U
theorem ar3 (a b c : List Value) (T U V : TypeId) (w : World) : ArgsB w (((w.alloc (.cells a.toArray T)).alloc (.cells b.toArray U)).alloc (.cells c.toArray V)) [a, b, c] := (ar2 a b T U w).more (by simp) c V
theorem ar4 (a b c d : List Value) (T U V X : TypeId) (w : World) : ArgsB w ((((w.alloc (.cells a.toArray T)).alloc (.cells b.toArray U)).alloc (.cells c.toArray V)).alloc (.cells d.toArray X)) [a, b, c, d] := (ar3 a b c T U V w).more (by simp) d X
end Go.Proofs.Ytpnnpkchogooaaa

/- Points: what three numbers have in common. -/
namespace Go.Proofs.Ytpnnpkchogooaaa
open Go.RowKit
end Go.Proofs.Ytpnnpkchogooaaa

/- Points: whether one is right, by the program. -/
namespace Go.Proofs.Ytpnnpkchogooaaa
open Go.RowKit
end Go.Proofs.Ytpnnpkchogooaaa

/- How a value of four words reads as data: opened and shut. -/
namespace Go.Proofs.Ytpnnpkchogooaaa
open Go.ChangeShapes Go.WideShapes Go.ChangeAt Go.RowKit Go.Joins
theorem Try.own : ownKnob Try.prog.godebug = none := by kernel_rfl
end Go.Proofs.Ytpnnpkchogooaaa

/- Points: the law's own copy of one, and how one reads as data. -/
namespace Go.Proofs.Ytpnnpkchogooaaa
open Go.ChangeShapes Go.WideShapes Go.ChangeAt Go.RowKit Go.Joins
end Go.Proofs.Ytpnnpkchogooaaa

/- A spot as a point: the walks of the model's point, told, of the program's, and of the law. -/
namespace Go.Proofs.Ytpnnpkchogooaaa
open Go.RowKit
end Go.Proofs.Ytpnnpkchogooaaa

/- A spot as a point: the walks of the model's point, of the program's, and of the law. -/
namespace Go.Proofs.Ytpnnpkchogooaaa
open Go.RowKit
def SpotP (x y : Int) (w : World) (e : Ending) (w' : World) : Prop := e = .returned (.agg #[.int .i64 x, .int .i64 y]) ∧ Below w.heap.size w w'
theorem ip_cells {x y : Int} {w W : World} (h : ArgsB w W [[.int .i64 x, .int .i64 y], [.int .u64 0, .int .u64 0, .int .u64 0, .int .u64 0, .int .u64 0, .int .u64 0, .int .u64 0, .int .u64 0, .int .u64 0, .int .u64 0, .int .u64 0, .int .u64 0]]) : (fun w' => w'.cell? ⟨w.heap.size, 0, none⟩ = some (.int .i64 x) ∧ w'.cell? ⟨w.heap.size, 1, none⟩ = some (.int .i64 y)) W := ⟨(h.b 0 rfl).c 0 rfl, (h.b 0 rfl).c 1 rfl⟩
theorem ip_cells12 {x y : Int} {w W : World} {v0 v1 v2 v3 v4 v5 v6 v7 v8 v9 v10 v11 : Value} (h : ArgsB w W [[.int .i64 x, .int .i64 y], [.int .u64 0, .int .u64 0, .int .u64 0, .int .u64 0, .int .u64 0, .int .u64 0, .int .u64 0, .int .u64 0, .int .u64 0, .int .u64 0, .int .u64 0, .int .u64 0]]) : (fun w' => w'.cell? ⟨w.heap.size, 0, none⟩ = some (.int .i64 x) ∧ w'.cell? ⟨w.heap.size, 1, none⟩ = some (.int .i64 y)) ((((((((((((W.setCell ⟨w.heap.size + 1, 0, none⟩ v0).setCell ⟨w.heap.size + 1, 1, none⟩ v1).setCell ⟨w.heap.size + 1, 2, none⟩ v2).setCell ⟨w.heap.size + 1, 3, none⟩ v3).setCell ⟨w.heap.size + 1, 4, none⟩ v4).setCell ⟨w.heap.size + 1, 5, none⟩ v5).setCell ⟨w.heap.size + 1, 6, none⟩ v6).setCell ⟨w.heap.size + 1, 7, none⟩ v7).setCell ⟨w.heap.size + 1, 8, none⟩ v8).setCell ⟨w.heap.size + 1, 9, none⟩ v9).setCell ⟨w.heap.size + 1, 10, none⟩ v10).setCell ⟨w.heap.size + 1, 11, none⟩ v11) := by
  have a : Blk _ (w.heap.size + 0) _ := (((((((((((((h.b 0 rfl).setO (p := ⟨w.heap.size + 1, 0, none⟩) (by show w.heap.size + 0 ≠ w.heap.size + 1; omega) v0).setO (p := ⟨w.heap.size + 1, 1, none⟩) (by show w.heap.size + 0 ≠ w.heap.size + 1; omega) v1).setO (p := ⟨w.heap.size + 1, 2, none⟩) (by show w.heap.size + 0 ≠ w.heap.size + 1; omega) v2).setO (p := ⟨w.heap.size + 1, 3, none⟩) (by show w.heap.size + 0 ≠ w.heap.size + 1; omega) v3).setO (p := ⟨w.heap.size + 1, 4, none⟩) (by show w.heap.size + 0 ≠ w.heap.size + 1; omega) v4).setO (p := ⟨w.heap.size + 1, 5, none⟩) (by show w.heap.size + 0 ≠ w.heap.size + 1; omega) v5).setO (p := ⟨w.heap.size + 1, 6, none⟩) (by show w.heap.size + 0 ≠ w.heap.size + 1; omega) v6).setO (p := ⟨w.heap.size + 1, 7, none⟩) (by show w.heap.size + 0 ≠ w.heap.size + 1; omega) v7).setO (p := ⟨w.heap.size + 1, 8, none⟩) (by show w.heap.size + 0 ≠ w.heap.size + 1; omega) v8).setO (p := ⟨w.heap.size + 1, 9, none⟩) (by show w.heap.size + 0 ≠ w.heap.size + 1; omega) v9).setO (p := ⟨w.heap.size + 1, 10, none⟩) (by show w.heap.size + 0 ≠ w.heap.size + 1; omega) v10).setO (p := ⟨w.heap.size + 1, 11, none⟩) (by show w.heap.size + 0 ≠ w.heap.size + 1; omega) v11)
  exact ⟨a.c 0 rfl, a.c 1 rfl⟩
theorem ip_start (x y : Int) (w : World) : ArgsB w ((w.alloc (.cells #[.int .i64 x, .int .i64 y] 25)).alloc (.cells #[.int .u64 0, .int .u64 0, .int .u64 0, .int .u64 0, .int .u64 0, .int .u64 0, .int .u64 0, .int .u64 0, .int .u64 0, .int .u64 0, .int .u64 0, .int .u64 0] 40)) [[.int .i64 x, .int .i64 y], [.int .u64 0, .int .u64 0, .int .u64 0, .int .u64 0, .int .u64 0, .int .u64 0, .int .u64 0, .int .u64 0, .int .u64 0, .int .u64 0, .int .u64 0, .int .u64 0]] := by
  refine ⟨((Below.refl _ _).alloc (Nat.le_refl _) _).alloc (by simp) _, fun j vs hj => ?_⟩
  match j, hj with
  | 0, hj => cases hj; exact (Blk.new w [.int .i64 x, .int .i64 y] 25 rfl).alloc _
  | 1, hj => cases hj; exact Blk.new (w.alloc (.cells #[.int .i64 x, .int .i64 y] 25)) [.int .u64 0, .int .u64 0, .int .u64 0, .int .u64 0, .int .u64 0, .int .u64 0, .int .u64 0, .int .u64 0, .int .u64 0, .int .u64 0, .int .u64 0, .int .u64 0] 40 (by simp)
  | j + 2, hj => simp at hj
set_option maxRecDepth 100000 in
set_option maxHeartbeats 2000000 in
theorem implPointOf_any (x y : Int) (hx0 : -9223372036854775808 ≤ x) (hx1 : x ≤ 9223372036854775807) (hy0 : -9223372036854775808 ≤ y) (hy1 : y ≤ 9223372036854775807) (w : World) :
    Calls Try.prog 40 #[.agg #[.int .i64 x, .int .i64 y]] w (VP (.agg #[.int .u64 (ww3 x), .int .u64 (ww2 x), .int .u64 (ww1 x), .int .u64 (ww0 x), .int .u64 (ww3 y), .int .u64 (ww2 y), .int .u64 (ww1 y), .int .u64 (ww0 y), .int .u64 (ww3 1), .int .u64 (ww2 1), .int .u64 (ww1 1), .int .u64 (ww0 1)]) w) := by
  have T0 := ip_start x y w
  have tok1 : True := trivial
  have tok2 : True := trivial
  go_enter Try.func40, Try.ntmps40
  go_upto_region 1 with fail
  generalize ((w.alloc (.cells #[.int .i64 x, .int .i64 y] 25)).alloc (.cells #[.int .u64 0, .int .u64 0, .int .u64 0, .int .u64 0, .int .u64 0, .int .u64 0, .int .u64 0, .int .u64 0, .int .u64 0, .int .u64 0, .int .u64 0, .int .u64 0] 40)) = W at *
  go_region_held3 (fun w' => w'.cell? ⟨w.heap.size, 0, none⟩ = some (.int .i64 x) ∧ w'.cell? ⟨w.heap.size, 1, none⟩ = some (.int .i64 y)) (first | (with_reducible exact ip_cells T0) | (with_reducible exact ip_cells T0.drew) | (with_reducible exact ip_cells12 T0))
    (first
      | (go_at_call 43; have _t := tok1; refine (implOf_det x _ hx0 hx1).mono ?_; rintro e w1 ⟨rfl, hB⟩; (first | (have T1 := T0.step hB) | (have T1 := T0.drew.step hB)); clear T0; have T0 := T1; clear T1; clear tok1 _t hB)
      | (go_at_call 43; have _t := tok2; refine (implOf_det y _ hy0 hy1).mono ?_; rintro e w2 ⟨rfl, hB⟩; (first | (have T1 := T0.step hB) | (have T1 := T0.drew.step hB)); clear T0; have T0 := T1; clear T1; clear tok2 _t hB)
      | (go_at_call 43; refine (implOf_det 1 _ (by decide) (by decide)).mono ?_; rintro e w3 ⟨rfl, hB⟩; (first | (have T1 := T0.step hB) | (have T1 := T0.drew.step hB)); clear T0; have T0 := T1; clear T1; have tc0 := (T0.b 1 rfl).c 0 rfl; have tf0 := (T0.b 1 rfl).f 0 rfl; have tc1 := (T0.b 1 rfl).c 1 rfl; have tf1 := (T0.b 1 rfl).f 1 rfl; have tc2 := (T0.b 1 rfl).c 2 rfl; have tf2 := (T0.b 1 rfl).f 2 rfl; have tc3 := (T0.b 1 rfl).c 3 rfl; have tf3 := (T0.b 1 rfl).f 3 rfl; have tc4 := (T0.b 1 rfl).c 4 rfl; have tf4 := (T0.b 1 rfl).f 4 rfl; have tc5 := (T0.b 1 rfl).c 5 rfl; have tf5 := (T0.b 1 rfl).f 5 rfl; have tc6 := (T0.b 1 rfl).c 6 rfl; have tf6 := (T0.b 1 rfl).f 6 rfl; have tc7 := (T0.b 1 rfl).c 7 rfl; have tf7 := (T0.b 1 rfl).f 7 rfl; have tc8 := (T0.b 1 rfl).c 8 rfl; have tf8 := (T0.b 1 rfl).f 8 rfl; have tc9 := (T0.b 1 rfl).c 9 rfl; have tf9 := (T0.b 1 rfl).f 9 rfl; have tc10 := (T0.b 1 rfl).c 10 rfl; have tf10 := (T0.b 1 rfl).f 10 rfl; have tc11 := (T0.b 1 rfl).c 11 rfl; have tf11 := (T0.b 1 rfl).f 11 rfl; have tl := (T0.b 1 rfl).lt; clear hB))
  all_goals have F : Blk (((((((((((((w3.setCell ⟨w.heap.size + 1, 0, none⟩ (.int .u64 (ww3 x))).setCell ⟨w.heap.size + 1, 1, none⟩ (.int .u64 (ww2 x))).setCell ⟨w.heap.size + 1, 2, none⟩ (.int .u64 (ww1 x))).setCell ⟨w.heap.size + 1, 3, none⟩ (.int .u64 (ww0 x))).setCell ⟨w.heap.size + 1, 4, none⟩ (.int .u64 (ww3 y))).setCell ⟨w.heap.size + 1, 5, none⟩ (.int .u64 (ww2 y))).setCell ⟨w.heap.size + 1, 6, none⟩ (.int .u64 (ww1 y))).setCell ⟨w.heap.size + 1, 7, none⟩ (.int .u64 (ww0 y))).setCell ⟨w.heap.size + 1, 8, none⟩ (.int .u64 (ww3 1))).setCell ⟨w.heap.size + 1, 9, none⟩ (.int .u64 (ww2 1))).setCell ⟨w.heap.size + 1, 10, none⟩ (.int .u64 (ww1 1))).setCell ⟨w.heap.size + 1, 11, none⟩ (.int .u64 (ww0 1)))) (w.heap.size + 1) [.int .u64 (ww3 x), .int .u64 (ww2 x), .int .u64 (ww1 x), .int .u64 (ww0 x), .int .u64 (ww3 y), .int .u64 (ww2 y), .int .u64 (ww1 y), .int .u64 (ww0 y), .int .u64 (ww3 1), .int .u64 (ww2 1), .int .u64 (ww1 1), .int .u64 (ww0 1)] := ((((((((((((((T0.b 1 rfl).setI 0 (by simp) (.int .u64 (ww3 x))).setI 1 (by simp) (.int .u64 (ww2 x))).setI 2 (by simp) (.int .u64 (ww1 x))).setI 3 (by simp) (.int .u64 (ww0 x))).setI 4 (by simp) (.int .u64 (ww3 y))).setI 5 (by simp) (.int .u64 (ww2 y))).setI 6 (by simp) (.int .u64 (ww1 y))).setI 7 (by simp) (.int .u64 (ww0 y))).setI 8 (by simp) (.int .u64 (ww3 1))).setI 9 (by simp) (.int .u64 (ww2 1))).setI 10 (by simp) (.int .u64 (ww1 1))).setI 11 (by simp) (.int .u64 (ww0 1))))
  all_goals have HBF : Below w.heap.size w (((((((((((((w3.setCell ⟨w.heap.size + 1, 0, none⟩ (.int .u64 (ww3 x))).setCell ⟨w.heap.size + 1, 1, none⟩ (.int .u64 (ww2 x))).setCell ⟨w.heap.size + 1, 2, none⟩ (.int .u64 (ww1 x))).setCell ⟨w.heap.size + 1, 3, none⟩ (.int .u64 (ww0 x))).setCell ⟨w.heap.size + 1, 4, none⟩ (.int .u64 (ww3 y))).setCell ⟨w.heap.size + 1, 5, none⟩ (.int .u64 (ww2 y))).setCell ⟨w.heap.size + 1, 6, none⟩ (.int .u64 (ww1 y))).setCell ⟨w.heap.size + 1, 7, none⟩ (.int .u64 (ww0 y))).setCell ⟨w.heap.size + 1, 8, none⟩ (.int .u64 (ww3 1))).setCell ⟨w.heap.size + 1, 9, none⟩ (.int .u64 (ww2 1))).setCell ⟨w.heap.size + 1, 10, none⟩ (.int .u64 (ww1 1))).setCell ⟨w.heap.size + 1, 11, none⟩ (.int .u64 (ww0 1)))) := (((((((((((((T0.below.setCell (p := ⟨w.heap.size + 1, 0, none⟩) (by simp) (.int .u64 (ww3 x))).setCell (p := ⟨w.heap.size + 1, 1, none⟩) (by simp) (.int .u64 (ww2 x))).setCell (p := ⟨w.heap.size + 1, 2, none⟩) (by simp) (.int .u64 (ww1 x))).setCell (p := ⟨w.heap.size + 1, 3, none⟩) (by simp) (.int .u64 (ww0 x))).setCell (p := ⟨w.heap.size + 1, 4, none⟩) (by simp) (.int .u64 (ww3 y))).setCell (p := ⟨w.heap.size + 1, 5, none⟩) (by simp) (.int .u64 (ww2 y))).setCell (p := ⟨w.heap.size + 1, 6, none⟩) (by simp) (.int .u64 (ww1 y))).setCell (p := ⟨w.heap.size + 1, 7, none⟩) (by simp) (.int .u64 (ww0 y))).setCell (p := ⟨w.heap.size + 1, 8, none⟩) (by simp) (.int .u64 (ww3 1))).setCell (p := ⟨w.heap.size + 1, 9, none⟩) (by simp) (.int .u64 (ww2 1))).setCell (p := ⟨w.heap.size + 1, 10, none⟩) (by simp) (.int .u64 (ww1 1))).setCell (p := ⟨w.heap.size + 1, 11, none⟩) (by simp) (.int .u64 (ww0 1))))
  all_goals clear T0
  all_goals go_wp2
  all_goals generalize (((((((((((((w3.setCell ⟨w.heap.size + 1, 0, none⟩ (.int .u64 (ww3 x))).setCell ⟨w.heap.size + 1, 1, none⟩ (.int .u64 (ww2 x))).setCell ⟨w.heap.size + 1, 2, none⟩ (.int .u64 (ww1 x))).setCell ⟨w.heap.size + 1, 3, none⟩ (.int .u64 (ww0 x))).setCell ⟨w.heap.size + 1, 4, none⟩ (.int .u64 (ww3 y))).setCell ⟨w.heap.size + 1, 5, none⟩ (.int .u64 (ww2 y))).setCell ⟨w.heap.size + 1, 6, none⟩ (.int .u64 (ww1 y))).setCell ⟨w.heap.size + 1, 7, none⟩ (.int .u64 (ww0 y))).setCell ⟨w.heap.size + 1, 8, none⟩ (.int .u64 (ww3 1))).setCell ⟨w.heap.size + 1, 9, none⟩ (.int .u64 (ww2 1))).setCell ⟨w.heap.size + 1, 10, none⟩ (.int .u64 (ww1 1))).setCell ⟨w.heap.size + 1, 11, none⟩ (.int .u64 (ww0 1)))) = WF at *
  all_goals (have u0 := F.c 0 rfl; have u1 := F.c 1 rfl; have u2 := F.c 2 rfl; have u3 := F.c 3 rfl; have u4 := F.c 4 rfl; have u5 := F.c 5 rfl; have u6 := F.c 6 rfl; have u7 := F.c 7 rfl; have u8 := F.c 8 rfl; have u9 := F.c 9 rfl; have u10 := F.c 10 rfl; have u11 := F.c 11 rfl)
  all_goals refine bodyPost_ret (v := .agg #[.int .u64 (ww3 x), .int .u64 (ww2 x), .int .u64 (ww1 x), .int .u64 (ww0 x), .int .u64 (ww3 y), .int .u64 (ww2 y), .int .u64 (ww1 y), .int .u64 (ww0 y), .int .u64 (ww3 1), .int .u64 (ww2 1), .int .u64 (ww1 1), .int .u64 (ww0 1)]) (by simp [results, Try.results40, go_sem, u0, u1, u2, u3, u4, u5, u6, u7, u8, u9, u10, u11]) rfl ?_
  all_goals exact ⟨rfl, HBF⟩
end Go.Proofs.Ytpnnpkchogooaaa

/- Spots and segments beside points: the walks of their rightness, by the model and by the program. -/
namespace Go.Proofs.Ytpnnpkchogooaaa
open Go.RowKit
abbrev Sp (x y : Int) : Value := .agg #[.int .i64 x, .int .i64 y]
def spotOk (x y : Int) : Bool := decide (-1000000 ≤ x ∧ x ≤ 1000000 ∧ -1000000 ≤ y ∧ y ≤ 1000000)
theorem l1In_any (x a b : Int) (c : Bool) (hc : decide (a ≤ x ∧ x ≤ b) = c) (w : World) : Calls Try.prog 39 #[.int .i64 x, .int .i64 a, .int .i64 b] w (BoolP c w) := by
  go_enter Try.func39, Try.ntmps39
  go_wp2
  all_goals go_ret
  all_goals exact ⟨ret_bool (by subst hc; simp; try omega), Below.refl _ _⟩
theorem implSpotOk_any (x y : Int) (c : Bool) (hc : spotOk x y = c) (w : World) : Calls Try.prog 9 #[Sp x y] w (BoolP c w) := by
  go_enter Try.func9, Try.ntmps9
  go_wp2
  all_goals go_ret
  all_goals exact ⟨ret_bool (by subst hc; unfold spotOk; simp [*]; try omega), (Below.refl _ _).alloc (Nat.le_refl _) _⟩
theorem specSpotOk_any (x y : Int) (c : Bool) (hc : spotOk x y = c) (w : World) : Calls Try.prog 29 #[Sp x y] w (BoolP c w) := by
  by_cases hx : -1000000 ≤ x ∧ x ≤ 1000000
  · go_enter Try.func29, Try.ntmps29
    go_wp2_with fail
    refine (l1In_any _ _ _ true (by simpa using hx) _).mono ?_
    rintro e w1 ⟨rfl, hB⟩
    obtain ⟨hq, _⟩ := bcell hB
    have HB : Below w.heap.size w w1 := ((Below.refl _ _).alloc (Nat.le_refl _) _).trans (hB.mono (by simp))
    clear hB
    go_wp2_with fail
    refine (l1In_any _ _ _ c (by subst hc; unfold spotOk; simp [hx]) _).mono ?_
    rintro e w2 ⟨rfl, hB⟩
    go_wp2
    go_ret
    exact ⟨rfl, HB.trans (hB.mono HB.size)⟩
  · go_enter Try.func29, Try.ntmps29
    go_wp2_with fail
    refine (l1In_any _ _ _ false (by simpa using hx) _).mono ?_
    rintro e w1 ⟨rfl, hB⟩
    have HB : Below w.heap.size w w1 := ((Below.refl _ _).alloc (Nat.le_refl _) _).trans (hB.mono (by simp))
    clear hB
    go_wp2
    go_ret
    exact ⟨ret_bool (by subst hc; unfold spotOk; simp; omega), HB⟩
def lessI (x y u v : Int) : Bool := decide (x < u ∨ x = u ∧ y < v)
theorem l4Less_any (x y u v : Int) (c : Bool) (hc : lessI x y u v = c) (w : World) : Calls Try.prog 30 #[Sp x y, Sp u v] w (BoolP c w) := by
  go_enter Try.func30, Try.ntmps30
  go_wp2
  all_goals go_ret
  all_goals exact ⟨ret_bool (by subst hc; unfold lessI; simp [*]; try omega), ((Below.refl _ _).alloc (Nat.le_refl _) _).alloc (by simp) _⟩
theorem isAhead_any (x y u v : Int) (c : Bool) (hc : lessI x y u v = c) (w : World) : Calls Try.prog 20 #[Sp x y, Sp u v] w (BoolP c w) := by
  go_enter Try.func20, Try.ntmps20
  go_wp2
  all_goals go_ret
  all_goals exact ⟨ret_bool (by subst hc; unfold lessI; simp [*]; try omega), ((Below.refl _ _).alloc (Nat.le_refl _) _).alloc (by simp) _⟩
abbrev Sg (a b c d : Int) : Value := .agg #[.int .i64 a, .int .i64 b, .int .i64 c, .int .i64 d]
/-- Four cells of a block, to be written. -/
structure Quad (W : World) (g : Nat) (v0 v1 v2 v3 : Value) : Prop where
  c0 : W.cell? ⟨g, 0, none⟩ = some v0
  c1 : W.cell? ⟨g, 1, none⟩ = some v1
  c2 : W.cell? ⟨g, 2, none⟩ = some v2
  c3 : W.cell? ⟨g, 3, none⟩ = some v3
  f0 : W.frozen? ⟨g, 0, none⟩ = false
  f1 : W.frozen? ⟨g, 1, none⟩ = false
  f2 : W.frozen? ⟨g, 2, none⟩ = false
  f3 : W.frozen? ⟨g, 3, none⟩ = false
  lt : g < W.heap.size
theorem Quad.below {W W' : World} {B g : Nat} {v0 v1 v2 v3 : Value} (h : Quad W g v0 v1 v2 v3) (hB : Below B W W') (hg : g < B) : Quad W' g v0 v1 v2 v3 :=
  ⟨(hB.cell (p := ⟨g, 0, none⟩) hg).trans h.c0, (hB.cell (p := ⟨g, 1, none⟩) hg).trans h.c1, (hB.cell (p := ⟨g, 2, none⟩) hg).trans h.c2, (hB.cell (p := ⟨g, 3, none⟩) hg).trans h.c3,
   (hB.frozen (p := ⟨g, 0, none⟩) hg).trans h.f0, (hB.frozen (p := ⟨g, 1, none⟩) hg).trans h.f1, (hB.frozen (p := ⟨g, 2, none⟩) hg).trans h.f2, (hB.frozen (p := ⟨g, 3, none⟩) hg).trans h.f3, Nat.lt_of_lt_of_le h.lt hB.size⟩
theorem Quad.alloc {W : World} {g : Nat} {v0 v1 v2 v3 : Value} (h : Quad W g v0 v1 v2 v3) (o : Obj) : Quad (W.alloc o) g v0 v1 v2 v3 := h.below ((Below.refl W.heap.size W).alloc (Nat.le_refl _) o) h.lt
theorem Quad.new (W : World) (v0 v1 v2 v3 : Value) (t : TypeId) {g : Nat} (hg : g = W.heap.size) : Quad (W.alloc (.cells #[v0, v1, v2, v3] t)) g v0 v1 v2 v3 := by
  subst hg
  constructor <;> simp [go_sem]
def segOk (a b c d : Int) : Bool := spotOk a b && spotOk c d && lessI a b c d
set_option maxRecDepth 100000 in
theorem specSegOk_any (a b c d : Int) (z : Bool) (hz : segOk a b c d = z) (w : World) : Calls Try.prog 17 #[Sg a b c d] w (BoolP z w) := by
  have HB0 : Below w.heap.size w (w.alloc (.cells #[.int .i64 a, .int .i64 b, .int .i64 c, .int .i64 d] 27)) := (Below.refl _ _).alloc (Nat.le_refl _) _
  by_cases hx : spotOk a b = true
  · by_cases hy : spotOk c d = true
    · go_enter Try.func17, Try.ntmps17
      go_wp2_with fail
      refine (specSpotOk_any _ _ true hx _).mono ?_
      rintro e w1 ⟨rfl, hB⟩
      have HB : Below w.heap.size w w1 := HB0.trans (hB.mono (by simp))
      have q0 : Quad w1 w.heap.size _ _ _ _ := (Quad.new w (.int .i64 a) (.int .i64 b) (.int .i64 c) (.int .i64 d) _ rfl).below hB (by simp)
      obtain ⟨q00, q01, q02, q03, -, -, -, -, q08⟩ := id q0
      clear hB
      go_wp2_with fail
      refine (specSpotOk_any _ _ true hy _).mono ?_
      rintro e w2 ⟨rfl, hB⟩
      have HB2 : Below w.heap.size w w2 := HB.trans (hB.mono HB.size)
      have q2 := q0.below hB q0.lt
      clear q00 q01 q02 q03 q08
      obtain ⟨q00, q01, q02, q03, -, -, -, -, q08⟩ := q2
      clear hB HB
      go_wp2_with fail
      refine (l4Less_any _ _ _ _ z (by rw [← hz]; simp [segOk, hx, hy]) _).mono ?_
      rintro e w3 ⟨rfl, hB⟩
      go_wp2
      go_ret
      exact ⟨rfl, HB2.trans (hB.mono HB2.size)⟩
    · have hy := Bool.eq_false_iff.2 hy
      go_enter Try.func17, Try.ntmps17
      go_wp2_with fail
      refine (specSpotOk_any _ _ true hx _).mono ?_
      rintro e w1 ⟨rfl, hB⟩
      have HB : Below w.heap.size w w1 := HB0.trans (hB.mono (by simp))
      have q0 : Quad w1 w.heap.size _ _ _ _ := (Quad.new w (.int .i64 a) (.int .i64 b) (.int .i64 c) (.int .i64 d) _ rfl).below hB (by simp)
      obtain ⟨q00, q01, q02, q03, -, -, -, -, q08⟩ := id q0
      clear hB
      go_wp2_with fail
      refine (specSpotOk_any _ _ false hy _).mono ?_
      rintro e w2 ⟨rfl, hB⟩
      have HB2 : Below w.heap.size w w2 := HB.trans (hB.mono HB.size)
      clear hB HB
      go_wp2
      go_ret
      exact ⟨ret_bool (by rw [← hz]; simp [segOk, hx, hy]), HB2⟩
  · have hx := Bool.eq_false_iff.2 hx
    go_enter Try.func17, Try.ntmps17
    go_wp2_with fail
    refine (specSpotOk_any _ _ false hx _).mono ?_
    rintro e w1 ⟨rfl, hB⟩
    have HB : Below w.heap.size w w1 := HB0.trans (hB.mono (by simp))
    clear hB
    go_wp2
    go_ret
    exact ⟨ret_bool (by rw [← hz]; simp [segOk, hx]), HB⟩
set_option maxRecDepth 100000 in
theorem implSegOk_any (a b c d : Int) (z : Bool) (hz : segOk a b c d = z) (w : World) : Calls Try.prog 8 #[Sg a b c d] w (BoolP z w) := by
  have HB0 : Below w.heap.size w (w.alloc (.cells #[.int .i64 a, .int .i64 b, .int .i64 c, .int .i64 d] 27)) := (Below.refl _ _).alloc (Nat.le_refl _) _
  by_cases hx : spotOk a b = true
  · by_cases hy : spotOk c d = true
    · go_enter Try.func8, Try.ntmps8
      go_wp2_with fail
      refine (implSpotOk_any _ _ true hx _).mono ?_
      rintro e w1 ⟨rfl, hB⟩
      have HB : Below w.heap.size w w1 := HB0.trans (hB.mono (by simp))
      have q0 : Quad w1 w.heap.size _ _ _ _ := (Quad.new w (.int .i64 a) (.int .i64 b) (.int .i64 c) (.int .i64 d) _ rfl).below hB (by simp)
      obtain ⟨q00, q01, q02, q03, -, -, -, -, q08⟩ := id q0
      clear hB
      go_wp2_with fail
      refine (implSpotOk_any _ _ true hy _).mono ?_
      rintro e w2 ⟨rfl, hB⟩
      have HB2 : Below w.heap.size w w2 := HB.trans (hB.mono HB.size)
      have q2 := q0.below hB q0.lt
      clear q00 q01 q02 q03 q08
      obtain ⟨q00, q01, q02, q03, -, -, -, -, q08⟩ := q2
      clear hB HB
      go_wp2_with fail
      refine (isAhead_any _ _ _ _ z (by rw [← hz]; simp [segOk, hx, hy]) _).mono ?_
      rintro e w3 ⟨rfl, hB⟩
      go_wp2
      go_ret
      exact ⟨rfl, HB2.trans (hB.mono HB2.size)⟩
    · have hy := Bool.eq_false_iff.2 hy
      go_enter Try.func8, Try.ntmps8
      go_wp2_with fail
      refine (implSpotOk_any _ _ true hx _).mono ?_
      rintro e w1 ⟨rfl, hB⟩
      have HB : Below w.heap.size w w1 := HB0.trans (hB.mono (by simp))
      have q0 : Quad w1 w.heap.size _ _ _ _ := (Quad.new w (.int .i64 a) (.int .i64 b) (.int .i64 c) (.int .i64 d) _ rfl).below hB (by simp)
      obtain ⟨q00, q01, q02, q03, -, -, -, -, q08⟩ := id q0
      clear hB
      go_wp2_with fail
      refine (implSpotOk_any _ _ false hy _).mono ?_
      rintro e w2 ⟨rfl, hB⟩
      have HB2 : Below w.heap.size w w2 := HB.trans (hB.mono HB.size)
      clear hB HB
      go_wp2
      go_ret
      exact ⟨ret_bool (by rw [← hz]; simp [segOk, hx, hy]), HB2⟩
  · have hx := Bool.eq_false_iff.2 hx
    go_enter Try.func8, Try.ntmps8
    go_wp2_with fail
    refine (implSpotOk_any _ _ false hx _).mono ?_
    rintro e w1 ⟨rfl, hB⟩
    have HB : Below w.heap.size w w1 := HB0.trans (hB.mono (by simp))
    clear hB
    go_wp2
    go_ret
    exact ⟨ret_bool (by rw [← hz]; simp [segOk, hx]), HB⟩
end Go.Proofs.Ytpnnpkchogooaaa

/- The ends of a segment as points: the program's walk. -/
namespace Go.Proofs.Ytpnnpkchogooaaa
open Go.RowKit
theorem Blk.set12 {W : World} {vs : List Value} {v0 v1 v2 v3 v4 v5 v6 v7 v8 v9 v10 v11 : Value} {g g' : Nat} (G : Blk W g' vs) (hg : g' ≠ g) : Blk ((((((((((((W.setCell ⟨g, 0, none⟩ v0).setCell ⟨g, 1, none⟩ v1).setCell ⟨g, 2, none⟩ v2).setCell ⟨g, 3, none⟩ v3).setCell ⟨g, 4, none⟩ v4).setCell ⟨g, 5, none⟩ v5).setCell ⟨g, 6, none⟩ v6).setCell ⟨g, 7, none⟩ v7).setCell ⟨g, 8, none⟩ v8).setCell ⟨g, 9, none⟩ v9).setCell ⟨g, 10, none⟩ v10).setCell ⟨g, 11, none⟩ v11) g' vs :=
  (((((((((((G.setO hg v0).setO hg v1).setO hg v2).setO hg v3).setO hg v4).setO hg v5).setO hg v6).setO hg v7).setO hg v8).setO hg v9).setO hg v10).setO hg v11
theorem Blk.stored12 {W : World} {g : Nat} {z0 z1 z2 z3 z4 z5 z6 z7 z8 z9 z10 z11 : Value} (G : Blk W g [z0, z1, z2, z3, z4, z5, z6, z7, z8, z9, z10, z11]) (v0 v1 v2 v3 v4 v5 v6 v7 v8 v9 v10 v11 : Value) : Blk ((((((((((((W.setCell ⟨g, 0, none⟩ v0).setCell ⟨g, 1, none⟩ v1).setCell ⟨g, 2, none⟩ v2).setCell ⟨g, 3, none⟩ v3).setCell ⟨g, 4, none⟩ v4).setCell ⟨g, 5, none⟩ v5).setCell ⟨g, 6, none⟩ v6).setCell ⟨g, 7, none⟩ v7).setCell ⟨g, 8, none⟩ v8).setCell ⟨g, 9, none⟩ v9).setCell ⟨g, 10, none⟩ v10).setCell ⟨g, 11, none⟩ v11) g [v0, v1, v2, v3, v4, v5, v6, v7, v8, v9, v10, v11] :=
  (((((((((((G.setI 0 (by simp) v0).setI 1 (by simp) v1).setI 2 (by simp) v2).setI 3 (by simp) v3).setI 4 (by simp) v4).setI 5 (by simp) v5).setI 6 (by simp) v6).setI 7 (by simp) v7).setI 8 (by simp) v8).setI 9 (by simp) v9).setI 10 (by simp) v10).setI 11 (by simp) v11
theorem Below.set12 {B g : Nat} {w W : World} {v0 v1 v2 v3 v4 v5 v6 v7 v8 v9 v10 v11 : Value} (hg : B ≤ g) (h : Below B w W) : Below B w ((((((((((((W.setCell ⟨g, 0, none⟩ v0).setCell ⟨g, 1, none⟩ v1).setCell ⟨g, 2, none⟩ v2).setCell ⟨g, 3, none⟩ v3).setCell ⟨g, 4, none⟩ v4).setCell ⟨g, 5, none⟩ v5).setCell ⟨g, 6, none⟩ v6).setCell ⟨g, 7, none⟩ v7).setCell ⟨g, 8, none⟩ v8).setCell ⟨g, 9, none⟩ v9).setCell ⟨g, 10, none⟩ v10).setCell ⟨g, 11, none⟩ v11) :=
  (((((((((((h.setCell (p := ⟨g, 0, none⟩) hg _).setCell (p := ⟨g, 1, none⟩) hg _).setCell (p := ⟨g, 2, none⟩) hg _).setCell (p := ⟨g, 3, none⟩) hg _).setCell (p := ⟨g, 4, none⟩) hg _).setCell (p := ⟨g, 5, none⟩) hg _).setCell (p := ⟨g, 6, none⟩) hg _).setCell (p := ⟨g, 7, none⟩) hg _).setCell (p := ⟨g, 8, none⟩) hg _).setCell (p := ⟨g, 9, none⟩) hg _).setCell (p := ⟨g, 10, none⟩) hg _).setCell (p := ⟨g, 11, none⟩) hg _
end Go.Proofs.Ytpnnpkchogooaaa
