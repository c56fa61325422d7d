/- Names and their masks: both sides. -/
import Derived.Test.YtlfogfjehdgjmaaStrB
import Derived.Lib.Strings
import Derived.Test.YtlfogfjehdgjmaaBlk
import Derived.Maps.Own
import Derived.Maps.OwnOps
import Derived.Maps.OwnSet
namespace Go.Proofs.Ytlfogfjehdgjmaa
open Go.RowKit
def nm0 : ByteArray := ⟨#[101, 113, 117, 97, 108, 115]⟩
def nm1 : ByteArray := ⟨#[100, 105, 115, 106, 111, 105, 110, 116]⟩
def nm2 : ByteArray := ⟨#[116, 111, 117, 99, 104, 101, 115]⟩
def nm3 : ByteArray := ⟨#[119, 105, 116, 104, 105, 110]⟩
def nm4 : ByteArray := ⟨#[99, 111, 110, 116, 97, 105, 110, 115]⟩
def nm5 : ByteArray := ⟨#[111, 118, 101, 114, 108, 97, 112, 115]⟩
def nm6 : ByteArray := ⟨#[105, 110, 116, 101, 114, 115, 101, 99, 116, 115]⟩
/-- The masks of a name; none where the name is none. -/
def masksL (s : ByteArray) : List ByteArray := if s = nm0 then [⟨#[84, 42, 70, 42, 42, 70, 70, 70, 42]⟩] else if s = nm1 then [⟨#[70, 70, 42, 70, 70, 42, 42, 42, 42]⟩] else if s = nm2 then [⟨#[70, 84, 42, 42, 42, 42, 42, 42, 42]⟩, ⟨#[70, 42, 42, 84, 42, 42, 42, 42, 42]⟩, ⟨#[70, 42, 42, 42, 84, 42, 42, 42, 42]⟩] else if s = nm3 then [⟨#[84, 42, 70, 42, 42, 70, 42, 42, 42]⟩] else if s = nm4 then [⟨#[84, 42, 42, 42, 42, 42, 70, 70, 42]⟩] else if s = nm5 then [⟨#[84, 42, 84, 42, 42, 42, 84, 42, 42]⟩] else if s = nm6 then [⟨#[84, 42, 42, 42, 42, 42, 42, 42, 42]⟩, ⟨#[42, 84, 42, 42, 42, 42, 42, 42, 42]⟩, ⟨#[42, 42, 42, 84, 42, 42, 42, 42, 42]⟩, ⟨#[42, 42, 42, 42, 84, 42, 42, 42, 42]⟩] else []
theorem masksL_0 : masksL nm0 = [⟨#[84, 42, 70, 42, 42, 70, 70, 70, 42]⟩] := by decide +kernel
theorem masksL_1 : masksL nm1 = [⟨#[70, 70, 42, 70, 70, 42, 42, 42, 42]⟩] := by decide +kernel
theorem masksL_2 : masksL nm2 = [⟨#[70, 84, 42, 42, 42, 42, 42, 42, 42]⟩, ⟨#[70, 42, 42, 84, 42, 42, 42, 42, 42]⟩, ⟨#[70, 42, 42, 42, 84, 42, 42, 42, 42]⟩] := by decide +kernel
theorem masksL_3 : masksL nm3 = [⟨#[84, 42, 70, 42, 42, 70, 42, 42, 42]⟩] := by decide +kernel
theorem masksL_4 : masksL nm4 = [⟨#[84, 42, 42, 42, 42, 42, 70, 70, 42]⟩] := by decide +kernel
theorem masksL_5 : masksL nm5 = [⟨#[84, 42, 84, 42, 42, 42, 84, 42, 42]⟩] := by decide +kernel
theorem masksL_6 : masksL nm6 = [⟨#[84, 42, 42, 42, 42, 42, 42, 42, 42]⟩, ⟨#[42, 84, 42, 42, 42, 42, 42, 42, 42]⟩, ⟨#[42, 42, 42, 84, 42, 42, 42, 42, 42]⟩, ⟨#[42, 42, 42, 42, 84, 42, 42, 42, 42]⟩] := by decide +kernel
theorem masksL_none {s : ByteArray} (h0 : ¬ s = nm0) (h1 : ¬ s = nm1) (h2 : ¬ s = nm2) (h3 : ¬ s = nm3) (h4 : ¬ s = nm4) (h5 : ¬ s = nm5) (h6 : ¬ s = nm6) : masksL s = [] := by
  unfold masksL
  rw [if_neg h0, if_neg h1, if_neg h2, if_neg h3, if_neg h4, if_neg h5, if_neg h6]
/-- These texts lie behind a slice's address. -/
def StIn (w : World) (ao : Option Addr) (L : List ByteArray) : Prop := ∀ i, (h : i < L.length) → ∃ g off, ao = some ⟨g, off, none⟩ ∧ g < w.heap.size ∧ w.cell? ⟨g, off + i, none⟩ = some (.string L[i])
theorem StIn.step {w w' : World} {ao : Option Addr} {L : List ByteArray} (h : StIn w ao L) (hB : Below w.heap.size w w') : StIn w' ao L := fun i hi => by
  obtain ⟨g, off, e, hg, hc⟩ := h i hi
  exact ⟨g, off, e, Nat.lt_of_lt_of_le hg hB.size, (hB.cell (p := ⟨g, off + i, none⟩) hg).trans hc⟩
theorem StIn.blk {w : World} {g : Nat} {L : List ByteArray} (h : Blk w g (L.map Value.string)) : StIn w (some ⟨g, 0, none⟩) L := fun i hi => ⟨g, 0, rfl, h.lt, by rw [Nat.zero_add]; exact h.c i (by simp [hi])⟩
theorem StIn.set {w : World} {ao : Option Addr} {L : List ByteArray} (h : StIn w ao L) {p : Addr} (hne : ∀ g off, ao = some ⟨g, off, none⟩ → g ≠ p.block) (v : Value) : StIn (w.setCell p v) ao L := fun i hi => by
  obtain ⟨g, off, e, hg, hc⟩ := h i hi
  refine ⟨g, off, e, by simpa [World.setCell] using hg, (World.cell?_of_block (a := ⟨g, off + i, none⟩) (Below.heap_setCell _ _ _ _ (hne g off e))).trans hc⟩
theorem ne_list {s : ByteArray} {l : List UInt8} (h : ¬ s = ⟨l.toArray⟩) : (s.toList == l) = false := by
  rw [Lib.toList_data]
  refine beq_eq_false_iff_ne.2 fun e => h ?_
  cases s
  congr
  exact Array.ext' (by simpa using e)
theorem ne_data {s : ByteArray} {l : List UInt8} (h : ¬ s = ⟨l.toArray⟩) : Lit.string s.data.toList ≠ Lit.string l := fun e => h (by
  have e2 : s.data.toList = l := by injection e
  cases s
  congr
  exact Array.ext' (by simpa using e2))
/-- A row of texts, and that nothing was written. -/
def MaskP (L : List ByteArray) (w : World) (e : Ending) (w' : World) : Prop := ∃ ao cap, e = .returned (.slice ao L.length cap) ∧ StIn w' ao L ∧ Below w.heap.size w w'
set_option maxRecDepth 100000 in
set_option maxHeartbeats 2000000 in
theorem l14Masks_any (s : ByteArray) (w : World) : Calls Try.prog 56 #[.string s] w (MaskP (masksL s) w) := by
  by_cases h0 : s = nm0
  · subst h0
    rw [masksL_0]
    go_enter Try.func56, Try.ntmps56
    unfold nm0
    go_wp2
    go_ret
    exact ⟨_, _, rfl, StIn.blk (L := [⟨#[84, 42, 70, 42, 42, 70, 70, 70, 42]⟩]) (Blk.new w [.string ⟨#[84, 42, 70, 42, 42, 70, 70, 70, 42]⟩] 9 rfl), (Below.refl _ _).alloc (Nat.le_refl _) _⟩
  by_cases h1 : s = nm1
  · subst h1
    rw [masksL_1]
    go_enter Try.func56, Try.ntmps56
    unfold nm1
    go_wp2
    go_ret
    exact ⟨_, _, rfl, StIn.blk (L := [⟨#[70, 70, 42, 70, 70, 42, 42, 42, 42]⟩]) (Blk.new w [.string ⟨#[70, 70, 42, 70, 70, 42, 42, 42, 42]⟩] 9 rfl), (Below.refl _ _).alloc (Nat.le_refl _) _⟩
  by_cases h2 : s = nm2
  · subst h2
    rw [masksL_2]
    go_enter Try.func56, Try.ntmps56
    unfold nm2
    go_wp2
    go_ret
    exact ⟨_, _, rfl, StIn.blk (L := [⟨#[70, 84, 42, 42, 42, 42, 42, 42, 42]⟩, ⟨#[70, 42, 42, 84, 42, 42, 42, 42, 42]⟩, ⟨#[70, 42, 42, 42, 84, 42, 42, 42, 42]⟩]) (Blk.new w [.string ⟨#[70, 84, 42, 42, 42, 42, 42, 42, 42]⟩, .string ⟨#[70, 42, 42, 84, 42, 42, 42, 42, 42]⟩, .string ⟨#[70, 42, 42, 42, 84, 42, 42, 42, 42]⟩] 9 rfl), (Below.refl _ _).alloc (Nat.le_refl _) _⟩
  by_cases h3 : s = nm3
  · subst h3
    rw [masksL_3]
    go_enter Try.func56, Try.ntmps56
    unfold nm3
    go_wp2
    go_ret
    exact ⟨_, _, rfl, StIn.blk (L := [⟨#[84, 42, 70, 42, 42, 70, 42, 42, 42]⟩]) (Blk.new w [.string ⟨#[84, 42, 70, 42, 42, 70, 42, 42, 42]⟩] 9 rfl), (Below.refl _ _).alloc (Nat.le_refl _) _⟩
  by_cases h4 : s = nm4
  · subst h4
    rw [masksL_4]
    go_enter Try.func56, Try.ntmps56
    unfold nm4
    go_wp2
    go_ret
    exact ⟨_, _, rfl, StIn.blk (L := [⟨#[84, 42, 42, 42, 42, 42, 70, 70, 42]⟩]) (Blk.new w [.string ⟨#[84, 42, 42, 42, 42, 42, 70, 70, 42]⟩] 9 rfl), (Below.refl _ _).alloc (Nat.le_refl _) _⟩
  by_cases h5 : s = nm5
  · subst h5
    rw [masksL_5]
    go_enter Try.func56, Try.ntmps56
    unfold nm5
    go_wp2
    go_ret
    exact ⟨_, _, rfl, StIn.blk (L := [⟨#[84, 42, 84, 42, 42, 42, 84, 42, 42]⟩]) (Blk.new w [.string ⟨#[84, 42, 84, 42, 42, 42, 84, 42, 42]⟩] 9 rfl), (Below.refl _ _).alloc (Nat.le_refl _) _⟩
  by_cases h6 : s = nm6
  · subst h6
    rw [masksL_6]
    go_enter Try.func56, Try.ntmps56
    unfold nm6
    go_wp2
    go_ret
    exact ⟨_, _, rfl, StIn.blk (L := [⟨#[84, 42, 42, 42, 42, 42, 42, 42, 42]⟩, ⟨#[42, 84, 42, 42, 42, 42, 42, 42, 42]⟩, ⟨#[42, 42, 42, 84, 42, 42, 42, 42, 42]⟩, ⟨#[42, 42, 42, 42, 84, 42, 42, 42, 42]⟩]) (Blk.new w [.string ⟨#[84, 42, 42, 42, 42, 42, 42, 42, 42]⟩, .string ⟨#[42, 84, 42, 42, 42, 42, 42, 42, 42]⟩, .string ⟨#[42, 42, 42, 84, 42, 42, 42, 42, 42]⟩, .string ⟨#[42, 42, 42, 42, 84, 42, 42, 42, 42]⟩] 9 rfl), (Below.refl _ _).alloc (Nat.le_refl _) _⟩
  rw [masksL_none h0 h1 h2 h3 h4 h5 h6]
  have e0 : (s.toList == [101, 113, 117, 97, 108, 115]) = false := ne_list h0
  have e1 : (s.toList == [100, 105, 115, 106, 111, 105, 110, 116]) = false := ne_list h1
  have e2 : (s.toList == [116, 111, 117, 99, 104, 101, 115]) = false := ne_list h2
  have e3 : (s.toList == [119, 105, 116, 104, 105, 110]) = false := ne_list h3
  have e4 : (s.toList == [99, 111, 110, 116, 97, 105, 110, 115]) = false := ne_list h4
  have e5 : (s.toList == [111, 118, 101, 114, 108, 97, 112, 115]) = false := ne_list h5
  have e6 : (s.toList == [105, 110, 116, 101, 114, 115, 101, 99, 116, 115]) = false := ne_list h6
  clear h0 h1 h2 h3 h4 h5 h6
  go_enter Try.func56, Try.ntmps56
  go_wp2
  go_ret
  exact ⟨_, _, rfl, fun i hi => by simp at hi, Below.refl _ _⟩
end Go.Proofs.Ytlfogfjehdgjmaa
