/- Rows of words in memory, and the two sums with a carry: the words that the walks share. -/
import Derived.Test.YtinilehbhdpdkaaToWB
import Derived.Laws.Externs
import Derived.Shelf.Spec.BitsCarry
namespace Go.Proofs.Ytinilehbhdpdkaa
open Go.RowKit
theorem add64 (x y c : Int) (hx : Word x) (hy : Word y) (hc0 : 0 ≤ c) (hc : c ≤ 1) (w : World) : (callFunc 47 #[.int .u64 x, .int .u64 y, .int .u64 c]).run Try.prog w =
    .ok (.value (.tuple #[.int .u64 ((x + y + c) % 18446744073709551616), .int .u64 ((x + y + c) / 18446744073709551616)])) w := by
  obtain ⟨hx0, hx1⟩ := hx
  obtain ⟨hy0, hy1⟩ := hy
  obtain ⟨x, rfl⟩ := Int.eq_ofNat_of_zero_le hx0
  obtain ⟨y, rfl⟩ := Int.eq_ofNat_of_zero_le hy0
  obtain ⟨c, rfl⟩ := Int.eq_ofNat_of_zero_le hc0
  rw [run_callFunc_extern Try.func47 (by kernel_rfl) (by kernel_rfl) (by kernel_rfl) (e := add64Entry) (by kernel_rfl), run_add64 x y c (by omega) (by omega) (by omega) (by omega)]
  simp only [Result.andThen]
theorem sub64 (x y b : Int) (hx : Word x) (hy : Word y) (hb0 : 0 ≤ b) (hb : b ≤ 1) (w : World) : (callFunc 54 #[.int .u64 x, .int .u64 y, .int .u64 b]).run Try.prog w =
    .ok (.value (.tuple #[.int .u64 ((x - y - b) % 18446744073709551616), .int .u64 (if x < y + b then 1 else 0)])) w := by
  obtain ⟨hx0, hx1⟩ := hx
  obtain ⟨hy0, hy1⟩ := hy
  obtain ⟨x, rfl⟩ := Int.eq_ofNat_of_zero_le hx0
  obtain ⟨y, rfl⟩ := Int.eq_ofNat_of_zero_le hy0
  obtain ⟨b, rfl⟩ := Int.eq_ofNat_of_zero_le hb0
  have e1 : (((x + 18446744073709551616 - y - b) % 18446744073709551616 : Nat) : Int) = ((x : Int) - y - b) % 18446744073709551616 := by omega
  have e2 : ((if x < y + b then 1 else 0 : Nat) : Int) = if (x : Int) < y + b then 1 else 0 := by split <;> split <;> omega
  rw [← e1, ← e2]
  rw [run_callFunc_extern Try.func54 (by kernel_rfl) (by kernel_rfl) (by kernel_rfl) (e := sub64Entry) (by kernel_rfl), run_sub64 x y b (by omega)]
  rfl
/-- The number that words stand for, the lowest first. -/
def val64 : List Int → Int
  | [] => 0
  | d :: t => d + 18446744073709551616 * val64 t
def Words (ds : List Int) : Prop := ∀ d ∈ ds, Word d
def pw64 : Nat → Int
  | 0 => 1
  | n + 1 => 18446744073709551616 * pw64 n
theorem val64_snoc (a : List Int) (d : Int) : val64 (a ++ [d]) = val64 a + pw64 a.length * d := by
  induction a with
  | nil => simp [val64, pw64]
  | cons x t ih => simp only [List.cons_append, val64, List.length_cons, pw64, ih]; grind
theorem words_append {a b : List Int} : Words (a ++ b) ↔ Words a ∧ Words b := by
  constructor
  · intro h; exact ⟨fun x hx => h x (by simp [hx]), fun x hx => h x (by simp [hx])⟩
  · rintro ⟨h1, h2⟩ x hx
    rcases List.mem_append.1 hx with hx | hx
    · exact h1 x hx
    · exact h2 x hx
theorem words_at {a : List Int} (h : Words a) (n : Nat) (hn : n < a.length) : Word a[n] := h _ (List.getElem_mem hn)
theorem val64_take (a : List Int) (k : Nat) (h : k < a.length) : val64 (a.take (k + 1)) = val64 (a.take k) + pw64 k * a[k] := by
  rw [List.take_succ_eq_append_getElem h, val64_snoc]
  simp [Nat.min_eq_left (Nat.le_of_lt h)]
/-- Words that lie in a row of memory and may be written. -/
structure Row (w : World) (A off : Nat) (xs : List Int) : Prop where
  cell : ∀ i, (h : i < xs.length) → w.cell? ⟨A, off + i, none⟩ = some (.int .u64 xs[i])
  frz : ∀ i, i < xs.length → w.frozen? ⟨A, off + i, none⟩ = false
  lt : A < w.heap.size
/-- Behind it no other cell has turned than n cells of one block. -/
structure Wrote (A off n : Nat) (w w' : World) : Prop where
  os : w'.os = w.os
  tape : w'.tape = w.tape
  output : w'.output = w.output
  size : w'.heap.size = w.heap.size
  block : ∀ k, k ≠ A → w'.heap[k]? = w.heap[k]?
  cell : ∀ j, (j < off ∨ off + n ≤ j) → w'.cell? ⟨A, j, none⟩ = w.cell? ⟨A, j, none⟩
  frz : ∀ j, w'.frozen? ⟨A, j, none⟩ = w.frozen? ⟨A, j, none⟩
theorem Wrote.refl (A off n : Nat) (w : World) : Wrote A off n w w := ⟨rfl, rfl, rfl, rfl, fun _ _ => rfl, fun _ _ => rfl, fun _ => rfl⟩
theorem Wrote.drew {A off n : Nat} {w w' : World} (h : Wrote A off n w w') : Wrote A off n w w'.drew := ⟨h.os, h.tape, h.output, h.size, h.block, h.cell, h.frz⟩
theorem Wrote.set {A off n : Nat} {w w' : World} (h : Wrote A off n w w') (j : Nat) (hj : off ≤ j ∧ j < off + n) (u : Value) : Wrote A off n w (w'.setCell ⟨A, j, none⟩ u) := by
  refine ⟨h.os, h.tape, h.output, by simpa [World.setCell] using h.size, fun k hk => ?_, fun i hi => ?_, fun i => ?_⟩
  · rw [Below.heap_setCell _ _ _ _ hk]; exact h.block k hk
  · rw [World.cell?_setCell_other _ _ _ _ (by intro e; simp only [Addr.mk.injEq] at e; omega)]; exact h.cell i hi
  · rw [← h.frz i]; simp [go_sem]
theorem Wrote.cellOther {A off n : Nat} {w w' : World} (h : Wrote A off n w w') {b : Nat} (hb : b ≠ A) (o : Nat) : w'.cell? ⟨b, o, none⟩ = w.cell? ⟨b, o, none⟩ := World.cell?_of_block (w := w) (h.block b hb)
theorem Wrote.frzOther {A off n : Nat} {w w' : World} (h : Wrote A off n w w') {b : Nat} (hb : b ≠ A) (o : Nat) : w'.frozen? ⟨b, o, none⟩ = w.frozen? ⟨b, o, none⟩ := World.frozen?_of_block (w := w) (h.block b hb)
theorem Wrote.below {A off n : Nat} {w w' : World} (h : Wrote A off n w w') {B : Nat} (hB : B ≤ A) : Below B w w' := ⟨h.os, h.tape, h.output, by rw [h.size]; exact Nat.le_refl _, fun k hk => h.block k (by omega)⟩
end Go.Proofs.Ytinilehbhdpdkaa
