/- Part 5 of the walks that the proof leans on. -/
import Derived.Test.YtllfpnnngdphfaaBase3
import Derived.Deep.QuietTactic
import Derived.BigQuiet
import Derived.Test.YtllfpnnngdphfaaBase4
import Derived.Test.YtllfpnnngdphfaaBase1
/- The walk of the program's comparison of four words. -/
namespace Go.Proofs.Ytllfpnnngdphfaa
open Go.RowKit
theorem Wd.new2 (W : World) (o : Obj) (a3 a2 a1 a0 : Int) (T : TypeId) : Wd ((W.alloc o).alloc (Obj.cells #[Value.int IntKind.u64 a3, Value.int IntKind.u64 a2, Value.int IntKind.u64 a1, Value.int IntKind.u64 a0] T)) (W.heap.size + 1) a3 a2 a1 a0 := Wd.new _ _ _ _ _ _ (by simp)
def CutC (w wx : World) (a3 a2 a1 a0 b3 b2 b1 b0 : Int) (p q : Value) : Prop :=
  ∃ g g', p = .pointer (some ⟨g, 0, none⟩) ∧ q = .pointer (some ⟨g', 0, none⟩) ∧ g ≠ g' ∧ w.heap.size ≤ g ∧ w.heap.size ≤ g' ∧ Wd wx g a0 a1 a2 a3 ∧ Wd wx g' b0 b1 b2 b3 ∧ Below w.heap.size w wx
theorem cutC_nn {w X : World} {a3 a2 a1 a0 b3 b2 b1 b0 : Int} {T T' : TypeId} (h : TwoW w X a3 a2 a1 a0 b3 b2 b1 b0) : CutC w ((X.alloc (Obj.cells #[Value.int IntKind.u64 a0, Value.int IntKind.u64 a1, Value.int IntKind.u64 a2, Value.int IntKind.u64 a3] T)).alloc (Obj.cells #[Value.int IntKind.u64 b0, Value.int IntKind.u64 b1, Value.int IntKind.u64 b2, Value.int IntKind.u64 b3] T')) a3 a2 a1 a0 b3 b2 b1 b0 (.pointer (some ⟨X.heap.size, 0, none⟩)) (.pointer (some ⟨X.heap.size + 1, 0, none⟩)) :=
  ⟨_, _, rfl, rfl, by omega, by have := h.b.lt; omega, by have := h.b.lt; omega, (Wd.new _ _ _ _ _ _ rfl).alloc _, Wd.new2 _ _ _ _ _ _ _, ((h.alloc _).alloc _).below⟩
theorem cutC_nn' {w X : World} {a3 a2 a1 a0 b3 b2 b1 b0 : Int} {T T' : TypeId} (h : TwoW w X a3 a2 a1 a0 b3 b2 b1 b0) : CutC w ((X.alloc (Obj.cells #[Value.int IntKind.u64 b0, Value.int IntKind.u64 b1, Value.int IntKind.u64 b2, Value.int IntKind.u64 b3] T)).alloc (Obj.cells #[Value.int IntKind.u64 a0, Value.int IntKind.u64 a1, Value.int IntKind.u64 a2, Value.int IntKind.u64 a3] T')) a3 a2 a1 a0 b3 b2 b1 b0 (.pointer (some ⟨X.heap.size + 1, 0, none⟩)) (.pointer (some ⟨X.heap.size, 0, none⟩)) :=
  ⟨_, _, rfl, rfl, by omega, by have := h.b.lt; omega, by have := h.b.lt; omega, Wd.new2 _ _ _ _ _ _ _, (Wd.new _ _ _ _ _ _ rfl).alloc _, ((h.alloc _).alloc _).below⟩
theorem cutC_sn {w X : World} {a3 a2 a1 a0 b3 b2 b1 b0 y3 y2 y1 y0 : Int} {T : TypeId} {g : Nat} (h : TwoW w X a3 a2 a1 a0 b3 b2 b1 b0) (G : Wd X g y3 y2 y1 y0) (hg : w.heap.size + 1 < g) : CutC w (((((X.setCell ⟨g, 0, none⟩ (.int .u64 a0)).setCell ⟨g, 1, none⟩ (.int .u64 a1)).setCell ⟨g, 2, none⟩ (.int .u64 a2)).setCell ⟨g, 3, none⟩ (.int .u64 a3)).alloc (Obj.cells #[Value.int IntKind.u64 b0, Value.int IntKind.u64 b1, Value.int IntKind.u64 b2, Value.int IntKind.u64 b3] T)) a3 a2 a1 a0 b3 b2 b1 b0 (.pointer (some ⟨g, 0, none⟩)) (.pointer (some ⟨X.heap.size, 0, none⟩)) :=
  ⟨_, _, rfl, rfl, by have := G.lt; omega, by omega, by have := h.b.lt; omega, (G.stored _ _ _ _).alloc _, Wd.new _ _ _ _ _ _ (by simp), ((h.set hg _ _ _ _).alloc _).below⟩
theorem cutC_sn' {w X : World} {a3 a2 a1 a0 b3 b2 b1 b0 y3 y2 y1 y0 : Int} {T : TypeId} {g : Nat} (h : TwoW w X a3 a2 a1 a0 b3 b2 b1 b0) (G : Wd X g y3 y2 y1 y0) (hg : w.heap.size + 1 < g) : CutC w (((((X.setCell ⟨g, 0, none⟩ (.int .u64 b0)).setCell ⟨g, 1, none⟩ (.int .u64 b1)).setCell ⟨g, 2, none⟩ (.int .u64 b2)).setCell ⟨g, 3, none⟩ (.int .u64 b3)).alloc (Obj.cells #[Value.int IntKind.u64 a0, Value.int IntKind.u64 a1, Value.int IntKind.u64 a2, Value.int IntKind.u64 a3] T)) a3 a2 a1 a0 b3 b2 b1 b0 (.pointer (some ⟨X.heap.size, 0, none⟩)) (.pointer (some ⟨g, 0, none⟩)) :=
  ⟨_, _, rfl, rfl, by have := G.lt; omega, by have := h.b.lt; omega, by omega, Wd.new _ _ _ _ _ _ (by simp), (G.stored _ _ _ _).alloc _, ((h.set hg _ _ _ _).alloc _).below⟩
theorem cutC_ss {w X : World} {a3 a2 a1 a0 b3 b2 b1 b0 y3 y2 y1 y0 z3 z2 z1 z0 : Int} {g g' : Nat} (h : TwoW w X a3 a2 a1 a0 b3 b2 b1 b0) (G : Wd X g y3 y2 y1 y0) (G' : Wd X g' z3 z2 z1 z0) (hg : w.heap.size + 1 < g) (hg' : w.heap.size + 1 < g') (hne : g ≠ g') : CutC w ((((((((X.setCell ⟨g, 0, none⟩ (.int .u64 a0)).setCell ⟨g, 1, none⟩ (.int .u64 a1)).setCell ⟨g, 2, none⟩ (.int .u64 a2)).setCell ⟨g, 3, none⟩ (.int .u64 a3)).setCell ⟨g', 0, none⟩ (.int .u64 b0)).setCell ⟨g', 1, none⟩ (.int .u64 b1)).setCell ⟨g', 2, none⟩ (.int .u64 b2)).setCell ⟨g', 3, none⟩ (.int .u64 b3)) a3 a2 a1 a0 b3 b2 b1 b0 (.pointer (some ⟨g, 0, none⟩)) (.pointer (some ⟨g', 0, none⟩)) :=
  ⟨_, _, rfl, rfl, hne, by omega, by omega, (G.stored _ _ _ _).set hne _ _ _ _, (G'.set (fun e => hne e.symm) _ _ _ _).stored _ _ _ _, ((h.set hg _ _ _ _).set hg' _ _ _ _).below⟩
/-- Two rows of words that are only read. -/
structure RowC (w wr : World) (g g' : Nat) (xs ys : List Int) : Prop where
  x : Row wr g 0 xs
  y : Row wr g' 0 ys
  below : Below w.heap.size w wr
theorem rowC_drew {w wr : World} {g g' : Nat} {xs ys : List Int} (h : RowC w wr g g' xs ys) (n : Nat) : RowC w (wr.drewN n) g g' xs ys := ⟨⟨h.x.cell, h.x.frz, h.x.lt⟩, ⟨h.y.cell, h.y.frz, h.y.lt⟩, bdrew h.below n⟩
theorem rowC_start {w wc : World} {g g' : Nat} {a0 a1 a2 a3 b0 b1 b2 b3 x3 y3 : Int} (X : Wd wc g a0 a1 a2 a3) (Y : Wd wc g' b0 b1 b2 b3) (hne : g ≠ g') (hg : w.heap.size ≤ g) (hg' : w.heap.size ≤ g') (HB : Below w.heap.size w wc) :
    RowC w ((wc.setCell ⟨g, 3, none⟩ (.int .u64 x3)).setCell ⟨g', 3, none⟩ (.int .u64 y3)) g g' [a0, a1, a2, x3] [b0, b1, b2, y3] := by
  have x0c := X.c0; have x1c := X.c1; have x2c := X.c2; have x3c := X.c3; have x0f := X.f0; have x1f := X.f1; have x2f := X.f2; have x3f := X.f3
  have y0c := Y.c0; have y1c := Y.c1; have y2c := Y.c2; have y3c := Y.c3; have y0f := Y.f0; have y1f := Y.f1; have y2f := Y.f2; have y3f := Y.f3
  have hn : ∀ i j, (⟨g', i, none⟩ : Addr) ≠ ⟨g, j, none⟩ := by intro i j e; simp only [Addr.mk.injEq] at e; exact hne e.1.symm
  have hn' : ∀ i j, (⟨g, i, none⟩ : Addr) ≠ ⟨g', j, none⟩ := by intro i j e; simp only [Addr.mk.injEq] at e; exact hne e.1
  have ho : ∀ c i j, i ≠ j → (⟨c, i, none⟩ : Addr) ≠ ⟨c, j, none⟩ := by intro c i j h e; simp only [Addr.mk.injEq] at e; exact h e.2.1
  have y3s : (wc.setCell ⟨g, 3, none⟩ (.int .u64 x3)).cell? ⟨g', 3, none⟩ = some (.int .u64 b3) := (World.cell?_setCell_other _ _ _ _ (hn' 3 3)).trans y3c
  refine ⟨row_of4 (by simpa [World.setCell] using X.lt) ?_ ?_ ?_ ?_ (by simp [go_sem, x0f]) (by simp [go_sem, x1f]) (by simp [go_sem, x2f]) (by simp [go_sem, x3f]), row_of4 (by simpa [World.setCell] using Y.lt) ?_ ?_ ?_ ?_ (by simp [go_sem, y0f]) (by simp [go_sem, y1f]) (by simp [go_sem, y2f]) (by simp [go_sem, y3f]), (HB.setCell hg _).setCell hg' _⟩
  · exact (World.cell?_setCell_other _ _ _ _ (hn 3 0)).trans ((World.cell?_setCell_other _ _ _ _ (ho g 3 0 (by decide))).trans x0c)
  · exact (World.cell?_setCell_other _ _ _ _ (hn 3 1)).trans ((World.cell?_setCell_other _ _ _ _ (ho g 3 1 (by decide))).trans x1c)
  · exact (World.cell?_setCell_other _ _ _ _ (hn 3 2)).trans ((World.cell?_setCell_other _ _ _ _ (ho g 3 2 (by decide))).trans x2c)
  · exact (World.cell?_setCell_other _ _ _ _ (hn 3 3)).trans (World.cell?_setCell_same _ _ _ x3c)
  · exact (World.cell?_setCell_other _ _ _ _ (ho g' 3 0 (by decide))).trans ((World.cell?_setCell_other _ _ _ _ (hn' 3 0)).trans y0c)
  · exact (World.cell?_setCell_other _ _ _ _ (ho g' 3 1 (by decide))).trans ((World.cell?_setCell_other _ _ _ _ (hn' 3 1)).trans y1c)
  · exact (World.cell?_setCell_other _ _ _ _ (ho g' 3 2 (by decide))).trans ((World.cell?_setCell_other _ _ _ _ (hn' 3 2)).trans y2c)
  · exact World.cell?_setCell_same _ _ _ y3s
theorem xorTop (a : Nat) (h : a < 2 ^ 63) : a ^^^ 2 ^ 63 = 2 ^ 63 + a := by
  apply Nat.eq_of_testBit_eq
  intro i
  rw [Nat.testBit_xor, Nat.testBit_two_pow]
  rcases Nat.lt_trichotomy i 63 with h1 | h1 | h1
  · rw [Nat.testBit_two_pow_add_gt h1]
    have : decide (63 = i) = false := by rw [decide_eq_false_iff_not]; omega
    rw [this]; simp
  · subst h1; rw [Nat.testBit_two_pow_add_eq]; simp
  · have e1 : a.testBit i = false := Nat.testBit_lt_two_pow (Nat.lt_of_lt_of_le h (Nat.pow_le_pow_right (by decide) (by omega)))
    have e2 : (2 ^ 63 + a).testBit i = false := Nat.testBit_lt_two_pow (by
      have : 2 ^ 64 ≤ 2 ^ i := Nat.pow_le_pow_right (by decide) (by omega)
      omega)
    rw [e1, e2]; simp; omega
theorem xorTop2 (a : Nat) (h' : 2 ^ 63 ≤ a) (h : a < 2 ^ 64) : a ^^^ 2 ^ 63 = a - 2 ^ 63 := by
  obtain ⟨b, rfl⟩ : ∃ b, a = 2 ^ 63 + b := ⟨a - 2 ^ 63, by omega⟩
  rw [Nat.add_sub_cancel_left, ← xorTop b (by omega), Nat.xor_assoc, Nat.xor_self, Nat.xor_zero]
theorem top_sw {a3 a2 a1 a0 x3 : Int} (h3 : Word a3) (_h2 : Word a2) (_h1 : Word a1) (_h0 : Word a0) (hx : bits .xor .u64 a3 9223372036854775808 = x3) : Word x3 ∧ uw x3 a2 a1 a0 = sw a3 a2 a1 a0 + 57896044618658097711785492504343953926634992332820282019728792003956564819968 := by
  have h3' := h3
  obtain ⟨l3, u3⟩ := h3'
  obtain ⟨a, rfl⟩ := Int.eq_ofNat_of_zero_le l3
  have e := bits_xor_u64_nat a (2 ^ 63) (by omega) (by decide)
  rw [show ((2 ^ 63 : Nat) : Int) = 9223372036854775808 by decide] at e
  rw [e] at hx
  by_cases hp : a < 2 ^ 63
  · rw [xorTop a hp] at hx
    subst hx
    unfold Word sw uw at *
    rw [if_pos (by omega)]
    omega
  · rw [xorTop2 a (by omega) (by omega)] at hx
    subst hx
    unfold Word sw uw at *
    rw [if_neg (by omega)]
    omega
theorem pw64_pos (n : Nat) : 0 < pw64 n := by
  induction n with
  | zero => simp [pw64]
  | succ n ih => simp only [pw64]; omega
theorem val64_lt {a : List Int} (h : Words a) : 0 ≤ val64 a ∧ val64 a < pw64 a.length := by
  induction a with
  | nil => simp [val64, pw64]
  | cons d t ih =>
    have h1 := h d (by simp)
    have h2 := ih (fun x hx => h x (by simp [hx]))
    unfold Word at h1
    simp only [val64, List.length_cons, pw64]; omega
theorem val64_append (a b : List Int) : val64 (a ++ b) = val64 a + pw64 a.length * val64 b := by
  induction a with
  | nil => simp [val64, pw64]
  | cons d t ih => simp only [List.cons_append, val64, List.length_cons, pw64, ih]; grind
theorem val64_split (a : List Int) (k : Nat) (h : k < a.length) : val64 a = val64 (a.take k) + pw64 k * (a[k] + 18446744073709551616 * val64 (a.drop (k + 1))) := by
  have h1 := val64_append (a.take k) (a.drop k)
  rw [List.take_append_drop, List.drop_eq_getElem_cons h] at h1
  simpa [val64, Nat.min_eq_left (Nat.le_of_lt h)] using h1
theorem val64_above {a b : List Int} (ha : Words a) (hb : Words b) (k : Nat) (h1 : k < a.length) (h2 : k < b.length) (he : a.drop (k + 1) = b.drop (k + 1)) (hlt : a[k] < b[k]) : val64 a < val64 b := by
  rw [val64_split a k h1, val64_split b k h2, he]
  have e1 := val64_lt (a := a.take k) (fun x hx => ha x (List.mem_of_mem_take hx))
  have e2 := val64_lt (a := b.take k) (fun x hx => hb x (List.mem_of_mem_take hx))
  have e3 : (a.take k).length = k := by simp; omega
  rw [e3] at e1
  have e4 := pw64_pos k
  generalize pw64 k = p at *
  generalize 18446744073709551616 * val64 (List.drop (k + 1) b) = r
  have e5 : p * (a[k] + r) + p ≤ p * (b[k] + r) := by
    have : p * (a[k] + r + 1) ≤ p * (b[k] + r) := Int.mul_le_mul_of_nonneg_left (by omega) (by omega)
    rw [Int.mul_add p (a[k] + r) 1] at this
    omega
  omega
set_option maxRecDepth 100000 in
set_option maxHeartbeats 4000000 in
theorem implCmp_any (a3 a2 a1 a0 b3 b2 b1 b0 : Int) (h3 : Word a3) (h2 : Word a2) (h1 : Word a1) (h0 : Word a0) (k3 : Word b3) (k2 : Word b2) (k1 : Word b1) (k0 : Word b0) (w : World) :
    Calls Try.prog 18 #[.agg #[.int .u64 a3, .int .u64 a2, .int .u64 a1, .int .u64 a0], .agg #[.int .u64 b3, .int .u64 b2, .int .u64 b1, .int .u64 b0]] w (IntP (cmpI (sw a3 a2 a1 a0) (sw b3 b2 b1 b0)) w) := by
  have T0 := twoW_start w a3 a2 a1 a0 b3 b2 b1 b0 26
  have tok1 : True := trivial
  go_enter Try.func18, Try.ntmps18
  go_upto_region 1 with fail
  generalize (w.alloc (Obj.cells #[Value.int IntKind.u64 a3, Value.int IntKind.u64 a2, Value.int IntKind.u64 a1, Value.int IntKind.u64 a0] 26)).alloc (Obj.cells #[Value.int IntKind.u64 b3, Value.int IntKind.u64 b2, Value.int IntKind.u64 b1, Value.int IntKind.u64 b0] 26) = W at *
  go_cut [5, 6] (fun p q wx => CutC w wx a3 a2 a1 a0 b3 b2 b1 b0 p q)
  case first =>
    go_region_held3 (fun w' => w'.cell? ⟨w.heap.size, 0, none⟩ = some (.int .u64 a3) ∧ w'.cell? ⟨w.heap.size, 1, none⟩ = some (.int .u64 a2) ∧ w'.cell? ⟨w.heap.size, 2, none⟩ = some (.int .u64 a1) ∧ w'.cell? ⟨w.heap.size, 3, none⟩ = some (.int .u64 a0) ∧ w'.cell? ⟨w.heap.size + 1, 0, none⟩ = some (.int .u64 b3) ∧ w'.cell? ⟨w.heap.size + 1, 1, none⟩ = some (.int .u64 b2) ∧ w'.cell? ⟨w.heap.size + 1, 2, none⟩ = some (.int .u64 b1) ∧ w'.cell? ⟨w.heap.size + 1, 3, none⟩ = some (.int .u64 b0)) (first | (with_reducible exact cells8x T0) | (with_reducible exact cells8x T0.drew) | (with_reducible exact cells8x (T0.alloc _)) | (with_reducible exact cells8x (T0.alloc _).drew) | (with_reducible exact cells8x ((T0.alloc _).alloc _)) | (with_reducible exact cells8x ((T0.alloc _).alloc _).drew) | (with_reducible exact cells8x (T0.set (by omega) _ _ _ _)) | (with_reducible exact cells8x ((T0.set (by omega) _ _ _ _).alloc _)) | (with_reducible exact cells8x ((T0.set (by omega) _ _ _ _).set (by omega) _ _ _ _)) | (exact cells8x T0.drew) | skip)
      (first
        | (go_at_call 25; have _t := tok1; refine (wordsOf_any a3 a2 a1 a0 _).mono ?_; rintro e w1 ⟨rfl, hB⟩; (first | (have T1 : TwoW w w1 a3 a2 a1 a0 b3 b2 b1 b0 := (by with_reducible exact T0.step hB); have hltw1 := T0.b.lt; try (replace G0 := G0.step hB; have z0c := G0.c0; have z1c := G0.c1; have z2c := G0.c2; have z3c := G0.c3; have z0f := G0.f0; have z1f := G0.f1; have z2f := G0.f2; have z3f := G0.f3; have zlt := G0.lt); try (replace G1 := G1.step hB; have y0c := G1.c0; have y1c := G1.c1; have y2c := G1.c2; have y3c := G1.c3; have y0f := G1.f0; have y1f := G1.f1; have y2f := G1.f2; have y3f := G1.f3; have ylt := G1.lt)) | (have T1 : TwoW w w1 a3 a2 a1 a0 b3 b2 b1 b0 := (by with_reducible exact T0.drew.step hB); have hltw1 := T0.b.lt; try (replace G0 := G0.drew.step hB; have z0c := G0.c0; have z1c := G0.c1; have z2c := G0.c2; have z3c := G0.c3; have z0f := G0.f0; have z1f := G0.f1; have z2f := G0.f2; have z3f := G0.f3; have zlt := G0.lt); try (replace G1 := G1.drew.step hB; have y0c := G1.c0; have y1c := G1.c1; have y2c := G1.c2; have y3c := G1.c3; have y0f := G1.f0; have y1f := G1.f1; have y2f := G1.f2; have y3f := G1.f3; have ylt := G1.lt)) | (have T1 : TwoW w w1 a3 a2 a1 a0 b3 b2 b1 b0 := (by with_reducible exact (T0.alloc _).step hB); have hltw1 := T0.b.lt; (first | (have G1 := (Wd.new _ 0 0 0 0 _ rfl).step hB; have hgg := G0.lt; replace G0 := (G0.alloc _).step hB; have z0c := G0.c0; have z1c := G0.c1; have z2c := G0.c2; have z3c := G0.c3; have z0f := G0.f0; have z1f := G0.f1; have z2f := G0.f2; have z3f := G0.f3; have zlt := G0.lt; have y0c := G1.c0; have y1c := G1.c1; have y2c := G1.c2; have y3c := G1.c3; have y0f := G1.f0; have y1f := G1.f1; have y2f := G1.f2; have y3f := G1.f3; have ylt := G1.lt) | (have G0 := (Wd.new _ 0 0 0 0 _ rfl).step hB; have z0c := G0.c0; have z1c := G0.c1; have z2c := G0.c2; have z3c := G0.c3; have z0f := G0.f0; have z1f := G0.f1; have z2f := G0.f2; have z3f := G0.f3; have zlt := G0.lt))) | (have T1 : TwoW w w1 a3 a2 a1 a0 b3 b2 b1 b0 := (by with_reducible exact (T0.alloc _).drew.step hB); have hltw1 := T0.b.lt; (first | (have G1 := (Wd.new _ 0 0 0 0 _ rfl).drew.step hB; have hgg := G0.lt; replace G0 := (G0.alloc _).drew.step hB; have z0c := G0.c0; have z1c := G0.c1; have z2c := G0.c2; have z3c := G0.c3; have z0f := G0.f0; have z1f := G0.f1; have z2f := G0.f2; have z3f := G0.f3; have zlt := G0.lt; have y0c := G1.c0; have y1c := G1.c1; have y2c := G1.c2; have y3c := G1.c3; have y0f := G1.f0; have y1f := G1.f1; have y2f := G1.f2; have y3f := G1.f3; have ylt := G1.lt) | (have G0 := (Wd.new _ 0 0 0 0 _ rfl).drew.step hB; have z0c := G0.c0; have z1c := G0.c1; have z2c := G0.c2; have z3c := G0.c3; have z0f := G0.f0; have z1f := G0.f1; have z2f := G0.f2; have z3f := G0.f3; have zlt := G0.lt))) | (have T1 : TwoW w w1 a3 a2 a1 a0 b3 b2 b1 b0 := (by with_reducible exact ((T0.alloc _).alloc _).step hB); have hltw1 := T0.b.lt; have G0 := ((Wd.new _ 0 0 0 0 _ rfl).alloc _).step hB; have G1 := (Wd.new2 _ _ 0 0 0 0 _).step hB; have z0c := G0.c0; have z1c := G0.c1; have z2c := G0.c2; have z3c := G0.c3; have z0f := G0.f0; have z1f := G0.f1; have z2f := G0.f2; have z3f := G0.f3; have zlt := G0.lt; have y0c := G1.c0; have y1c := G1.c1; have y2c := G1.c2; have y3c := G1.c3; have y0f := G1.f0; have y1f := G1.f1; have y2f := G1.f2; have y3f := G1.f3; have ylt := G1.lt) | (have T1 : TwoW w w1 a3 a2 a1 a0 b3 b2 b1 b0 := (by with_reducible exact ((T0.alloc _).alloc _).drew.step hB); have hltw1 := T0.b.lt; have G0 := ((Wd.new _ 0 0 0 0 _ rfl).alloc _).drew.step hB; have G1 := (Wd.new2 _ _ 0 0 0 0 _).drew.step hB; have z0c := G0.c0; have z1c := G0.c1; have z2c := G0.c2; have z3c := G0.c3; have z0f := G0.f0; have z1f := G0.f1; have z2f := G0.f2; have z3f := G0.f3; have zlt := G0.lt; have y0c := G1.c0; have y1c := G1.c1; have y2c := G1.c2; have y3c := G1.c3; have y0f := G1.f0; have y1f := G1.f1; have y2f := G1.f2; have y3f := G1.f3; have ylt := G1.lt)); clear T0; have T0 := T1; clear T1; clear tok1 _t hB)
        | (go_at_call 25; refine (wordsOf_any b3 b2 b1 b0 _).mono ?_; rintro e w2 ⟨rfl, hB⟩; (first | (have T1 : TwoW w w2 a3 a2 a1 a0 b3 b2 b1 b0 := (by with_reducible exact T0.step hB); have hltw2 := T0.b.lt; try (replace G0 := G0.step hB; have z0c := G0.c0; have z1c := G0.c1; have z2c := G0.c2; have z3c := G0.c3; have z0f := G0.f0; have z1f := G0.f1; have z2f := G0.f2; have z3f := G0.f3; have zlt := G0.lt); try (replace G1 := G1.step hB; have y0c := G1.c0; have y1c := G1.c1; have y2c := G1.c2; have y3c := G1.c3; have y0f := G1.f0; have y1f := G1.f1; have y2f := G1.f2; have y3f := G1.f3; have ylt := G1.lt)) | (have T1 : TwoW w w2 a3 a2 a1 a0 b3 b2 b1 b0 := (by with_reducible exact T0.drew.step hB); have hltw2 := T0.b.lt; try (replace G0 := G0.drew.step hB; have z0c := G0.c0; have z1c := G0.c1; have z2c := G0.c2; have z3c := G0.c3; have z0f := G0.f0; have z1f := G0.f1; have z2f := G0.f2; have z3f := G0.f3; have zlt := G0.lt); try (replace G1 := G1.drew.step hB; have y0c := G1.c0; have y1c := G1.c1; have y2c := G1.c2; have y3c := G1.c3; have y0f := G1.f0; have y1f := G1.f1; have y2f := G1.f2; have y3f := G1.f3; have ylt := G1.lt)) | (have T1 : TwoW w w2 a3 a2 a1 a0 b3 b2 b1 b0 := (by with_reducible exact (T0.alloc _).step hB); have hltw2 := T0.b.lt; (first | (have G1 := (Wd.new _ 0 0 0 0 _ rfl).step hB; have hgg := G0.lt; replace G0 := (G0.alloc _).step hB; have z0c := G0.c0; have z1c := G0.c1; have z2c := G0.c2; have z3c := G0.c3; have z0f := G0.f0; have z1f := G0.f1; have z2f := G0.f2; have z3f := G0.f3; have zlt := G0.lt; have y0c := G1.c0; have y1c := G1.c1; have y2c := G1.c2; have y3c := G1.c3; have y0f := G1.f0; have y1f := G1.f1; have y2f := G1.f2; have y3f := G1.f3; have ylt := G1.lt) | (have G0 := (Wd.new _ 0 0 0 0 _ rfl).step hB; have z0c := G0.c0; have z1c := G0.c1; have z2c := G0.c2; have z3c := G0.c3; have z0f := G0.f0; have z1f := G0.f1; have z2f := G0.f2; have z3f := G0.f3; have zlt := G0.lt))) | (have T1 : TwoW w w2 a3 a2 a1 a0 b3 b2 b1 b0 := (by with_reducible exact (T0.alloc _).drew.step hB); have hltw2 := T0.b.lt; (first | (have G1 := (Wd.new _ 0 0 0 0 _ rfl).drew.step hB; have hgg := G0.lt; replace G0 := (G0.alloc _).drew.step hB; have z0c := G0.c0; have z1c := G0.c1; have z2c := G0.c2; have z3c := G0.c3; have z0f := G0.f0; have z1f := G0.f1; have z2f := G0.f2; have z3f := G0.f3; have zlt := G0.lt; have y0c := G1.c0; have y1c := G1.c1; have y2c := G1.c2; have y3c := G1.c3; have y0f := G1.f0; have y1f := G1.f1; have y2f := G1.f2; have y3f := G1.f3; have ylt := G1.lt) | (have G0 := (Wd.new _ 0 0 0 0 _ rfl).drew.step hB; have z0c := G0.c0; have z1c := G0.c1; have z2c := G0.c2; have z3c := G0.c3; have z0f := G0.f0; have z1f := G0.f1; have z2f := G0.f2; have z3f := G0.f3; have zlt := G0.lt))) | (have T1 : TwoW w w2 a3 a2 a1 a0 b3 b2 b1 b0 := (by with_reducible exact ((T0.alloc _).alloc _).step hB); have hltw2 := T0.b.lt; have G0 := ((Wd.new _ 0 0 0 0 _ rfl).alloc _).step hB; have G1 := (Wd.new2 _ _ 0 0 0 0 _).step hB; have z0c := G0.c0; have z1c := G0.c1; have z2c := G0.c2; have z3c := G0.c3; have z0f := G0.f0; have z1f := G0.f1; have z2f := G0.f2; have z3f := G0.f3; have zlt := G0.lt; have y0c := G1.c0; have y1c := G1.c1; have y2c := G1.c2; have y3c := G1.c3; have y0f := G1.f0; have y1f := G1.f1; have y2f := G1.f2; have y3f := G1.f3; have ylt := G1.lt) | (have T1 : TwoW w w2 a3 a2 a1 a0 b3 b2 b1 b0 := (by with_reducible exact ((T0.alloc _).alloc _).drew.step hB); have hltw2 := T0.b.lt; have G0 := ((Wd.new _ 0 0 0 0 _ rfl).alloc _).drew.step hB; have G1 := (Wd.new2 _ _ 0 0 0 0 _).drew.step hB; have z0c := G0.c0; have z1c := G0.c1; have z2c := G0.c2; have z3c := G0.c3; have z0f := G0.f0; have z1f := G0.f1; have z2f := G0.f2; have z3f := G0.f3; have zlt := G0.lt; have y0c := G1.c0; have y1c := G1.c1; have y2c := G1.c2; have y3c := G1.c3; have y0f := G1.f0; have y1f := G1.f1; have y2f := G1.f2; have y3f := G1.f3; have ylt := G1.lt)); clear T0; have T0 := T1; clear T1; clear hB))
    all_goals go_wp2_with fail
    all_goals go_meet
    all_goals first | (with_reducible exact cutC_nn T0) | (with_reducible exact cutC_nn' T0) | (with_reducible exact cutC_sn T0 G0 (by omega)) | (with_reducible exact cutC_sn' T0 G0 (by omega)) | (with_reducible exact cutC_ss T0 G0 G1 (by omega) (by omega) (by omega)) | (with_reducible exact cutC_ss T0 G1 G0 (by omega) (by omega) (by omega))
  case rest =>
    clear T0 tok1
    obtain ⟨g, g', hp, hq, hne, hg, hg', X, Y, HB0⟩ := hcut
    subst hp; subst hq
    obtain ⟨x3, hx⟩ : ∃ x, bits .xor .u64 a3 9223372036854775808 = x := ⟨_, rfl⟩
    obtain ⟨y3, hy⟩ : ∃ y, bits .xor .u64 b3 9223372036854775808 = y := ⟨_, rfl⟩
    obtain ⟨wx3, ex⟩ := top_sw h3 h2 h1 h0 hx
    obtain ⟨wy3, ey⟩ := top_sw k3 k2 k1 k0 hy
    have HS : RowC w ((wc.setCell ⟨g, 3, none⟩ (.int .u64 x3)).setCell ⟨g', 3, none⟩ (.int .u64 y3)) g g' [a0, a1, a2, x3] [b0, b1, b2, y3] := rowC_start X Y hne hg hg' HB0
    have HX : Hid (Words [a0, a1, a2, x3]) := words4 h0 h1 h2 wx3
    have HY : Hid (Words [b0, b1, b2, y3]) := words4 k0 k1 k2 wy3
    have HE : Hid (cmpI (val64 [a0, a1, a2, x3]) (val64 [b0, b1, b2, y3]) = cmpI (sw a3 a2 a1 a0) (sw b3 b2 b1 b0)) := by show _ = _; rw [val64_4, val64_4, ex, ey]; unfold cmpI; by_cases p : sw a3 a2 a1 a0 < sw b3 b2 b1 b0 <;> by_cases q : sw b3 b2 b1 b0 < sw a3 a2 a1 a0 <;> simp [p, q]
    have x0c := X.c0; have x1c := X.c1; have x2c := X.c2; have x3c := X.c3; have x0f := X.f0; have x1f := X.f1; have x2f := X.f2; have x3f := X.f3
    have y0c := Y.c0; have y1c := Y.c1; have y2c := Y.c2; have y3c := Y.c3; have y0f := Y.f0; have y1f := Y.f1; have y2f := Y.f2; have y3f := Y.f3
    clear ex ey X Y HB0
    go_wp2
    clear x0c x1c x2c x3c x0f x1f x2f x3f y0c y1c y2c y3c y0f y1f y2f y3f hx hy
    generalize hxs : [a0, a1, a2, x3] = xs at *
    generalize hys : [b0, b1, b2, y3] = ys at *
    have hlx : xs.length = 4 := by rw [← hxs]; rfl
    have hly : ys.length = 4 := by rw [← hys]; rfl
    have HLX : Hid (xs.length = 4) := hlx
    have HLY : Hid (ys.length = 4) := hly
    clear hxs hys hlx hly wx3 wy3
    go_loopw [7] (fun i wr => ∃ k : Nat, k ≤ 4 ∧ i = .int .i64 ((k : Int) - 1) ∧ xs.drop k = ys.drop k ∧ RowC w wr g g' xs ys) (fun i _ => (intOf i + 1).toNat)
    case atStart => exact ⟨4, Nat.le_refl _, rfl, by rw [List.drop_of_length_le (by have := HLX.out; omega), List.drop_of_length_le (by have := HLY.out; omega)], HS⟩
    case round =>
      obtain ⟨k, hk, rfl, hz, hR⟩ := hrel
      have HZ : Hid (xs.drop k = ys.drop k) := hz
      clear hz HS
      by_cases hk0 : 0 < k
      · obtain ⟨m, rfl⟩ : ∃ m, k = m + 1 := ⟨k - 1, by omega⟩
        have hmx : m < xs.length := by have := HLX.out; omega
        have hmy : m < ys.length := by have := HLY.out; omega
        have hcx : wr.cell? ⟨g, m, none⟩ = some (.int .u64 xs[m]) := by simpa using hR.x.cell m hmx
        have hcy : wr.cell? ⟨g', m, none⟩ = some (.int .u64 ys[m]) := by simpa using hR.y.cell m hmy
        rw [show (((m + 1 : Nat) : Int) - 1) = (m : Int) by omega]
        have hm4 : (m : Int) < 4 := by omega
        rcases Int.lt_trichotomy xs[m] ys[m] with hlt | heq | hgt
        · go_wp2
          go_quiet (fail)
          go_wp2
          go_ret
          exact ⟨ret_int (HE.out.symm.trans (cmpI_lt (val64_above HX.out HY.out m hmx hmy HZ.out hlt))), bdrew hR.below _⟩
        · have h1 : ¬ xs[m] < ys[m] := by omega
          have h2 : ¬ ys[m] < xs[m] := by omega
          have HQ : Hid (xs[m] = ys[m]) := heq
          clear heq
          go_wp2
          go_quiet (fail)
          go_wp2
          go_quiet (fail)
          go_wp2
          go_roundw
          case rel => exact ⟨m, by omega, rfl, by rw [List.drop_eq_getElem_cons hmx, List.drop_eq_getElem_cons hmy, HZ.out, HQ.out], rowC_drew hR _⟩
          case measure => simp [intOf]
        · have h1 : ¬ xs[m] < ys[m] := by omega
          go_wp2
          go_quiet (fail)
          go_wp2
          go_quiet (fail)
          go_wp2
          go_ret
          exact ⟨ret_int (HE.out.symm.trans (cmpI_gt (val64_above HY.out HX.out m hmy hmx HZ.out.symm hgt))), by first | exact bdrew hR.below _ | exact bdrew (bdrew hR.below _) _⟩
      · go_wp2
        go_ret
        exact ⟨ret_int (HE.out.symm.trans (cmpI_eq (by
          have : k = 0 := by omega
          subst this
          have := HZ.out
          simp only [List.drop_zero] at this
          rw [this]))), hR.below⟩
end Go.Proofs.Ytllfpnnngdphfaa

/- The walks of a number's size without its sign, of the count of its words and of its bits, and of the law over them. -/
namespace Go.Proofs.Ytllfpnnngdphfaa
open Go.RowKit
theorem wd0 : Word 0 := ⟨by decide, by decide⟩
/-- Four words that stand for a number without its sign, the lowest first. -/
def SizeP (z : Int) (w : World) (e : Ending) (w' : World) : Prop :=
  ∃ x3 x2 x1 x0, e = .returned (.agg #[.int .u64 x0, .int .u64 x1, .int .u64 x2, .int .u64 x3]) ∧ Word x3 ∧ Word x2 ∧ Word x1 ∧ Word x0 ∧ uw x3 x2 x1 x0 = (z.natAbs : Int) ∧ Below w.heap.size w w'
theorem sizeP_set {z : Int} {w W : World} {R : Nat} {e : Ending} {u0 u1 u2 u3 : Value} (hR : w.heap.size ≤ R) (h : SizeP z w e W) : SizeP z w e ((((W.setCell ⟨R, 0, none⟩ u0).setCell ⟨R, 1, none⟩ u1).setCell ⟨R, 2, none⟩ u2).setCell ⟨R, 3, none⟩ u3) := by
  obtain ⟨x3, x2, x1, x0, e1, h3, h2, h1, h0, hu, hB⟩ := h
  exact ⟨x3, x2, x1, x0, e1, h3, h2, h1, h0, hu, tell_below hB hR⟩
set_option maxRecDepth 100000 in
set_option maxHeartbeats 1000000 in
theorem sizeOf_any (a3 a2 a1 a0 : Int) (h3 : Word a3) (h2 : Word a2) (h1 : Word a1) (h0 : Word a0) (w : World) :
    Calls Try.prog 41 #[.agg #[.int .u64 a3, .int .u64 a2, .int .u64 a1, .int .u64 a0]] w (SizeP (sw a3 a2 a1 a0) w) := by
  have hn := sw_neg h3 h2 h1 h0
  have A0 : Wd ((w.alloc (Obj.cells #[Value.int IntKind.u64 a3, Value.int IntKind.u64 a2, Value.int IntKind.u64 a1, Value.int IntKind.u64 a0] 26)).alloc (Obj.cells #[Value.int IntKind.u64 0, Value.int IntKind.u64 0, Value.int IntKind.u64 0, Value.int IntKind.u64 0] 41)) w.heap.size a3 a2 a1 a0 := (Wd.new _ _ _ _ _ 26 rfl).alloc _
  have R0 : Wd ((w.alloc (Obj.cells #[Value.int IntKind.u64 a3, Value.int IntKind.u64 a2, Value.int IntKind.u64 a1, Value.int IntKind.u64 a0] 26)).alloc (Obj.cells #[Value.int IntKind.u64 0, Value.int IntKind.u64 0, Value.int IntKind.u64 0, Value.int IntKind.u64 0] 41)) (w.heap.size + 1) 0 0 0 0 := Wd.new _ 0 0 0 0 41 (by simp)
  have HB : Below w.heap.size w ((w.alloc (Obj.cells #[Value.int IntKind.u64 a3, Value.int IntKind.u64 a2, Value.int IntKind.u64 a1, Value.int IntKind.u64 a0] 26)).alloc (Obj.cells #[Value.int IntKind.u64 0, Value.int IntKind.u64 0, Value.int IntKind.u64 0, Value.int IntKind.u64 0] 41)) := ((Below.refl _ _).alloc (Nat.le_refl _) _).alloc (by simp) _
  by_cases hp : 9223372036854775808 ≤ a3
  · have hb : (a3 / 9223372036854775808 == 1) = true := beq_iff_eq.2 (by have := h3.2; omega)
    go_enter Try.func41, Try.ntmps41
    go_wp2_with fail
    refine (isBelow_any a3 a2 a1 a0 h3 true hb _).mono ?_
    rintro e w1 ⟨rfl, hB⟩
    replace A0 := A0.step hB
    replace R0 := R0.step hB
    replace HB := HB.trans (hB.mono HB.size)
    clear hB
    have i0 := A0.c0; have i1 := A0.c1; have i2 := A0.c2; have i3 := A0.c3
    go_wp2_with fail
    refine (wordsOf_any a3 a2 a1 a0 _).mono ?_
    rintro e w2 ⟨rfl, hB⟩
    replace R0 := R0.step hB
    replace HB := HB.trans (hB.mono HB.size)
    clear hB A0 i0 i1 i2 i3
    go_wp2_with fail
    refine (minus4 0 0 0 0 a0 a1 a2 a3 (words4 wd0 wd0 wd0 wd0) (words4 h0 h1 h2 h3) _).mono ?_
    rintro e w3 ⟨zs, c, rfl, g1, g2, g3, g4, g5, hB⟩
    obtain ⟨z0, z1, z2, z3, rfl⟩ := list4 g1
    obtain ⟨l0, l1, l2, l3⟩ := words4_of g2
    rw [val64_4, val64_4, val64_4, show [(0 : Int), 0, 0, 0].length = 4 from rfl] at g5
    replace R0 := R0.step hB
    replace HB := HB.trans (hB.mono HB.size)
    have HP : Hid (SizeP (sw a3 a2 a1 a0) w (.returned (.agg #[.int .u64 z0, .int .u64 z1, .int .u64 z2, .int .u64 z3])) w3) := by
      refine ⟨z3, z2, z1, z0, rfl, l3, l2, l1, l0, ?_, HB⟩
      have e1 : pw64 4 = 115792089237316195423570985008687907853269984665640564039457584007913129639936 := by decide
      rw [e1] at g5
      have e2 : sw a3 a2 a1 a0 = uw a3 a2 a1 a0 - 115792089237316195423570985008687907853269984665640564039457584007913129639936 := by unfold sw; rw [if_neg (by omega)]
      have e3 := uw_bound h3 h2 h1 h0
      have e4 := uw_bound l3 l2 l1 l0
      have e5 : uw 0 0 0 0 = 0 := by decide
      have e6 : uw a3 a2 a1 a0 ≠ 0 := by unfold uw; unfold Word at *; omega
      omega
    have r0 := R0.c0; have r1 := R0.c1; have r2 := R0.c2; have r3 := R0.c3; have f0 := R0.f0; have f1 := R0.f1; have f2 := R0.f2; have f3 := R0.f3
    clear hB g5 g1 g2 g3 g4 HB R0
    go_wp2
    refine bodyPost_ret (v := .agg #[.int .u64 z0, .int .u64 z1, .int .u64 z2, .int .u64 z3]) (by simp [results, Try.results41, go_sem, r0, r1, r2, r3]) rfl ?_
    exact sizeP_set (Nat.le_succ _) HP.out
  · have hb : (a3 / 9223372036854775808 == 1) = false := beq_eq_false_iff_ne.2 (by have := h3.1; omega)
    go_enter Try.func41, Try.ntmps41
    go_wp2_with fail
    refine (isBelow_any a3 a2 a1 a0 h3 false hb _).mono ?_
    rintro e w1 ⟨rfl, hB⟩
    replace A0 := A0.step hB
    replace R0 := R0.step hB
    replace HB := HB.trans (hB.mono HB.size)
    clear hB
    have i0 := A0.c0; have i1 := A0.c1; have i2 := A0.c2; have i3 := A0.c3
    go_wp2_with fail
    refine (wordsOf_any a3 a2 a1 a0 _).mono ?_
    rintro e w2 ⟨rfl, hB⟩
    replace R0 := R0.step hB
    replace HB := HB.trans (hB.mono HB.size)
    have HP : Hid (SizeP (sw a3 a2 a1 a0) w (.returned (.agg #[.int .u64 a0, .int .u64 a1, .int .u64 a2, .int .u64 a3])) w2) := by
      refine ⟨a3, a2, a1, a0, rfl, h3, h2, h1, h0, ?_, HB⟩
      have e2 : sw a3 a2 a1 a0 = uw a3 a2 a1 a0 := by unfold sw; rw [if_pos (by omega)]
      have e3 := uw_bound h3 h2 h1 h0
      omega
    have r0 := R0.c0; have r1 := R0.c1; have r2 := R0.c2; have r3 := R0.c3; have f0 := R0.f0; have f1 := R0.f1; have f2 := R0.f2; have f3 := R0.f3
    clear hB HB R0 A0 i0 i1 i2 i3
    go_wp2
    refine bodyPost_ret (v := .agg #[.int .u64 a0, .int .u64 a1, .int .u64 a2, .int .u64 a3]) (by simp [results, Try.results41, go_sem, r0, r1, r2, r3]) rfl ?_
    exact sizeP_set (Nat.le_succ _) HP.out
/-- How many words are left when those that are 0 at the high end are cut off. -/
def CountP (xs : List Int) (w : World) (e : Ending) (w' : World) : Prop :=
  ∃ n : Nat, e = .returned (.int .i64 n) ∧ n ≤ xs.length ∧ (∀ j, n ≤ j → (h : j < xs.length) → xs[j] = 0) ∧ (∀ m, n = m + 1 → (h : m < xs.length) → xs[m] ≠ 0) ∧ w' = w
theorem count_some (w : World) {xs : List Int} {m : Nat} (hm : m < xs.length) (h0 : xs[m] ≠ 0) (hz : ∀ j, m + 1 ≤ j → (h : j < xs.length) → xs[j] = 0) (v : Int) (hv : v = ((m + 1 : Nat) : Int)) : CountP xs w (.returned (.int .i64 v)) w :=
  ⟨m + 1, by rw [hv], hm, hz, fun i hi hl => by
    have : m = i := by omega
    subst this
    exact h0, rfl⟩
set_option maxRecDepth 100000 in
set_option maxHeartbeats 400000 in
theorem countWords_any (A off n cap : Nat) (xs : List Int) (w : World) (hn : xs.length = n) (hr : Row w A off xs) (hm : n ≤ 1000) :
    Calls Try.prog 42 #[.slice (some ⟨A, off, none⟩) n cap] w (CountP xs w) := by
  go_enter Try.func42, Try.ntmps42
  go_wp2
  go_loop [3] (fun i => ∃ k : Nat, k ≤ n ∧ i = .int .i64 k ∧ ∀ j, k ≤ j → (h : j < xs.length) → xs[j] = 0) (fun i => (intOf i).toNat)
  case atStart => exact ⟨n, Nat.le_refl _, rfl, fun j h1 h2 => by omega⟩
  case round =>
    obtain ⟨k, hk, rfl, hz⟩ := hrel
    have HN : Hid (xs.length = n) := hn
    have HZ : Hid (∀ j, k ≤ j → (h : j < xs.length) → xs[j] = 0) := hz
    have HR : Hid (Row w A off xs) := hr
    clear hz hr hn
    by_cases hk0 : 0 < k
    · obtain ⟨m, rfl⟩ : ∃ m, k = m + 1 := ⟨k - 1, by omega⟩
      have hml : m < xs.length := by have := HN.out; omega
      have hcell := HR.out.cell m hml
      go_wp2
      · go_round
        case rel =>
          have h0 : (xs[m] == 0) = true := by assumption
          exact ⟨m, by omega, by go_num, fun j h1 h2 => by
            by_cases e : j = m
            · subst e; simpa using h0
            · exact HZ.out j (by omega) h2⟩
        case measure => simp [intOf]
      · have h0 : (xs[m] == 0) = false := by assumption
        go_ret
        exact count_some w hml (by simpa using h0) HZ.out _ (by omega)
    · go_wp2
      go_ret
      exact ⟨k, rfl, by have := HN.out; omega, HZ.out, fun i hi => by omega, rfl⟩
/-- The bits of words by those of the highest one that is not 0. -/
theorem bits_words {xs : List Int} (hw : Words xs) (m : Nat) (hm : m < xs.length) (hz : ∀ j, m + 1 ≤ j → (h : j < xs.length) → xs[j] = 0) (h0 : xs[m] ≠ 0) {b : Nat} (hb : BitsOf xs[m] b) : BitsOf (val64 xs) (64 * m + b) := by
  have hd : val64 (xs.drop (m + 1)) = 0 := by
    have e : xs.drop (m + 1) = List.replicate (xs.length - (m + 1)) 0 := by
      apply List.ext_getElem
      · simp
      · intro i h1 h2
        simp only [List.getElem_drop, List.getElem_replicate]
        exact hz _ (by omega) _
    rw [e]
    generalize xs.length - (m + 1) = q
    induction q with
    | zero => rfl
    | succ q ih => simp [List.replicate_succ, val64, ih]
  have hl := val64_lt (a := xs.take m) (fun x hx => hw x (List.mem_of_mem_take hx))
  have e3 : (xs.take m).length = m := by simp; omega
  rw [e3] at hl
  rw [val64_split xs m hm, hd]
  simp only [Int.mul_zero, Int.add_zero]
  have hp : (2 : Int) ^ (64 * m) = pw64 m := by
    clear hd hl e3 hz h0 hb hm
    induction m with
    | zero => rfl
    | succ m ih => rw [show 64 * (m + 1) = 64 * m + 64 by omega, Int.pow_add, ih, pw64, show (2 : Int) ^ 64 = 18446744073709551616 by decide, Int.mul_comm]
  obtain ⟨g0, g1, g2⟩ := hb
  have p0 := pw64_pos m
  generalize xs[m] = t at *
  have ht : 0 < t := by omega
  refine ⟨by have := Int.mul_nonneg (Int.le_of_lt p0) g0; omega, ?_, Or.inr ?_⟩
  · rw [Int.pow_add, hp]
    have : pw64 m * (t + 1) ≤ pw64 m * 2 ^ b := Int.mul_le_mul_of_nonneg_left (by omega) (by omega)
    rw [Int.mul_add] at this
    omega
  · have hb0 : b ≠ 0 := by rintro rfl; simp at g1; omega
    rcases g2 with g2 | g2
    · exact absurd g2 hb0
    · rw [show 64 * m + b - 1 = 64 * m + (b - 1) by omega, Int.pow_add, hp]
      have : pw64 m * 2 ^ (b - 1) ≤ pw64 m * t := Int.mul_le_mul_of_nonneg_left g2 (by omega)
      omega
set_option maxRecDepth 100000 in
set_option maxHeartbeats 1000000 in
theorem implBits_any (a3 a2 a1 a0 : Int) (h3 : Word a3) (h2 : Word a2) (h1 : Word a1) (h0 : Word a0) (w : World) :
    Calls Try.prog 17 #[.agg #[.int .u64 a3, .int .u64 a2, .int .u64 a1, .int .u64 a0]] w (BitsP ((sw a3 a2 a1 a0).natAbs : Int) w) := by
  go_enter Try.func17, Try.ntmps17
  go_wp2_with fail
  refine (sizeOf_any a3 a2 a1 a0 h3 h2 h1 h0 _).mono ?_
  rintro e w1 ⟨x3, x2, x1, x0, rfl, l3, l2, l1, l0, hu, hB⟩
  have hB1 : Below w.heap.size w w1 := ((Below.refl _ _).alloc (Nat.le_refl _) _).trans (hB.mono (by simp))
  clear hB
  have HU : Hid (uw x3 x2 x1 x0 = ((sw a3 a2 a1 a0).natAbs : Int)) := hu
  clear hu
  have G0 := Wd.new w1 x0 x1 x2 x3 41 rfl
  have HR := row_of4 G0.lt G0.c0 G0.c1 G0.c2 G0.c3 G0.f0 G0.f1 G0.f2 G0.f3
  have hB2 := hB1.alloc hB1.size (Obj.cells #[Value.int IntKind.u64 x0, Value.int IntKind.u64 x1, Value.int IntKind.u64 x2, Value.int IntKind.u64 x3] 41)
  clear G0
  go_wp2_with fail
  refine (countWords_any w1.heap.size 0 4 4 [x0, x1, x2, x3] _ rfl HR (by omega)).mono ?_
  rintro e w2 ⟨n, rfl, hn, hz, hnz, rfl⟩
  have HW := words4 l0 l1 l2 l3
  have HV := val64_4 x0 x1 x2 x3
  generalize hxs : [x0, x1, x2, x3] = xs at *
  have hlx : xs.length = 4 := by rw [← hxs]; rfl
  rw [hlx] at hn
  by_cases hn0 : n = 0
  · subst hn0
    have hv0 : val64 xs = 0 := by
      rw [HV]
      have c0 := hz 0 (by omega) (by omega); have c1 := hz 1 (by omega) (by omega); have c2 := hz 2 (by omega) (by omega); have c3 := hz 3 (by omega) (by omega)
      subst hxs
      simp at c0 c1 c2 c3
      subst c0 c1 c2 c3
      decide
    have HE : Hid (((sw a3 a2 a1 a0).natAbs : Int) = 0) := by show _ = _; rw [← HU.out, ← HV, hv0]
    clear hz hnz HR HW HV hv0 hlx hxs
    go_wp2
    go_ret
    exact ⟨0, rfl, by rw [HE.out]; exact ⟨by decide, by decide, Or.inl rfl⟩, hB2⟩
  · obtain ⟨m, rfl⟩ : ∃ m, n = m + 1 := ⟨n - 1, by omega⟩
    have hml : m < xs.length := by omega
    have hnz' := hnz m rfl hml
    have hc := HR.cell m hml
    rw [Nat.zero_add] at hc
    have hwm := words_at HW m hml
    have HB := fun b hb => bits_words HW m hml hz hnz' (b := b) hb
    rw [HV, HU.out] at HB
    have HB' : Hid (∀ b : Nat, BitsOf xs[m] b → BitsOf ((sw a3 a2 a1 a0).natAbs : Int) (64 * m + b)) := HB
    have hm4 : (m : Int) < 4 := by omega
    have hmn : ((m : Int) + 1 == 0) = false := beq_eq_false_iff_ne.2 (by omega)
    clear hz hnz HR HW HV hxs HB hnz'
    go_wp2_with fail
    refine (len64_any xs[m] hwm _).mono ?_
    rintro e w3 ⟨b, rfl, hb, hB3⟩
    have hb64 : b ≤ 64 := (bits_le hb 64).2 (by rw [show (2 : Int) ^ 64 = 18446744073709551616 by decide]; exact hwm.2)
    have HH : Hid (BitsOf ((sw a3 a2 a1 a0).natAbs : Int) (64 * m + b)) := HB'.out b hb
    have hB4 := hB2.trans (hB3.mono hB2.size)
    clear hb hB3 hB2 HB'
    go_wp2
    go_ret
    exact ⟨64 * m + b, ret_int (by omega), HH.out, hB4⟩
end Go.Proofs.Ytllfpnnngdphfaa

/- The product of two numbers of four words: what the walk of its first statement wants. -/
namespace Go.Proofs.Ytllfpnnngdphfaa
open Go.RowKit
theorem uw_same {x3 x2 x1 x0 y3 y2 y1 y0 : Int} (_h3 : Word x3) (h2 : Word x2) (h1 : Word x1) (h0 : Word x0) (_k3 : Word y3) (k2 : Word y2) (k1 : Word y1) (k0 : Word y0) (h : uw x3 x2 x1 x0 = uw y3 y2 y1 y0) : x3 = y3 ∧ x2 = y2 ∧ x1 = y1 ∧ x0 = y0 := by
  unfold Word uw at *
  omega
theorem size_words (n : Int) (h0 : 0 ≤ n) (h1 : n < 115792089237316195423570985008687907853269984665640564039457584007913129639936) : ∃ x3 x2 x1 x0, Word x3 ∧ Word x2 ∧ Word x1 ∧ Word x0 ∧ uw x3 x2 x1 x0 = n := by
  refine ⟨n / 18446744073709551616 / 18446744073709551616 / 18446744073709551616, n / 18446744073709551616 / 18446744073709551616 % 18446744073709551616, n / 18446744073709551616 % 18446744073709551616, n % 18446744073709551616, ?_⟩
  unfold Word uw
  omega
theorem sw_size {a3 a2 a1 a0 : Int} (h3 : Word a3) (h2 : Word a2) (h1 : Word a1) (h0 : Word a0) : ((sw a3 a2 a1 a0).natAbs : Int) ≤ 57896044618658097711785492504343953926634992332820282019728792003956564819968 := by
  unfold Word sw uw at *
  split <;> omega
/-- The size of a number, its words known ahead. -/
theorem sizeOf_det (a3 a2 a1 a0 : Int) (h3 : Word a3) (h2 : Word a2) (h1 : Word a1) (h0 : Word a0) (x3 x2 x1 x0 : Int) (g3 : Word x3) (g2 : Word x2) (g1 : Word x1) (g0 : Word x0) (hx : uw x3 x2 x1 x0 = ((sw a3 a2 a1 a0).natAbs : Int)) (w : World) :
    Calls Try.prog 41 #[.agg #[.int .u64 a3, .int .u64 a2, .int .u64 a1, .int .u64 a0]] w (WideP x0 x1 x2 x3 w) := by
  refine (sizeOf_any a3 a2 a1 a0 h3 h2 h1 h0 w).mono ?_
  rintro e w1 ⟨y3, y2, y1, y0, rfl, k3, k2, k1, k0, hu, hB⟩
  obtain ⟨rfl, rfl, rfl, rfl⟩ := uw_same k3 k2 k1 k0 g3 g2 g1 g0 (hu.trans hx.symm)
  exact ⟨rfl, hB⟩
theorem tm_cells {a3 a2 a1 a0 b3 b2 b1 b0 : Int} {w W : World} (h : ArgsB w W [[.int .u64 a3, .int .u64 a2, .int .u64 a1, .int .u64 a0], [.int .u64 b3, .int .u64 b2, .int .u64 b1, .int .u64 b0], [.int .u64 0, .int .u64 0, .int .u64 0, .int .u64 0, .int .u64 0, .int .u64 0, .int .u64 0, .int .u64 0]]) : (fun w' => w'.cell? ⟨w.heap.size, 0, none⟩ = some (.int .u64 a3) ∧ w'.cell? ⟨w.heap.size, 1, none⟩ = some (.int .u64 a2) ∧ w'.cell? ⟨w.heap.size, 2, none⟩ = some (.int .u64 a1) ∧ w'.cell? ⟨w.heap.size, 3, none⟩ = some (.int .u64 a0) ∧ w'.cell? ⟨w.heap.size + 1, 0, none⟩ = some (.int .u64 b3) ∧ w'.cell? ⟨w.heap.size + 1, 1, none⟩ = some (.int .u64 b2) ∧ w'.cell? ⟨w.heap.size + 1, 2, none⟩ = some (.int .u64 b1) ∧ w'.cell? ⟨w.heap.size + 1, 3, none⟩ = some (.int .u64 b0)) W :=
  ⟨(h.b 0 rfl).c 0 rfl, (h.b 0 rfl).c 1 rfl, (h.b 0 rfl).c 2 rfl, (h.b 0 rfl).c 3 rfl, (h.b 1 rfl).c 0 rfl, (h.b 1 rfl).c 1 rfl, (h.b 1 rfl).c 2 rfl, (h.b 1 rfl).c 3 rfl⟩
theorem tm_args (a3 a2 a1 a0 b3 b2 b1 b0 : Int) (w : World) : ArgsB w (((w.alloc (.cells #[.int .u64 a3, .int .u64 a2, .int .u64 a1, .int .u64 a0] 26)).alloc (.cells #[.int .u64 b3, .int .u64 b2, .int .u64 b1, .int .u64 b0] 26)).alloc (.cells #[.int .u64 0, .int .u64 0, .int .u64 0, .int .u64 0, .int .u64 0, .int .u64 0, .int .u64 0, .int .u64 0] 53)) [[.int .u64 a3, .int .u64 a2, .int .u64 a1, .int .u64 a0], [.int .u64 b3, .int .u64 b2, .int .u64 b1, .int .u64 b0], [.int .u64 0, .int .u64 0, .int .u64 0, .int .u64 0, .int .u64 0, .int .u64 0, .int .u64 0, .int .u64 0]] := by
  refine ⟨(((Below.refl _ _).alloc (Nat.le_refl _) _).alloc (by simp) _).alloc (by simp; omega) _, fun j vs hj => ?_⟩
  match j, hj with
  | 0, hj => cases hj; exact ((Blk.new w [.int .u64 a3, .int .u64 a2, .int .u64 a1, .int .u64 a0] 26 rfl).alloc _).alloc _
  | 1, hj => cases hj; exact (Blk.new (w.alloc (.cells #[.int .u64 a3, .int .u64 a2, .int .u64 a1, .int .u64 a0] 26)) [.int .u64 b3, .int .u64 b2, .int .u64 b1, .int .u64 b0] 26 (by simp)).alloc _
  | 2, hj => cases hj; exact Blk.new ((w.alloc (.cells #[.int .u64 a3, .int .u64 a2, .int .u64 a1, .int .u64 a0] 26)).alloc (.cells #[.int .u64 b3, .int .u64 b2, .int .u64 b1, .int .u64 b0] 26)) [.int .u64 0, .int .u64 0, .int .u64 0, .int .u64 0, .int .u64 0, .int .u64 0, .int .u64 0, .int .u64 0] 53 (by simp)
  | j + 3, hj => simp at hj
theorem ArgsB.lt3 {w W : World} {a b c : List Value} (h : ArgsB w W [a, b, c]) : w.heap.size + 2 < W.heap.size := (h.b 2 rfl).lt
theorem ArgsB.set4 {w W : World} {a b c : List Value} (h : ArgsB w W [a, b, c]) {g : Nat} (hg : w.heap.size + 2 < g) (v0 v1 v2 v3 : Value) : ArgsB w ((((W.setCell ⟨g, 0, none⟩ v0).setCell ⟨g, 1, none⟩ v1).setCell ⟨g, 2, none⟩ v2).setCell ⟨g, 3, none⟩ v3) [a, b, c] :=
  (((h.set (by exact hg) _).set (by exact hg) _).set (by exact hg) _).set (by exact hg) _
theorem Blk.stored4 {W : World} {g : Nat} {z0 z1 z2 z3 : Value} (G : Blk W g [z0, z1, z2, z3]) (v0 v1 v2 v3 : Value) : Blk ((((W.setCell ⟨g, 0, none⟩ v0).setCell ⟨g, 1, none⟩ v1).setCell ⟨g, 2, none⟩ v2).setCell ⟨g, 3, none⟩ v3) g [v0, v1, v2, v3] :=
  (((G.setI 0 (by simp) v0).setI 1 (by simp) v1).setI 2 (by simp) v2).setI 3 (by simp) v3
theorem Blk.new2 (W : World) (o : Obj) (vs : List Value) (T : TypeId) : Blk ((W.alloc o).alloc (.cells vs.toArray T)) (W.heap.size + 1) vs := Blk.new _ _ _ (by simp)
/-- Two rows of four values laid behind the arguments. -/
def CutT (w wx : World) (vss : List (List Value)) (xs ys : List Value) (p q : Value) : Prop :=
  ∃ g g', p = .pointer (some ⟨g, 0, none⟩) ∧ q = .pointer (some ⟨g', 0, none⟩) ∧ g ≠ g' ∧ w.heap.size + 2 < g ∧ w.heap.size + 2 < g' ∧ ArgsB w wx vss ∧ Blk wx g xs ∧ Blk wx g' ys
theorem CutT.drew {w wx : World} {vss : List (List Value)} {xs ys : List Value} {p q : Value} (h : CutT w wx vss xs ys p q) : CutT w wx.drew vss xs ys p q := by
  obtain ⟨g, g', e, f, n, l, l', A, B, C⟩ := h
  exact ⟨g, g', e, f, n, l, l', A.drew, B.drew, C.drew⟩
theorem cutT_nn {w X : World} {a b c : List Value} {xs ys : List Value} {T T' : TypeId} (h : ArgsB w X [a, b, c]) (hl : w.heap.size + 2 < X.heap.size) : CutT w ((X.alloc (.cells xs.toArray T)).alloc (.cells ys.toArray T')) [a, b, c] xs ys (.pointer (some ⟨X.heap.size, 0, none⟩)) (.pointer (some ⟨X.heap.size + 1, 0, none⟩)) :=
  ⟨_, _, rfl, rfl, by omega, hl, by omega, (h.alloc _).alloc _, (Blk.new _ _ _ rfl).alloc _, Blk.new2 _ _ _ _⟩
theorem cutT_nn' {w X : World} {a b c : List Value} {xs ys : List Value} {T T' : TypeId} (h : ArgsB w X [a, b, c]) (hl : w.heap.size + 2 < X.heap.size) : CutT w ((X.alloc (.cells ys.toArray T)).alloc (.cells xs.toArray T')) [a, b, c] xs ys (.pointer (some ⟨X.heap.size + 1, 0, none⟩)) (.pointer (some ⟨X.heap.size, 0, none⟩)) :=
  ⟨_, _, rfl, rfl, by omega, by omega, hl, (h.alloc _).alloc _, Blk.new2 _ _ _ _, (Blk.new _ _ _ rfl).alloc _⟩
theorem cutT_sn {w X : World} {a b c : List Value} {v0 v1 v2 v3 z0 z1 z2 z3 : Value} {ys : List Value} {T : TypeId} {g : Nat} (h : ArgsB w X [a, b, c]) (G : Blk X g [z0, z1, z2, z3]) (hg : w.heap.size + 2 < g) (hl : w.heap.size + 2 < X.heap.size) : CutT w (((((X.setCell ⟨g, 0, none⟩ v0).setCell ⟨g, 1, none⟩ v1).setCell ⟨g, 2, none⟩ v2).setCell ⟨g, 3, none⟩ v3).alloc (.cells ys.toArray T)) [a, b, c] [v0, v1, v2, v3] ys (.pointer (some ⟨g, 0, none⟩)) (.pointer (some ⟨X.heap.size, 0, none⟩)) :=
  ⟨_, _, rfl, rfl, by have := G.lt; omega, hg, hl, (h.set4 hg _ _ _ _).alloc _, (G.stored4 _ _ _ _).alloc _, Blk.new _ _ _ (by simp)⟩
theorem cutT_sn' {w X : World} {a b c : List Value} {v0 v1 v2 v3 z0 z1 z2 z3 : Value} {xs : List Value} {T : TypeId} {g : Nat} (h : ArgsB w X [a, b, c]) (G : Blk X g [z0, z1, z2, z3]) (hg : w.heap.size + 2 < g) (hl : w.heap.size + 2 < X.heap.size) : CutT w (((((X.setCell ⟨g, 0, none⟩ v0).setCell ⟨g, 1, none⟩ v1).setCell ⟨g, 2, none⟩ v2).setCell ⟨g, 3, none⟩ v3).alloc (.cells xs.toArray T)) [a, b, c] xs [v0, v1, v2, v3] (.pointer (some ⟨X.heap.size, 0, none⟩)) (.pointer (some ⟨g, 0, none⟩)) :=
  ⟨_, _, rfl, rfl, by have := G.lt; omega, hl, hg, (h.set4 hg _ _ _ _).alloc _, Blk.new _ _ _ (by simp), (G.stored4 _ _ _ _).alloc _⟩
theorem cutT_ss {w X : World} {a b c : List Value} {v0 v1 v2 v3 u0 u1 u2 u3 z0 z1 z2 z3 y0 y1 y2 y3 : Value} {g g' : Nat} (h : ArgsB w X [a, b, c]) (G : Blk X g [z0, z1, z2, z3]) (G' : Blk X g' [y0, y1, y2, y3]) (hg : w.heap.size + 2 < g) (hg' : w.heap.size + 2 < g') (hne : g ≠ g') :
    CutT w ((((((((X.setCell ⟨g, 0, none⟩ v0).setCell ⟨g, 1, none⟩ v1).setCell ⟨g, 2, none⟩ v2).setCell ⟨g, 3, none⟩ v3).setCell ⟨g', 0, none⟩ u0).setCell ⟨g', 1, none⟩ u1).setCell ⟨g', 2, none⟩ u2).setCell ⟨g', 3, none⟩ u3) [a, b, c] [v0, v1, v2, v3] [u0, u1, u2, u3] (.pointer (some ⟨g, 0, none⟩)) (.pointer (some ⟨g', 0, none⟩)) :=
  ⟨_, _, rfl, rfl, hne, hg, hg', (h.set4 hg _ _ _ _).set4 hg' _ _ _ _, (G.stored4 _ _ _ _).set4 hne, (G'.set4 (fun e => hne e.symm)).stored4 _ _ _ _⟩
end Go.Proofs.Ytllfpnnngdphfaa

/- Long division by words: the reckoning. -/
namespace Go.Proofs.Ytllfpnnngdphfaa
open Go.RowKit
theorem pq_pos (n : Nat) : 0 < pw64 n := by
  induction n with
  | zero => decide
  | succ n ih => simp only [pw64]; omega
theorem pw64_mono {a b : Nat} (h : a ≤ b) : pw64 a ≤ pw64 b := by
  obtain ⟨k, rfl⟩ := Nat.exists_eq_add_of_le h
  rw [pw64_add]
  have h1 := pq_pos a
  have h2 := pq_pos k
  have : pw64 a * 1 ≤ pw64 a * pw64 k := Int.mul_le_mul_of_nonneg_left (by omega) (by omega)
  omega
theorem vq_append (a b : List Int) : val64 (a ++ b) = val64 a + pw64 a.length * val64 b := by
  induction a with
  | nil => simp [val64, pw64]
  | cons d t ih => simp only [List.cons_append, val64, List.length_cons, pw64, ih]; grind
theorem words_cons {d : Int} {t : List Int} : Words (d :: t) ↔ Word d ∧ Words t := by
  constructor
  · intro h; exact ⟨h d (by simp), fun x hx => h x (by simp [hx])⟩
  · rintro ⟨h1, h2⟩ x hx
    rcases List.mem_cons.1 hx with rfl | hx
    · exact h1
    · exact h2 x hx
theorem words_nil : Words [] := by intro d h; simp at h
theorem val64_nonneg {a : List Int} (h : Words a) : 0 ≤ val64 a := by
  induction a with
  | nil => simp [val64]
  | cons d t ih =>
    obtain ⟨h1, h2⟩ := words_cons.1 h
    have := ih h2
    have := h1.1
    simp only [val64]; omega
theorem vq_lt {a : List Int} (h : Words a) : val64 a < pw64 a.length := by
  induction a with
  | nil => simp [val64, pw64]
  | cons d t ih =>
    obtain ⟨h1, h2⟩ := words_cons.1 h
    have := ih h2
    have := h1.2
    simp only [val64, List.length_cons, pw64]; omega
theorem words_take {a : List Int} (h : Words a) (n : Nat) : Words (a.take n) := fun x hx => h x (List.mem_of_mem_take hx)
theorem words_drop {a : List Int} (h : Words a) (n : Nat) : Words (a.drop n) := fun x hx => h x (List.mem_of_mem_drop hx)
theorem val64_inj {a b : List Int} (ha : Words a) (hb : Words b) (hl : a.length = b.length) (h : val64 a = val64 b) : a = b := by
  induction a generalizing b with
  | nil => cases b with
    | nil => rfl
    | cons => simp at hl
  | cons x s ih => cases b with
    | nil => simp at hl
    | cons y t =>
      obtain ⟨h1, h2⟩ := words_cons.1 ha
      obtain ⟨h3, h4⟩ := words_cons.1 hb
      unfold Word at h1 h3
      simp only [val64] at h
      have hxy : x = y := by omega
      subst hxy
      have : s = t := ih h2 h4 (by simpa using hl) (by omega)
      rw [this]
theorem val64_part (a : List Int) (k : Nat) (hk : k ≤ a.length) : val64 a = val64 (a.take k) + pw64 k * val64 (a.drop k) := by
  have h := vq_append (a.take k) (a.drop k)
  rw [List.take_append_drop] at h
  rw [h, List.length_take, Nat.min_eq_left hk]
/-- The words above a place are 0 where the number is less than the base to it. -/
theorem val64_high {a : List Int} (ha : Words a) (k : Nat) (hk : k ≤ a.length) (h : val64 a < pw64 k) : val64 (a.drop k) = 0 ∧ val64 (a.take k) = val64 a := by
  have e := val64_part a k hk
  have e2 := val64_nonneg (words_take ha k)
  have e3 := val64_nonneg (words_drop ha k)
  have e4 : val64 (a.drop k) = 0 := by
    apply Decidable.byContradiction
    intro e4
    have : pw64 k * 1 ≤ pw64 k * val64 (a.drop k) := Int.mul_le_mul_of_nonneg_left (by omega) (by have := pq_pos k; omega)
    omega
  exact ⟨e4, by rw [e4] at e; omega⟩
theorem val64_zeros (n : Nat) : val64 (List.replicate n 0) = 0 := by
  induction n with
  | zero => rfl
  | succ n ih => simp [List.replicate_succ, val64, ih]
/-- Rows that are alike above a place are in order as the words there. -/
theorem vq_above {a b : List Int} (ha : Words a) (hb : Words b) (k : Nat) (h1 : k < a.length) (h2 : k < b.length) (he : a.drop (k + 1) = b.drop (k + 1)) (hlt : a[k] < b[k]) : val64 a < val64 b := by
  have s1 := val64_part a (k + 1) h1
  have s2 := val64_part b (k + 1) h2
  rw [val64_take a k h1] at s1
  rw [val64_take b k h2] at s2
  rw [he] at s1
  have e1 := vq_lt (words_take ha k)
  have e2 := val64_nonneg (words_take hb k)
  rw [List.length_take, Nat.min_eq_left (by omega)] at e1
  have e4 := pq_pos k
  have e5 : pw64 k * (a[k] + 1) ≤ pw64 k * b[k] := Int.mul_le_mul_of_nonneg_left (by omega) (by omega)
  rw [Int.mul_add] at e5
  omega
/-- The guess of a digit is not below it. -/
theorem kn_guess {W B P wl bl hi lo top : Int} (hP : 0 < P) (hW : W = wl + P * (lo + 18446744073709551616 * hi)) (hwl : wl < P) (hB : B = bl + P * top) (hbl : 0 ≤ bl) (ht : 0 < top) (hWB : W < 18446744073709551616 * B) (hW0 : 0 ≤ W) :
    W / B ≤ (if top ≤ hi then 18446744073709551615 else (hi * 18446744073709551616 + lo) / top) := by
  have hPt : P * 1 ≤ P * top := Int.mul_le_mul_of_nonneg_left (by omega) (by omega)
  have hB0 : 0 < B := by omega
  split
  · have : W / B < 18446744073709551616 := Int.ediv_lt_of_lt_mul hB0 hWB
    omega
  · rw [Int.le_ediv_iff_mul_le ht]
    have q0 := Int.ediv_nonneg (a := W) (b := B) (by omega) (by omega)
    have q1 := Int.ediv_mul_le W (b := B) (by omega)
    generalize W / B = Q at *
    have e1 : Q * B = Q * bl + P * (Q * top) := by rw [hB]; grind
    have e2 := Int.mul_nonneg q0 hbl
    apply Int.le_of_lt_add_one
    apply Int.lt_of_mul_lt_mul_left (a := P) _ (by omega)
    have e3 : P * (hi * 18446744073709551616 + lo + 1) = P * (lo + 18446744073709551616 * hi) + P := by grind
    omega
/-- A digit that is not below the quotient, and with which no more is taken than there is, is the quotient. -/
theorem kn_digit {W B d : Int} (hB : 0 < B) (h1 : W / B ≤ d) (h2 : d * B ≤ W) : d = W / B := by
  have := (Int.le_ediv_iff_mul_le hB).2 h2
  omega
theorem kn_more {W B d : Int} (hB : 0 < B) (hW : 0 ≤ W) (h2 : W < d * B) : W / B ≤ d - 1 ∧ 1 ≤ d := by
  have := Int.ediv_lt_of_lt_mul hB h2
  have := Int.ediv_nonneg hW (Int.le_of_lt hB)
  omega
theorem pow_split (r : Nat) (hr : r ≤ 64) : (2 : Int) ^ r * 2 ^ (64 - r) = 18446744073709551616 := by
  rw [← Int.pow_add, show r + (64 - r) = 64 by omega]; decide
theorem shl_mod (d : Int) (r : Nat) (hr : r ≤ 64) : (d * 2 ^ r) % 18446744073709551616 = 2 ^ r * (d % 2 ^ (64 - r)) ∧ d * 2 ^ r / 18446744073709551616 = d / 2 ^ (64 - r) := by
  have h := pow_split r hr
  have hp : (0 : Int) < 2 ^ r := Int.pow_pos (by decide)
  rw [← h, Int.mul_comm d]
  exact ⟨Int.mul_emod_mul_of_pos _ _ hp, Int.mul_ediv_mul_of_pos _ _ hp⟩
/-- Lower bits beside what is moved to the left, as far as a word goes. -/
theorem or_shl64 (c d : Int) (r : Nat) (hr : r ≤ 64) (hc0 : 0 ≤ c) (hc : c < 2 ^ r) :
    bits .or .u64 c (IntKind.u64.wrap (d * 2 ^ r)) = c + (d * 2 ^ r) % 18446744073709551616 := by
  have hp : (0 : Int) < 2 ^ (64 - r) := Int.pow_pos (by decide)
  have hp2 : (0 : Int) < 2 ^ r := Int.pow_pos (by decide)
  rw [IntKind.wrap_u64, (shl_mod d r hr).1]
  have m0 := Int.emod_nonneg d (b := 2 ^ (64 - r)) (by omega)
  have m1 := Int.emod_lt_of_pos d hp
  generalize d % 2 ^ (64 - r) = m at *
  have hb : c + 2 ^ r * m < 18446744073709551616 := by
    have := pow_split r hr
    have h1 : (2 : Int) ^ r * (m + 1) ≤ 2 ^ r * 2 ^ (64 - r) := Int.mul_le_mul_of_nonneg_left (by omega) (by omega)
    rw [Int.mul_add] at h1
    omega
  have hm := Int.mul_nonneg (Int.le_of_lt hp2) m0
  obtain ⟨c, rfl⟩ := Int.eq_ofNat_of_zero_le hc0
  obtain ⟨m, rfl⟩ := Int.eq_ofNat_of_zero_le m0
  rw [ipow] at hc hb hm ⊢
  have hc' : c < 2 ^ r := by omega
  have e : (((2 ^ r : Nat) : Int) * (m : Int)) = ((2 ^ r * m : Nat) : Int) := (Int.natCast_mul _ _).symm
  rw [e] at hb hm ⊢
  rw [bits_or_u64_nat c (2 ^ r * m) (by omega) (by omega), Nat.or_comm, ← Nat.two_pow_add_eq_or_of_lt hc' m]
  omega
/-- One word moved to the left: what stays in it, and what goes over. -/
theorem lift_step (d : Int) (r : Nat) (hr : r ≤ 64) (hd0 : 0 ≤ d) (hd : d < 18446744073709551616) :
    (d * 2 ^ r) % 18446744073709551616 + 18446744073709551616 * (d / 2 ^ (64 - r)) = d * 2 ^ r ∧ 0 ≤ d / 2 ^ (64 - r) ∧ d / 2 ^ (64 - r) < 2 ^ r := by
  have h := shl_mod d r hr
  have hp : (0 : Int) < 2 ^ (64 - r) := Int.pow_pos (by decide)
  refine ⟨?_, Int.ediv_nonneg hd0 (by omega), ?_⟩
  · rw [← h.2]; exact Int.emod_add_mul_ediv _ _
  · apply Int.ediv_lt_of_lt_mul hp
    rw [pow_split r hr]; exact hd
/-- Between the rounds of the shift up. -/
structure LuI (xs zs : List Int) (r k : Nat) : Prop where
  len : zs.length = 9
  wds : Words zs
  eq : val64 zs = 2 ^ r * val64 (xs.take k)
  low : ∀ h : k < zs.length, zs[k] < 2 ^ r
  zero : ∀ j, k < j → (h : j < zs.length) → zs[j] = 0
theorem pow_le64 {r : Nat} (hr : r < 64) : (2 : Int) ^ r ≤ 9223372036854775808 := by
  rw [ipow]
  have := Nat.pow_le_pow_right (n := 2) (by omega) (show r ≤ 63 by omega)
  simp at this; omega
theorem lu_start (xs : List Int) (r : Nat) : LuI xs (List.replicate 9 0) r 0 := by
  refine ⟨rfl, ?_, by simp [val64], fun h => ?_, fun j _ h => List.getElem_replicate _⟩
  · intro d hd
    rw [List.eq_of_mem_replicate hd]; exact ⟨by decide, by decide⟩
  · rw [List.getElem_replicate]; exact Int.pow_pos (by decide)
theorem lu_words {xs zs : List Int} {r k : Nat} (h : LuI xs zs r k) (hk : k < xs.length) (hr : r < 64) (hx : Words xs) (hz : k < zs.length) :
    0 ≤ zs[k] ∧ zs[k] < 2 ^ r ∧ Word (zs[k] + (xs[k] * 2 ^ r) % 18446744073709551616) ∧ Word (xs[k] / 2 ^ (64 - r)) := by
  have hw := words_at h.wds k hz
  have hl := h.low hz
  have hx := words_at hx k hk
  obtain ⟨s1, s2, s3⟩ := lift_step xs[k] r (by omega) hx.1 hx.2
  have hs := shl_mod xs[k] r (by omega)
  have hp := pow_split r (by omega)
  have hp1 : (0 : Int) < 2 ^ (64 - r) := Int.pow_pos (by decide)
  have m1 := Int.emod_lt_of_pos xs[k] hp1
  have m0 := Int.emod_nonneg xs[k] (b := 2 ^ (64 - r)) (by omega)
  have hp2 : (0 : Int) < 2 ^ r := Int.pow_pos (by decide)
  have hpl := pow_le64 hr
  refine ⟨hw.1, hl, ?_, s2, by omega⟩
  rw [hs.1]
  generalize xs[k] % 2 ^ (64 - r) = m at *
  have h1 : (2 : Int) ^ r * (m + 1) ≤ 2 ^ r * 2 ^ (64 - r) := Int.mul_le_mul_of_nonneg_left (by omega) (by omega)
  rw [Int.mul_add] at h1
  have h2 := Int.mul_nonneg (Int.le_of_lt hp2) m0
  have := hw.1
  exact ⟨by omega, by omega⟩
theorem lu_step {xs zs : List Int} {r k : Nat} (h : LuI xs zs r k) (hk : k < xs.length) (hk8 : k < 8) (hr : r < 64) (hx : Words xs) (hz : k < zs.length) (u v : Int) (hu : u = zs[k] + (xs[k] * 2 ^ r) % 18446744073709551616) (hv : v = xs[k] / 2 ^ (64 - r)) :
    LuI xs ((zs.set k u).set (k + 1) v) r (k + 1) := by
  obtain ⟨w0, w1, w2, w3⟩ := lu_words h hk hr hx hz
  have hx := words_at hx k hk
  obtain ⟨s1, s2, s3⟩ := lift_step xs[k] r (by omega) hx.1 hx.2
  have hl := h.len
  rw [← hu] at w2
  rw [← hv] at w3 s1 s3
  have hz1 : k + 1 < zs.length := by omega
  have e0 := h.zero (k + 1) (by omega) hz1
  refine ⟨by simpa using hl, words_set (words_set h.wds _ w2) _ w3, ?_, fun hh => ?_, fun j hj hh => ?_⟩
  · rw [val64_set _ _ (by simpa using hz1), val64_set _ _ hz, List.getElem_set_ne (by omega), e0, h.eq, val64_take xs k hk, hu, pw64]
    generalize xs[k] = d at *
    generalize zs[k] = z at *
    generalize val64 (xs.take k) = X at *
    generalize pw64 k = P at *
    have : 2 ^ r * (X + P * d) = 2 ^ r * X + P * (d * 2 ^ r) := by grind
    rw [this, ← s1]
    grind
  · rw [List.getElem_set_self]; exact s3
  · have hh' : j < zs.length := by simpa using hh
    rw [List.getElem_set_ne (by omega), List.getElem_set_ne (by omega)]
    exact h.zero j (by omega) hh'
theorem lu_end {xs zs : List Int} {r : Nat} (h : LuI xs zs r 8) (hl : xs.length = 8) : val64 zs = 2 ^ r * val64 xs := by
  have := h.eq
  rwa [List.take_of_length_le (by omega)] at this
/-- Between the rounds of the shift down. -/
structure LdI (us zs : List Int) (r k : Nat) : Prop where
  len : zs.length = 8
  wds : Words zs
  eq : ∀ h : k < us.length, ∀ h0 : 0 < us.length, (2 : Int) ^ r * val64 (zs.take k) + us[0] % 2 ^ r = val64 (us.take k) + pw64 k * (us[k] % 2 ^ r)
theorem ld_start (us zs : List Int) (r : Nat) (hl : zs.length = 8) (hw : Words zs) : LdI us zs r 0 := by
  refine ⟨hl, hw, fun h h0 => ?_⟩
  simp [val64, pw64]
theorem ld_words {us : List Int} {r k : Nat} (hk : k < us.length) (hk1 : k + 1 < us.length) (hr : r < 64) (hu : Words us) :
    0 ≤ us[k] / 2 ^ r ∧ us[k] / 2 ^ r < 2 ^ (64 - r) ∧ Word (us[k] / 2 ^ r + (us[k + 1] * 2 ^ (64 - r)) % 18446744073709551616) := by
  have hx := words_at hu k hk
  have hp2 : (0 : Int) < 2 ^ r := Int.pow_pos (by decide)
  have hp1 : (0 : Int) < 2 ^ (64 - r) := Int.pow_pos (by decide)
  have hp := pow_split r (by omega)
  have h1 : us[k] / 2 ^ r < 2 ^ (64 - r) := by
    apply Int.ediv_lt_of_lt_mul hp2
    rw [Int.mul_comm, hp]; exact hx.2
  have h0 := Int.ediv_nonneg (b := 2 ^ r) hx.1 (by omega)
  refine ⟨h0, h1, ?_⟩
  have hs := shl_mod us[k + 1] (64 - r) (by omega)
  rw [hs.1, show 64 - (64 - r) = r by omega]
  have m1 := Int.emod_lt_of_pos us[k + 1] hp2
  have m0 := Int.emod_nonneg us[k + 1] (b := 2 ^ r) (by omega)
  generalize us[k + 1] % 2 ^ r = m at *
  have h3 : (2 : Int) ^ (64 - r) * (m + 1) ≤ 2 ^ (64 - r) * 2 ^ r := Int.mul_le_mul_of_nonneg_left (by omega) (by omega)
  rw [Int.mul_add, Int.mul_comm (2 ^ (64 - r)) (2 ^ r), hp] at h3
  have h4 := Int.mul_nonneg (Int.le_of_lt hp1) m0
  exact ⟨by omega, by omega⟩
theorem ld_step {us zs : List Int} {r k : Nat} (h : LdI us zs r k) (hk : k < us.length) (hk1 : k + 1 < us.length) (hr : r < 64) (hu : Words us) (hz : k < zs.length) (u : Int) (e : u = us[k] / 2 ^ r + (us[k + 1] * 2 ^ (64 - r)) % 18446744073709551616) :
    LdI us (zs.set k u) r (k + 1) := by
  obtain ⟨w0, w1, w2⟩ := ld_words hk hk1 hr hu
  rw [← e] at w2
  refine ⟨by simpa using h.len, words_set h.wds _ w2, fun h1 h0 => ?_⟩
  have q := h.eq hk h0
  have hs := shl_mod us[k + 1] (64 - r) (by omega)
  have hp := pow_split r (by omega)
  have t1 : (zs.set k u).take k = zs.take k := by
    rw [List.take_set]
    exact List.set_eq_of_length_le (by simp; omega)
  rw [val64_take _ k (by simpa using hz), val64_take us k hk, List.getElem_set_self, t1, pw64]
  have e1 : (2 : Int) ^ r * u = us[k] - us[k] % 2 ^ r + 18446744073709551616 * (us[k + 1] % 2 ^ r) := by
    rw [e, hs.1, show 64 - (64 - r) = r by omega]
    have := Int.mul_ediv_add_emod us[k] (2 ^ r)
    rw [← hp]
    generalize us[k] / 2 ^ r = a at *
    generalize us[k] % 2 ^ r = b at *
    generalize us[k + 1] % 2 ^ r = c at *
    grind
  generalize us[k + 1] % 2 ^ r = c at *
  generalize us[k] % 2 ^ r = b at *
  generalize us[0] % 2 ^ r = b0 at *
  generalize us[k] = uk at *
  generalize pw64 k = P at *
  generalize val64 (zs.take k) = Z at *
  generalize val64 (us.take k) = U at *
  have : (2 : Int) ^ r * (Z + P * u) = 2 ^ r * Z + P * (2 ^ r * u) := by grind
  rw [this, e1]
  grind
theorem ld_end {us zs : List Int} {r : Nat} {m : Int} (h : LdI us zs r 8) (hl : us.length = 9) (hu : Words us) (hm : val64 us = 2 ^ r * m) (hb : m < pw64 8) : val64 zs = m := by
  have q := h.eq (by omega) (by omega)
  have hp2 : (0 : Int) < 2 ^ r := Int.pow_pos (by decide)
  rw [List.take_of_length_le (by have := h.len; omega)] at q
  have e8 := val64_part us 8 (by omega)
  rw [List.drop_eq_getElem_cons (by omega), List.drop_of_length_le (by omega)] at e8
  simp only [val64, Int.mul_zero, Int.add_zero] at e8
  have hx := words_at hu 8 (by omega)
  have t0 := val64_nonneg (words_take hu 8)
  have l8 : us[8] < 2 ^ r := by
    apply Int.lt_of_not_ge
    intro hge
    have h1 : pw64 8 * (2 : Int) ^ r ≤ pw64 8 * us[8] := Int.mul_le_mul_of_nonneg_left hge (Int.le_of_lt (pq_pos 8))
    have h2 : (2 : Int) ^ r * (m + 1) ≤ 2 ^ r * pw64 8 := Int.mul_le_mul_of_nonneg_left (by omega) (by omega)
    rw [Int.mul_add, Int.mul_comm (2 ^ r) (pw64 8)] at h2
    omega
  rw [Int.emod_eq_of_lt hx.1 l8] at q
  have q2 : (2 : Int) ^ r * val64 zs + us[0] % 2 ^ r = 2 ^ r * m := by omega
  have m1 := Int.emod_lt_of_pos us[0] hp2
  have m0 := Int.emod_nonneg us[0] (b := 2 ^ r) (by omega)
  have e1 : (2 ^ r * m) / 2 ^ r = m := Int.mul_ediv_cancel_left _ (by omega)
  rw [← q2, Int.add_comm, Int.add_mul_ediv_left _ _ (by omega), Int.ediv_eq_zero_of_lt m0 m1] at e1
  omega
end Go.Proofs.Ytllfpnnngdphfaa

/- A product of two rows of words added to a third row, round by round: the reckoning. -/
namespace Go.Proofs.Ytllfpnnngdphfaa
open Go.RowKit
/-- Between the rounds of the outer loop. -/
structure ApI (qs xs ys zs : List Int) (i : Nat) : Prop where
  len : zs.length = qs.length
  wds : Words zs
  eq : val64 zs = val64 qs + val64 (xs.take i) * val64 ys
/-- Between the rounds of the inner loop. -/
structure ApJ (qs xs ys zs : List Int) (i k : Nat) (x o : Int) : Prop where
  len : zs.length = qs.length
  wds : Words zs
  eq : val64 zs + o * pw64 (i + k) = val64 qs + val64 (xs.take i) * val64 ys + x * (pw64 i * val64 (ys.take k))
/-- Between the rounds of the loop that carries on. -/
structure ApC (qs xs ys zs : List Int) (i p : Nat) (o : Int) : Prop where
  len : zs.length = qs.length
  wds : Words zs
  eq : val64 zs + o * pw64 p = val64 qs + val64 (xs.take i) * val64 ys
theorem ap_start {qs : List Int} (xs ys : List Int) (hq : Words qs) : ApI qs xs ys qs 0 := ⟨rfl, hq, by simp [val64]⟩
theorem ap_in {qs xs ys zs : List Int} {i : Nat} (h : ApI qs xs ys zs i) (x : Int) : ApJ qs xs ys zs i 0 x 0 := ⟨h.len, h.wds, by simp [val64, h.eq]⟩
theorem ap_step {qs xs ys zs : List Int} {i k : Nat} {x o : Int} (h : ApJ qs xs ys zs i k x o) (hk : k < ys.length) (hj : i + k < zs.length) (T : Int) (hT : T = x * ys[k] + zs[i + k] + o) (hw : Word (T % 18446744073709551616)) :
    ApJ qs xs ys (zs.set (i + k) (T % 18446744073709551616)) i (k + 1) x (T / 18446744073709551616) := by
  refine ⟨by simpa using h.len, words_set h.wds _ hw, ?_⟩
  rw [val64_set zs _ hj, show i + (k + 1) = (i + k) + 1 by omega, pw64, val64_take ys k hk]
  have e := h.eq
  have e2 : T = T % 18446744073709551616 + 18446744073709551616 * (T / 18446744073709551616) := by omega
  have e3 := pw64_add i k
  generalize T / 18446744073709551616 = q at *
  generalize T % 18446744073709551616 = r at *
  generalize zs[i + k] = zk at *
  generalize ys[k] = yk at *
  generalize pw64 (i + k) = p at *
  subst e2
  grind
theorem ap_out {qs xs ys zs : List Int} {i : Nat} {o : Int} (hi : i < xs.length) (h : ApJ qs xs ys zs i ys.length xs[i] o) : ApC qs xs ys zs (i + 1) (i + ys.length) o := by
  refine ⟨h.len, h.wds, ?_⟩
  have e := h.eq
  rw [show ys.take ys.length = ys from List.take_of_length_le (by omega)] at e
  rw [e, val64_take xs i hi]
  grind
theorem apc_step {qs xs ys zs : List Int} {i p : Nat} {o : Int} (h : ApC qs xs ys zs i p o) (hp : p < zs.length) (ho : Word o) (u c : Int) (hu : u = (zs[p] + o) % 18446744073709551616) (hc : c = (zs[p] + o) / 18446744073709551616) :
    ApC qs xs ys (zs.set p u) i (p + 1) c ∧ Word u ∧ Word c := by
  have hz := words_at h.wds p hp
  have e1 : u + 18446744073709551616 * c = zs[p] + o := by omega
  have hw : Word u := by unfold Word; omega
  refine ⟨⟨by simpa using h.len, words_set h.wds _ hw, ?_⟩, hw, by unfold Word at *; omega⟩
  rw [val64_set zs _ hp, pw64, ← h.eq]
  generalize zs[p] = zp at *
  obtain rfl : zp = u + 18446744073709551616 * c - o := by omega
  grind
theorem val64_take_le {xs : List Int} (h : Words xs) (i : Nat) : val64 (xs.take i) ≤ val64 xs := by
  rcases Nat.lt_or_ge xs.length i with hi | hi
  rotate_left
  · rw [val64_part xs i hi]
    have h1 := val64_nonneg (words_drop h i)
    have h2 := pq_pos i
    have := Int.mul_nonneg (Int.le_of_lt h2) h1
    omega
  · rw [List.take_of_length_le (by omega)]; exact Int.le_refl _
theorem apc_room {qs xs ys zs : List Int} {i p : Nat} {o : Int} (h : ApC qs xs ys zs i p o) (hx : Words xs) (hy : Words ys) (hb : val64 qs + val64 xs * val64 ys < pw64 qs.length) (ho : Word o) (h0 : o ≠ 0) : p < zs.length := by
  rcases Nat.lt_or_ge p zs.length with hp | hp
  · exact hp
  exfalso
  have h1 := val64_take_le hx i
  have h2 := Int.mul_le_mul_of_nonneg_right h1 (val64_nonneg hy)
  have h3 := val64_nonneg h.wds
  have h4 := pw64_mono hp
  have h5 := pq_pos p
  have h6 : 1 * pw64 p ≤ o * pw64 p := Int.mul_le_mul_of_nonneg_right (by unfold Word at ho; omega) (Int.le_of_lt h5)
  have e := h.eq
  rw [h.len] at h4
  omega
theorem apc_done {qs xs ys zs : List Int} {i p : Nat} (h : ApC qs xs ys zs i p 0) : ApI qs xs ys zs i := ⟨h.len, h.wds, by have := h.eq; omega⟩
theorem ap_end {qs xs ys zs : List Int} (h : ApI qs xs ys zs xs.length) : val64 zs = val64 qs + val64 xs * val64 ys := by
  have := h.eq
  rwa [List.take_of_length_le (Nat.le_refl _)] at this
end Go.Proofs.Ytllfpnnngdphfaa

/- A product of two rows of words added to a third row: the program's walk. -/
namespace Go.Proofs.Ytllfpnnngdphfaa
open Go.RowKit
/-- What addProduct leaves: the row with the product added. -/
def AddPP (gp L : Nat) (qs xs ys : List Int) (w : World) (e : Ending) (w' : World) : Prop :=
  ∃ zs : List Int, e = .returned (.tuple #[]) ∧ zs.length = L ∧ Words zs ∧ val64 zs = val64 qs + val64 xs * val64 ys ∧ Blk w' gp (zs.map (Value.int .u64)) ∧ Wrote gp 0 L w w'
theorem mul64n (x y hi lo : Int) (hx : Word x) (hy : Word y) (h1 : x * y / 18446744073709551616 = hi) (h2 : x * y % 18446744073709551616 = lo) (w : World) : Calls Try.prog 73 #[.int .u64 x, .int .u64 y] w (fun e w' => e = .returned (.tuple #[.int .u64 hi, .int .u64 lo]) ∧ w' = w) := by
  refine (mul64 x y hx hy w).mono ?_
  rintro e w' ⟨rfl, rfl⟩
  rw [h1, h2]
  exact ⟨rfl, rfl⟩
theorem add64n (x y s c : Int) (hx : Word x) (hy : Word y) (h1 : (x + y) % 18446744073709551616 = s) (h2 : (x + y) / 18446744073709551616 = c) (w : World) : (callFunc 72 #[.int .u64 x, .int .u64 y, .int .u64 0]).run Try.prog w = .ok (.value (.tuple #[.int .u64 s, .int .u64 c])) w := by
  rw [add64 x y 0 hx hy (by decide) (by decide) w, Int.add_zero, h1, h2]
structure ApW (w wr : World) (gp L g g' : Nat) (xs ys zs : List Int) : Prop where
  wrote : Wrote gp 0 L w wr
  z : Blk wr gp (zs.map (Value.int .u64))
  x : ∀ i, (h : i < xs.length) → wr.cell? ⟨g, i, none⟩ = some (.int .u64 xs[i])
  y : ∀ i, (h : i < ys.length) → wr.cell? ⟨g', i, none⟩ = some (.int .u64 ys[i])
theorem ApW.drewN {w wr : World} {gp L g g' : Nat} {xs ys zs : List Int} (h : ApW w wr gp L g g' xs ys zs) (n : Nat) : ApW w (wr.drewN n) gp L g g' xs ys zs :=
  ⟨⟨h.wrote.os, h.wrote.tape, h.wrote.output, h.wrote.size, h.wrote.block, h.wrote.cell, h.wrote.frz⟩, h.z, h.x, h.y⟩
theorem ApW.set {w wr : World} {gp L g g' : Nat} {xs ys zs : List Int} (h : ApW w wr gp L g g' xs ys zs) (ng : g ≠ gp) (ng' : g' ≠ gp) (j : Nat) (hj : j < zs.length) (hl : j < L) (u : Int) : ApW w (wr.setCell ⟨gp, j, none⟩ (.int .u64 u)) gp L g g' xs ys (zs.set j u) := by
  refine ⟨h.wrote.set j ⟨by omega, by omega⟩ _, ?_, fun i hi => ?_, fun i hi => ?_⟩
  · have := h.z.setI j (by simpa using hj) (.int .u64 u)
    rwa [← List.map_set] at this
  · rw [World.cell?_setCell_other _ _ _ _ (by intro e; simp only [Addr.mk.injEq] at e; exact ng e.1.symm)]; exact h.x i hi
  · rw [World.cell?_setCell_other _ _ _ _ (by intro e; simp only [Addr.mk.injEq] at e; exact ng' e.1.symm)]; exact h.y i hi
theorem ApW.cz {w wr : World} {gp L g g' : Nat} {xs ys zs : List Int} (h : ApW w wr gp L g g' xs ys zs) (j : Nat) (hj : j < zs.length) : wr.cell? ⟨gp, j, none⟩ = some (.int .u64 zs[j]) ∧ wr.frozen? ⟨gp, j, none⟩ = false := ⟨h.z.c j (by simp [hj]), h.z.f j (v := .int .u64 zs[j]) (by simp [hj])⟩
set_option maxRecDepth 100000 in
set_option maxHeartbeats 2000000 in
theorem addProduct_any (gp g g' L cL m cm n cn : Nat) (qs xs ys : List Int) (hq : qs.length = L) (hm : xs.length = m) (hn : ys.length = n) (wq : Words qs) (wx : Words xs) (wy : Words ys) (hb : val64 qs + val64 xs * val64 ys < pw64 L) (hmn : m + n ≤ L) (hL : L ≤ 1000) (ng : g ≠ gp) (ng' : g' ≠ gp) (w : World) (BQ : Blk w gp (qs.map (Value.int .u64))) (RX : Row w g 0 xs) (RY : Row w g' 0 ys) :
    Calls Try.prog 61 #[.slice (some ⟨gp, 0, none⟩) L cL, .slice (some ⟨g, 0, none⟩) m cm, .slice (some ⟨g', 0, none⟩) n cn] w (AddPP gp L qs xs ys w) := by
  have HS : ApW w w gp L g g' xs ys qs := ⟨Wrote.refl _ _ _ _, BQ, fun i h => by have := RX.cell i h; rwa [Nat.zero_add] at this, fun i h => by have := RY.cell i h; rwa [Nat.zero_add] at this⟩
  have HI : ApI qs xs ys qs 0 := ap_start xs ys wq
  have HBD : Hid (val64 qs + val64 xs * val64 ys < pw64 qs.length) := by show _ < _; rw [hq]; exact hb
  have HX : Hid (Words xs) := wx
  have HY : Hid (Words ys) := wy
  have HQ : Hid (qs.length = L) := hq
  have HM : Hid (xs.length = m) := hm
  have HN : Hid (ys.length = n) := hn
  clear BQ RX RY wq wx wy hb hq hm hn
  go_enter Try.func61, Try.ntmps61
  go_wp2_with fail
  go_loopw [17] (fun i wr => ∃ (c : Nat) (zs : List Int), c ≤ m ∧ i = .int .i64 c ∧ ApI qs xs ys zs c ∧ ApW w wr gp L g g' xs ys zs) (fun i _ => m - (intOf i).toNat)
  case atStart => exact ⟨0, _, by omega, rfl, HI, HS⟩
  case round =>
    clear HI HS
    obtain ⟨c, zs, hc, rfl, hI, hT⟩ := hrel
    by_cases hc4 : c < m
    · have hcx : c < xs.length := by have := HM.out; omega
      have HJ := ap_in hI xs[c]
      have HWX := words_at HX.out c hcx
      have hcI : (c : Int) < m := by omega
      have q1 := hT.x c hcx
      clear hI
      go_wp2
      clear q1
      go_loopw [8, 24] (fun o k wr => ∃ (j : Nat) (ov : Int) (zs : List Int), j ≤ n ∧ k = .int .i64 j ∧ Word ov ∧ o = .int .u64 ov ∧ ApJ qs xs ys zs c j xs[c] ov ∧ ApW w wr gp L g g' xs ys zs) (fun _ k _ => n - (intOf k).toNat)
      case atStart => exact ⟨0, 0, _, by omega, rfl, ⟨by decide, by decide⟩, rfl, HJ, hT⟩
      case round =>
        clear HJ hT
        obtain ⟨j, ov, zs', hj, rfl, ho, rfl, hJ, hT⟩ := hrel
        have hlen := hJ.len.trans HQ.out
        by_cases hj4 : j < n
        · have hjy : j < ys.length := by have := HN.out; omega
          have hij : c + j < zs'.length := by omega
          have hijL : c + j < L := by omega
          have q2 := hT.y j hjy
          obtain ⟨q3, q4⟩ := hT.cz (c + j) hij
          have HWY := words_at HY.out j hjy
          have HWZ := words_at hJ.wds (c + j) hij
          obtain ⟨P0, P1⟩ := word_mul HWX HWY
          obtain ⟨hi, ehi⟩ : ∃ v, xs[c] * ys[j] / 18446744073709551616 = v := ⟨_, rfl⟩
          obtain ⟨lo, elo⟩ : ∃ v, xs[c] * ys[j] % 18446744073709551616 = v := ⟨_, rfl⟩
          obtain ⟨t1, t2, t3, t4, t5, t6, t7, t8⟩ := tm_arith P0 P1 HWZ ho
          rw [ehi] at t1 t4 t6
          rw [elo] at t2 t3 t4 t5 t6
          have M1 := mul64n xs[c] ys[j] hi lo HWX HWY ehi elo
          obtain ⟨l1, el1⟩ : ∃ v, (lo + zs'[c + j]) % 18446744073709551616 = v := ⟨_, rfl⟩
          obtain ⟨c1, ec1⟩ : ∃ v, (lo + zs'[c + j]) / 18446744073709551616 = v := ⟨_, rfl⟩
          have A1 := add64n lo zs'[c + j] l1 c1 t2 HWZ el1 ec1
          rw [el1] at t3 t5 t6
          rw [ec1] at t4 t6
          obtain ⟨n1, en1⟩ : ∃ v, (l1 + ov) % 18446744073709551616 = v := ⟨_, rfl⟩
          obtain ⟨c2, ec2⟩ : ∃ v, (l1 + ov) / 18446744073709551616 = v := ⟨_, rfl⟩
          have A2 := add64n l1 ov n1 c2 t3 ho en1 ec2
          rw [en1] at t5
          rw [ec2] at t6
          have R1 := ap_step hJ hjy hij (xs[c] * ys[j] + zs'[c + j] + ov) rfl t8
          have R2 := hT.set ng ng' (c + j) hij hijL n1
          rw [← t5, ← t6] at R1
          rw [← t6] at t7
          have d1 : 0 ≤ hi := t1.1
          have d2 : 0 ≤ c1 := by rw [← ec1]; have := t2.1; have := HWZ.1; omega
          have d3 : 0 ≤ c2 := by rw [← ec2]; have := t3.1; have := ho.1; omega
          obtain ⟨d4, d5⟩ : 0 ≤ hi + c1 + c2 ∧ hi + c1 + c2 < 18446744073709551616 := t7
          clear hJ hT hlen t1 t2 t3 t5 t6 t8 P0 P1 ehi elo el1 ec1 en1 ec2 HWY HWZ
          have hjI : (j : Int) < n := by omega
          have hcj : (c : Int) + j < L := by omega
          go_wp2_with fail
          refine (M1 _).mono ?_
          rintro e w1 ⟨rfl, rfl⟩
          clear M1
          go_wp2
          go_roundw
          case rel => exact ⟨j + 1, _, _, by omega, by go_num, ⟨d4, d5⟩, rfl, R1, R2⟩
          case measure => simp [intOf]; omega
        · obtain rfl : j = n := by omega
          have HC : ApC qs xs ys zs' (c + 1) (c + j) ov := by
            have := ap_out hcx (by rw [HN.out]; exact hJ)
            rwa [HN.out] at this
          clear hJ hlen
          go_wp2
          go_loopw [8, 14] (fun o a wr => ∃ (p : Nat) (ov : Int) (zs : List Int), p ≤ L ∧ a = .int .i64 p ∧ Word ov ∧ o = .int .u64 ov ∧ ApC qs xs ys zs (c + 1) p ov ∧ ApW w wr gp L g g' xs ys zs) (fun _ a _ => L - (intOf a).toNat)
          case atStart => exact ⟨c + j, ov, _, by omega, by go_num, ho, rfl, HC, hT⟩
          case round =>
            clear HC hT ho
            obtain ⟨p, ov, zs', hp, rfl, ho, rfl, hC, hT⟩ := hrel
            have hlen := hC.len.trans HQ.out
            by_cases h0 : ov = 0
            · subst h0
              have hI := apc_done hC
              clear hC
              go_wp2
              go_roundw
              case rel => exact ⟨c + 1, _, by omega, by go_num, hI, hT⟩
              case measure => simp [intOf]; omega
            · have hpz := apc_room hC HX.out HY.out HBD.out ho h0
              have hpL : p < L := by omega
              obtain ⟨q3, q4⟩ := hT.cz p hpz
              have HWZ := words_at hC.wds p hpz
              obtain ⟨u, eu⟩ : ∃ v, (zs'[p] + ov) % 18446744073709551616 = v := ⟨_, rfl⟩
              obtain ⟨c1, ec1⟩ : ∃ v, (zs'[p] + ov) / 18446744073709551616 = v := ⟨_, rfl⟩
              have A1 := add64n zs'[p] ov u c1 HWZ ho eu ec1
              obtain ⟨R1, hu, hc1⟩ := apc_step hC hpz ho u c1 eu.symm ec1.symm
              have R2 := hT.set ng ng' p hpz hpL u
              have hpI : (p : Int) < L := by omega
              have hov : (ov == 0) = false := by simpa using h0
              clear hC hT hlen eu ec1 HWZ
              go_wp2
              go_roundw
              case rel => exact ⟨p + 1, _, _, by omega, by go_num, hc1, rfl, R1, R2⟩
              case measure => simp [intOf]; omega
    · obtain rfl : c = m := by omega
      have hl := hI.len.trans HQ.out
      have hv : val64 zs = val64 qs + val64 xs * val64 ys := ap_end (by rw [HM.out]; exact hI)
      have wz := hI.wds
      have hz := hT.z
      have hw := hT.wrote
      clear hI hT
      go_wp2
      go_end0
      exact ⟨zs, rfl, hl, wz, hv, hz, hw⟩
end Go.Proofs.Ytllfpnnngdphfaa
