/- The walk of the program's comparison of four words. -/
import Derived.Test.YtinilehbhdpdkaaImplB
import Derived.Deep.QuietTactic
import Derived.BigQuiet
namespace Go.Proofs.Ytinilehbhdpdkaa
open Go.RowKit
theorem Wd.new2 (W : World) (o : Obj) (a3 a2 a1 a0 : Int) (T : TypeId) : Wd ((W.alloc o).alloc (Obj.cells #[Value.int IntKind.u64 a3, Value.int IntKind.u64 a2, Value.int IntKind.u64 a1, Value.int IntKind.u64 a0] T)) (W.heap.size + 1) a3 a2 a1 a0 := Wd.new _ _ _ _ _ _ (by simp)
def CutC (w wx : World) (a3 a2 a1 a0 b3 b2 b1 b0 : Int) (p q : Value) : Prop :=
  ∃ g g', p = .pointer (some ⟨g, 0, none⟩) ∧ q = .pointer (some ⟨g', 0, none⟩) ∧ g ≠ g' ∧ w.heap.size ≤ g ∧ w.heap.size ≤ g' ∧ Wd wx g a0 a1 a2 a3 ∧ Wd wx g' b0 b1 b2 b3 ∧ Below w.heap.size w wx
theorem cutC_nn {w X : World} {a3 a2 a1 a0 b3 b2 b1 b0 : Int} {T T' : TypeId} (h : TwoW w X a3 a2 a1 a0 b3 b2 b1 b0) : CutC w ((X.alloc (Obj.cells #[Value.int IntKind.u64 a0, Value.int IntKind.u64 a1, Value.int IntKind.u64 a2, Value.int IntKind.u64 a3] T)).alloc (Obj.cells #[Value.int IntKind.u64 b0, Value.int IntKind.u64 b1, Value.int IntKind.u64 b2, Value.int IntKind.u64 b3] T')) a3 a2 a1 a0 b3 b2 b1 b0 (.pointer (some ⟨X.heap.size, 0, none⟩)) (.pointer (some ⟨X.heap.size + 1, 0, none⟩)) :=
  ⟨_, _, rfl, rfl, by omega, by have := h.b.lt; omega, by have := h.b.lt; omega, (Wd.new _ _ _ _ _ _ rfl).alloc _, Wd.new2 _ _ _ _ _ _ _, ((h.alloc _).alloc _).below⟩
theorem cutC_nn' {w X : World} {a3 a2 a1 a0 b3 b2 b1 b0 : Int} {T T' : TypeId} (h : TwoW w X a3 a2 a1 a0 b3 b2 b1 b0) : CutC w ((X.alloc (Obj.cells #[Value.int IntKind.u64 b0, Value.int IntKind.u64 b1, Value.int IntKind.u64 b2, Value.int IntKind.u64 b3] T)).alloc (Obj.cells #[Value.int IntKind.u64 a0, Value.int IntKind.u64 a1, Value.int IntKind.u64 a2, Value.int IntKind.u64 a3] T')) a3 a2 a1 a0 b3 b2 b1 b0 (.pointer (some ⟨X.heap.size + 1, 0, none⟩)) (.pointer (some ⟨X.heap.size, 0, none⟩)) :=
  ⟨_, _, rfl, rfl, by omega, by have := h.b.lt; omega, by have := h.b.lt; omega, Wd.new2 _ _ _ _ _ _ _, (Wd.new _ _ _ _ _ _ rfl).alloc _, ((h.alloc _).alloc _).below⟩
theorem cutC_sn {w X : World} {a3 a2 a1 a0 b3 b2 b1 b0 y3 y2 y1 y0 : Int} {T : TypeId} {g : Nat} (h : TwoW w X a3 a2 a1 a0 b3 b2 b1 b0) (G : Wd X g y3 y2 y1 y0) (hg : w.heap.size + 1 < g) : CutC w (((((X.setCell ⟨g, 0, none⟩ (.int .u64 a0)).setCell ⟨g, 1, none⟩ (.int .u64 a1)).setCell ⟨g, 2, none⟩ (.int .u64 a2)).setCell ⟨g, 3, none⟩ (.int .u64 a3)).alloc (Obj.cells #[Value.int IntKind.u64 b0, Value.int IntKind.u64 b1, Value.int IntKind.u64 b2, Value.int IntKind.u64 b3] T)) a3 a2 a1 a0 b3 b2 b1 b0 (.pointer (some ⟨g, 0, none⟩)) (.pointer (some ⟨X.heap.size, 0, none⟩)) :=
  ⟨_, _, rfl, rfl, by have := G.lt; omega, by omega, by have := h.b.lt; omega, (G.stored _ _ _ _).alloc _, Wd.new _ _ _ _ _ _ (by simp), ((h.set hg _ _ _ _).alloc _).below⟩
theorem cutC_sn' {w X : World} {a3 a2 a1 a0 b3 b2 b1 b0 y3 y2 y1 y0 : Int} {T : TypeId} {g : Nat} (h : TwoW w X a3 a2 a1 a0 b3 b2 b1 b0) (G : Wd X g y3 y2 y1 y0) (hg : w.heap.size + 1 < g) : CutC w (((((X.setCell ⟨g, 0, none⟩ (.int .u64 b0)).setCell ⟨g, 1, none⟩ (.int .u64 b1)).setCell ⟨g, 2, none⟩ (.int .u64 b2)).setCell ⟨g, 3, none⟩ (.int .u64 b3)).alloc (Obj.cells #[Value.int IntKind.u64 a0, Value.int IntKind.u64 a1, Value.int IntKind.u64 a2, Value.int IntKind.u64 a3] T)) a3 a2 a1 a0 b3 b2 b1 b0 (.pointer (some ⟨X.heap.size, 0, none⟩)) (.pointer (some ⟨g, 0, none⟩)) :=
  ⟨_, _, rfl, rfl, by have := G.lt; omega, by have := h.b.lt; omega, by omega, Wd.new _ _ _ _ _ _ (by simp), (G.stored _ _ _ _).alloc _, ((h.set hg _ _ _ _).alloc _).below⟩
theorem cutC_ss {w X : World} {a3 a2 a1 a0 b3 b2 b1 b0 y3 y2 y1 y0 z3 z2 z1 z0 : Int} {g g' : Nat} (h : TwoW w X a3 a2 a1 a0 b3 b2 b1 b0) (G : Wd X g y3 y2 y1 y0) (G' : Wd X g' z3 z2 z1 z0) (hg : w.heap.size + 1 < g) (hg' : w.heap.size + 1 < g') (hne : g ≠ g') : CutC w ((((((((X.setCell ⟨g, 0, none⟩ (.int .u64 a0)).setCell ⟨g, 1, none⟩ (.int .u64 a1)).setCell ⟨g, 2, none⟩ (.int .u64 a2)).setCell ⟨g, 3, none⟩ (.int .u64 a3)).setCell ⟨g', 0, none⟩ (.int .u64 b0)).setCell ⟨g', 1, none⟩ (.int .u64 b1)).setCell ⟨g', 2, none⟩ (.int .u64 b2)).setCell ⟨g', 3, none⟩ (.int .u64 b3)) a3 a2 a1 a0 b3 b2 b1 b0 (.pointer (some ⟨g, 0, none⟩)) (.pointer (some ⟨g', 0, none⟩)) :=
  ⟨_, _, rfl, rfl, hne, by omega, by omega, (G.stored _ _ _ _).set hne _ _ _ _, (G'.set (fun e => hne e.symm) _ _ _ _).stored _ _ _ _, ((h.set hg _ _ _ _).set hg' _ _ _ _).below⟩
/-- Two rows of words that are only read. -/
structure RowC (w wr : World) (g g' : Nat) (xs ys : List Int) : Prop where
  x : Row wr g 0 xs
  y : Row wr g' 0 ys
  below : Below w.heap.size w wr
theorem rowC_drew {w wr : World} {g g' : Nat} {xs ys : List Int} (h : RowC w wr g g' xs ys) (n : Nat) : RowC w (wr.drewN n) g g' xs ys := ⟨⟨h.x.cell, h.x.frz, h.x.lt⟩, ⟨h.y.cell, h.y.frz, h.y.lt⟩, bdrew h.below n⟩
theorem rowC_start {w wc : World} {g g' : Nat} {a0 a1 a2 a3 b0 b1 b2 b3 x3 y3 : Int} (X : Wd wc g a0 a1 a2 a3) (Y : Wd wc g' b0 b1 b2 b3) (hne : g ≠ g') (hg : w.heap.size ≤ g) (hg' : w.heap.size ≤ g') (HB : Below w.heap.size w wc) :
    RowC w ((wc.setCell ⟨g, 3, none⟩ (.int .u64 x3)).setCell ⟨g', 3, none⟩ (.int .u64 y3)) g g' [a0, a1, a2, x3] [b0, b1, b2, y3] := by
  have x0c := X.c0; have x1c := X.c1; have x2c := X.c2; have x3c := X.c3; have x0f := X.f0; have x1f := X.f1; have x2f := X.f2; have x3f := X.f3
  have y0c := Y.c0; have y1c := Y.c1; have y2c := Y.c2; have y3c := Y.c3; have y0f := Y.f0; have y1f := Y.f1; have y2f := Y.f2; have y3f := Y.f3
  have hn : ∀ i j, (⟨g', i, none⟩ : Addr) ≠ ⟨g, j, none⟩ := by intro i j e; simp only [Addr.mk.injEq] at e; exact hne e.1.symm
  have hn' : ∀ i j, (⟨g, i, none⟩ : Addr) ≠ ⟨g', j, none⟩ := by intro i j e; simp only [Addr.mk.injEq] at e; exact hne e.1
  have ho : ∀ c i j, i ≠ j → (⟨c, i, none⟩ : Addr) ≠ ⟨c, j, none⟩ := by intro c i j h e; simp only [Addr.mk.injEq] at e; exact h e.2.1
  have y3s : (wc.setCell ⟨g, 3, none⟩ (.int .u64 x3)).cell? ⟨g', 3, none⟩ = some (.int .u64 b3) := (World.cell?_setCell_other _ _ _ _ (hn' 3 3)).trans y3c
  refine ⟨row_of4 (by simpa [World.setCell] using X.lt) ?_ ?_ ?_ ?_ (by simp [go_sem, x0f]) (by simp [go_sem, x1f]) (by simp [go_sem, x2f]) (by simp [go_sem, x3f]), row_of4 (by simpa [World.setCell] using Y.lt) ?_ ?_ ?_ ?_ (by simp [go_sem, y0f]) (by simp [go_sem, y1f]) (by simp [go_sem, y2f]) (by simp [go_sem, y3f]), (HB.setCell hg _).setCell hg' _⟩
  · exact (World.cell?_setCell_other _ _ _ _ (hn 3 0)).trans ((World.cell?_setCell_other _ _ _ _ (ho g 3 0 (by decide))).trans x0c)
  · exact (World.cell?_setCell_other _ _ _ _ (hn 3 1)).trans ((World.cell?_setCell_other _ _ _ _ (ho g 3 1 (by decide))).trans x1c)
  · exact (World.cell?_setCell_other _ _ _ _ (hn 3 2)).trans ((World.cell?_setCell_other _ _ _ _ (ho g 3 2 (by decide))).trans x2c)
  · exact (World.cell?_setCell_other _ _ _ _ (hn 3 3)).trans (World.cell?_setCell_same _ _ _ x3c)
  · exact (World.cell?_setCell_other _ _ _ _ (ho g' 3 0 (by decide))).trans ((World.cell?_setCell_other _ _ _ _ (hn' 3 0)).trans y0c)
  · exact (World.cell?_setCell_other _ _ _ _ (ho g' 3 1 (by decide))).trans ((World.cell?_setCell_other _ _ _ _ (hn' 3 1)).trans y1c)
  · exact (World.cell?_setCell_other _ _ _ _ (ho g' 3 2 (by decide))).trans ((World.cell?_setCell_other _ _ _ _ (hn' 3 2)).trans y2c)
  · exact World.cell?_setCell_same _ _ _ y3s
theorem xorTop (a : Nat) (h : a < 2 ^ 63) : a ^^^ 2 ^ 63 = 2 ^ 63 + a := by
  apply Nat.eq_of_testBit_eq
  intro i
  rw [Nat.testBit_xor, Nat.testBit_two_pow]
  rcases Nat.lt_trichotomy i 63 with h1 | h1 | h1
  · rw [Nat.testBit_two_pow_add_gt h1]
    have : decide (63 = i) = false := by rw [decide_eq_false_iff_not]; omega
    rw [this]; simp
  · subst h1; rw [Nat.testBit_two_pow_add_eq]; simp
  · have e1 : a.testBit i = false := Nat.testBit_lt_two_pow (Nat.lt_of_lt_of_le h (Nat.pow_le_pow_right (by decide) (by omega)))
    have e2 : (2 ^ 63 + a).testBit i = false := Nat.testBit_lt_two_pow (by
      have : 2 ^ 64 ≤ 2 ^ i := Nat.pow_le_pow_right (by decide) (by omega)
      omega)
    rw [e1, e2]; simp; omega
theorem xorTop2 (a : Nat) (h' : 2 ^ 63 ≤ a) (h : a < 2 ^ 64) : a ^^^ 2 ^ 63 = a - 2 ^ 63 := by
  obtain ⟨b, rfl⟩ : ∃ b, a = 2 ^ 63 + b := ⟨a - 2 ^ 63, by omega⟩
  rw [Nat.add_sub_cancel_left, ← xorTop b (by omega), Nat.xor_assoc, Nat.xor_self, Nat.xor_zero]
theorem top_sw {a3 a2 a1 a0 x3 : Int} (h3 : Word a3) (_h2 : Word a2) (_h1 : Word a1) (_h0 : Word a0) (hx : bits .xor .u64 a3 9223372036854775808 = x3) : Word x3 ∧ uw x3 a2 a1 a0 = sw a3 a2 a1 a0 + 57896044618658097711785492504343953926634992332820282019728792003956564819968 := by
  have h3' := h3
  obtain ⟨l3, u3⟩ := h3'
  obtain ⟨a, rfl⟩ := Int.eq_ofNat_of_zero_le l3
  have e := bits_xor_u64_nat a (2 ^ 63) (by omega) (by decide)
  rw [show ((2 ^ 63 : Nat) : Int) = 9223372036854775808 by decide] at e
  rw [e] at hx
  by_cases hp : a < 2 ^ 63
  · rw [xorTop a hp] at hx
    subst hx
    unfold Word sw uw at *
    rw [if_pos (by omega)]
    omega
  · rw [xorTop2 a (by omega) (by omega)] at hx
    subst hx
    unfold Word sw uw at *
    rw [if_neg (by omega)]
    omega
theorem pw64_pos (n : Nat) : 0 < pw64 n := by
  induction n with
  | zero => simp [pw64]
  | succ n ih => simp only [pw64]; omega
theorem val64_lt {a : List Int} (h : Words a) : 0 ≤ val64 a ∧ val64 a < pw64 a.length := by
  induction a with
  | nil => simp [val64, pw64]
  | cons d t ih =>
    have h1 := h d (by simp)
    have h2 := ih (fun x hx => h x (by simp [hx]))
    unfold Word at h1
    simp only [val64, List.length_cons, pw64]; omega
theorem val64_append (a b : List Int) : val64 (a ++ b) = val64 a + pw64 a.length * val64 b := by
  induction a with
  | nil => simp [val64, pw64]
  | cons d t ih => simp only [List.cons_append, val64, List.length_cons, pw64, ih]; grind
theorem val64_split (a : List Int) (k : Nat) (h : k < a.length) : val64 a = val64 (a.take k) + pw64 k * (a[k] + 18446744073709551616 * val64 (a.drop (k + 1))) := by
  have h1 := val64_append (a.take k) (a.drop k)
  rw [List.take_append_drop, List.drop_eq_getElem_cons h] at h1
  simpa [val64, Nat.min_eq_left (Nat.le_of_lt h)] using h1
theorem val64_above {a b : List Int} (ha : Words a) (hb : Words b) (k : Nat) (h1 : k < a.length) (h2 : k < b.length) (he : a.drop (k + 1) = b.drop (k + 1)) (hlt : a[k] < b[k]) : val64 a < val64 b := by
  rw [val64_split a k h1, val64_split b k h2, he]
  have e1 := val64_lt (a := a.take k) (fun x hx => ha x (List.mem_of_mem_take hx))
  have e2 := val64_lt (a := b.take k) (fun x hx => hb x (List.mem_of_mem_take hx))
  have e3 : (a.take k).length = k := by simp; omega
  rw [e3] at e1
  have e4 := pw64_pos k
  generalize pw64 k = p at *
  generalize 18446744073709551616 * val64 (List.drop (k + 1) b) = r
  have e5 : p * (a[k] + r) + p ≤ p * (b[k] + r) := by
    have : p * (a[k] + r + 1) ≤ p * (b[k] + r) := Int.mul_le_mul_of_nonneg_left (by omega) (by omega)
    rw [Int.mul_add p (a[k] + r) 1] at this
    omega
  omega
set_option maxRecDepth 100000 in
set_option maxHeartbeats 4000000 in
theorem implCmp_any (a3 a2 a1 a0 b3 b2 b1 b0 : Int) (h3 : Word a3) (h2 : Word a2) (h1 : Word a1) (h0 : Word a0) (k3 : Word b3) (k2 : Word b2) (k1 : Word b1) (k0 : Word b0) (w : World) :
    Calls Try.prog 14 #[.agg #[.int .u64 a3, .int .u64 a2, .int .u64 a1, .int .u64 a0], .agg #[.int .u64 b3, .int .u64 b2, .int .u64 b1, .int .u64 b0]] w (IntP (cmpI (sw a3 a2 a1 a0) (sw b3 b2 b1 b0)) w) := by
  have T0 := twoW_start w a3 a2 a1 a0 b3 b2 b1 b0 26
  have tok1 : True := trivial
  go_enter Try.func14, Try.ntmps14
  go_upto_region 1 with fail
  generalize (w.alloc (Obj.cells #[Value.int IntKind.u64 a3, Value.int IntKind.u64 a2, Value.int IntKind.u64 a1, Value.int IntKind.u64 a0] 26)).alloc (Obj.cells #[Value.int IntKind.u64 b3, Value.int IntKind.u64 b2, Value.int IntKind.u64 b1, Value.int IntKind.u64 b0] 26) = W at *
  go_cut [5, 6] (fun p q wx => CutC w wx a3 a2 a1 a0 b3 b2 b1 b0 p q)
  case first =>
    go_region_held3 (fun w' => w'.cell? ⟨w.heap.size, 0, none⟩ = some (.int .u64 a3) ∧ w'.cell? ⟨w.heap.size, 1, none⟩ = some (.int .u64 a2) ∧ w'.cell? ⟨w.heap.size, 2, none⟩ = some (.int .u64 a1) ∧ w'.cell? ⟨w.heap.size, 3, none⟩ = some (.int .u64 a0) ∧ w'.cell? ⟨w.heap.size + 1, 0, none⟩ = some (.int .u64 b3) ∧ w'.cell? ⟨w.heap.size + 1, 1, none⟩ = some (.int .u64 b2) ∧ w'.cell? ⟨w.heap.size + 1, 2, none⟩ = some (.int .u64 b1) ∧ w'.cell? ⟨w.heap.size + 1, 3, none⟩ = some (.int .u64 b0)) (first | (with_reducible exact cells8x T0) | (with_reducible exact cells8x T0.drew) | (with_reducible exact cells8x (T0.alloc _)) | (with_reducible exact cells8x (T0.alloc _).drew) | (with_reducible exact cells8x ((T0.alloc _).alloc _)) | (with_reducible exact cells8x ((T0.alloc _).alloc _).drew) | (with_reducible exact cells8x (T0.set (by omega) _ _ _ _)) | (with_reducible exact cells8x ((T0.set (by omega) _ _ _ _).alloc _)) | (with_reducible exact cells8x ((T0.set (by omega) _ _ _ _).set (by omega) _ _ _ _)) | (exact cells8x T0.drew) | skip)
      (first
        | (go_at_call 20; have _t := tok1; refine (wordsOf_any a3 a2 a1 a0 _).mono ?_; rintro e w1 ⟨rfl, hB⟩; (first | (have T1 : TwoW w w1 a3 a2 a1 a0 b3 b2 b1 b0 := (by with_reducible exact T0.step hB); have hltw1 := T0.b.lt; try (replace G0 := G0.step hB; have z0c := G0.c0; have z1c := G0.c1; have z2c := G0.c2; have z3c := G0.c3; have z0f := G0.f0; have z1f := G0.f1; have z2f := G0.f2; have z3f := G0.f3; have zlt := G0.lt); try (replace G1 := G1.step hB; have y0c := G1.c0; have y1c := G1.c1; have y2c := G1.c2; have y3c := G1.c3; have y0f := G1.f0; have y1f := G1.f1; have y2f := G1.f2; have y3f := G1.f3; have ylt := G1.lt)) | (have T1 : TwoW w w1 a3 a2 a1 a0 b3 b2 b1 b0 := (by with_reducible exact T0.drew.step hB); have hltw1 := T0.b.lt; try (replace G0 := G0.drew.step hB; have z0c := G0.c0; have z1c := G0.c1; have z2c := G0.c2; have z3c := G0.c3; have z0f := G0.f0; have z1f := G0.f1; have z2f := G0.f2; have z3f := G0.f3; have zlt := G0.lt); try (replace G1 := G1.drew.step hB; have y0c := G1.c0; have y1c := G1.c1; have y2c := G1.c2; have y3c := G1.c3; have y0f := G1.f0; have y1f := G1.f1; have y2f := G1.f2; have y3f := G1.f3; have ylt := G1.lt)) | (have T1 : TwoW w w1 a3 a2 a1 a0 b3 b2 b1 b0 := (by with_reducible exact (T0.alloc _).step hB); have hltw1 := T0.b.lt; (first | (have G1 := (Wd.new _ 0 0 0 0 _ rfl).step hB; have hgg := G0.lt; replace G0 := (G0.alloc _).step hB; have z0c := G0.c0; have z1c := G0.c1; have z2c := G0.c2; have z3c := G0.c3; have z0f := G0.f0; have z1f := G0.f1; have z2f := G0.f2; have z3f := G0.f3; have zlt := G0.lt; have y0c := G1.c0; have y1c := G1.c1; have y2c := G1.c2; have y3c := G1.c3; have y0f := G1.f0; have y1f := G1.f1; have y2f := G1.f2; have y3f := G1.f3; have ylt := G1.lt) | (have G0 := (Wd.new _ 0 0 0 0 _ rfl).step hB; have z0c := G0.c0; have z1c := G0.c1; have z2c := G0.c2; have z3c := G0.c3; have z0f := G0.f0; have z1f := G0.f1; have z2f := G0.f2; have z3f := G0.f3; have zlt := G0.lt))) | (have T1 : TwoW w w1 a3 a2 a1 a0 b3 b2 b1 b0 := (by with_reducible exact (T0.alloc _).drew.step hB); have hltw1 := T0.b.lt; (first | (have G1 := (Wd.new _ 0 0 0 0 _ rfl).drew.step hB; have hgg := G0.lt; replace G0 := (G0.alloc _).drew.step hB; have z0c := G0.c0; have z1c := G0.c1; have z2c := G0.c2; have z3c := G0.c3; have z0f := G0.f0; have z1f := G0.f1; have z2f := G0.f2; have z3f := G0.f3; have zlt := G0.lt; have y0c := G1.c0; have y1c := G1.c1; have y2c := G1.c2; have y3c := G1.c3; have y0f := G1.f0; have y1f := G1.f1; have y2f := G1.f2; have y3f := G1.f3; have ylt := G1.lt) | (have G0 := (Wd.new _ 0 0 0 0 _ rfl).drew.step hB; have z0c := G0.c0; have z1c := G0.c1; have z2c := G0.c2; have z3c := G0.c3; have z0f := G0.f0; have z1f := G0.f1; have z2f := G0.f2; have z3f := G0.f3; have zlt := G0.lt))) | (have T1 : TwoW w w1 a3 a2 a1 a0 b3 b2 b1 b0 := (by with_reducible exact ((T0.alloc _).alloc _).step hB); have hltw1 := T0.b.lt; have G0 := ((Wd.new _ 0 0 0 0 _ rfl).alloc _).step hB; have G1 := (Wd.new2 _ _ 0 0 0 0 _).step hB; have z0c := G0.c0; have z1c := G0.c1; have z2c := G0.c2; have z3c := G0.c3; have z0f := G0.f0; have z1f := G0.f1; have z2f := G0.f2; have z3f := G0.f3; have zlt := G0.lt; have y0c := G1.c0; have y1c := G1.c1; have y2c := G1.c2; have y3c := G1.c3; have y0f := G1.f0; have y1f := G1.f1; have y2f := G1.f2; have y3f := G1.f3; have ylt := G1.lt) | (have T1 : TwoW w w1 a3 a2 a1 a0 b3 b2 b1 b0 := (by with_reducible exact ((T0.alloc _).alloc _).drew.step hB); have hltw1 := T0.b.lt; have G0 := ((Wd.new _ 0 0 0 0 _ rfl).alloc _).drew.step hB; have G1 := (Wd.new2 _ _ 0 0 0 0 _).drew.step hB; have z0c := G0.c0; have z1c := G0.c1; have z2c := G0.c2; have z3c := G0.c3; have z0f := G0.f0; have z1f := G0.f1; have z2f := G0.f2; have z3f := G0.f3; have zlt := G0.lt; have y0c := G1.c0; have y1c := G1.c1; have y2c := G1.c2; have y3c := G1.c3; have y0f := G1.f0; have y1f := G1.f1; have y2f := G1.f2; have y3f := G1.f3; have ylt := G1.lt)); clear T0; have T0 := T1; clear T1; clear tok1 _t hB)
        | (go_at_call 20; refine (wordsOf_any b3 b2 b1 b0 _).mono ?_; rintro e w2 ⟨rfl, hB⟩; (first | (have T1 : TwoW w w2 a3 a2 a1 a0 b3 b2 b1 b0 := (by with_reducible exact T0.step hB); have hltw2 := T0.b.lt; try (replace G0 := G0.step hB; have z0c := G0.c0; have z1c := G0.c1; have z2c := G0.c2; have z3c := G0.c3; have z0f := G0.f0; have z1f := G0.f1; have z2f := G0.f2; have z3f := G0.f3; have zlt := G0.lt); try (replace G1 := G1.step hB; have y0c := G1.c0; have y1c := G1.c1; have y2c := G1.c2; have y3c := G1.c3; have y0f := G1.f0; have y1f := G1.f1; have y2f := G1.f2; have y3f := G1.f3; have ylt := G1.lt)) | (have T1 : TwoW w w2 a3 a2 a1 a0 b3 b2 b1 b0 := (by with_reducible exact T0.drew.step hB); have hltw2 := T0.b.lt; try (replace G0 := G0.drew.step hB; have z0c := G0.c0; have z1c := G0.c1; have z2c := G0.c2; have z3c := G0.c3; have z0f := G0.f0; have z1f := G0.f1; have z2f := G0.f2; have z3f := G0.f3; have zlt := G0.lt); try (replace G1 := G1.drew.step hB; have y0c := G1.c0; have y1c := G1.c1; have y2c := G1.c2; have y3c := G1.c3; have y0f := G1.f0; have y1f := G1.f1; have y2f := G1.f2; have y3f := G1.f3; have ylt := G1.lt)) | (have T1 : TwoW w w2 a3 a2 a1 a0 b3 b2 b1 b0 := (by with_reducible exact (T0.alloc _).step hB); have hltw2 := T0.b.lt; (first | (have G1 := (Wd.new _ 0 0 0 0 _ rfl).step hB; have hgg := G0.lt; replace G0 := (G0.alloc _).step hB; have z0c := G0.c0; have z1c := G0.c1; have z2c := G0.c2; have z3c := G0.c3; have z0f := G0.f0; have z1f := G0.f1; have z2f := G0.f2; have z3f := G0.f3; have zlt := G0.lt; have y0c := G1.c0; have y1c := G1.c1; have y2c := G1.c2; have y3c := G1.c3; have y0f := G1.f0; have y1f := G1.f1; have y2f := G1.f2; have y3f := G1.f3; have ylt := G1.lt) | (have G0 := (Wd.new _ 0 0 0 0 _ rfl).step hB; have z0c := G0.c0; have z1c := G0.c1; have z2c := G0.c2; have z3c := G0.c3; have z0f := G0.f0; have z1f := G0.f1; have z2f := G0.f2; have z3f := G0.f3; have zlt := G0.lt))) | (have T1 : TwoW w w2 a3 a2 a1 a0 b3 b2 b1 b0 := (by with_reducible exact (T0.alloc _).drew.step hB); have hltw2 := T0.b.lt; (first | (have G1 := (Wd.new _ 0 0 0 0 _ rfl).drew.step hB; have hgg := G0.lt; replace G0 := (G0.alloc _).drew.step hB; have z0c := G0.c0; have z1c := G0.c1; have z2c := G0.c2; have z3c := G0.c3; have z0f := G0.f0; have z1f := G0.f1; have z2f := G0.f2; have z3f := G0.f3; have zlt := G0.lt; have y0c := G1.c0; have y1c := G1.c1; have y2c := G1.c2; have y3c := G1.c3; have y0f := G1.f0; have y1f := G1.f1; have y2f := G1.f2; have y3f := G1.f3; have ylt := G1.lt) | (have G0 := (Wd.new _ 0 0 0 0 _ rfl).drew.step hB; have z0c := G0.c0; have z1c := G0.c1; have z2c := G0.c2; have z3c := G0.c3; have z0f := G0.f0; have z1f := G0.f1; have z2f := G0.f2; have z3f := G0.f3; have zlt := G0.lt))) | (have T1 : TwoW w w2 a3 a2 a1 a0 b3 b2 b1 b0 := (by with_reducible exact ((T0.alloc _).alloc _).step hB); have hltw2 := T0.b.lt; have G0 := ((Wd.new _ 0 0 0 0 _ rfl).alloc _).step hB; have G1 := (Wd.new2 _ _ 0 0 0 0 _).step hB; have z0c := G0.c0; have z1c := G0.c1; have z2c := G0.c2; have z3c := G0.c3; have z0f := G0.f0; have z1f := G0.f1; have z2f := G0.f2; have z3f := G0.f3; have zlt := G0.lt; have y0c := G1.c0; have y1c := G1.c1; have y2c := G1.c2; have y3c := G1.c3; have y0f := G1.f0; have y1f := G1.f1; have y2f := G1.f2; have y3f := G1.f3; have ylt := G1.lt) | (have T1 : TwoW w w2 a3 a2 a1 a0 b3 b2 b1 b0 := (by with_reducible exact ((T0.alloc _).alloc _).drew.step hB); have hltw2 := T0.b.lt; have G0 := ((Wd.new _ 0 0 0 0 _ rfl).alloc _).drew.step hB; have G1 := (Wd.new2 _ _ 0 0 0 0 _).drew.step hB; have z0c := G0.c0; have z1c := G0.c1; have z2c := G0.c2; have z3c := G0.c3; have z0f := G0.f0; have z1f := G0.f1; have z2f := G0.f2; have z3f := G0.f3; have zlt := G0.lt; have y0c := G1.c0; have y1c := G1.c1; have y2c := G1.c2; have y3c := G1.c3; have y0f := G1.f0; have y1f := G1.f1; have y2f := G1.f2; have y3f := G1.f3; have ylt := G1.lt)); clear T0; have T0 := T1; clear T1; clear hB))
    all_goals go_wp2_with fail
    all_goals go_meet
    all_goals first | (with_reducible exact cutC_nn T0) | (with_reducible exact cutC_nn' T0) | (with_reducible exact cutC_sn T0 G0 (by omega)) | (with_reducible exact cutC_sn' T0 G0 (by omega)) | (with_reducible exact cutC_ss T0 G0 G1 (by omega) (by omega) (by omega)) | (with_reducible exact cutC_ss T0 G1 G0 (by omega) (by omega) (by omega))
  case rest =>
    clear T0 tok1
    obtain ⟨g, g', hp, hq, hne, hg, hg', X, Y, HB0⟩ := hcut
    subst hp; subst hq
    obtain ⟨x3, hx⟩ : ∃ x, bits .xor .u64 a3 9223372036854775808 = x := ⟨_, rfl⟩
    obtain ⟨y3, hy⟩ : ∃ y, bits .xor .u64 b3 9223372036854775808 = y := ⟨_, rfl⟩
    obtain ⟨wx3, ex⟩ := top_sw h3 h2 h1 h0 hx
    obtain ⟨wy3, ey⟩ := top_sw k3 k2 k1 k0 hy
    have HS : RowC w ((wc.setCell ⟨g, 3, none⟩ (.int .u64 x3)).setCell ⟨g', 3, none⟩ (.int .u64 y3)) g g' [a0, a1, a2, x3] [b0, b1, b2, y3] := rowC_start X Y hne hg hg' HB0
    have HX : Hid (Words [a0, a1, a2, x3]) := words4 h0 h1 h2 wx3
    have HY : Hid (Words [b0, b1, b2, y3]) := words4 k0 k1 k2 wy3
    have HE : Hid (cmpI (val64 [a0, a1, a2, x3]) (val64 [b0, b1, b2, y3]) = cmpI (sw a3 a2 a1 a0) (sw b3 b2 b1 b0)) := by show _ = _; rw [val64_4, val64_4, ex, ey]; unfold cmpI; by_cases p : sw a3 a2 a1 a0 < sw b3 b2 b1 b0 <;> by_cases q : sw b3 b2 b1 b0 < sw a3 a2 a1 a0 <;> simp [p, q]
    have x0c := X.c0; have x1c := X.c1; have x2c := X.c2; have x3c := X.c3; have x0f := X.f0; have x1f := X.f1; have x2f := X.f2; have x3f := X.f3
    have y0c := Y.c0; have y1c := Y.c1; have y2c := Y.c2; have y3c := Y.c3; have y0f := Y.f0; have y1f := Y.f1; have y2f := Y.f2; have y3f := Y.f3
    clear ex ey X Y HB0
    go_wp2
    clear x0c x1c x2c x3c x0f x1f x2f x3f y0c y1c y2c y3c y0f y1f y2f y3f hx hy
    generalize hxs : [a0, a1, a2, x3] = xs at *
    generalize hys : [b0, b1, b2, y3] = ys at *
    have hlx : xs.length = 4 := by rw [← hxs]; rfl
    have hly : ys.length = 4 := by rw [← hys]; rfl
    have HLX : Hid (xs.length = 4) := hlx
    have HLY : Hid (ys.length = 4) := hly
    clear hxs hys hlx hly wx3 wy3
    go_loopw [7] (fun i wr => ∃ k : Nat, k ≤ 4 ∧ i = .int .i64 ((k : Int) - 1) ∧ xs.drop k = ys.drop k ∧ RowC w wr g g' xs ys) (fun i _ => (intOf i + 1).toNat)
    case atStart => exact ⟨4, Nat.le_refl _, rfl, by rw [List.drop_of_length_le (by have := HLX.out; omega), List.drop_of_length_le (by have := HLY.out; omega)], HS⟩
    case round =>
      obtain ⟨k, hk, rfl, hz, hR⟩ := hrel
      have HZ : Hid (xs.drop k = ys.drop k) := hz
      clear hz HS
      by_cases hk0 : 0 < k
      · obtain ⟨m, rfl⟩ : ∃ m, k = m + 1 := ⟨k - 1, by omega⟩
        have hmx : m < xs.length := by have := HLX.out; omega
        have hmy : m < ys.length := by have := HLY.out; omega
        have hcx : wr.cell? ⟨g, m, none⟩ = some (.int .u64 xs[m]) := by simpa using hR.x.cell m hmx
        have hcy : wr.cell? ⟨g', m, none⟩ = some (.int .u64 ys[m]) := by simpa using hR.y.cell m hmy
        rw [show (((m + 1 : Nat) : Int) - 1) = (m : Int) by omega]
        have hm4 : (m : Int) < 4 := by omega
        rcases Int.lt_trichotomy xs[m] ys[m] with hlt | heq | hgt
        · go_wp2
          go_quiet (fail)
          go_wp2
          go_ret
          exact ⟨ret_int (HE.out.symm.trans (cmpI_lt (val64_above HX.out HY.out m hmx hmy HZ.out hlt))), bdrew hR.below _⟩
        · have h1 : ¬ xs[m] < ys[m] := by omega
          have h2 : ¬ ys[m] < xs[m] := by omega
          have HQ : Hid (xs[m] = ys[m]) := heq
          clear heq
          go_wp2
          go_quiet (fail)
          go_wp2
          go_quiet (fail)
          go_wp2
          go_roundw
          case rel => exact ⟨m, by omega, rfl, by rw [List.drop_eq_getElem_cons hmx, List.drop_eq_getElem_cons hmy, HZ.out, HQ.out], rowC_drew hR _⟩
          case measure => simp [intOf]
        · have h1 : ¬ xs[m] < ys[m] := by omega
          go_wp2
          go_quiet (fail)
          go_wp2
          go_quiet (fail)
          go_wp2
          go_ret
          exact ⟨ret_int (HE.out.symm.trans (cmpI_gt (val64_above HY.out HX.out m hmy hmx HZ.out.symm hgt))), by first | exact bdrew hR.below _ | exact bdrew (bdrew hR.below _) _⟩
      · go_wp2
        go_ret
        exact ⟨ret_int (HE.out.symm.trans (cmpI_eq (by
          have : k = 0 := by omega
          subst this
          have := HZ.out
          simp only [List.drop_zero] at this
          rw [this]))), hR.below⟩
end Go.Proofs.Ytinilehbhdpdkaa
