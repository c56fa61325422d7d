/- Part 3 of the walks that the proof leans on. -/
import Derived.Test.YtnnojeggjnddpaaPart2
import Derived.Deep.RegionHeld3
import Derived.Deep.DeepCutAuto
import Derived.Deep.QuietTactic
import Derived.BigQuiet
import Derived.Laws.BytesArg
import Derived.Test.YtnnojeggjnddpaaPart1
import Derived.Laws.BitsLemmas
/- The walks of the program's sum and difference of four words. -/
namespace Go.Proofs.Ytnnojeggjnddpaa
open Go.RowKit
/-- What stands behind the sum's first statement. -/
def CutP (rel : Int → Int → Int → Int → Prop) (w wx : World) (a3 a2 a1 a0 b3 b2 b1 b0 : Int) (p : Value) : Prop :=
  ∃ g z3 z2 z1 z0, p = .pointer (some ⟨g, 0, none⟩) ∧ TwoW w wx a3 a2 a1 a0 b3 b2 b1 b0 ∧ Wd wx (w.heap.size + 1 + 1) 0 0 0 0 ∧ Wd wx g z3 z2 z1 z0 ∧ w.heap.size + 1 + 1 < g ∧ rel z3 z2 z1 z0
theorem cut_new {rel : Int → Int → Int → Int → Prop} {w wx : World} {a3 a2 a1 a0 b3 b2 b1 b0 z3 z2 z1 z0 : Int} {T : TypeId} (h : TwoW w wx a3 a2 a1 a0 b3 b2 b1 b0) (r : Wd wx (w.heap.size + 1 + 1) 0 0 0 0) (hr : rel z3 z2 z1 z0) :
    CutP rel w (wx.alloc (Obj.cells #[Value.int IntKind.u64 z3, Value.int IntKind.u64 z2, Value.int IntKind.u64 z1, Value.int IntKind.u64 z0] T)) a3 a2 a1 a0 b3 b2 b1 b0 (.pointer (some ⟨wx.heap.size, 0, none⟩)) :=
  ⟨_, z3, z2, z1, z0, rfl, h.alloc _, r.alloc _, Wd.new _ _ _ _ _ _ rfl, r.lt, hr⟩
theorem Wd.stored {W : World} {g : Nat} {a3 a2 a1 a0 : Int} (h : Wd W g a3 a2 a1 a0) (z3 z2 z1 z0 : Int) : Wd ((((W.setCell ⟨g, 0, none⟩ (.int .u64 z3)).setCell ⟨g, 1, none⟩ (.int .u64 z2)).setCell ⟨g, 2, none⟩ (.int .u64 z1)).setCell ⟨g, 3, none⟩ (.int .u64 z0)) g z3 z2 z1 z0 := by
  have e0 := h.c0; have e1 := h.c1; have e2 := h.c2; have e3 := h.c3
  have p0 := h.f0; have p1 := h.f1; have p2 := h.f2; have p3 := h.f3
  exact ⟨by simp [go_sem, e0], by simp [go_sem, e1], by simp [go_sem, e2], by simp [go_sem, e3], by simp [go_sem, p0], by simp [go_sem, p1], by simp [go_sem, p2], by simp [go_sem, p3], by simpa [World.setCell] using h.lt⟩
theorem cut_set {rel : Int → Int → Int → Int → Prop} {w wx : World} {a3 a2 a1 a0 b3 b2 b1 b0 y3 y2 y1 y0 z3 z2 z1 z0 : Int} {g : Nat} (h : TwoW w wx a3 a2 a1 a0 b3 b2 b1 b0) (r : Wd wx (w.heap.size + 1 + 1) 0 0 0 0) (G : Wd wx g y3 y2 y1 y0) (hg : w.heap.size + 1 + 1 < g) (hr : rel z3 z2 z1 z0) :
    CutP rel w ((((wx.setCell ⟨g, 0, none⟩ (.int .u64 z3)).setCell ⟨g, 1, none⟩ (.int .u64 z2)).setCell ⟨g, 2, none⟩ (.int .u64 z1)).setCell ⟨g, 3, none⟩ (.int .u64 z0)) a3 a2 a1 a0 b3 b2 b1 b0 (.pointer (some ⟨g, 0, none⟩)) :=
  ⟨g, z3, z2, z1, z0, rfl, h.set (by omega) _ _ _ _, r.set (by omega) _ _ _ _, G.stored _ _ _ _, hg, hr⟩
theorem cut_drew {rel : Int → Int → Int → Int → Prop} {w wx : World} {a3 a2 a1 a0 b3 b2 b1 b0 : Int} {p : Value} (h : CutP rel w wx a3 a2 a1 a0 b3 b2 b1 b0 p) : CutP rel w wx.drew a3 a2 a1 a0 b3 b2 b1 b0 p := by
  obtain ⟨g, z3, z2, z1, z0, e, T, R, G, hg, hr⟩ := h
  exact ⟨g, z3, z2, z1, z0, e, T.drew, R.drew, G.drew, hg, hr⟩
theorem cells8x {w W : World} {a3 a2 a1 a0 b3 b2 b1 b0 : Int} (h : TwoW w W a3 a2 a1 a0 b3 b2 b1 b0) : W.cell? ⟨w.heap.size, 0, none⟩ = some (.int .u64 a3) ∧ W.cell? ⟨w.heap.size, 1, none⟩ = some (.int .u64 a2) ∧ W.cell? ⟨w.heap.size, 2, none⟩ = some (.int .u64 a1) ∧ W.cell? ⟨w.heap.size, 3, none⟩ = some (.int .u64 a0) ∧ W.cell? ⟨w.heap.size + 1, 0, none⟩ = some (.int .u64 b3) ∧ W.cell? ⟨w.heap.size + 1, 1, none⟩ = some (.int .u64 b2) ∧ W.cell? ⟨w.heap.size + 1, 2, none⟩ = some (.int .u64 b1) ∧ W.cell? ⟨w.heap.size + 1, 3, none⟩ = some (.int .u64 b0) := ⟨h.a.c0, h.a.c1, h.a.c2, h.a.c3, h.b.c0, h.b.c1, h.b.c2, h.b.c3⟩
theorem cells12x {w W : World} {g : Nat} {a3 a2 a1 a0 b3 b2 b1 b0 z3 z2 z1 z0 : Int} (h : TwoW w W a3 a2 a1 a0 b3 b2 b1 b0) (G : Wd W g z3 z2 z1 z0) : W.cell? ⟨w.heap.size, 0, none⟩ = some (.int .u64 a3) ∧ W.cell? ⟨w.heap.size, 1, none⟩ = some (.int .u64 a2) ∧ W.cell? ⟨w.heap.size, 2, none⟩ = some (.int .u64 a1) ∧ W.cell? ⟨w.heap.size, 3, none⟩ = some (.int .u64 a0) ∧ W.cell? ⟨w.heap.size + 1, 0, none⟩ = some (.int .u64 b3) ∧ W.cell? ⟨w.heap.size + 1, 1, none⟩ = some (.int .u64 b2) ∧ W.cell? ⟨w.heap.size + 1, 2, none⟩ = some (.int .u64 b1) ∧ W.cell? ⟨w.heap.size + 1, 3, none⟩ = some (.int .u64 b0) ∧ W.cell? ⟨g, 0, none⟩ = some (.int .u64 z3) ∧ W.cell? ⟨g, 1, none⟩ = some (.int .u64 z2) ∧ W.cell? ⟨g, 2, none⟩ = some (.int .u64 z1) ∧ W.cell? ⟨g, 3, none⟩ = some (.int .u64 z0) := ⟨h.a.c0, h.a.c1, h.a.c2, h.a.c3, h.b.c0, h.b.c1, h.b.c2, h.b.c3, G.c0, G.c1, G.c2, G.c3⟩
def PlusR (a3 a2 a1 a0 b3 b2 b1 b0 z3 z2 z1 z0 : Int) : Prop := Word z3 ∧ Word z2 ∧ Word z1 ∧ Word z0 ∧ ∃ c, 0 ≤ c ∧ c ≤ 1 ∧ uw z3 z2 z1 z0 + c * 115792089237316195423570985008687907853269984665640564039457584007913129639936 = uw a3 a2 a1 a0 + uw b3 b2 b1 b0
theorem pw64_4 : pw64 4 = 115792089237316195423570985008687907853269984665640564039457584007913129639936 := by decide
theorem plusR_of {a3 a2 a1 a0 b3 b2 b1 b0 : Int} {w w' : World} {e : Ending} (h : PlusP [a0, a1, a2, a3] [b0, b1, b2, b3] w e w') : ∃ z3 z2 z1 z0, e = .returned (.agg #[.int .u64 z0, .int .u64 z1, .int .u64 z2, .int .u64 z3]) ∧ PlusR a3 a2 a1 a0 b3 b2 b1 b0 z3 z2 z1 z0 ∧ Below w.heap.size w w' := by
  obtain ⟨zs, c, rfl, h1, h2, h3, h4, h5, h6⟩ := h
  obtain ⟨z0, z1, z2, z3, rfl⟩ := list4 h1
  obtain ⟨g0, g1, g2, g3⟩ := words4_of h2
  rw [val64_4, val64_4, val64_4, show [a0, a1, a2, a3].length = 4 from rfl, pw64_4] at h5
  exact ⟨z3, z2, z1, z0, rfl, ⟨g3, g2, g1, g0, c, h3, h4, h5⟩, h6⟩
end Go.Proofs.Ytnnojeggjnddpaa

/- The walk of the program's comparison of four words. -/
namespace Go.Proofs.Ytnnojeggjnddpaa
open Go.RowKit
theorem pw64_pos (n : Nat) : 0 < pw64 n := by
  induction n with
  | zero => simp [pw64]
  | succ n ih => simp only [pw64]; omega
theorem val64_lt {a : List Int} (h : Words a) : 0 ≤ val64 a ∧ val64 a < pw64 a.length := by
  induction a with
  | nil => simp [val64, pw64]
  | cons d t ih =>
    have h1 := h d (by simp)
    have h2 := ih (fun x hx => h x (by simp [hx]))
    unfold Word at h1
    simp only [val64, List.length_cons, pw64]; omega
theorem val64_append (a b : List Int) : val64 (a ++ b) = val64 a + pw64 a.length * val64 b := by
  induction a with
  | nil => simp [val64, pw64]
  | cons d t ih => simp only [List.cons_append, val64, List.length_cons, pw64, ih]; grind
theorem val64_split (a : List Int) (k : Nat) (h : k < a.length) : val64 a = val64 (a.take k) + pw64 k * (a[k] + 18446744073709551616 * val64 (a.drop (k + 1))) := by
  have h1 := val64_append (a.take k) (a.drop k)
  rw [List.take_append_drop, List.drop_eq_getElem_cons h] at h1
  simpa [val64, Nat.min_eq_left (Nat.le_of_lt h)] using h1
end Go.Proofs.Ytnnojeggjnddpaa

/- The walks of a number's size without its sign, of the count of its words and of its bits, and of the law over them. -/
namespace Go.Proofs.Ytnnojeggjnddpaa
open Go.RowKit
theorem wd0 : Word 0 := ⟨by decide, by decide⟩
/-- Four words that stand for a number without its sign, the lowest first. -/
def SizeP (z : Int) (w : World) (e : Ending) (w' : World) : Prop :=
  ∃ x3 x2 x1 x0, e = .returned (.agg #[.int .u64 x0, .int .u64 x1, .int .u64 x2, .int .u64 x3]) ∧ Word x3 ∧ Word x2 ∧ Word x1 ∧ Word x0 ∧ uw x3 x2 x1 x0 = (z.natAbs : Int) ∧ Below w.heap.size w w'
theorem sizeP_set {z : Int} {w W : World} {R : Nat} {e : Ending} {u0 u1 u2 u3 : Value} (hR : w.heap.size ≤ R) (h : SizeP z w e W) : SizeP z w e ((((W.setCell ⟨R, 0, none⟩ u0).setCell ⟨R, 1, none⟩ u1).setCell ⟨R, 2, none⟩ u2).setCell ⟨R, 3, none⟩ u3) := by
  obtain ⟨x3, x2, x1, x0, e1, h3, h2, h1, h0, hu, hB⟩ := h
  exact ⟨x3, x2, x1, x0, e1, h3, h2, h1, h0, hu, tell_below hB hR⟩
set_option maxRecDepth 100000 in
set_option maxHeartbeats 1000000 in
theorem sizeOf_any (a3 a2 a1 a0 : Int) (h3 : Word a3) (h2 : Word a2) (h1 : Word a1) (h0 : Word a0) (w : World) :
    Calls Try.prog 45 #[.agg #[.int .u64 a3, .int .u64 a2, .int .u64 a1, .int .u64 a0]] w (SizeP (sw a3 a2 a1 a0) w) := by
  have hn := sw_neg h3 h2 h1 h0
  have A0 : Wd ((w.alloc (Obj.cells #[Value.int IntKind.u64 a3, Value.int IntKind.u64 a2, Value.int IntKind.u64 a1, Value.int IntKind.u64 a0] 26)).alloc (Obj.cells #[Value.int IntKind.u64 0, Value.int IntKind.u64 0, Value.int IntKind.u64 0, Value.int IntKind.u64 0] 70)) w.heap.size a3 a2 a1 a0 := (Wd.new _ _ _ _ _ 26 rfl).alloc _
  have R0 : Wd ((w.alloc (Obj.cells #[Value.int IntKind.u64 a3, Value.int IntKind.u64 a2, Value.int IntKind.u64 a1, Value.int IntKind.u64 a0] 26)).alloc (Obj.cells #[Value.int IntKind.u64 0, Value.int IntKind.u64 0, Value.int IntKind.u64 0, Value.int IntKind.u64 0] 70)) (w.heap.size + 1) 0 0 0 0 := Wd.new _ 0 0 0 0 70 (by simp)
  have HB : Below w.heap.size w ((w.alloc (Obj.cells #[Value.int IntKind.u64 a3, Value.int IntKind.u64 a2, Value.int IntKind.u64 a1, Value.int IntKind.u64 a0] 26)).alloc (Obj.cells #[Value.int IntKind.u64 0, Value.int IntKind.u64 0, Value.int IntKind.u64 0, Value.int IntKind.u64 0] 70)) := ((Below.refl _ _).alloc (Nat.le_refl _) _).alloc (by simp) _
  by_cases hp : 9223372036854775808 ≤ a3
  · have hb : (a3 / 9223372036854775808 == 1) = true := beq_iff_eq.2 (by have := h3.2; omega)
    go_enter Try.func45, Try.ntmps45
    go_wp2_with fail
    refine (isBelow_any a3 a2 a1 a0 h3 true hb _).mono ?_
    rintro e w1 ⟨rfl, hB⟩
    replace A0 := A0.step hB
    replace R0 := R0.step hB
    replace HB := HB.trans (hB.mono HB.size)
    clear hB
    have i0 := A0.c0; have i1 := A0.c1; have i2 := A0.c2; have i3 := A0.c3
    go_wp2_with fail
    refine (wordsOf_any a3 a2 a1 a0 _).mono ?_
    rintro e w2 ⟨rfl, hB⟩
    replace R0 := R0.step hB
    replace HB := HB.trans (hB.mono HB.size)
    clear hB A0 i0 i1 i2 i3
    go_wp2_with fail
    refine (minus4 0 0 0 0 a0 a1 a2 a3 (words4 wd0 wd0 wd0 wd0) (words4 h0 h1 h2 h3) _).mono ?_
    rintro e w3 ⟨zs, c, rfl, g1, g2, g3, g4, g5, hB⟩
    obtain ⟨z0, z1, z2, z3, rfl⟩ := list4 g1
    obtain ⟨l0, l1, l2, l3⟩ := words4_of g2
    rw [val64_4, val64_4, val64_4, show [(0 : Int), 0, 0, 0].length = 4 from rfl] at g5
    replace R0 := R0.step hB
    replace HB := HB.trans (hB.mono HB.size)
    have HP : Hid (SizeP (sw a3 a2 a1 a0) w (.returned (.agg #[.int .u64 z0, .int .u64 z1, .int .u64 z2, .int .u64 z3])) w3) := by
      refine ⟨z3, z2, z1, z0, rfl, l3, l2, l1, l0, ?_, HB⟩
      have e1 : pw64 4 = 115792089237316195423570985008687907853269984665640564039457584007913129639936 := by decide
      rw [e1] at g5
      have e2 : sw a3 a2 a1 a0 = uw a3 a2 a1 a0 - 115792089237316195423570985008687907853269984665640564039457584007913129639936 := by unfold sw; rw [if_neg (by omega)]
      have e3 := uw_bound h3 h2 h1 h0
      have e4 := uw_bound l3 l2 l1 l0
      have e5 : uw 0 0 0 0 = 0 := by decide
      have e6 : uw a3 a2 a1 a0 ≠ 0 := by unfold uw; unfold Word at *; omega
      omega
    have r0 := R0.c0; have r1 := R0.c1; have r2 := R0.c2; have r3 := R0.c3; have f0 := R0.f0; have f1 := R0.f1; have f2 := R0.f2; have f3 := R0.f3
    clear hB g5 g1 g2 g3 g4 HB R0
    go_wp2
    refine bodyPost_ret (v := .agg #[.int .u64 z0, .int .u64 z1, .int .u64 z2, .int .u64 z3]) (by simp [results, Try.results45, go_sem, r0, r1, r2, r3]) rfl ?_
    exact sizeP_set (Nat.le_succ _) HP.out
  · have hb : (a3 / 9223372036854775808 == 1) = false := beq_eq_false_iff_ne.2 (by have := h3.1; omega)
    go_enter Try.func45, Try.ntmps45
    go_wp2_with fail
    refine (isBelow_any a3 a2 a1 a0 h3 false hb _).mono ?_
    rintro e w1 ⟨rfl, hB⟩
    replace A0 := A0.step hB
    replace R0 := R0.step hB
    replace HB := HB.trans (hB.mono HB.size)
    clear hB
    have i0 := A0.c0; have i1 := A0.c1; have i2 := A0.c2; have i3 := A0.c3
    go_wp2_with fail
    refine (wordsOf_any a3 a2 a1 a0 _).mono ?_
    rintro e w2 ⟨rfl, hB⟩
    replace R0 := R0.step hB
    replace HB := HB.trans (hB.mono HB.size)
    have HP : Hid (SizeP (sw a3 a2 a1 a0) w (.returned (.agg #[.int .u64 a0, .int .u64 a1, .int .u64 a2, .int .u64 a3])) w2) := by
      refine ⟨a3, a2, a1, a0, rfl, h3, h2, h1, h0, ?_, HB⟩
      have e2 : sw a3 a2 a1 a0 = uw a3 a2 a1 a0 := by unfold sw; rw [if_pos (by omega)]
      have e3 := uw_bound h3 h2 h1 h0
      omega
    have r0 := R0.c0; have r1 := R0.c1; have r2 := R0.c2; have r3 := R0.c3; have f0 := R0.f0; have f1 := R0.f1; have f2 := R0.f2; have f3 := R0.f3
    clear hB HB R0 A0 i0 i1 i2 i3
    go_wp2
    refine bodyPost_ret (v := .agg #[.int .u64 a0, .int .u64 a1, .int .u64 a2, .int .u64 a3]) (by simp [results, Try.results45, go_sem, r0, r1, r2, r3]) rfl ?_
    exact sizeP_set (Nat.le_succ _) HP.out
/-- How many words are left when those that are 0 at the high end are cut off. -/
def CountP (xs : List Int) (w : World) (e : Ending) (w' : World) : Prop :=
  ∃ n : Nat, e = .returned (.int .i64 n) ∧ n ≤ xs.length ∧ (∀ j, n ≤ j → (h : j < xs.length) → xs[j] = 0) ∧ (∀ m, n = m + 1 → (h : m < xs.length) → xs[m] ≠ 0) ∧ w' = w
theorem count_some (w : World) {xs : List Int} {m : Nat} (hm : m < xs.length) (h0 : xs[m] ≠ 0) (hz : ∀ j, m + 1 ≤ j → (h : j < xs.length) → xs[j] = 0) (v : Int) (hv : v = ((m + 1 : Nat) : Int)) : CountP xs w (.returned (.int .i64 v)) w :=
  ⟨m + 1, by rw [hv], hm, hz, fun i hi hl => by
    have : m = i := by omega
    subst this
    exact h0, rfl⟩
set_option maxRecDepth 100000 in
set_option maxHeartbeats 400000 in
theorem countWords_any (A off n cap : Nat) (xs : List Int) (w : World) (hn : xs.length = n) (hr : Row w A off xs) (hm : n ≤ 1000) :
    Calls Try.prog 72 #[.slice (some ⟨A, off, none⟩) n cap] w (CountP xs w) := by
  go_enter Try.func72, Try.ntmps72
  go_wp2
  go_loop [3] (fun i => ∃ k : Nat, k ≤ n ∧ i = .int .i64 k ∧ ∀ j, k ≤ j → (h : j < xs.length) → xs[j] = 0) (fun i => (intOf i).toNat)
  case atStart => exact ⟨n, Nat.le_refl _, rfl, fun j h1 h2 => by omega⟩
  case round =>
    obtain ⟨k, hk, rfl, hz⟩ := hrel
    have HN : Hid (xs.length = n) := hn
    have HZ : Hid (∀ j, k ≤ j → (h : j < xs.length) → xs[j] = 0) := hz
    have HR : Hid (Row w A off xs) := hr
    clear hz hr hn
    by_cases hk0 : 0 < k
    · obtain ⟨m, rfl⟩ : ∃ m, k = m + 1 := ⟨k - 1, by omega⟩
      have hml : m < xs.length := by have := HN.out; omega
      have hcell := HR.out.cell m hml
      go_wp2
      · go_round
        case rel =>
          have h0 : (xs[m] == 0) = true := by assumption
          exact ⟨m, by omega, by go_num, fun j h1 h2 => by
            by_cases e : j = m
            · subst e; simpa using h0
            · exact HZ.out j (by omega) h2⟩
        case measure => simp [intOf]
      · have h0 : (xs[m] == 0) = false := by assumption
        go_ret
        exact count_some w hml (by simpa using h0) HZ.out _ (by omega)
    · go_wp2
      go_ret
      exact ⟨k, rfl, by have := HN.out; omega, HZ.out, fun i hi => by omega, rfl⟩
/-- The bits of words by those of the highest one that is not 0. -/
theorem bits_words {xs : List Int} (hw : Words xs) (m : Nat) (hm : m < xs.length) (hz : ∀ j, m + 1 ≤ j → (h : j < xs.length) → xs[j] = 0) (h0 : xs[m] ≠ 0) {b : Nat} (hb : BitsOf xs[m] b) : BitsOf (val64 xs) (64 * m + b) := by
  have hd : val64 (xs.drop (m + 1)) = 0 := by
    have e : xs.drop (m + 1) = List.replicate (xs.length - (m + 1)) 0 := by
      apply List.ext_getElem
      · simp
      · intro i h1 h2
        simp only [List.getElem_drop, List.getElem_replicate]
        exact hz _ (by omega) _
    rw [e]
    generalize xs.length - (m + 1) = q
    induction q with
    | zero => rfl
    | succ q ih => simp [List.replicate_succ, val64, ih]
  have hl := val64_lt (a := xs.take m) (fun x hx => hw x (List.mem_of_mem_take hx))
  have e3 : (xs.take m).length = m := by simp; omega
  rw [e3] at hl
  rw [val64_split xs m hm, hd]
  simp only [Int.mul_zero, Int.add_zero]
  have hp : (2 : Int) ^ (64 * m) = pw64 m := by
    clear hd hl e3 hz h0 hb hm
    induction m with
    | zero => rfl
    | succ m ih => rw [show 64 * (m + 1) = 64 * m + 64 by omega, Int.pow_add, ih, pw64, show (2 : Int) ^ 64 = 18446744073709551616 by decide, Int.mul_comm]
  obtain ⟨g0, g1, g2⟩ := hb
  have p0 := pw64_pos m
  generalize xs[m] = t at *
  have ht : 0 < t := by omega
  refine ⟨by have := Int.mul_nonneg (Int.le_of_lt p0) g0; omega, ?_, Or.inr ?_⟩
  · rw [Int.pow_add, hp]
    have : pw64 m * (t + 1) ≤ pw64 m * 2 ^ b := Int.mul_le_mul_of_nonneg_left (by omega) (by omega)
    rw [Int.mul_add] at this
    omega
  · have hb0 : b ≠ 0 := by rintro rfl; simp at g1; omega
    rcases g2 with g2 | g2
    · exact absurd g2 hb0
    · rw [show 64 * m + b - 1 = 64 * m + (b - 1) by omega, Int.pow_add, hp]
      have : pw64 m * 2 ^ (b - 1) ≤ pw64 m * t := Int.mul_le_mul_of_nonneg_left g2 (by omega)
      omega
set_option maxRecDepth 100000 in
set_option maxHeartbeats 1000000 in
theorem implBits_any (a3 a2 a1 a0 : Int) (h3 : Word a3) (h2 : Word a2) (h1 : Word a1) (h0 : Word a0) (w : World) :
    Calls Try.prog 35 #[.agg #[.int .u64 a3, .int .u64 a2, .int .u64 a1, .int .u64 a0]] w (BitsP ((sw a3 a2 a1 a0).natAbs : Int) w) := by
  go_enter Try.func35, Try.ntmps35
  go_wp2_with fail
  refine (sizeOf_any a3 a2 a1 a0 h3 h2 h1 h0 _).mono ?_
  rintro e w1 ⟨x3, x2, x1, x0, rfl, l3, l2, l1, l0, hu, hB⟩
  have hB1 : Below w.heap.size w w1 := ((Below.refl _ _).alloc (Nat.le_refl _) _).trans (hB.mono (by simp))
  clear hB
  have HU : Hid (uw x3 x2 x1 x0 = ((sw a3 a2 a1 a0).natAbs : Int)) := hu
  clear hu
  have G0 := Wd.new w1 x0 x1 x2 x3 70 rfl
  have HR := row_of4 G0.lt G0.c0 G0.c1 G0.c2 G0.c3 G0.f0 G0.f1 G0.f2 G0.f3
  have hB2 := hB1.alloc hB1.size (Obj.cells #[Value.int IntKind.u64 x0, Value.int IntKind.u64 x1, Value.int IntKind.u64 x2, Value.int IntKind.u64 x3] 70)
  clear G0
  go_wp2_with fail
  refine (countWords_any w1.heap.size 0 4 4 [x0, x1, x2, x3] _ rfl HR (by omega)).mono ?_
  rintro e w2 ⟨n, rfl, hn, hz, hnz, rfl⟩
  have HW := words4 l0 l1 l2 l3
  have HV := val64_4 x0 x1 x2 x3
  generalize hxs : [x0, x1, x2, x3] = xs at *
  have hlx : xs.length = 4 := by rw [← hxs]; rfl
  rw [hlx] at hn
  by_cases hn0 : n = 0
  · subst hn0
    have hv0 : val64 xs = 0 := by
      rw [HV]
      have c0 := hz 0 (by omega) (by omega); have c1 := hz 1 (by omega) (by omega); have c2 := hz 2 (by omega) (by omega); have c3 := hz 3 (by omega) (by omega)
      subst hxs
      simp at c0 c1 c2 c3
      subst c0 c1 c2 c3
      decide
    have HE : Hid (((sw a3 a2 a1 a0).natAbs : Int) = 0) := by show _ = _; rw [← HU.out, ← HV, hv0]
    clear hz hnz HR HW HV hv0 hlx hxs
    go_wp2
    go_ret
    exact ⟨0, rfl, by rw [HE.out]; exact ⟨by decide, by decide, Or.inl rfl⟩, hB2⟩
  · obtain ⟨m, rfl⟩ : ∃ m, n = m + 1 := ⟨n - 1, by omega⟩
    have hml : m < xs.length := by omega
    have hnz' := hnz m rfl hml
    have hc := HR.cell m hml
    rw [Nat.zero_add] at hc
    have hwm := words_at HW m hml
    have HB := fun b hb => bits_words HW m hml hz hnz' (b := b) hb
    rw [HV, HU.out] at HB
    have HB' : Hid (∀ b : Nat, BitsOf xs[m] b → BitsOf ((sw a3 a2 a1 a0).natAbs : Int) (64 * m + b)) := HB
    have hm4 : (m : Int) < 4 := by omega
    have hmn : ((m : Int) + 1 == 0) = false := beq_eq_false_iff_ne.2 (by omega)
    clear hz hnz HR HW HV hxs HB hnz'
    go_wp2_with fail
    refine (len64_any xs[m] hwm _).mono ?_
    rintro e w3 ⟨b, rfl, hb, hB3⟩
    have hb64 : b ≤ 64 := (bits_le hb 64).2 (by rw [show (2 : Int) ^ 64 = 18446744073709551616 by decide]; exact hwm.2)
    have HH : Hid (BitsOf ((sw a3 a2 a1 a0).natAbs : Int) (64 * m + b)) := HB'.out b hb
    have hB4 := hB2.trans (hB3.mono hB2.size)
    clear hb hB3 hB2 HB'
    go_wp2
    go_ret
    exact ⟨64 * m + b, ret_int (by omega), HH.out, hB4⟩
end Go.Proofs.Ytnnojeggjnddpaa

/- Numbers in decimal: the digits of a number, the number of digits; the reckoning, of no program. -/
namespace Go.Proofs.Ytnnojeggjnddpaa
/-- A text of these bytes. -/
def strL (l : List Nat) : ByteArray := strOfNums (l.map fun (n : Nat) => (n : Int))
/-- The bytes of a text. -/
def btL (s : ByteArray) : List Nat := s.data.toList.map UInt8.toNat
theorem btL_len (s : ByteArray) : (btL s).length = s.size := by
  unfold btL
  rw [List.length_map]
  rfl
theorem strL_size (l : List Nat) : (strL l).size = l.length := by simp [strL, strOfNums_size]
theorem strL_btL (s : ByteArray) : strL (btL s) = s := by
  obtain ⟨⟨l⟩⟩ := s
  simp only [strL, btL, strOfNums, List.map_map]
  congr 2
  conv => rhs; rw [← List.map_id l]
  exact List.map_congr_left fun x _ => by simp
theorem btL_strL {l : List Nat} (h : ∀ b ∈ l, b < 256) : btL (strL l) = l := by
  unfold btL strL
  rw [strOfNums_data, List.map_map, List.map_map]
  conv => rhs; rw [← List.map_id l]
  exact List.map_congr_left fun x hx => by
    have := h x hx
    simp
    omega
theorem btL_lt (s : ByteArray) : ∀ b ∈ btL s, b < 256 := by
  intro b hb
  obtain ⟨x, _, rfl⟩ := List.mem_map.1 hb
  exact x.toNat_lt
theorem strL_append (a b : List Nat) : strL (a ++ b) = strL a ++ strL b := by
  apply ByteArray.ext
  simp [strL, strOfNums]
theorem snocRec {P : List Nat → Prop} (h0 : P []) (h1 : ∀ l b, P l → P (l ++ [b])) (l : List Nat) : P l := by
  rw [← List.reverse_reverse l]
  induction l.reverse with
  | nil => exact h0
  | cons a t ih => rw [List.reverse_cons]; exact h1 _ _ ih
theorem head_app {a b : List Nat} (h : a ≠ []) : (a ++ b).head? = a.head? := by
  cases a with
  | nil => exact absurd rfl h
  | cons x t => rfl
/-- The digits of a number; 0 has none. -/
def dg (n : Nat) : List Nat := if n = 0 then [] else dg (n / 10) ++ [48 + n % 10]
termination_by n
decreasing_by omega
theorem dg_zero : dg 0 = [] := by rw [dg]; rfl
theorem dg_step {n : Nat} (h : 0 < n) : dg n = dg (n / 10) ++ [48 + n % 10] := by rw [dg, if_neg (by omega)]
theorem dg_ne {n : Nat} (h : 0 < n) : dg n ≠ [] := by rw [dg_step h]; simp
theorem dg_len (k : Nat) : ∀ n : Nat, n < 10 ^ k → (dg n).length ≤ k := by
  induction k with
  | zero => intro n h; obtain rfl : n = 0 := by simpa using h
            simp [dg_zero]
  | succ k ih =>
    intro n h
    rcases Nat.eq_zero_or_pos n with rfl | hp
    · simp [dg_zero]
    · rw [dg_step hp]
      have := ih (n / 10) (by rw [Nat.pow_succ] at h; omega)
      simp
      omega
/-- The digits of a number as they are written. -/
def dgs (n : Nat) : List Nat := dg (n / 10) ++ [48 + n % 10]
theorem dgs_pos {n : Nat} (h : 0 < n) : dgs n = dg n := by rw [dg_step h]; rfl
theorem dgs_zero : dgs 0 = [48] := by unfold dgs; rw [show 0 / 10 = 0 from rfl, dg_zero]; rfl
theorem dgs_len {k n : Nat} (hk : 0 < k) (h : n < 10 ^ k) : (dgs n).length ≤ k := by
  rcases Nat.eq_zero_or_pos n with rfl | hp
  · rw [dgs_zero]; exact hk
  · rw [dgs_pos hp]; exact dg_len k n h
/-- A number's text. -/
def txL (z : Int) : List Nat := (if z < 0 then [45] else []) ++ dgs z.natAbs
def txS (z : Int) : ByteArray := strL (txL z)
/-- A byte that is a digit. -/
def isD (b : Nat) : Prop := 48 ≤ b ∧ b ≤ 57
theorem dg_isD (n : Nat) : ∀ b ∈ dg n, isD b := by
  induction n using Nat.strongRecOn with
  | ind n ih =>
    rcases Nat.eq_zero_or_pos n with rfl | hp
    · simp [dg_zero]
    · rw [dg_step hp]
      intro b hb
      rcases List.mem_append.1 hb with h | h
      · exact ih (n / 10) (by omega) b h
      · rw [List.mem_singleton] at h; subst h; constructor <;> omega
theorem dgs_isD (n : Nat) : ∀ b ∈ dgs n, isD b := by
  intro b hb
  rcases List.mem_append.1 hb with h | h
  · exact dg_isD _ b h
  · rw [List.mem_singleton] at h; subst h; constructor <;> omega
theorem txL_lt (z : Int) : ∀ b ∈ txL z, b < 256 := by
  intro b hb
  rcases List.mem_append.1 hb with h | h
  · split at h
    · simp at h; omega
    · simp at h
  · have := dgs_isD _ b h; unfold isD at this; omega
theorem btL_txS (z : Int) : btL (txS z) = txL z := btL_strL (txL_lt z)
/-- The number of these digits. -/
def rdN (l : List Nat) : Nat := l.foldl (fun n b => 10 * n + (b - 48)) 0
theorem rdN_nil : rdN [] = 0 := rfl
theorem rdN_snoc (l : List Nat) (b : Nat) : rdN (l ++ [b]) = 10 * rdN l + (b - 48) := by simp [rdN]
theorem rdN_take (l : List Nat) (k : Nat) (h : k < l.length) : rdN (l.take (k + 1)) = 10 * rdN (l.take k) + (l[k] - 48) := by
  rw [List.take_succ_eq_append_getElem h, rdN_snoc]
theorem rdN_lt (l : List Nat) (h : ∀ b ∈ l, isD b) : rdN l < 10 ^ l.length := by
  induction l using snocRec with
  | h0 => simp [rdN]
  | h1 l b ih =>
    rw [rdN_snoc]
    have h1 := ih fun x hx => h x (List.mem_append_left _ hx)
    have h2 := h b (by simp)
    unfold isD at h2
    simp [Nat.pow_succ]
    omega
theorem rdN_dg (n : Nat) : rdN (dg n) = n := by
  induction n using Nat.strongRecOn with
  | ind n ih =>
    rcases Nat.eq_zero_or_pos n with rfl | hp
    · simp [dg_zero, rdN]
    · rw [dg_step hp, rdN_snoc, ih (n / 10) (by omega)]
      omega
theorem rdN_dgs (n : Nat) : rdN (dgs n) = n := by unfold dgs; rw [rdN_snoc, rdN_dg]; omega
theorem dg_head (n : Nat) : (dg n).head? ≠ some 48 := by
  induction n using Nat.strongRecOn with
  | ind n ih =>
    rcases Nat.eq_zero_or_pos n with rfl | hp
    · simp [dg_zero]
    · rw [dg_step hp]
      by_cases h : n / 10 = 0
      · rw [h, dg_zero]; simp; omega
      · have := ih (n / 10) (by omega)
        have h2 := dg_ne (n := n / 10) (by omega)
        rw [head_app h2]
        exact this
theorem dg_rdN (l : List Nat) (h : ∀ b ∈ l, isD b) (h0 : l.head? ≠ some 48) : dg (rdN l) = l := by
  induction l using snocRec with
  | h0 => simp [rdN, dg_zero]
  | h1 l b ih =>
    have hb := h b (by simp)
    unfold isD at hb
    rw [rdN_snoc]
    rcases List.eq_nil_or_concat l with rfl | ⟨l', c, hl⟩
    · have h1 : b ≠ 48 := by simpa using h0
      rw [rdN_nil, dg_step (by omega), show (10 * 0 + (b - 48)) / 10 = 0 by omega, dg_zero]
      simp
      omega
    · have hne : l ≠ [] := by rw [hl]; simp
      have h1 : l.head? ≠ some 48 := by rw [head_app hne] at h0; exact h0
      have h2 := ih (fun x hx => h x (List.mem_append_left _ hx)) h1
      have h3 : 0 < rdN l := by
        rcases Nat.eq_zero_or_pos (rdN l) with h4 | h4
        · rw [h4, dg_zero] at h2; exact absurd h2.symm hne
        · exact h4
      rw [dg_step (by omega), show (10 * rdN l + (b - 48)) / 10 = rdN l by omega, h2, show 48 + (10 * rdN l + (b - 48)) % 10 = b by omega]
/-- That these bytes, with no sign, are a number in decimal. -/
def DecL (l : List Nat) : Prop := l ≠ [] ∧ (l.head? = some 48 → l = [48]) ∧ ∀ b ∈ l, isD b
theorem dgs_dec (n : Nat) : DecL (dgs n) := by
  refine ⟨by unfold dgs; simp, ?_, dgs_isD n⟩
  rcases Nat.eq_zero_or_pos n with rfl | hp
  · intro _; exact dgs_zero
  · intro h; rw [dgs_pos hp] at h; exact absurd h (dg_head n)
theorem dgs_rdN {l : List Nat} (h : DecL l) : dgs (rdN l) = l := by
  obtain ⟨h1, h2, h3⟩ := h
  by_cases h0 : l.head? = some 48
  · rw [h2 h0]; exact dgs_zero
  · have h4 := dg_rdN l h3 h0
    rcases Nat.eq_zero_or_pos (rdN l) with h5 | h5
    · rw [h5, dg_zero] at h4; exact absurd h4.symm h1
    · rw [dgs_pos h5, h4]
end Go.Proofs.Ytnnojeggjnddpaa

/- A tenth of a number of four words, and the rest. -/
namespace Go.Proofs.Ytnnojeggjnddpaa
open Go.RowKit
/-- The words from a place on, divided by ten; the rest that is left. -/
structure TnI (xs zs : List Int) (k : Nat) (r : Int) : Prop where
  len : zs.length = 4
  xlen : xs.length = 4
  same : ∀ j, j < k → zs[j]? = xs[j]?
  wds : Words zs
  r0 : 0 ≤ r
  r1 : r < 10
  eq : val64 (xs.drop k) = 10 * val64 (zs.drop k) + r
theorem tn_start {xs : List Int} (hl : xs.length = 4) (hx : Words xs) : TnI xs xs 4 0 :=
  ⟨hl, hl, fun _ _ => rfl, hx, by omega, by omega, by rw [← hl, List.drop_length]; rfl⟩
theorem tn_step {xs zs : List Int} {k : Nat} {r : Int} (h : TnI xs zs (k + 1) r) (hz : k < zs.length) (hk : k < xs.length) (he : zs[k] = xs[k]) (q s : Int) (hq : q = (r * 18446744073709551616 + zs[k]) / 10) (hs : s = (r * 18446744073709551616 + zs[k]) % 10) :
    TnI xs (zs.set k q) k s := by
  obtain ⟨h1, h2, h3, h4, h5, h6, h7⟩ := h
  have hw : Word zs[k] := h4 _ (List.getElem_mem hz)
  unfold Word at hw
  refine ⟨by simpa using h1, h2, fun j hj => ?_, words_set h4 k ⟨by omega, by omega⟩, by omega, by omega, ?_⟩
  · rw [List.getElem?_set_ne (by omega)]; exact h3 j (by omega)
  · rw [List.drop_eq_getElem_cons (show k < xs.length by omega), List.drop_eq_getElem_cons (show k < (zs.set k q).length by simpa using hz), List.getElem_set_self, List.drop_set_of_lt (by omega)]
    simp only [val64]
    rw [h7, ← he]
    omega
theorem tn_at {xs zs : List Int} {k : Nat} {r : Int} (h : TnI xs zs (k + 1) r) (hz : k < zs.length) (hk : k < xs.length) : zs[k] = xs[k] := by
  have := h.same k (by omega)
  rw [List.getElem?_eq_getElem hz, List.getElem?_eq_getElem hk] at this
  simpa using this
def TenP (v : Int) (w : World) (e : Ending) (w' : World) : Prop := ∃ zs : List Int, e = .returned (.tuple #[agg zs, .int .u64 (v % 10)]) ∧ zs.length = 4 ∧ Words zs ∧ val64 zs = v / 10 ∧ Below w.heap.size w w'
set_option maxRecDepth 100000 in
set_option maxHeartbeats 1000000 in
theorem tenthOf_any (xs : List Int) (hl : xs.length = 4) (hx : Words xs) (w : World) : Calls Try.prog 44 #[agg xs] w (TenP (val64 xs) w) := by
  have HI : Hid (TnI xs xs 4 0) := tn_start hl hx
  have HX : Hid (Words xs) := hx
  obtain ⟨x0, x1, x2, x3, hxs⟩ := list4 hl
  have HA : agg xs = .agg #[.int .u64 x0, .int .u64 x1, .int .u64 x2, .int .u64 x3] := by rw [hxs]; rfl
  rw [HA]
  have HL : Hid (xs.length = 4) := hl
  clear hl hx HA
  go_enter Try.func44, Try.ntmps44
  go_wp2
  have HS : Mk w ((w.alloc (.cells #[.int .u64 x0, .int .u64 x1, .int .u64 x2, .int .u64 x3] 70)).alloc (.cells #[.int .u64 0, .int .u64 0, .int .u64 0, .int .u64 0] 70)) (w.heap.size + 1) w.heap.size (List.replicate 4 (.int .u64 0)) xs :=
    ⟨((Below.refl _ _).alloc (Nat.le_refl _) _).alloc (by simp) _, Blk.new _ [.int .u64 0, .int .u64 0, .int .u64 0, .int .u64 0] _ (by simp), by rw [hxs]; exact (Blk.new w [.int .u64 x0, .int .u64 x1, .int .u64 x2, .int .u64 x3] _ rfl).alloc _⟩
  generalize ((w.alloc (.cells #[.int .u64 x0, .int .u64 x1, .int .u64 x2, .int .u64 x3] 70)).alloc (.cells #[.int .u64 0, .int .u64 0, .int .u64 0, .int .u64 0] 70)) = W at *
  clear hxs
  go_loopw [4, 5] (fun r i wr => ∃ (k : Nat) (zs : List Int) (s : Int), k ≤ 4 ∧ i = .int .i64 ((k : Int) - 1) ∧ r = .int .u64 s ∧ TnI xs zs k s ∧ Mk w wr (w.heap.size + 1) w.heap.size (List.replicate 4 (.int .u64 0)) zs) (fun _ i _ => (intOf i + 1).toNat)
  case atStart => exact ⟨4, _, 0, by omega, rfl, rfl, HI.out, HS⟩
  case round =>
    clear HI HS
    obtain ⟨k, zs, s, hk, rfl, rfl, hI, hM⟩ := hrel
    have hlen := hI.len
    by_cases hk0 : 0 < k
    · obtain ⟨m, rfl⟩ : ∃ m, k = m + 1 := ⟨k - 1, by omega⟩
      have hz : m < zs.length := by omega
      have hxm : m < xs.length := by have := HL.out; omega
      have he : Hid (zs[m] = xs[m]) := tn_at hI hz hxm
      obtain ⟨q1, q2⟩ := hM.cp m hz
      have hw : Word zs[m] := hI.wds _ (List.getElem_mem hz)
      have e1 : ((m + 1 : Nat) : Int) - 1 = m := by omega
      have hr0 := hI.r0
      have hr1 := hI.r1
      have HII : Hid (TnI xs zs (m + 1) s) := hI
      have HM : Hid (Mk w wr (w.heap.size + 1) w.heap.size (List.replicate 4 (.int .u64 0)) zs) := hM
      have hmI : (m : Int) < 4 := by omega
      have C := div64_any s zs[m] 10 ⟨by omega, by omega⟩ hw ⟨by omega, by omega⟩ (by omega)
      rw [e1]
      clear hI hM e1
      go_wp2_with fail
      refine (C _).mono ?_
      rintro e w1 ⟨rfl, hB⟩
      have M1 := HM.out.step hB
      obtain ⟨p1, p2⟩ := M1.cp m hz
      have R1 := tn_step HII.out hz hxm he.out _ _ rfl rfl
      have M2 : Hid (Mk w (w1.setCell ⟨w.heap.size, m, none⟩ (.int .u64 ((s * 18446744073709551616 + zs[m]) / 10))) (w.heap.size + 1) w.heap.size (List.replicate 4 (.int .u64 0)) (zs.set m ((s * 18446744073709551616 + zs[m]) / 10))) := M1.set (by omega) (Nat.le_refl _) m hz _
      clear q1 q2 C hB M1
      go_wp2
      go_roundw
      case rel => exact ⟨m, _, _, by omega, by go_num, rfl, R1, M2.out⟩
      case measure => simp [intOf]
    · obtain rfl : k = 0 := by omega
      have HV := hI.eq
      have HR0 := hI.r0
      have HR1 := hI.r1
      have HW := hI.wds
      obtain ⟨z0, z1, z2, z3, rfl⟩ := list4 hlen
      obtain ⟨c0, f0⟩ := hM.cp 0 (by simp)
      obtain ⟨c1, f1⟩ := hM.cp 1 (by simp)
      obtain ⟨c2, f2⟩ := hM.cp 2 (by simp)
      obtain ⟨c3, f3⟩ := hM.cp 3 (by simp)
      have d0 := hM.r.c 0 rfl; have e0 := hM.r.f 0 rfl
      have d1 := hM.r.c 1 rfl; have e1 := hM.r.f 1 rfl
      have d2 := hM.r.c 2 rfl; have e2 := hM.r.f 2 rfl
      have d3 := hM.r.c 3 rfl; have e3 := hM.r.f 3 rfl
      have HB := hM.below
      simp only [List.getElem_cons_zero, List.getElem_cons_succ] at c0 c1 c2 c3
      have HV2 : Hid (s = val64 xs % 10 ∧ val64 [z0, z1, z2, z3] = val64 xs / 10) := by
        simp only [List.drop_zero] at HV
        exact ⟨by omega, by omega⟩
      clear hI hM hlen HV HR0 HR1
      go_wp2
      refine bodyPost_ret (v := .tuple #[.agg #[.int .u64 z0, .int .u64 z1, .int .u64 z2, .int .u64 z3], .int .u64 s]) (by simp [results, Try.results44, go_sem, d0, d1, d2, d3]) rfl ?_
      refine ⟨[z0, z1, z2, z3], by rw [← HV2.out.1]; rfl, rfl, HW, HV2.out.2, ?_⟩
      repeat' (refine Below.setCell ?_ (by simp) _)
      exact HB
end Go.Proofs.Ytnnojeggjnddpaa

/- The words of a number, as its bits lie. -/
namespace Go.Proofs.Ytnnojeggjnddpaa
open Go.RowKit
/-- The words of a number, as its bits lie. -/
def ww0 (z : Int) : Int := z % 18446744073709551616
def ww1 (z : Int) : Int := z / 18446744073709551616 % 18446744073709551616
def ww2 (z : Int) : Int := z / 340282366920938463463374607431768211456 % 18446744073709551616
def ww3 (z : Int) : Int := z / 6277101735386680763835789423207666416102355444464034512896 % 18446744073709551616
theorem wd_of {a3 a2 a1 a0 z : Int} (h3 : Word a3) (h2 : Word a2) (h1 : Word a1) (h0 : Word a0) (h : sw a3 a2 a1 a0 = z) : a3 = ww3 z ∧ a2 = ww2 z ∧ a1 = ww1 z ∧ a0 = ww0 z := by
  unfold Word sw uw ww3 ww2 ww1 ww0 at *
  split at h <;> omega
abbrev W4 (z : Int) : Value := .agg #[.int .u64 (ww3 z), .int .u64 (ww2 z), .int .u64 (ww1 z), .int .u64 (ww0 z)]
def VP (v : Value) (w : World) (e : Ending) (w' : World) : Prop := e = .returned v ∧ Below w.heap.size w w'
end Go.Proofs.Ytnnojeggjnddpaa

/- Two rows of four values, and a flag, laid behind the arguments. -/
namespace Go.Proofs.Ytnnojeggjnddpaa
open Go.RowKit
theorem Blk.stored4g {W : World} {g : Nat} {z0 z1 z2 z3 : Value} (G : Blk W g [z0, z1, z2, z3]) (v0 v1 v2 v3 : Value) : Blk ((((W.setCell ⟨g, 0, none⟩ v0).setCell ⟨g, 1, none⟩ v1).setCell ⟨g, 2, none⟩ v2).setCell ⟨g, 3, none⟩ v3) g [v0, v1, v2, v3] :=
  (((G.setI 0 (by simp) v0).setI 1 (by simp) v1).setI 2 (by simp) v2).setI 3 (by simp) v3
def CutY (w wx : World) (vss : List (List Value)) (xs ys : List Value) (b : Bool) (p q r : Value) : Prop :=
  ∃ g g', p = (.pointer (some ⟨g, 0, none⟩)) ∧ q = (.pointer (some ⟨g', 0, none⟩)) ∧ r = .bool b ∧ g ≠ g' ∧ w.heap.size + vss.length ≤ g ∧ w.heap.size + vss.length ≤ g' ∧ ArgsB w wx vss ∧ Blk wx g xs ∧ Blk wx g' ys
theorem CutY.drew {w wx : World} {vss : List (List Value)} {xs ys : List Value} {b : Bool} {p q r : Value} (h : CutY w wx vss xs ys b p q r) : CutY w wx.drew vss xs ys b p q r := by
  obtain ⟨g, g', e, f, i, n, l, l', A, B, C⟩ := h
  exact ⟨g, g', e, f, i, n, l, l', A.drew, B.drew, C.drew⟩
end Go.Proofs.Ytnnojeggjnddpaa

/- The program's text of a number. -/
namespace Go.Proofs.Ytnnojeggjnddpaa
open Go.RowKit
set_option maxRecDepth 100000 in
set_option maxHeartbeats 2000000 in
theorem eqWordsZ (x0 x1 x2 x3 : Int) (w : World) : (Op.equalIn 10000 70 (.agg #[.int .u64 x0, .int .u64 x1, .int .u64 x2, .int .u64 x3]) (.agg #[.int .u64 0, .int .u64 0, .int .u64 0, .int .u64 0])).run Try.prog w = .ok (x0 == 0 && x1 == 0 && x2 == 0 && x3 == 0) w := by
  have u3 := Try.underlying22
  have a3 := Try.isAgg22
  have z3 := Try.sizeOf22
  rw [show (10000 : Nat) = 9999 + 1 from rfl, Op.equalIn]
  simp only [Sem.run_bind, run_underlying Try.underlying70, Result.andThen_ok]
  simp only [Std.Legacy.Range.forIn_eq_forIn_range', Std.Legacy.Range.size, Nat.sub_zero, Nat.add_sub_cancel, Nat.div_one, List.range'_succ, List.range'_zero, List.forIn_cons, List.forIn_nil]
  go_simp
  by_cases h0 : x0 = 0
  · subst h0
    by_cases h1 : x1 = 0
    · subst h1
      by_cases h2 : x2 = 0
      · subst h2
        by_cases h3 : x3 = 0
        · subst h3
          simp
        · simp [h3]
      · simp [h2]
    · simp [h1]
  · simp [h0]
theorem zeroW4 {x0 x1 x2 x3 : Int} (h : Words [x0, x1, x2, x3]) : (x0 == 0 && x1 == 0 && x2 == 0 && x3 == 0) = decide (val64 [x0, x1, x2, x3] = 0) := by
  obtain ⟨h0, h1, h2, h3⟩ := words4_of h
  unfold Word at *
  rw [Bool.eq_iff_iff, decide_eq_true_iff]
  simp only [Bool.and_eq_true, beq_iff_eq, val64]
  omega
/-- Bytes as they lie in a row. -/
def byV (l : List Nat) : List Value := l.map fun (n : Nat) => Value.int .u8 (n : Int)
theorem byV_set (k : Nat) (ts : List Nat) (b : Nat) : (byV (List.replicate (k + 1) 0 ++ ts)).set k (.int .u8 (b : Int)) = byV (List.replicate k 0 ++ b :: ts) := by
  unfold byV
  rw [show Value.int .u8 (b : Int) = (fun (n : Nat) => Value.int .u8 (n : Int)) b from rfl, ← List.map_set]
  congr 1
  rw [List.replicate_succ', List.append_assoc, List.set_append_right _ _ (by simp)]
  simp
theorem byV_len (l : List Nat) : (byV l).length = l.length := by simp [byV]
/-- What lies in memory while a text is written from its end on. -/
structure WtI (w wr : World) (g : Nat) (n : Nat) (a : List Value) (k : Nat) (zs : List Int) (d : Nat) (ts : List Nat) : Prop where
  below : Below w.heap.size w wr
  ba : Blk wr w.heap.size a
  bt : Blk wr (w.heap.size + 1) (byV (List.replicate k 0 ++ ts))
  bs : Blk wr g (zs.map (Value.int .u64))
  zl : zs.length = 4
  zw : Words zs
  gl : w.heap.size + 1 < g
  len : k + ts.length = 78
  d10 : d < 10
  eq : dgs n = dg (val64 zs).toNat ++ (48 + d) :: ts
theorem WtI.fit {w wr : World} {g n : Nat} {a : List Value} {k : Nat} {zs : List Int} {d : Nat} {ts : List Nat} (h : WtI w wr g n a k zs d ts) (hn : n < 10 ^ 77) : 2 ≤ k := by
  have h1 := dgs_len (k := 77) (by omega) hn
  rw [h.eq] at h1
  have := h.len
  simp at h1
  omega
theorem WtI.next {w wr w1 : World} {g n : Nat} {a : List Value} {k : Nat} {zs ys : List Int} {d e : Nat} {ts : List Nat} (h : WtI w wr g n a (k + 1) zs d ts) (hv : 0 < val64 zs) (hB : Below (wr.setCell ⟨w.heap.size + 1, k, none⟩ (.int .u8 (48 + (d : Int)))).heap.size (wr.setCell ⟨w.heap.size + 1, k, none⟩ (.int .u8 (48 + (d : Int)))) w1) {y0 y1 y2 y3 : Int} (hy : ys = [y0, y1, y2, y3]) (yw : Words ys) (yv : val64 ys = val64 zs / 10) (he : (e : Int) = val64 zs % 10) :
    WtI w ((((w1.setCell ⟨g, 0, none⟩ (.int .u64 y0)).setCell ⟨g, 1, none⟩ (.int .u64 y1)).setCell ⟨g, 2, none⟩ (.int .u64 y2)).setCell ⟨g, 3, none⟩ (.int .u64 y3)) g n a k ys e ((48 + d) :: ts) := by
  have hgl := h.gl
  have hsz := h.below.size
  have hg : w.heap.size ≤ g := by omega
  have B1 := (h.below.setCell (p := ⟨w.heap.size + 1, k, none⟩) (by show w.heap.size ≤ w.heap.size + 1; omega) (.int .u8 (48 + (d : Int))))
  have B2 := B1.trans (hB.mono B1.size)
  have BA := (h.ba.setO (p := ⟨w.heap.size + 1, k, none⟩) (by show w.heap.size ≠ w.heap.size + 1; omega) (.int .u8 (48 + (d : Int)))).step hB
  have BT0 := h.bt.setI k (by rw [byV_len]; simp; omega) (.int .u8 (48 + (d : Int)))
  rw [show 48 + (d : Int) = ((48 + d : Nat) : Int) by omega, byV_set, ← show 48 + (d : Int) = ((48 + d : Nat) : Int) by omega] at BT0
  have BT := BT0.step hB
  have BS := (h.bs.setO (p := ⟨w.heap.size + 1, k, none⟩) (by show g ≠ w.heap.size + 1; omega) (.int .u8 (48 + (d : Int)))).step hB
  obtain ⟨z0, z1, z2, z3, hz⟩ := list4 h.zl
  rw [hz] at BS
  refine ⟨(((B2.setCell (p := ⟨g, 0, none⟩) hg _).setCell (p := ⟨g, 1, none⟩) hg _).setCell (p := ⟨g, 2, none⟩) hg _).setCell (p := ⟨g, 3, none⟩) hg _, BA.set4 (by omega), BT.set4 (by omega), ?_, by rw [hy]; rfl, yw, hgl, by have := h.len; simp; omega, by omega, ?_⟩
  · rw [hy]
    exact Blk.stored4g BS _ _ _ _
  · rw [h.eq, dg_step (n := (val64 zs).toNat) (by omega), yv]
    rw [show (val64 zs).toNat / 10 = (val64 zs / 10).toNat by omega, show (val64 zs).toNat % 10 = e by omega, List.append_assoc]
    rfl
theorem arr78 : Try.prog.arrayLen 68 = 78 := by kernel_rfl
theorem und78 : Try.prog.underlying 68 = some (.array (Try.prog.arrayLen 68) (Try.prog.elem 68)) := by kernel_rfl
theorem siz78 (w : World) : (sizeOf (Try.prog.elem 68)).run Try.prog w = .ok 1 w := by kernel_rfl
theorem slice78_l (g l : Nat) (hl : l < 78) (i : Int) (hi : i = l) (w : World) : (Instr.sliceAt 68 (.pointer (some ⟨g, 0, none⟩)) (some (.int .i64 i)) none none).run Try.prog w = .ok (.slice (some ⟨g, l, none⟩) (78 - l) (78 - l)) w := by
  subst hi
  rw [run_sliceAt_array_l w _ _ und78 _ _ (by omega) (by rw [arr78]; omega), siz78, arr78]
  simp only [Result.andThen, slicedAt, Addr.add, Int.toNat_natCast, Nat.mul_one, Nat.zero_add]
  rw [if_neg (by omega)]
  split
  · next h0 => rw [h0]
  · rfl
theorem text_out {W : World} {g k : Nat} {l : List Nat} (h : Blk W g (byV (List.replicate k 0 ++ l))) (hk : k + l.length = 78) : (convert 53 9 (.slice (some ⟨g, k, none⟩) (78 - k) (78 - k))).run Try.prog W = .ok (.string (strL l)) W :=
  run_convert_bytes_arg (P := Try.prog) W 53 5 Try.underlying53 Try.underlying5 g k (78 - k) (78 - k) (l.map fun (n : Nat) => (n : Int)) (by simp; omega) (fun i hi => by
    refine h.c (k + i) ?_
    have hi2 : i < l.length := by omega
    unfold byV
    rw [List.getElem?_map, List.getElem?_append_right (by simp), List.length_replicate, Nat.add_sub_cancel_left, List.getElem?_eq_getElem hi2]
    simp [List.getD_eq_getElem?_getD, hi2]) 9 Try.underlying9
theorem zero78 : Try.zeroCells68 = (byV (List.replicate 78 0 ++ [])).toArray := by kernel_rfl
set_option maxRecDepth 100000 in
set_option maxHeartbeats 2000000 in
theorem implText_any (a3 a2 a1 a0 : Int) (h3 : Word a3) (h2 : Word a2) (h1 : Word a1) (h0 : Word a0) (w : World) : Calls Try.prog 14 #[.agg #[.int .u64 a3, .int .u64 a2, .int .u64 a1, .int .u64 a0]] w (VP (.string (txS (sw a3 a2 a1 a0))) w) := by
  have CS := sizeOf_any a3 a2 a1 a0 h3 h2 h1 h0
  have hsb := sw_bound h3 h2 h1 h0
  have hsn := sw_neg h3 h2 h1 h0
  have h3H : Hid (Word a3) := h3
  have HB0 : Hid (Below w.heap.size w ((w.alloc (Obj.cells #[.int .u64 a3, .int .u64 a2, .int .u64 a1, .int .u64 a0] 26)).alloc (Obj.cells Try.zeroCells68 68))) := ((Below.refl _ _).alloc (Nat.le_refl _) _).alloc (by simp) _
  have BA0 : Hid (Blk ((w.alloc (Obj.cells #[.int .u64 a3, .int .u64 a2, .int .u64 a1, .int .u64 a0] 26)).alloc (Obj.cells Try.zeroCells68 68)) w.heap.size [.int .u64 a3, .int .u64 a2, .int .u64 a1, .int .u64 a0]) := (Blk.new w [.int .u64 a3, .int .u64 a2, .int .u64 a1, .int .u64 a0] _ rfl).alloc _
  have BT0 : Hid (Blk ((w.alloc (Obj.cells #[.int .u64 a3, .int .u64 a2, .int .u64 a1, .int .u64 a0] 26)).alloc (Obj.cells Try.zeroCells68 68)) (w.heap.size + 1) (byV (List.replicate 78 0 ++ []))) := by
    show Blk _ _ _
    rw [zero78]
    exact Blk.new _ _ _ (by simp)
  generalize hz : sw a3 a2 a1 a0 = z at *
  have HZ : Hid (sw a3 a2 a1 a0 = z) := hz
  clear hz h3 h2 h1 h0
  go_enter Try.func14, Try.ntmps14
  go_wp2_with fail
  generalize ((w.alloc (Obj.cells #[.int .u64 a3, .int .u64 a2, .int .u64 a1, .int .u64 a0] 26)).alloc (Obj.cells Try.zeroCells68 68)) = W0 at *
  refine (CS _).mono ?_
  rintro e w1 ⟨x3, x2, x1, x0, rfl, g3, g2, g1, g0, hu, hB⟩
  have BA1 := BA0.out.step hB
  have BT1 := BT0.out.step hB
  have HB1 := HB0.out.trans (hB.mono HB0.out.size)
  clear BA0 BT0 HB0 hB CS
  obtain ⟨n, hn⟩ : ∃ n, n = z.natAbs := ⟨_, rfl⟩
  have hn77 : Hid (n < 10 ^ 77) := by
    show _ < _
    omega
  rw [← hn] at hu
  have HN : Hid (n = z.natAbs) := hn
  clear hn
  have CT := tenthOf_any [x0, x1, x2, x3] rfl (words4 g0 g1 g2 g3)
  rw [val64_4, hu] at CT
  go_wp2_with fail
  refine (CT _).mono ?_
  rintro e w2 ⟨zs, rfl, zl, zw, zv, hB⟩
  have BA2 := BA1.step hB
  have BT2 := BT1.step hB
  have HB2 := HB1.trans (hB.mono HB1.size)
  clear BA1 BT1 HB1 hB CT
  have e1 : ((n : Int) % 10) = ((n % 10 : Nat) : Int) := by omega
  rw [e1]
  have HI0 : Hid (dgs n = dg (val64 zs).toNat ++ (48 + n % 10) :: []) := by
    show _ = _
    rw [zv, show ((n : Int) / 10).toNat = n / 10 by omega]; rfl
  have hd : n % 10 < 10 := by omega
  generalize n % 10 = d at *
  clear e1 hu zv
  obtain ⟨z0, z1, z2, z3, rfl⟩ := list4 zl
  simp only [agg, List.map_cons, List.map_nil]
  have HW2 := HB2.size
  have HI1 : Hid (WtI w (w2.alloc (Obj.cells #[.int .u64 z0, .int .u64 z1, .int .u64 z2, .int .u64 z3] 70)) w2.heap.size n [.int .u64 a3, .int .u64 a2, .int .u64 a1, .int .u64 a0] 78 [z0, z1, z2, z3] d []) :=
    ⟨HB2.alloc HW2 _, BA2.alloc _, BT2.alloc _, Blk.new _ [.int .u64 z0, .int .u64 z1, .int .u64 z2, .int .u64 z3] _ rfl, rfl, zw, BT2.lt, rfl, hd, HI0.out⟩
  clear BA2 BT2 HB2 HI0
  go_wp2
  generalize (w2.alloc (Obj.cells #[.int .u64 z0, .int .u64 z1, .int .u64 z2, .int .u64 z3] 70)) = W2 at *
  generalize w2.heap.size = g at *
  go_loopw [4, 6] (fun at' dv wr => ∃ (k : Nat) (zs : List Int) (e : Nat) (ts : List Nat), at' = .int .i64 k ∧ dv = .int .u64 e ∧ WtI w wr g n [.int .u64 a3, .int .u64 a2, .int .u64 a1, .int .u64 a0] k zs e ts) (fun at' _ _ => (intOf at').toNat)
  case atStart => exact ⟨78, _, d, [], rfl, rfl, HI1.out⟩
  case round =>
    clear HI1 hd zw zl
    obtain ⟨k, zs, e, ts, rfl, rfl, hI⟩ := hrel
    have hk2 := hI.fit hn77.out
    have zl := hI.zl
    have zw := hI.zw
    have hgl := hI.gl
    have hlen := hI.len
    have hd := hI.d10
    obtain ⟨y0, y1, y2, y3, hy⟩ := list4 zl
    have EZ := eqWordsZ y0 y1 y2 y3
    rw [zeroW4 (by rw [← hy]; exact zw), ← hy] at EZ
    have BS := hI.bs
    rw [hy] at BS
    obtain ⟨c0, f0, c1, f1, c2, f2, c3, f3⟩ := BS.cf4
    obtain ⟨j, rfl⟩ : ∃ j, k = j + 1 := ⟨k - 1, by omega⟩
    have bt1 := hI.bt.c j (v := .int .u8 0) (by unfold byV; rw [List.getElem?_map, List.getElem?_append_left (by simp), List.getElem?_replicate_of_lt (by omega)]; rfl)
    have bt2 := hI.bt.f j (v := .int .u8 0) (by unfold byV; rw [List.getElem?_map, List.getElem?_append_left (by simp), List.getElem?_replicate_of_lt (by omega)]; rfl)
    obtain ⟨q0, q1, q2, q3⟩ := hI.ba.cs4
    have HY : Hid (zs = [y0, y1, y2, y3]) := hy
    have HII : Hid (WtI w wr g n [.int .u64 a3, .int .u64 a2, .int .u64 a1, .int .u64 a0] (j + 1) zs e ts) := hI
    have hv0 := val64_nonneg zw
    clear hI hy
    have ej : ((j + 1 : Nat) : Int) - 1 = j := by omega
    have hj78 : (j : Int) < 78 := by omega
    have eb : IntKind.u8.wrap (48 + IntKind.u8.wrap (e : Int)) = ((48 + e : Nat) : Int) := by
      rw [IntKind.wrap_u8, IntKind.wrap_u8]
      omega
    by_cases hz : val64 zs = 0
    · rw [hz] at EZ
      simp only [decide_true] at EZ
      have hL : Hid (dgs n = (48 + e) :: ts) := by
        have := HII.out.eq
        rw [hz, show (0 : Int).toNat = 0 from rfl, dg_zero] at this
        exact this
      have BT1 : Hid (Blk (wr.setCell ⟨w.heap.size + 1, j, none⟩ (.int .u8 (48 + (e : Int)))) (w.heap.size + 1) (byV (List.replicate j 0 ++ (48 + e) :: ts))) := by
        have := HII.out.bt.setI j (by rw [byV_len]; simp; omega) (.int .u8 ((48 + e : Nat) : Int))
        rw [byV_set] at this
        rw [show 48 + (e : Int) = ((48 + e : Nat) : Int) by omega]
        exact this
      have HB1 : Hid (Below w.heap.size w (wr.setCell ⟨w.heap.size + 1, j, none⟩ (.int .u8 (48 + (e : Int))))) := HII.out.below.setCell (by show w.heap.size ≤ w.heap.size + 1; omega) _
      rw [← hL.out] at BT1
      have hdl : Hid (j + (dgs n).length = 78) := by show _ = _; rw [hL.out]; simp; omega
      clear HII hL
      by_cases hz0 : z < 0
      · have CB := isBelow_any a3 a2 a1 a0 h3H.out true (beq_iff_eq.2 (by have := h3H.out; unfold Word at this; omega))
        have hT : Hid (txS z = strL (45 :: dgs n)) := by show _ = _; unfold txS txL; rw [if_pos hz0, ← HN.out]; rfl
        clear hz0 hsn hsb
        go_wp2_with fail
        generalize (wr.setCell ⟨w.heap.size + 1, j, none⟩ (.int .u8 (48 + (e : Int)))) = W3 at *
        refine (CB _).mono ?_
        rintro e w4 ⟨rfl, hB⟩
        have BT2 := BT1.out.step hB
        have HB2 := HB1.out.trans (hB.mono HB1.out.size)
        clear CB BT1 HB1 hB q0 q1 q2 q3 c0 c1 c2 c3 f0 f1 f2 f3 bt1 bt2
        obtain ⟨i, rfl⟩ : ∃ i, j = i + 1 := ⟨j - 1, by omega⟩
        have bt1 := BT2.c i (v := .int .u8 0) (by unfold byV; rw [List.getElem?_map, List.getElem?_append_left (by simp), List.getElem?_replicate_of_lt (by omega)]; rfl)
        have bt2 := BT2.f i (v := .int .u8 0) (by unfold byV; rw [List.getElem?_map, List.getElem?_append_left (by simp), List.getElem?_replicate_of_lt (by omega)]; rfl)
        have ei : ((i + 1 : Nat) : Int) - 1 = i := by omega
        have hi78 : (i : Int) < 78 := by omega
        have BT3 : Blk (w4.setCell ⟨w.heap.size + 1, i, none⟩ (.int .u8 45)) (w.heap.size + 1) (byV (List.replicate i 0 ++ 45 :: dgs n)) := by
          have := BT2.setI i (by rw [byV_len]; simp; omega) (.int .u8 ((45 : Nat) : Int))
          rw [byV_set] at this
          exact this
        have CV := text_out BT3 (by have := hdl.out; simp; omega)
        have SL := slice78_l (w.heap.size + 1) i (by omega) i rfl
        have HB3 : Hid (Below w.heap.size w (w4.setCell ⟨w.heap.size + 1, i, none⟩ (.int .u8 45))) := HB2.setCell (by show w.heap.size ≤ w.heap.size + 1; omega) _
        clear BT2 BT3 HB2
        go_wp2
        go_ret
        exact ⟨by rw [hT.out]; rfl, HB3.out⟩
      · have CB := isBelow_any a3 a2 a1 a0 h3H.out false (beq_eq_false_iff_ne.2 (by have := h3H.out; unfold Word at this; omega))
        have hT : Hid (txS z = strL (dgs n)) := by show _ = _; unfold txS txL; rw [if_neg hz0, ← HN.out]; rfl
        clear hz0 hsn hsb
        go_wp2_with fail
        generalize (wr.setCell ⟨w.heap.size + 1, j, none⟩ (.int .u8 (48 + (e : Int)))) = W3 at *
        refine (CB _).mono ?_
        rintro e w4 ⟨rfl, hB⟩
        have BT2 := BT1.out.step hB
        have HB2 := HB1.out.trans (hB.mono HB1.out.size)
        clear CB BT1 HB1 hB q0 q1 q2 q3 c0 c1 c2 c3 f0 f1 f2 f3 bt1 bt2
        have CV := text_out BT2 hdl.out
        have SL := slice78_l (w.heap.size + 1) j (by omega) j rfl
        clear BT2
        go_wp2
        go_ret
        exact ⟨by rw [hT.out]; rfl, HB2⟩
    · simp only [hz, decide_false] at EZ
      have CT := tenthOf_any zs zl zw
      rw [HY.out] at CT
      rw [← HY.out] at CT
      have hv1 : 0 < val64 zs := by omega
      have ee : Hid (val64 zs % 10 = ((val64 zs % 10).toNat : Int)) := by show _ = _; omega
      have CT2 : ∀ w, Calls Try.prog 44 #[.agg #[.int .u64 y0, .int .u64 y1, .int .u64 y2, .int .u64 y3]] w (TenP (val64 zs) w) := by
        have := CT
        rw [show agg zs = .agg #[.int .u64 y0, .int .u64 y1, .int .u64 y2, .int .u64 y3] by rw [HY.out]; rfl] at this
        exact this
      clear CT
      go_wp2_with fail
      refine (CT2 _).mono ?_
      rintro e2 w4 ⟨xs, rfl, xl, xw, xv, hB⟩
      rw [ee.out]
      obtain ⟨m, hm⟩ : ∃ m, m = (val64 zs % 10).toNat := ⟨_, rfl⟩
      obtain ⟨s0, s1, s2, s3, hs⟩ := list4 xl
      have N1 := HII.out.next hv1 hB hs xw xv (by rw [← hm] at ee; exact ee.out.symm)
      have m1 := HII.out.bs.setO (p := ⟨w.heap.size + 1, j, none⟩) (by show g ≠ w.heap.size + 1; omega) (.int .u8 (48 + (e : Int)))
      have m2 := m1.step hB
      rw [HY.out] at m2
      obtain ⟨k0, l0, k1, l1, k2, l2, k3, l3⟩ := m2.cf4
      rw [← hm]
      have NN : Hid (WtI w ((((w4.setCell ⟨g, 0, none⟩ (.int .u64 s0)).setCell ⟨g, 1, none⟩ (.int .u64 s1)).setCell ⟨g, 2, none⟩ (.int .u64 s2)).setCell ⟨g, 3, none⟩ (.int .u64 s3)) g n [.int .u64 a3, .int .u64 a2, .int .u64 a1, .int .u64 a0] j xs m ((48 + e) :: ts)) := N1
      have SA : agg xs = .agg #[.int .u64 s0, .int .u64 s1, .int .u64 s2, .int .u64 s3] := by rw [hs]; rfl
      rw [SA]
      clear HII N1 hB m1 m2 hs SA EZ CT2 q0 q1 q2 q3 c0 c1 c2 c3 f0 f1 f2 f3 bt1 bt2 hm ee
      go_wp2
      go_roundw
      case rel => exact ⟨j, _, m, _, by go_num, rfl, NN.out⟩
      case measure => simp [intOf]
end Go.Proofs.Ytnnojeggjnddpaa

/- The walk of the model's product of two numbers. -/
namespace Go.Proofs.Ytnnojeggjnddpaa
open Go.RowKit
theorem val_set (zs : List Int) (j : Nat) (h : j < zs.length) (u : Int) : val (zs.set j u) = val zs + pw j * (u - zs[j]) := by
  have e1 := val_split zs j h
  have e2 := val_split (zs.set j u) j (by simpa using h)
  rw [e2, e1]
  have t1 : (zs.set j u).take j = zs.take j := by rw [List.take_set_of_le (by omega)]
  have t2 : (zs.set j u).drop (j + 1) = zs.drop (j + 1) := by rw [List.drop_set_of_lt (by omega)]
  rw [t1, t2]
  simp only [List.getElem_set_self]
  grind
theorem dig_set {zs : List Int} (h : Dig zs) (j : Nat) {u : Int} (h0 : 0 ≤ u) (h1 : u < 4294967296) : Dig (zs.set j u) := by
  intro d hd
  rcases List.mem_or_eq_of_mem_set hd with h' | h'
  · exact h d h'
  · subst h'; exact ⟨h0, h1⟩
/-- Between the rounds of the outer loop. -/
structure MuI (W wr : World) (g nm : Nat) (xs ys zs : List Int) (i m : Nat) : Prop where
  len : zs.length = nm
  dig : Dig zs
  eq : val zs = val (xs.take i) * val ys
  zero : ∀ j, i + m ≤ j → (h : j < zs.length) → zs[j] = 0
  own : wr.ownsRow g 112 1 (.slice (some ⟨g, 0, none⟩) nm nm) nm (zs.map (Value.int .u32))
  below : Below g W wr
/-- Between the rounds of the inner loop. -/
structure MuJ (W wr : World) (g nm : Nat) (xs ys zs : List Int) (i m k : Nat) (x c : Int) : Prop where
  len : zs.length = nm
  dig : Dig zs
  eq : val zs + c * pw (i + k) = val (xs.take i) * val ys + x * (pw i * val (ys.take k))
  zero : ∀ j, i + m ≤ j → (h : j < zs.length) → zs[j] = 0
  own : wr.ownsRow g 112 1 (.slice (some ⟨g, 0, none⟩) nm nm) nm (zs.map (Value.int .u32))
  below : Below g W wr
theorem mu_in {W wr : World} {g nm : Nat} {xs ys zs : List Int} {i m : Nat} (h : MuI W wr g nm xs ys zs i m) (x : Int) : MuJ W wr g nm xs ys zs i m 0 x 0 :=
  ⟨h.len, h.dig, by simp [val, h.eq], h.zero, h.own, h.below⟩
theorem mu_cell {W wr : World} {g nm : Nat} {xs ys zs : List Int} {i m k : Nat} {x c : Int} (h : MuJ W wr g nm xs ys zs i m k x c) (j : Nat) (hj : j < zs.length) : wr.cell? ⟨g, j, none⟩ = some (.int .u32 zs[j]) ∧ wr.frozen? ⟨g, j, none⟩ = false := by
  refine ⟨?_, h.own.frozenAt j⟩
  rw [h.own.cellAt j (by rw [← h.len]; omega)]
  simp [hj]
theorem mu_step {W wr : World} {g nm : Nat} {xs ys zs : List Int} {i m k : Nat} {x c : Int} (h : MuJ W wr g nm xs ys zs i m k x c) (hk : k < ys.length) (hkm : k < m) (hj : i + k < zs.length) (t : Int) (ht : t = c + x * ys[k] + zs[i + k]) (nq : Nat) :
    MuJ W ((wr.setCell ⟨g, i + k, none⟩ (.int .u32 (t % 4294967296))).drewN nq) g nm xs ys (zs.set (i + k) (t % 4294967296)) i m (k + 1) x (t / 4294967296) := by
  obtain ⟨o1, o2⟩ := h.own.stored (i + k) (.int .u32 (t % 4294967296))
  refine ⟨by simpa using h.len, dig_set h.dig _ (by omega) (by omega), ?_, ?_, ?_, bdrew (h.below.setCell (Nat.le_refl _) _) _⟩
  · rw [val_set zs _ hj, show i + (k + 1) = (i + k) + 1 by omega, pw, val_take_succ ys k hk]
    have e := h.eq
    have e2 : t = t % 4294967296 + 4294967296 * (t / 4294967296) := by omega
    have e3 := pw_add i k
    generalize t / 4294967296 = q at *
    generalize t % 4294967296 = r at *
    generalize zs[i + k] = zk at *
    generalize ys[k] = yk at *
    generalize pw (i + k) = p at *
    subst e2
    grind
  · intro j hj1 hj2
    have hj3 : j < zs.length := by simpa using hj2
    rw [List.getElem_set_ne (by omega)]
    exact h.zero j hj1 hj3
  · have : (zs.map (Value.int .u32)).set (i + k) (.int .u32 (t % 4294967296)) = (zs.set (i + k) (t % 4294967296)).map (Value.int .u32) := by rw [List.map_set]
    rw [← this]; exact o1
theorem mu_out {W wr : World} {g nm : Nat} {xs ys zs : List Int} {i m : Nat} {c : Int} (hi : i < xs.length) (h : MuJ W wr g nm xs ys zs i m m xs[i] c) (hm : ys.length = m) (hj : i + m < zs.length) (h0 : 0 ≤ c) (h1 : c < 4294967296) :
    MuI W (wr.setCell ⟨g, i + m, none⟩ (.int .u32 c)) g nm xs ys (zs.set (i + m) c) (i + 1) m := by
  obtain ⟨o1, o2⟩ := h.own.stored (i + m) (.int .u32 c)
  refine ⟨by simpa using h.len, dig_set h.dig _ h0 h1, ?_, ?_, ?_, h.below.setCell (Nat.le_refl _) _⟩
  · rw [val_set zs _ hj, h.zero (i + m) (Nat.le_refl _) hj, val_take_succ xs i hi]
    have e := h.eq
    rw [val_take_all ys m (by omega)] at e
    generalize pw (i + m) = p at *
    grind
  · intro j hj1 hj2
    have hj3 : j < zs.length := by simpa using hj2
    rw [List.getElem_set_ne (by omega)]
    exact h.zero j (by omega) hj3
  · have : (zs.map (Value.int .u32)).set (i + m) (.int .u32 c) = (zs.set (i + m) c).map (Value.int .u32) := by rw [List.map_set]
    rw [← this]; exact o1
theorem mul_bound {x y : Int} (hx0 : 0 ≤ x) (hx1 : x < 4294967296) (hy0 : 0 ≤ y) (hy1 : y < 4294967296) : 0 ≤ x * y ∧ x * y ≤ 18446744065119617025 := by
  refine ⟨Int.mul_nonneg hx0 hy0, ?_⟩
  have h1 : x * y ≤ 4294967295 * y := Int.mul_le_mul_of_nonneg_right (by omega) hy0
  omega
theorem mul_sign {x y : Int} {s t : Bool} {xs ys : List Int} (hs : s = decide (x < 0)) (ht : t = decide (y < 0)) (hx : val xs = (x.natAbs : Int)) (hy : val ys = (y.natAbs : Int)) : (x * y ≠ 0 → (s != t) = decide (x * y < 0)) ∧ val xs * val ys = ((x * y).natAbs : Int) := by
  constructor
  · intro hz
    have hx0 : x ≠ 0 := by rintro rfl; simp at hz
    have hy0 : y ≠ 0 := by rintro rfl; simp at hz
    rw [hs, ht]
    by_cases p : x < 0 <;> by_cases q : y < 0
    · have := Int.mul_pos_of_neg_of_neg p q; simp [p, q]; omega
    · have := Int.mul_neg_of_neg_of_pos p (show 0 < y by omega); simp [p, q, this]
    · have := Int.mul_neg_of_pos_of_neg (show 0 < x by omega) q; simp [p, q, this]
    · have := Int.mul_pos (show 0 < x by omega) (show 0 < y by omega); simp [p, q]; omega
  · rw [hx, hy, Int.natAbs_mul]; simp
theorem mu_start {W w1 : World} {g nm : Nat} {xs ys : List Int} {m : Nat} (hg : g = W.heap.size) (hown : w1.ownsRow g 112 1 (.slice (some ⟨g, 0, none⟩) nm nm) nm (madeCells #[Value.int .u32 0] nm).toList) (hgrow : W.grownBy w1 none) : MuI W w1 g nm xs ys (List.replicate nm 0) 0 m := by
  subst hg
  refine ⟨by simp, fun d hd => by rw [List.eq_of_mem_replicate hd]; decide, by simp [val_zeros, val], fun j _ h => by simp, ?_, (Below.refl _ _).grown hgrow (Nat.le_refl _) (by simp)⟩
  rw [made_one] at hown
  simpa using hown
set_option maxRecDepth 100000 in
set_option maxHeartbeats 2000000 in
theorem mul_some (s t : Bool) (ao bo : Option Addr) (n m ca cb k : Nat) (xs ys : List Int) (x y : Int) (w : World) (hx : IsNum w s ao n ca xs x k) (hy : IsNum w t bo m cb ys y k) (hk : k ≤ 100000) (hx0 : x ≠ 0) (hy0 : y ≠ 0) :
    Calls Try.prog 82 #[.agg #[.bool s, .slice ao n ca], .agg #[.bool t, .slice bo m cb]] w (NumP (k + k) (x * y) w) := by
  obtain ⟨i0, hi, hz0, hz1, hz2⟩ := info_parts Try.info88
  have hn0 : ((n : Int) == 0) = false := beq_eq_false_iff_ne.2 (by intro h; exact hx0 (hx.zero.1 (by omega)))
  have hm0 : ((m : Int) == 0) = false := beq_eq_false_iff_ne.2 (by intro h; exact hy0 (hy.zero.1 (by omega)))
  have T0 := two_start w (.bool s) (.slice ao n ca) (.bool t) (.slice bo m cb)
  have HX : Hid (xs.length = n) := hx.len
  have HY : Hid (ys.length = m) := hy.len
  have HDX : Hid (Dig xs) := hx.nrm.1
  have HDY : Hid (Dig ys) := hy.nrm.1
  have hnk := hx.le
  have hmk := hy.le
  have HRX0 := hx.rd.below T0.below (Nat.le_refl _)
  have HRY0 := hy.rd.below T0.below (Nat.le_refl _)
  have HSG : Hid ((x * y ≠ 0 → (s != t) = decide (x * y < 0)) ∧ val xs * val ys = ((x * y).natAbs : Int)) := mul_sign hx.neg hy.neg hx.val hy.val
  clear hx hy
  go_enter Try.func82, Try.ntmps82
  go_upto_region 3 with fail
  generalize ((w.alloc (Obj.cells #[Value.bool s, Value.slice ao n ca] 66)).alloc (Obj.cells #[Value.bool t, Value.slice bo m cb] 66)).alloc (Obj.cells #[Value.bool false, Value.slice none 0 0] 66) = W at *
  have q0 := T0.a0; have q1 := T0.a1; have q2 := T0.b0; have q3 := T0.b1
  have HRX : Hid (Rd W ao xs) := HRX0
  have HRY : Hid (Rd W bo ys) := HRY0
  clear HRX0 HRY0
  go_wp2_with (at_make; refine wpList_make_full _ rfl _ _ 64 rfl W.heap.size 112 i0 (.int .u32 0) 1 Try.underlying64 hi hz0 hz1 _ _ _ _ (n + m) rfl rfl (by omega) (by omega) (by rw [hz2]; omega) (by unfold maxLen; omega) (Nat.le_refl _) ?_)
  intro w1 hown hgrow
  have HS : MuI W w1 W.heap.size (n + m) xs ys (List.replicate (n + m) 0) 0 m := mu_start rfl (by simpa using hown) hgrow
  clear hown hgrow q0 q1 q2 q3
  have hsz := T0.sz
  go_wp2
  go_loopw [6] (fun i wr => ∃ (c : Nat) (zs : List Int), c ≤ n ∧ i = .int .i64 c ∧ MuI W wr W.heap.size (n + m) xs ys zs c m) (fun i _ => n - (intOf i).toNat)
  case atStart => exact ⟨0, _, Nat.zero_le _, rfl, HS⟩
  case round =>
    obtain ⟨i, zs, hin, rfl, hI⟩ := hrel
    clear HS
    have T1 := T0.step hI.below
    have q1 := T1.a1; have q3 := T1.b1
    by_cases hi' : i < n
    · have hix : i < xs.length := by have := HX.out; omega
      obtain ⟨bx, ox, rfl, hbx, hcx0⟩ := HRX.out i hix
      obtain ⟨hx0', hx1'⟩ := dig_at HDX.out i hix
      have HJ := mu_in hI xs[i]
      clear hI
      go_wp2
      obtain ⟨wo, hwo⟩ : ∃ wo : World, wo = wr := ⟨_, rfl⟩
      subst hwo
      go_loopw [7, 8] (fun c k wr => ∃ (j : Nat) (cv : Int) (zs : List Int), j ≤ m ∧ k = .int .i64 j ∧ 0 ≤ cv ∧ cv < 4294967296 ∧ c = .int .u64 cv ∧ MuJ W wr W.heap.size (n + m) xs ys zs i m j xs[i] cv) (fun _ k _ => m - (intOf k).toNat)
      case atStart => exact ⟨0, 0, _, Nat.zero_le _, rfl, by decide, by decide, rfl, HJ⟩
      case round =>
        obtain ⟨j, cv, zs', hj, rfl, hc0, hc1, rfl, hJ⟩ := hrel
        clear HJ T1 q1 q3
        have T1 := T0.step hJ.below
        have q1 := T1.a1; have q3 := T1.b1
        have hlen := hJ.len
        by_cases hj' : j < m
        · have hjy : j < ys.length := by have := HY.out; omega
          obtain ⟨by', oy, rfl, hby, hcy0⟩ := HRY.out j hjy
          obtain ⟨hy0', hy1'⟩ := dig_at HDY.out j hjy
          have hcx := (hJ.below.cell (p := ⟨bx, ox + i, none⟩) hbx).trans hcx0
          have hcy := (hJ.below.cell (p := ⟨by', oy + j, none⟩) hby).trans hcy0
          have hij : i + j < zs'.length := by omega
          obtain ⟨hcz, hfz⟩ := mu_cell hJ (i + j) hij
          obtain ⟨hz0', hz1'⟩ := dig_at hJ.dig (i + j) hij
          obtain ⟨P, hP⟩ : ∃ P, xs[i] * ys[j] = P := ⟨_, rfl⟩
          obtain ⟨hP0, hP1⟩ := mul_bound hx0' hx1' hy0' hy1'
          rw [hP] at hP0 hP1
          have R := fun nq => mu_step hJ hjy hj' hij (cv + P + zs'[i + j]) (by rw [hP]) nq
          clear hJ hlen
          have hin' : (i : Int) < n := by omega
          have hjm' : (j : Int) < m := by omega
          have hijn : (i : Int) + j < n + m := by omega
          go_wp2
          go_quiet (fail)
          go_wp2
          go_roundw
          case rel => exact ⟨j + 1, (cv + P + zs'[i + j]) / 4294967296, _, by omega, by go_num, by omega, by omega, rfl, by first | exact R _ | exact mu_drew R⟩
          case measure => simp [intOf]; omega
        · obtain rfl : j = m := by omega
          have him : i + j < zs'.length := by omega
          obtain ⟨hcz, hfz⟩ := mu_cell hJ (i + j) him
          have R := mu_out hix hJ HY.out him hc0 hc1
          clear hJ hlen
          have hijn : (i : Int) + j < n + j := by omega
          go_wp2
          go_roundw
          case rel => exact ⟨i + 1, _, by omega, by go_num, R⟩
          case measure => simp [intOf]; omega
    · obtain rfl : i = n := by omega
      have q0 := T1.a0; have q2 := T1.b0
      have R1 := hI.dig
      have R2 := Rd.own hI.own hI.len
      have R3 := hI.len
      have HE : Hid (val zs = ((x * y).natAbs : Int)) := by show _ = _; rw [hI.eq, val_take_all xs i (by have := HX.out; omega)]; exact HSG.out.2
      clear hI
      obtain ⟨sg, hsg⟩ : ∃ b, (!(s == t)) = b := ⟨_, rfl⟩
      have HG : Hid (x * y ≠ 0 → sg = decide (x * y < 0)) := by rw [← hsg]; exact HSG.out.1
      go_wp2_with fail
      refine (trim_any sg _ _ _ zs _ R3 (Nat.le_refl _) R1 R2 (by omega)).mono ?_
      rintro e w3 ⟨neg', ao', n', cap', ds', rfl, k1, k2, k3, k4, k5, k6, k7, k8⟩
      have T2 := T1.step k8
      have HN := num_of (z := x * y) (k := k + k) k1 k2 (by omega) k4 (k5.trans HE.out) (k6.trans (by rw [HE.out])) k7 rfl HG.out
      have c0 := T2.r0; have c1 := T2.r1; have f0 := T2.f0; have f1 := T2.f1
      have HB := T2.below
      clear k1 k2 k3 k4 k5 k6 k7 k8 R1 R2 R3 T1 q0 q1 q2 q3 T2
      go_wp2
      refine bodyPost_ret (v := .agg #[.bool neg', .slice ao' n' cap']) (by simp [results, Try.results82, go_sem, c0, c1]) rfl ?_
      exact num_ret (by omega) c0 c1 HN HB
set_option maxRecDepth 100000 in
set_option maxHeartbeats 1000000 in
theorem mul_none (s t : Bool) (ao bo : Option Addr) (n m ca cb k : Nat) (xs ys : List Int) (x y : Int) (w : World) (hx : IsNum w s ao n ca xs x k) (hy : IsNum w t bo m cb ys y k) (h0 : x = 0 ∨ y = 0) :
    Calls Try.prog 82 #[.agg #[.bool s, .slice ao n ca], .agg #[.bool t, .slice bo m cb]] w (NumP (k + k) (x * y) w) := by
  have HP : ∀ o1 o2 o3, NumP (k + k) (x * y) w (.returned (.agg #[.bool false, .slice none 0 0])) (((w.alloc o1).alloc o2).alloc o3) := by
    intro o1 o2 o3
    have hz : x * y = 0 := by rcases h0 with rfl | rfl <;> simp
    rw [hz]
    exact ⟨false, none, 0, 0, [], rfl, ⟨by decide, rfl, Nat.le_refl _, Rd.nil _ _, nrm_nil, rfl, Nat.zero_le _⟩, (((Below.refl _ _).alloc (Nat.le_refl _) _).alloc (by simp) _).alloc (by simp; omega) _⟩
  by_cases hx0 : x = 0
  · have hn := hx.zero.2 hx0
    subst hn
    clear hx hy
    go_enter Try.func82, Try.ntmps82
    go_wp2
    refine bodyPost_ret (v := .agg #[.bool false, .slice none 0 0]) (by simp [results, Try.results82, go_sem]) rfl ?_
    exact HP _ _ _
  · have hm := hy.zero.2 (by omega)
    subst hm
    have hn0 : ((n : Int) == 0) = false := beq_eq_false_iff_ne.2 (by intro h; exact hx0 (hx.zero.1 (by omega)))
    clear hx hy
    go_enter Try.func82, Try.ntmps82
    go_wp2
    refine bodyPost_ret (v := .agg #[.bool false, .slice none 0 0]) (by simp [results, Try.results82, go_sem]) rfl ?_
    exact HP _ _ _
theorem mul_any (s t : Bool) (ao bo : Option Addr) (n m ca cb k : Nat) (xs ys : List Int) (x y : Int) (w : World) (hx : IsNum w s ao n ca xs x k) (hy : IsNum w t bo m cb ys y k) (hk : k ≤ 100000) :
    Calls Try.prog 82 #[.agg #[.bool s, .slice ao n ca], .agg #[.bool t, .slice bo m cb]] w (NumP (k + k) (x * y) w) := by
  by_cases hx0 : x = 0
  · exact mul_none s t ao bo n m ca cb k xs ys x y w hx hy (Or.inl hx0)
  · by_cases hy0 : y = 0
    · exact mul_none s t ao bo n m ca cb k xs ys x y w hx hy (Or.inr hy0)
    · exact mul_some s t ao bo n m ca cb k xs ys x y w hx hy hk hx0 hy0
end Go.Proofs.Ytnnojeggjnddpaa

/- The model's text of a number. -/
namespace Go.Proofs.Ytnnojeggjnddpaa
open Go.RowKit
/-- The digits from a place on, divided by ten; the rest that is left. -/
structure TdJ (W wr : World) (g n : Nat) (xs zs : List Int) (k : Nat) (c : Int) : Prop where
  len : zs.length = n
  dig : Dig zs
  c0 : 0 ≤ c
  c1 : c < 10
  eq : val (xs.drop k) = 10 * val (zs.drop k) + c
  own : wr.ownsRow g 112 1 (.slice (some ⟨g, 0, none⟩) n n) n (zs.map (Value.int .u32))
  below : Below g W wr
theorem TdJ.start {W w1 : World} {g n : Nat} {xs : List Int} (hx : xs.length = n) (hg : g = W.heap.size) (hown : w1.ownsRow g 112 1 (.slice (some ⟨g, 0, none⟩) n n) n (madeCells #[Value.int .u32 0] n).toList) (hgrow : W.grownBy w1 none) : TdJ W w1 g n xs (List.replicate n 0) n 0 := by
  subst hg
  refine ⟨by simp, fun d hd => by rw [List.eq_of_mem_replicate hd]; decide, by omega, by omega, ?_, ?_, (Below.refl _ _).grown hgrow (Nat.le_refl _) (by simp)⟩
  · rw [← hx, List.drop_length, List.drop_eq_nil_of_le (by simp)]; rfl
  · rw [made_one] at hown
    simpa using hown
theorem TdJ.cell {W wr : World} {g n : Nat} {xs zs : List Int} {k : Nat} {c : Int} (h : TdJ W wr g n xs zs k c) (j : Nat) (hj : j < zs.length) : wr.cell? ⟨g, j, none⟩ = some (.int .u32 zs[j]) ∧ wr.frozen? ⟨g, j, none⟩ = false := by
  refine ⟨?_, h.own.frozenAt j⟩
  rw [h.own.cellAt j (by rw [← h.len]; omega)]
  simp [hj]
theorem TdJ.step {W wr : World} {g n : Nat} {xs zs : List Int} {m : Nat} {c : Int} (h : TdJ W wr g n xs zs (m + 1) c) (hm : m < xs.length) (hz : m < zs.length) (hd : Dig xs) (t : Int) (ht : t = xs[m] + c * 4294967296) :
    TdJ W (wr.setCell ⟨g, m, none⟩ (.int .u32 (t / 10))) g n xs (zs.set m (t / 10)) m (t % 10) := by
  obtain ⟨o1, o2⟩ := h.own.stored m (.int .u32 (t / 10))
  have hb := dig_at hd m hm
  have h0 := h.c0
  have h1 := h.c1
  refine ⟨by simpa using h.len, dig_set h.dig _ (by omega) (by omega), by omega, by omega, ?_, ?_, h.below.setCell (Nat.le_refl _) _⟩
  · rw [List.drop_eq_getElem_cons hm, List.drop_eq_getElem_cons (show m < (zs.set m (t / 10)).length by simpa using hz), List.getElem_set_self, List.drop_set_of_lt (by omega)]
    simp only [val]
    rw [h.eq]
    omega
  · have : (zs.map (Value.int .u32)).set m (.int .u32 (t / 10)) = (zs.set m (t / 10)).map (Value.int .u32) := by rw [List.map_set]
    rw [← this]; exact o1
theorem conv1 (c : Nat) (T : TypeId) (w : World) : (convert 53 9 (.slice (some ⟨w.heap.size, 0, none⟩) 1 1)).run Try.prog (w.alloc (.cells #[.int .u8 (48 + (c : Int))] T)) = .ok (.string (strL [48 + c])) (w.alloc (.cells #[.int .u8 (48 + (c : Int))] T)) := by
  rw [show 48 + (c : Int) = ((48 + c : Nat) : Int) by omega]
  exact run_convert_bytes_arg (P := Try.prog) _ 53 5 Try.underlying53 Try.underlying5 w.heap.size 0 1 1 [((48 + c : Nat) : Int)] rfl (fun i hi => by
    obtain rfl : i = 0 := by omega
    exact (Blk.new w [.int .u8 ((48 + c : Nat) : Int)] T rfl).c 0 rfl) 9 Try.underlying9
theorem dg_short {ds : List Int} {v k : Nat} (hd : Dig ds) (hl : ds.length ≤ k) (hv : val ds = (v : Int)) : (dg v).length ≤ 32 * k := by
  refine dg_len (32 * k) v ?_
  have h1 := val_lt hd
  rw [hv, pw_two] at h1
  have h2 : v < 2 ^ (32 * ds.length) := by omega
  have h3 : 2 ^ (32 * ds.length) ≤ 2 ^ (32 * k) := Nat.pow_le_pow_right (by omega) (by omega)
  have h4 : 2 ^ (32 * k) ≤ 10 ^ (32 * k) := Nat.pow_le_pow_left (by omega) _
  omega
def strLen : Value → Nat
  | .string b => b.size
  | _ => 0
/-- Between the rounds: the digits that are left, and those that are written. -/
structure LtI (w wr : World) (v : Nat) (vs : List Value) (ao : Option Addr) (n : Nat) (ds : List Int) (ts : List Nat) : Prop where
  len : ds.length = n
  nrm : Nrm ds
  rd : Rd wr ao ds
  fit : n ≤ 1000000
  eq : dg v = dg (val ds).toNat ++ ts
  blk : Blk wr w.heap.size vs
  below : Below w.heap.size w wr
theorem LtI.less {w wr : World} {v : Nat} {vs : List Value} {ao : Option Addr} {n : Nat} {ds : List Int} {ts : List Nat} (h : LtI w wr v vs ao n ds ts) (hn : 0 < n) : ts.length < (dg v).length := by
  have h1 : 0 < val ds := nrm_pos h.nrm (by intro h2; have := h.len; rw [h2] at this; simp at this; omega)
  have h2 := dg_ne (n := (val ds).toNat) (by omega)
  have h3 : 0 < (dg (val ds).toNat).length := List.length_pos_iff.2 h2
  rw [h.eq, List.length_append]
  omega
theorem LtI.done {w wr : World} {v : Nat} {vs : List Value} {ao : Option Addr} {ds : List Int} {ts : List Nat} (h : LtI w wr v vs ao 0 ds ts) : ts = dg v := by
  have h1 : ds = [] := List.length_eq_zero_iff.1 h.len
  have h2 := h.eq
  rw [h1] at h2
  rw [h2, show (val []).toNat = 0 from rfl, dg_zero]; rfl
theorem LtI.next {w wo wr w3 : World} {v : Nat} {vs : List Value} {ao ao' : Option Addr} {n n' : Nat} {ds zs ds' : List Int} {ts : List Nat} {c : Nat} {o : Obj} (h : LtI w wo v vs ao n ds ts) (hn : 0 < n) (hc : c < 10) (hJ : TdJ wo wr wo.heap.size n ds zs 0 c) (hB : Below (wr.alloc o).heap.size (wr.alloc o) w3)
    (k1 : ds'.length = n') (k3 : n' ≤ n) (k4 : Nrm ds') (k5 : val ds' = val zs) (k7 : Rd w3 ao' ds') : LtI w w3 v vs ao' n' ds' ((48 + c) :: ts) := by
  have h1 : 0 < val ds := nrm_pos h.nrm (by intro h2; have := h.len; rw [h2] at this; simp at this; omega)
  have h2 := hJ.eq
  simp only [List.drop_zero] at h2
  have h3 := val_nonneg hJ.dig
  have b1 : Below w.heap.size w wr := h.below.trans (hJ.below.mono h.below.size)
  have b2 : Below w.heap.size w (wr.alloc o) := b1.alloc b1.size _
  refine ⟨k1, k4, k7, by have := h.fit; omega, ?_, ((h.blk.step hJ.below).alloc _).step hB, b2.trans (hB.mono b2.size)⟩
  rw [h.eq, dg_step (n := (val ds).toNat) (by omega), k5, show (val ds).toNat / 10 = (val zs).toNat by omega, show (val ds).toNat % 10 = c by omega, List.append_assoc]
  rfl
theorem LtI.le {w wr : World} {v : Nat} {vs : List Value} {ao : Option Addr} {n : Nat} {ds : List Int} {ts : List Nat} (h : LtI w wr v vs ao n ds ts) : ts.length ≤ (dg v).length := by
  rw [h.eq, List.length_append]
  omega
set_option maxRecDepth 100000 in
set_option maxHeartbeats 2000000 in
theorem l1Text_any (s : Bool) (ao : Option Addr) (n cap : Nat) (ds : List Int) (z : Int) (k : Nat) (w : World) (h : IsNum w s ao n cap ds z k) (hk : k ≤ 1000000) :
    Calls Try.prog 42 #[.agg #[.bool s, .slice ao n cap]] w (VP (.string (txS z)) w) := by
  obtain ⟨i0, hi, hz0, hz1, hz2⟩ := info_parts Try.info88
  by_cases hz : z = 0
  · obtain rfl : n = 0 := h.zero.2 hz
    subst hz
    clear h
    have hT : Hid (txS 0 = strL [48]) := by show _ = _; unfold txS txL; rw [show (0 : Int).natAbs = 0 from rfl, dgs_zero]; rfl
    go_enter Try.func42, Try.ntmps42
    go_wp2
    go_ret
    exact ⟨by rw [hT.out]; rfl, (Below.refl _ _).alloc (Nat.le_refl _) _⟩
  · have hn0 : ((n : Int) == 0) = false := beq_eq_false_iff_ne.2 (by intro h2; exact hz (h.zero.1 (by omega)))
    have hnk := h.le
    have hv : Hid (val ds = (z.natAbs : Int)) := h.val
    have hs : Hid (s = decide (z < 0)) := h.neg
    have HI0 : LtI w (w.alloc (Obj.cells #[.bool s, .slice ao n cap] 66)) z.natAbs [.bool s, .slice ao n cap] ao n ds [] :=
      ⟨h.len, h.nrm, h.rd.below ((Below.refl _ _).alloc (Nat.le_refl _) _) (Nat.le_refl _), by omega, by rw [hv.out]; simp, Blk.new w [.bool s, .slice ao n cap] _ rfl, (Below.refl _ _).alloc (Nat.le_refl _) _⟩
    have HI : Hid (LtI w (w.alloc (Obj.cells #[.bool s, .slice ao n cap] 66)) z.natAbs [.bool s, .slice ao n cap] ao n ds []) := HI0
    have HZ : Hid (z ≠ 0) := hz
    have HL : Hid ((dg z.natAbs).length ≤ 32000000) := by
      have := dg_short h.nrm.1 (by rw [h.len]; exact hnk) h.val
      show _ ≤ _
      omega
    clear h HI0 hz
    go_enter Try.func42, Try.ntmps42
    go_wp2_with fail
    generalize (w.alloc (Obj.cells #[.bool s, .slice ao n cap] 66)) = W at *
    go_loopw [3, 4] (fun tv rv wr => ∃ (ao2 : Option Addr) (m c2 : Nat) (es : List Int) (ts : List Nat), tv = .string (strL ts) ∧ rv = .slice ao2 m c2 ∧ LtI w wr z.natAbs [.bool s, .slice ao n cap] ao2 m es ts) (fun tv _ _ => (dg z.natAbs).length - strLen tv)
    case atStart => exact ⟨ao, n, cap, ds, [], rfl, rfl, HI.out⟩
    case round =>
      clear HI
      obtain ⟨ao2, m, c2, es, ts, rfl, rfl, hI⟩ := hrel
      have HII : Hid (LtI w wr z.natAbs [.bool s, .slice ao n cap] ao2 m es ts) := hI
      have hfit := hI.fit
      have hshort : ts.length ≤ 32000000 := Nat.le_trans hI.le HL.out
      have hssz := strL_size ts
      by_cases hm : 0 < m
      · have hless : Hid (ts.length < (dg z.natAbs).length) := hI.less hm
        clear hI
        go_wp2_with (at_make; refine wpList_make_full _ rfl _ _ 64 rfl wr.heap.size 112 i0 (.int .u32 0) 1 Try.underlying64 hi hz0 hz1 _ _ _ _ m rfl rfl (by omega) (by omega) (by rw [hz2]; omega) (by unfold maxLen; omega) (Nat.le_refl _) ?_)
        intro w1 hown hgrow
        have HS : TdJ wr w1 wr.heap.size m es (List.replicate m 0) m 0 := TdJ.start HII.out.len rfl (by simpa using hown) hgrow
        clear hown hgrow
        go_wp2
        obtain ⟨wo, hwo⟩ : ∃ wo : World, wo = wr := ⟨_, rfl⟩
        subst hwo
        go_loopw [6, 7] (fun cv iv wx => ∃ (j : Nat) (c : Int) (zs : List Int), j ≤ m ∧ iv = .int .i64 ((j : Int) - 1) ∧ cv = .int .u64 c ∧ TdJ wo wx wo.heap.size m es zs j c) (fun _ iv _ => (intOf iv + 1).toNat)
        case atStart => exact ⟨m, 0, _, Nat.le_refl _, by go_num, rfl, HS⟩
        case round =>
          clear HS
          obtain ⟨j, c, zs, hj, rfl, rfl, hJ⟩ := hrel
          have zlen := hJ.len
          have HJ : Hid (TdJ wo wr wo.heap.size m es zs j c) := hJ
          by_cases hj0 : 0 < j
          · obtain ⟨q, rfl⟩ : ∃ q, j = q + 1 := ⟨j - 1, by omega⟩
            have hqe : q < es.length := by have := HII.out.len; omega
            have hqz : q < zs.length := by omega
            obtain ⟨bx, ox, rfl, hbx, hcx0⟩ := HII.out.rd q hqe
            obtain ⟨hx0, hx1⟩ := dig_at HII.out.nrm.1 q hqe
            have hcx := (hJ.below.cell (p := ⟨bx, ox + q, none⟩) hbx).trans hcx0
            obtain ⟨hcz, hfz⟩ := hJ.cell q hqz
            have hc0 := hJ.c0
            have hc1 := hJ.c1
            obtain ⟨x, hx⟩ : ∃ x, x = es[q] + c * 4294967296 := ⟨_, rfl⟩
            have hor : bits .or .u64 (c * 4294967296) es[q] = x := by
              have := or_hi es[q] c ⟨hx0, hx1⟩ ⟨hc0, by omega⟩
              rw [wrap_word (by omega) (by omega)] at this
              rw [hx]; exact this
            have d1 : x.tdiv 10 = x / 10 := Int.tdiv_eq_ediv_of_nonneg (by omega)
            have d2 : x.tmod 10 = x % 10 := Int.tmod_eq_emod_of_nonneg (by omega)
            have d3 : IntKind.u64.wrap (x / 10) = x / 10 := wrap_word (by omega) (by omega)
            have d4 : x / 10 % 4294967296 = x / 10 := by omega
            have R1 : Hid (TdJ wo (wr.setCell ⟨wo.heap.size, q, none⟩ (.int .u32 (x / 10))) wo.heap.size m es (zs.set q (x / 10)) q (x % 10)) := hJ.step hqe hqz HII.out.nrm.1 x hx
            have HX : Hid (x = es[q] + c * 4294967296) := hx
            have e1 : ((q + 1 : Nat) : Int) - 1 = q := by omega
            have hx2 : 0 ≤ x := by omega
            have hx3 : x < 42949672960 := by omega
            have hqm : (q : Int) < m := by omega
            rw [e1]
            clear hJ hx hcx0 e1
            go_wp2
            go_roundw
            case rel => exact ⟨q, x % 10, _, by omega, by go_num, by first | rfl | (rw [d2]), R1.out⟩
            case measure => simp [intOf]
          · obtain rfl : j = 0 := by omega
            have hc0 := hJ.c0
            have hc1 := hJ.c1
            obtain ⟨c, rfl⟩ : ∃ e : Nat, c = e := ⟨c.toNat, by omega⟩
            have hE : Hid (val es = 10 * val zs + c) := by have := hJ.eq; simp only [List.drop_zero] at this; exact this
            have hss1 := strL_size [48 + c]
            have CV := conv1 c 5 wr
            have R2 : Rd (wr.alloc (Obj.cells #[.int .u8 (48 + (c : Int))] 5)) (some ⟨wo.heap.size, 0, none⟩) zs := (Rd.own hJ.own hJ.len).below ((Below.refl _ _).alloc (Nat.le_refl _) _) (Nat.le_refl _)
            have R1 := hJ.dig
            have hc : Hid (c < 10) := by show _ < _; omega
            clear hJ
            go_wp2_with fail
            refine (trim_any false _ _ _ zs _ zlen (Nat.le_refl _) R1 R2 (by omega)).mono ?_
            rintro e w3 ⟨neg', ao', n', cap', ds', rfl, k1, k2, k3, k4, k5, k6, k7, k8⟩
            have N1 : Hid (LtI w w3 z.natAbs [.bool s, .slice ao n cap] ao' n' ds' ((48 + c) :: ts)) := HII.out.next hm hc.out HJ.out k8 k1 k3 k4 k5 k7
            have fd := field_d (.bool neg') (.slice ao' n' cap')
            have hcat : Hid (strL [48 + c] ++ strL ts = strL ((48 + c) :: ts)) := (strL_append [48 + c] ts).symm
            clear k1 k2 k3 k4 k5 k6 k7 k8 R1 R2 HJ HII CV hE
            go_wp2
            go_roundw
            case rel => exact ⟨ao', n', cap', ds', (48 + c) :: ts, by rw [hcat.out], rfl, N1.out⟩
            case measure =>
              have := hless.out
              rw [hcat.out]
              simp only [strLen, strL_size, List.length_cons]
              omega
      · obtain rfl : m = 0 := by omega
        have hd : Hid (ts = dg z.natAbs) := hI.done
        obtain ⟨b0, b1⟩ := hI.blk.cs2
        have HB := hI.below
        clear hI
        by_cases hz0 : z < 0
        · have hT : Hid (txS z = strL (45 :: ts)) := by show _ = _; unfold txS txL; rw [if_pos hz0, dgs_pos (by omega), hd.out]; rfl
          obtain rfl : s = true := by rw [hs.out]; exact decide_eq_true hz0
          clear hz0
          go_wp2
          go_ret
          exact ⟨by rw [hT.out]; exact congrArg (fun b => Ending.returned (Value.string b)) (strL_append [45] ts).symm, HB⟩
        · have hT : Hid (txS z = strL ts) := by show _ = _; unfold txS txL; rw [if_neg hz0, dgs_pos (by have := HZ.out; omega), hd.out]; rfl
          obtain rfl : s = false := by rw [hs.out]; exact decide_eq_false hz0
          clear hz0
          go_wp2
          go_ret
          exact ⟨by rw [hT.out]; rfl, HB⟩
end Go.Proofs.Ytnnojeggjnddpaa

/- The text of a number: the law over both sides. -/
namespace Go.Proofs.Ytnnojeggjnddpaa
open Go.RowKit
set_option maxRecDepth 100000 in
set_option maxHeartbeats 400000 in
theorem specText_any (a3 a2 a1 a0 : Int) (h3 : Word a3) (h2 : Word a2) (h1 : Word a1) (h0 : Word a0) (w : World) : Calls Try.prog 12 #[.agg #[.int .u64 a3, .int .u64 a2, .int .u64 a1, .int .u64 a0]] w (VP (.string (txS (sw a3 a2 a1 a0))) w) := by
  go_enter Try.func12, Try.ntmps12
  go_wp2_with fail
  refine (from_any a3 a2 a1 a0 h3 h2 h1 h0 _).mono ?_
  rintro e w1 ⟨s, ao, n, cap, ds, rfl, hN, hB⟩
  have hB1 : Below w.heap.size w w1 := ((Below.refl _ _).alloc (Nat.le_refl _) _).trans (hB.mono (by simp))
  have C := l1Text_any s ao n cap ds _ _ w1 hN (by omega)
  clear hB hN
  go_wp2_with fail
  refine C.mono ?_
  rintro e w2 ⟨rfl, hB2⟩
  have hB3 := hB1.trans (hB2.mono hB1.size)
  clear hB1 hB2 C
  go_wp2
  go_ret
  exact ⟨rfl, hB3⟩
end Go.Proofs.Ytnnojeggjnddpaa

/- Numbers drawn from a code: what the walks of the reader share, and its small ones. -/
namespace Go.Proofs.Ytnnojeggjnddpaa
open Go.RowKit
/-- No other block has turned than g. -/
structure Kept (g : Nat) (w w' : World) : Prop where
  os : w'.os = w.os
  tape : w'.tape = w.tape
  output : w'.output = w.output
  size : w.heap.size ≤ w'.heap.size
  block : ∀ k, k < w.heap.size → k ≠ g → w'.heap[k]? = w.heap[k]?
  other : ∀ j, j ≠ 1 → g < w.heap.size → w'.cell? ⟨g, j, none⟩ = w.cell? ⟨g, j, none⟩
theorem Kept.refl (g : Nat) (w : World) : Kept g w w := ⟨rfl, rfl, rfl, Nat.le_refl _, fun _ _ _ => rfl, fun _ _ _ => rfl⟩
theorem Kept.trans {g : Nat} {a b c : World} (h : Kept g a b) (k : Kept g b c) : Kept g a c :=
  ⟨k.os.trans h.os, k.tape.trans h.tape, k.output.trans h.output, Nat.le_trans h.size k.size, fun i hi hg => (k.block i (Nat.lt_of_lt_of_le hi h.size) hg).trans (h.block i hi hg), fun j hj hl => (k.other j hj (Nat.lt_of_lt_of_le hl h.size)).trans (h.other j hj hl)⟩
theorem Kept.of {g : Nat} {a b : World} (h : Below a.heap.size a b) : Kept g a b := ⟨h.os, h.tape, h.output, h.size, fun i hi _ => h.block i hi, fun j _ hl => h.cell (p := ⟨g, j, none⟩) hl⟩
theorem Kept.drew {g : Nat} {a b : World} (h : Kept g a b) : Kept g a b.drew := ⟨h.os, h.tape, h.output, h.size, h.block, h.other⟩
theorem Kept.drewN {g : Nat} {a b : World} (h : Kept g a b) (n : Nat) : Kept g a (b.drewN n) := ⟨h.os, h.tape, h.output, h.size, h.block, h.other⟩
theorem Kept.set {g : Nat} {a b : World} (h : Kept g a b) (u : Value) : Kept g a (b.setCell ⟨g, 1, none⟩ u) :=
  ⟨h.os, h.tape, h.output, by simpa [World.setCell] using h.size, fun k hk hg => (Below.heap_setCell _ _ _ _ hg).trans (h.block k hk hg), fun j hj hl => (World.cell?_setCell_other _ _ _ _ (by intro e; simp only [Addr.mk.injEq] at e; omega)).trans (h.other j hj hl)⟩
theorem Kept.alloc {g : Nat} {a b : World} (h : Kept g a b) (o : Obj) : Kept g a (b.alloc o) := h.trans (Kept.of ((Below.refl _ _).alloc (Nat.le_refl _) o))
theorem Kept.below {g B : Nat} {a b : World} (h : Kept g a b) (hB : B ≤ g) (hB' : B ≤ a.heap.size) : Below B a b := ⟨h.os, h.tape, h.output, h.size, fun k hk => h.block k (by omega) (by omega)⟩
theorem Blk.kept {W W' : World} {g h : Nat} {vs : List Value} (H : Blk W h vs) (k : Kept g W W') (hne : h ≠ g) : Blk W' h vs := by
  have e := k.block h H.lt hne
  refine ⟨Nat.lt_of_lt_of_le H.lt k.size, fun i v hi => ⟨?_, ?_⟩⟩
  · exact (World.cell?_of_block (w := W) e).trans (H.c i hi)
  · exact (World.frozen?_of_block (w := W) e).trans (H.f i hi)
/-- The reader lies in the block g, and what it reads lies ahead of it. -/
structure Rdr (w : World) (g : Nat) (ao : Option Addr) (n cap : Nat) (cs : List Int) : Prop where
  blk : ∃ p : Nat, p ≤ n ∧ Blk w g [.slice ao n cap, .int .i64 p]
  bytes : ∀ i, (h : i < cs.length) → ∃ b off, ao = some ⟨b, off, none⟩ ∧ b < g ∧ w.cell? ⟨b, off + i, none⟩ = some (.int .u8 cs[i])
  len : cs.length = n
  small : n ≤ 1048576
  byte : ∀ c ∈ cs, 0 ≤ c ∧ c < 256
theorem Rdr.lt {w : World} {g : Nat} {ao : Option Addr} {n cap : Nat} {cs : List Int} (h : Rdr w g ao n cap cs) : g < w.heap.size := by
  obtain ⟨p, _, B⟩ := h.blk
  exact B.lt
theorem Rdr.step {w w' : World} {g : Nat} {ao : Option Addr} {n cap : Nat} {cs : List Int} (h : Rdr w g ao n cap cs) (hB : Below w.heap.size w w') : Rdr w' g ao n cap cs := by
  obtain ⟨p, hp, B⟩ := h.blk
  refine ⟨⟨p, hp, B.step hB⟩, fun i hi => ?_, h.len, h.small, h.byte⟩
  obtain ⟨b, off, e, hb, hc⟩ := h.bytes i hi
  exact ⟨b, off, e, hb, (hB.cell (p := ⟨b, off + i, none⟩) (show b < w.heap.size by have := B.lt; omega)).trans hc⟩
theorem Rdr.alloc {w : World} {g : Nat} {ao : Option Addr} {n cap : Nat} {cs : List Int} (h : Rdr w g ao n cap cs) (o : Obj) : Rdr (w.alloc o) g ao n cap cs := h.step ((Below.refl _ _).alloc (Nat.le_refl _) o)
theorem Rdr.drew {w : World} {g : Nat} {ao : Option Addr} {n cap : Nat} {cs : List Int} (h : Rdr w g ao n cap cs) : Rdr w.drew g ao n cap cs := ⟨h.blk, h.bytes, h.len, h.small, h.byte⟩
theorem Rdr.drewN {w : World} {g : Nat} {ao : Option Addr} {n cap : Nat} {cs : List Int} (h : Rdr w g ao n cap cs) (k : Nat) : Rdr (w.drewN k) g ao n cap cs := ⟨h.blk, h.bytes, h.len, h.small, h.byte⟩
theorem Rdr.put {w : World} {g : Nat} {ao : Option Addr} {n cap : Nat} {cs : List Int} (h : Rdr w g ao n cap cs) (p : Nat) (hp : p ≤ n) : Rdr (w.setCell ⟨g, 1, none⟩ (.int .i64 p)) g ao n cap cs := by
  obtain ⟨q, hq, B⟩ := h.blk
  refine ⟨⟨p, hp, B.setI 1 (by simp) _⟩, fun i hi => ?_, h.len, h.small, h.byte⟩
  obtain ⟨b, off, e, hb, hc⟩ := h.bytes i hi
  exact ⟨b, off, e, hb, (World.cell?_setCell_other _ _ _ _ (by intro e; simp only [Addr.mk.injEq] at e; omega)).trans hc⟩
/-- What a call of the reader's leaves. -/
def RdP (g : Nat) (ao : Option Addr) (n cap : Nat) (cs : List Int) (Q : Value → Prop) (w : World) (e : Ending) (w' : World) : Prop := ∃ v, e = .returned v ∧ Q v ∧ Rdr w' g ao n cap cs ∧ Kept g w w'
def IsIn (a b : Int) (v : Value) : Prop := ∃ x : Int, v = .int .i64 x ∧ a ≤ x ∧ x < b
set_option maxRecDepth 100000 in
set_option maxHeartbeats 1000000 in
theorem next_any (g : Nat) (ao : Option Addr) (n cap : Nat) (cs : List Int) (w : World) (h : Rdr w g ao n cap cs) :
    Calls Try.prog 103 #[.pointer (some ⟨g, 0, none⟩)] w (RdP g ao n cap cs (IsIn 0 256) w) := by
  obtain ⟨p, hp, B⟩ := h.blk
  have b0 := B.c 0 rfl; have b1 := B.c 1 rfl; have f1 := B.f 1 rfl; have bl := B.lt
  by_cases hq : p < n
  · have hpl : p < cs.length := by rw [h.len]; exact hq
    obtain ⟨b, off, rfl, hb, hc⟩ := h.bytes p hpl
    obtain ⟨y0, y1⟩ := h.byte _ (List.getElem_mem hpl)
    have R := fun k => (h.drewN k).put (p + 1) (by omega)
    have hs := h.small
    generalize cs[p] = y at *
    have hne : g ≠ b := by omega
    have i1 : (p : Int) < n := by omega
    clear h B
    go_enter Try.func103, Try.ntmps103
    go_wp2
    go_quiet (fail)
    go_wp2
    go_quiet (fail)
    go_wp2
    go_ret
    exact ⟨_, rfl, ⟨y, rfl, y0, y1⟩, (R _).drewN _, (((Kept.refl _ _).drewN _).set _).drewN _⟩
  · obtain rfl : p = n := by omega
    have hs := h.small
    go_enter Try.func103, Try.ntmps103
    go_wp2
    go_quiet (fail)
    go_wp2
    go_ret
    exact ⟨_, rfl, ⟨0, rfl, by decide, by decide⟩, h.drewN _, (Kept.refl _ _).drewN _⟩
set_option maxRecDepth 100000 in
set_option maxHeartbeats 1000000 in
theorem below_any (m : Int) (h2 : 2 ≤ m) (h256 : m ≤ 256) (g : Nat) (ao : Option Addr) (n cap : Nat) (cs : List Int) (w : World) (h : Rdr w g ao n cap cs) :
    Calls Try.prog 68 #[.pointer (some ⟨g, 0, none⟩), .int .i64 m] w (RdP g ao n cap cs (IsIn 0 m) w) := by
  go_enter Try.func68, Try.ntmps68
  go_wp2_with fail
  all_goals first | (exfalso; omega) | skip
  refine (next_any g ao n cap cs _ h).mono ?_
  rintro e w1 ⟨_, rfl, ⟨x, rfl, x0, x1⟩, R, K⟩
  have hm : m ≠ 0 := by omega
  go_wp2
  go_ret
  exact ⟨_, rfl, ⟨x % m, rfl, Int.emod_nonneg _ hm, Int.emod_lt_of_pos _ (by omega)⟩, R, K⟩
theorem or_word {a b : Int} (ha : Word a) (hb : Word b) : Word (bits .or .u64 a b) := by
  obtain ⟨a0, a1⟩ := ha
  obtain ⟨b0, b1⟩ := hb
  obtain ⟨a, rfl⟩ := Int.eq_ofNat_of_zero_le a0
  obtain ⟨b, rfl⟩ := Int.eq_ofNat_of_zero_le b0
  rw [bits_or_u64_nat a b (by omega) (by omega)]
  have := Nat.or_lt_two_pow (n := 64) (x := a) (y := b) (by omega) (by omega)
  exact ⟨by omega, by omega⟩
def IsWord (v : Value) : Prop := ∃ x : Int, v = .int .u64 x ∧ Word x
def IsBool (v : Value) : Prop := ∃ b, v = .bool b
set_option maxRecDepth 100000 in
set_option maxHeartbeats 1000000 in
theorem once_any (m : Int) (h2 : 2 ≤ m) (h256 : m ≤ 256) (g : Nat) (ao : Option Addr) (n cap : Nat) (cs : List Int) (w : World) (h : Rdr w g ao n cap cs) :
    Calls Try.prog 100 #[.pointer (some ⟨g, 0, none⟩), .int .i64 m] w (RdP g ao n cap cs IsBool w) := by
  go_enter Try.func100, Try.ntmps100
  go_wp2_with fail
  refine (below_any m h2 h256 g ao n cap cs _ h).mono ?_
  rintro e w1 ⟨_, rfl, ⟨x, rfl, x0, x1⟩, R, K⟩
  go_wp2
  go_ret
  exact ⟨_, rfl, ⟨_, rfl⟩, R, K⟩
set_option maxRecDepth 100000 in
set_option maxHeartbeats 1000000 in
theorem word_any (g : Nat) (ao : Option Addr) (n cap : Nat) (cs : List Int) (w : World) (h : Rdr w g ao n cap cs) :
    Calls Try.prog 101 #[.pointer (some ⟨g, 0, none⟩)] w (RdP g ao n cap cs IsWord w) := by
  go_enter Try.func101, Try.ntmps101
  go_wp2
  go_loopw [3, 4] (fun o i wr => ∃ (k : Nat) (x : Int), k ≤ 8 ∧ i = .int .i64 k ∧ o = .int .u64 x ∧ Word x ∧ Rdr wr g ao n cap cs ∧ Kept g w wr) (fun _ i _ => 8 - (intOf i).toNat)
  case atStart => exact ⟨0, 0, by omega, rfl, rfl, ⟨by decide, by decide⟩, h, Kept.refl _ _⟩
  case round =>
    clear h
    obtain ⟨k, x, hk, rfl, rfl, hx, R, K⟩ := hrel
    by_cases hk8 : k < 8
    · have i1 : (k : Int) < 8 := by omega
      go_wp2_with fail
      refine (next_any g ao n cap cs _ R).mono ?_
      rintro e w1 ⟨_, rfl, ⟨y, rfl, y0, y1⟩, R1, K1⟩
      replace K := K.trans K1
      clear R K1
      have hy : IntKind.u64.wrap y = y := by rw [IntKind.wrap_u64]; omega
      have OW := or_word (a := IntKind.u64.wrap (x * 256)) (b := y) (by rw [IntKind.wrap_u64]; exact ⟨by omega, by omega⟩) ⟨y0, by omega⟩
      clear hx
      go_wp2
      go_roundw
      case rel => exact ⟨k + 1, _, by omega, by go_num, rfl, OW, R1, K⟩
      case measure => simp [intOf]; omega
    · obtain rfl : k = 8 := by omega
      go_wp2
      go_ret
      exact ⟨_, rfl, ⟨x, rfl, hx⟩, R, K⟩
theorem Rd.kept {w w' : World} {g : Nat} {ao bo : Option Addr} {n cap : Nat} {cs ds : List Int} (h : Rd w bo ds) (R : Rdr w g ao n cap cs) (K : Kept g w w') : Rd w' bo ds := by
  intro i hi
  obtain ⟨b, off, e, hb, hc⟩ := h i hi
  refine ⟨b, off, e, Nat.lt_of_lt_of_le hb K.size, ?_⟩
  by_cases hg : b = g
  · subst hg
    by_cases h1 : off + i = 1
    · exfalso
      obtain ⟨p, _, B⟩ := R.blk
      have := B.c 1 rfl
      rw [h1, this] at hc
      cases hc
    · exact (K.other _ h1 hb).trans hc
  · exact (World.cell?_of_block (w := w) (K.block b hb hg)).trans hc
theorem IsNum.kept {w w' : World} {g : Nat} {ao bo : Option Addr} {n cap m c : Nat} {cs ds : List Int} {s : Bool} {z : Int} {k : Nat} (h : IsNum w s bo m c ds z k) (R : Rdr w g ao n cap cs) (K : Kept g w w') : IsNum w' s bo m c ds z k :=
  ⟨h.neg, h.len, h.cap, h.rd.kept R K, h.nrm, h.val, h.le⟩
set_option maxRecDepth 100000 in
set_option maxHeartbeats 1000000 in
theorem near_any (g : Nat) (ao : Option Addr) (n cap : Nat) (cs : List Int) (w : World) (h : Rdr w g ao n cap cs) :
    Calls Try.prog 102 #[.pointer (some ⟨g, 0, none⟩), .int .i64 (-60), .int .i64 60] w (RdP g ao n cap cs (IsIn (-60) 61) w) := by
  go_enter Try.func102, Try.ntmps102
  go_wp2_with fail
  refine (below_any 8 (by decide) (by decide) g ao n cap cs _ h).mono ?_
  rintro e w1 ⟨_, rfl, ⟨x, rfl, x0, x1⟩, R, K⟩
  clear h
  by_cases h0 : x = 0
  · subst h0
    go_wp2
    go_ret
    exact ⟨_, rfl, ⟨_, rfl, by decide, by decide⟩, R, K⟩
  · by_cases h1 : x = 1
    · subst h1
      go_wp2
      go_ret
      exact ⟨_, rfl, ⟨_, rfl, by decide, by decide⟩, R, K⟩
    · have e0 : (x == 0) = false := by simpa using h0
      have e1 : (x == 1) = false := by simpa using h1
      go_wp2_with fail
      refine (word_any g ao n cap cs _ R).mono ?_
      rintro e w2 ⟨_, rfl, ⟨y, rfl, y0, y1⟩, R2, K2⟩
      replace K := K.trans K2
      clear R K2
      have hw : IntKind.u64.wrap 121 = 121 := by rw [IntKind.wrap_u64]; decide
      go_wp2
      go_ret
      exact ⟨_, rfl, ⟨_, rfl, by omega, by omega⟩, R2, K⟩
end Go.Proofs.Ytnnojeggjnddpaa
