/- The words that the walk of four words made from a number shares between its branches. -/
import Derived.Test.YtinilehbhdpdkaaFrom
import Derived.Test.YtinilehbhdpdkaaWnum2
namespace Go.Proofs.Ytinilehbhdpdkaa
open Go.RowKit
/-- Four words that stand for z, and true; or zeros and false. -/
def TellP (z : Int) (w : World) (e : Ending) (w' : World) : Prop :=
  Below w.heap.size w w' ∧ ((told z = true ∧ ∃ a3 a2 a1 a0, e = .returned (.tuple #[.agg #[.int .u64 a3, .int .u64 a2, .int .u64 a1, .int .u64 a0], .bool true]) ∧ Word a3 ∧ Word a2 ∧ Word a1 ∧ Word a0 ∧ sw a3 a2 a1 a0 = z) ∨
    (told z = false ∧ e = .returned (.tuple #[.agg #[.int .u64 0, .int .u64 0, .int .u64 0, .int .u64 0], .bool false])))
theorem make8 (w : World) : (Instr.makeSlice 68 (.int .i64 8) (.int .i64 8)).run Try.prog w = .ok (.slice (some ⟨w.heap.size, 0, none⟩) 8 8) (w.alloc (.cells #[.int .u64 0, .int .u64 0, .int .u64 0, .int .u64 0, .int .u64 0, .int .u64 0, .int .u64 0, .int .u64 0] 24)) := by kernel_rfl
/-- What lies in the eight words behind k rounds. -/
def eight (ds : List Int) (k : Nat) : List Value := (List.range 8).map fun i => .int .u64 (if i < k then ds.getD i 0 else 0)
structure ToI (w wr : World) (g : Nat) (ds : List Int) (k : Nat) : Prop where
  own : wr.ownsRow g 24 1 (.slice (some ⟨g, 0, none⟩) 8 8) 8 (eight ds k)
  below : Below g w wr
theorem res4' {w w3 : World} {a b c d : Value} {T : TypeId} {R : Nat} (hR : R = w.heap.size) (h : Below (w.heap.size + 1) (w.alloc (.cells #[a, b, c, d] T)) w3) :
    w3.cell? ⟨R, 0, none⟩ = some a ∧ w3.cell? ⟨R, 1, none⟩ = some b ∧ w3.cell? ⟨R, 2, none⟩ = some c ∧ w3.cell? ⟨R, 3, none⟩ = some d ∧ w3.frozen? ⟨R, 0, none⟩ = false ∧ w3.frozen? ⟨R, 1, none⟩ = false ∧ w3.frozen? ⟨R, 2, none⟩ = false ∧ w3.frozen? ⟨R, 3, none⟩ = false ∧ R < w3.heap.size ∧ Below w.heap.size w w3 := by
  subst hR
  have hc := fun j => h.cell (p := ⟨w.heap.size, j, none⟩) (Nat.lt_succ_self _)
  have hf := fun j => h.frozen (p := ⟨w.heap.size, j, none⟩) (Nat.lt_succ_self _)
  refine ⟨?_, ?_, ?_, ?_, ?_, ?_, ?_, ?_, ?_, ((Below.refl _ _).alloc (Nat.le_refl _) _).trans (h.mono (Nat.le_succ _))⟩
  · rw [hc 0]; simp [go_sem]
  · rw [hc 1]; simp [go_sem]
  · rw [hc 2]; simp [go_sem]
  · rw [hc 3]; simp [go_sem]
  · rw [hf 0]; simp [go_sem]
  · rw [hf 1]; simp [go_sem]
  · rw [hf 2]; simp [go_sem]
  · rw [hf 3]; simp [go_sem]
  · have := h.size; simp at this; omega
theorem toI_start (w1 : World) (ds : List Int) : ToI w1 (w1.alloc (.cells #[.int .u64 0, .int .u64 0, .int .u64 0, .int .u64 0, .int .u64 0, .int .u64 0, .int .u64 0, .int .u64 0] 24)) w1.heap.size ds 0 :=
  ⟨World.ownsRow_lit (base := w1.heap.size) (size := 1) w1 _ 8 (Nat.le_refl _) (by simp [maxLen]) rfl, (Below.refl _ _).alloc (Nat.le_refl _) _⟩
theorem eight_len (ds : List Int) (k : Nat) : (eight ds k).length = 8 := by simp [eight]
theorem eight_at (ds : List Int) (k i : Nat) (hi : i < 8) : (eight ds k)[i]? = some (.int .u64 (if i < k then ds.getD i 0 else 0)) := by simp [eight, hi]
theorem toI_cell {w wr : World} {g : Nat} {ds : List Int} {k : Nat} (h : ToI w wr g ds k) (i : Nat) (hi : i < 8) : ∃ v, wr.cell? ⟨g, i, none⟩ = some v :=
  ⟨_, (h.own.cellAt i (by omega)).trans (eight_at ds k i hi)⟩
theorem toI_step {w wr : World} {g : Nat} {ds : List Int} {k : Nat} (h : ToI w wr g ds k) (_hk : k < 8) (hd : k < ds.length) : ToI w (wr.setCell ⟨g, k, none⟩ (.int .u64 ds[k])) g ds (k + 1) := by
  obtain ⟨h1, h2⟩ := h.own.stored k (.int .u64 ds[k])
  refine ⟨?_, h.below.setCell (Nat.le_refl _) _⟩
  have e : (eight ds k).set k (.int .u64 ds[k]) = eight ds (k + 1) := by
    apply List.ext_getElem
    · simp [eight_len]
    · intro i i1 i2
      simp only [List.getElem_set, eight, List.getElem_map, List.getElem_range]
      by_cases hik : k = i
      · subst hik; simp [List.getD, hd]
      · simp only [hik, if_false]
        by_cases h' : i < k
        · simp [h', show i < k + 1 by omega]
        · simp [h', show ¬ i < k + 1 by omega]
  rw [← e]; exact h1
theorem toI_cells {w wr : World} {g : Nat} {ds : List Int} {k : Nat} (h : ToI w wr g ds k) (hk : k = 8 ∨ ds.length = k) : ∀ i, i < 8 → wr.cell? ⟨g, i, none⟩ = some (.int .u64 (ds.getD i 0)) := by
  intro i hi
  rw [h.own.cellAt i (by omega), eight_at ds k i hi]
  by_cases h' : i < k
  · simp [h']
  · rcases hk with rfl | rfl
    · omega
    · simp [h', List.getD]
theorem toI_res {w1 wr : World} {ds : List Int} {k R : Nat} {a b c d : Value} (h : ToI w1 wr w1.heap.size ds k) (hz : R < w1.heap.size) (c0 : w1.cell? ⟨R, 0, none⟩ = some a) (c1 : w1.cell? ⟨R, 1, none⟩ = some b) (c2 : w1.cell? ⟨R, 2, none⟩ = some c) (c3 : w1.cell? ⟨R, 3, none⟩ = some d)
    (f0 : w1.frozen? ⟨R, 0, none⟩ = false) (f1 : w1.frozen? ⟨R, 1, none⟩ = false) (f2 : w1.frozen? ⟨R, 2, none⟩ = false) (f3 : w1.frozen? ⟨R, 3, none⟩ = false) :
    wr.cell? ⟨R, 0, none⟩ = some a ∧ wr.cell? ⟨R, 1, none⟩ = some b ∧ wr.cell? ⟨R, 2, none⟩ = some c ∧ wr.cell? ⟨R, 3, none⟩ = some d ∧ wr.frozen? ⟨R, 0, none⟩ = false ∧ wr.frozen? ⟨R, 1, none⟩ = false ∧ wr.frozen? ⟨R, 2, none⟩ = false ∧ wr.frozen? ⟨R, 3, none⟩ = false :=
  ⟨(h.below.cell (p := ⟨R, 0, none⟩) hz).trans c0, (h.below.cell (p := ⟨R, 1, none⟩) hz).trans c1, (h.below.cell (p := ⟨R, 2, none⟩) hz).trans c2, (h.below.cell (p := ⟨R, 3, none⟩) hz).trans c3,
    (h.below.frozen (p := ⟨R, 0, none⟩) hz).trans f0, (h.below.frozen (p := ⟨R, 1, none⟩) hz).trans f1, (h.below.frozen (p := ⟨R, 2, none⟩) hz).trans f2, (h.below.frozen (p := ⟨R, 3, none⟩) hz).trans f3⟩
theorem keep8 {wr : World} {R g : Nat} {v0 v1 v2 v3 c0 c1 c2 c3 c4 c5 c6 c7 : Value} (hne : R ≠ g) (e0 : wr.cell? ⟨g, 0, none⟩ = some c0) (e1 : wr.cell? ⟨g, 1, none⟩ = some c1) (e2 : wr.cell? ⟨g, 2, none⟩ = some c2) (e3 : wr.cell? ⟨g, 3, none⟩ = some c3)
    (e4 : wr.cell? ⟨g, 4, none⟩ = some c4) (e5 : wr.cell? ⟨g, 5, none⟩ = some c5) (e6 : wr.cell? ⟨g, 6, none⟩ = some c6) (e7 : wr.cell? ⟨g, 7, none⟩ = some c7) {w2 : World} (hw : w2 = ((((wr.setCell ⟨R, 0, none⟩ v0).setCell ⟨R, 1, none⟩ v1).setCell ⟨R, 2, none⟩ v2).setCell ⟨R, 3, none⟩ v3).drew := by rfl) :
    w2.cell? ⟨g, 0, none⟩ = some c0 ∧ w2.cell? ⟨g, 1, none⟩ = some c1 ∧ w2.cell? ⟨g, 2, none⟩ = some c2 ∧ w2.cell? ⟨g, 3, none⟩ = some c3 ∧ w2.cell? ⟨g, 4, none⟩ = some c4 ∧ w2.cell? ⟨g, 5, none⟩ = some c5 ∧ w2.cell? ⟨g, 6, none⟩ = some c6 ∧ w2.cell? ⟨g, 7, none⟩ = some c7 := by
  subst hw
  have h : ∀ i c, wr.cell? ⟨g, i, none⟩ = some c → (((((wr.setCell ⟨R, 0, none⟩ v0).setCell ⟨R, 1, none⟩ v1).setCell ⟨R, 2, none⟩ v2).setCell ⟨R, 3, none⟩ v3).drew).cell? ⟨g, i, none⟩ = some c := by
    intro i c hc
    show (((((wr.setCell ⟨R, 0, none⟩ v0).setCell ⟨R, 1, none⟩ v1).setCell ⟨R, 2, none⟩ v2).setCell ⟨R, 3, none⟩ v3)).cell? ⟨g, i, none⟩ = some c
    have hn : ∀ j, (⟨R, j, none⟩ : Addr) ≠ ⟨g, i, none⟩ := by intro j e; simp only [Addr.mk.injEq] at e; exact hne e.1
    rw [World.cell?_setCell_other _ _ _ _ (hn 3), World.cell?_setCell_other _ _ _ _ (hn 2), World.cell?_setCell_other _ _ _ _ (hn 1), World.cell?_setCell_other _ _ _ _ (hn 0)]
    exact hc
  exact ⟨h _ _ e0, h _ _ e1, h _ _ e2, h _ _ e3, h _ _ e4, h _ _ e5, h _ _ e6, h _ _ e7⟩
theorem tell_below {w wr : World} {R : Nat} {v0 v1 v2 v3 : Value} (h : Below w.heap.size w wr) (hR : w.heap.size ≤ R) : Below w.heap.size w ((((wr.setCell ⟨R, 0, none⟩ v0).setCell ⟨R, 1, none⟩ v1).setCell ⟨R, 2, none⟩ v2).setCell ⟨R, 3, none⟩ v3) :=
  (((h.setCell hR _).setCell hR _).setCell hR _).setCell hR _
/-- What is asked of the number for its words to be told. -/
def TellOk (u z : Int) : Prop := (0 ≤ z ∧ z < 57896044618658097711785492504343953926634992332820282019728792003956564819968 ∧ u = z) ∨ (z < 0 ∧ -57896044618658097711785492504343953926634992332820282019728792003956564819968 ≤ z ∧ u = 115792089237316195423570985008687907853269984665640564039457584007913129639936 + z)
theorem tell_ok {w w' : World} {z u a3 a2 a1 a0 : Int} (h3 : Word a3) (h2 : Word a2) (h1 : Word a1) (h0 : Word a0) (hu : uw a3 a2 a1 a0 = u) (hz : TellOk u z) (hb : Below w.heap.size w w') :
    TellP z w (.returned (.tuple #[.agg #[.int .u64 a3, .int .u64 a2, .int .u64 a1, .int .u64 a0], .bool true])) w' := by
  refine ⟨hb, Or.inl ⟨?_, a3, a2, a1, a0, rfl, h3, h2, h1, h0, ?_⟩⟩
  · unfold told; rw [decide_eq_true_iff]; unfold TellOk at hz; omega
  · exact sw_of_uw h3 h2 h1 h0 (by rw [hu]; exact hz)
end Go.Proofs.Ytinilehbhdpdkaa
