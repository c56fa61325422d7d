/- Four words in a block of memory, and what is kept of them. -/
import Derived.Test.YtinilehbhdpdkaaSub
import Derived.Test.YtinilehbhdpdkaaOf
namespace Go.Proofs.Ytinilehbhdpdkaa
open Go.RowKit
/-- Four words lie in the block g. -/
structure Wd (W : World) (g : Nat) (a3 a2 a1 a0 : Int) : Prop where
  c0 : W.cell? ⟨g, 0, none⟩ = some (.int .u64 a3)
  c1 : W.cell? ⟨g, 1, none⟩ = some (.int .u64 a2)
  c2 : W.cell? ⟨g, 2, none⟩ = some (.int .u64 a1)
  c3 : W.cell? ⟨g, 3, none⟩ = some (.int .u64 a0)
  f0 : W.frozen? ⟨g, 0, none⟩ = false
  f1 : W.frozen? ⟨g, 1, none⟩ = false
  f2 : W.frozen? ⟨g, 2, none⟩ = false
  f3 : W.frozen? ⟨g, 3, none⟩ = false
  lt : g < W.heap.size
theorem Wd.step {W W' : World} {g : Nat} {a3 a2 a1 a0 : Int} (h : Wd W g a3 a2 a1 a0) (hb : Below W.heap.size W W') : Wd W' g a3 a2 a1 a0 := by
  have hc := fun o => hb.cell (p := ⟨g, o, none⟩) h.lt
  have hf := fun o => hb.frozen (p := ⟨g, o, none⟩) h.lt
  exact ⟨(hc _).trans h.c0, (hc _).trans h.c1, (hc _).trans h.c2, (hc _).trans h.c3, (hf _).trans h.f0, (hf _).trans h.f1, (hf _).trans h.f2, (hf _).trans h.f3, Nat.lt_of_lt_of_le h.lt hb.size⟩
theorem Wd.drew {W : World} {g : Nat} {a3 a2 a1 a0 : Int} (h : Wd W g a3 a2 a1 a0) : Wd W.drew g a3 a2 a1 a0 := ⟨h.c0, h.c1, h.c2, h.c3, h.f0, h.f1, h.f2, h.f3, h.lt⟩
theorem Wd.alloc {W : World} {g : Nat} {a3 a2 a1 a0 : Int} (h : Wd W g a3 a2 a1 a0) (o : Obj) : Wd (W.alloc o) g a3 a2 a1 a0 := h.step ((Below.refl _ _).alloc (Nat.le_refl _) o)
theorem Wd.new (W : World) (a3 a2 a1 a0 : Int) (T : TypeId) {g : Nat} (hg : g = W.heap.size) : Wd (W.alloc (Obj.cells #[Value.int IntKind.u64 a3, Value.int IntKind.u64 a2, Value.int IntKind.u64 a1, Value.int IntKind.u64 a0] T)) g a3 a2 a1 a0 := by
  subst hg
  exact ⟨by simp [go_sem], by simp [go_sem], by simp [go_sem], by simp [go_sem], by simp [go_sem], by simp [go_sem], by simp [go_sem], by simp [go_sem], by simp⟩
theorem Wd.set {W : World} {g R : Nat} {a3 a2 a1 a0 : Int} (h : Wd W g a3 a2 a1 a0) (hne : g ≠ R) (u0 u1 u2 u3 : Value) : Wd ((((W.setCell ⟨R, 0, none⟩ u0).setCell ⟨R, 1, none⟩ u1).setCell ⟨R, 2, none⟩ u2).setCell ⟨R, 3, none⟩ u3) g a3 a2 a1 a0 := by
  have hn : ∀ o j, (⟨R, j, none⟩ : Addr) ≠ ⟨g, o, none⟩ := by intro o j e; simp only [Addr.mk.injEq] at e; exact hne e.1.symm
  have hc : ∀ o, ((((W.setCell ⟨R, 0, none⟩ u0).setCell ⟨R, 1, none⟩ u1).setCell ⟨R, 2, none⟩ u2).setCell ⟨R, 3, none⟩ u3).cell? ⟨g, o, none⟩ = W.cell? ⟨g, o, none⟩ := fun o => by
    rw [World.cell?_setCell_other _ _ _ _ (hn o 3), World.cell?_setCell_other _ _ _ _ (hn o 2), World.cell?_setCell_other _ _ _ _ (hn o 1), World.cell?_setCell_other _ _ _ _ (hn o 0)]
  have hf : ∀ o, ((((W.setCell ⟨R, 0, none⟩ u0).setCell ⟨R, 1, none⟩ u1).setCell ⟨R, 2, none⟩ u2).setCell ⟨R, 3, none⟩ u3).frozen? ⟨g, o, none⟩ = W.frozen? ⟨g, o, none⟩ := fun o => by simp [go_sem]
  exact ⟨(hc _).trans h.c0, (hc _).trans h.c1, (hc _).trans h.c2, (hc _).trans h.c3, (hf _).trans h.f0, (hf _).trans h.f1, (hf _).trans h.f2, (hf _).trans h.f3, by simpa [World.setCell] using h.lt⟩
/-- Two boxed numbers of four words, as a call that takes two finds them. -/
structure TwoW (w W : World) (a3 a2 a1 a0 b3 b2 b1 b0 : Int) : Prop where
  a : Wd W w.heap.size a3 a2 a1 a0
  b : Wd W (w.heap.size + 1) b3 b2 b1 b0
  below : Below w.heap.size w W
theorem TwoW.step {w W W' : World} {a3 a2 a1 a0 b3 b2 b1 b0 : Int} (h : TwoW w W a3 a2 a1 a0 b3 b2 b1 b0) (hb : Below W.heap.size W W') : TwoW w W' a3 a2 a1 a0 b3 b2 b1 b0 := ⟨h.a.step hb, h.b.step hb, h.below.trans (hb.mono h.below.size)⟩
theorem TwoW.drew {w W : World} {a3 a2 a1 a0 b3 b2 b1 b0 : Int} (h : TwoW w W a3 a2 a1 a0 b3 b2 b1 b0) : TwoW w W.drew a3 a2 a1 a0 b3 b2 b1 b0 := ⟨h.a.drew, h.b.drew, h.below.drew⟩
theorem TwoW.alloc {w W : World} {a3 a2 a1 a0 b3 b2 b1 b0 : Int} (h : TwoW w W a3 a2 a1 a0 b3 b2 b1 b0) (o : Obj) : TwoW w (W.alloc o) a3 a2 a1 a0 b3 b2 b1 b0 := h.step ((Below.refl _ _).alloc (Nat.le_refl _) o)
theorem TwoW.set {w W : World} {R : Nat} {a3 a2 a1 a0 b3 b2 b1 b0 : Int} (h : TwoW w W a3 a2 a1 a0 b3 b2 b1 b0) (hR : w.heap.size + 1 < R) (u0 u1 u2 u3 : Value) : TwoW w ((((W.setCell ⟨R, 0, none⟩ u0).setCell ⟨R, 1, none⟩ u1).setCell ⟨R, 2, none⟩ u2).setCell ⟨R, 3, none⟩ u3) a3 a2 a1 a0 b3 b2 b1 b0 :=
  ⟨h.a.set (by omega) _ _ _ _, h.b.set (by omega) _ _ _ _, tell_below h.below (by omega)⟩
/-- What a region that reads both holds on to. -/
def Cells8 (w W : World) (a3 a2 a1 a0 b3 b2 b1 b0 : Int) : Prop :=
  W.cell? ⟨w.heap.size, 0, none⟩ = some (.int .u64 a3) ∧ W.cell? ⟨w.heap.size, 1, none⟩ = some (.int .u64 a2) ∧ W.cell? ⟨w.heap.size, 2, none⟩ = some (.int .u64 a1) ∧ W.cell? ⟨w.heap.size, 3, none⟩ = some (.int .u64 a0) ∧
  W.cell? ⟨w.heap.size + 1, 0, none⟩ = some (.int .u64 b3) ∧ W.cell? ⟨w.heap.size + 1, 1, none⟩ = some (.int .u64 b2) ∧ W.cell? ⟨w.heap.size + 1, 2, none⟩ = some (.int .u64 b1) ∧ W.cell? ⟨w.heap.size + 1, 3, none⟩ = some (.int .u64 b0)
theorem TwoW.cells {w W : World} {a3 a2 a1 a0 b3 b2 b1 b0 : Int} (h : TwoW w W a3 a2 a1 a0 b3 b2 b1 b0) : Cells8 w W a3 a2 a1 a0 b3 b2 b1 b0 := ⟨h.a.c0, h.a.c1, h.a.c2, h.a.c3, h.b.c0, h.b.c1, h.b.c2, h.b.c3⟩
theorem twoW_start (w : World) (a3 a2 a1 a0 b3 b2 b1 b0 : Int) (T : TypeId) : TwoW w ((w.alloc (Obj.cells #[Value.int IntKind.u64 a3, Value.int IntKind.u64 a2, Value.int IntKind.u64 a1, Value.int IntKind.u64 a0] T)).alloc (Obj.cells #[Value.int IntKind.u64 b3, Value.int IntKind.u64 b2, Value.int IntKind.u64 b1, Value.int IntKind.u64 b0] T)) a3 a2 a1 a0 b3 b2 b1 b0 :=
  ⟨(Wd.new w _ _ _ _ T rfl).alloc _, Wd.new _ _ _ _ _ T (by simp), ((Below.refl _ _).alloc (Nat.le_refl _) _).alloc (by simp) _⟩
theorem tellP_set {z : Int} {w W : World} {R : Nat} {e : Ending} {u0 u1 u2 u3 : Value} (hR : w.heap.size ≤ R) (h : TellP z w e W) : TellP z w e ((((W.setCell ⟨R, 0, none⟩ u0).setCell ⟨R, 1, none⟩ u1).setCell ⟨R, 2, none⟩ u2).setCell ⟨R, 3, none⟩ u3) := ⟨tell_below h.1 hR, h.2⟩
theorem tellP_drew {z : Int} {w W : World} {e : Ending} (h : TellP z w e W) : TellP z w e W.drew := ⟨h.1.drew, h.2⟩
theorem tellP_from {z : Int} {w W W' : World} {e : Ending} (hB : Below w.heap.size w W) (h : TellP z W e W') : TellP z w e W' := ⟨hB.trans (h.1.mono hB.size), h.2⟩
/-- A tell's value: four words and a flag. -/
theorem tellP_shape {z : Int} {w W : World} {e : Ending} (h : TellP z w e W) : ∃ a3 a2 a1 a0 b, e = .returned (.tuple #[.agg #[.int .u64 a3, .int .u64 a2, .int .u64 a1, .int .u64 a0], .bool b]) := by
  rcases h.2 with ⟨_, a3, a2, a1, a0, e, _⟩ | ⟨_, e⟩
  · exact ⟨a3, a2, a1, a0, true, e⟩
  · exact ⟨0, 0, 0, 0, false, e⟩
/-- Two tells of one number are one. -/
theorem tellP_same {z : Int} {w W w' W' : World} {a3 a2 a1 a0 b3 b2 b1 b0 : Int} {p q : Bool} (h : TellP z w (.returned (.tuple #[.agg #[.int .u64 a3, .int .u64 a2, .int .u64 a1, .int .u64 a0], .bool p])) W) (h' : TellP z w' (.returned (.tuple #[.agg #[.int .u64 b3, .int .u64 b2, .int .u64 b1, .int .u64 b0], .bool q])) W') :
    a3 = b3 ∧ a2 = b2 ∧ a1 = b1 ∧ a0 = b0 ∧ p = q := by
  rcases h.2 with ⟨t, x3, x2, x1, x0, e, h3, h2, h1, h0, hs⟩ | ⟨t, e⟩
  · rcases h'.2 with ⟨t', y3, y2, y1, y0, e', g3, g2, g1, g0, hs'⟩ | ⟨t', _⟩
    · simp at e e'
      obtain ⟨⟨rfl, rfl, rfl, rfl⟩, rfl⟩ := e
      obtain ⟨⟨rfl, rfl, rfl, rfl⟩, rfl⟩ := e'
      obtain ⟨r3, r2, r1, r0⟩ := sw_inj h3 h2 h1 h0 g3 g2 g1 g0 (hs.trans hs'.symm)
      exact ⟨r3, r2, r1, r0, rfl⟩
    · rw [t] at t'; cases t'
  · rcases h'.2 with ⟨t', _⟩ | ⟨t', e'⟩
    · rw [t] at t'; cases t'
    · simp at e e'
      obtain ⟨⟨rfl, rfl, rfl, rfl⟩, rfl⟩ := e
      obtain ⟨⟨rfl, rfl, rfl, rfl⟩, rfl⟩ := e'
      exact ⟨rfl, rfl, rfl, rfl, rfl⟩
end Go.Proofs.Ytinilehbhdpdkaa
