/- The product of two numbers of four words: what the walk of its first statement wants. -/
import Derived.Test.YtinilehbhdpdkaaTellW
import Derived.Test.YtinilehbhdpdkaaTimesH
import Derived.Test.YtinilehbhdpdkaaBits
namespace Go.Proofs.Ytinilehbhdpdkaa
open Go.RowKit
theorem uw_same {x3 x2 x1 x0 y3 y2 y1 y0 : Int} (_h3 : Word x3) (h2 : Word x2) (h1 : Word x1) (h0 : Word x0) (_k3 : Word y3) (k2 : Word y2) (k1 : Word y1) (k0 : Word y0) (h : uw x3 x2 x1 x0 = uw y3 y2 y1 y0) : x3 = y3 ∧ x2 = y2 ∧ x1 = y1 ∧ x0 = y0 := by
  unfold Word uw at *
  omega
theorem size_words (n : Int) (h0 : 0 ≤ n) (h1 : n < 115792089237316195423570985008687907853269984665640564039457584007913129639936) : ∃ x3 x2 x1 x0, Word x3 ∧ Word x2 ∧ Word x1 ∧ Word x0 ∧ uw x3 x2 x1 x0 = n := by
  refine ⟨n / 18446744073709551616 / 18446744073709551616 / 18446744073709551616, n / 18446744073709551616 / 18446744073709551616 % 18446744073709551616, n / 18446744073709551616 % 18446744073709551616, n % 18446744073709551616, ?_⟩
  unfold Word uw
  omega
theorem sw_size {a3 a2 a1 a0 : Int} (h3 : Word a3) (h2 : Word a2) (h1 : Word a1) (h0 : Word a0) : ((sw a3 a2 a1 a0).natAbs : Int) ≤ 57896044618658097711785492504343953926634992332820282019728792003956564819968 := by
  unfold Word sw uw at *
  split <;> omega
/-- The size of a number, its words known ahead. -/
theorem sizeOf_det (a3 a2 a1 a0 : Int) (h3 : Word a3) (h2 : Word a2) (h1 : Word a1) (h0 : Word a0) (x3 x2 x1 x0 : Int) (g3 : Word x3) (g2 : Word x2) (g1 : Word x1) (g0 : Word x0) (hx : uw x3 x2 x1 x0 = ((sw a3 a2 a1 a0).natAbs : Int)) (w : World) :
    Calls Try.prog 45 #[.agg #[.int .u64 a3, .int .u64 a2, .int .u64 a1, .int .u64 a0]] w (WideP x0 x1 x2 x3 w) := by
  refine (sizeOf_any a3 a2 a1 a0 h3 h2 h1 h0 w).mono ?_
  rintro e w1 ⟨y3, y2, y1, y0, rfl, k3, k2, k1, k0, hu, hB⟩
  obtain ⟨rfl, rfl, rfl, rfl⟩ := uw_same k3 k2 k1 k0 g3 g2 g1 g0 (hu.trans hx.symm)
  exact ⟨rfl, hB⟩
theorem tm_cells {a3 a2 a1 a0 b3 b2 b1 b0 : Int} {w W : World} (h : ArgsB w W [[.int .u64 a3, .int .u64 a2, .int .u64 a1, .int .u64 a0], [.int .u64 b3, .int .u64 b2, .int .u64 b1, .int .u64 b0], [.int .u64 0, .int .u64 0, .int .u64 0, .int .u64 0, .int .u64 0, .int .u64 0, .int .u64 0, .int .u64 0]]) : (fun w' => w'.cell? ⟨w.heap.size, 0, none⟩ = some (.int .u64 a3) ∧ w'.cell? ⟨w.heap.size, 1, none⟩ = some (.int .u64 a2) ∧ w'.cell? ⟨w.heap.size, 2, none⟩ = some (.int .u64 a1) ∧ w'.cell? ⟨w.heap.size, 3, none⟩ = some (.int .u64 a0) ∧ w'.cell? ⟨w.heap.size + 1, 0, none⟩ = some (.int .u64 b3) ∧ w'.cell? ⟨w.heap.size + 1, 1, none⟩ = some (.int .u64 b2) ∧ w'.cell? ⟨w.heap.size + 1, 2, none⟩ = some (.int .u64 b1) ∧ w'.cell? ⟨w.heap.size + 1, 3, none⟩ = some (.int .u64 b0)) W :=
  ⟨(h.b 0 rfl).c 0 rfl, (h.b 0 rfl).c 1 rfl, (h.b 0 rfl).c 2 rfl, (h.b 0 rfl).c 3 rfl, (h.b 1 rfl).c 0 rfl, (h.b 1 rfl).c 1 rfl, (h.b 1 rfl).c 2 rfl, (h.b 1 rfl).c 3 rfl⟩
theorem tm_args (a3 a2 a1 a0 b3 b2 b1 b0 : Int) (w : World) : ArgsB w (((w.alloc (.cells #[.int .u64 a3, .int .u64 a2, .int .u64 a1, .int .u64 a0] 26)).alloc (.cells #[.int .u64 b3, .int .u64 b2, .int .u64 b1, .int .u64 b0] 26)).alloc (.cells #[.int .u64 0, .int .u64 0, .int .u64 0, .int .u64 0, .int .u64 0, .int .u64 0, .int .u64 0, .int .u64 0] 52)) [[.int .u64 a3, .int .u64 a2, .int .u64 a1, .int .u64 a0], [.int .u64 b3, .int .u64 b2, .int .u64 b1, .int .u64 b0], [.int .u64 0, .int .u64 0, .int .u64 0, .int .u64 0, .int .u64 0, .int .u64 0, .int .u64 0, .int .u64 0]] := by
  refine ⟨(((Below.refl _ _).alloc (Nat.le_refl _) _).alloc (by simp) _).alloc (by simp; omega) _, fun j vs hj => ?_⟩
  match j, hj with
  | 0, hj => cases hj; exact ((Blk.new w [.int .u64 a3, .int .u64 a2, .int .u64 a1, .int .u64 a0] 26 rfl).alloc _).alloc _
  | 1, hj => cases hj; exact (Blk.new (w.alloc (.cells #[.int .u64 a3, .int .u64 a2, .int .u64 a1, .int .u64 a0] 26)) [.int .u64 b3, .int .u64 b2, .int .u64 b1, .int .u64 b0] 26 (by simp)).alloc _
  | 2, hj => cases hj; exact Blk.new ((w.alloc (.cells #[.int .u64 a3, .int .u64 a2, .int .u64 a1, .int .u64 a0] 26)).alloc (.cells #[.int .u64 b3, .int .u64 b2, .int .u64 b1, .int .u64 b0] 26)) [.int .u64 0, .int .u64 0, .int .u64 0, .int .u64 0, .int .u64 0, .int .u64 0, .int .u64 0, .int .u64 0] 52 (by simp)
  | j + 3, hj => simp at hj
theorem ArgsB.lt3 {w W : World} {a b c : List Value} (h : ArgsB w W [a, b, c]) : w.heap.size + 2 < W.heap.size := (h.b 2 rfl).lt
theorem ArgsB.set4 {w W : World} {a b c : List Value} (h : ArgsB w W [a, b, c]) {g : Nat} (hg : w.heap.size + 2 < g) (v0 v1 v2 v3 : Value) : ArgsB w ((((W.setCell ⟨g, 0, none⟩ v0).setCell ⟨g, 1, none⟩ v1).setCell ⟨g, 2, none⟩ v2).setCell ⟨g, 3, none⟩ v3) [a, b, c] :=
  (((h.set (by exact hg) _).set (by exact hg) _).set (by exact hg) _).set (by exact hg) _
theorem Blk.stored4 {W : World} {g : Nat} {z0 z1 z2 z3 : Value} (G : Blk W g [z0, z1, z2, z3]) (v0 v1 v2 v3 : Value) : Blk ((((W.setCell ⟨g, 0, none⟩ v0).setCell ⟨g, 1, none⟩ v1).setCell ⟨g, 2, none⟩ v2).setCell ⟨g, 3, none⟩ v3) g [v0, v1, v2, v3] :=
  (((G.setI 0 (by simp) v0).setI 1 (by simp) v1).setI 2 (by simp) v2).setI 3 (by simp) v3
theorem Blk.new2 (W : World) (o : Obj) (vs : List Value) (T : TypeId) : Blk ((W.alloc o).alloc (.cells vs.toArray T)) (W.heap.size + 1) vs := Blk.new _ _ _ (by simp)
/-- Two rows of four values laid behind the arguments. -/
def CutT (w wx : World) (vss : List (List Value)) (xs ys : List Value) (p q : Value) : Prop :=
  ∃ g g', p = .pointer (some ⟨g, 0, none⟩) ∧ q = .pointer (some ⟨g', 0, none⟩) ∧ g ≠ g' ∧ w.heap.size + 2 < g ∧ w.heap.size + 2 < g' ∧ ArgsB w wx vss ∧ Blk wx g xs ∧ Blk wx g' ys
theorem CutT.drew {w wx : World} {vss : List (List Value)} {xs ys : List Value} {p q : Value} (h : CutT w wx vss xs ys p q) : CutT w wx.drew vss xs ys p q := by
  obtain ⟨g, g', e, f, n, l, l', A, B, C⟩ := h
  exact ⟨g, g', e, f, n, l, l', A.drew, B.drew, C.drew⟩
theorem cutT_nn {w X : World} {a b c : List Value} {xs ys : List Value} {T T' : TypeId} (h : ArgsB w X [a, b, c]) (hl : w.heap.size + 2 < X.heap.size) : CutT w ((X.alloc (.cells xs.toArray T)).alloc (.cells ys.toArray T')) [a, b, c] xs ys (.pointer (some ⟨X.heap.size, 0, none⟩)) (.pointer (some ⟨X.heap.size + 1, 0, none⟩)) :=
  ⟨_, _, rfl, rfl, by omega, hl, by omega, (h.alloc _).alloc _, (Blk.new _ _ _ rfl).alloc _, Blk.new2 _ _ _ _⟩
theorem cutT_nn' {w X : World} {a b c : List Value} {xs ys : List Value} {T T' : TypeId} (h : ArgsB w X [a, b, c]) (hl : w.heap.size + 2 < X.heap.size) : CutT w ((X.alloc (.cells ys.toArray T)).alloc (.cells xs.toArray T')) [a, b, c] xs ys (.pointer (some ⟨X.heap.size + 1, 0, none⟩)) (.pointer (some ⟨X.heap.size, 0, none⟩)) :=
  ⟨_, _, rfl, rfl, by omega, by omega, hl, (h.alloc _).alloc _, Blk.new2 _ _ _ _, (Blk.new _ _ _ rfl).alloc _⟩
theorem cutT_sn {w X : World} {a b c : List Value} {v0 v1 v2 v3 z0 z1 z2 z3 : Value} {ys : List Value} {T : TypeId} {g : Nat} (h : ArgsB w X [a, b, c]) (G : Blk X g [z0, z1, z2, z3]) (hg : w.heap.size + 2 < g) (hl : w.heap.size + 2 < X.heap.size) : CutT w (((((X.setCell ⟨g, 0, none⟩ v0).setCell ⟨g, 1, none⟩ v1).setCell ⟨g, 2, none⟩ v2).setCell ⟨g, 3, none⟩ v3).alloc (.cells ys.toArray T)) [a, b, c] [v0, v1, v2, v3] ys (.pointer (some ⟨g, 0, none⟩)) (.pointer (some ⟨X.heap.size, 0, none⟩)) :=
  ⟨_, _, rfl, rfl, by have := G.lt; omega, hg, hl, (h.set4 hg _ _ _ _).alloc _, (G.stored4 _ _ _ _).alloc _, Blk.new _ _ _ (by simp)⟩
theorem cutT_sn' {w X : World} {a b c : List Value} {v0 v1 v2 v3 z0 z1 z2 z3 : Value} {xs : List Value} {T : TypeId} {g : Nat} (h : ArgsB w X [a, b, c]) (G : Blk X g [z0, z1, z2, z3]) (hg : w.heap.size + 2 < g) (hl : w.heap.size + 2 < X.heap.size) : CutT w (((((X.setCell ⟨g, 0, none⟩ v0).setCell ⟨g, 1, none⟩ v1).setCell ⟨g, 2, none⟩ v2).setCell ⟨g, 3, none⟩ v3).alloc (.cells xs.toArray T)) [a, b, c] xs [v0, v1, v2, v3] (.pointer (some ⟨X.heap.size, 0, none⟩)) (.pointer (some ⟨g, 0, none⟩)) :=
  ⟨_, _, rfl, rfl, by have := G.lt; omega, hl, hg, (h.set4 hg _ _ _ _).alloc _, Blk.new _ _ _ (by simp), (G.stored4 _ _ _ _).alloc _⟩
theorem cutT_ss {w X : World} {a b c : List Value} {v0 v1 v2 v3 u0 u1 u2 u3 z0 z1 z2 z3 y0 y1 y2 y3 : Value} {g g' : Nat} (h : ArgsB w X [a, b, c]) (G : Blk X g [z0, z1, z2, z3]) (G' : Blk X g' [y0, y1, y2, y3]) (hg : w.heap.size + 2 < g) (hg' : w.heap.size + 2 < g') (hne : g ≠ g') :
    CutT w ((((((((X.setCell ⟨g, 0, none⟩ v0).setCell ⟨g, 1, none⟩ v1).setCell ⟨g, 2, none⟩ v2).setCell ⟨g, 3, none⟩ v3).setCell ⟨g', 0, none⟩ u0).setCell ⟨g', 1, none⟩ u1).setCell ⟨g', 2, none⟩ u2).setCell ⟨g', 3, none⟩ u3) [a, b, c] [v0, v1, v2, v3] [u0, u1, u2, u3] (.pointer (some ⟨g, 0, none⟩)) (.pointer (some ⟨g', 0, none⟩)) :=
  ⟨_, _, rfl, rfl, hne, hg, hg', (h.set4 hg _ _ _ _).set4 hg' _ _ _ _, (G.stored4 _ _ _ _).set4 hne, (G'.set4 (fun e => hne e.symm)).stored4 _ _ _ _⟩
end Go.Proofs.Ytinilehbhdpdkaa
