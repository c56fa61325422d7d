/- Differences of spots, their products: the program's walks. -/
import Derived.Test.YtckbhihdhcgaeaaSgC
import Derived.Test.YtckbhihdhcgaeaaBas10
import Derived.Test.YtckbhihdhcgaeaaBas9
namespace Go.Proofs.Ytckbhihdhcgaeaa
open Go.RowKit
abbrev In2 (x : Int) : Prop := -2000000 ≤ x ∧ x ≤ 2000000
abbrev In1 (x : Int) : Prop := -1000000 ≤ x ∧ x ≤ 1000000
theorem mul_in {p q M N : Int} (h1 : -M ≤ p) (h2 : p ≤ M) (h3 : -N ≤ q) (h4 : q ≤ N) : -(M * N) ≤ p * q ∧ p * q ≤ M * N := by
  have hM : 0 ≤ M := by omega
  have hN : 0 ≤ N := by omega
  have a1 : 0 ≤ (M - p) * (N - q) := Int.mul_nonneg (by omega) (by omega)
  have a2 : 0 ≤ (M + p) * (N + q) := Int.mul_nonneg (by omega) (by omega)
  have a3 : 0 ≤ (M - p) * (N + q) := Int.mul_nonneg (by omega) (by omega)
  have a4 : 0 ≤ (M + p) * (N - q) := Int.mul_nonneg (by omega) (by omega)
  constructor <;> grind
theorem prod2 {p q : Int} (hp : In2 p) (hq : In2 q) : -4000000000000 ≤ p * q ∧ p * q ≤ 4000000000000 := mul_in (M := 2000000) (N := 2000000) hp.1 hp.2 hq.1 hq.2
theorem minusS_det (x y u v : Int) (hx : In1 x) (hy : In1 y) (hu : In1 u) (hv : In1 v) (w : World) : Calls Try.prog 100 #[Sp x y, Sp u v] w (VP (Sp (x - u) (y - v)) w) := by
  obtain ⟨x1, x2⟩ := hx; obtain ⟨y1, y2⟩ := hy; obtain ⟨u1, u2⟩ := hu; obtain ⟨v1, v2⟩ := hv
  go_enter Try.func100, Try.ntmps100
  go_wp2
  refine bodyPost_ret (v := Sp (x - u) (y - v)) (by simp [results, Try.results100, go_sem]) rfl ?_
  exact ⟨rfl, (((Below.refl _ _).alloc (Nat.le_refl _) _).alloc (by simp) _).alloc (by simp; omega) _⟩
theorem cross_det (x y u v : Int) (hx : In2 x) (hy : In2 y) (hu : In2 u) (hv : In2 v) (w : World) : Calls Try.prog 104 #[Sp x y, Sp u v] w (VP (.int .i64 (x * v - y * u)) w) := by
  obtain ⟨p1, p2⟩ := prod2 hx hv; obtain ⟨q1, q2⟩ := prod2 hy hu
  clear hx hy hu hv
  go_enter Try.func104, Try.ntmps104
  go_wp2
  go_ret
  exact ⟨rfl, ((Below.refl _ _).alloc (Nat.le_refl _) _).alloc (by simp) _⟩
theorem dot_det (x y u v : Int) (hx : In2 x) (hy : In2 y) (hu : In2 u) (hv : In2 v) (w : World) : Calls Try.prog 101 #[Sp x y, Sp u v] w (VP (.int .i64 (x * u + y * v)) w) := by
  obtain ⟨p1, p2⟩ := prod2 hx hu; obtain ⟨q1, q2⟩ := prod2 hy hv
  clear hx hy hu hv
  go_enter Try.func101, Try.ntmps101
  go_wp2
  go_ret
  exact ⟨rfl, ((Below.refl _ _).alloc (Nat.le_refl _) _).alloc (by simp) _⟩
theorem implRatioOf_det (x y : Int) (hx : told x = true) (hy : told y = true) (w : World) : Calls Try.prog 102 #[W4 x, W4 y] w (VP (ratV x y) w) := by
  obtain ⟨a3, a2, a1, a0⟩ := ww_words x
  obtain ⟨b3, b2, b1, b0⟩ := ww_words y
  have h := implRatioOf_any (ww3 x) (ww2 x) (ww1 x) (ww0 x) (ww3 y) (ww2 y) (ww1 y) (ww0 y) a3 a2 a1 a0 b3 b2 b1 b0 w
  rw [ww_sw hx, ww_sw hy] at h
  exact h
/-- Two rows of two values, each in a block of its own. -/
def CutG (w wx : World) (vss : List (List Value)) (us vs : List Value) (p q : Value) : Prop :=
  ∃ g g', p = .pointer (some ⟨g, 0, none⟩) ∧ q = .pointer (some ⟨g', 0, none⟩) ∧ g ≠ g' ∧ w.heap.size + vss.length ≤ g ∧ w.heap.size + vss.length ≤ g' ∧ ArgsB w wx vss ∧ Blk wx g us ∧ Blk wx g' vs
theorem cutG_nn {w X : World} {vss : List (List Value)} {us vs : List Value} {T T' : TypeId} (h : ArgsB w X vss) (hl : w.heap.size + vss.length ≤ X.heap.size) : CutG w ((X.alloc (.cells us.toArray T)).alloc (.cells vs.toArray T')) vss us vs (.pointer (some ⟨X.heap.size, 0, none⟩)) (.pointer (some ⟨X.heap.size + 1, 0, none⟩)) :=
  ⟨_, _, rfl, rfl, by omega, hl, by omega, (h.alloc _).alloc _, (Blk.new X us T rfl).alloc _, Blk.new _ vs T' (by simp)⟩
theorem cutG_nn' {w X : World} {vss : List (List Value)} {us vs : List Value} {T T' : TypeId} (h : ArgsB w X vss) (hl : w.heap.size + vss.length ≤ X.heap.size) : CutG w ((X.alloc (.cells vs.toArray T)).alloc (.cells us.toArray T')) vss us vs (.pointer (some ⟨X.heap.size + 1, 0, none⟩)) (.pointer (some ⟨X.heap.size, 0, none⟩)) :=
  ⟨_, _, rfl, rfl, by omega, by omega, hl, (h.alloc _).alloc _, Blk.new _ us T' (by simp), (Blk.new X vs T rfl).alloc _⟩
theorem cutG_sn {w X : World} {vss : List (List Value)} {v0 v1 z0 z1 : Value} {vs : List Value} {T : TypeId} {g : Nat} (h : ArgsB w X vss) (G : Blk X g [z0, z1]) (hg : w.heap.size + vss.length ≤ g) (hl : w.heap.size + vss.length ≤ X.heap.size) : CutG w (((X.setCell ⟨g, 0, none⟩ v0).setCell ⟨g, 1, none⟩ v1).alloc (.cells vs.toArray T)) vss [v0, v1] vs (.pointer (some ⟨g, 0, none⟩)) (.pointer (some ⟨X.heap.size, 0, none⟩)) :=
  ⟨_, _, rfl, rfl, by have := G.lt; omega, hg, hl, (h.set2 hg _ _).alloc _, (G.stored2 _ _).alloc _, Blk.new _ vs T (by simp)⟩
theorem cutG_sn' {w X : World} {vss : List (List Value)} {v0 v1 z0 z1 : Value} {us : List Value} {T : TypeId} {g : Nat} (h : ArgsB w X vss) (G : Blk X g [z0, z1]) (hg : w.heap.size + vss.length ≤ g) (hl : w.heap.size + vss.length ≤ X.heap.size) : CutG w (((X.setCell ⟨g, 0, none⟩ v0).setCell ⟨g, 1, none⟩ v1).alloc (.cells us.toArray T)) vss us [v0, v1] (.pointer (some ⟨X.heap.size, 0, none⟩)) (.pointer (some ⟨g, 0, none⟩)) :=
  ⟨_, _, rfl, rfl, by have := G.lt; omega, hl, hg, (h.set2 hg _ _).alloc _, Blk.new _ us T (by simp), (G.stored2 _ _).alloc _⟩
theorem cutG_ss {w X : World} {vss : List (List Value)} {v0 v1 u0 u1 z0 z1 y0 y1 : Value} {g g' : Nat} (h : ArgsB w X vss) (G : Blk X g [z0, z1]) (G' : Blk X g' [y0, y1]) (hg : w.heap.size + vss.length ≤ g) (hg' : w.heap.size + vss.length ≤ g') (hne : g ≠ g') :
    CutG w ((((X.setCell ⟨g, 0, none⟩ v0).setCell ⟨g, 1, none⟩ v1).setCell ⟨g', 0, none⟩ u0).setCell ⟨g', 1, none⟩ u1) vss [v0, v1] [u0, u1] (.pointer (some ⟨g, 0, none⟩)) (.pointer (some ⟨g', 0, none⟩)) :=
  ⟨_, _, rfl, rfl, hne, hg, hg', (h.set2 hg _ _).set2 hg' _ _, (G.stored2 _ _).set2 hne, (G'.set2 (fun e => hne e.symm)).stored2 _ _⟩
/-- The square of the distance of a spot and a segment, both right. -/
def nearW (a b c d x y : Int) : Value :=
  if (x - a) * (c - a) + (y - b) * (d - b) ≤ 0 then ratV ((x - a) * (x - a) + (y - b) * (y - b)) 1
  else if (x - c) * (c - a) + (y - d) * (d - b) ≥ 0 then ratV ((x - c) * (x - c) + (y - d) * (y - d)) 1
  else ratV (((c - a) * (y - b) - (d - b) * (x - a)) * ((c - a) * (y - b) - (d - b) * (x - a))) ((c - a) * (c - a) + (d - b) * (d - b))
/-- The square of the distance of a spot and a segment, and true; where one is not right: zeros, and false. -/
def nearV (a b c d x y : Int) : Value := if segOk a b c d && spotOk x y then nearW a b c d x y else .tuple #[.agg #[.int .u64 0, .int .u64 0, .int .u64 0, .int .u64 0, .int .u64 0, .int .u64 0, .int .u64 0, .int .u64 0], .bool false]
theorem nearW_ex (a b c d x y : Int) : ∃ z0 z1 z2 z3 z4 z5 z6 z7 f, nearW a b c d x y = .tuple #[.agg #[.int .u64 z0, .int .u64 z1, .int .u64 z2, .int .u64 z3, .int .u64 z4, .int .u64 z5, .int .u64 z6, .int .u64 z7], .bool f] := by
  unfold nearW
  split
  · exact ratV_ex _ _
  · split <;> exact ratV_ex _ _
theorem nearV_ex (a b c d x y : Int) : ∃ z0 z1 z2 z3 z4 z5 z6 z7 f, nearV a b c d x y = .tuple #[.agg #[.int .u64 z0, .int .u64 z1, .int .u64 z2, .int .u64 z3, .int .u64 z4, .int .u64 z5, .int .u64 z6, .int .u64 z7], .bool f] := by
  unfold nearV
  split
  · exact nearW_ex a b c d x y
  · exact ⟨0, 0, 0, 0, 0, 0, 0, 0, false, rfl⟩
theorem in1_spot {x y : Int} (h : spotOk x y = true) : In1 x ∧ In1 y := by
  unfold spotOk at h
  simp at h
  omega
theorem told_big {x : Int} (h : -1000000000000000000000000000000 ≤ x ∧ x ≤ 1000000000000000000000000000000) : told x = true := told_of (by omega)
theorem nr_cells {a b c d x y : Int} {w W : World} (T0 : ArgsB w W [[.int .i64 a, .int .i64 b, .int .i64 c, .int .i64 d], [.int .i64 x, .int .i64 y], [.int .u64 0, .int .u64 0, .int .u64 0, .int .u64 0, .int .u64 0, .int .u64 0, .int .u64 0, .int .u64 0]]) : (fun w' => w'.cell? ⟨w.heap.size, 0, none⟩ = some (.int .i64 a) ∧ w'.cell? ⟨w.heap.size, 1, none⟩ = some (.int .i64 b) ∧ w'.cell? ⟨w.heap.size, 2, none⟩ = some (.int .i64 c) ∧ w'.cell? ⟨w.heap.size, 3, none⟩ = some (.int .i64 d) ∧ w'.cell? ⟨w.heap.size + 1, 0, none⟩ = some (.int .i64 x) ∧ w'.cell? ⟨w.heap.size + 1, 1, none⟩ = some (.int .i64 y)) W := ⟨(T0.b 0 rfl).c 0 rfl, (T0.b 0 rfl).c 1 rfl, (T0.b 0 rfl).c 2 rfl, (T0.b 0 rfl).c 3 rfl, (T0.b 1 rfl).c 0 rfl, (T0.b 1 rfl).c 1 rfl⟩
end Go.Proofs.Ytckbhihdhcgaeaa
