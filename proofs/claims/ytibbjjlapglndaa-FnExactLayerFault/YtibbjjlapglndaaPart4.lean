/- Part 4 of the walks that the proof leans on. -/
import Derived.Test.YtibbjjlapglndaaPart3
import Derived.Test.YtibbjjlapglndaaPart2
/- Differences of spots, their products: the program's walks. -/
namespace Go.Proofs.Ytibbjjlapglndaa
open Go.RowKit
abbrev In2 (x : Int) : Prop := -2000000 ≤ x ∧ x ≤ 2000000
abbrev In1 (x : Int) : Prop := -1000000 ≤ x ∧ x ≤ 1000000
theorem mul_in {p q M N : Int} (h1 : -M ≤ p) (h2 : p ≤ M) (h3 : -N ≤ q) (h4 : q ≤ N) : -(M * N) ≤ p * q ∧ p * q ≤ M * N := by
  have hM : 0 ≤ M := by omega
  have hN : 0 ≤ N := by omega
  have a1 : 0 ≤ (M - p) * (N - q) := Int.mul_nonneg (by omega) (by omega)
  have a2 : 0 ≤ (M + p) * (N + q) := Int.mul_nonneg (by omega) (by omega)
  have a3 : 0 ≤ (M - p) * (N + q) := Int.mul_nonneg (by omega) (by omega)
  have a4 : 0 ≤ (M + p) * (N - q) := Int.mul_nonneg (by omega) (by omega)
  constructor <;> grind
theorem prod2 {p q : Int} (hp : In2 p) (hq : In2 q) : -4000000000000 ≤ p * q ∧ p * q ≤ 4000000000000 := mul_in (M := 2000000) (N := 2000000) hp.1 hp.2 hq.1 hq.2
theorem minusS_det (x y u v : Int) (hx : In1 x) (hy : In1 y) (hu : In1 u) (hv : In1 v) (w : World) : Calls Try.prog 79 #[Sp x y, Sp u v] w (VP (Sp (x - u) (y - v)) w) := by
  obtain ⟨x1, x2⟩ := hx; obtain ⟨y1, y2⟩ := hy; obtain ⟨u1, u2⟩ := hu; obtain ⟨v1, v2⟩ := hv
  go_enter Try.func79, Try.ntmps79
  go_wp2
  refine bodyPost_ret (v := Sp (x - u) (y - v)) (by simp [results, Try.results79, go_sem]) rfl ?_
  exact ⟨rfl, (((Below.refl _ _).alloc (Nat.le_refl _) _).alloc (by simp) _).alloc (by simp; omega) _⟩
theorem cross_det (x y u v : Int) (hx : In2 x) (hy : In2 y) (hu : In2 u) (hv : In2 v) (w : World) : Calls Try.prog 80 #[Sp x y, Sp u v] w (VP (.int .i64 (x * v - y * u)) w) := by
  obtain ⟨p1, p2⟩ := prod2 hx hv; obtain ⟨q1, q2⟩ := prod2 hy hu
  clear hx hy hu hv
  go_enter Try.func80, Try.ntmps80
  go_wp2
  go_ret
  exact ⟨rfl, ((Below.refl _ _).alloc (Nat.le_refl _) _).alloc (by simp) _⟩
/-- Two rows of two values, each in a block of its own. -/
def CutG (w wx : World) (vss : List (List Value)) (us vs : List Value) (p q : Value) : Prop :=
  ∃ g g', p = .pointer (some ⟨g, 0, none⟩) ∧ q = .pointer (some ⟨g', 0, none⟩) ∧ g ≠ g' ∧ w.heap.size + vss.length ≤ g ∧ w.heap.size + vss.length ≤ g' ∧ ArgsB w wx vss ∧ Blk wx g us ∧ Blk wx g' vs
theorem cutG_nn {w X : World} {vss : List (List Value)} {us vs : List Value} {T T' : TypeId} (h : ArgsB w X vss) (hl : w.heap.size + vss.length ≤ X.heap.size) : CutG w ((X.alloc (.cells us.toArray T)).alloc (.cells vs.toArray T')) vss us vs (.pointer (some ⟨X.heap.size, 0, none⟩)) (.pointer (some ⟨X.heap.size + 1, 0, none⟩)) :=
  ⟨_, _, rfl, rfl, by omega, hl, by omega, (h.alloc _).alloc _, (Blk.new X us T rfl).alloc _, Blk.new _ vs T' (by simp)⟩
theorem cutG_nn' {w X : World} {vss : List (List Value)} {us vs : List Value} {T T' : TypeId} (h : ArgsB w X vss) (hl : w.heap.size + vss.length ≤ X.heap.size) : CutG w ((X.alloc (.cells vs.toArray T)).alloc (.cells us.toArray T')) vss us vs (.pointer (some ⟨X.heap.size + 1, 0, none⟩)) (.pointer (some ⟨X.heap.size, 0, none⟩)) :=
  ⟨_, _, rfl, rfl, by omega, by omega, hl, (h.alloc _).alloc _, Blk.new _ us T' (by simp), (Blk.new X vs T rfl).alloc _⟩
end Go.Proofs.Ytibbjjlapglndaa

/- Turns of spots, lines and where they cross, parts of two spots: the walks that Meet leans on. -/
namespace Go.Proofs.Ytibbjjlapglndaa
open Go.RowKit
def turnZ (a b c d x y : Int) : Int := (c - a) * (y - b) - (d - b) * (x - a)
def sgZ (z : Int) : Int := if z < 0 then -1 else if 0 < z then 1 else 0
theorem ret_i {k : IntKind} {a b : Int} (h : b = a) : Ending.returned (.int k a) = .returned (.int k b) := by rw [h]
set_option maxRecDepth 100000 in
theorem l4TurnZ_det (a b c d x y : Int) (ha : In1 a) (hb : In1 b) (hc : In1 c) (hd : In1 d) (hx : In1 x) (hy : In1 y) (w : World) :
    Calls Try.prog 36 #[Sp a b, Sp c d, Sp x y] w (VP (.int .i64 (sgZ (turnZ a b c d x y))) w) := by
  have HR : turnZ a b c d x y = (c - a) * (y - b) - (d - b) * (x - a) := rfl
  obtain ⟨a1, a2⟩ := ha; obtain ⟨b1, b2⟩ := hb; obtain ⟨c1, c2⟩ := hc; obtain ⟨d1, d2⟩ := hd; obtain ⟨x1, x2⟩ := hx; obtain ⟨y1, y2⟩ := hy
  obtain ⟨p1, p2⟩ := mul_in (p := c - a) (q := y - b) (M := 2000000) (N := 2000000) (by omega) (by omega) (by omega) (by omega)
  obtain ⟨q1, q2⟩ := mul_in (p := d - b) (q := x - a) (M := 2000000) (N := 2000000) (by omega) (by omega) (by omega) (by omega)
  obtain ⟨p, hp⟩ : ∃ p, (c - a) * (y - b) = p := ⟨_, rfl⟩
  obtain ⟨q, hq⟩ : ∃ q, (d - b) * (x - a) = q := ⟨_, rfl⟩
  rw [hp] at p1 p2 HR
  rw [hq] at q1 q2 HR
  rw [HR]
  clear HR
  go_enter Try.func36, Try.ntmps36
  go_wp2
  all_goals go_ret
  all_goals exact ⟨ret_i (by unfold sgZ; split <;> (try split) <;> omega), (((Below.refl _ _).alloc (Nat.le_refl _) _).alloc (by simp) _).alloc (by simp; omega) _⟩
theorem turnZ_cells {a b c d x y : Int} {w W : World} (h : ArgsB w W [[.int .i64 a, .int .i64 b, .int .i64 c, .int .i64 d], [.int .i64 x, .int .i64 y]]) : (fun w' => w'.cell? ⟨w.heap.size, 0, none⟩ = some (.int .i64 a) ∧ w'.cell? ⟨w.heap.size, 1, none⟩ = some (.int .i64 b) ∧ w'.cell? ⟨w.heap.size, 2, none⟩ = some (.int .i64 c) ∧ w'.cell? ⟨w.heap.size, 3, none⟩ = some (.int .i64 d) ∧ w'.cell? ⟨w.heap.size + 1, 0, none⟩ = some (.int .i64 x) ∧ w'.cell? ⟨w.heap.size + 1, 1, none⟩ = some (.int .i64 y)) W :=
  ⟨(h.b 0 rfl).c 0 rfl, (h.b 0 rfl).c 1 rfl, (h.b 0 rfl).c 2 rfl, (h.b 0 rfl).c 3 rfl, (h.b 1 rfl).c 0 rfl, (h.b 1 rfl).c 1 rfl⟩
set_option maxRecDepth 100000 in
set_option maxHeartbeats 1000000 in
theorem turnToZ_det (a b c d x y : Int) (ha : In1 a) (hb : In1 b) (hc : In1 c) (hd : In1 d) (hx : In1 x) (hy : In1 y) (w : World) :
    Calls Try.prog 72 #[Sg a b c d, Sp x y] w (VP (.int .i64 (turnZ a b c d x y)) w) := by
  have M1 := minusS_det c d a b hc hd ha hb
  have M2 := minusS_det x y a b hx hy ha hb
  have CR := cross_det (c - a) (d - b) (x - a) (y - b) ⟨by omega, by omega⟩ ⟨by omega, by omega⟩ ⟨by omega, by omega⟩ ⟨by omega, by omega⟩
  have T0 : ArgsB w ((w.alloc (.cells #[.int .i64 a, .int .i64 b, .int .i64 c, .int .i64 d] 63)).alloc (.cells #[.int .i64 x, .int .i64 y] 54)) [[.int .i64 a, .int .i64 b, .int .i64 c, .int .i64 d], [.int .i64 x, .int .i64 y]] := ar2 _ _ _ _ w
  have tok1 : True := trivial
  clear ha hb hc hd hx hy
  go_enter Try.func72, Try.ntmps72
  go_upto_region 1 with fail
  generalize ((w.alloc (.cells #[.int .i64 a, .int .i64 b, .int .i64 c, .int .i64 d] 63)).alloc (.cells #[.int .i64 x, .int .i64 y] 54)) = W at *
  go_region_held3 (fun w' => w'.cell? ⟨w.heap.size, 0, none⟩ = some (.int .i64 a) ∧ w'.cell? ⟨w.heap.size, 1, none⟩ = some (.int .i64 b) ∧ w'.cell? ⟨w.heap.size, 2, none⟩ = some (.int .i64 c) ∧ w'.cell? ⟨w.heap.size, 3, none⟩ = some (.int .i64 d) ∧ w'.cell? ⟨w.heap.size + 1, 0, none⟩ = some (.int .i64 x) ∧ w'.cell? ⟨w.heap.size + 1, 1, none⟩ = some (.int .i64 y)) ((refine turnZ_cells ?_ <;> repeat (first | (with_reducible exact T0) | (with_reducible refine ArgsB.drew ?_))))
    (first
      | (go_at_call 79; have _t := tok1; refine (M1 _).mono ?_; rintro e w1 ⟨rfl, hB⟩; (first | (have T1 := T0.step hB) | (have T1 := T0.drew.step hB)); clear T0; have T0 := T1; clear T1; clear hB; clear tok1 _t)
      | (go_at_call 79; refine (M2 _).mono ?_; rintro e w2 ⟨rfl, hB⟩; (first | (have T1 := T0.step hB) | (have T1 := T0.drew.step hB)); clear T0; have T0 := T1; clear T1; clear hB)
      | (go_at_call 80; refine (CR _).mono ?_; rintro e w3 ⟨rfl, hB⟩; (first | (have T1 := T0.step hB) | (have T1 := T0.drew.step hB)); clear T0; have T0 := T1; clear T1; clear hB))
  all_goals go_wp2
  all_goals go_ret
  all_goals first | exact ⟨rfl, T0.below⟩ | exact ⟨rfl, T0.drew.below⟩
set_option maxRecDepth 100000 in
set_option maxHeartbeats 1000000 in
theorem lineOf_det (a b c d : Int) (ha : In1 a) (hb : In1 b) (hc : In1 c) (hd : In1 d) (w : World) : Calls Try.prog 62 #[Sg a b c d] w (VP (.agg #[.int .i64 (b - d), .int .i64 (c - a), .int .i64 (a * d - b * c)]) w) := by
  obtain ⟨p1, p2⟩ := mul_in (p := a) (q := d) (M := 1000000) (N := 1000000) ha.1 ha.2 hd.1 hd.2
  obtain ⟨q1, q2⟩ := mul_in (p := b) (q := c) (M := 1000000) (N := 1000000) hb.1 hb.2 hc.1 hc.2
  obtain ⟨a1, a2⟩ := ha; obtain ⟨b1, b2⟩ := hb; obtain ⟨c1, c2⟩ := hc; obtain ⟨d1, d2⟩ := hd
  go_enter Try.func62, Try.ntmps62
  go_wp2
  refine bodyPost_ret (v := .agg #[.int .i64 (b - d), .int .i64 (c - a), .int .i64 (a * d - b * c)]) (by simp [results, Try.results62, go_sem]) rfl ?_
  exact ⟨rfl, ((Below.refl _ _).alloc (Nat.le_refl _) _).alloc (by simp) _⟩
theorem cross_cells {l1 l2 l3 m1 m2 m3 : Int} {w W : World} (h : ArgsB w W [[.int .i64 l1, .int .i64 l2, .int .i64 l3], [.int .i64 m1, .int .i64 m2, .int .i64 m3]]) : (fun w' => w'.cell? ⟨w.heap.size, 0, none⟩ = some (.int .i64 l1) ∧ w'.cell? ⟨w.heap.size, 1, none⟩ = some (.int .i64 l2) ∧ w'.cell? ⟨w.heap.size, 2, none⟩ = some (.int .i64 l3) ∧ w'.cell? ⟨w.heap.size + 1, 0, none⟩ = some (.int .i64 m1) ∧ w'.cell? ⟨w.heap.size + 1, 1, none⟩ = some (.int .i64 m2) ∧ w'.cell? ⟨w.heap.size + 1, 2, none⟩ = some (.int .i64 m3)) W :=
  ⟨(h.b 0 rfl).c 0 rfl, (h.b 0 rfl).c 1 rfl, (h.b 0 rfl).c 2 rfl, (h.b 1 rfl).c 0 rfl, (h.b 1 rfl).c 1 rfl, (h.b 1 rfl).c 2 rfl⟩
theorem wrapI {z : Int} (h0 : -9223372036854775808 ≤ z) (h1 : z ≤ 9223372036854775807) : IntKind.i64.wrap z = z := by
  rw [IntKind.wrap_i64]
  omega
abbrev In3 (x : Int) : Prop := -2000000000000 ≤ x ∧ x ≤ 2000000000000
set_option maxRecDepth 100000 in
set_option maxHeartbeats 2000000 in
theorem crossing_det (l1 l2 l3 m1 m2 m3 : Int) (h1 : In2 l1) (h2 : In2 l2) (h3 : In3 l3) (k1 : In2 m1) (k2 : In2 m2) (k3 : In3 m3) (w : World) : Calls Try.prog 63 #[.agg #[.int .i64 l1, .int .i64 l2, .int .i64 l3], .agg #[.int .i64 m1, .int .i64 m2, .int .i64 m3]] w (VP (.tuple #[.int .i64 (l2 * m3 - m2 * l3), .int .i64 (l3 * m1 - m3 * l1), .int .i64 (l1 * m2 - m1 * l2)]) w) := by
  obtain ⟨p1, p2⟩ := mul_in (p := l2) (q := m3) (M := 2000000) (N := 2000000000000) h2.1 h2.2 k3.1 k3.2
  obtain ⟨q1, q2⟩ := mul_in (p := m2) (q := l3) (M := 2000000) (N := 2000000000000) k2.1 k2.2 h3.1 h3.2
  obtain ⟨r1, r2⟩ := mul_in (p := l3) (q := m1) (M := 2000000000000) (N := 2000000) h3.1 h3.2 k1.1 k1.2
  obtain ⟨s1, s2⟩ := mul_in (p := m3) (q := l1) (M := 2000000000000) (N := 2000000) k3.1 k3.2 h1.1 h1.2
  obtain ⟨t1, t2⟩ := mul_in (p := l1) (q := m2) (M := 2000000) (N := 2000000) h1.1 h1.2 k2.1 k2.2
  obtain ⟨u1, u2⟩ := mul_in (p := m1) (q := l2) (M := 2000000) (N := 2000000) k1.1 k1.2 h2.1 h2.2
  have T0 : ArgsB w ((w.alloc (.cells #[.int .i64 l1, .int .i64 l2, .int .i64 l3] 106)).alloc (.cells #[.int .i64 m1, .int .i64 m2, .int .i64 m3] 106)) [[.int .i64 l1, .int .i64 l2, .int .i64 l3], [.int .i64 m1, .int .i64 m2, .int .i64 m3]] := ar2 _ _ _ _ w
  clear h1 h2 h3 k1 k2 k3
  have e1 : IntKind.i64.wrap (l2 * m3) = l2 * m3 := wrapI (by omega) (by omega)
  have e2 : IntKind.i64.wrap (m2 * l3) = m2 * l3 := wrapI (by omega) (by omega)
  have e3 : IntKind.i64.wrap (l3 * m1) = l3 * m1 := wrapI (by omega) (by omega)
  have e4 : IntKind.i64.wrap (m3 * l1) = m3 * l1 := wrapI (by omega) (by omega)
  have e5 : IntKind.i64.wrap (l1 * m2) = l1 * m2 := wrapI (by omega) (by omega)
  have e6 : IntKind.i64.wrap (m1 * l2) = m1 * l2 := wrapI (by omega) (by omega)
  have e7 : IntKind.i64.wrap (l2 * m3 - m2 * l3) = l2 * m3 - m2 * l3 := wrapI (by omega) (by omega)
  have e8 : IntKind.i64.wrap (l3 * m1 - m3 * l1) = l3 * m1 - m3 * l1 := wrapI (by omega) (by omega)
  have e9 : IntKind.i64.wrap (l1 * m2 - m1 * l2) = l1 * m2 - m1 * l2 := wrapI (by omega) (by omega)
  go_enter Try.func63, Try.ntmps63
  go_upto_region 1 with fail
  generalize ((w.alloc (.cells #[.int .i64 l1, .int .i64 l2, .int .i64 l3] 106)).alloc (.cells #[.int .i64 m1, .int .i64 m2, .int .i64 m3] 106)) = W at *
  go_region_held3 (fun w' => w'.cell? ⟨w.heap.size, 0, none⟩ = some (.int .i64 l1) ∧ w'.cell? ⟨w.heap.size, 1, none⟩ = some (.int .i64 l2) ∧ w'.cell? ⟨w.heap.size, 2, none⟩ = some (.int .i64 l3) ∧ w'.cell? ⟨w.heap.size + 1, 0, none⟩ = some (.int .i64 m1) ∧ w'.cell? ⟨w.heap.size + 1, 1, none⟩ = some (.int .i64 m2) ∧ w'.cell? ⟨w.heap.size + 1, 2, none⟩ = some (.int .i64 m3)) ((refine cross_cells ?_ <;> repeat (first | (with_reducible exact T0) | (with_reducible refine ArgsB.drew ?_))))
    (first | fail)
  all_goals go_wp2
  all_goals refine bodyPost_ret (v := .tuple #[.int .i64 (l2 * m3 - m2 * l3), .int .i64 (l3 * m1 - m3 * l1), .int .i64 (l1 * m2 - m1 * l2)]) (by simp [results, Try.results63, go_sem]) rfl ?_
  all_goals first | exact ⟨rfl, T0.below⟩ | exact ⟨rfl, T0.drew.below⟩
/-- Whether of two turns one is not below 0, and one not above. -/
def pt2 (t t' : Int) : Bool := (decide (0 ≤ t) || decide (0 ≤ t')) && (decide (t ≤ 0) || decide (t' ≤ 0))
structure PartZ (w wr : World) (g : Nat) (sg sl : List Value) : Prop where
  below : Below w.heap.size w wr
  seg : Blk wr w.heap.size sg
  row : Blk wr g sl
theorem PartZ.step {w wr wr' : World} {g : Nat} {sg sl : List Value} (h : PartZ w wr g sg sl) (hB : Below wr.heap.size wr wr') : PartZ w wr' g sg sl := ⟨h.below.trans (hB.mono h.below.size), h.seg.step hB, h.row.step hB⟩
theorem PartZ.alloc {w wr : World} {g : Nat} {sg sl : List Value} (h : PartZ w wr g sg sl) (o : Obj) : PartZ w (wr.alloc o) g sg sl := h.step ((Below.refl _ _).alloc (Nat.le_refl _) o)
set_option maxRecDepth 100000 in
set_option maxHeartbeats 2000000 in
theorem parts2_det (a b c d x y u v : Int) (ha : In1 a) (hb : In1 b) (hc : In1 c) (hd : In1 d) (hx : In1 x) (hy : In1 y) (hu : In1 u) (hv : In1 v) (g : Nat) (w : World) (hS : Blk w g [.int .i64 x, .int .i64 y, .int .i64 u, .int .i64 v]) :
    Calls Try.prog 65 #[Sg a b c d, .slice (some ⟨g, 0, none⟩) 2 2] w (VP (.bool (pt2 (turnZ a b c d x y) (turnZ a b c d u v))) w) := by
  have T1 := turnToZ_det a b c d x y ha hb hc hd hx hy
  have T2 := turnToZ_det a b c d u v ha hb hc hd hu hv
  generalize turnZ a b c d x y = t at *
  generalize turnZ a b c d u v = t' at *
  clear ha hb hc hd hx hy hu hv
  have I0 : PartZ w (w.alloc (.cells #[.int .i64 a, .int .i64 b, .int .i64 c, .int .i64 d] 63)) g [.int .i64 a, .int .i64 b, .int .i64 c, .int .i64 d] [.int .i64 x, .int .i64 y, .int .i64 u, .int .i64 v] :=
    ⟨(Below.refl _ _).alloc (Nat.le_refl _) _, Blk.new w [.int .i64 a, .int .i64 b, .int .i64 c, .int .i64 d] 63 rfl, hS.alloc _⟩
  clear hS
  go_enter Try.func65, Try.ntmps65
  go_wp2
  generalize (w.alloc (.cells #[.int .i64 a, .int .i64 b, .int .i64 c, .int .i64 d] 63)) = W at *
  go_loopw [5, 6, 12] (fun l r i wr => ∃ k : Nat, k ≤ 2 ∧ i = .int .i64 k ∧ l = .bool (if k = 0 then false else if k = 1 then decide (0 ≤ t) else decide (0 ≤ t) || decide (0 ≤ t')) ∧ r = .bool (if k = 0 then false else if k = 1 then decide (t ≤ 0) else decide (t ≤ 0) || decide (t' ≤ 0)) ∧ PartZ w wr g [.int .i64 a, .int .i64 b, .int .i64 c, .int .i64 d] [.int .i64 x, .int .i64 y, .int .i64 u, .int .i64 v]) (fun _ _ i _ => 2 - (intOf i).toNat)
  case atStart => exact ⟨0, by omega, rfl, rfl, rfl, I0⟩
  case round =>
    clear I0
    obtain ⟨k, hk, rfl, rfl, rfl, I0⟩ := hrel
    have ca0 := I0.seg.c 0 rfl; have ca1 := I0.seg.c 1 rfl; have ca2 := I0.seg.c 2 rfl; have ca3 := I0.seg.c 3 rfl; have calt := I0.seg.lt
    rcases (by omega : k = 0 ∨ k = 1 ∨ k = 2) with rfl | rfl | rfl
    · have e1 := I0.row.c 0 rfl; have e2 := I0.row.c 1 rfl
      have r1 : ∀ b c : Bool, (if (0 : Nat) = 0 then false else if (0 : Nat) = 1 then b else c) = false := fun _ _ => rfl
      rw [r1, r1]
      clear r1
      go_wp2_with fail
      refine (T1 _).mono ?_
      rintro e w1 ⟨rfl, hB⟩
      replace I0 := (I0.alloc _).step hB
      clear ca0 ca1 ca2 ca3 calt e1 e2 hB T1 T2
      go_wp2
      all_goals go_roundw
      all_goals first | exact ⟨1, by omega, rfl, rfl, rfl, I0⟩ | simp [intOf]
    · have e1 := I0.row.c 2 rfl; have e2 := I0.row.c 3 rfl
      have r1 : ∀ b c : Bool, (if (1 : Nat) = 0 then false else if (1 : Nat) = 1 then b else c) = b := fun _ _ => rfl
      rw [r1, r1]
      clear r1
      obtain ⟨L, hL⟩ : ∃ L, decide (0 ≤ t) = L := ⟨_, rfl⟩
      obtain ⟨R, hR⟩ : ∃ R, decide (t ≤ 0) = R := ⟨_, rfl⟩
      rw [hL, hR]
      clear hL hR
      go_wp2_with fail
      refine (T2 _).mono ?_
      rintro e w1 ⟨rfl, hB⟩
      replace I0 := (I0.alloc _).step hB
      clear ca0 ca1 ca2 ca3 calt e1 e2 hB T1 T2
      cases L <;> cases R
      all_goals go_wp2
      all_goals go_roundw
      all_goals first | exact ⟨2, by omega, rfl, rfl, rfl, I0⟩ | simp [intOf]
    · have r1 : ∀ b c : Bool, (if (2 : Nat) = 0 then false else if (2 : Nat) = 1 then b else c) = c := fun _ _ => rfl
      rw [r1, r1]
      clear r1
      have HP : Hid (pt2 t t' = ((decide (0 ≤ t) || decide (0 ≤ t')) && (decide (t ≤ 0) || decide (t' ≤ 0)))) := rfl
      generalize (decide (0 ≤ t) || decide (0 ≤ t')) = L at *
      generalize (decide (t ≤ 0) || decide (t' ≤ 0)) = R at *
      clear ca0 ca1 ca2 ca3 calt T1 T2
      cases L <;> cases R
      all_goals go_wp2
      all_goals go_ret
      all_goals exact ⟨by rw [HP.out]; rfl, I0.below⟩
end Go.Proofs.Ytibbjjlapglndaa

/- Where two segments of one line meet: the program's walk. -/
namespace Go.Proofs.Ytibbjjlapglndaa
open Go.RowKit
theorem eqSp (x y u v : Int) (w : World) : (Op.equalIn 10000 54 (Sp x y) (Sp u v)).run Try.prog w = .ok (decide (x = u) && decide (y = v)) w := by
  have u3 := Try.underlying2
  have a3 := Try.isAgg2
  have z3 := Try.sizeOf2
  rw [show (10000 : Nat) = 9999 + 1 from rfl, Op.equalIn]
  simp only [Sem.run_bind, run_underlying Try.underlying54, Result.andThen_ok]
  go_simp
  by_cases h1 : x = u
  · by_cases h2 : y = v
    · simp [h1, h2]
    · simp [h1, h2]
  · simp [h1]
theorem pointOfI (x y : Int) (hx : In1 x) (hy : In1 y) (w : World) : Calls Try.prog 73 #[Sp x y] w (VP (.agg #[.int .u64 (ww3 x), .int .u64 (ww2 x), .int .u64 (ww1 x), .int .u64 (ww0 x), .int .u64 (ww3 y), .int .u64 (ww2 y), .int .u64 (ww1 y), .int .u64 (ww0 y), .int .u64 (ww3 1), .int .u64 (ww2 1), .int .u64 (ww1 1), .int .u64 (ww0 1)]) w) := implPointOf_any x y (by omega) (by omega) (by omega) (by omega) w
/-- Where two right segments of one line meet. -/
def alongV (a b c d p q u v : Int) : Value :=
  if turnZ a b c d p q ≠ 0 ∨ lessI (if lessI u v c d = true then u else c) (if lessI u v c d = true then v else d) (if lessI a b p q = true then p else a) (if lessI a b p q = true then q else b) = true then .tuple #[.int .i64 0, .agg #[.int .u64 0, .int .u64 0, .int .u64 0, .int .u64 0, .int .u64 0, .int .u64 0, .int .u64 0, .int .u64 0, .int .u64 0, .int .u64 0, .int .u64 0, .int .u64 0], .agg #[.int .u64 0, .int .u64 0, .int .u64 0, .int .u64 0, .int .u64 0, .int .u64 0, .int .u64 0, .int .u64 0, .int .u64 0, .int .u64 0, .int .u64 0, .int .u64 0]]
  else if (if lessI a b p q = true then p else a) = (if lessI u v c d = true then u else c) ∧ (if lessI a b p q = true then q else b) = (if lessI u v c d = true then v else d) then .tuple #[.int .i64 1, .agg #[.int .u64 (ww3 (if lessI a b p q = true then p else a)), .int .u64 (ww2 (if lessI a b p q = true then p else a)), .int .u64 (ww1 (if lessI a b p q = true then p else a)), .int .u64 (ww0 (if lessI a b p q = true then p else a)), .int .u64 (ww3 (if lessI a b p q = true then q else b)), .int .u64 (ww2 (if lessI a b p q = true then q else b)), .int .u64 (ww1 (if lessI a b p q = true then q else b)), .int .u64 (ww0 (if lessI a b p q = true then q else b)), .int .u64 (ww3 1), .int .u64 (ww2 1), .int .u64 (ww1 1), .int .u64 (ww0 1)], .agg #[.int .u64 0, .int .u64 0, .int .u64 0, .int .u64 0, .int .u64 0, .int .u64 0, .int .u64 0, .int .u64 0, .int .u64 0, .int .u64 0, .int .u64 0, .int .u64 0]]
  else .tuple #[.int .i64 2, .agg #[.int .u64 (ww3 (if lessI a b p q = true then p else a)), .int .u64 (ww2 (if lessI a b p q = true then p else a)), .int .u64 (ww1 (if lessI a b p q = true then p else a)), .int .u64 (ww0 (if lessI a b p q = true then p else a)), .int .u64 (ww3 (if lessI a b p q = true then q else b)), .int .u64 (ww2 (if lessI a b p q = true then q else b)), .int .u64 (ww1 (if lessI a b p q = true then q else b)), .int .u64 (ww0 (if lessI a b p q = true then q else b)), .int .u64 (ww3 1), .int .u64 (ww2 1), .int .u64 (ww1 1), .int .u64 (ww0 1)], .agg #[.int .u64 (ww3 (if lessI u v c d = true then u else c)), .int .u64 (ww2 (if lessI u v c d = true then u else c)), .int .u64 (ww1 (if lessI u v c d = true then u else c)), .int .u64 (ww0 (if lessI u v c d = true then u else c)), .int .u64 (ww3 (if lessI u v c d = true then v else d)), .int .u64 (ww2 (if lessI u v c d = true then v else d)), .int .u64 (ww1 (if lessI u v c d = true then v else d)), .int .u64 (ww0 (if lessI u v c d = true then v else d)), .int .u64 (ww3 1), .int .u64 (ww2 1), .int .u64 (ww1 1), .int .u64 (ww0 1)]]
/-- How the four arguments and the two ends lie. -/
def AlS (w W : World) (gF gL : Nat) (a b c d p q u v fx fy lx ly : Int) : Prop := Blk W w.heap.size [.int .i64 a, .int .i64 b, .int .i64 c, .int .i64 d] ∧ Blk W (w.heap.size + 1) [.int .i64 p, .int .i64 q, .int .i64 u, .int .i64 v] ∧ Blk W (w.heap.size + 1 + 1) [.int .u64 0, .int .u64 0, .int .u64 0, .int .u64 0, .int .u64 0, .int .u64 0, .int .u64 0, .int .u64 0, .int .u64 0, .int .u64 0, .int .u64 0, .int .u64 0] ∧ Blk W (w.heap.size + 1 + 1 + 1) [.int .u64 0, .int .u64 0, .int .u64 0, .int .u64 0, .int .u64 0, .int .u64 0, .int .u64 0, .int .u64 0, .int .u64 0, .int .u64 0, .int .u64 0, .int .u64 0] ∧ Blk W gF [.int .i64 fx, .int .i64 fy] ∧ Blk W gL [.int .i64 lx, .int .i64 ly] ∧ Below w.heap.size w W
theorem CutG.drew {w wx : World} {vss : List (List Value)} {us vs : List Value} {p q : Value} (h : CutG w wx vss us vs p q) : CutG w wx.drew vss us vs p q := by
  obtain ⟨g, g', h1, h2, h3, h4, h5, T, G, G'⟩ := h
  exact ⟨g, g', h1, h2, h3, h4, h5, T.drew, G.drew, G'.drew⟩
theorem al_cells {x y u v : Int} {W : World} {gF gL : Nat} (BF : Blk W gF [.int .i64 x, .int .i64 y]) (BL : Blk W gL [.int .i64 u, .int .i64 v]) : (fun w' => w'.cell? ⟨gF, 0, none⟩ = some (.int .i64 x) ∧ w'.cell? ⟨gF, 1, none⟩ = some (.int .i64 y) ∧ w'.cell? ⟨gL, 0, none⟩ = some (.int .i64 u) ∧ w'.cell? ⟨gL, 1, none⟩ = some (.int .i64 v)) W := ⟨BF.c 0 rfl, BF.c 1 rfl, BL.c 0 rfl, BL.c 1 rfl⟩
theorem ml_cells {a b c d p q u v : Int} {w W : World} (T0 : ArgsB w W [[.int .i64 a, .int .i64 b, .int .i64 c, .int .i64 d], [.int .i64 p, .int .i64 q, .int .i64 u, .int .i64 v], [.int .u64 0, .int .u64 0, .int .u64 0, .int .u64 0, .int .u64 0, .int .u64 0, .int .u64 0, .int .u64 0, .int .u64 0, .int .u64 0, .int .u64 0, .int .u64 0], [.int .u64 0, .int .u64 0, .int .u64 0, .int .u64 0, .int .u64 0, .int .u64 0, .int .u64 0, .int .u64 0, .int .u64 0, .int .u64 0, .int .u64 0, .int .u64 0]]) : (fun w' => w'.cell? ⟨w.heap.size, 0, none⟩ = some (.int .i64 a) ∧ w'.cell? ⟨w.heap.size, 1, none⟩ = some (.int .i64 b) ∧ w'.cell? ⟨w.heap.size, 2, none⟩ = some (.int .i64 c) ∧ w'.cell? ⟨w.heap.size, 3, none⟩ = some (.int .i64 d) ∧ w'.cell? ⟨w.heap.size + 1, 0, none⟩ = some (.int .i64 p) ∧ w'.cell? ⟨w.heap.size + 1, 1, none⟩ = some (.int .i64 q) ∧ w'.cell? ⟨w.heap.size + 1, 2, none⟩ = some (.int .i64 u) ∧ w'.cell? ⟨w.heap.size + 1, 3, none⟩ = some (.int .i64 v)) W := ⟨(T0.b 0 rfl).c 0 rfl, (T0.b 0 rfl).c 1 rfl, (T0.b 0 rfl).c 2 rfl, (T0.b 0 rfl).c 3 rfl, (T0.b 1 rfl).c 0 rfl, (T0.b 1 rfl).c 1 rfl, (T0.b 1 rfl).c 2 rfl, (T0.b 1 rfl).c 3 rfl⟩
set_option maxRecDepth 100000 in
set_option maxHeartbeats 8000000 in
theorem meetAlong_det (a b c d p q u v : Int) (ha : In1 a) (hb : In1 b) (hc : In1 c) (hd : In1 d) (hp : In1 p) (hq : In1 q) (hu : In1 u) (hv : In1 v) (w : World) : Calls Try.prog 64 #[Sg a b c d, Sg p q u v] w (VP (alongV a b c d p q u v) w) := by
  have TT := turnToZ_det a b c d p q ha hb hc hd hp hq
  have T0 : ArgsB w ((((w.alloc (.cells #[.int .i64 a, .int .i64 b, .int .i64 c, .int .i64 d] 63)).alloc (.cells #[.int .i64 p, .int .i64 q, .int .i64 u, .int .i64 v] 63)).alloc (.cells #[.int .u64 0, .int .u64 0, .int .u64 0, .int .u64 0, .int .u64 0, .int .u64 0, .int .u64 0, .int .u64 0, .int .u64 0, .int .u64 0, .int .u64 0, .int .u64 0] 86)).alloc (.cells #[.int .u64 0, .int .u64 0, .int .u64 0, .int .u64 0, .int .u64 0, .int .u64 0, .int .u64 0, .int .u64 0, .int .u64 0, .int .u64 0, .int .u64 0, .int .u64 0] 86)) [[.int .i64 a, .int .i64 b, .int .i64 c, .int .i64 d], [.int .i64 p, .int .i64 q, .int .i64 u, .int .i64 v], [.int .u64 0, .int .u64 0, .int .u64 0, .int .u64 0, .int .u64 0, .int .u64 0, .int .u64 0, .int .u64 0, .int .u64 0, .int .u64 0, .int .u64 0, .int .u64 0], [.int .u64 0, .int .u64 0, .int .u64 0, .int .u64 0, .int .u64 0, .int .u64 0, .int .u64 0, .int .u64 0, .int .u64 0, .int .u64 0, .int .u64 0, .int .u64 0]] := ar4 _ _ _ _ _ _ _ _ w
  go_enter Try.func64, Try.ntmps64
  go_upto_region 1 with fail
  generalize ((((w.alloc (.cells #[.int .i64 a, .int .i64 b, .int .i64 c, .int .i64 d] 63)).alloc (.cells #[.int .i64 p, .int .i64 q, .int .i64 u, .int .i64 v] 63)).alloc (.cells #[.int .u64 0, .int .u64 0, .int .u64 0, .int .u64 0, .int .u64 0, .int .u64 0, .int .u64 0, .int .u64 0, .int .u64 0, .int .u64 0, .int .u64 0, .int .u64 0] 86)).alloc (.cells #[.int .u64 0, .int .u64 0, .int .u64 0, .int .u64 0, .int .u64 0, .int .u64 0, .int .u64 0, .int .u64 0, .int .u64 0, .int .u64 0, .int .u64 0, .int .u64 0] 86)) = W at *
  have hl0 : w.heap.size + ([[.int .i64 a, .int .i64 b, .int .i64 c, .int .i64 d], [.int .i64 p, .int .i64 q, .int .i64 u, .int .i64 v], [.int .u64 0, .int .u64 0, .int .u64 0, .int .u64 0, .int .u64 0, .int .u64 0, .int .u64 0, .int .u64 0, .int .u64 0, .int .u64 0, .int .u64 0, .int .u64 0], [.int .u64 0, .int .u64 0, .int .u64 0, .int .u64 0, .int .u64 0, .int .u64 0, .int .u64 0, .int .u64 0, .int .u64 0, .int .u64 0, .int .u64 0, .int .u64 0]] : List (List Value)).length ≤ W.heap.size := (T0.b 3 rfl).lt
  have hl1 : w.heap.size + ([[.int .i64 a, .int .i64 b, .int .i64 c, .int .i64 d], [.int .i64 p, .int .i64 q, .int .i64 u, .int .i64 v], [.int .u64 0, .int .u64 0, .int .u64 0, .int .u64 0, .int .u64 0, .int .u64 0, .int .u64 0, .int .u64 0, .int .u64 0, .int .u64 0, .int .u64 0, .int .u64 0], [.int .u64 0, .int .u64 0, .int .u64 0, .int .u64 0, .int .u64 0, .int .u64 0, .int .u64 0, .int .u64 0, .int .u64 0, .int .u64 0, .int .u64 0, .int .u64 0]] : List (List Value)).length ≤ W.drew.heap.size := hl0
  go_cut [7, 8] (fun p' q' wx => CutG w wx [[.int .i64 a, .int .i64 b, .int .i64 c, .int .i64 d], [.int .i64 p, .int .i64 q, .int .i64 u, .int .i64 v], [.int .u64 0, .int .u64 0, .int .u64 0, .int .u64 0, .int .u64 0, .int .u64 0, .int .u64 0, .int .u64 0, .int .u64 0, .int .u64 0, .int .u64 0, .int .u64 0], [.int .u64 0, .int .u64 0, .int .u64 0, .int .u64 0, .int .u64 0, .int .u64 0, .int .u64 0, .int .u64 0, .int .u64 0, .int .u64 0, .int .u64 0, .int .u64 0]] [.int .i64 a, .int .i64 b] [.int .i64 c, .int .i64 d] p' q')
  case first =>
    go_region_held3 (fun w' => w'.cell? ⟨w.heap.size, 0, none⟩ = some (.int .i64 a) ∧ w'.cell? ⟨w.heap.size, 1, none⟩ = some (.int .i64 b) ∧ w'.cell? ⟨w.heap.size, 2, none⟩ = some (.int .i64 c) ∧ w'.cell? ⟨w.heap.size, 3, none⟩ = some (.int .i64 d) ∧ w'.cell? ⟨w.heap.size + 1, 0, none⟩ = some (.int .i64 p) ∧ w'.cell? ⟨w.heap.size + 1, 1, none⟩ = some (.int .i64 q) ∧ w'.cell? ⟨w.heap.size + 1, 2, none⟩ = some (.int .i64 u) ∧ w'.cell? ⟨w.heap.size + 1, 3, none⟩ = some (.int .i64 v)) ((refine ml_cells ?_ <;> repeat (first | (with_reducible exact T0) | (with_reducible refine ArgsB.drew ?_) | (with_reducible refine ArgsB.alloc ?_ _) | (with_reducible refine ArgsB.set2 ?_ (by simp; omega) _ _))))
      (first | fail)
    all_goals go_wp2_with fail
    all_goals go_meet
    all_goals first | (with_reducible exact cutG_nn T0 hl0) | (with_reducible exact cutG_nn' T0 hl0) | (with_reducible exact (cutG_nn T0 hl0).drew) | (with_reducible exact (cutG_nn' T0 hl0).drew) | (with_reducible exact cutG_nn T0.drew hl1) | (with_reducible exact cutG_nn' T0.drew hl1)
  case rest =>
    clear T0 hl0 hl1
    obtain ⟨gF, gL, hp', hq', hne, hgF, hgL, T0, BF, BL⟩ := hcut
    subst hp'; subst hq'
    simp only [List.length_cons, List.length_nil] at hgF hgL
    have BS : Blk _ w.heap.size _ := T0.b 0 rfl; have BT : Blk _ (w.heap.size + 1) _ := T0.b 1 rfl; have BP : Blk _ (w.heap.size + 1 + 1) _ := T0.b 2 rfl; have BQ : Blk _ (w.heap.size + 1 + 1 + 1) _ := T0.b 3 rfl; have HB := T0.below
    clear T0
    obtain ⟨fx, hfx⟩ : ∃ t, (if lessI a b p q = true then p else a) = t := ⟨_, rfl⟩
    obtain ⟨fy, hfy⟩ : ∃ t, (if lessI a b p q = true then q else b) = t := ⟨_, rfl⟩
    obtain ⟨lx, hlx⟩ : ∃ t, (if lessI u v c d = true then u else c) = t := ⟨_, rfl⟩
    obtain ⟨ly, hly⟩ : ∃ t, (if lessI u v c d = true then v else d) = t := ⟨_, rfl⟩
    have ifx : In1 fx := by rw [← hfx]; split <;> assumption
    have ify : In1 fy := by rw [← hfy]; split <;> assumption
    have ilx : In1 lx := by rw [← hlx]; split <;> assumption
    have ily : In1 ly := by rw [← hly]; split <;> assumption
    have HFX : Hid ((if lessI a b p q = true then p else a) = fx) := hfx
    have HFY : Hid ((if lessI a b p q = true then q else b) = fy) := hfy
    have HLX : Hid ((if lessI u v c d = true then u else c) = lx) := hlx
    have HLY : Hid ((if lessI u v c d = true then v else d) = ly) := hly
    clear hfx hfy hlx hly
    go_upto_region 2 with fail
    go_cut [16] (fun z' wx => z' = .bool (lessI a b p q) ∧ AlS w wx gF gL a b c d p q u v a b c d)
    case first =>
      obtain ⟨sc0, sc1, sc2, sc3⟩ := BS.cs4; have sl := BS.lt; obtain ⟨tc0, tc1, tc2, tc3⟩ := BT.cs4; have tl := BT.lt; obtain ⟨fc0, ff0, fc1, ff1⟩ := BF.cf2; have fl := BF.lt; obtain ⟨lc0, lf0, lc1, lf1⟩ := BL.cf2; have ll := BL.lt
      go_wp2_with fail
      refine (isAhead_any a b p q _ rfl _).mono ?_
      rintro e w11 ⟨rfl, hB⟩
      go_wp2_with fail
      go_meet
      exact ⟨rfl, BS.step hB, BT.step hB, BP.step hB, BQ.step hB, BF.step hB, BL.step hB, HB.trans (hB.mono HB.size)⟩
    case rest =>
      clear BS BT BP BQ BF BL HB
      obtain ⟨hq', BS, BT, BP, BQ, BF, BL, HB⟩ := hcut
      subst hq'
      generalize wc = w11c at *
      rename_i hk
      refine hk _ _ ?_
      go_cut [] (fun wx => AlS w wx gF gL a b c d p q u v fx fy c d)
      case first =>
        by_cases h1 : lessI a b p q = true
        · rw [h1]
          have e1 : fx = p := by rw [← HFX.out, if_pos h1]
          have e2 : fy = q := by rw [← HFY.out, if_pos h1]
          clear h1
          obtain ⟨sc0, sc1, sc2, sc3⟩ := BS.cs4; have sl := BS.lt; obtain ⟨tc0, tc1, tc2, tc3⟩ := BT.cs4; have tl := BT.lt; obtain ⟨fc0, ff0, fc1, ff1⟩ := BF.cf2; have fl := BF.lt; obtain ⟨lc0, lf0, lc1, lf1⟩ := BL.cf2; have ll := BL.lt
          go_wp2_with fail
          go_meet
          rw [e1, e2]
          exact ⟨BS.set2 (by omega), BT.set2 (by omega), BP.set2 (by omega), BQ.set2 (by omega), BF.stored2 _ _, BL.set2 (by omega), Below.setCell (Below.setCell HB (by show _ ≤ gF; omega) _) (by show _ ≤ gF; omega) _⟩
        · have h1' := Bool.eq_false_iff.2 h1
          have e1 : fx = a := by rw [← HFX.out, if_neg h1]
          have e2 : fy = b := by rw [← HFY.out, if_neg h1]
          rw [h1']
          clear h1 h1'
          go_wp2_with fail
          go_meet
          rw [e1, e2]
          exact ⟨BS, BT, BP, BQ, BF, BL, HB⟩
      case rest =>
        clear BS BT BP BQ BF BL HB
        obtain ⟨BS, BT, BP, BQ, BF, BL, HB⟩ := hcut
        generalize wc = w11d at *
        go_upto_region 4 with fail
        go_cut [22] (fun z' wx => z' = .bool (lessI u v c d) ∧ AlS w wx gF gL a b c d p q u v fx fy c d)
        case first =>
          obtain ⟨sc0, sc1, sc2, sc3⟩ := BS.cs4; have sl := BS.lt; obtain ⟨tc0, tc1, tc2, tc3⟩ := BT.cs4; have tl := BT.lt; obtain ⟨fc0, ff0, fc1, ff1⟩ := BF.cf2; have fl := BF.lt; obtain ⟨lc0, lf0, lc1, lf1⟩ := BL.cf2; have ll := BL.lt
          go_wp2_with fail
          refine (isAhead_any u v c d _ rfl _).mono ?_
          rintro e w12 ⟨rfl, hB⟩
          go_wp2_with fail
          go_meet
          exact ⟨rfl, BS.step hB, BT.step hB, BP.step hB, BQ.step hB, BF.step hB, BL.step hB, HB.trans (hB.mono HB.size)⟩
        case rest =>
          clear BS BT BP BQ BF BL HB
          obtain ⟨hq', BS, BT, BP, BQ, BF, BL, HB⟩ := hcut
          subst hq'
          generalize wc = w12c at *
          rename_i hk
          refine hk _ _ ?_
          go_cut [] (fun wx => AlS w wx gF gL a b c d p q u v fx fy lx ly)
          case first =>
            by_cases h1 : lessI u v c d = true
            · rw [h1]
              have e1 : lx = u := by rw [← HLX.out, if_pos h1]
              have e2 : ly = v := by rw [← HLY.out, if_pos h1]
              clear h1
              obtain ⟨sc0, sc1, sc2, sc3⟩ := BS.cs4; have sl := BS.lt; obtain ⟨tc0, tc1, tc2, tc3⟩ := BT.cs4; have tl := BT.lt; obtain ⟨fc0, ff0, fc1, ff1⟩ := BF.cf2; have fl := BF.lt; obtain ⟨lc0, lf0, lc1, lf1⟩ := BL.cf2; have ll := BL.lt
              go_wp2_with fail
              go_meet
              rw [e1, e2]
              exact ⟨BS.set2 (by omega), BT.set2 (by omega), BP.set2 (by omega), BQ.set2 (by omega), BF.set2 (by omega), BL.stored2 _ _, Below.setCell (Below.setCell HB (by show _ ≤ gL; omega) _) (by show _ ≤ gL; omega) _⟩
            · have h1' := Bool.eq_false_iff.2 h1
              have e1 : lx = c := by rw [← HLX.out, if_neg h1]
              have e2 : ly = d := by rw [← HLY.out, if_neg h1]
              rw [h1']
              clear h1 h1'
              go_wp2_with fail
              go_meet
              rw [e1, e2]
              exact ⟨BS, BT, BP, BQ, BF, BL, HB⟩
          case rest =>
            clear BS BT BP BQ BF BL HB
            obtain ⟨BS, BT, BP, BQ, BF, BL, HB⟩ := hcut
            generalize wc = w12d at *
            obtain ⟨sc0, sc1, sc2, sc3⟩ := BS.cs4; have sl := BS.lt; obtain ⟨tc0, tc1, tc2, tc3⟩ := BT.cs4; have tl := BT.lt; obtain ⟨fc0, ff0, fc1, ff1⟩ := BF.cf2; have fl := BF.lt; obtain ⟨lc0, lf0, lc1, lf1⟩ := BL.cf2; have ll := BL.lt
            go_wp2_with fail
            refine (TT _).mono ?_
            rintro e w16 ⟨rfl, hB⟩
            replace BS := BS.step hB
            replace BT := BT.step hB
            replace BF := BF.step hB
            replace BL := BL.step hB
            replace BP := BP.step hB
            replace BQ := BQ.step hB
            replace HB := HB.trans (hB.mono HB.size)
            clear hB sc0 sc1 sc2 sc3 sl tc0 tc1 tc2 tc3 tl fc0 ff0 fc1 ff1 fl lc0 lf0 lc1 lf1 ll
            by_cases hT : turnZ a b c d p q = 0
            · have hT' : (turnZ a b c d p q == 0) = true := by simpa using hT
              have hT2 : (turnZ a b c d p q != 0) = false := by simp [hT]
              obtain ⟨sc0, sc1, sc2, sc3⟩ := BS.cs4; have sl := BS.lt; obtain ⟨tc0, tc1, tc2, tc3⟩ := BT.cs4; have tl := BT.lt; obtain ⟨fc0, ff0, fc1, ff1⟩ := BF.cf2; have fl := BF.lt; obtain ⟨lc0, lf0, lc1, lf1⟩ := BL.cf2; have ll := BL.lt
              go_wp2_with fail
              refine (isAhead_any lx ly fx fy _ rfl _).mono ?_
              rintro e w17 ⟨rfl, hB⟩
              replace BS := BS.step hB
              replace BT := BT.step hB
              replace BF := BF.step hB
              replace BL := BL.step hB
              replace BP := BP.step hB
              replace BQ := BQ.step hB
              replace HB := HB.trans (hB.mono HB.size)
              clear hB sc0 sc1 sc2 sc3 sl tc0 tc1 tc2 tc3 tl fc0 ff0 fc1 ff1 fl lc0 lf0 lc1 lf1 ll
              by_cases hA : lessI lx ly fx fy = true
              · rw [hA]
                have HO : Hid (alongV a b c d p q u v = .tuple #[.int .i64 0, .agg #[.int .u64 0, .int .u64 0, .int .u64 0, .int .u64 0, .int .u64 0, .int .u64 0, .int .u64 0, .int .u64 0, .int .u64 0, .int .u64 0, .int .u64 0, .int .u64 0], .agg #[.int .u64 0, .int .u64 0, .int .u64 0, .int .u64 0, .int .u64 0, .int .u64 0, .int .u64 0, .int .u64 0, .int .u64 0, .int .u64 0, .int .u64 0, .int .u64 0]]) := by show _ = _; unfold alongV; rw [HFX.out, HFY.out, HLX.out, HLY.out, if_pos (Or.inr hA)]
                clear hA hT hT' hT2 TT BS BT BF BL
                obtain ⟨xc0, xf0, xc1, xf1, xc2, xf2, xc3, xf3, xc4, xf4, xc5, xf5, xc6, xf6, xc7, xf7, xc8, xf8, xc9, xf9, xc10, xf10, xc11, xf11⟩ := BP.cf12; have xl := BP.lt; obtain ⟨yc0, yf0, yc1, yf1, yc2, yf2, yc3, yf3, yc4, yf4, yc5, yf5, yc6, yf6, yc7, yf7, yc8, yf8, yc9, yf9, yc10, yf10, yc11, yf11⟩ := BQ.cf12; have yl := BQ.lt
                go_wp2
                have F0 : Blk ((((((((((((((((((((((((w17.setCell ⟨(w.heap.size + 1 + 1), 0, none⟩ (.int .u64 0)).setCell ⟨(w.heap.size + 1 + 1), 1, none⟩ (.int .u64 0)).setCell ⟨(w.heap.size + 1 + 1), 2, none⟩ (.int .u64 0)).setCell ⟨(w.heap.size + 1 + 1), 3, none⟩ (.int .u64 0)).setCell ⟨(w.heap.size + 1 + 1), 4, none⟩ (.int .u64 0)).setCell ⟨(w.heap.size + 1 + 1), 5, none⟩ (.int .u64 0)).setCell ⟨(w.heap.size + 1 + 1), 6, none⟩ (.int .u64 0)).setCell ⟨(w.heap.size + 1 + 1), 7, none⟩ (.int .u64 0)).setCell ⟨(w.heap.size + 1 + 1), 8, none⟩ (.int .u64 0)).setCell ⟨(w.heap.size + 1 + 1), 9, none⟩ (.int .u64 0)).setCell ⟨(w.heap.size + 1 + 1), 10, none⟩ (.int .u64 0)).setCell ⟨(w.heap.size + 1 + 1), 11, none⟩ (.int .u64 0)).setCell ⟨(w.heap.size + 1 + 1 + 1), 0, none⟩ (.int .u64 0)).setCell ⟨(w.heap.size + 1 + 1 + 1), 1, none⟩ (.int .u64 0)).setCell ⟨(w.heap.size + 1 + 1 + 1), 2, none⟩ (.int .u64 0)).setCell ⟨(w.heap.size + 1 + 1 + 1), 3, none⟩ (.int .u64 0)).setCell ⟨(w.heap.size + 1 + 1 + 1), 4, none⟩ (.int .u64 0)).setCell ⟨(w.heap.size + 1 + 1 + 1), 5, none⟩ (.int .u64 0)).setCell ⟨(w.heap.size + 1 + 1 + 1), 6, none⟩ (.int .u64 0)).setCell ⟨(w.heap.size + 1 + 1 + 1), 7, none⟩ (.int .u64 0)).setCell ⟨(w.heap.size + 1 + 1 + 1), 8, none⟩ (.int .u64 0)).setCell ⟨(w.heap.size + 1 + 1 + 1), 9, none⟩ (.int .u64 0)).setCell ⟨(w.heap.size + 1 + 1 + 1), 10, none⟩ (.int .u64 0)).setCell ⟨(w.heap.size + 1 + 1 + 1), 11, none⟩ (.int .u64 0)) (w.heap.size + 1 + 1) [.int .u64 0, .int .u64 0, .int .u64 0, .int .u64 0, .int .u64 0, .int .u64 0, .int .u64 0, .int .u64 0, .int .u64 0, .int .u64 0, .int .u64 0, .int .u64 0] := (BP.stored12 (.int .u64 0) (.int .u64 0) (.int .u64 0) (.int .u64 0) (.int .u64 0) (.int .u64 0) (.int .u64 0) (.int .u64 0) (.int .u64 0) (.int .u64 0) (.int .u64 0) (.int .u64 0)).set12 (by omega)
                have F1 : Blk ((((((((((((((((((((((((w17.setCell ⟨(w.heap.size + 1 + 1), 0, none⟩ (.int .u64 0)).setCell ⟨(w.heap.size + 1 + 1), 1, none⟩ (.int .u64 0)).setCell ⟨(w.heap.size + 1 + 1), 2, none⟩ (.int .u64 0)).setCell ⟨(w.heap.size + 1 + 1), 3, none⟩ (.int .u64 0)).setCell ⟨(w.heap.size + 1 + 1), 4, none⟩ (.int .u64 0)).setCell ⟨(w.heap.size + 1 + 1), 5, none⟩ (.int .u64 0)).setCell ⟨(w.heap.size + 1 + 1), 6, none⟩ (.int .u64 0)).setCell ⟨(w.heap.size + 1 + 1), 7, none⟩ (.int .u64 0)).setCell ⟨(w.heap.size + 1 + 1), 8, none⟩ (.int .u64 0)).setCell ⟨(w.heap.size + 1 + 1), 9, none⟩ (.int .u64 0)).setCell ⟨(w.heap.size + 1 + 1), 10, none⟩ (.int .u64 0)).setCell ⟨(w.heap.size + 1 + 1), 11, none⟩ (.int .u64 0)).setCell ⟨(w.heap.size + 1 + 1 + 1), 0, none⟩ (.int .u64 0)).setCell ⟨(w.heap.size + 1 + 1 + 1), 1, none⟩ (.int .u64 0)).setCell ⟨(w.heap.size + 1 + 1 + 1), 2, none⟩ (.int .u64 0)).setCell ⟨(w.heap.size + 1 + 1 + 1), 3, none⟩ (.int .u64 0)).setCell ⟨(w.heap.size + 1 + 1 + 1), 4, none⟩ (.int .u64 0)).setCell ⟨(w.heap.size + 1 + 1 + 1), 5, none⟩ (.int .u64 0)).setCell ⟨(w.heap.size + 1 + 1 + 1), 6, none⟩ (.int .u64 0)).setCell ⟨(w.heap.size + 1 + 1 + 1), 7, none⟩ (.int .u64 0)).setCell ⟨(w.heap.size + 1 + 1 + 1), 8, none⟩ (.int .u64 0)).setCell ⟨(w.heap.size + 1 + 1 + 1), 9, none⟩ (.int .u64 0)).setCell ⟨(w.heap.size + 1 + 1 + 1), 10, none⟩ (.int .u64 0)).setCell ⟨(w.heap.size + 1 + 1 + 1), 11, none⟩ (.int .u64 0)) (w.heap.size + 1 + 1 + 1) [.int .u64 0, .int .u64 0, .int .u64 0, .int .u64 0, .int .u64 0, .int .u64 0, .int .u64 0, .int .u64 0, .int .u64 0, .int .u64 0, .int .u64 0, .int .u64 0] := (BQ.set12 (by omega)).stored12 (.int .u64 0) (.int .u64 0) (.int .u64 0) (.int .u64 0) (.int .u64 0) (.int .u64 0) (.int .u64 0) (.int .u64 0) (.int .u64 0) (.int .u64 0) (.int .u64 0) (.int .u64 0)
                have HBF : Below w.heap.size w ((((((((((((((((((((((((w17.setCell ⟨(w.heap.size + 1 + 1), 0, none⟩ (.int .u64 0)).setCell ⟨(w.heap.size + 1 + 1), 1, none⟩ (.int .u64 0)).setCell ⟨(w.heap.size + 1 + 1), 2, none⟩ (.int .u64 0)).setCell ⟨(w.heap.size + 1 + 1), 3, none⟩ (.int .u64 0)).setCell ⟨(w.heap.size + 1 + 1), 4, none⟩ (.int .u64 0)).setCell ⟨(w.heap.size + 1 + 1), 5, none⟩ (.int .u64 0)).setCell ⟨(w.heap.size + 1 + 1), 6, none⟩ (.int .u64 0)).setCell ⟨(w.heap.size + 1 + 1), 7, none⟩ (.int .u64 0)).setCell ⟨(w.heap.size + 1 + 1), 8, none⟩ (.int .u64 0)).setCell ⟨(w.heap.size + 1 + 1), 9, none⟩ (.int .u64 0)).setCell ⟨(w.heap.size + 1 + 1), 10, none⟩ (.int .u64 0)).setCell ⟨(w.heap.size + 1 + 1), 11, none⟩ (.int .u64 0)).setCell ⟨(w.heap.size + 1 + 1 + 1), 0, none⟩ (.int .u64 0)).setCell ⟨(w.heap.size + 1 + 1 + 1), 1, none⟩ (.int .u64 0)).setCell ⟨(w.heap.size + 1 + 1 + 1), 2, none⟩ (.int .u64 0)).setCell ⟨(w.heap.size + 1 + 1 + 1), 3, none⟩ (.int .u64 0)).setCell ⟨(w.heap.size + 1 + 1 + 1), 4, none⟩ (.int .u64 0)).setCell ⟨(w.heap.size + 1 + 1 + 1), 5, none⟩ (.int .u64 0)).setCell ⟨(w.heap.size + 1 + 1 + 1), 6, none⟩ (.int .u64 0)).setCell ⟨(w.heap.size + 1 + 1 + 1), 7, none⟩ (.int .u64 0)).setCell ⟨(w.heap.size + 1 + 1 + 1), 8, none⟩ (.int .u64 0)).setCell ⟨(w.heap.size + 1 + 1 + 1), 9, none⟩ (.int .u64 0)).setCell ⟨(w.heap.size + 1 + 1 + 1), 10, none⟩ (.int .u64 0)).setCell ⟨(w.heap.size + 1 + 1 + 1), 11, none⟩ (.int .u64 0)) := Below.set12 (by omega) (Below.set12 (by omega) HB)
                clear BP BQ HB xc0 xf0 xc1 xf1 xc2 xf2 xc3 xf3 xc4 xf4 xc5 xf5 xc6 xf6 xc7 xf7 xc8 xf8 xc9 xf9 xc10 xf10 xc11 xf11 xl yc0 yf0 yc1 yf1 yc2 yf2 yc3 yf3 yc4 yf4 yc5 yf5 yc6 yf6 yc7 yf7 yc8 yf8 yc9 yf9 yc10 yf10 yc11 yf11 yl
                generalize ((((((((((((((((((((((((w17.setCell ⟨(w.heap.size + 1 + 1), 0, none⟩ (.int .u64 0)).setCell ⟨(w.heap.size + 1 + 1), 1, none⟩ (.int .u64 0)).setCell ⟨(w.heap.size + 1 + 1), 2, none⟩ (.int .u64 0)).setCell ⟨(w.heap.size + 1 + 1), 3, none⟩ (.int .u64 0)).setCell ⟨(w.heap.size + 1 + 1), 4, none⟩ (.int .u64 0)).setCell ⟨(w.heap.size + 1 + 1), 5, none⟩ (.int .u64 0)).setCell ⟨(w.heap.size + 1 + 1), 6, none⟩ (.int .u64 0)).setCell ⟨(w.heap.size + 1 + 1), 7, none⟩ (.int .u64 0)).setCell ⟨(w.heap.size + 1 + 1), 8, none⟩ (.int .u64 0)).setCell ⟨(w.heap.size + 1 + 1), 9, none⟩ (.int .u64 0)).setCell ⟨(w.heap.size + 1 + 1), 10, none⟩ (.int .u64 0)).setCell ⟨(w.heap.size + 1 + 1), 11, none⟩ (.int .u64 0)).setCell ⟨(w.heap.size + 1 + 1 + 1), 0, none⟩ (.int .u64 0)).setCell ⟨(w.heap.size + 1 + 1 + 1), 1, none⟩ (.int .u64 0)).setCell ⟨(w.heap.size + 1 + 1 + 1), 2, none⟩ (.int .u64 0)).setCell ⟨(w.heap.size + 1 + 1 + 1), 3, none⟩ (.int .u64 0)).setCell ⟨(w.heap.size + 1 + 1 + 1), 4, none⟩ (.int .u64 0)).setCell ⟨(w.heap.size + 1 + 1 + 1), 5, none⟩ (.int .u64 0)).setCell ⟨(w.heap.size + 1 + 1 + 1), 6, none⟩ (.int .u64 0)).setCell ⟨(w.heap.size + 1 + 1 + 1), 7, none⟩ (.int .u64 0)).setCell ⟨(w.heap.size + 1 + 1 + 1), 8, none⟩ (.int .u64 0)).setCell ⟨(w.heap.size + 1 + 1 + 1), 9, none⟩ (.int .u64 0)).setCell ⟨(w.heap.size + 1 + 1 + 1), 10, none⟩ (.int .u64 0)).setCell ⟨(w.heap.size + 1 + 1 + 1), 11, none⟩ (.int .u64 0)) = WF at *
                have m0 := F0.c 0 rfl; have n0 := F1.c 0 rfl; have m1 := F0.c 1 rfl; have n1 := F1.c 1 rfl; have m2 := F0.c 2 rfl; have n2 := F1.c 2 rfl; have m3 := F0.c 3 rfl; have n3 := F1.c 3 rfl; have m4 := F0.c 4 rfl; have n4 := F1.c 4 rfl; have m5 := F0.c 5 rfl; have n5 := F1.c 5 rfl; have m6 := F0.c 6 rfl; have n6 := F1.c 6 rfl; have m7 := F0.c 7 rfl; have n7 := F1.c 7 rfl; have m8 := F0.c 8 rfl; have n8 := F1.c 8 rfl; have m9 := F0.c 9 rfl; have n9 := F1.c 9 rfl; have m10 := F0.c 10 rfl; have n10 := F1.c 10 rfl; have m11 := F0.c 11 rfl; have n11 := F1.c 11 rfl
                refine bodyPost_ret (v := .tuple #[.int .i64 0, .agg #[.int .u64 0, .int .u64 0, .int .u64 0, .int .u64 0, .int .u64 0, .int .u64 0, .int .u64 0, .int .u64 0, .int .u64 0, .int .u64 0, .int .u64 0, .int .u64 0], .agg #[.int .u64 0, .int .u64 0, .int .u64 0, .int .u64 0, .int .u64 0, .int .u64 0, .int .u64 0, .int .u64 0, .int .u64 0, .int .u64 0, .int .u64 0, .int .u64 0]]) (by simp [results, Try.results64, go_sem, m0, n0, m1, n1, m2, n2, m3, n3, m4, n4, m5, n5, m6, n6, m7, n7, m8, n8, m9, n9, m10, n10, m11, n11]) rfl ?_
                exact ⟨by rw [HO.out], by first | exact HBF | exact HBF.drew⟩
              · have hA' := Bool.eq_false_iff.2 hA
                rw [hA']
                have EQ := eqSp fx fy lx ly
                by_cases hE : fx = lx ∧ fy = ly
                · have HO : Hid (alongV a b c d p q u v = .tuple #[.int .i64 1, .agg #[.int .u64 (ww3 fx), .int .u64 (ww2 fx), .int .u64 (ww1 fx), .int .u64 (ww0 fx), .int .u64 (ww3 fy), .int .u64 (ww2 fy), .int .u64 (ww1 fy), .int .u64 (ww0 fy), .int .u64 (ww3 1), .int .u64 (ww2 1), .int .u64 (ww1 1), .int .u64 (ww0 1)], .agg #[.int .u64 0, .int .u64 0, .int .u64 0, .int .u64 0, .int .u64 0, .int .u64 0, .int .u64 0, .int .u64 0, .int .u64 0, .int .u64 0, .int .u64 0, .int .u64 0]]) := by show _ = _; unfold alongV; rw [HFX.out, HFY.out, HLX.out, HLY.out, if_neg (by rw [hA']; rintro (h | h); exact h hT; cases h), if_pos hE]
                  rw [show (decide (fx = lx) && decide (fy = ly)) = true by rw [hE.1, hE.2]; simp] at EQ
                  have PO := pointOfI fx fy (by omega) (by omega)
                  clear hA hA' hT hT' hT2 TT hE
                  obtain ⟨sc0, sc1, sc2, sc3⟩ := BS.cs4; have sl := BS.lt; obtain ⟨tc0, tc1, tc2, tc3⟩ := BT.cs4; have tl := BT.lt; obtain ⟨fc0, ff0, fc1, ff1⟩ := BF.cf2; have fl := BF.lt; obtain ⟨lc0, lf0, lc1, lf1⟩ := BL.cf2; have ll := BL.lt
                  go_wp2_with fail
                  refine (PO _).mono ?_
                  rintro e w18 ⟨rfl, hB⟩
                  replace BS := BS.step hB
                  replace BT := BT.step hB
                  replace BF := BF.step hB
                  replace BL := BL.step hB
                  replace BP := BP.step hB
                  replace BQ := BQ.step hB
                  replace HB := HB.trans (hB.mono HB.size)
                  clear hB sc0 sc1 sc2 sc3 sl tc0 tc1 tc2 tc3 tl fc0 ff0 fc1 ff1 fl lc0 lf0 lc1 lf1 ll
                  clear BS BT BF BL PO EQ
                  obtain ⟨xc0, xf0, xc1, xf1, xc2, xf2, xc3, xf3, xc4, xf4, xc5, xf5, xc6, xf6, xc7, xf7, xc8, xf8, xc9, xf9, xc10, xf10, xc11, xf11⟩ := BP.cf12; have xl := BP.lt; obtain ⟨yc0, yf0, yc1, yf1, yc2, yf2, yc3, yf3, yc4, yf4, yc5, yf5, yc6, yf6, yc7, yf7, yc8, yf8, yc9, yf9, yc10, yf10, yc11, yf11⟩ := BQ.cf12; have yl := BQ.lt
                  go_wp2
                  have F0 : Blk ((((((((((((((((((((((((w18.setCell ⟨(w.heap.size + 1 + 1), 0, none⟩ (.int .u64 (ww3 fx))).setCell ⟨(w.heap.size + 1 + 1), 1, none⟩ (.int .u64 (ww2 fx))).setCell ⟨(w.heap.size + 1 + 1), 2, none⟩ (.int .u64 (ww1 fx))).setCell ⟨(w.heap.size + 1 + 1), 3, none⟩ (.int .u64 (ww0 fx))).setCell ⟨(w.heap.size + 1 + 1), 4, none⟩ (.int .u64 (ww3 fy))).setCell ⟨(w.heap.size + 1 + 1), 5, none⟩ (.int .u64 (ww2 fy))).setCell ⟨(w.heap.size + 1 + 1), 6, none⟩ (.int .u64 (ww1 fy))).setCell ⟨(w.heap.size + 1 + 1), 7, none⟩ (.int .u64 (ww0 fy))).setCell ⟨(w.heap.size + 1 + 1), 8, none⟩ (.int .u64 (ww3 1))).setCell ⟨(w.heap.size + 1 + 1), 9, none⟩ (.int .u64 (ww2 1))).setCell ⟨(w.heap.size + 1 + 1), 10, none⟩ (.int .u64 (ww1 1))).setCell ⟨(w.heap.size + 1 + 1), 11, none⟩ (.int .u64 (ww0 1))).setCell ⟨(w.heap.size + 1 + 1 + 1), 0, none⟩ (.int .u64 0)).setCell ⟨(w.heap.size + 1 + 1 + 1), 1, none⟩ (.int .u64 0)).setCell ⟨(w.heap.size + 1 + 1 + 1), 2, none⟩ (.int .u64 0)).setCell ⟨(w.heap.size + 1 + 1 + 1), 3, none⟩ (.int .u64 0)).setCell ⟨(w.heap.size + 1 + 1 + 1), 4, none⟩ (.int .u64 0)).setCell ⟨(w.heap.size + 1 + 1 + 1), 5, none⟩ (.int .u64 0)).setCell ⟨(w.heap.size + 1 + 1 + 1), 6, none⟩ (.int .u64 0)).setCell ⟨(w.heap.size + 1 + 1 + 1), 7, none⟩ (.int .u64 0)).setCell ⟨(w.heap.size + 1 + 1 + 1), 8, none⟩ (.int .u64 0)).setCell ⟨(w.heap.size + 1 + 1 + 1), 9, none⟩ (.int .u64 0)).setCell ⟨(w.heap.size + 1 + 1 + 1), 10, none⟩ (.int .u64 0)).setCell ⟨(w.heap.size + 1 + 1 + 1), 11, none⟩ (.int .u64 0)) (w.heap.size + 1 + 1) [.int .u64 (ww3 fx), .int .u64 (ww2 fx), .int .u64 (ww1 fx), .int .u64 (ww0 fx), .int .u64 (ww3 fy), .int .u64 (ww2 fy), .int .u64 (ww1 fy), .int .u64 (ww0 fy), .int .u64 (ww3 1), .int .u64 (ww2 1), .int .u64 (ww1 1), .int .u64 (ww0 1)] := (BP.stored12 (.int .u64 (ww3 fx)) (.int .u64 (ww2 fx)) (.int .u64 (ww1 fx)) (.int .u64 (ww0 fx)) (.int .u64 (ww3 fy)) (.int .u64 (ww2 fy)) (.int .u64 (ww1 fy)) (.int .u64 (ww0 fy)) (.int .u64 (ww3 1)) (.int .u64 (ww2 1)) (.int .u64 (ww1 1)) (.int .u64 (ww0 1))).set12 (by omega)
                  have F1 : Blk ((((((((((((((((((((((((w18.setCell ⟨(w.heap.size + 1 + 1), 0, none⟩ (.int .u64 (ww3 fx))).setCell ⟨(w.heap.size + 1 + 1), 1, none⟩ (.int .u64 (ww2 fx))).setCell ⟨(w.heap.size + 1 + 1), 2, none⟩ (.int .u64 (ww1 fx))).setCell ⟨(w.heap.size + 1 + 1), 3, none⟩ (.int .u64 (ww0 fx))).setCell ⟨(w.heap.size + 1 + 1), 4, none⟩ (.int .u64 (ww3 fy))).setCell ⟨(w.heap.size + 1 + 1), 5, none⟩ (.int .u64 (ww2 fy))).setCell ⟨(w.heap.size + 1 + 1), 6, none⟩ (.int .u64 (ww1 fy))).setCell ⟨(w.heap.size + 1 + 1), 7, none⟩ (.int .u64 (ww0 fy))).setCell ⟨(w.heap.size + 1 + 1), 8, none⟩ (.int .u64 (ww3 1))).setCell ⟨(w.heap.size + 1 + 1), 9, none⟩ (.int .u64 (ww2 1))).setCell ⟨(w.heap.size + 1 + 1), 10, none⟩ (.int .u64 (ww1 1))).setCell ⟨(w.heap.size + 1 + 1), 11, none⟩ (.int .u64 (ww0 1))).setCell ⟨(w.heap.size + 1 + 1 + 1), 0, none⟩ (.int .u64 0)).setCell ⟨(w.heap.size + 1 + 1 + 1), 1, none⟩ (.int .u64 0)).setCell ⟨(w.heap.size + 1 + 1 + 1), 2, none⟩ (.int .u64 0)).setCell ⟨(w.heap.size + 1 + 1 + 1), 3, none⟩ (.int .u64 0)).setCell ⟨(w.heap.size + 1 + 1 + 1), 4, none⟩ (.int .u64 0)).setCell ⟨(w.heap.size + 1 + 1 + 1), 5, none⟩ (.int .u64 0)).setCell ⟨(w.heap.size + 1 + 1 + 1), 6, none⟩ (.int .u64 0)).setCell ⟨(w.heap.size + 1 + 1 + 1), 7, none⟩ (.int .u64 0)).setCell ⟨(w.heap.size + 1 + 1 + 1), 8, none⟩ (.int .u64 0)).setCell ⟨(w.heap.size + 1 + 1 + 1), 9, none⟩ (.int .u64 0)).setCell ⟨(w.heap.size + 1 + 1 + 1), 10, none⟩ (.int .u64 0)).setCell ⟨(w.heap.size + 1 + 1 + 1), 11, none⟩ (.int .u64 0)) (w.heap.size + 1 + 1 + 1) [.int .u64 0, .int .u64 0, .int .u64 0, .int .u64 0, .int .u64 0, .int .u64 0, .int .u64 0, .int .u64 0, .int .u64 0, .int .u64 0, .int .u64 0, .int .u64 0] := (BQ.set12 (by omega)).stored12 (.int .u64 0) (.int .u64 0) (.int .u64 0) (.int .u64 0) (.int .u64 0) (.int .u64 0) (.int .u64 0) (.int .u64 0) (.int .u64 0) (.int .u64 0) (.int .u64 0) (.int .u64 0)
                  have HBF : Below w.heap.size w ((((((((((((((((((((((((w18.setCell ⟨(w.heap.size + 1 + 1), 0, none⟩ (.int .u64 (ww3 fx))).setCell ⟨(w.heap.size + 1 + 1), 1, none⟩ (.int .u64 (ww2 fx))).setCell ⟨(w.heap.size + 1 + 1), 2, none⟩ (.int .u64 (ww1 fx))).setCell ⟨(w.heap.size + 1 + 1), 3, none⟩ (.int .u64 (ww0 fx))).setCell ⟨(w.heap.size + 1 + 1), 4, none⟩ (.int .u64 (ww3 fy))).setCell ⟨(w.heap.size + 1 + 1), 5, none⟩ (.int .u64 (ww2 fy))).setCell ⟨(w.heap.size + 1 + 1), 6, none⟩ (.int .u64 (ww1 fy))).setCell ⟨(w.heap.size + 1 + 1), 7, none⟩ (.int .u64 (ww0 fy))).setCell ⟨(w.heap.size + 1 + 1), 8, none⟩ (.int .u64 (ww3 1))).setCell ⟨(w.heap.size + 1 + 1), 9, none⟩ (.int .u64 (ww2 1))).setCell ⟨(w.heap.size + 1 + 1), 10, none⟩ (.int .u64 (ww1 1))).setCell ⟨(w.heap.size + 1 + 1), 11, none⟩ (.int .u64 (ww0 1))).setCell ⟨(w.heap.size + 1 + 1 + 1), 0, none⟩ (.int .u64 0)).setCell ⟨(w.heap.size + 1 + 1 + 1), 1, none⟩ (.int .u64 0)).setCell ⟨(w.heap.size + 1 + 1 + 1), 2, none⟩ (.int .u64 0)).setCell ⟨(w.heap.size + 1 + 1 + 1), 3, none⟩ (.int .u64 0)).setCell ⟨(w.heap.size + 1 + 1 + 1), 4, none⟩ (.int .u64 0)).setCell ⟨(w.heap.size + 1 + 1 + 1), 5, none⟩ (.int .u64 0)).setCell ⟨(w.heap.size + 1 + 1 + 1), 6, none⟩ (.int .u64 0)).setCell ⟨(w.heap.size + 1 + 1 + 1), 7, none⟩ (.int .u64 0)).setCell ⟨(w.heap.size + 1 + 1 + 1), 8, none⟩ (.int .u64 0)).setCell ⟨(w.heap.size + 1 + 1 + 1), 9, none⟩ (.int .u64 0)).setCell ⟨(w.heap.size + 1 + 1 + 1), 10, none⟩ (.int .u64 0)).setCell ⟨(w.heap.size + 1 + 1 + 1), 11, none⟩ (.int .u64 0)) := Below.set12 (by omega) (Below.set12 (by omega) HB)
                  clear BP BQ HB xc0 xf0 xc1 xf1 xc2 xf2 xc3 xf3 xc4 xf4 xc5 xf5 xc6 xf6 xc7 xf7 xc8 xf8 xc9 xf9 xc10 xf10 xc11 xf11 xl yc0 yf0 yc1 yf1 yc2 yf2 yc3 yf3 yc4 yf4 yc5 yf5 yc6 yf6 yc7 yf7 yc8 yf8 yc9 yf9 yc10 yf10 yc11 yf11 yl
                  generalize ((((((((((((((((((((((((w18.setCell ⟨(w.heap.size + 1 + 1), 0, none⟩ (.int .u64 (ww3 fx))).setCell ⟨(w.heap.size + 1 + 1), 1, none⟩ (.int .u64 (ww2 fx))).setCell ⟨(w.heap.size + 1 + 1), 2, none⟩ (.int .u64 (ww1 fx))).setCell ⟨(w.heap.size + 1 + 1), 3, none⟩ (.int .u64 (ww0 fx))).setCell ⟨(w.heap.size + 1 + 1), 4, none⟩ (.int .u64 (ww3 fy))).setCell ⟨(w.heap.size + 1 + 1), 5, none⟩ (.int .u64 (ww2 fy))).setCell ⟨(w.heap.size + 1 + 1), 6, none⟩ (.int .u64 (ww1 fy))).setCell ⟨(w.heap.size + 1 + 1), 7, none⟩ (.int .u64 (ww0 fy))).setCell ⟨(w.heap.size + 1 + 1), 8, none⟩ (.int .u64 (ww3 1))).setCell ⟨(w.heap.size + 1 + 1), 9, none⟩ (.int .u64 (ww2 1))).setCell ⟨(w.heap.size + 1 + 1), 10, none⟩ (.int .u64 (ww1 1))).setCell ⟨(w.heap.size + 1 + 1), 11, none⟩ (.int .u64 (ww0 1))).setCell ⟨(w.heap.size + 1 + 1 + 1), 0, none⟩ (.int .u64 0)).setCell ⟨(w.heap.size + 1 + 1 + 1), 1, none⟩ (.int .u64 0)).setCell ⟨(w.heap.size + 1 + 1 + 1), 2, none⟩ (.int .u64 0)).setCell ⟨(w.heap.size + 1 + 1 + 1), 3, none⟩ (.int .u64 0)).setCell ⟨(w.heap.size + 1 + 1 + 1), 4, none⟩ (.int .u64 0)).setCell ⟨(w.heap.size + 1 + 1 + 1), 5, none⟩ (.int .u64 0)).setCell ⟨(w.heap.size + 1 + 1 + 1), 6, none⟩ (.int .u64 0)).setCell ⟨(w.heap.size + 1 + 1 + 1), 7, none⟩ (.int .u64 0)).setCell ⟨(w.heap.size + 1 + 1 + 1), 8, none⟩ (.int .u64 0)).setCell ⟨(w.heap.size + 1 + 1 + 1), 9, none⟩ (.int .u64 0)).setCell ⟨(w.heap.size + 1 + 1 + 1), 10, none⟩ (.int .u64 0)).setCell ⟨(w.heap.size + 1 + 1 + 1), 11, none⟩ (.int .u64 0)) = WF at *
                  have m0 := F0.c 0 rfl; have n0 := F1.c 0 rfl; have m1 := F0.c 1 rfl; have n1 := F1.c 1 rfl; have m2 := F0.c 2 rfl; have n2 := F1.c 2 rfl; have m3 := F0.c 3 rfl; have n3 := F1.c 3 rfl; have m4 := F0.c 4 rfl; have n4 := F1.c 4 rfl; have m5 := F0.c 5 rfl; have n5 := F1.c 5 rfl; have m6 := F0.c 6 rfl; have n6 := F1.c 6 rfl; have m7 := F0.c 7 rfl; have n7 := F1.c 7 rfl; have m8 := F0.c 8 rfl; have n8 := F1.c 8 rfl; have m9 := F0.c 9 rfl; have n9 := F1.c 9 rfl; have m10 := F0.c 10 rfl; have n10 := F1.c 10 rfl; have m11 := F0.c 11 rfl; have n11 := F1.c 11 rfl
                  refine bodyPost_ret (v := .tuple #[.int .i64 1, .agg #[.int .u64 (ww3 fx), .int .u64 (ww2 fx), .int .u64 (ww1 fx), .int .u64 (ww0 fx), .int .u64 (ww3 fy), .int .u64 (ww2 fy), .int .u64 (ww1 fy), .int .u64 (ww0 fy), .int .u64 (ww3 1), .int .u64 (ww2 1), .int .u64 (ww1 1), .int .u64 (ww0 1)], .agg #[.int .u64 0, .int .u64 0, .int .u64 0, .int .u64 0, .int .u64 0, .int .u64 0, .int .u64 0, .int .u64 0, .int .u64 0, .int .u64 0, .int .u64 0, .int .u64 0]]) (by simp [results, Try.results64, go_sem, m0, n0, m1, n1, m2, n2, m3, n3, m4, n4, m5, n5, m6, n6, m7, n7, m8, n8, m9, n9, m10, n10, m11, n11]) rfl ?_
                  exact ⟨by rw [HO.out], by first | exact HBF | exact HBF.drew⟩
                · have HO : Hid (alongV a b c d p q u v = .tuple #[.int .i64 2, .agg #[.int .u64 (ww3 fx), .int .u64 (ww2 fx), .int .u64 (ww1 fx), .int .u64 (ww0 fx), .int .u64 (ww3 fy), .int .u64 (ww2 fy), .int .u64 (ww1 fy), .int .u64 (ww0 fy), .int .u64 (ww3 1), .int .u64 (ww2 1), .int .u64 (ww1 1), .int .u64 (ww0 1)], .agg #[.int .u64 (ww3 lx), .int .u64 (ww2 lx), .int .u64 (ww1 lx), .int .u64 (ww0 lx), .int .u64 (ww3 ly), .int .u64 (ww2 ly), .int .u64 (ww1 ly), .int .u64 (ww0 ly), .int .u64 (ww3 1), .int .u64 (ww2 1), .int .u64 (ww1 1), .int .u64 (ww0 1)]]) := by show _ = _; unfold alongV; rw [HFX.out, HFY.out, HLX.out, HLY.out, if_neg (by rw [hA']; rintro (h | h); exact h hT; cases h), if_neg hE]
                  rw [show (decide (fx = lx) && decide (fy = ly)) = false by rw [← Bool.decide_and]; exact decide_eq_false hE] at EQ
                  have PO := pointOfI fx fy (by omega) (by omega)
                  have PL := pointOfI lx ly (by omega) (by omega)
                  clear hA hA' hT hT' hT2 TT hE
                  clear BS BT
                  have tok1 : True := trivial
                  obtain ⟨fc0, ff0, fc1, ff1⟩ := BF.cf2; have fl := BF.lt; obtain ⟨lc0, lf0, lc1, lf1⟩ := BL.cf2; have ll := BL.lt
                  go_upto_region 10 with fail
                  clear fc0 ff0 fc1 ff1 fl lc0 lf0 lc1 lf1 ll
                  go_region_held3 (fun w' => w'.cell? ⟨gF, 0, none⟩ = some (.int .i64 fx) ∧ w'.cell? ⟨gF, 1, none⟩ = some (.int .i64 fy) ∧ w'.cell? ⟨gL, 0, none⟩ = some (.int .i64 lx) ∧ w'.cell? ⟨gL, 1, none⟩ = some (.int .i64 ly)) ((refine al_cells ?_ ?_ <;> repeat (first | (with_reducible exact BF) | (with_reducible exact BL) | (with_reducible refine Blk.drew ?_) | (with_reducible refine Blk.set12 ?_ (by omega)))))
                    (first
                      | (go_at_call 73; have _t := tok1; refine (PO _).mono ?_; rintro e w19 ⟨rfl, hB⟩; (first | (replace BF := BF.step hB; replace BL := BL.step hB; replace BP := BP.step hB; replace BQ := BQ.step hB; replace HB := HB.trans (hB.mono HB.size)) | (replace BF := BF.drew.step hB; replace BL := BL.drew.step hB; replace BP := BP.drew.step hB; replace BQ := BQ.drew.step hB; replace HB := HB.drew.trans (hB.mono HB.drew.size))); clear hB; clear tok1 _t)
                      | (go_at_call 73; refine (PL _).mono ?_; rintro e w20 ⟨rfl, hB⟩; (first | (replace BF := BF.step hB; replace BL := BL.step hB; replace BP := BP.step hB; replace BQ := BQ.step hB; replace HB := HB.trans (hB.mono HB.size)) | (replace BF := BF.drew.step hB; replace BL := BL.drew.step hB; replace BP := BP.drew.step hB; replace BQ := BQ.drew.step hB; replace HB := HB.drew.trans (hB.mono HB.drew.size))); clear hB; obtain ⟨xc0, xf0, xc1, xf1, xc2, xf2, xc3, xf3, xc4, xf4, xc5, xf5, xc6, xf6, xc7, xf7, xc8, xf8, xc9, xf9, xc10, xf10, xc11, xf11⟩ := BP.cf12; have xl := BP.lt; obtain ⟨yc0, yf0, yc1, yf1, yc2, yf2, yc3, yf3, yc4, yf4, yc5, yf5, yc6, yf6, yc7, yf7, yc8, yf8, yc9, yf9, yc10, yf10, yc11, yf11⟩ := BQ.cf12; have yl := BQ.lt))
                  all_goals clear BF BL PO PL EQ
                  all_goals (
                    go_wp2
                    have F0 : Blk ((((((((((((((((((((((((w20.setCell ⟨(w.heap.size + 1 + 1), 0, none⟩ (.int .u64 (ww3 fx))).setCell ⟨(w.heap.size + 1 + 1), 1, none⟩ (.int .u64 (ww2 fx))).setCell ⟨(w.heap.size + 1 + 1), 2, none⟩ (.int .u64 (ww1 fx))).setCell ⟨(w.heap.size + 1 + 1), 3, none⟩ (.int .u64 (ww0 fx))).setCell ⟨(w.heap.size + 1 + 1), 4, none⟩ (.int .u64 (ww3 fy))).setCell ⟨(w.heap.size + 1 + 1), 5, none⟩ (.int .u64 (ww2 fy))).setCell ⟨(w.heap.size + 1 + 1), 6, none⟩ (.int .u64 (ww1 fy))).setCell ⟨(w.heap.size + 1 + 1), 7, none⟩ (.int .u64 (ww0 fy))).setCell ⟨(w.heap.size + 1 + 1), 8, none⟩ (.int .u64 (ww3 1))).setCell ⟨(w.heap.size + 1 + 1), 9, none⟩ (.int .u64 (ww2 1))).setCell ⟨(w.heap.size + 1 + 1), 10, none⟩ (.int .u64 (ww1 1))).setCell ⟨(w.heap.size + 1 + 1), 11, none⟩ (.int .u64 (ww0 1))).setCell ⟨(w.heap.size + 1 + 1 + 1), 0, none⟩ (.int .u64 (ww3 lx))).setCell ⟨(w.heap.size + 1 + 1 + 1), 1, none⟩ (.int .u64 (ww2 lx))).setCell ⟨(w.heap.size + 1 + 1 + 1), 2, none⟩ (.int .u64 (ww1 lx))).setCell ⟨(w.heap.size + 1 + 1 + 1), 3, none⟩ (.int .u64 (ww0 lx))).setCell ⟨(w.heap.size + 1 + 1 + 1), 4, none⟩ (.int .u64 (ww3 ly))).setCell ⟨(w.heap.size + 1 + 1 + 1), 5, none⟩ (.int .u64 (ww2 ly))).setCell ⟨(w.heap.size + 1 + 1 + 1), 6, none⟩ (.int .u64 (ww1 ly))).setCell ⟨(w.heap.size + 1 + 1 + 1), 7, none⟩ (.int .u64 (ww0 ly))).setCell ⟨(w.heap.size + 1 + 1 + 1), 8, none⟩ (.int .u64 (ww3 1))).setCell ⟨(w.heap.size + 1 + 1 + 1), 9, none⟩ (.int .u64 (ww2 1))).setCell ⟨(w.heap.size + 1 + 1 + 1), 10, none⟩ (.int .u64 (ww1 1))).setCell ⟨(w.heap.size + 1 + 1 + 1), 11, none⟩ (.int .u64 (ww0 1))) (w.heap.size + 1 + 1) [.int .u64 (ww3 fx), .int .u64 (ww2 fx), .int .u64 (ww1 fx), .int .u64 (ww0 fx), .int .u64 (ww3 fy), .int .u64 (ww2 fy), .int .u64 (ww1 fy), .int .u64 (ww0 fy), .int .u64 (ww3 1), .int .u64 (ww2 1), .int .u64 (ww1 1), .int .u64 (ww0 1)] := (BP.stored12 (.int .u64 (ww3 fx)) (.int .u64 (ww2 fx)) (.int .u64 (ww1 fx)) (.int .u64 (ww0 fx)) (.int .u64 (ww3 fy)) (.int .u64 (ww2 fy)) (.int .u64 (ww1 fy)) (.int .u64 (ww0 fy)) (.int .u64 (ww3 1)) (.int .u64 (ww2 1)) (.int .u64 (ww1 1)) (.int .u64 (ww0 1))).set12 (by omega)
                    have F1 : Blk ((((((((((((((((((((((((w20.setCell ⟨(w.heap.size + 1 + 1), 0, none⟩ (.int .u64 (ww3 fx))).setCell ⟨(w.heap.size + 1 + 1), 1, none⟩ (.int .u64 (ww2 fx))).setCell ⟨(w.heap.size + 1 + 1), 2, none⟩ (.int .u64 (ww1 fx))).setCell ⟨(w.heap.size + 1 + 1), 3, none⟩ (.int .u64 (ww0 fx))).setCell ⟨(w.heap.size + 1 + 1), 4, none⟩ (.int .u64 (ww3 fy))).setCell ⟨(w.heap.size + 1 + 1), 5, none⟩ (.int .u64 (ww2 fy))).setCell ⟨(w.heap.size + 1 + 1), 6, none⟩ (.int .u64 (ww1 fy))).setCell ⟨(w.heap.size + 1 + 1), 7, none⟩ (.int .u64 (ww0 fy))).setCell ⟨(w.heap.size + 1 + 1), 8, none⟩ (.int .u64 (ww3 1))).setCell ⟨(w.heap.size + 1 + 1), 9, none⟩ (.int .u64 (ww2 1))).setCell ⟨(w.heap.size + 1 + 1), 10, none⟩ (.int .u64 (ww1 1))).setCell ⟨(w.heap.size + 1 + 1), 11, none⟩ (.int .u64 (ww0 1))).setCell ⟨(w.heap.size + 1 + 1 + 1), 0, none⟩ (.int .u64 (ww3 lx))).setCell ⟨(w.heap.size + 1 + 1 + 1), 1, none⟩ (.int .u64 (ww2 lx))).setCell ⟨(w.heap.size + 1 + 1 + 1), 2, none⟩ (.int .u64 (ww1 lx))).setCell ⟨(w.heap.size + 1 + 1 + 1), 3, none⟩ (.int .u64 (ww0 lx))).setCell ⟨(w.heap.size + 1 + 1 + 1), 4, none⟩ (.int .u64 (ww3 ly))).setCell ⟨(w.heap.size + 1 + 1 + 1), 5, none⟩ (.int .u64 (ww2 ly))).setCell ⟨(w.heap.size + 1 + 1 + 1), 6, none⟩ (.int .u64 (ww1 ly))).setCell ⟨(w.heap.size + 1 + 1 + 1), 7, none⟩ (.int .u64 (ww0 ly))).setCell ⟨(w.heap.size + 1 + 1 + 1), 8, none⟩ (.int .u64 (ww3 1))).setCell ⟨(w.heap.size + 1 + 1 + 1), 9, none⟩ (.int .u64 (ww2 1))).setCell ⟨(w.heap.size + 1 + 1 + 1), 10, none⟩ (.int .u64 (ww1 1))).setCell ⟨(w.heap.size + 1 + 1 + 1), 11, none⟩ (.int .u64 (ww0 1))) (w.heap.size + 1 + 1 + 1) [.int .u64 (ww3 lx), .int .u64 (ww2 lx), .int .u64 (ww1 lx), .int .u64 (ww0 lx), .int .u64 (ww3 ly), .int .u64 (ww2 ly), .int .u64 (ww1 ly), .int .u64 (ww0 ly), .int .u64 (ww3 1), .int .u64 (ww2 1), .int .u64 (ww1 1), .int .u64 (ww0 1)] := (BQ.set12 (by omega)).stored12 (.int .u64 (ww3 lx)) (.int .u64 (ww2 lx)) (.int .u64 (ww1 lx)) (.int .u64 (ww0 lx)) (.int .u64 (ww3 ly)) (.int .u64 (ww2 ly)) (.int .u64 (ww1 ly)) (.int .u64 (ww0 ly)) (.int .u64 (ww3 1)) (.int .u64 (ww2 1)) (.int .u64 (ww1 1)) (.int .u64 (ww0 1))
                    have HBF : Below w.heap.size w ((((((((((((((((((((((((w20.setCell ⟨(w.heap.size + 1 + 1), 0, none⟩ (.int .u64 (ww3 fx))).setCell ⟨(w.heap.size + 1 + 1), 1, none⟩ (.int .u64 (ww2 fx))).setCell ⟨(w.heap.size + 1 + 1), 2, none⟩ (.int .u64 (ww1 fx))).setCell ⟨(w.heap.size + 1 + 1), 3, none⟩ (.int .u64 (ww0 fx))).setCell ⟨(w.heap.size + 1 + 1), 4, none⟩ (.int .u64 (ww3 fy))).setCell ⟨(w.heap.size + 1 + 1), 5, none⟩ (.int .u64 (ww2 fy))).setCell ⟨(w.heap.size + 1 + 1), 6, none⟩ (.int .u64 (ww1 fy))).setCell ⟨(w.heap.size + 1 + 1), 7, none⟩ (.int .u64 (ww0 fy))).setCell ⟨(w.heap.size + 1 + 1), 8, none⟩ (.int .u64 (ww3 1))).setCell ⟨(w.heap.size + 1 + 1), 9, none⟩ (.int .u64 (ww2 1))).setCell ⟨(w.heap.size + 1 + 1), 10, none⟩ (.int .u64 (ww1 1))).setCell ⟨(w.heap.size + 1 + 1), 11, none⟩ (.int .u64 (ww0 1))).setCell ⟨(w.heap.size + 1 + 1 + 1), 0, none⟩ (.int .u64 (ww3 lx))).setCell ⟨(w.heap.size + 1 + 1 + 1), 1, none⟩ (.int .u64 (ww2 lx))).setCell ⟨(w.heap.size + 1 + 1 + 1), 2, none⟩ (.int .u64 (ww1 lx))).setCell ⟨(w.heap.size + 1 + 1 + 1), 3, none⟩ (.int .u64 (ww0 lx))).setCell ⟨(w.heap.size + 1 + 1 + 1), 4, none⟩ (.int .u64 (ww3 ly))).setCell ⟨(w.heap.size + 1 + 1 + 1), 5, none⟩ (.int .u64 (ww2 ly))).setCell ⟨(w.heap.size + 1 + 1 + 1), 6, none⟩ (.int .u64 (ww1 ly))).setCell ⟨(w.heap.size + 1 + 1 + 1), 7, none⟩ (.int .u64 (ww0 ly))).setCell ⟨(w.heap.size + 1 + 1 + 1), 8, none⟩ (.int .u64 (ww3 1))).setCell ⟨(w.heap.size + 1 + 1 + 1), 9, none⟩ (.int .u64 (ww2 1))).setCell ⟨(w.heap.size + 1 + 1 + 1), 10, none⟩ (.int .u64 (ww1 1))).setCell ⟨(w.heap.size + 1 + 1 + 1), 11, none⟩ (.int .u64 (ww0 1))) := Below.set12 (by omega) (Below.set12 (by omega) HB)
                    clear BP BQ HB xc0 xf0 xc1 xf1 xc2 xf2 xc3 xf3 xc4 xf4 xc5 xf5 xc6 xf6 xc7 xf7 xc8 xf8 xc9 xf9 xc10 xf10 xc11 xf11 xl yc0 yf0 yc1 yf1 yc2 yf2 yc3 yf3 yc4 yf4 yc5 yf5 yc6 yf6 yc7 yf7 yc8 yf8 yc9 yf9 yc10 yf10 yc11 yf11 yl
                    generalize ((((((((((((((((((((((((w20.setCell ⟨(w.heap.size + 1 + 1), 0, none⟩ (.int .u64 (ww3 fx))).setCell ⟨(w.heap.size + 1 + 1), 1, none⟩ (.int .u64 (ww2 fx))).setCell ⟨(w.heap.size + 1 + 1), 2, none⟩ (.int .u64 (ww1 fx))).setCell ⟨(w.heap.size + 1 + 1), 3, none⟩ (.int .u64 (ww0 fx))).setCell ⟨(w.heap.size + 1 + 1), 4, none⟩ (.int .u64 (ww3 fy))).setCell ⟨(w.heap.size + 1 + 1), 5, none⟩ (.int .u64 (ww2 fy))).setCell ⟨(w.heap.size + 1 + 1), 6, none⟩ (.int .u64 (ww1 fy))).setCell ⟨(w.heap.size + 1 + 1), 7, none⟩ (.int .u64 (ww0 fy))).setCell ⟨(w.heap.size + 1 + 1), 8, none⟩ (.int .u64 (ww3 1))).setCell ⟨(w.heap.size + 1 + 1), 9, none⟩ (.int .u64 (ww2 1))).setCell ⟨(w.heap.size + 1 + 1), 10, none⟩ (.int .u64 (ww1 1))).setCell ⟨(w.heap.size + 1 + 1), 11, none⟩ (.int .u64 (ww0 1))).setCell ⟨(w.heap.size + 1 + 1 + 1), 0, none⟩ (.int .u64 (ww3 lx))).setCell ⟨(w.heap.size + 1 + 1 + 1), 1, none⟩ (.int .u64 (ww2 lx))).setCell ⟨(w.heap.size + 1 + 1 + 1), 2, none⟩ (.int .u64 (ww1 lx))).setCell ⟨(w.heap.size + 1 + 1 + 1), 3, none⟩ (.int .u64 (ww0 lx))).setCell ⟨(w.heap.size + 1 + 1 + 1), 4, none⟩ (.int .u64 (ww3 ly))).setCell ⟨(w.heap.size + 1 + 1 + 1), 5, none⟩ (.int .u64 (ww2 ly))).setCell ⟨(w.heap.size + 1 + 1 + 1), 6, none⟩ (.int .u64 (ww1 ly))).setCell ⟨(w.heap.size + 1 + 1 + 1), 7, none⟩ (.int .u64 (ww0 ly))).setCell ⟨(w.heap.size + 1 + 1 + 1), 8, none⟩ (.int .u64 (ww3 1))).setCell ⟨(w.heap.size + 1 + 1 + 1), 9, none⟩ (.int .u64 (ww2 1))).setCell ⟨(w.heap.size + 1 + 1 + 1), 10, none⟩ (.int .u64 (ww1 1))).setCell ⟨(w.heap.size + 1 + 1 + 1), 11, none⟩ (.int .u64 (ww0 1))) = WF at *
                    have m0 := F0.c 0 rfl; have n0 := F1.c 0 rfl; have m1 := F0.c 1 rfl; have n1 := F1.c 1 rfl; have m2 := F0.c 2 rfl; have n2 := F1.c 2 rfl; have m3 := F0.c 3 rfl; have n3 := F1.c 3 rfl; have m4 := F0.c 4 rfl; have n4 := F1.c 4 rfl; have m5 := F0.c 5 rfl; have n5 := F1.c 5 rfl; have m6 := F0.c 6 rfl; have n6 := F1.c 6 rfl; have m7 := F0.c 7 rfl; have n7 := F1.c 7 rfl; have m8 := F0.c 8 rfl; have n8 := F1.c 8 rfl; have m9 := F0.c 9 rfl; have n9 := F1.c 9 rfl; have m10 := F0.c 10 rfl; have n10 := F1.c 10 rfl; have m11 := F0.c 11 rfl; have n11 := F1.c 11 rfl
                    refine bodyPost_ret (v := .tuple #[.int .i64 2, .agg #[.int .u64 (ww3 fx), .int .u64 (ww2 fx), .int .u64 (ww1 fx), .int .u64 (ww0 fx), .int .u64 (ww3 fy), .int .u64 (ww2 fy), .int .u64 (ww1 fy), .int .u64 (ww0 fy), .int .u64 (ww3 1), .int .u64 (ww2 1), .int .u64 (ww1 1), .int .u64 (ww0 1)], .agg #[.int .u64 (ww3 lx), .int .u64 (ww2 lx), .int .u64 (ww1 lx), .int .u64 (ww0 lx), .int .u64 (ww3 ly), .int .u64 (ww2 ly), .int .u64 (ww1 ly), .int .u64 (ww0 ly), .int .u64 (ww3 1), .int .u64 (ww2 1), .int .u64 (ww1 1), .int .u64 (ww0 1)]]) (by simp [results, Try.results64, go_sem, m0, n0, m1, n1, m2, n2, m3, n3, m4, n4, m5, n5, m6, n6, m7, n7, m8, n8, m9, n9, m10, n10, m11, n11]) rfl ?_
                    exact ⟨by rw [HO.out], by first | exact HBF | exact HBF.drew⟩)
            · have hT2 : (turnZ a b c d p q != 0) = true := by simpa using hT
              have HO : Hid (alongV a b c d p q u v = .tuple #[.int .i64 0, .agg #[.int .u64 0, .int .u64 0, .int .u64 0, .int .u64 0, .int .u64 0, .int .u64 0, .int .u64 0, .int .u64 0, .int .u64 0, .int .u64 0, .int .u64 0, .int .u64 0], .agg #[.int .u64 0, .int .u64 0, .int .u64 0, .int .u64 0, .int .u64 0, .int .u64 0, .int .u64 0, .int .u64 0, .int .u64 0, .int .u64 0, .int .u64 0, .int .u64 0]]) := by show _ = _; unfold alongV; rw [if_pos (Or.inl hT)]
              clear TT BS BT BF BL
              generalize turnZ a b c d p q = tz at *
              obtain ⟨xc0, xf0, xc1, xf1, xc2, xf2, xc3, xf3, xc4, xf4, xc5, xf5, xc6, xf6, xc7, xf7, xc8, xf8, xc9, xf9, xc10, xf10, xc11, xf11⟩ := BP.cf12; have xl := BP.lt; obtain ⟨yc0, yf0, yc1, yf1, yc2, yf2, yc3, yf3, yc4, yf4, yc5, yf5, yc6, yf6, yc7, yf7, yc8, yf8, yc9, yf9, yc10, yf10, yc11, yf11⟩ := BQ.cf12; have yl := BQ.lt
              go_wp2
              have F0 : Blk ((((((((((((((((((((((((w16.setCell ⟨(w.heap.size + 1 + 1), 0, none⟩ (.int .u64 0)).setCell ⟨(w.heap.size + 1 + 1), 1, none⟩ (.int .u64 0)).setCell ⟨(w.heap.size + 1 + 1), 2, none⟩ (.int .u64 0)).setCell ⟨(w.heap.size + 1 + 1), 3, none⟩ (.int .u64 0)).setCell ⟨(w.heap.size + 1 + 1), 4, none⟩ (.int .u64 0)).setCell ⟨(w.heap.size + 1 + 1), 5, none⟩ (.int .u64 0)).setCell ⟨(w.heap.size + 1 + 1), 6, none⟩ (.int .u64 0)).setCell ⟨(w.heap.size + 1 + 1), 7, none⟩ (.int .u64 0)).setCell ⟨(w.heap.size + 1 + 1), 8, none⟩ (.int .u64 0)).setCell ⟨(w.heap.size + 1 + 1), 9, none⟩ (.int .u64 0)).setCell ⟨(w.heap.size + 1 + 1), 10, none⟩ (.int .u64 0)).setCell ⟨(w.heap.size + 1 + 1), 11, none⟩ (.int .u64 0)).setCell ⟨(w.heap.size + 1 + 1 + 1), 0, none⟩ (.int .u64 0)).setCell ⟨(w.heap.size + 1 + 1 + 1), 1, none⟩ (.int .u64 0)).setCell ⟨(w.heap.size + 1 + 1 + 1), 2, none⟩ (.int .u64 0)).setCell ⟨(w.heap.size + 1 + 1 + 1), 3, none⟩ (.int .u64 0)).setCell ⟨(w.heap.size + 1 + 1 + 1), 4, none⟩ (.int .u64 0)).setCell ⟨(w.heap.size + 1 + 1 + 1), 5, none⟩ (.int .u64 0)).setCell ⟨(w.heap.size + 1 + 1 + 1), 6, none⟩ (.int .u64 0)).setCell ⟨(w.heap.size + 1 + 1 + 1), 7, none⟩ (.int .u64 0)).setCell ⟨(w.heap.size + 1 + 1 + 1), 8, none⟩ (.int .u64 0)).setCell ⟨(w.heap.size + 1 + 1 + 1), 9, none⟩ (.int .u64 0)).setCell ⟨(w.heap.size + 1 + 1 + 1), 10, none⟩ (.int .u64 0)).setCell ⟨(w.heap.size + 1 + 1 + 1), 11, none⟩ (.int .u64 0)) (w.heap.size + 1 + 1) [.int .u64 0, .int .u64 0, .int .u64 0, .int .u64 0, .int .u64 0, .int .u64 0, .int .u64 0, .int .u64 0, .int .u64 0, .int .u64 0, .int .u64 0, .int .u64 0] := (BP.stored12 (.int .u64 0) (.int .u64 0) (.int .u64 0) (.int .u64 0) (.int .u64 0) (.int .u64 0) (.int .u64 0) (.int .u64 0) (.int .u64 0) (.int .u64 0) (.int .u64 0) (.int .u64 0)).set12 (by omega)
              have F1 : Blk ((((((((((((((((((((((((w16.setCell ⟨(w.heap.size + 1 + 1), 0, none⟩ (.int .u64 0)).setCell ⟨(w.heap.size + 1 + 1), 1, none⟩ (.int .u64 0)).setCell ⟨(w.heap.size + 1 + 1), 2, none⟩ (.int .u64 0)).setCell ⟨(w.heap.size + 1 + 1), 3, none⟩ (.int .u64 0)).setCell ⟨(w.heap.size + 1 + 1), 4, none⟩ (.int .u64 0)).setCell ⟨(w.heap.size + 1 + 1), 5, none⟩ (.int .u64 0)).setCell ⟨(w.heap.size + 1 + 1), 6, none⟩ (.int .u64 0)).setCell ⟨(w.heap.size + 1 + 1), 7, none⟩ (.int .u64 0)).setCell ⟨(w.heap.size + 1 + 1), 8, none⟩ (.int .u64 0)).setCell ⟨(w.heap.size + 1 + 1), 9, none⟩ (.int .u64 0)).setCell ⟨(w.heap.size + 1 + 1), 10, none⟩ (.int .u64 0)).setCell ⟨(w.heap.size + 1 + 1), 11, none⟩ (.int .u64 0)).setCell ⟨(w.heap.size + 1 + 1 + 1), 0, none⟩ (.int .u64 0)).setCell ⟨(w.heap.size + 1 + 1 + 1), 1, none⟩ (.int .u64 0)).setCell ⟨(w.heap.size + 1 + 1 + 1), 2, none⟩ (.int .u64 0)).setCell ⟨(w.heap.size + 1 + 1 + 1), 3, none⟩ (.int .u64 0)).setCell ⟨(w.heap.size + 1 + 1 + 1), 4, none⟩ (.int .u64 0)).setCell ⟨(w.heap.size + 1 + 1 + 1), 5, none⟩ (.int .u64 0)).setCell ⟨(w.heap.size + 1 + 1 + 1), 6, none⟩ (.int .u64 0)).setCell ⟨(w.heap.size + 1 + 1 + 1), 7, none⟩ (.int .u64 0)).setCell ⟨(w.heap.size + 1 + 1 + 1), 8, none⟩ (.int .u64 0)).setCell ⟨(w.heap.size + 1 + 1 + 1), 9, none⟩ (.int .u64 0)).setCell ⟨(w.heap.size + 1 + 1 + 1), 10, none⟩ (.int .u64 0)).setCell ⟨(w.heap.size + 1 + 1 + 1), 11, none⟩ (.int .u64 0)) (w.heap.size + 1 + 1 + 1) [.int .u64 0, .int .u64 0, .int .u64 0, .int .u64 0, .int .u64 0, .int .u64 0, .int .u64 0, .int .u64 0, .int .u64 0, .int .u64 0, .int .u64 0, .int .u64 0] := (BQ.set12 (by omega)).stored12 (.int .u64 0) (.int .u64 0) (.int .u64 0) (.int .u64 0) (.int .u64 0) (.int .u64 0) (.int .u64 0) (.int .u64 0) (.int .u64 0) (.int .u64 0) (.int .u64 0) (.int .u64 0)
              have HBF : Below w.heap.size w ((((((((((((((((((((((((w16.setCell ⟨(w.heap.size + 1 + 1), 0, none⟩ (.int .u64 0)).setCell ⟨(w.heap.size + 1 + 1), 1, none⟩ (.int .u64 0)).setCell ⟨(w.heap.size + 1 + 1), 2, none⟩ (.int .u64 0)).setCell ⟨(w.heap.size + 1 + 1), 3, none⟩ (.int .u64 0)).setCell ⟨(w.heap.size + 1 + 1), 4, none⟩ (.int .u64 0)).setCell ⟨(w.heap.size + 1 + 1), 5, none⟩ (.int .u64 0)).setCell ⟨(w.heap.size + 1 + 1), 6, none⟩ (.int .u64 0)).setCell ⟨(w.heap.size + 1 + 1), 7, none⟩ (.int .u64 0)).setCell ⟨(w.heap.size + 1 + 1), 8, none⟩ (.int .u64 0)).setCell ⟨(w.heap.size + 1 + 1), 9, none⟩ (.int .u64 0)).setCell ⟨(w.heap.size + 1 + 1), 10, none⟩ (.int .u64 0)).setCell ⟨(w.heap.size + 1 + 1), 11, none⟩ (.int .u64 0)).setCell ⟨(w.heap.size + 1 + 1 + 1), 0, none⟩ (.int .u64 0)).setCell ⟨(w.heap.size + 1 + 1 + 1), 1, none⟩ (.int .u64 0)).setCell ⟨(w.heap.size + 1 + 1 + 1), 2, none⟩ (.int .u64 0)).setCell ⟨(w.heap.size + 1 + 1 + 1), 3, none⟩ (.int .u64 0)).setCell ⟨(w.heap.size + 1 + 1 + 1), 4, none⟩ (.int .u64 0)).setCell ⟨(w.heap.size + 1 + 1 + 1), 5, none⟩ (.int .u64 0)).setCell ⟨(w.heap.size + 1 + 1 + 1), 6, none⟩ (.int .u64 0)).setCell ⟨(w.heap.size + 1 + 1 + 1), 7, none⟩ (.int .u64 0)).setCell ⟨(w.heap.size + 1 + 1 + 1), 8, none⟩ (.int .u64 0)).setCell ⟨(w.heap.size + 1 + 1 + 1), 9, none⟩ (.int .u64 0)).setCell ⟨(w.heap.size + 1 + 1 + 1), 10, none⟩ (.int .u64 0)).setCell ⟨(w.heap.size + 1 + 1 + 1), 11, none⟩ (.int .u64 0)) := Below.set12 (by omega) (Below.set12 (by omega) HB)
              clear BP BQ HB xc0 xf0 xc1 xf1 xc2 xf2 xc3 xf3 xc4 xf4 xc5 xf5 xc6 xf6 xc7 xf7 xc8 xf8 xc9 xf9 xc10 xf10 xc11 xf11 xl yc0 yf0 yc1 yf1 yc2 yf2 yc3 yf3 yc4 yf4 yc5 yf5 yc6 yf6 yc7 yf7 yc8 yf8 yc9 yf9 yc10 yf10 yc11 yf11 yl
              generalize ((((((((((((((((((((((((w16.setCell ⟨(w.heap.size + 1 + 1), 0, none⟩ (.int .u64 0)).setCell ⟨(w.heap.size + 1 + 1), 1, none⟩ (.int .u64 0)).setCell ⟨(w.heap.size + 1 + 1), 2, none⟩ (.int .u64 0)).setCell ⟨(w.heap.size + 1 + 1), 3, none⟩ (.int .u64 0)).setCell ⟨(w.heap.size + 1 + 1), 4, none⟩ (.int .u64 0)).setCell ⟨(w.heap.size + 1 + 1), 5, none⟩ (.int .u64 0)).setCell ⟨(w.heap.size + 1 + 1), 6, none⟩ (.int .u64 0)).setCell ⟨(w.heap.size + 1 + 1), 7, none⟩ (.int .u64 0)).setCell ⟨(w.heap.size + 1 + 1), 8, none⟩ (.int .u64 0)).setCell ⟨(w.heap.size + 1 + 1), 9, none⟩ (.int .u64 0)).setCell ⟨(w.heap.size + 1 + 1), 10, none⟩ (.int .u64 0)).setCell ⟨(w.heap.size + 1 + 1), 11, none⟩ (.int .u64 0)).setCell ⟨(w.heap.size + 1 + 1 + 1), 0, none⟩ (.int .u64 0)).setCell ⟨(w.heap.size + 1 + 1 + 1), 1, none⟩ (.int .u64 0)).setCell ⟨(w.heap.size + 1 + 1 + 1), 2, none⟩ (.int .u64 0)).setCell ⟨(w.heap.size + 1 + 1 + 1), 3, none⟩ (.int .u64 0)).setCell ⟨(w.heap.size + 1 + 1 + 1), 4, none⟩ (.int .u64 0)).setCell ⟨(w.heap.size + 1 + 1 + 1), 5, none⟩ (.int .u64 0)).setCell ⟨(w.heap.size + 1 + 1 + 1), 6, none⟩ (.int .u64 0)).setCell ⟨(w.heap.size + 1 + 1 + 1), 7, none⟩ (.int .u64 0)).setCell ⟨(w.heap.size + 1 + 1 + 1), 8, none⟩ (.int .u64 0)).setCell ⟨(w.heap.size + 1 + 1 + 1), 9, none⟩ (.int .u64 0)).setCell ⟨(w.heap.size + 1 + 1 + 1), 10, none⟩ (.int .u64 0)).setCell ⟨(w.heap.size + 1 + 1 + 1), 11, none⟩ (.int .u64 0)) = WF at *
              have m0 := F0.c 0 rfl; have n0 := F1.c 0 rfl; have m1 := F0.c 1 rfl; have n1 := F1.c 1 rfl; have m2 := F0.c 2 rfl; have n2 := F1.c 2 rfl; have m3 := F0.c 3 rfl; have n3 := F1.c 3 rfl; have m4 := F0.c 4 rfl; have n4 := F1.c 4 rfl; have m5 := F0.c 5 rfl; have n5 := F1.c 5 rfl; have m6 := F0.c 6 rfl; have n6 := F1.c 6 rfl; have m7 := F0.c 7 rfl; have n7 := F1.c 7 rfl; have m8 := F0.c 8 rfl; have n8 := F1.c 8 rfl; have m9 := F0.c 9 rfl; have n9 := F1.c 9 rfl; have m10 := F0.c 10 rfl; have n10 := F1.c 10 rfl; have m11 := F0.c 11 rfl; have n11 := F1.c 11 rfl
              refine bodyPost_ret (v := .tuple #[.int .i64 0, .agg #[.int .u64 0, .int .u64 0, .int .u64 0, .int .u64 0, .int .u64 0, .int .u64 0, .int .u64 0, .int .u64 0, .int .u64 0, .int .u64 0, .int .u64 0, .int .u64 0], .agg #[.int .u64 0, .int .u64 0, .int .u64 0, .int .u64 0, .int .u64 0, .int .u64 0, .int .u64 0, .int .u64 0, .int .u64 0, .int .u64 0, .int .u64 0, .int .u64 0]]) (by simp [results, Try.results64, go_sem, m0, n0, m1, n1, m2, n2, m3, n3, m4, n4, m5, n5, m6, n6, m7, n7, m8, n8, m9, n9, m10, n10, m11, n11]) rfl ?_
              exact ⟨by rw [HO.out], by first | exact HBF | exact HBF.drew⟩
end Go.Proofs.Ytibbjjlapglndaa
