/- Part 4 of the walks that the proof leans on. -/
import Derived.Test.YteakhlipmmfilaaGreatQy3
import Derived.Test.YteakhlipmmfilaaGreatQy2
namespace Go.Proofs.YteakhlipmmfilaaGreat
open Go.RowKit
abbrev In2 (x : Int) : Prop := -2000000 ≤ x ∧ x ≤ 2000000
abbrev In1 (x : Int) : Prop := -1000000 ≤ x ∧ x ≤ 1000000
theorem mul_in {p q M N : Int} (h1 : -M ≤ p) (h2 : p ≤ M) (h3 : -N ≤ q) (h4 : q ≤ N) : -(M * N) ≤ p * q ∧ p * q ≤ M * N := by
 have hM : 0 ≤ M := by omega
 have hN : 0 ≤ N := by omega
 have a1 : 0 ≤ (M - p) * (N - q) := Int.mul_nonneg (by omega) (by omega)
 have a2 : 0 ≤ (M + p) * (N + q) := Int.mul_nonneg (by omega) (by omega)
 have a3 : 0 ≤ (M - p) * (N + q) := Int.mul_nonneg (by omega) (by omega)
 have a4 : 0 ≤ (M + p) * (N - q) := Int.mul_nonneg (by omega) (by omega)
 constructor <;> grind
theorem prod2 {p q : Int} (hp : In2 p) (hq : In2 q) : -4000000000000 ≤ p * q ∧ p * q ≤ 4000000000000 := mul_in (M := 2000000) (N := 2000000) hp.1 hp.2 hq.1 hq.2
theorem minusS_det (x y u v : Int) (hx : In1 x) (hy : In1 y) (hu : In1 u) (hv : In1 v) (w : World) : Calls Tryz.prog 190 #[Sp x y, Sp u v] w (VP (Sp (x - u) (y - v)) w) := by
 obtain ⟨x1, x2⟩ := hx; obtain ⟨y1, y2⟩ := hy; obtain ⟨u1, u2⟩ := hu; obtain ⟨v1, v2⟩ := hv
 go_enter Tryz.func190, Tryz.ntmps190
 go_wp2
 refine bodyPost_ret (v := Sp (x - u) (y - v)) (by simp [results, Tryz.results190, go_sem]) rfl ?_
 exact ⟨rfl, (((Below.refl _ _).alloc (Nat.le_refl _) _).alloc (by simp) _).alloc (by simp; omega) _⟩
theorem cross_det (x y u v : Int) (hx : In2 x) (hy : In2 y) (hu : In2 u) (hv : In2 v) (w : World) : Calls Tryz.prog 191 #[Sp x y, Sp u v] w (VP (.int .i64 (x * v - y * u)) w) := by
 obtain ⟨p1, p2⟩ := prod2 hx hv; obtain ⟨q1, q2⟩ := prod2 hy hu
 clear hx hy hu hv
 go_enter Tryz.func191, Tryz.ntmps191
 go_wp2
 go_ret
 exact ⟨rfl, ((Below.refl _ _).alloc (Nat.le_refl _) _).alloc (by simp) _⟩
def CutG (w wx : World) (vss : List (List Value)) (us vs : List Value) (p q : Value) : Prop :=
 ∃ g g', p = .pointer (some ⟨g, 0, none⟩) ∧ q = .pointer (some ⟨g', 0, none⟩) ∧ g ≠ g' ∧ w.heap.size + vss.length ≤ g ∧ w.heap.size + vss.length ≤ g' ∧ ArgsB w wx vss ∧ Blk wx g us ∧ Blk wx g' vs
theorem cutG_nn {w X : World} {vss : List (List Value)} {us vs : List Value} {T T' : TypeId} (h : ArgsB w X vss) (hl : w.heap.size + vss.length ≤ X.heap.size) : CutG w ((X.alloc (.cells us.toArray T)).alloc (.cells vs.toArray T')) vss us vs (.pointer (some ⟨X.heap.size, 0, none⟩)) (.pointer (some ⟨X.heap.size + 1, 0, none⟩)) :=
 ⟨_, _, rfl, rfl, by omega, hl, by omega, (h.alloc _).alloc _, (Blk.new X us T rfl).alloc _, Blk.new _ vs T' (by simp)⟩
theorem cutG_nn' {w X : World} {vss : List (List Value)} {us vs : List Value} {T T' : TypeId} (h : ArgsB w X vss) (hl : w.heap.size + vss.length ≤ X.heap.size) : CutG w ((X.alloc (.cells vs.toArray T)).alloc (.cells us.toArray T')) vss us vs (.pointer (some ⟨X.heap.size + 1, 0, none⟩)) (.pointer (some ⟨X.heap.size, 0, none⟩)) :=
 ⟨_, _, rfl, rfl, by omega, by omega, hl, (h.alloc _).alloc _, Blk.new _ us T' (by simp), (Blk.new X vs T rfl).alloc _⟩
def turnZ (a b c d x y : Int) : Int := (c - a) * (y - b) - (d - b) * (x - a)
def sgZ (z : Int) : Int := if z < 0 then -1 else if 0 < z then 1 else 0
theorem ret_i {k : IntKind} {a b : Int} (h : b = a) : Ending.returned (.int k a) = .returned (.int k b) := by rw [h]
set_option maxRecDepth 100000 in
theorem l4TurnZ_det (a b c d x y : Int) (ha : In1 a) (hb : In1 b) (hc : In1 c) (hd : In1 d) (hx : In1 x) (hy : In1 y) (w : World) :
   Calls Tryz.prog 89 #[Sp a b, Sp c d, Sp x y] w (VP (.int .i64 (sgZ (turnZ a b c d x y))) w) := by
 have HR : turnZ a b c d x y = (c - a) * (y - b) - (d - b) * (x - a) := rfl
 obtain ⟨a1, a2⟩ := ha; obtain ⟨b1, b2⟩ := hb; obtain ⟨c1, c2⟩ := hc; obtain ⟨d1, d2⟩ := hd; obtain ⟨x1, x2⟩ := hx; obtain ⟨y1, y2⟩ := hy
 obtain ⟨p1, p2⟩ := mul_in (p := c - a) (q := y - b) (M := 2000000) (N := 2000000) (by omega) (by omega) (by omega) (by omega)
 obtain ⟨q1, q2⟩ := mul_in (p := d - b) (q := x - a) (M := 2000000) (N := 2000000) (by omega) (by omega) (by omega) (by omega)
 obtain ⟨p, hp⟩ : ∃ p, (c - a) * (y - b) = p := ⟨_, rfl⟩
 obtain ⟨q, hq⟩ : ∃ q, (d - b) * (x - a) = q := ⟨_, rfl⟩
 rw [hp] at p1 p2 HR
 rw [hq] at q1 q2 HR
 rw [HR]
 clear HR
 go_enter Tryz.func89, Tryz.ntmps89
 go_wp2
 all_goals go_ret
 all_goals exact ⟨ret_i (by unfold sgZ; split <;> (try split) <;> omega), (((Below.refl _ _).alloc (Nat.le_refl _) _).alloc (by simp) _).alloc (by simp; omega) _⟩
theorem turnZ_cells {a b c d x y : Int} {w W : World} (h : ArgsB w W [[.int .i64 a, .int .i64 b, .int .i64 c, .int .i64 d], [.int .i64 x, .int .i64 y]]) : (fun w' => w'.cell? ⟨w.heap.size, 0, none⟩ = some (.int .i64 a) ∧ w'.cell? ⟨w.heap.size, 1, none⟩ = some (.int .i64 b) ∧ w'.cell? ⟨w.heap.size, 2, none⟩ = some (.int .i64 c) ∧ w'.cell? ⟨w.heap.size, 3, none⟩ = some (.int .i64 d) ∧ w'.cell? ⟨w.heap.size + 1, 0, none⟩ = some (.int .i64 x) ∧ w'.cell? ⟨w.heap.size + 1, 1, none⟩ = some (.int .i64 y)) W :=
 ⟨(h.b 0 rfl).c 0 rfl, (h.b 0 rfl).c 1 rfl, (h.b 0 rfl).c 2 rfl, (h.b 0 rfl).c 3 rfl, (h.b 1 rfl).c 0 rfl, (h.b 1 rfl).c 1 rfl⟩
set_option maxRecDepth 100000 in
set_option maxHeartbeats 1000000 in
theorem turnToZ_det (a b c d x y : Int) (ha : In1 a) (hb : In1 b) (hc : In1 c) (hd : In1 d) (hx : In1 x) (hy : In1 y) (w : World) :
   Calls Tryz.prog 172 #[Sg a b c d, Sp x y] w (VP (.int .i64 (turnZ a b c d x y)) w) := by
 have M1 := minusS_det c d a b hc hd ha hb
 have M2 := minusS_det x y a b hx hy ha hb
 have CR := cross_det (c - a) (d - b) (x - a) (y - b) ⟨by omega, by omega⟩ ⟨by omega, by omega⟩ ⟨by omega, by omega⟩ ⟨by omega, by omega⟩
 have T0 : ArgsB w ((w.alloc (.cells #[.int .i64 a, .int .i64 b, .int .i64 c, .int .i64 d] 53)).alloc (.cells #[.int .i64 x, .int .i64 y] 51)) [[.int .i64 a, .int .i64 b, .int .i64 c, .int .i64 d], [.int .i64 x, .int .i64 y]] := ar2 _ _ _ _ w
 have tok1 : True := trivial
 clear ha hb hc hd hx hy
 go_enter Tryz.func172, Tryz.ntmps172
 go_upto_region 1 with fail
 generalize ((w.alloc (.cells #[.int .i64 a, .int .i64 b, .int .i64 c, .int .i64 d] 53)).alloc (.cells #[.int .i64 x, .int .i64 y] 51)) = W at *
 go_region_held3 (fun w' => w'.cell? ⟨w.heap.size, 0, none⟩ = some (.int .i64 a) ∧ w'.cell? ⟨w.heap.size, 1, none⟩ = some (.int .i64 b) ∧ w'.cell? ⟨w.heap.size, 2, none⟩ = some (.int .i64 c) ∧ w'.cell? ⟨w.heap.size, 3, none⟩ = some (.int .i64 d) ∧ w'.cell? ⟨w.heap.size + 1, 0, none⟩ = some (.int .i64 x) ∧ w'.cell? ⟨w.heap.size + 1, 1, none⟩ = some (.int .i64 y)) ((refine turnZ_cells ?_ <;> repeat (first | (with_reducible exact T0) | (with_reducible refine ArgsB.drew ?_))))
   (first
     | (go_at_call 190; have _t := tok1; refine (M1 _).mono ?_; rintro e w1 ⟨rfl, hB⟩; (first | (have T1 := T0.step hB) | (have T1 := T0.drew.step hB)); clear T0; have T0 := T1; clear T1; clear hB; clear tok1 _t)
     | (go_at_call 190; refine (M2 _).mono ?_; rintro e w2 ⟨rfl, hB⟩; (first | (have T1 := T0.step hB) | (have T1 := T0.drew.step hB)); clear T0; have T0 := T1; clear T1; clear hB)
     | (go_at_call 191; refine (CR _).mono ?_; rintro e w3 ⟨rfl, hB⟩; (first | (have T1 := T0.step hB) | (have T1 := T0.drew.step hB)); clear T0; have T0 := T1; clear T1; clear hB))
 all_goals go_wp2
 all_goals go_ret
 all_goals first | exact ⟨rfl, T0.below⟩ | exact ⟨rfl, T0.drew.below⟩
set_option maxRecDepth 100000 in
set_option maxHeartbeats 1000000 in
theorem lineOf_det (a b c d : Int) (ha : In1 a) (hb : In1 b) (hc : In1 c) (hd : In1 d) (w : World) : Calls Tryz.prog 135 #[Sg a b c d] w (VP (.agg #[.int .i64 (b - d), .int .i64 (c - a), .int .i64 (a * d - b * c)]) w) := by
 obtain ⟨p1, p2⟩ := mul_in (p := a) (q := d) (M := 1000000) (N := 1000000) ha.1 ha.2 hd.1 hd.2
 obtain ⟨q1, q2⟩ := mul_in (p := b) (q := c) (M := 1000000) (N := 1000000) hb.1 hb.2 hc.1 hc.2
 obtain ⟨a1, a2⟩ := ha; obtain ⟨b1, b2⟩ := hb; obtain ⟨c1, c2⟩ := hc; obtain ⟨d1, d2⟩ := hd
 go_enter Tryz.func135, Tryz.ntmps135
 go_wp2
 refine bodyPost_ret (v := .agg #[.int .i64 (b - d), .int .i64 (c - a), .int .i64 (a * d - b * c)]) (by simp [results, Tryz.results135, go_sem]) rfl ?_
 exact ⟨rfl, ((Below.refl _ _).alloc (Nat.le_refl _) _).alloc (by simp) _⟩
theorem cross_cells {l1 l2 l3 m1 m2 m3 : Int} {w W : World} (h : ArgsB w W [[.int .i64 l1, .int .i64 l2, .int .i64 l3], [.int .i64 m1, .int .i64 m2, .int .i64 m3]]) : (fun w' => w'.cell? ⟨w.heap.size, 0, none⟩ = some (.int .i64 l1) ∧ w'.cell? ⟨w.heap.size, 1, none⟩ = some (.int .i64 l2) ∧ w'.cell? ⟨w.heap.size, 2, none⟩ = some (.int .i64 l3) ∧ w'.cell? ⟨w.heap.size + 1, 0, none⟩ = some (.int .i64 m1) ∧ w'.cell? ⟨w.heap.size + 1, 1, none⟩ = some (.int .i64 m2) ∧ w'.cell? ⟨w.heap.size + 1, 2, none⟩ = some (.int .i64 m3)) W :=
 ⟨(h.b 0 rfl).c 0 rfl, (h.b 0 rfl).c 1 rfl, (h.b 0 rfl).c 2 rfl, (h.b 1 rfl).c 0 rfl, (h.b 1 rfl).c 1 rfl, (h.b 1 rfl).c 2 rfl⟩
theorem wrapI {z : Int} (h0 : -9223372036854775808 ≤ z) (h1 : z ≤ 9223372036854775807) : IntKind.i64.wrap z = z := by
 rw [IntKind.wrap_i64]
 omega
abbrev In3 (x : Int) : Prop := -2000000000000 ≤ x ∧ x ≤ 2000000000000
set_option maxRecDepth 100000 in
set_option maxHeartbeats 2000000 in
theorem crossing_det (l1 l2 l3 m1 m2 m3 : Int) (h1 : In2 l1) (h2 : In2 l2) (h3 : In3 l3) (k1 : In2 m1) (k2 : In2 m2) (k3 : In3 m3) (w : World) : Calls Tryz.prog 136 #[.agg #[.int .i64 l1, .int .i64 l2, .int .i64 l3], .agg #[.int .i64 m1, .int .i64 m2, .int .i64 m3]] w (VP (.tuple #[.int .i64 (l2 * m3 - m2 * l3), .int .i64 (l3 * m1 - m3 * l1), .int .i64 (l1 * m2 - m1 * l2)]) w) := by
 obtain ⟨p1, p2⟩ := mul_in (p := l2) (q := m3) (M := 2000000) (N := 2000000000000) h2.1 h2.2 k3.1 k3.2
 obtain ⟨q1, q2⟩ := mul_in (p := m2) (q := l3) (M := 2000000) (N := 2000000000000) k2.1 k2.2 h3.1 h3.2
 obtain ⟨r1, r2⟩ := mul_in (p := l3) (q := m1) (M := 2000000000000) (N := 2000000) h3.1 h3.2 k1.1 k1.2
 obtain ⟨s1, s2⟩ := mul_in (p := m3) (q := l1) (M := 2000000000000) (N := 2000000) k3.1 k3.2 h1.1 h1.2
 obtain ⟨t1, t2⟩ := mul_in (p := l1) (q := m2) (M := 2000000) (N := 2000000) h1.1 h1.2 k2.1 k2.2
 obtain ⟨u1, u2⟩ := mul_in (p := m1) (q := l2) (M := 2000000) (N := 2000000) k1.1 k1.2 h2.1 h2.2
 have T0 : ArgsB w ((w.alloc (.cells #[.int .i64 l1, .int .i64 l2, .int .i64 l3] 170)).alloc (.cells #[.int .i64 m1, .int .i64 m2, .int .i64 m3] 170)) [[.int .i64 l1, .int .i64 l2, .int .i64 l3], [.int .i64 m1, .int .i64 m2, .int .i64 m3]] := ar2 _ _ _ _ w
 clear h1 h2 h3 k1 k2 k3
 have e1 : IntKind.i64.wrap (l2 * m3) = l2 * m3 := wrapI (by omega) (by omega)
 have e2 : IntKind.i64.wrap (m2 * l3) = m2 * l3 := wrapI (by omega) (by omega)
 have e3 : IntKind.i64.wrap (l3 * m1) = l3 * m1 := wrapI (by omega) (by omega)
 have e4 : IntKind.i64.wrap (m3 * l1) = m3 * l1 := wrapI (by omega) (by omega)
 have e5 : IntKind.i64.wrap (l1 * m2) = l1 * m2 := wrapI (by omega) (by omega)
 have e6 : IntKind.i64.wrap (m1 * l2) = m1 * l2 := wrapI (by omega) (by omega)
 have e7 : IntKind.i64.wrap (l2 * m3 - m2 * l3) = l2 * m3 - m2 * l3 := wrapI (by omega) (by omega)
 have e8 : IntKind.i64.wrap (l3 * m1 - m3 * l1) = l3 * m1 - m3 * l1 := wrapI (by omega) (by omega)
 have e9 : IntKind.i64.wrap (l1 * m2 - m1 * l2) = l1 * m2 - m1 * l2 := wrapI (by omega) (by omega)
 go_enter Tryz.func136, Tryz.ntmps136
 go_upto_region 1 with fail
 generalize ((w.alloc (.cells #[.int .i64 l1, .int .i64 l2, .int .i64 l3] 170)).alloc (.cells #[.int .i64 m1, .int .i64 m2, .int .i64 m3] 170)) = W at *
 go_region_held3 (fun w' => w'.cell? ⟨w.heap.size, 0, none⟩ = some (.int .i64 l1) ∧ w'.cell? ⟨w.heap.size, 1, none⟩ = some (.int .i64 l2) ∧ w'.cell? ⟨w.heap.size, 2, none⟩ = some (.int .i64 l3) ∧ w'.cell? ⟨w.heap.size + 1, 0, none⟩ = some (.int .i64 m1) ∧ w'.cell? ⟨w.heap.size + 1, 1, none⟩ = some (.int .i64 m2) ∧ w'.cell? ⟨w.heap.size + 1, 2, none⟩ = some (.int .i64 m3)) ((refine cross_cells ?_ <;> repeat (first | (with_reducible exact T0) | (with_reducible refine ArgsB.drew ?_))))
   (first | fail)
 all_goals go_wp2
 all_goals refine bodyPost_ret (v := .tuple #[.int .i64 (l2 * m3 - m2 * l3), .int .i64 (l3 * m1 - m3 * l1), .int .i64 (l1 * m2 - m1 * l2)]) (by simp [results, Tryz.results136, go_sem]) rfl ?_
 all_goals first | exact ⟨rfl, T0.below⟩ | exact ⟨rfl, T0.drew.below⟩
def pt2 (t t' : Int) : Bool := (decide (0 ≤ t) || decide (0 ≤ t')) && (decide (t ≤ 0) || decide (t' ≤ 0))
structure PartZ (w wr : World) (g : Nat) (sg sl : List Value) : Prop where
 below : Below w.heap.size w wr
 seg : Blk wr w.heap.size sg
 row : Blk wr g sl
theorem PartZ.step {w wr wr' : World} {g : Nat} {sg sl : List Value} (h : PartZ w wr g sg sl) (hB : Below wr.heap.size wr wr') : PartZ w wr' g sg sl := ⟨h.below.trans (hB.mono h.below.size), h.seg.step hB, h.row.step hB⟩
theorem PartZ.alloc {w wr : World} {g : Nat} {sg sl : List Value} (h : PartZ w wr g sg sl) (o : Obj) : PartZ w (wr.alloc o) g sg sl := h.step ((Below.refl _ _).alloc (Nat.le_refl _) o)
set_option maxRecDepth 100000 in
set_option maxHeartbeats 2000000 in
theorem parts2_det (a b c d x y u v : Int) (ha : In1 a) (hb : In1 b) (hc : In1 c) (hd : In1 d) (hx : In1 x) (hy : In1 y) (hu : In1 u) (hv : In1 v) (g : Nat) (w : World) (hS : Blk w g [.int .i64 x, .int .i64 y, .int .i64 u, .int .i64 v]) :
   Calls Tryz.prog 138 #[Sg a b c d, .slice (some ⟨g, 0, none⟩) 2 2] w (VP (.bool (pt2 (turnZ a b c d x y) (turnZ a b c d u v))) w) := by
 have T1 := turnToZ_det a b c d x y ha hb hc hd hx hy
 have T2 := turnToZ_det a b c d u v ha hb hc hd hu hv
 generalize turnZ a b c d x y = t at *
 generalize turnZ a b c d u v = t' at *
 clear ha hb hc hd hx hy hu hv
 have I0 : PartZ w (w.alloc (.cells #[.int .i64 a, .int .i64 b, .int .i64 c, .int .i64 d] 53)) g [.int .i64 a, .int .i64 b, .int .i64 c, .int .i64 d] [.int .i64 x, .int .i64 y, .int .i64 u, .int .i64 v] :=
   ⟨(Below.refl _ _).alloc (Nat.le_refl _) _, Blk.new w [.int .i64 a, .int .i64 b, .int .i64 c, .int .i64 d] 53 rfl, hS.alloc _⟩
 clear hS
 go_enter Tryz.func138, Tryz.ntmps138
 go_wp2
 generalize (w.alloc (.cells #[.int .i64 a, .int .i64 b, .int .i64 c, .int .i64 d] 53)) = W at *
 go_loopw [5, 6, 12] (fun l r i wr => ∃ k : Nat, k ≤ 2 ∧ i = .int .i64 k ∧ l = .bool (if k = 0 then false else if k = 1 then decide (0 ≤ t) else decide (0 ≤ t) || decide (0 ≤ t')) ∧ r = .bool (if k = 0 then false else if k = 1 then decide (t ≤ 0) else decide (t ≤ 0) || decide (t' ≤ 0)) ∧ PartZ w wr g [.int .i64 a, .int .i64 b, .int .i64 c, .int .i64 d] [.int .i64 x, .int .i64 y, .int .i64 u, .int .i64 v]) (fun _ _ i _ => 2 - (intOf i).toNat)
 case atStart => exact ⟨0, by omega, rfl, rfl, rfl, I0⟩
 case round =>
   clear I0
   obtain ⟨k, hk, rfl, rfl, rfl, I0⟩ := hrel
   have ca0 := I0.seg.c 0 rfl; have ca1 := I0.seg.c 1 rfl; have ca2 := I0.seg.c 2 rfl; have ca3 := I0.seg.c 3 rfl; have calt := I0.seg.lt
   rcases (by omega : k = 0 ∨ k = 1 ∨ k = 2) with rfl | rfl | rfl
   · have e1 := I0.row.c 0 rfl; have e2 := I0.row.c 1 rfl
     have r1 : ∀ b c : Bool, (if (0 : Nat) = 0 then false else if (0 : Nat) = 1 then b else c) = false := fun _ _ => rfl
     rw [r1, r1]
     clear r1
     go_wp2_with fail
     refine (T1 _).mono ?_
     rintro e w1 ⟨rfl, hB⟩
     replace I0 := (I0.alloc _).step hB
     clear ca0 ca1 ca2 ca3 calt e1 e2 hB T1 T2
     go_wp2
     all_goals go_roundw
     all_goals first | exact ⟨1, by omega, rfl, rfl, rfl, I0⟩ | simp [intOf]
   · have e1 := I0.row.c 2 rfl; have e2 := I0.row.c 3 rfl
     have r1 : ∀ b c : Bool, (if (1 : Nat) = 0 then false else if (1 : Nat) = 1 then b else c) = b := fun _ _ => rfl
     rw [r1, r1]
     clear r1
     obtain ⟨L, hL⟩ : ∃ L, decide (0 ≤ t) = L := ⟨_, rfl⟩
     obtain ⟨R, hR⟩ : ∃ R, decide (t ≤ 0) = R := ⟨_, rfl⟩
     rw [hL, hR]
     clear hL hR
     go_wp2_with fail
     refine (T2 _).mono ?_
     rintro e w1 ⟨rfl, hB⟩
     replace I0 := (I0.alloc _).step hB
     clear ca0 ca1 ca2 ca3 calt e1 e2 hB T1 T2
     cases L <;> cases R
     all_goals go_wp2
     all_goals go_roundw
     all_goals first | exact ⟨2, by omega, rfl, rfl, rfl, I0⟩ | simp [intOf]
   · have r1 : ∀ b c : Bool, (if (2 : Nat) = 0 then false else if (2 : Nat) = 1 then b else c) = c := fun _ _ => rfl
     rw [r1, r1]
     clear r1
     have HP : Hid (pt2 t t' = ((decide (0 ≤ t) || decide (0 ≤ t')) && (decide (t ≤ 0) || decide (t' ≤ 0)))) := rfl
     generalize (decide (0 ≤ t) || decide (0 ≤ t')) = L at *
     generalize (decide (t ≤ 0) || decide (t' ≤ 0)) = R at *
     clear ca0 ca1 ca2 ca3 calt T1 T2
     cases L <;> cases R
     all_goals go_wp2
     all_goals go_ret
     all_goals exact ⟨by rw [HP.out]; rfl, I0.below⟩
theorem put24_ret {P : Program} {f : Func} {post : Ending → World → Prop} {ex : Exit} {act : Act} {w W : World} {g g' : Nat} {z0 z1 z2 z3 z4 z5 z6 z7 z8 z9 z10 z11 y0 y1 y2 y3 y4 y5 y6 y7 y8 y9 y10 y11 v0 v1 v2 v3 v4 v5 v6 v7 v8 v9 v10 v11 u0 u1 u2 u3 u4 u5 u6 u7 u8 u9 u10 u11 : Value} (BP : Blk W g [z0, z1, z2, z3, z4, z5, z6, z7, z8, z9, z10, z11]) (BQ : Blk W g' [y0, y1, y2, y3, y4, y5, y6, y7, y8, y9, y10, y11]) (hne : g ≠ g') (hg : w.heap.size ≤ g) (hg' : w.heap.size ≤ g') (HB : Below w.heap.size w W)
   (h : ∀ WF, Blk WF g [v0, v1, v2, v3, v4, v5, v6, v7, v8, v9, v10, v11] → Blk WF g' [u0, u1, u2, u3, u4, u5, u6, u7, u8, u9, u10, u11] → Below w.heap.size w WF → bodyPost P f post ex act WF) : bodyPost P f post ex act ((((((((((((((((((((((((W.setCell ⟨g, 0, none⟩ v0).setCell ⟨g, 1, none⟩ v1).setCell ⟨g, 2, none⟩ v2).setCell ⟨g, 3, none⟩ v3).setCell ⟨g, 4, none⟩ v4).setCell ⟨g, 5, none⟩ v5).setCell ⟨g, 6, none⟩ v6).setCell ⟨g, 7, none⟩ v7).setCell ⟨g, 8, none⟩ v8).setCell ⟨g, 9, none⟩ v9).setCell ⟨g, 10, none⟩ v10).setCell ⟨g, 11, none⟩ v11).setCell ⟨g', 0, none⟩ u0).setCell ⟨g', 1, none⟩ u1).setCell ⟨g', 2, none⟩ u2).setCell ⟨g', 3, none⟩ u3).setCell ⟨g', 4, none⟩ u4).setCell ⟨g', 5, none⟩ u5).setCell ⟨g', 6, none⟩ u6).setCell ⟨g', 7, none⟩ u7).setCell ⟨g', 8, none⟩ u8).setCell ⟨g', 9, none⟩ u9).setCell ⟨g', 10, none⟩ u10).setCell ⟨g', 11, none⟩ u11) :=
 h _ ((BP.stored12 v0 v1 v2 v3 v4 v5 v6 v7 v8 v9 v10 v11).set12 hne) ((BQ.set12 (Ne.symm hne)).stored12 u0 u1 u2 u3 u4 u5 u6 u7 u8 u9 u10 u11) (Below.set12 hg' (Below.set12 hg HB))
theorem eqSp (x y u v : Int) (w : World) : (Op.equalIn 10000 51 (Sp x y) (Sp u v)).run Tryz.prog w = .ok (decide (x = u) && decide (y = v)) w := by
 have u3 := Tryz.underlying2
 have a3 := Tryz.isAgg2
 have z3 := Tryz.sizeOf2
 rw [show (10000 : Nat) = 9999 + 1 from rfl, Op.equalIn]
 simp only [Sem.run_bind, run_underlying Tryz.underlying51, Result.andThen_ok]
 go_simp
 by_cases h1 : x = u
 · by_cases h2 : y = v
   · simp [h1, h2]
   · simp [h1, h2]
 · simp [h1]
theorem pointOfI (x y : Int) (hx : In1 x) (hy : In1 y) (w : World) : Calls Tryz.prog 110 #[Sp x y] w (VP (.agg #[.int .u64 (ww3 x), .int .u64 (ww2 x), .int .u64 (ww1 x), .int .u64 (ww0 x), .int .u64 (ww3 y), .int .u64 (ww2 y), .int .u64 (ww1 y), .int .u64 (ww0 y), .int .u64 (ww3 1), .int .u64 (ww2 1), .int .u64 (ww1 1), .int .u64 (ww0 1)]) w) := implPointOf_any x y (by omega) (by omega) (by omega) (by omega) w
def alongV (a b c d p q u v : Int) : Value :=
 if turnZ a b c d p q ≠ 0 ∨ lessI (if lessI u v c d = true then u else c) (if lessI u v c d = true then v else d) (if lessI a b p q = true then p else a) (if lessI a b p q = true then q else b) = true then .tuple #[.int .i64 0, .agg #[.int .u64 0, .int .u64 0, .int .u64 0, .int .u64 0, .int .u64 0, .int .u64 0, .int .u64 0, .int .u64 0, .int .u64 0, .int .u64 0, .int .u64 0, .int .u64 0], .agg #[.int .u64 0, .int .u64 0, .int .u64 0, .int .u64 0, .int .u64 0, .int .u64 0, .int .u64 0, .int .u64 0, .int .u64 0, .int .u64 0, .int .u64 0, .int .u64 0]]
 else if (if lessI a b p q = true then p else a) = (if lessI u v c d = true then u else c) ∧ (if lessI a b p q = true then q else b) = (if lessI u v c d = true then v else d) then .tuple #[.int .i64 1, .agg #[.int .u64 (ww3 (if lessI a b p q = true then p else a)), .int .u64 (ww2 (if lessI a b p q = true then p else a)), .int .u64 (ww1 (if lessI a b p q = true then p else a)), .int .u64 (ww0 (if lessI a b p q = true then p else a)), .int .u64 (ww3 (if lessI a b p q = true then q else b)), .int .u64 (ww2 (if lessI a b p q = true then q else b)), .int .u64 (ww1 (if lessI a b p q = true then q else b)), .int .u64 (ww0 (if lessI a b p q = true then q else b)), .int .u64 (ww3 1), .int .u64 (ww2 1), .int .u64 (ww1 1), .int .u64 (ww0 1)], .agg #[.int .u64 0, .int .u64 0, .int .u64 0, .int .u64 0, .int .u64 0, .int .u64 0, .int .u64 0, .int .u64 0, .int .u64 0, .int .u64 0, .int .u64 0, .int .u64 0]]
 else .tuple #[.int .i64 2, .agg #[.int .u64 (ww3 (if lessI a b p q = true then p else a)), .int .u64 (ww2 (if lessI a b p q = true then p else a)), .int .u64 (ww1 (if lessI a b p q = true then p else a)), .int .u64 (ww0 (if lessI a b p q = true then p else a)), .int .u64 (ww3 (if lessI a b p q = true then q else b)), .int .u64 (ww2 (if lessI a b p q = true then q else b)), .int .u64 (ww1 (if lessI a b p q = true then q else b)), .int .u64 (ww0 (if lessI a b p q = true then q else b)), .int .u64 (ww3 1), .int .u64 (ww2 1), .int .u64 (ww1 1), .int .u64 (ww0 1)], .agg #[.int .u64 (ww3 (if lessI u v c d = true then u else c)), .int .u64 (ww2 (if lessI u v c d = true then u else c)), .int .u64 (ww1 (if lessI u v c d = true then u else c)), .int .u64 (ww0 (if lessI u v c d = true then u else c)), .int .u64 (ww3 (if lessI u v c d = true then v else d)), .int .u64 (ww2 (if lessI u v c d = true then v else d)), .int .u64 (ww1 (if lessI u v c d = true then v else d)), .int .u64 (ww0 (if lessI u v c d = true then v else d)), .int .u64 (ww3 1), .int .u64 (ww2 1), .int .u64 (ww1 1), .int .u64 (ww0 1)]]
def AlS (w W : World) (gF gL : Nat) (a b c d p q u v fx fy lx ly : Int) : Prop := Blk W w.heap.size [.int .i64 a, .int .i64 b, .int .i64 c, .int .i64 d] ∧ Blk W (w.heap.size + 1) [.int .i64 p, .int .i64 q, .int .i64 u, .int .i64 v] ∧ Blk W (w.heap.size + 1 + 1) [.int .u64 0, .int .u64 0, .int .u64 0, .int .u64 0, .int .u64 0, .int .u64 0, .int .u64 0, .int .u64 0, .int .u64 0, .int .u64 0, .int .u64 0, .int .u64 0] ∧ Blk W (w.heap.size + 1 + 1 + 1) [.int .u64 0, .int .u64 0, .int .u64 0, .int .u64 0, .int .u64 0, .int .u64 0, .int .u64 0, .int .u64 0, .int .u64 0, .int .u64 0, .int .u64 0, .int .u64 0] ∧ Blk W gF [.int .i64 fx, .int .i64 fy] ∧ Blk W gL [.int .i64 lx, .int .i64 ly] ∧ Below w.heap.size w W
theorem CutG.drew {w wx : World} {vss : List (List Value)} {us vs : List Value} {p q : Value} (h : CutG w wx vss us vs p q) : CutG w wx.drew vss us vs p q := by
 obtain ⟨g, g', h1, h2, h3, h4, h5, T, G, G'⟩ := h
 exact ⟨g, g', h1, h2, h3, h4, h5, T.drew, G.drew, G'.drew⟩
theorem al_cells {x y u v : Int} {W : World} {gF gL : Nat} (BF : Blk W gF [.int .i64 x, .int .i64 y]) (BL : Blk W gL [.int .i64 u, .int .i64 v]) : (fun w' => w'.cell? ⟨gF, 0, none⟩ = some (.int .i64 x) ∧ w'.cell? ⟨gF, 1, none⟩ = some (.int .i64 y) ∧ w'.cell? ⟨gL, 0, none⟩ = some (.int .i64 u) ∧ w'.cell? ⟨gL, 1, none⟩ = some (.int .i64 v)) W := ⟨BF.c 0 rfl, BF.c 1 rfl, BL.c 0 rfl, BL.c 1 rfl⟩
theorem ml_cells {a b c d p q u v : Int} {w W : World} (T0 : ArgsB w W [[.int .i64 a, .int .i64 b, .int .i64 c, .int .i64 d], [.int .i64 p, .int .i64 q, .int .i64 u, .int .i64 v], [.int .u64 0, .int .u64 0, .int .u64 0, .int .u64 0, .int .u64 0, .int .u64 0, .int .u64 0, .int .u64 0, .int .u64 0, .int .u64 0, .int .u64 0, .int .u64 0], [.int .u64 0, .int .u64 0, .int .u64 0, .int .u64 0, .int .u64 0, .int .u64 0, .int .u64 0, .int .u64 0, .int .u64 0, .int .u64 0, .int .u64 0, .int .u64 0]]) : (fun w' => w'.cell? ⟨w.heap.size, 0, none⟩ = some (.int .i64 a) ∧ w'.cell? ⟨w.heap.size, 1, none⟩ = some (.int .i64 b) ∧ w'.cell? ⟨w.heap.size, 2, none⟩ = some (.int .i64 c) ∧ w'.cell? ⟨w.heap.size, 3, none⟩ = some (.int .i64 d) ∧ w'.cell? ⟨w.heap.size + 1, 0, none⟩ = some (.int .i64 p) ∧ w'.cell? ⟨w.heap.size + 1, 1, none⟩ = some (.int .i64 q) ∧ w'.cell? ⟨w.heap.size + 1, 2, none⟩ = some (.int .i64 u) ∧ w'.cell? ⟨w.heap.size + 1, 3, none⟩ = some (.int .i64 v)) W := ⟨(T0.b 0 rfl).c 0 rfl, (T0.b 0 rfl).c 1 rfl, (T0.b 0 rfl).c 2 rfl, (T0.b 0 rfl).c 3 rfl, (T0.b 1 rfl).c 0 rfl, (T0.b 1 rfl).c 1 rfl, (T0.b 1 rfl).c 2 rfl, (T0.b 1 rfl).c 3 rfl⟩
set_option maxRecDepth 100000 in
set_option maxHeartbeats 8000000 in
theorem meetAlong_det (a b c d p q u v : Int) (ha : In1 a) (hb : In1 b) (hc : In1 c) (hd : In1 d) (hp : In1 p) (hq : In1 q) (hu : In1 u) (hv : In1 v) (w : World) : Calls Tryz.prog 137 #[Sg a b c d, Sg p q u v] w (VP (alongV a b c d p q u v) w) := by
 have TT := turnToZ_det a b c d p q ha hb hc hd hp hq
 have T0 : ArgsB w ((((w.alloc (.cells #[.int .i64 a, .int .i64 b, .int .i64 c, .int .i64 d] 53)).alloc (.cells #[.int .i64 p, .int .i64 q, .int .i64 u, .int .i64 v] 53)).alloc (.cells #[.int .u64 0, .int .u64 0, .int .u64 0, .int .u64 0, .int .u64 0, .int .u64 0, .int .u64 0, .int .u64 0, .int .u64 0, .int .u64 0, .int .u64 0, .int .u64 0] 44)).alloc (.cells #[.int .u64 0, .int .u64 0, .int .u64 0, .int .u64 0, .int .u64 0, .int .u64 0, .int .u64 0, .int .u64 0, .int .u64 0, .int .u64 0, .int .u64 0, .int .u64 0] 44)) [[.int .i64 a, .int .i64 b, .int .i64 c, .int .i64 d], [.int .i64 p, .int .i64 q, .int .i64 u, .int .i64 v], [.int .u64 0, .int .u64 0, .int .u64 0, .int .u64 0, .int .u64 0, .int .u64 0, .int .u64 0, .int .u64 0, .int .u64 0, .int .u64 0, .int .u64 0, .int .u64 0], [.int .u64 0, .int .u64 0, .int .u64 0, .int .u64 0, .int .u64 0, .int .u64 0, .int .u64 0, .int .u64 0, .int .u64 0, .int .u64 0, .int .u64 0, .int .u64 0]] := ar4 _ _ _ _ _ _ _ _ w
 go_enter Tryz.func137, Tryz.ntmps137
 go_upto_region 1 with fail
 generalize ((((w.alloc (.cells #[.int .i64 a, .int .i64 b, .int .i64 c, .int .i64 d] 53)).alloc (.cells #[.int .i64 p, .int .i64 q, .int .i64 u, .int .i64 v] 53)).alloc (.cells #[.int .u64 0, .int .u64 0, .int .u64 0, .int .u64 0, .int .u64 0, .int .u64 0, .int .u64 0, .int .u64 0, .int .u64 0, .int .u64 0, .int .u64 0, .int .u64 0] 44)).alloc (.cells #[.int .u64 0, .int .u64 0, .int .u64 0, .int .u64 0, .int .u64 0, .int .u64 0, .int .u64 0, .int .u64 0, .int .u64 0, .int .u64 0, .int .u64 0, .int .u64 0] 44)) = W at *
 have hl0 : w.heap.size + ([[.int .i64 a, .int .i64 b, .int .i64 c, .int .i64 d], [.int .i64 p, .int .i64 q, .int .i64 u, .int .i64 v], [.int .u64 0, .int .u64 0, .int .u64 0, .int .u64 0, .int .u64 0, .int .u64 0, .int .u64 0, .int .u64 0, .int .u64 0, .int .u64 0, .int .u64 0, .int .u64 0], [.int .u64 0, .int .u64 0, .int .u64 0, .int .u64 0, .int .u64 0, .int .u64 0, .int .u64 0, .int .u64 0, .int .u64 0, .int .u64 0, .int .u64 0, .int .u64 0]] : List (List Value)).length ≤ W.heap.size := (T0.b 3 rfl).lt
 have hl1 : w.heap.size + ([[.int .i64 a, .int .i64 b, .int .i64 c, .int .i64 d], [.int .i64 p, .int .i64 q, .int .i64 u, .int .i64 v], [.int .u64 0, .int .u64 0, .int .u64 0, .int .u64 0, .int .u64 0, .int .u64 0, .int .u64 0, .int .u64 0, .int .u64 0, .int .u64 0, .int .u64 0, .int .u64 0], [.int .u64 0, .int .u64 0, .int .u64 0, .int .u64 0, .int .u64 0, .int .u64 0, .int .u64 0, .int .u64 0, .int .u64 0, .int .u64 0, .int .u64 0, .int .u64 0]] : List (List Value)).length ≤ W.drew.heap.size := hl0
 go_cut [7, 8] (fun p' q' wx => CutG w wx [[.int .i64 a, .int .i64 b, .int .i64 c, .int .i64 d], [.int .i64 p, .int .i64 q, .int .i64 u, .int .i64 v], [.int .u64 0, .int .u64 0, .int .u64 0, .int .u64 0, .int .u64 0, .int .u64 0, .int .u64 0, .int .u64 0, .int .u64 0, .int .u64 0, .int .u64 0, .int .u64 0], [.int .u64 0, .int .u64 0, .int .u64 0, .int .u64 0, .int .u64 0, .int .u64 0, .int .u64 0, .int .u64 0, .int .u64 0, .int .u64 0, .int .u64 0, .int .u64 0]] [.int .i64 a, .int .i64 b] [.int .i64 c, .int .i64 d] p' q')
 case first =>
   go_region_held3 (fun w' => w'.cell? ⟨w.heap.size, 0, none⟩ = some (.int .i64 a) ∧ w'.cell? ⟨w.heap.size, 1, none⟩ = some (.int .i64 b) ∧ w'.cell? ⟨w.heap.size, 2, none⟩ = some (.int .i64 c) ∧ w'.cell? ⟨w.heap.size, 3, none⟩ = some (.int .i64 d) ∧ w'.cell? ⟨w.heap.size + 1, 0, none⟩ = some (.int .i64 p) ∧ w'.cell? ⟨w.heap.size + 1, 1, none⟩ = some (.int .i64 q) ∧ w'.cell? ⟨w.heap.size + 1, 2, none⟩ = some (.int .i64 u) ∧ w'.cell? ⟨w.heap.size + 1, 3, none⟩ = some (.int .i64 v)) ((refine ml_cells ?_ <;> repeat (first | (with_reducible exact T0) | (with_reducible refine ArgsB.drew ?_) | (with_reducible refine ArgsB.alloc ?_ _) | (with_reducible refine ArgsB.set2 ?_ (by simp; omega) _ _))))
     (first | fail)
   all_goals go_wp2_with fail
   all_goals go_meet
   all_goals first | (with_reducible exact cutG_nn T0 hl0) | (with_reducible exact cutG_nn' T0 hl0) | (with_reducible exact (cutG_nn T0 hl0).drew) | (with_reducible exact (cutG_nn' T0 hl0).drew) | (with_reducible exact cutG_nn T0.drew hl1) | (with_reducible exact cutG_nn' T0.drew hl1)
 case rest =>
   clear T0 hl0 hl1
   obtain ⟨gF, gL, hp', hq', hne, hgF, hgL, T0, BF, BL⟩ := hcut
   subst hp'; subst hq'
   simp only [List.length_cons, List.length_nil] at hgF hgL
   have BS : Blk _ w.heap.size _ := T0.b 0 rfl; have BT : Blk _ (w.heap.size + 1) _ := T0.b 1 rfl; have BP : Blk _ (w.heap.size + 1 + 1) _ := T0.b 2 rfl; have BQ : Blk _ (w.heap.size + 1 + 1 + 1) _ := T0.b 3 rfl; have HB := T0.below
   clear T0
   obtain ⟨fx, hfx⟩ : ∃ t, (if lessI a b p q = true then p else a) = t := ⟨_, rfl⟩
   obtain ⟨fy, hfy⟩ : ∃ t, (if lessI a b p q = true then q else b) = t := ⟨_, rfl⟩
   obtain ⟨lx, hlx⟩ : ∃ t, (if lessI u v c d = true then u else c) = t := ⟨_, rfl⟩
   obtain ⟨ly, hly⟩ : ∃ t, (if lessI u v c d = true then v else d) = t := ⟨_, rfl⟩
   have ifx : In1 fx := by rw [← hfx]; split <;> assumption
   have ify : In1 fy := by rw [← hfy]; split <;> assumption
   have ilx : In1 lx := by rw [← hlx]; split <;> assumption
   have ily : In1 ly := by rw [← hly]; split <;> assumption
   have HFX : Hid ((if lessI a b p q = true then p else a) = fx) := hfx
   have HFY : Hid ((if lessI a b p q = true then q else b) = fy) := hfy
   have HLX : Hid ((if lessI u v c d = true then u else c) = lx) := hlx
   have HLY : Hid ((if lessI u v c d = true then v else d) = ly) := hly
   clear hfx hfy hlx hly
   go_upto_region 2 with fail
   go_cut [16] (fun z' wx => z' = .bool (lessI a b p q) ∧ AlS w wx gF gL a b c d p q u v a b c d)
   case first =>
     obtain ⟨sc0, sc1, sc2, sc3⟩ := BS.cs4; have sl := BS.lt; obtain ⟨tc0, tc1, tc2, tc3⟩ := BT.cs4; have tl := BT.lt; obtain ⟨fc0, ff0, fc1, ff1⟩ := BF.cf2; have fl := BF.lt; obtain ⟨lc0, lf0, lc1, lf1⟩ := BL.cf2; have ll := BL.lt
     go_wp2_with fail
     refine (isAhead_any a b p q _ rfl _).mono ?_
     rintro e w11 ⟨rfl, hB⟩
     go_wp2_with fail
     go_meet
     exact ⟨rfl, BS.step hB, BT.step hB, BP.step hB, BQ.step hB, BF.step hB, BL.step hB, HB.trans (hB.mono HB.size)⟩
   case rest =>
     clear BS BT BP BQ BF BL HB
     obtain ⟨hq', BS, BT, BP, BQ, BF, BL, HB⟩ := hcut
     subst hq'
     generalize wc = w11c at *
     rename_i hk
     refine hk _ _ ?_
     go_cut [] (fun wx => AlS w wx gF gL a b c d p q u v fx fy c d)
     case first =>
       by_cases h1 : lessI a b p q = true
       · rw [h1]
         have e1 : fx = p := by rw [← HFX.out, if_pos h1]
         have e2 : fy = q := by rw [← HFY.out, if_pos h1]
         clear h1
         obtain ⟨sc0, sc1, sc2, sc3⟩ := BS.cs4; have sl := BS.lt; obtain ⟨tc0, tc1, tc2, tc3⟩ := BT.cs4; have tl := BT.lt; obtain ⟨fc0, ff0, fc1, ff1⟩ := BF.cf2; have fl := BF.lt; obtain ⟨lc0, lf0, lc1, lf1⟩ := BL.cf2; have ll := BL.lt
         go_wp2_with fail
         go_meet
         rw [e1, e2]
         exact ⟨BS.set2 (by omega), BT.set2 (by omega), BP.set2 (by omega), BQ.set2 (by omega), BF.stored2 _ _, BL.set2 (by omega), Below.setCell (Below.setCell HB (by show _ ≤ gF; omega) _) (by show _ ≤ gF; omega) _⟩
       · have h1' := Bool.eq_false_iff.2 h1
         have e1 : fx = a := by rw [← HFX.out, if_neg h1]
         have e2 : fy = b := by rw [← HFY.out, if_neg h1]
         rw [h1']
         clear h1 h1'
         go_wp2_with fail
         go_meet
         rw [e1, e2]
         exact ⟨BS, BT, BP, BQ, BF, BL, HB⟩
     case rest =>
       clear BS BT BP BQ BF BL HB
       obtain ⟨BS, BT, BP, BQ, BF, BL, HB⟩ := hcut
       generalize wc = w11d at *
       go_upto_region 4 with fail
       go_cut [22] (fun z' wx => z' = .bool (lessI u v c d) ∧ AlS w wx gF gL a b c d p q u v fx fy c d)
       case first =>
         obtain ⟨sc0, sc1, sc2, sc3⟩ := BS.cs4; have sl := BS.lt; obtain ⟨tc0, tc1, tc2, tc3⟩ := BT.cs4; have tl := BT.lt; obtain ⟨fc0, ff0, fc1, ff1⟩ := BF.cf2; have fl := BF.lt; obtain ⟨lc0, lf0, lc1, lf1⟩ := BL.cf2; have ll := BL.lt
         go_wp2_with fail
         refine (isAhead_any u v c d _ rfl _).mono ?_
         rintro e w12 ⟨rfl, hB⟩
         go_wp2_with fail
         go_meet
         exact ⟨rfl, BS.step hB, BT.step hB, BP.step hB, BQ.step hB, BF.step hB, BL.step hB, HB.trans (hB.mono HB.size)⟩
       case rest =>
         clear BS BT BP BQ BF BL HB
         obtain ⟨hq', BS, BT, BP, BQ, BF, BL, HB⟩ := hcut
         subst hq'
         generalize wc = w12c at *
         rename_i hk
         refine hk _ _ ?_
         go_cut [] (fun wx => AlS w wx gF gL a b c d p q u v fx fy lx ly)
         case first =>
           by_cases h1 : lessI u v c d = true
           · rw [h1]
             have e1 : lx = u := by rw [← HLX.out, if_pos h1]
             have e2 : ly = v := by rw [← HLY.out, if_pos h1]
             clear h1
             obtain ⟨sc0, sc1, sc2, sc3⟩ := BS.cs4; have sl := BS.lt; obtain ⟨tc0, tc1, tc2, tc3⟩ := BT.cs4; have tl := BT.lt; obtain ⟨fc0, ff0, fc1, ff1⟩ := BF.cf2; have fl := BF.lt; obtain ⟨lc0, lf0, lc1, lf1⟩ := BL.cf2; have ll := BL.lt
             go_wp2_with fail
             go_meet
             rw [e1, e2]
             exact ⟨BS.set2 (by omega), BT.set2 (by omega), BP.set2 (by omega), BQ.set2 (by omega), BF.set2 (by omega), BL.stored2 _ _, Below.setCell (Below.setCell HB (by show _ ≤ gL; omega) _) (by show _ ≤ gL; omega) _⟩
           · have h1' := Bool.eq_false_iff.2 h1
             have e1 : lx = c := by rw [← HLX.out, if_neg h1]
             have e2 : ly = d := by rw [← HLY.out, if_neg h1]
             rw [h1']
             clear h1 h1'
             go_wp2_with fail
             go_meet
             rw [e1, e2]
             exact ⟨BS, BT, BP, BQ, BF, BL, HB⟩
         case rest =>
           clear BS BT BP BQ BF BL HB
           obtain ⟨BS, BT, BP, BQ, BF, BL, HB⟩ := hcut
           generalize wc = w12d at *
           obtain ⟨sc0, sc1, sc2, sc3⟩ := BS.cs4; have sl := BS.lt; obtain ⟨tc0, tc1, tc2, tc3⟩ := BT.cs4; have tl := BT.lt; obtain ⟨fc0, ff0, fc1, ff1⟩ := BF.cf2; have fl := BF.lt; obtain ⟨lc0, lf0, lc1, lf1⟩ := BL.cf2; have ll := BL.lt
           go_wp2_with fail
           refine (TT _).mono ?_
           rintro e w16 ⟨rfl, hB⟩
           replace BS := BS.step hB
           replace BT := BT.step hB
           replace BF := BF.step hB
           replace BL := BL.step hB
           replace BP := BP.step hB
           replace BQ := BQ.step hB
           replace HB := HB.trans (hB.mono HB.size)
           clear hB sc0 sc1 sc2 sc3 sl tc0 tc1 tc2 tc3 tl fc0 ff0 fc1 ff1 fl lc0 lf0 lc1 lf1 ll
           by_cases hT : turnZ a b c d p q = 0
           · have hT' : (turnZ a b c d p q == 0) = true := by simpa using hT
             have hT2 : (turnZ a b c d p q != 0) = false := by simp [hT]
             obtain ⟨sc0, sc1, sc2, sc3⟩ := BS.cs4; have sl := BS.lt; obtain ⟨tc0, tc1, tc2, tc3⟩ := BT.cs4; have tl := BT.lt; obtain ⟨fc0, ff0, fc1, ff1⟩ := BF.cf2; have fl := BF.lt; obtain ⟨lc0, lf0, lc1, lf1⟩ := BL.cf2; have ll := BL.lt
             go_wp2_with fail
             refine (isAhead_any lx ly fx fy _ rfl _).mono ?_
             rintro e w17 ⟨rfl, hB⟩
             replace BS := BS.step hB
             replace BT := BT.step hB
             replace BF := BF.step hB
             replace BL := BL.step hB
             replace BP := BP.step hB
             replace BQ := BQ.step hB
             replace HB := HB.trans (hB.mono HB.size)
             clear hB sc0 sc1 sc2 sc3 sl tc0 tc1 tc2 tc3 tl fc0 ff0 fc1 ff1 fl lc0 lf0 lc1 lf1 ll
             by_cases hA : lessI lx ly fx fy = true
             · rw [hA]
               have HO : Hid (alongV a b c d p q u v = .tuple #[.int .i64 0, .agg #[.int .u64 0, .int .u64 0, .int .u64 0, .int .u64 0, .int .u64 0, .int .u64 0, .int .u64 0, .int .u64 0, .int .u64 0, .int .u64 0, .int .u64 0, .int .u64 0], .agg #[.int .u64 0, .int .u64 0, .int .u64 0, .int .u64 0, .int .u64 0, .int .u64 0, .int .u64 0, .int .u64 0, .int .u64 0, .int .u64 0, .int .u64 0, .int .u64 0]]) := by show _ = _; unfold alongV; rw [HFX.out, HFY.out, HLX.out, HLY.out, if_pos (Or.inr hA)]
               clear hA hT hT' hT2 TT BS BT BF BL
               obtain ⟨xc0, xf0, xc1, xf1, xc2, xf2, xc3, xf3, xc4, xf4, xc5, xf5, xc6, xf6, xc7, xf7, xc8, xf8, xc9, xf9, xc10, xf10, xc11, xf11⟩ := BP.cf12; have xl := BP.lt; obtain ⟨yc0, yf0, yc1, yf1, yc2, yf2, yc3, yf3, yc4, yf4, yc5, yf5, yc6, yf6, yc7, yf7, yc8, yf8, yc9, yf9, yc10, yf10, yc11, yf11⟩ := BQ.cf12; have yl := BQ.lt
               go_wp2
               refine put24_ret BP BQ (by omega) (by omega) (by omega) HB fun WF F0 F1 HBF => ?_
               clear BP BQ HB xc0 xf0 xc1 xf1 xc2 xf2 xc3 xf3 xc4 xf4 xc5 xf5 xc6 xf6 xc7 xf7 xc8 xf8 xc9 xf9 xc10 xf10 xc11 xf11 xl yc0 yf0 yc1 yf1 yc2 yf2 yc3 yf3 yc4 yf4 yc5 yf5 yc6 yf6 yc7 yf7 yc8 yf8 yc9 yf9 yc10 yf10 yc11 yf11 yl
               have m0 := F0.c 0 rfl; have n0 := F1.c 0 rfl; have m1 := F0.c 1 rfl; have n1 := F1.c 1 rfl; have m2 := F0.c 2 rfl; have n2 := F1.c 2 rfl; have m3 := F0.c 3 rfl; have n3 := F1.c 3 rfl; have m4 := F0.c 4 rfl; have n4 := F1.c 4 rfl; have m5 := F0.c 5 rfl; have n5 := F1.c 5 rfl; have m6 := F0.c 6 rfl; have n6 := F1.c 6 rfl; have m7 := F0.c 7 rfl; have n7 := F1.c 7 rfl; have m8 := F0.c 8 rfl; have n8 := F1.c 8 rfl; have m9 := F0.c 9 rfl; have n9 := F1.c 9 rfl; have m10 := F0.c 10 rfl; have n10 := F1.c 10 rfl; have m11 := F0.c 11 rfl; have n11 := F1.c 11 rfl
               refine bodyPost_ret (v := .tuple #[.int .i64 0, .agg #[.int .u64 0, .int .u64 0, .int .u64 0, .int .u64 0, .int .u64 0, .int .u64 0, .int .u64 0, .int .u64 0, .int .u64 0, .int .u64 0, .int .u64 0, .int .u64 0], .agg #[.int .u64 0, .int .u64 0, .int .u64 0, .int .u64 0, .int .u64 0, .int .u64 0, .int .u64 0, .int .u64 0, .int .u64 0, .int .u64 0, .int .u64 0, .int .u64 0]]) (by simp [results, Tryz.results137, go_sem, m0, n0, m1, n1, m2, n2, m3, n3, m4, n4, m5, n5, m6, n6, m7, n7, m8, n8, m9, n9, m10, n10, m11, n11]) rfl ?_
               exact ⟨by rw [HO.out], by first | exact HBF | exact HBF.drew⟩
             · have hA' := Bool.eq_false_iff.2 hA
               rw [hA']
               have EQ := eqSp fx fy lx ly
               by_cases hE : fx = lx ∧ fy = ly
               · have HO : Hid (alongV a b c d p q u v = .tuple #[.int .i64 1, .agg #[.int .u64 (ww3 fx), .int .u64 (ww2 fx), .int .u64 (ww1 fx), .int .u64 (ww0 fx), .int .u64 (ww3 fy), .int .u64 (ww2 fy), .int .u64 (ww1 fy), .int .u64 (ww0 fy), .int .u64 (ww3 1), .int .u64 (ww2 1), .int .u64 (ww1 1), .int .u64 (ww0 1)], .agg #[.int .u64 0, .int .u64 0, .int .u64 0, .int .u64 0, .int .u64 0, .int .u64 0, .int .u64 0, .int .u64 0, .int .u64 0, .int .u64 0, .int .u64 0, .int .u64 0]]) := by show _ = _; unfold alongV; rw [HFX.out, HFY.out, HLX.out, HLY.out, if_neg (by rw [hA']; rintro (h | h); exact h hT; cases h), if_pos hE]
                 rw [show (decide (fx = lx) && decide (fy = ly)) = true by rw [hE.1, hE.2]; simp] at EQ
                 have PO := pointOfI fx fy (by omega) (by omega)
                 clear hA hA' hT hT' hT2 TT hE
                 obtain ⟨sc0, sc1, sc2, sc3⟩ := BS.cs4; have sl := BS.lt; obtain ⟨tc0, tc1, tc2, tc3⟩ := BT.cs4; have tl := BT.lt; obtain ⟨fc0, ff0, fc1, ff1⟩ := BF.cf2; have fl := BF.lt; obtain ⟨lc0, lf0, lc1, lf1⟩ := BL.cf2; have ll := BL.lt
                 go_wp2_with fail
                 refine (PO _).mono ?_
                 rintro e w18 ⟨rfl, hB⟩
                 replace BS := BS.step hB
                 replace BT := BT.step hB
                 replace BF := BF.step hB
                 replace BL := BL.step hB
                 replace BP := BP.step hB
                 replace BQ := BQ.step hB
                 replace HB := HB.trans (hB.mono HB.size)
                 clear hB sc0 sc1 sc2 sc3 sl tc0 tc1 tc2 tc3 tl fc0 ff0 fc1 ff1 fl lc0 lf0 lc1 lf1 ll
                 clear BS BT BF BL PO EQ
                 obtain ⟨xc0, xf0, xc1, xf1, xc2, xf2, xc3, xf3, xc4, xf4, xc5, xf5, xc6, xf6, xc7, xf7, xc8, xf8, xc9, xf9, xc10, xf10, xc11, xf11⟩ := BP.cf12; have xl := BP.lt; obtain ⟨yc0, yf0, yc1, yf1, yc2, yf2, yc3, yf3, yc4, yf4, yc5, yf5, yc6, yf6, yc7, yf7, yc8, yf8, yc9, yf9, yc10, yf10, yc11, yf11⟩ := BQ.cf12; have yl := BQ.lt
                 go_wp2
                 refine put24_ret BP BQ (by omega) (by omega) (by omega) HB fun WF F0 F1 HBF => ?_
                 clear BP BQ HB xc0 xf0 xc1 xf1 xc2 xf2 xc3 xf3 xc4 xf4 xc5 xf5 xc6 xf6 xc7 xf7 xc8 xf8 xc9 xf9 xc10 xf10 xc11 xf11 xl yc0 yf0 yc1 yf1 yc2 yf2 yc3 yf3 yc4 yf4 yc5 yf5 yc6 yf6 yc7 yf7 yc8 yf8 yc9 yf9 yc10 yf10 yc11 yf11 yl
                 have m0 := F0.c 0 rfl; have n0 := F1.c 0 rfl; have m1 := F0.c 1 rfl; have n1 := F1.c 1 rfl; have m2 := F0.c 2 rfl; have n2 := F1.c 2 rfl; have m3 := F0.c 3 rfl; have n3 := F1.c 3 rfl; have m4 := F0.c 4 rfl; have n4 := F1.c 4 rfl; have m5 := F0.c 5 rfl; have n5 := F1.c 5 rfl; have m6 := F0.c 6 rfl; have n6 := F1.c 6 rfl; have m7 := F0.c 7 rfl; have n7 := F1.c 7 rfl; have m8 := F0.c 8 rfl; have n8 := F1.c 8 rfl; have m9 := F0.c 9 rfl; have n9 := F1.c 9 rfl; have m10 := F0.c 10 rfl; have n10 := F1.c 10 rfl; have m11 := F0.c 11 rfl; have n11 := F1.c 11 rfl
                 refine bodyPost_ret (v := .tuple #[.int .i64 1, .agg #[.int .u64 (ww3 fx), .int .u64 (ww2 fx), .int .u64 (ww1 fx), .int .u64 (ww0 fx), .int .u64 (ww3 fy), .int .u64 (ww2 fy), .int .u64 (ww1 fy), .int .u64 (ww0 fy), .int .u64 (ww3 1), .int .u64 (ww2 1), .int .u64 (ww1 1), .int .u64 (ww0 1)], .agg #[.int .u64 0, .int .u64 0, .int .u64 0, .int .u64 0, .int .u64 0, .int .u64 0, .int .u64 0, .int .u64 0, .int .u64 0, .int .u64 0, .int .u64 0, .int .u64 0]]) (by simp [results, Tryz.results137, go_sem, m0, n0, m1, n1, m2, n2, m3, n3, m4, n4, m5, n5, m6, n6, m7, n7, m8, n8, m9, n9, m10, n10, m11, n11]) rfl ?_
                 exact ⟨by rw [HO.out], by first | exact HBF | exact HBF.drew⟩
               · have HO : Hid (alongV a b c d p q u v = .tuple #[.int .i64 2, .agg #[.int .u64 (ww3 fx), .int .u64 (ww2 fx), .int .u64 (ww1 fx), .int .u64 (ww0 fx), .int .u64 (ww3 fy), .int .u64 (ww2 fy), .int .u64 (ww1 fy), .int .u64 (ww0 fy), .int .u64 (ww3 1), .int .u64 (ww2 1), .int .u64 (ww1 1), .int .u64 (ww0 1)], .agg #[.int .u64 (ww3 lx), .int .u64 (ww2 lx), .int .u64 (ww1 lx), .int .u64 (ww0 lx), .int .u64 (ww3 ly), .int .u64 (ww2 ly), .int .u64 (ww1 ly), .int .u64 (ww0 ly), .int .u64 (ww3 1), .int .u64 (ww2 1), .int .u64 (ww1 1), .int .u64 (ww0 1)]]) := by show _ = _; unfold alongV; rw [HFX.out, HFY.out, HLX.out, HLY.out, if_neg (by rw [hA']; rintro (h | h); exact h hT; cases h), if_neg hE]
                 rw [show (decide (fx = lx) && decide (fy = ly)) = false by rw [← Bool.decide_and]; exact decide_eq_false hE] at EQ
                 have PO := pointOfI fx fy (by omega) (by omega)
                 have PL := pointOfI lx ly (by omega) (by omega)
                 clear hA hA' hT hT' hT2 TT hE
                 clear BS BT
                 have tok1 : True := trivial
                 obtain ⟨fc0, ff0, fc1, ff1⟩ := BF.cf2; have fl := BF.lt; obtain ⟨lc0, lf0, lc1, lf1⟩ := BL.cf2; have ll := BL.lt
                 go_upto_region 10 with fail
                 clear fc0 ff0 fc1 ff1 fl lc0 lf0 lc1 lf1 ll
                 go_region_held3 (fun w' => w'.cell? ⟨gF, 0, none⟩ = some (.int .i64 fx) ∧ w'.cell? ⟨gF, 1, none⟩ = some (.int .i64 fy) ∧ w'.cell? ⟨gL, 0, none⟩ = some (.int .i64 lx) ∧ w'.cell? ⟨gL, 1, none⟩ = some (.int .i64 ly)) ((refine al_cells ?_ ?_ <;> repeat (first | (with_reducible exact BF) | (with_reducible exact BL) | (with_reducible refine Blk.drew ?_) | (with_reducible refine Blk.set12 ?_ (by omega)))))
                   (first
                     | (go_at_call 110; have _t := tok1; refine (PO _).mono ?_; rintro e w19 ⟨rfl, hB⟩; (first | (replace BF := BF.step hB; replace BL := BL.step hB; replace BP := BP.step hB; replace BQ := BQ.step hB; replace HB := HB.trans (hB.mono HB.size)) | (replace BF := BF.drew.step hB; replace BL := BL.drew.step hB; replace BP := BP.drew.step hB; replace BQ := BQ.drew.step hB; replace HB := HB.drew.trans (hB.mono HB.drew.size))); clear hB; clear tok1 _t)
                     | (go_at_call 110; refine (PL _).mono ?_; rintro e w20 ⟨rfl, hB⟩; (first | (replace BF := BF.step hB; replace BL := BL.step hB; replace BP := BP.step hB; replace BQ := BQ.step hB; replace HB := HB.trans (hB.mono HB.size)) | (replace BF := BF.drew.step hB; replace BL := BL.drew.step hB; replace BP := BP.drew.step hB; replace BQ := BQ.drew.step hB; replace HB := HB.drew.trans (hB.mono HB.drew.size))); clear hB; obtain ⟨xc0, xf0, xc1, xf1, xc2, xf2, xc3, xf3, xc4, xf4, xc5, xf5, xc6, xf6, xc7, xf7, xc8, xf8, xc9, xf9, xc10, xf10, xc11, xf11⟩ := BP.cf12; have xl := BP.lt; obtain ⟨yc0, yf0, yc1, yf1, yc2, yf2, yc3, yf3, yc4, yf4, yc5, yf5, yc6, yf6, yc7, yf7, yc8, yf8, yc9, yf9, yc10, yf10, yc11, yf11⟩ := BQ.cf12; have yl := BQ.lt))
                 all_goals clear BF BL PO PL EQ
                 all_goals (
                   go_wp2
                   refine put24_ret BP BQ (by omega) (by omega) (by omega) HB fun WF F0 F1 HBF => ?_
                   clear BP BQ HB xc0 xf0 xc1 xf1 xc2 xf2 xc3 xf3 xc4 xf4 xc5 xf5 xc6 xf6 xc7 xf7 xc8 xf8 xc9 xf9 xc10 xf10 xc11 xf11 xl yc0 yf0 yc1 yf1 yc2 yf2 yc3 yf3 yc4 yf4 yc5 yf5 yc6 yf6 yc7 yf7 yc8 yf8 yc9 yf9 yc10 yf10 yc11 yf11 yl
                   have m0 := F0.c 0 rfl; have n0 := F1.c 0 rfl; have m1 := F0.c 1 rfl; have n1 := F1.c 1 rfl; have m2 := F0.c 2 rfl; have n2 := F1.c 2 rfl; have m3 := F0.c 3 rfl; have n3 := F1.c 3 rfl; have m4 := F0.c 4 rfl; have n4 := F1.c 4 rfl; have m5 := F0.c 5 rfl; have n5 := F1.c 5 rfl; have m6 := F0.c 6 rfl; have n6 := F1.c 6 rfl; have m7 := F0.c 7 rfl; have n7 := F1.c 7 rfl; have m8 := F0.c 8 rfl; have n8 := F1.c 8 rfl; have m9 := F0.c 9 rfl; have n9 := F1.c 9 rfl; have m10 := F0.c 10 rfl; have n10 := F1.c 10 rfl; have m11 := F0.c 11 rfl; have n11 := F1.c 11 rfl
                   refine bodyPost_ret (v := .tuple #[.int .i64 2, .agg #[.int .u64 (ww3 fx), .int .u64 (ww2 fx), .int .u64 (ww1 fx), .int .u64 (ww0 fx), .int .u64 (ww3 fy), .int .u64 (ww2 fy), .int .u64 (ww1 fy), .int .u64 (ww0 fy), .int .u64 (ww3 1), .int .u64 (ww2 1), .int .u64 (ww1 1), .int .u64 (ww0 1)], .agg #[.int .u64 (ww3 lx), .int .u64 (ww2 lx), .int .u64 (ww1 lx), .int .u64 (ww0 lx), .int .u64 (ww3 ly), .int .u64 (ww2 ly), .int .u64 (ww1 ly), .int .u64 (ww0 ly), .int .u64 (ww3 1), .int .u64 (ww2 1), .int .u64 (ww1 1), .int .u64 (ww0 1)]]) (by simp [results, Tryz.results137, go_sem, m0, n0, m1, n1, m2, n2, m3, n3, m4, n4, m5, n5, m6, n6, m7, n7, m8, n8, m9, n9, m10, n10, m11, n11]) rfl ?_
                   exact ⟨by rw [HO.out], by first | exact HBF | exact HBF.drew⟩)
           · have hT2 : (turnZ a b c d p q != 0) = true := by simpa using hT
             have HO : Hid (alongV a b c d p q u v = .tuple #[.int .i64 0, .agg #[.int .u64 0, .int .u64 0, .int .u64 0, .int .u64 0, .int .u64 0, .int .u64 0, .int .u64 0, .int .u64 0, .int .u64 0, .int .u64 0, .int .u64 0, .int .u64 0], .agg #[.int .u64 0, .int .u64 0, .int .u64 0, .int .u64 0, .int .u64 0, .int .u64 0, .int .u64 0, .int .u64 0, .int .u64 0, .int .u64 0, .int .u64 0, .int .u64 0]]) := by show _ = _; unfold alongV; rw [if_pos (Or.inl hT)]
             clear TT BS BT BF BL
             generalize turnZ a b c d p q = tz at *
             obtain ⟨xc0, xf0, xc1, xf1, xc2, xf2, xc3, xf3, xc4, xf4, xc5, xf5, xc6, xf6, xc7, xf7, xc8, xf8, xc9, xf9, xc10, xf10, xc11, xf11⟩ := BP.cf12; have xl := BP.lt; obtain ⟨yc0, yf0, yc1, yf1, yc2, yf2, yc3, yf3, yc4, yf4, yc5, yf5, yc6, yf6, yc7, yf7, yc8, yf8, yc9, yf9, yc10, yf10, yc11, yf11⟩ := BQ.cf12; have yl := BQ.lt
             go_wp2
             refine put24_ret BP BQ (by omega) (by omega) (by omega) HB fun WF F0 F1 HBF => ?_
             clear BP BQ HB xc0 xf0 xc1 xf1 xc2 xf2 xc3 xf3 xc4 xf4 xc5 xf5 xc6 xf6 xc7 xf7 xc8 xf8 xc9 xf9 xc10 xf10 xc11 xf11 xl yc0 yf0 yc1 yf1 yc2 yf2 yc3 yf3 yc4 yf4 yc5 yf5 yc6 yf6 yc7 yf7 yc8 yf8 yc9 yf9 yc10 yf10 yc11 yf11 yl
             have m0 := F0.c 0 rfl; have n0 := F1.c 0 rfl; have m1 := F0.c 1 rfl; have n1 := F1.c 1 rfl; have m2 := F0.c 2 rfl; have n2 := F1.c 2 rfl; have m3 := F0.c 3 rfl; have n3 := F1.c 3 rfl; have m4 := F0.c 4 rfl; have n4 := F1.c 4 rfl; have m5 := F0.c 5 rfl; have n5 := F1.c 5 rfl; have m6 := F0.c 6 rfl; have n6 := F1.c 6 rfl; have m7 := F0.c 7 rfl; have n7 := F1.c 7 rfl; have m8 := F0.c 8 rfl; have n8 := F1.c 8 rfl; have m9 := F0.c 9 rfl; have n9 := F1.c 9 rfl; have m10 := F0.c 10 rfl; have n10 := F1.c 10 rfl; have m11 := F0.c 11 rfl; have n11 := F1.c 11 rfl
             refine bodyPost_ret (v := .tuple #[.int .i64 0, .agg #[.int .u64 0, .int .u64 0, .int .u64 0, .int .u64 0, .int .u64 0, .int .u64 0, .int .u64 0, .int .u64 0, .int .u64 0, .int .u64 0, .int .u64 0, .int .u64 0], .agg #[.int .u64 0, .int .u64 0, .int .u64 0, .int .u64 0, .int .u64 0, .int .u64 0, .int .u64 0, .int .u64 0, .int .u64 0, .int .u64 0, .int .u64 0, .int .u64 0]]) (by simp [results, Tryz.results137, go_sem, m0, n0, m1, n1, m2, n2, m3, n3, m4, n4, m5, n5, m6, n6, m7, n7, m8, n8, m9, n9, m10, n10, m11, n11]) rfl ?_
             exact ⟨by rw [HO.out], by first | exact HBF | exact HBF.drew⟩
theorem share_quot {v V g z : Int} (hV : V = if z < 0 then -v else v) (hg : 0 < g) (hd : g ∣ v) : V / g = shareZ v g (decide (z < 0)) := by
 obtain ⟨a, rfl⟩ := hd
 have hd : ∀ z : Int, (g * z) / g = z := fun z => Int.mul_ediv_cancel_left z (by omega)
 have hn : (((g * a).natAbs : Nat) : Int) / g = (a.natAbs : Int) := by
   rw [Int.natAbs_mul, Int.natCast_mul, Int.natAbs_of_nonneg (by omega)]
   exact hd _
 have hs : g * a < 0 ↔ a < 0 := by
   constructor
   · intro h
     apply Decidable.byContradiction
     intro h'
     have := Int.mul_nonneg (a := g) (b := a) (by omega) (by omega)
     omega
   · intro h
     exact Int.mul_neg_of_pos_of_neg hg h
 unfold shareZ
 rw [hn, hV]
 simp only [hs]
 by_cases h2 : z < 0
 · rw [if_pos h2, ← Int.mul_neg, hd]
   by_cases h1 : a < 0 <;> simp [h1, h2] <;> omega
 · rw [if_neg h2, hd]
   by_cases h1 : a < 0 <;> simp [h1, h2] <;> omega
theorem low3 {x y z X Y Z : Int} (hX : X = if z < 0 then -x else x) (hY : Y = if z < 0 then -y else y) (hZ : Z = if z < 0 then -z else z) (hz : z ≠ 0) : X / (Int.gcd (Int.gcd x y : Int) z : Int) = shareZ x (Int.gcd (Int.gcd x y : Int) z : Int) (decide (z < 0)) ∧ Y / (Int.gcd (Int.gcd x y : Int) z : Int) = shareZ y (Int.gcd (Int.gcd x y : Int) z : Int) (decide (z < 0)) ∧ Z / (Int.gcd (Int.gcd x y : Int) z : Int) = shareZ z (Int.gcd (Int.gcd x y : Int) z : Int) (decide (z < 0)) ∧ (Int.gcd (Int.gcd X Y : Int) Z : Int) = (Int.gcd (Int.gcd x y : Int) z : Int) ∧ 0 < (Int.gcd (Int.gcd x y : Int) z : Int) := by
 have g0 : 0 < Int.gcd (Int.gcd x y : Int) z := Int.gcd_pos_of_ne_zero_right _ hz
 have hgp : 0 < (Int.gcd (Int.gcd x y : Int) z : Int) := by omega
 have dxy : (Int.gcd (Int.gcd x y : Int) z : Int) ∣ (Int.gcd x y : Int) := Int.gcd_dvd_left _ _
 refine ⟨share_quot hX hgp (Int.dvd_trans dxy (Int.gcd_dvd_left _ _)), share_quot hY hgp (Int.dvd_trans dxy (Int.gcd_dvd_right _ _)), share_quot hZ hgp (Int.gcd_dvd_right _ _), ?_, hgp⟩
 rw [hX, hY, hZ]
 split
 · simp [Int.gcd]
 · rfl
def CutT3 (w wx : World) (x y z : Int) (k : Nat) : Prop :=
 ∃ (s1 : Bool) (o1 : Option Addr) (n1 c1 : Nat) (d1 : List Int) (s2 : Bool) (o2 : Option Addr) (n2 c2 : Nat) (d2 : List Int) (s3 : Bool) (o3 : Option Addr) (n3 c3 : Nat) (d3 : List Int), ArgsB w wx [[.bool s1, .slice o1 n1 c1], [.bool s2, .slice o2 n2 c2], [.bool s3, .slice o3 n3 c3], [.bool false, .slice none 0 0, .bool false, .slice none 0 0, .bool false, .slice none 0 0]] ∧ IsNum wx s1 o1 n1 c1 d1 x k ∧ IsNum wx s2 o2 n2 c2 d2 y k ∧ IsNum wx s3 o3 n3 c3 d3 z k
theorem ArgsB.w0 {w W : World} {a0 a1 u0 u1 : Value} {b c r : List Value} (h : ArgsB w W [[a0, a1], b, c, r]) : ArgsB w ((W.setCell ⟨w.heap.size, 0, none⟩ u0).setCell ⟨w.heap.size, 1, none⟩ u1) [[u0, u1], b, c, r] := by
 refine ⟨(h.1.setCell (by simp) _).setCell (by simp) _, fun j vs hj => ?_⟩
 match j, hj with
 | 0, hj => cases hj; exact Blk.stored2 (h.b 0 rfl) _ _
 | 1, hj => cases hj; exact Blk.set2 (h.b 1 rfl) (by omega)
 | 2, hj => cases hj; exact Blk.set2 (h.b 2 rfl) (by omega)
 | 3, hj => cases hj; exact Blk.set2 (h.b 3 rfl) (by omega)
 | j + 4, hj => simp at hj
theorem ArgsB.w1 {w W : World} {a0 a1 u0 u1 : Value} {b c r : List Value} (h : ArgsB w W [b, [a0, a1], c, r]) : ArgsB w ((W.setCell ⟨w.heap.size + 1, 0, none⟩ u0).setCell ⟨w.heap.size + 1, 1, none⟩ u1) [b, [u0, u1], c, r] := by
 refine ⟨(h.1.setCell (by simp) _).setCell (by simp) _, fun j vs hj => ?_⟩
 match j, hj with
 | 0, hj => cases hj; exact Blk.set2 (h.b 0 rfl) (by omega)
 | 1, hj => cases hj; exact Blk.stored2 (h.b 1 rfl) _ _
 | 2, hj => cases hj; exact Blk.set2 (h.b 2 rfl) (by omega)
 | 3, hj => cases hj; exact Blk.set2 (h.b 3 rfl) (by omega)
 | j + 4, hj => simp at hj
theorem ArgsB.w2 {w W : World} {a0 a1 u0 u1 : Value} {b c r : List Value} (h : ArgsB w W [b, c, [a0, a1], r]) : ArgsB w ((W.setCell ⟨w.heap.size + 1 + 1, 0, none⟩ u0).setCell ⟨w.heap.size + 1 + 1, 1, none⟩ u1) [b, c, [u0, u1], r] := by
 refine ⟨(h.1.setCell (by simp; omega) _).setCell (by simp; omega) _, fun j vs hj => ?_⟩
 match j, hj with
 | 0, hj => cases hj; exact Blk.set2 (h.b 0 rfl) (by omega)
 | 1, hj => cases hj; exact Blk.set2 (h.b 1 rfl) (by omega)
 | 2, hj => cases hj; exact Blk.stored2 (h.b 2 rfl) _ _
 | 3, hj => cases hj; exact Blk.set2 (h.b 3 rfl) (by omega)
 | j + 4, hj => simp at hj
theorem cutT3_up {w W : World} {x y z : Int} {k : Nat} {p q r : Bool} {po qo ro : Option Addr} {p1 p2 q1 q2 r1 r2 : Nat} {s1 : Bool} {o1 : Option Addr} {n1 c1 : Nat} {d1 : List Int} {s2 : Bool} {o2 : Option Addr} {n2 c2 : Nat} {d2 : List Int} {s3 : Bool} {o3 : Option Addr} {n3 c3 : Nat} {d3 : List Int} (h : ArgsB w W [[.bool p, .slice po p1 p2], [.bool q, .slice qo q1 q2], [.bool r, .slice ro r1 r2], [.bool false, .slice none 0 0, .bool false, .slice none 0 0, .bool false, .slice none 0 0]]) (N1 : IsNum W s1 o1 n1 c1 d1 x k) (N2 : IsNum W s2 o2 n2 c2 d2 y k) (N3 : IsNum W s3 o3 n3 c3 d3 z k) :
   CutT3 w ((((((W.setCell ⟨w.heap.size, 0, none⟩ (.bool s1)).setCell ⟨w.heap.size, 1, none⟩ (.slice o1 n1 c1)).setCell ⟨w.heap.size + 1, 0, none⟩ (.bool s2)).setCell ⟨w.heap.size + 1, 1, none⟩ (.slice o2 n2 c2)).setCell ⟨w.heap.size + 1 + 1, 0, none⟩ (.bool s3)).setCell ⟨w.heap.size + 1 + 1, 1, none⟩ (.slice o3 n3 c3)) x y z k := by
 have A0 : Blk W w.heap.size _ := h.b 0 rfl
 have A1 : Blk ((W.setCell ⟨w.heap.size, 0, none⟩ (.bool s1)).setCell ⟨w.heap.size, 1, none⟩ (.slice o1 n1 c1)) (w.heap.size + 1) _ := (h.w0 (u0 := .bool s1) (u1 := .slice o1 n1 c1)).b 1 rfl
 have A2 : Blk ((((W.setCell ⟨w.heap.size, 0, none⟩ (.bool s1)).setCell ⟨w.heap.size, 1, none⟩ (.slice o1 n1 c1)).setCell ⟨w.heap.size + 1, 0, none⟩ (.bool s2)).setCell ⟨w.heap.size + 1, 1, none⟩ (.slice o2 n2 c2)) (w.heap.size + 1 + 1) _ := (h.w0 (u0 := .bool s1) (u1 := .slice o1 n1 c1)).w1.b 2 rfl
 exact ⟨s1, o1, n1, c1, d1, s2, o2, n2, c2, d2, s3, o3, n3, c3, d3, h.w0.w1.w2, num_put (num_put (num_put N1 A0 _ _) A1 _ _) A2 _ _, num_put (num_put (num_put N2 A0 _ _) A1 _ _) A2 _ _, num_put (num_put (num_put N3 A0 _ _) A1 _ _) A2 _ _⟩
theorem m3_cells {s4 : Bool} {o4 : Option Addr} {n4 c4 : Nat} {s5 : Bool} {o5 : Option Addr} {n5 c5 : Nat} {s6 : Bool} {o6 : Option Addr} {n6 c6 : Nat} {w W : World} (h : ArgsB w W [[.bool s4, .slice o4 n4 c4], [.bool s5, .slice o5 n5 c5], [.bool s6, .slice o6 n6 c6], [.bool false, .slice none 0 0, .bool false, .slice none 0 0, .bool false, .slice none 0 0]]) : (fun w' => w'.cell? ⟨w.heap.size, 0, none⟩ = some (.bool s4) ∧ w'.cell? ⟨w.heap.size, 1, none⟩ = some (.slice o4 n4 c4) ∧ w'.cell? ⟨w.heap.size + 1, 0, none⟩ = some (.bool s5) ∧ w'.cell? ⟨w.heap.size + 1, 1, none⟩ = some (.slice o5 n5 c5) ∧ w'.cell? ⟨w.heap.size + 2, 0, none⟩ = some (.bool s6) ∧ w'.cell? ⟨w.heap.size + 2, 1, none⟩ = some (.slice o6 n6 c6)) W := ⟨(h.b 0 rfl).c 0 rfl, (h.b 0 rfl).c 1 rfl, (h.b 1 rfl).c 0 rfl, (h.b 1 rfl).c 1 rfl, (h.b 2 rfl).c 0 rfl, (h.b 2 rfl).c 1 rfl⟩
set_option maxRecDepth 100000 in
set_option maxHeartbeats 8000000 in
theorem l3Make_any (s1 : Bool) (o1 : Option Addr) (n1 c1 : Nat) (d1 : List Int) (s2 : Bool) (o2 : Option Addr) (n2 c2 : Nat) (d2 : List Int) (s3 : Bool) (o3 : Option Addr) (n3 c3 : Nat) (d3 : List Int) (x y z : Int) (k : Nat) (hk : 2 ≤ k) (hk2 : k ≤ 8000) (w : World) (N1 : IsNum w s1 o1 n1 c1 d1 x k) (N2 : IsNum w s2 o2 n2 c2 d2 y k) (N3 : IsNum w s3 o3 n3 c3 d3 z k) (hz : z ≠ 0) :
   Calls Tryz.prog 94 #[.agg #[.bool s1, .slice o1 n1 c1], .agg #[.bool s2, .slice o2 n2 c2], .agg #[.bool s3, .slice o3 n3 c3]] w (L3P (k + 3) (shareZ x (Int.gcd (Int.gcd x y : Int) z : Int) (decide (z < 0))) (shareZ y (Int.gcd (Int.gcd x y : Int) z : Int) (decide (z < 0))) (shareZ z (Int.gcd (Int.gcd x y : Int) z : Int) (decide (z < 0))) w) := by
 have T0 : ArgsB w ((((w.alloc (.cells #[.bool s1, .slice o1 n1 c1] 88)).alloc (.cells #[.bool s2, .slice o2 n2 c2] 88)).alloc (.cells #[.bool s3, .slice o3 n3 c3] 88)).alloc (.cells #[.bool false, .slice none 0 0, .bool false, .slice none 0 0, .bool false, .slice none 0 0] 90)) [[.bool s1, .slice o1 n1 c1], [.bool s2, .slice o2 n2 c2], [.bool s3, .slice o3 n3 c3], [.bool false, .slice none 0 0, .bool false, .slice none 0 0, .bool false, .slice none 0 0]] := ar4 _ _ _ _ _ _ _ _ w
 replace N1 := N1.step T0.below
 replace N2 := N2.step T0.below
 replace N3 := N3.step T0.below
 obtain ⟨X, hX⟩ : ∃ X, X = if z < 0 then -x else x := ⟨_, rfl⟩
 obtain ⟨Y, hY⟩ : ∃ Y, Y = if z < 0 then -y else y := ⟨_, rfl⟩
 obtain ⟨Z, hZ⟩ : ∃ Z, Z = if z < 0 then -z else z := ⟨_, rfl⟩
 obtain ⟨e1, e2, e3, e4, e5⟩ := low3 hX hY hZ hz
 go_enter Tryz.func94, Tryz.ntmps94
 go_upto_region 1 with fail
 generalize ((((w.alloc (.cells #[.bool s1, .slice o1 n1 c1] 88)).alloc (.cells #[.bool s2, .slice o2 n2 c2] 88)).alloc (.cells #[.bool s3, .slice o3 n3 c3] 88)).alloc (.cells #[.bool false, .slice none 0 0, .bool false, .slice none 0 0, .bool false, .slice none 0 0] 90)) = W at *
 go_cut [9] (fun p wx => p = .bool (decide (z < 0)) ∧ wx = W)
 case first =>
   have HN : Hid (s3 = decide (z < 0)) := N3.neg
   have aB : Blk _ (w.heap.size) _ := T0.b 0 rfl; obtain ⟨a0c, a0f, a1c, a1f⟩ := aB.cf2; have alt := aB.lt; clear aB; have bB : Blk _ (w.heap.size + 1) _ := T0.b 1 rfl; obtain ⟨b0c, b0f, b1c, b1f⟩ := bB.cf2; have blt := bB.lt; clear bB; have eB : Blk _ (w.heap.size + 1 + 1) _ := T0.b 2 rfl; obtain ⟨e0c, e0f, e1c, e1f⟩ := eB.cf2; have elt := eB.lt; clear eB
   go_wp2_with fail
   go_meet
   case rel => exact ⟨by rw [HN.out], rfl⟩
 case rest =>
  obtain ⟨rfl, rfl⟩ := hcut
  rename_i hk'
  refine hk' _ _ ?_
  go_cut [] (fun wx => CutT3 w wx X Y Z k)
  case first =>
   by_cases hn : z < 0
   · obtain rfl : s3 = true := by rw [N3.neg]; simpa using hn
     rw [if_pos hn] at hX hY hZ
     rw [decide_eq_true hn]
     have aB : Blk _ (w.heap.size) _ := T0.b 0 rfl; obtain ⟨a0c, a0f, a1c, a1f⟩ := aB.cf2; have alt := aB.lt; clear aB; have bB : Blk _ (w.heap.size + 1) _ := T0.b 1 rfl; obtain ⟨b0c, b0f, b1c, b1f⟩ := bB.cf2; have blt := bB.lt; clear bB; have eB : Blk _ (w.heap.size + 1 + 1) _ := T0.b 2 rfl; obtain ⟨e0c, e0f, e1c, e1f⟩ := eB.cf2; have elt := eB.lt; clear eB
     have tok1 : True := trivial
     have tok2 : True := trivial
     replace T0 := T0.drew; replace N1 := N1.drew; replace N2 := N2.drew; replace N3 := N3.drew
     go_wp2_with fail
     go_region_with ((first
       | (go_at_call 144; have _t := tok1; refine (neg_any s1 o1 n1 c1 d1 x k _ N1).mono ?_; rintro e w1 ⟨s4, o4, n4, c4, d4, rfl, N4, hB⟩; replace T0 := T0.step hB; replace N2 := N2.step hB; replace N3 := N3.step hB; clear hB tok1 _t a0c a0f a1c a1f alt b0c b0f b1c b1f blt e0c e0f e1c e1f elt; have aB : Blk _ (w.heap.size) _ := T0.b 0 rfl; obtain ⟨a0c, a0f, a1c, a1f⟩ := aB.cf2; have alt := aB.lt; clear aB; have bB : Blk _ (w.heap.size + 1) _ := T0.b 1 rfl; obtain ⟨b0c, b0f, b1c, b1f⟩ := bB.cf2; have blt := bB.lt; clear bB; have eB : Blk _ (w.heap.size + 1 + 1) _ := T0.b 2 rfl; obtain ⟨e0c, e0f, e1c, e1f⟩ := eB.cf2; have elt := eB.lt; clear eB)
       | (go_at_call 144; have _t := tok2; refine (neg_any s2 o2 n2 c2 d2 y k _ N2).mono ?_; rintro e w2 ⟨s5, o5, n5, c5, d5, rfl, N5, hB⟩; replace T0 := T0.step hB; replace N4 := N4.step hB; replace N3 := N3.step hB; clear hB tok2 _t a0c a0f a1c a1f alt b0c b0f b1c b1f blt e0c e0f e1c e1f elt; have aB : Blk _ (w.heap.size) _ := T0.b 0 rfl; obtain ⟨a0c, a0f, a1c, a1f⟩ := aB.cf2; have alt := aB.lt; clear aB; have bB : Blk _ (w.heap.size + 1) _ := T0.b 1 rfl; obtain ⟨b0c, b0f, b1c, b1f⟩ := bB.cf2; have blt := bB.lt; clear bB; have eB : Blk _ (w.heap.size + 1 + 1) _ := T0.b 2 rfl; obtain ⟨e0c, e0f, e1c, e1f⟩ := eB.cf2; have elt := eB.lt; clear eB)
       | (go_at_call 144; refine (neg_any true o3 n3 c3 d3 z k _ N3).mono ?_; rintro e w3 ⟨s6, o6, n6, c6, d6, rfl, N6, hB⟩; replace T0 := T0.step hB; replace N4 := N4.step hB; replace N5 := N5.step hB; clear hB a0c a0f a1c a1f alt b0c b0f b1c b1f blt e0c e0f e1c e1f elt; have aB : Blk _ (w.heap.size) _ := T0.b 0 rfl; obtain ⟨a0c, a0f, a1c, a1f⟩ := aB.cf2; have alt := aB.lt; clear aB; have bB : Blk _ (w.heap.size + 1) _ := T0.b 1 rfl; obtain ⟨b0c, b0f, b1c, b1f⟩ := bB.cf2; have blt := bB.lt; clear bB; have eB : Blk _ (w.heap.size + 1 + 1) _ := T0.b 2 rfl; obtain ⟨e0c, e0f, e1c, e1f⟩ := eB.cf2; have elt := eB.lt; clear eB)))
     all_goals go_wp2_with fail
     all_goals go_meet
     all_goals rw [← hX] at N4
     all_goals rw [← hY] at N5
     all_goals rw [← hZ] at N6
     all_goals first | exact cutT3_up T0 N4 N5 N6 | exact (cutT3_up T0 N4 N5 N6).drew
   · obtain rfl : s3 = false := by rw [N3.neg]; simpa using hn
     rw [if_neg hn] at hX hY hZ
     rw [decide_eq_false hn]
     subst hX hY hZ
     have aB : Blk _ (w.heap.size) _ := T0.b 0 rfl; obtain ⟨a0c, a0f, a1c, a1f⟩ := aB.cf2; have alt := aB.lt; clear aB; have bB : Blk _ (w.heap.size + 1) _ := T0.b 1 rfl; obtain ⟨b0c, b0f, b1c, b1f⟩ := bB.cf2; have blt := bB.lt; clear bB; have eB : Blk _ (w.heap.size + 1 + 1) _ := T0.b 2 rfl; obtain ⟨e0c, e0f, e1c, e1f⟩ := eB.cf2; have elt := eB.lt; clear eB
     go_wp2_with fail
     go_meet
     case rel => exact ⟨s1, o1, n1, c1, d1, s2, o2, n2, c2, d2, false, o3, n3, c3, d3, T0, N1, N2, N3⟩
  case rest =>
   clear T0 N1 N2 N3 hk'
   obtain ⟨s4, o4, n4, c4, d4, s5, o5, n5, c5, d5, s6, o6, n6, c6, d6, T0, N1, N2, N3⟩ := hcut
   have tok1 : True := trivial
   have hl0 := (T0.b 3 rfl).lt
   go_upto_region 3 with fail
   go_cut [7] (fun p wx => CutN w wx [[.bool s4, .slice o4 n4 c4], [.bool s5, .slice o5 n5 c5], [.bool s6, .slice o6 n6 c6], [.bool false, .slice none 0 0, .bool false, .slice none 0 0, .bool false, .slice none 0 0]] (Int.gcd (Int.gcd x y : Int) z : Int) k (w.heap.size + 4) p ∧ IsNum wx s4 o4 n4 c4 d4 X k ∧ IsNum wx s5 o5 n5 c5 d5 Y k ∧ IsNum wx s6 o6 n6 c6 d6 Z k)
   case first =>
     go_region_held3 (fun w' => w'.cell? ⟨w.heap.size, 0, none⟩ = some (.bool s4) ∧ w'.cell? ⟨w.heap.size, 1, none⟩ = some (.slice o4 n4 c4) ∧ w'.cell? ⟨w.heap.size + 1, 0, none⟩ = some (.bool s5) ∧ w'.cell? ⟨w.heap.size + 1, 1, none⟩ = some (.slice o5 n5 c5) ∧ w'.cell? ⟨w.heap.size + 2, 0, none⟩ = some (.bool s6) ∧ w'.cell? ⟨w.heap.size + 2, 1, none⟩ = some (.slice o6 n6 c6)) ((refine m3_cells ?_ <;> repeat (first | (with_reducible exact T0) | (with_reducible refine ArgsB.drew ?_) | (with_reducible refine ArgsB.alloc ?_ _) | (with_reducible refine ArgsB.set2g ?_ (by simp; omega) _ _))))
       (first
         | (go_at_call 107; have _t := tok1; refine (gcd_any s4 s5 o4 o5 n4 n5 c4 c5 k d4 d5 _ _ _ (by with_reducible first | exact N1 | exact N1.drew | exact N1.alloc _ | exact (N1.alloc _).drew) (by with_reducible first | exact N2 | exact N2.drew | exact N2.alloc _ | exact (N2.alloc _).drew) (by omega)).mono ?_; rintro e k1 ⟨s7, o7, n7, c7, d7, rfl, N7, hB⟩; (first | (have T1 : ArgsB w k1 _ := (by with_reducible exact T0.step hB); have tltk1 := (T0.b 3 rfl).lt; replace N1 := N1.below hB; replace N2 := N2.below hB; replace N3 := N3.below hB; (try (replace G0 := G0.step hB; obtain ⟨j0c, j0f, j1c, j1f⟩ := G0.cf2; have jlt := G0.lt))) | (have T1 : ArgsB w k1 _ := (by with_reducible exact T0.drew.step hB); have tltk1 := (T0.b 3 rfl).lt; replace N1 := N1.drew.below hB; replace N2 := N2.drew.below hB; replace N3 := N3.drew.below hB; (try (replace G0 := G0.drew.step hB; obtain ⟨j0c, j0f, j1c, j1f⟩ := G0.cf2; have jlt := G0.lt))) | (have T1 : ArgsB w k1 _ := (by with_reducible exact (T0.alloc _).step hB); have tltk1 := (T0.b 3 rfl).lt; replace N1 := (N1.alloc _).below hB; replace N2 := (N2.alloc _).below hB; replace N3 := (N3.alloc _).below hB; (have G0 := (Blk.new _ [.bool false, .slice none 0 0] _ rfl).step hB; obtain ⟨j0c, j0f, j1c, j1f⟩ := G0.cf2; have jlt := G0.lt)) | (have T1 : ArgsB w k1 _ := (by with_reducible exact (T0.alloc _).drew.step hB); have tltk1 := (T0.b 3 rfl).lt; replace N1 := (N1.alloc _).drew.below hB; replace N2 := (N2.alloc _).drew.below hB; replace N3 := (N3.alloc _).drew.below hB; (have G0 := (Blk.new _ [.bool false, .slice none 0 0] _ rfl).drew.step hB; obtain ⟨j0c, j0f, j1c, j1f⟩ := G0.cf2; have jlt := G0.lt))); clear T0; have T0 := T1; clear T1; clear hB tok1 _t)
         | (go_at_call 107; refine (gcd_any s7 s6 o7 o6 n7 n6 c7 c6 k d7 d6 _ _ _ (by with_reducible first | exact N7 | exact N7.drew | exact N7.alloc _ | exact (N7.alloc _).drew) (by with_reducible first | exact N3 | exact N3.drew | exact N3.alloc _ | exact (N3.alloc _).drew) (by omega)).mono ?_; rintro e k2 ⟨s8, o8, n8, c8, d8, rfl, N8, hB⟩; (first | (have T1 : ArgsB w k2 _ := (by with_reducible exact T0.step hB); have tltk2 := (T0.b 3 rfl).lt; replace N1 := N1.below hB; replace N2 := N2.below hB; replace N3 := N3.below hB; (try (replace G0 := G0.step hB; obtain ⟨j0c, j0f, j1c, j1f⟩ := G0.cf2; have jlt := G0.lt))) | (have T1 : ArgsB w k2 _ := (by with_reducible exact T0.drew.step hB); have tltk2 := (T0.b 3 rfl).lt; replace N1 := N1.drew.below hB; replace N2 := N2.drew.below hB; replace N3 := N3.drew.below hB; (try (replace G0 := G0.drew.step hB; obtain ⟨j0c, j0f, j1c, j1f⟩ := G0.cf2; have jlt := G0.lt))) | (have T1 : ArgsB w k2 _ := (by with_reducible exact (T0.alloc _).step hB); have tltk2 := (T0.b 3 rfl).lt; replace N1 := (N1.alloc _).below hB; replace N2 := (N2.alloc _).below hB; replace N3 := (N3.alloc _).below hB; (have G0 := (Blk.new _ [.bool false, .slice none 0 0] _ rfl).step hB; obtain ⟨j0c, j0f, j1c, j1f⟩ := G0.cf2; have jlt := G0.lt)) | (have T1 : ArgsB w k2 _ := (by with_reducible exact (T0.alloc _).drew.step hB); have tltk2 := (T0.b 3 rfl).lt; replace N1 := (N1.alloc _).drew.below hB; replace N2 := (N2.alloc _).drew.below hB; replace N3 := (N3.alloc _).drew.below hB; (have G0 := (Blk.new _ [.bool false, .slice none 0 0] _ rfl).drew.step hB; obtain ⟨j0c, j0f, j1c, j1f⟩ := G0.cf2; have jlt := G0.lt))); clear T0; have T0 := T1; clear T1; clear hB; rw [e4] at N8))
     all_goals go_wp2_with fail
     all_goals go_meet
     all_goals have hl := (T0.b 3 rfl).lt
     all_goals first | (with_reducible exact ⟨cutN_new T0 N8 (by omega), N1.alloc _, N2.alloc _, N3.alloc _⟩) | (with_reducible exact ⟨cutN_set T0 N8 G0 (by omega) (by simp; omega), N1.set2 G0 _ _, N2.set2 G0 _ _, N3.set2 G0 _ _⟩)
   case rest =>
    clear T0 N1 N2 N3 hl0 tok1
    obtain ⟨⟨gb, s7, o7, n7, c7, d7, hp, hgb, GB, N7, T0⟩, N1, N2, N3⟩ := hcut
    subst hp
    go_upto_region 4 with fail
    obtain ⟨q, hq⟩ : ∃ q, cmpI (Int.gcd (Int.gcd x y : Int) z : Int) 1 = q := ⟨_, rfl⟩
    go_cut [24] (fun p wx => p = .bool (!(q == 0)) ∧ ArgsB w wx [[.bool s4, .slice o4 n4 c4], [.bool s5, .slice o5 n5 c5], [.bool s6, .slice o6 n6 c6], [.bool false, .slice none 0 0, .bool false, .slice none 0 0, .bool false, .slice none 0 0]] ∧ Blk wx gb [.bool s7, .slice o7 n7 c7] ∧ IsNum wx s4 o4 n4 c4 d4 X k ∧ IsNum wx s5 o5 n5 c5 d5 Y k ∧ IsNum wx s6 o6 n6 c6 d6 Z k ∧ IsNum wx s7 o7 n7 c7 d7 (Int.gcd (Int.gcd x y : Int) z : Int) k)
    case first =>
      replace N7 := N7.drew; replace N1 := N1.drew; replace N2 := N2.drew; replace N3 := N3.drew; replace T0 := T0.drew
      go_region_held3 (fun w' => w'.cell? ⟨gb, 0, none⟩ = some (.bool s7) ∧ w'.cell? ⟨gb, 1, none⟩ = some (.slice o7 n7 c7)) ((refine mk_cells ?_ <;> repeat (first | (with_reducible exact GB) | (with_reducible refine Blk.drew ?_))))
        (first
          | (go_at_call 91; refine (int_any 1 _ (by decide) (by decide)).mono ?_; rintro e w4 ⟨s9, o9, n9, c9, d9, rfl, N9, hB⟩; replace GB := GB.drew.step hB; replace T0 := T0.step hB; replace N1 := N1.step hB; replace N2 := N2.step hB; replace N3 := N3.step hB; replace N7 := N7.step hB; clear hB)
          | (go_at_call 106; refine (cmp_any s7 s9 o7 o9 n7 n9 c7 c9 k d7 d9 _ _ _ N7 (num_more N9 hk) (by omega)).mono ?_; rintro e w5 ⟨rfl, hB⟩; rw [hq]; replace GB := GB.step hB; replace T0 := T0.step hB; replace N1 := N1.step hB; replace N2 := N2.step hB; replace N3 := N3.step hB; replace N7 := N7.step hB; clear hB))
      all_goals go_wp2_with fail
      all_goals go_meet
      all_goals exact ⟨rfl, T0, GB, N1, N2, N3, N7⟩
    case rest =>
      clear T0 N1 N2 N3 N7 GB
      obtain ⟨rfl, T0, GB, N1, N2, N3, N7⟩ := hcut
      rename_i hk'
      refine hk' _ _ ?_
      have hlb := GB.lt
      go_cut [] (fun wx => CutT3 w wx (shareZ x (Int.gcd (Int.gcd x y : Int) z : Int) (decide (z < 0))) (shareZ y (Int.gcd (Int.gcd x y : Int) z : Int) (decide (z < 0))) (shareZ z (Int.gcd (Int.gcd x y : Int) z : Int) (decide (z < 0))) (k + 3))
      case first =>
        by_cases h1 : (Int.gcd (Int.gcd x y : Int) z : Int) = 1
        · obtain rfl : q = 0 := by rw [← hq, h1]; decide
          have f1 : X = shareZ x (Int.gcd (Int.gcd x y : Int) z : Int) (decide (z < 0)) := by rw [← e1, h1, Int.ediv_one]
          have f2 : Y = shareZ y (Int.gcd (Int.gcd x y : Int) z : Int) (decide (z < 0)) := by rw [← e2, h1, Int.ediv_one]
          have f3 : Z = shareZ z (Int.gcd (Int.gcd x y : Int) z : Int) (decide (z < 0)) := by rw [← e3, h1, Int.ediv_one]
          rw [f1] at N1
          rw [f2] at N2
          rw [f3] at N3
          go_wp2_with fail
          go_meet
          case rel => exact ⟨s4, o4, n4, c4, d4, s5, o5, n5, c5, d5, s6, o6, n6, c6, d6, T0, num_more N1 (by omega), num_more N2 (by omega), num_more N3 (by omega)⟩
        · have hq1 : (!(q == 0)) = true := by
            have h3 : q ≠ 0 := by
              rw [← hq, cmpI_gt (by omega)]
              decide
            simp [h3]
          rw [hq1]
          have aB : Blk _ (w.heap.size) _ := T0.b 0 rfl; obtain ⟨a0c, a0f, a1c, a1f⟩ := aB.cf2; have alt := aB.lt; clear aB; have bB : Blk _ (w.heap.size + 1) _ := T0.b 1 rfl; obtain ⟨b0c, b0f, b1c, b1f⟩ := bB.cf2; have blt := bB.lt; clear bB; have eB : Blk _ (w.heap.size + 1 + 1) _ := T0.b 2 rfl; obtain ⟨e0c, e0f, e1c, e1f⟩ := eB.cf2; have elt := eB.lt; clear eB
          obtain ⟨g0c, g1c⟩ := GB.cs2
          go_wp2_with fail
          refine (div_any s4 s7 o4 o7 n4 n7 c4 c7 k d4 d7 _ _ _ N1 N7 (by omega) (by omega)).mono ?_
          rintro e u0 ⟨s10, o10, n10, c10, d10, sr0, or0, nr0, cr0, dr0, rfl, M0, -, hB⟩
          rw [e1] at M0
          replace T0 := T0.step hB; replace GB := GB.step hB; replace N7 := N7.step hB; replace N2 := N2.step hB; replace N3 := N3.step hB
          clear hB g0c g1c N1 a0c a0f a1c a1f alt b0c b0f b1c b1f blt e0c e0f e1c e1f elt
          have aB : Blk _ (w.heap.size) _ := T0.b 0 rfl; obtain ⟨a0c, a0f, a1c, a1f⟩ := aB.cf2; have alt := aB.lt; clear aB; have bB : Blk _ (w.heap.size + 1) _ := T0.b 1 rfl; obtain ⟨b0c, b0f, b1c, b1f⟩ := bB.cf2; have blt := bB.lt; clear bB; have eB : Blk _ (w.heap.size + 1 + 1) _ := T0.b 2 rfl; obtain ⟨e0c, e0f, e1c, e1f⟩ := eB.cf2; have elt := eB.lt; clear eB
          go_upto_region 6 with fail
          clear a0c a0f a1c a1f alt b0c b0f b1c b1f blt e0c e0f e1c e1f elt
          have RB : Blk u0 (w.heap.size) _ := T0.b 0 rfl
          replace M0 := num_put M0 RB (.bool s10) (.slice o10 n10 c10)
          replace N2 := num_put N2 RB (.bool s10) (.slice o10 n10 c10)
          replace N3 := num_put N3 RB (.bool s10) (.slice o10 n10 c10)
          replace N7 := num_put N7 RB (.bool s10) (.slice o10 n10 c10)
          replace GB := GB.set2 (g := w.heap.size) (v0 := .bool s10) (v1 := .slice o10 n10 c10) (by omega)
          replace T0 := T0.w0 (u0 := .bool s10) (u1 := .slice o10 n10 c10)
          clear RB
          generalize ((u0.setCell ⟨w.heap.size, 0, none⟩ (.bool s10)).setCell ⟨w.heap.size, 1, none⟩ (.slice o10 n10 c10)) = U0 at *
          have aB : Blk _ (w.heap.size) _ := T0.b 0 rfl; obtain ⟨a0c, a0f, a1c, a1f⟩ := aB.cf2; have alt := aB.lt; clear aB; have bB : Blk _ (w.heap.size + 1) _ := T0.b 1 rfl; obtain ⟨b0c, b0f, b1c, b1f⟩ := bB.cf2; have blt := bB.lt; clear bB; have eB : Blk _ (w.heap.size + 1 + 1) _ := T0.b 2 rfl; obtain ⟨e0c, e0f, e1c, e1f⟩ := eB.cf2; have elt := eB.lt; clear eB
          obtain ⟨g0c, g1c⟩ := GB.cs2
          go_wp2_with fail
          refine (div_any s5 s7 o5 o7 n5 n7 c5 c7 k d5 d7 _ _ _ N2 N7 (by omega) (by omega)).mono ?_
          rintro e u1 ⟨s11, o11, n11, c11, d11, sr1, or1, nr1, cr1, dr1, rfl, M1, -, hB⟩
          rw [e2] at M1
          replace T0 := T0.step hB; replace GB := GB.step hB; replace N7 := N7.step hB; replace M0 := M0.step hB; replace N3 := N3.step hB
          clear hB g0c g1c N2 a0c a0f a1c a1f alt b0c b0f b1c b1f blt e0c e0f e1c e1f elt
          have aB : Blk _ (w.heap.size) _ := T0.b 0 rfl; obtain ⟨a0c, a0f, a1c, a1f⟩ := aB.cf2; have alt := aB.lt; clear aB; have bB : Blk _ (w.heap.size + 1) _ := T0.b 1 rfl; obtain ⟨b0c, b0f, b1c, b1f⟩ := bB.cf2; have blt := bB.lt; clear bB; have eB : Blk _ (w.heap.size + 1 + 1) _ := T0.b 2 rfl; obtain ⟨e0c, e0f, e1c, e1f⟩ := eB.cf2; have elt := eB.lt; clear eB
          go_upto_region 7 with fail
          clear a0c a0f a1c a1f alt b0c b0f b1c b1f blt e0c e0f e1c e1f elt
          have RB : Blk u1 (w.heap.size + 1) _ := T0.b 1 rfl
          replace M0 := num_put M0 RB (.bool s11) (.slice o11 n11 c11)
          replace M1 := num_put M1 RB (.bool s11) (.slice o11 n11 c11)
          replace N3 := num_put N3 RB (.bool s11) (.slice o11 n11 c11)
          replace N7 := num_put N7 RB (.bool s11) (.slice o11 n11 c11)
          replace GB := GB.set2 (g := w.heap.size + 1) (v0 := .bool s11) (v1 := .slice o11 n11 c11) (by omega)
          replace T0 := T0.w1 (u0 := .bool s11) (u1 := .slice o11 n11 c11)
          clear RB
          generalize ((u1.setCell ⟨w.heap.size + 1, 0, none⟩ (.bool s11)).setCell ⟨w.heap.size + 1, 1, none⟩ (.slice o11 n11 c11)) = U1 at *
          have aB : Blk _ (w.heap.size) _ := T0.b 0 rfl; obtain ⟨a0c, a0f, a1c, a1f⟩ := aB.cf2; have alt := aB.lt; clear aB; have bB : Blk _ (w.heap.size + 1) _ := T0.b 1 rfl; obtain ⟨b0c, b0f, b1c, b1f⟩ := bB.cf2; have blt := bB.lt; clear bB; have eB : Blk _ (w.heap.size + 1 + 1) _ := T0.b 2 rfl; obtain ⟨e0c, e0f, e1c, e1f⟩ := eB.cf2; have elt := eB.lt; clear eB
          obtain ⟨g0c, g1c⟩ := GB.cs2
          go_wp2_with fail
          refine (div_any s6 s7 o6 o7 n6 n7 c6 c7 k d6 d7 _ _ _ N3 N7 (by omega) (by omega)).mono ?_
          rintro e u2 ⟨s12, o12, n12, c12, d12, sr2, or2, nr2, cr2, dr2, rfl, M2, -, hB⟩
          rw [e3] at M2
          replace T0 := T0.step hB; replace GB := GB.step hB; replace N7 := N7.step hB; replace M0 := M0.step hB; replace M1 := M1.step hB
          clear hB g0c g1c N3 a0c a0f a1c a1f alt b0c b0f b1c b1f blt e0c e0f e1c e1f elt
          have aB : Blk _ (w.heap.size) _ := T0.b 0 rfl; obtain ⟨a0c, a0f, a1c, a1f⟩ := aB.cf2; have alt := aB.lt; clear aB; have bB : Blk _ (w.heap.size + 1) _ := T0.b 1 rfl; obtain ⟨b0c, b0f, b1c, b1f⟩ := bB.cf2; have blt := bB.lt; clear bB; have eB : Blk _ (w.heap.size + 1 + 1) _ := T0.b 2 rfl; obtain ⟨e0c, e0f, e1c, e1f⟩ := eB.cf2; have elt := eB.lt; clear eB
          clear a0c a0f a1c a1f alt b0c b0f b1c b1f blt e0c e0f e1c e1f elt
          have RB : Blk u2 (w.heap.size + 1 + 1) _ := T0.b 2 rfl
          obtain ⟨r0c, r0f, r1c, r1f⟩ := RB.cf2; have rlt := RB.lt
          have M3 := num_put M0 RB (.bool s12) (.slice o12 n12 c12)
          have M4 := num_put M1 RB (.bool s12) (.slice o12 n12 c12)
          have M5 := num_put M2 RB (.bool s12) (.slice o12 n12 c12)
          have T1 := T0.w2 (u0 := .bool s12) (u1 := .slice o12 n12 c12)
          clear M0 M1 M2 T0 RB GB N7
          go_wp2_with fail
          go_meet
          case rel => exact ⟨s10, o10, n10, c10, d10, s11, o11, n11, c11, d11, s12, o12, n12, c12, d12, T1, M3, M4, M5⟩
      case rest =>
        clear T0 N1 N2 N3 N7 GB hk' hlb
        obtain ⟨s10, o10, n10, c10, d10, s11, o11, n11, c11, d11, s12, o12, n12, c12, d12, T0, N1, N2, N3⟩ := hcut
        have aB : Blk _ (w.heap.size) _ := T0.b 0 rfl; obtain ⟨a0c, a0f, a1c, a1f⟩ := aB.cf2; have alt := aB.lt; clear aB; have bB : Blk _ (w.heap.size + 1) _ := T0.b 1 rfl; obtain ⟨b0c, b0f, b1c, b1f⟩ := bB.cf2; have blt := bB.lt; clear bB; have eB : Blk _ (w.heap.size + 1 + 1) _ := T0.b 2 rfl; obtain ⟨e0c, e0f, e1c, e1f⟩ := eB.cf2; have elt := eB.lt; clear eB
        have R0 : Blk _ (w.heap.size + 1 + 1 + 1) _ := T0.b 3 rfl
        obtain ⟨r0c, r0f, r1c, r1f, r2c, r2f, r3c, r3f, r4c, r4f, r5c, r5f⟩ := R0.cf6
        have rlt := R0.lt
        have HB := T0.below
        have M1 := num_set6 N1 R0 (.bool s10) (.slice o10 n10 c10) (.bool s11) (.slice o11 n11 c11) (.bool s12) (.slice o12 n12 c12)
        have M2 := num_set6 N2 R0 (.bool s10) (.slice o10 n10 c10) (.bool s11) (.slice o11 n11 c11) (.bool s12) (.slice o12 n12 c12)
        have M3 := num_set6 N3 R0 (.bool s10) (.slice o10 n10 c10) (.bool s11) (.slice o11 n11 c11) (.bool s12) (.slice o12 n12 c12)
        clear T0 N1 N2 N3 R0
        go_wp2
        refine bodyPost_ret (v := .agg #[.bool s10, .slice o10 n10 c10, .bool s11, .slice o11 n11 c11, .bool s12, .slice o12 n12 c12]) (by simp [results, Tryz.results94, go_sem, r0c, r1c, r2c, r3c, r4c, r5c]) rfl ?_
        refine ⟨s10, o10, n10, c10, d10, s11, o11, n11, c11, d11, s12, o12, n12, c12, d12, rfl, M1, M2, M3, ?_⟩
        repeat' (refine Below.setCell ?_ (by simp; try omega) _)
        exact HB
theorem sizeS_det (n : Int) (h0 : -9223372036854775807 ≤ n) (h1 : n ≤ 9223372036854775807) (w : World) : Calls Tryz.prog 174 #[.int .i64 n] w (VP (.int .u64 (n.natAbs : Int)) w) := by
 by_cases h : 0 ≤ n
 · have e1 : max n (-n) = n := by omega
   have e2 : (n.natAbs : Int) = n := by omega
   rw [e2]
   go_enter Tryz.func174, Tryz.ntmps174
   go_wp2
   go_ret
   exact ⟨rfl, Below.refl _ _⟩
 · have e1 : max n (-n) = -n := by omega
   have e2 : (n.natAbs : Int) = -n := by omega
   rw [e2]
   go_enter Tryz.func174, Tryz.ntmps174
   go_wp2
   go_ret
   exact ⟨rfl, Below.refl _ _⟩
theorem gcd_3a (x y z : Int) : Int.gcd (y.natAbs : Int) (Int.gcd (x.natAbs : Int) (z.natAbs : Int) : Int) = Int.gcd (Int.gcd x y : Int) z := by
 unfold Int.gcd
 simp only [Int.natAbs_natCast]
 rw [Nat.gcd_assoc, Nat.gcd_left_comm]
theorem gcd3_dvd (x y z : Int) : (Int.gcd (Int.gcd x y : Int) z : Int) ∣ x ∧ (Int.gcd (Int.gcd x y : Int) z : Int) ∣ y ∧ (Int.gcd (Int.gcd x y : Int) z : Int) ∣ z := by
 have h1 : (Int.gcd (Int.gcd x y : Int) z : Int) ∣ (Int.gcd x y : Int) := Int.gcd_dvd_left _ _
 exact ⟨Int.dvd_trans h1 (Int.gcd_dvd_left _ _), Int.dvd_trans h1 (Int.gcd_dvd_right _ _), Int.gcd_dvd_right _ _⟩
theorem tdiv_share {n g z : Int} (hg : 0 < g) (hd : g ∣ n) : n.tdiv (if z < 0 then -g else g) = shareZ n g (decide (z < 0)) := by
 obtain ⟨k, rfl⟩ := hd
 have e : ((g * k).natAbs : Int) / g = (k.natAbs : Int) := by
   rw [Int.natAbs_mul, Int.natCast_mul, show ((g.natAbs : Nat) : Int) = g by omega]
   exact Int.mul_ediv_cancel_left _ (by omega)
 have s1 : g * k < 0 ↔ k < 0 := by
   constructor
   · intro h
     apply Decidable.byContradiction
     intro h'
     have := Int.mul_nonneg (a := g) (b := k) (by omega) (by omega)
     omega
   · intro h
     exact Int.mul_neg_of_pos_of_neg hg h
 unfold shareZ
 rw [e]
 by_cases hz : z < 0
 · rw [if_pos hz, decide_eq_true hz, Int.tdiv_neg, Int.mul_tdiv_cancel_left _ (by omega)]
   by_cases hk : k < 0
   · rw [decide_eq_true (s1.2 hk), if_neg (by decide)]; omega
   · rw [decide_eq_false (fun h => hk (s1.1 h)), if_pos (by decide)]; omega
 · rw [if_neg hz, decide_eq_false hz, Int.mul_tdiv_cancel_left _ (by omega)]
   by_cases hk : k < 0
   · rw [decide_eq_true (s1.2 hk), if_pos (by decide)]; omega
   · rw [decide_eq_false (fun h => hk (s1.1 h)), if_neg (by decide)]; omega
theorem share_abs {n g : Int} {b : Bool} (hg : 0 < g) : -(n.natAbs : Int) ≤ shareZ n g b ∧ shareZ n g b ≤ (n.natAbs : Int) := by
 have h1 := Int.ediv_nonneg (a := (n.natAbs : Int)) (b := g) (by omega) (by omega)
 have h2 := Int.ediv_le_self (a := (n.natAbs : Int)) g (by omega)
 unfold shareZ
 split <;> omega
set_option maxRecDepth 100000 in
set_option maxHeartbeats 4000000 in
theorem smallPoint_det (x y z : Int) (hx : -9000000000000000000 ≤ x ∧ x ≤ 9000000000000000000) (hy : -9000000000000000000 ≤ y ∧ y ≤ 9000000000000000000) (hz : -8000000000000 ≤ z ∧ z ≤ 8000000000000) (h0 : z ≠ 0) (w : World) : Calls Tryz.prog 139 #[.int .i64 x, .int .i64 y, .int .i64 z] w (VP (.agg #[.int .u64 (ww3 (shareZ x (Int.gcd (Int.gcd x y : Int) z : Int) (decide (z < 0)))), .int .u64 (ww2 (shareZ x (Int.gcd (Int.gcd x y : Int) z : Int) (decide (z < 0)))), .int .u64 (ww1 (shareZ x (Int.gcd (Int.gcd x y : Int) z : Int) (decide (z < 0)))), .int .u64 (ww0 (shareZ x (Int.gcd (Int.gcd x y : Int) z : Int) (decide (z < 0)))), .int .u64 (ww3 (shareZ y (Int.gcd (Int.gcd x y : Int) z : Int) (decide (z < 0)))), .int .u64 (ww2 (shareZ y (Int.gcd (Int.gcd x y : Int) z : Int) (decide (z < 0)))), .int .u64 (ww1 (shareZ y (Int.gcd (Int.gcd x y : Int) z : Int) (decide (z < 0)))), .int .u64 (ww0 (shareZ y (Int.gcd (Int.gcd x y : Int) z : Int) (decide (z < 0)))), .int .u64 (ww3 (shareZ z (Int.gcd (Int.gcd x y : Int) z : Int) (decide (z < 0)))), .int .u64 (ww2 (shareZ z (Int.gcd (Int.gcd x y : Int) z : Int) (decide (z < 0)))), .int .u64 (ww1 (shareZ z (Int.gcd (Int.gcd x y : Int) z : Int) (decide (z < 0)))), .int .u64 (ww0 (shareZ z (Int.gcd (Int.gcd x y : Int) z : Int) (decide (z < 0))))]) w) := by
 have gp : 0 < Int.gcd (Int.gcd x y : Int) z := Int.gcd_pos_of_ne_zero_right _ h0
 have gpI : (0 : Int) < (Int.gcd (Int.gcd x y : Int) z : Int) := by omega
 obtain ⟨d1, d2, d3⟩ := gcd3_dvd x y z
 have gz : (Int.gcd (Int.gcd x y : Int) z : Int) ≤ (z.natAbs : Int) := Int.le_of_dvd (by omega) (Int.dvd_natAbs.2 d3)
 have gx : Int.gcd (x.natAbs : Int) (z.natAbs : Int) ≤ z.natAbs := Nat.gcd_le_right _ (by omega)
 have S1 := sizeS_det x (by omega) (by omega)
 have S2 := sizeS_det y (by omega) (by omega)
 have S3 := sizeS_det z (by omega) (by omega)
 have C1 := gcdW_any (x.natAbs : Int) (z.natAbs : Int) ⟨by omega, by omega⟩ ⟨by omega, by omega⟩
 have C2 := gcdW_any (y.natAbs : Int) (Int.gcd (x.natAbs : Int) (z.natAbs : Int) : Int) ⟨by omega, by omega⟩ ⟨by omega, by omega⟩
 unfold GcdWP at C1 C2
 rw [gcd_3a] at C2
 have q1 := share_abs (n := x) (b := decide (z < 0)) gpI; have q2 := share_abs (n := y) (b := decide (z < 0)) gpI; have q3 := share_abs (n := z) (b := decide (z < 0)) gpI
 have t1 := tdiv_share (z := z) gpI d1; have t2 := tdiv_share (z := z) gpI d2; have t3 := tdiv_share (z := z) gpI d3
 generalize (shareZ x (Int.gcd (Int.gcd x y : Int) z : Int) (decide (z < 0))) = sx at *
 generalize (shareZ y (Int.gcd (Int.gcd x y : Int) z : Int) (decide (z < 0))) = sy at *
 generalize (shareZ z (Int.gcd (Int.gcd x y : Int) z : Int) (decide (z < 0))) = sz at *
 clear d1 d2 d3 gp
 generalize (Int.gcd (Int.gcd x y : Int) z : Int) = gg at *
 generalize (Int.gcd (x.natAbs : Int) (z.natAbs : Int) : Int) = g1 at *
 have B0 := Blk.new w [.int .u64 0, .int .u64 0, .int .u64 0, .int .u64 0, .int .u64 0, .int .u64 0, .int .u64 0, .int .u64 0, .int .u64 0, .int .u64 0, .int .u64 0, .int .u64 0] 44 rfl
 have HB : Below w.heap.size w (w.alloc (.cells #[.int .u64 0, .int .u64 0, .int .u64 0, .int .u64 0, .int .u64 0, .int .u64 0, .int .u64 0, .int .u64 0, .int .u64 0, .int .u64 0, .int .u64 0, .int .u64 0] 44)) := (Below.refl _ _).alloc (Nat.le_refl _) _
 have zb : (z.natAbs : Int) ≤ 8000000000000 := by omega
 have xb : (x.natAbs : Int) ≤ 9000000000000000000 := by omega
 have yb : (y.natAbs : Int) ≤ 9000000000000000000 := by omega
 generalize (x.natAbs : Int) = ax at *
 generalize (y.natAbs : Int) = ay at *
 generalize (z.natAbs : Int) = az at *
 by_cases hz0 : z < 0
 · rw [if_pos hz0] at t1 t2 t3
   have t1' : -(x.tdiv gg) = sx := by rw [← Int.tdiv_neg]; exact t1
   have t2' : -(y.tdiv gg) = sy := by rw [← Int.tdiv_neg]; exact t2
   have t3' : -(z.tdiv gg) = sz := by rw [← Int.tdiv_neg]; exact t3
   go_enter Tryz.func139, Tryz.ntmps139
   go_wp2_with fail
   refine (S1 _).mono ?_
   rintro e w1 ⟨rfl, hB⟩
   replace B0 := B0.step hB; replace HB := HB.trans (hB.mono HB.size)
   clear hB
   go_wp2_with fail
   refine (S3 _).mono ?_
   rintro e w2 ⟨rfl, hB⟩
   replace B0 := B0.step hB; replace HB := HB.trans (hB.mono HB.size)
   clear hB
   go_wp2_with fail
   refine (C1 _).mono ?_
   rintro e w3 ⟨rfl, hB⟩
   replace B0 := B0.step hB; replace HB := HB.trans (hB.mono HB.size)
   clear hB
   go_wp2_with fail
   refine (S2 _).mono ?_
   rintro e w4 ⟨rfl, hB⟩
   replace B0 := B0.step hB; replace HB := HB.trans (hB.mono HB.size)
   clear hB
   go_wp2_with fail
   refine (C2 _).mono ?_
   rintro e w5 ⟨rfl, hB⟩
   replace B0 := B0.step hB; replace HB := HB.trans (hB.mono HB.size)
   clear hB
   have hB0 : (-gg) ≠ 0 := by omega
   have O1 := fun w => implOf_det sx w (by omega) (by omega)
   have O2 := fun w => implOf_det sy w (by omega) (by omega)
   have O3 := fun w => implOf_det sz w (by omega) (by omega)
   have tok1 : True := trivial
   have tok2 : True := trivial
   go_upto_region 5 with fail
   have hw1 : IntKind.i64.wrap sx = sx := wrapI (by omega) (by omega)
   have hw2 : IntKind.i64.wrap sy = sy := wrapI (by omega) (by omega)
   have hw3 : IntKind.i64.wrap sz = sz := wrapI (by omega) (by omega)
   clear q1 q2 q3 gz gx zb xb yb S1 S2 S3 C1 C2
   go_region_held3 (fun _ => True) (trivial)
     (first
       | (go_at_call 159; have _t := tok1; refine (O1 _).mono ?_; rintro e w6 ⟨rfl, hB⟩; (first | (replace B0 := B0.step hB; replace HB := HB.trans (hB.mono HB.size)) | (replace B0 := B0.drew.step hB; replace HB := HB.drew.trans (hB.mono HB.drew.size))); clear hB; clear tok1 _t)
       | (go_at_call 159; have _t := tok2; refine (O2 _).mono ?_; rintro e w7 ⟨rfl, hB⟩; (first | (replace B0 := B0.step hB; replace HB := HB.trans (hB.mono HB.size)) | (replace B0 := B0.drew.step hB; replace HB := HB.drew.trans (hB.mono HB.drew.size))); clear hB; clear tok2 _t)
       | (go_at_call 159; refine (O3 _).mono ?_; rintro e w8 ⟨rfl, hB⟩; (first | (replace B0 := B0.step hB; replace HB := HB.trans (hB.mono HB.size)) | (replace B0 := B0.drew.step hB; replace HB := HB.drew.trans (hB.mono HB.drew.size))); clear hB; have oc0 := B0.c 0 rfl; have of0 := B0.f 0 rfl; have oc1 := B0.c 1 rfl; have of1 := B0.f 1 rfl; have oc2 := B0.c 2 rfl; have of2 := B0.f 2 rfl; have oc3 := B0.c 3 rfl; have of3 := B0.f 3 rfl; have oc4 := B0.c 4 rfl; have of4 := B0.f 4 rfl; have oc5 := B0.c 5 rfl; have of5 := B0.f 5 rfl; have oc6 := B0.c 6 rfl; have of6 := B0.f 6 rfl; have oc7 := B0.c 7 rfl; have of7 := B0.f 7 rfl; have oc8 := B0.c 8 rfl; have of8 := B0.f 8 rfl; have oc9 := B0.c 9 rfl; have of9 := B0.f 9 rfl; have oc10 := B0.c 10 rfl; have of10 := B0.f 10 rfl; have oc11 := B0.c 11 rfl; have of11 := B0.f 11 rfl; have ol := B0.lt))
   all_goals clear B0
   all_goals go_wp2
   all_goals refine bodyPost_ret (v := .agg #[.int .u64 (ww3 sx), .int .u64 (ww2 sx), .int .u64 (ww1 sx), .int .u64 (ww0 sx), .int .u64 (ww3 sy), .int .u64 (ww2 sy), .int .u64 (ww1 sy), .int .u64 (ww0 sy), .int .u64 (ww3 sz), .int .u64 (ww2 sz), .int .u64 (ww1 sz), .int .u64 (ww0 sz)]) (by simp [results, Tryz.results139, go_sem, oc0, oc1, oc2, oc3, oc4, oc5, oc6, oc7, oc8, oc9, oc10, oc11]) rfl ?_
   all_goals refine ⟨rfl, ?_⟩
   all_goals repeat' (refine Below.setCell ?_ (by simp) _)
   all_goals first | exact HB | exact HB.drew
 · rw [if_neg hz0] at t1 t2 t3
   go_enter Tryz.func139, Tryz.ntmps139
   go_wp2_with fail
   refine (S1 _).mono ?_
   rintro e w1 ⟨rfl, hB⟩
   replace B0 := B0.step hB; replace HB := HB.trans (hB.mono HB.size)
   clear hB
   go_wp2_with fail
   refine (S3 _).mono ?_
   rintro e w2 ⟨rfl, hB⟩
   replace B0 := B0.step hB; replace HB := HB.trans (hB.mono HB.size)
   clear hB
   go_wp2_with fail
   refine (C1 _).mono ?_
   rintro e w3 ⟨rfl, hB⟩
   replace B0 := B0.step hB; replace HB := HB.trans (hB.mono HB.size)
   clear hB
   go_wp2_with fail
   refine (S2 _).mono ?_
   rintro e w4 ⟨rfl, hB⟩
   replace B0 := B0.step hB; replace HB := HB.trans (hB.mono HB.size)
   clear hB
   go_wp2_with fail
   refine (C2 _).mono ?_
   rintro e w5 ⟨rfl, hB⟩
   replace B0 := B0.step hB; replace HB := HB.trans (hB.mono HB.size)
   clear hB
   have hB0 : gg ≠ 0 := by omega
   have O1 := fun w => implOf_det sx w (by omega) (by omega)
   have O2 := fun w => implOf_det sy w (by omega) (by omega)
   have O3 := fun w => implOf_det sz w (by omega) (by omega)
   have tok1 : True := trivial
   have tok2 : True := trivial
   go_upto_region 5 with fail
   have hw1 : IntKind.i64.wrap sx = sx := wrapI (by omega) (by omega)
   have hw2 : IntKind.i64.wrap sy = sy := wrapI (by omega) (by omega)
   have hw3 : IntKind.i64.wrap sz = sz := wrapI (by omega) (by omega)
   clear q1 q2 q3 gz gx zb xb yb S1 S2 S3 C1 C2
   go_region_held3 (fun _ => True) (trivial)
     (first
       | (go_at_call 159; have _t := tok1; refine (O1 _).mono ?_; rintro e w6 ⟨rfl, hB⟩; (first | (replace B0 := B0.step hB; replace HB := HB.trans (hB.mono HB.size)) | (replace B0 := B0.drew.step hB; replace HB := HB.drew.trans (hB.mono HB.drew.size))); clear hB; clear tok1 _t)
       | (go_at_call 159; have _t := tok2; refine (O2 _).mono ?_; rintro e w7 ⟨rfl, hB⟩; (first | (replace B0 := B0.step hB; replace HB := HB.trans (hB.mono HB.size)) | (replace B0 := B0.drew.step hB; replace HB := HB.drew.trans (hB.mono HB.drew.size))); clear hB; clear tok2 _t)
       | (go_at_call 159; refine (O3 _).mono ?_; rintro e w8 ⟨rfl, hB⟩; (first | (replace B0 := B0.step hB; replace HB := HB.trans (hB.mono HB.size)) | (replace B0 := B0.drew.step hB; replace HB := HB.drew.trans (hB.mono HB.drew.size))); clear hB; have oc0 := B0.c 0 rfl; have of0 := B0.f 0 rfl; have oc1 := B0.c 1 rfl; have of1 := B0.f 1 rfl; have oc2 := B0.c 2 rfl; have of2 := B0.f 2 rfl; have oc3 := B0.c 3 rfl; have of3 := B0.f 3 rfl; have oc4 := B0.c 4 rfl; have of4 := B0.f 4 rfl; have oc5 := B0.c 5 rfl; have of5 := B0.f 5 rfl; have oc6 := B0.c 6 rfl; have of6 := B0.f 6 rfl; have oc7 := B0.c 7 rfl; have of7 := B0.f 7 rfl; have oc8 := B0.c 8 rfl; have of8 := B0.f 8 rfl; have oc9 := B0.c 9 rfl; have of9 := B0.f 9 rfl; have oc10 := B0.c 10 rfl; have of10 := B0.f 10 rfl; have oc11 := B0.c 11 rfl; have of11 := B0.f 11 rfl; have ol := B0.lt))
   all_goals clear B0
   all_goals go_wp2
   all_goals refine bodyPost_ret (v := .agg #[.int .u64 (ww3 sx), .int .u64 (ww2 sx), .int .u64 (ww1 sx), .int .u64 (ww0 sx), .int .u64 (ww3 sy), .int .u64 (ww2 sy), .int .u64 (ww1 sy), .int .u64 (ww0 sy), .int .u64 (ww3 sz), .int .u64 (ww2 sz), .int .u64 (ww1 sz), .int .u64 (ww0 sz)]) (by simp [results, Tryz.results139, go_sem, oc0, oc1, oc2, oc3, oc4, oc5, oc6, oc7, oc8, oc9, oc10, oc11]) rfl ?_
   all_goals refine ⟨rfl, ?_⟩
   all_goals repeat' (refine Below.setCell ?_ (by simp) _)
   all_goals first | exact HB | exact HB.drew
end Go.Proofs.YteakhlipmmfilaaGreat
