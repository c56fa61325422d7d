/- Part 8 of the walks that the proof leans on. -/
import Derived.Test.YtmjlgmoohpnhfaaPart6
import Derived.Test.YtmjlgmoohpnhfaaPart7
import Derived.Deep.RegionHeld3
import Derived.Test.YtmjlgmoohpnhfaaPart3
import Derived.Deep.RegionWith
import Derived.Test.YtmjlgmoohpnhfaaPart4
/- Fractions in their order: the program's and the model's answer, and the law over both. -/
namespace Go.Proofs.Ytmjlgmoohpnhfaa
open Go.RowKit
theorem rightB_pos {x y : Int} (h : rightB x y = true) : 0 < y := by unfold rightB at h; simp at h; exact h.1
theorem cmpI_sub (a b : Int) : cmpI (a - b) 0 = cmpI a b := by
  rcases Int.lt_trichotomy a b with h | h | h
  · rw [cmpI_lt h, cmpI_lt (by omega)]
  · rw [cmpI_eq h, cmpI_eq (by omega)]
  · rw [cmpI_gt h, cmpI_gt (by omega)]
theorem prod_bound {u d : Int} (h1 : -57896044618658097711785492504343953926634992332820282019728792003956564819968 ≤ u) (h2 : u < 57896044618658097711785492504343953926634992332820282019728792003956564819968) (h3 : 0 < d) (h4 : d < 57896044618658097711785492504343953926634992332820282019728792003956564819968) :
    -3351951982485649274893506249551461531869841455148098344430890360930441007518386744200468574541725856922507964546621512713438470702986642486608412251521024 < u * d ∧ u * d < 3351951982485649274893506249551461531869841455148098344430890360930441007518386744200468574541725856922507964546621512713438470702986642486608412251521024 := by
  have e1 : u * d ≤ 57896044618658097711785492504343953926634992332820282019728792003956564819968 * d := Int.mul_le_mul_of_nonneg_right (by omega) (by omega)
  have e2 : -57896044618658097711785492504343953926634992332820282019728792003956564819968 * d ≤ u * d := Int.mul_le_mul_of_nonneg_right h1 (by omega)
  omega
theorem rc_cells {a3 a2 a1 a0 b3 b2 b1 b0 c3 c2 c1 c0 d3 d2 d1 d0 : Int} {w W : World} (h : ArgsB w W [[.int .u64 a3, .int .u64 a2, .int .u64 a1, .int .u64 a0, .int .u64 b3, .int .u64 b2, .int .u64 b1, .int .u64 b0], [.int .u64 c3, .int .u64 c2, .int .u64 c1, .int .u64 c0, .int .u64 d3, .int .u64 d2, .int .u64 d1, .int .u64 d0]]) : (fun w' => w'.cell? ⟨w.heap.size, 0, none⟩ = some (.int .u64 a3) ∧ w'.cell? ⟨w.heap.size, 1, none⟩ = some (.int .u64 a2) ∧ w'.cell? ⟨w.heap.size, 2, none⟩ = some (.int .u64 a1) ∧ w'.cell? ⟨w.heap.size, 3, none⟩ = some (.int .u64 a0) ∧ w'.cell? ⟨w.heap.size, 4, none⟩ = some (.int .u64 b3) ∧ w'.cell? ⟨w.heap.size, 5, none⟩ = some (.int .u64 b2) ∧ w'.cell? ⟨w.heap.size, 6, none⟩ = some (.int .u64 b1) ∧ w'.cell? ⟨w.heap.size, 7, none⟩ = some (.int .u64 b0) ∧ w'.cell? ⟨w.heap.size + 1, 0, none⟩ = some (.int .u64 c3) ∧ w'.cell? ⟨w.heap.size + 1, 1, none⟩ = some (.int .u64 c2) ∧ w'.cell? ⟨w.heap.size + 1, 2, none⟩ = some (.int .u64 c1) ∧ w'.cell? ⟨w.heap.size + 1, 3, none⟩ = some (.int .u64 c0) ∧ w'.cell? ⟨w.heap.size + 1, 4, none⟩ = some (.int .u64 d3) ∧ w'.cell? ⟨w.heap.size + 1, 5, none⟩ = some (.int .u64 d2) ∧ w'.cell? ⟨w.heap.size + 1, 6, none⟩ = some (.int .u64 d1) ∧ w'.cell? ⟨w.heap.size + 1, 7, none⟩ = some (.int .u64 d0)) W :=
  ⟨(h.b 0 rfl).c 0 rfl, (h.b 0 rfl).c 1 rfl, (h.b 0 rfl).c 2 rfl, (h.b 0 rfl).c 3 rfl, (h.b 0 rfl).c 4 rfl, (h.b 0 rfl).c 5 rfl, (h.b 0 rfl).c 6 rfl, (h.b 0 rfl).c 7 rfl, (h.b 1 rfl).c 0 rfl, (h.b 1 rfl).c 1 rfl, (h.b 1 rfl).c 2 rfl, (h.b 1 rfl).c 3 rfl, (h.b 1 rfl).c 4 rfl, (h.b 1 rfl).c 5 rfl, (h.b 1 rfl).c 6 rfl, (h.b 1 rfl).c 7 rfl⟩
theorem rc_args (a3 a2 a1 a0 b3 b2 b1 b0 c3 c2 c1 c0 d3 d2 d1 d0 : Int) (T : TypeId) (w : World) : ArgsB w ((w.alloc (.cells #[.int .u64 a3, .int .u64 a2, .int .u64 a1, .int .u64 a0, .int .u64 b3, .int .u64 b2, .int .u64 b1, .int .u64 b0] T)).alloc (.cells #[.int .u64 c3, .int .u64 c2, .int .u64 c1, .int .u64 c0, .int .u64 d3, .int .u64 d2, .int .u64 d1, .int .u64 d0] T)) [[.int .u64 a3, .int .u64 a2, .int .u64 a1, .int .u64 a0, .int .u64 b3, .int .u64 b2, .int .u64 b1, .int .u64 b0], [.int .u64 c3, .int .u64 c2, .int .u64 c1, .int .u64 c0, .int .u64 d3, .int .u64 d2, .int .u64 d1, .int .u64 d0]] := by
  refine ⟨((Below.refl _ _).alloc (Nat.le_refl _) _).alloc (by simp) _, fun j vs hj => ?_⟩
  match j, hj with
  | 0, hj => cases hj; exact (Blk.new w [.int .u64 a3, .int .u64 a2, .int .u64 a1, .int .u64 a0, .int .u64 b3, .int .u64 b2, .int .u64 b1, .int .u64 b0] T rfl).alloc _
  | 1, hj => cases hj; exact Blk.new (w.alloc (.cells #[.int .u64 a3, .int .u64 a2, .int .u64 a1, .int .u64 a0, .int .u64 b3, .int .u64 b2, .int .u64 b1, .int .u64 b0] T)) [.int .u64 c3, .int .u64 c2, .int .u64 c1, .int .u64 c0, .int .u64 d3, .int .u64 d2, .int .u64 d1, .int .u64 d0] T (by simp)
  | j + 2, hj => simp at hj
set_option maxRecDepth 100000 in
set_option maxHeartbeats 2000000 in
theorem ratOrder_any (a3 a2 a1 a0 b3 b2 b1 b0 c3 c2 c1 c0 d3 d2 d1 d0 : Int) (ha3 : Word a3) (ha2 : Word a2) (ha1 : Word a1) (ha0 : Word a0) (hb3 : Word b3) (hb2 : Word b2) (hb1 : Word b1) (hb0 : Word b0) (hc3 : Word c3) (hc2 : Word c2) (hc1 : Word c1) (hc0 : Word c0) (hd3 : Word d3) (hd2 : Word d2) (hd1 : Word d1) (hd0 : Word d0) (py : 0 < sw b3 b2 b1 b0) (pv : 0 < sw d3 d2 d1 d0) (w : World) : Calls Try.prog 114 #[Rt a3 a2 a1 a0 b3 b2 b1 b0, Rt c3 c2 c1 c0 d3 d2 d1 d0] w (VP (.int .i64 (cmpI (sw a3 a2 a1 a0 * sw d3 d2 d1 d0) (sw c3 c2 c1 c0 * sw b3 b2 b1 b0))) w) := by
  have T0 := rc_args a3 a2 a1 a0 b3 b2 b1 b0 c3 c2 c1 c0 d3 d2 d1 d0 50 w
  have C1 := cross_any a3 a2 a1 a0 b3 b2 b1 b0 c3 c2 c1 c0 d3 d2 d1 d0 ha3 ha2 ha1 ha0 hd3 hd2 hd1 hd0
  have C2 := cross_any c3 c2 c1 c0 d3 d2 d1 d0 a3 a2 a1 a0 b3 b2 b1 b0 hc3 hc2 hc1 hc0 hb3 hb2 hb1 hb0
  have ba := sw_bound ha3 ha2 ha1 ha0
  have bb := sw_bound hb3 hb2 hb1 hb0
  have bc := sw_bound hc3 hc2 hc1 hc0
  have bd := sw_bound hd3 hd2 hd1 hd0
  clear ha3 ha2 ha1 ha0 hb3 hb2 hb1 hb0 hc3 hc2 hc1 hc0 hd3 hd2 hd1 hd0
  generalize sw a3 a2 a1 a0 = x at *
  generalize sw b3 b2 b1 b0 = y at *
  generalize sw c3 c2 c1 c0 = u at *
  generalize sw d3 d2 d1 d0 = v at *
  have tok1 : True := trivial
  have pb1 := prod_bound ba.1 ba.2 pv bd.2
  have pb2 := prod_bound bc.1 bc.2 py bb.2
  go_enter Try.func114, Try.ntmps114
  go_upto_region 1 with fail
  generalize ((w.alloc (.cells #[.int .u64 a3, .int .u64 a2, .int .u64 a1, .int .u64 a0, .int .u64 b3, .int .u64 b2, .int .u64 b1, .int .u64 b0] 50)).alloc (.cells #[.int .u64 c3, .int .u64 c2, .int .u64 c1, .int .u64 c0, .int .u64 d3, .int .u64 d2, .int .u64 d1, .int .u64 d0] 50)) = W at *
  go_region_held3 (fun w' => w'.cell? ⟨w.heap.size, 0, none⟩ = some (.int .u64 a3) ∧ w'.cell? ⟨w.heap.size, 1, none⟩ = some (.int .u64 a2) ∧ w'.cell? ⟨w.heap.size, 2, none⟩ = some (.int .u64 a1) ∧ w'.cell? ⟨w.heap.size, 3, none⟩ = some (.int .u64 a0) ∧ w'.cell? ⟨w.heap.size, 4, none⟩ = some (.int .u64 b3) ∧ w'.cell? ⟨w.heap.size, 5, none⟩ = some (.int .u64 b2) ∧ w'.cell? ⟨w.heap.size, 6, none⟩ = some (.int .u64 b1) ∧ w'.cell? ⟨w.heap.size, 7, none⟩ = some (.int .u64 b0) ∧ w'.cell? ⟨w.heap.size + 1, 0, none⟩ = some (.int .u64 c3) ∧ w'.cell? ⟨w.heap.size + 1, 1, none⟩ = some (.int .u64 c2) ∧ w'.cell? ⟨w.heap.size + 1, 2, none⟩ = some (.int .u64 c1) ∧ w'.cell? ⟨w.heap.size + 1, 3, none⟩ = some (.int .u64 c0) ∧ w'.cell? ⟨w.heap.size + 1, 4, none⟩ = some (.int .u64 d3) ∧ w'.cell? ⟨w.heap.size + 1, 5, none⟩ = some (.int .u64 d2) ∧ w'.cell? ⟨w.heap.size + 1, 6, none⟩ = some (.int .u64 d1) ∧ w'.cell? ⟨w.heap.size + 1, 7, none⟩ = some (.int .u64 d0)) (first | (with_reducible exact rc_cells T0) | (with_reducible exact rc_cells T0.drew))
    (first
      | (go_at_call 155; have _t := tok1; refine (C1 _).mono ?_; rintro e w3 ⟨m0, m1, m2, m3, m4, m5, m6, m7, rfl, wm, hm, hB⟩; (first | (have T1 := T0.step hB) | (have T1 := T0.drew.step hB)); clear T0; have T0 := T1; clear T1; clear hB tok1 _t)
      | (go_at_call 155; refine (C2 _).mono ?_; rintro e w4 ⟨n0, n1, n2, n3, n4, n5, n6, n7, rfl, wn, hn, hB⟩; (first | (have T1 := T0.step hB) | (have T1 := T0.drew.step hB)); clear T0; have T0 := T1; clear T1; clear hB)
      | (go_at_call 156; refine (minusL_any m0 m1 m2 m3 m4 m5 m6 m7 n0 n1 n2 n3 n4 n5 n6 n7 wm wn (x * v - u * y) (by rw [hm, hn]) (by omega) _).mono ?_; rintro e w5 ⟨z0, z1, z2, z3, z4, z5, z6, z7, rfl, wz, hz, hB⟩; (first | (have T1 := T0.step hB) | (have T1 := T0.drew.step hB)); clear T0; have T0 := T1; clear T1; clear hB)
      | (go_at_call 157; refine (signL_any z0 z1 z2 z3 z4 z5 z6 z7 wz _).mono ?_; rintro e w6 ⟨rfl, hB⟩; rw [hz, cmpI_sub]; (first | (have T1 := T0.step hB) | (have T1 := T0.drew.step hB)); clear T0; have T0 := T1; clear T1; clear hB))
  all_goals have HB := T0.below
  all_goals clear T0
  all_goals go_wp2
  all_goals go_ret
  all_goals exact ⟨rfl, by first | exact HB | exact HB.drew⟩
end Go.Proofs.Ytmjlgmoohpnhfaa

/- The walk of a fraction in its lowest terms. -/
namespace Go.Proofs.Ytmjlgmoohpnhfaa
open Go.RowKit
/-- Above and below in lowest terms, below above 0. -/
def lowN (x y : Int) : Int := shareZ x (Int.gcd x y) (decide (y < 0))
def lowD (x y : Int) : Int := shareZ y (Int.gcd x y) (decide (y < 0))
/-- A fraction in lowest terms as it is told. -/
def ratV (x y : Int) : Value := if y ≠ 0 ∧ told (lowN x y) = true ∧ told (lowD x y) = true then .tuple #[Rt (ww3 (lowN x y)) (ww2 (lowN x y)) (ww1 (lowN x y)) (ww0 (lowN x y)) (ww3 (lowD x y)) (ww2 (lowD x y)) (ww1 (lowD x y)) (ww0 (lowD x y)), .bool true] else .tuple #[.agg #[.int .u64 0, .int .u64 0, .int .u64 0, .int .u64 0, .int .u64 0, .int .u64 0, .int .u64 0, .int .u64 0], .bool false]
theorem lo_cells {x0 x1 x2 x3 x4 x5 x6 x7 y0 y1 y2 y3 y4 y5 y6 y7 : Int} {w W : World} (h : ArgsB w W [[.int .u64 x0, .int .u64 x1, .int .u64 x2, .int .u64 x3, .int .u64 x4, .int .u64 x5, .int .u64 x6, .int .u64 x7, .int .u64 y0, .int .u64 y1, .int .u64 y2, .int .u64 y3, .int .u64 y4, .int .u64 y5, .int .u64 y6, .int .u64 y7], [.int .u64 0, .int .u64 0, .int .u64 0, .int .u64 0, .int .u64 0, .int .u64 0, .int .u64 0, .int .u64 0]]) : (fun w' => w'.cell? ⟨w.heap.size, 0, none⟩ = some (.int .u64 x0) ∧ w'.cell? ⟨w.heap.size, 1, none⟩ = some (.int .u64 x1) ∧ w'.cell? ⟨w.heap.size, 2, none⟩ = some (.int .u64 x2) ∧ w'.cell? ⟨w.heap.size, 3, none⟩ = some (.int .u64 x3) ∧ w'.cell? ⟨w.heap.size, 4, none⟩ = some (.int .u64 x4) ∧ w'.cell? ⟨w.heap.size, 5, none⟩ = some (.int .u64 x5) ∧ w'.cell? ⟨w.heap.size, 6, none⟩ = some (.int .u64 x6) ∧ w'.cell? ⟨w.heap.size, 7, none⟩ = some (.int .u64 x7) ∧ w'.cell? ⟨w.heap.size, 8, none⟩ = some (.int .u64 y0) ∧ w'.cell? ⟨w.heap.size, 9, none⟩ = some (.int .u64 y1) ∧ w'.cell? ⟨w.heap.size, 10, none⟩ = some (.int .u64 y2) ∧ w'.cell? ⟨w.heap.size, 11, none⟩ = some (.int .u64 y3) ∧ w'.cell? ⟨w.heap.size, 12, none⟩ = some (.int .u64 y4) ∧ w'.cell? ⟨w.heap.size, 13, none⟩ = some (.int .u64 y5) ∧ w'.cell? ⟨w.heap.size, 14, none⟩ = some (.int .u64 y6) ∧ w'.cell? ⟨w.heap.size, 15, none⟩ = some (.int .u64 y7)) W :=
  ⟨(h.b 0 rfl).c 0 rfl, (h.b 0 rfl).c 1 rfl, (h.b 0 rfl).c 2 rfl, (h.b 0 rfl).c 3 rfl, (h.b 0 rfl).c 4 rfl, (h.b 0 rfl).c 5 rfl, (h.b 0 rfl).c 6 rfl, (h.b 0 rfl).c 7 rfl, (h.b 0 rfl).c 8 rfl, (h.b 0 rfl).c 9 rfl, (h.b 0 rfl).c 10 rfl, (h.b 0 rfl).c 11 rfl, (h.b 0 rfl).c 12 rfl, (h.b 0 rfl).c 13 rfl, (h.b 0 rfl).c 14 rfl, (h.b 0 rfl).c 15 rfl⟩
theorem lo_cells2 {x0 x1 x2 x3 x4 x5 x6 x7 y0 y1 y2 y3 y4 y5 y6 y7 g0 g1 g2 g3 g4 g5 g6 g7 : Int} {w W : World} {gc : Nat} (h : ArgsB w W [[.int .u64 x0, .int .u64 x1, .int .u64 x2, .int .u64 x3, .int .u64 x4, .int .u64 x5, .int .u64 x6, .int .u64 x7, .int .u64 y0, .int .u64 y1, .int .u64 y2, .int .u64 y3, .int .u64 y4, .int .u64 y5, .int .u64 y6, .int .u64 y7], [.int .u64 0, .int .u64 0, .int .u64 0, .int .u64 0, .int .u64 0, .int .u64 0, .int .u64 0, .int .u64 0]]) (G : Blk W gc [.int .u64 g0, .int .u64 g1, .int .u64 g2, .int .u64 g3, .int .u64 g4, .int .u64 g5, .int .u64 g6, .int .u64 g7]) : (fun w' => w'.cell? ⟨w.heap.size, 0, none⟩ = some (.int .u64 x0) ∧ w'.cell? ⟨w.heap.size, 1, none⟩ = some (.int .u64 x1) ∧ w'.cell? ⟨w.heap.size, 2, none⟩ = some (.int .u64 x2) ∧ w'.cell? ⟨w.heap.size, 3, none⟩ = some (.int .u64 x3) ∧ w'.cell? ⟨w.heap.size, 4, none⟩ = some (.int .u64 x4) ∧ w'.cell? ⟨w.heap.size, 5, none⟩ = some (.int .u64 x5) ∧ w'.cell? ⟨w.heap.size, 6, none⟩ = some (.int .u64 x6) ∧ w'.cell? ⟨w.heap.size, 7, none⟩ = some (.int .u64 x7) ∧ w'.cell? ⟨w.heap.size, 8, none⟩ = some (.int .u64 y0) ∧ w'.cell? ⟨w.heap.size, 9, none⟩ = some (.int .u64 y1) ∧ w'.cell? ⟨w.heap.size, 10, none⟩ = some (.int .u64 y2) ∧ w'.cell? ⟨w.heap.size, 11, none⟩ = some (.int .u64 y3) ∧ w'.cell? ⟨w.heap.size, 12, none⟩ = some (.int .u64 y4) ∧ w'.cell? ⟨w.heap.size, 13, none⟩ = some (.int .u64 y5) ∧ w'.cell? ⟨w.heap.size, 14, none⟩ = some (.int .u64 y6) ∧ w'.cell? ⟨w.heap.size, 15, none⟩ = some (.int .u64 y7) ∧ w'.cell? ⟨gc, 0, none⟩ = some (.int .u64 g0) ∧ w'.cell? ⟨gc, 1, none⟩ = some (.int .u64 g1) ∧ w'.cell? ⟨gc, 2, none⟩ = some (.int .u64 g2) ∧ w'.cell? ⟨gc, 3, none⟩ = some (.int .u64 g3) ∧ w'.cell? ⟨gc, 4, none⟩ = some (.int .u64 g4) ∧ w'.cell? ⟨gc, 5, none⟩ = some (.int .u64 g5) ∧ w'.cell? ⟨gc, 6, none⟩ = some (.int .u64 g6) ∧ w'.cell? ⟨gc, 7, none⟩ = some (.int .u64 g7)) W :=
  ⟨(h.b 0 rfl).c 0 rfl, (h.b 0 rfl).c 1 rfl, (h.b 0 rfl).c 2 rfl, (h.b 0 rfl).c 3 rfl, (h.b 0 rfl).c 4 rfl, (h.b 0 rfl).c 5 rfl, (h.b 0 rfl).c 6 rfl, (h.b 0 rfl).c 7 rfl, (h.b 0 rfl).c 8 rfl, (h.b 0 rfl).c 9 rfl, (h.b 0 rfl).c 10 rfl, (h.b 0 rfl).c 11 rfl, (h.b 0 rfl).c 12 rfl, (h.b 0 rfl).c 13 rfl, (h.b 0 rfl).c 14 rfl, (h.b 0 rfl).c 15 rfl, G.c 0 rfl, G.c 1 rfl, G.c 2 rfl, G.c 3 rfl, G.c 4 rfl, G.c 5 rfl, G.c 6 rfl, G.c 7 rfl⟩
theorem lo_cells3 {x0 x1 x2 x3 x4 x5 x6 x7 y0 y1 y2 y3 y4 y5 y6 y7 g0 g1 g2 g3 g4 g5 g6 g7 : Int} {w W : World} {gc : Nat} (h : ArgsB w W [[.int .u64 x0, .int .u64 x1, .int .u64 x2, .int .u64 x3, .int .u64 x4, .int .u64 x5, .int .u64 x6, .int .u64 x7, .int .u64 y0, .int .u64 y1, .int .u64 y2, .int .u64 y3, .int .u64 y4, .int .u64 y5, .int .u64 y6, .int .u64 y7], [.int .u64 0, .int .u64 0, .int .u64 0, .int .u64 0, .int .u64 0, .int .u64 0, .int .u64 0, .int .u64 0]]) (G : Blk W gc [.int .u64 g0, .int .u64 g1, .int .u64 g2, .int .u64 g3, .int .u64 g4, .int .u64 g5, .int .u64 g6, .int .u64 g7]) : (fun w' => w'.cell? ⟨w.heap.size, 8, none⟩ = some (.int .u64 y0) ∧ w'.cell? ⟨w.heap.size, 9, none⟩ = some (.int .u64 y1) ∧ w'.cell? ⟨w.heap.size, 10, none⟩ = some (.int .u64 y2) ∧ w'.cell? ⟨w.heap.size, 11, none⟩ = some (.int .u64 y3) ∧ w'.cell? ⟨w.heap.size, 12, none⟩ = some (.int .u64 y4) ∧ w'.cell? ⟨w.heap.size, 13, none⟩ = some (.int .u64 y5) ∧ w'.cell? ⟨w.heap.size, 14, none⟩ = some (.int .u64 y6) ∧ w'.cell? ⟨w.heap.size, 15, none⟩ = some (.int .u64 y7) ∧ w'.cell? ⟨gc, 0, none⟩ = some (.int .u64 g0) ∧ w'.cell? ⟨gc, 1, none⟩ = some (.int .u64 g1) ∧ w'.cell? ⟨gc, 2, none⟩ = some (.int .u64 g2) ∧ w'.cell? ⟨gc, 3, none⟩ = some (.int .u64 g3) ∧ w'.cell? ⟨gc, 4, none⟩ = some (.int .u64 g4) ∧ w'.cell? ⟨gc, 5, none⟩ = some (.int .u64 g5) ∧ w'.cell? ⟨gc, 6, none⟩ = some (.int .u64 g6) ∧ w'.cell? ⟨gc, 7, none⟩ = some (.int .u64 g7)) W :=
  ⟨(h.b 0 rfl).c 8 rfl, (h.b 0 rfl).c 9 rfl, (h.b 0 rfl).c 10 rfl, (h.b 0 rfl).c 11 rfl, (h.b 0 rfl).c 12 rfl, (h.b 0 rfl).c 13 rfl, (h.b 0 rfl).c 14 rfl, (h.b 0 rfl).c 15 rfl, G.c 0 rfl, G.c 1 rfl, G.c 2 rfl, G.c 3 rfl, G.c 4 rfl, G.c 5 rfl, G.c 6 rfl, G.c 7 rfl⟩
theorem lo_args (x0 x1 x2 x3 x4 x5 x6 x7 y0 y1 y2 y3 y4 y5 y6 y7 : Int) (w : World) : ArgsB w ((w.alloc (.cells #[.int .u64 x0, .int .u64 x1, .int .u64 x2, .int .u64 x3, .int .u64 x4, .int .u64 x5, .int .u64 x6, .int .u64 x7, .int .u64 y0, .int .u64 y1, .int .u64 y2, .int .u64 y3, .int .u64 y4, .int .u64 y5, .int .u64 y6, .int .u64 y7] 215)).alloc (.cells #[.int .u64 0, .int .u64 0, .int .u64 0, .int .u64 0, .int .u64 0, .int .u64 0, .int .u64 0, .int .u64 0] 50)) [[.int .u64 x0, .int .u64 x1, .int .u64 x2, .int .u64 x3, .int .u64 x4, .int .u64 x5, .int .u64 x6, .int .u64 x7, .int .u64 y0, .int .u64 y1, .int .u64 y2, .int .u64 y3, .int .u64 y4, .int .u64 y5, .int .u64 y6, .int .u64 y7], [.int .u64 0, .int .u64 0, .int .u64 0, .int .u64 0, .int .u64 0, .int .u64 0, .int .u64 0, .int .u64 0]] := by
  refine ⟨((Below.refl _ _).alloc (Nat.le_refl _) _).alloc (by simp) _, fun j vs hj => ?_⟩
  match j, hj with
  | 0, hj => cases hj; exact (Blk.new w [.int .u64 x0, .int .u64 x1, .int .u64 x2, .int .u64 x3, .int .u64 x4, .int .u64 x5, .int .u64 x6, .int .u64 x7, .int .u64 y0, .int .u64 y1, .int .u64 y2, .int .u64 y3, .int .u64 y4, .int .u64 y5, .int .u64 y6, .int .u64 y7] 215 rfl).alloc _
  | 1, hj => cases hj; exact Blk.new (w.alloc (.cells #[.int .u64 x0, .int .u64 x1, .int .u64 x2, .int .u64 x3, .int .u64 x4, .int .u64 x5, .int .u64 x6, .int .u64 x7, .int .u64 y0, .int .u64 y1, .int .u64 y2, .int .u64 y3, .int .u64 y4, .int .u64 y5, .int .u64 y6, .int .u64 y7] 215)) [.int .u64 0, .int .u64 0, .int .u64 0, .int .u64 0, .int .u64 0, .int .u64 0, .int .u64 0, .int .u64 0] 50 (by simp)
  | j + 2, hj => simp at hj
theorem gcdL_det (u0 u1 u2 u3 u4 u5 u6 u7 v0 v1 v2 v3 v4 v5 v6 v7 g0 g1 g2 g3 g4 g5 g6 g7 : Int) (wu : Words [u0, u1, u2, u3, u4, u5, u6, u7]) (wv : Words [v0, v1, v2, v3, v4, v5, v6, v7]) (wg : Words [g0, g1, g2, g3, g4, g5, g6, g7]) (hg : val64 [g0, g1, g2, g3, g4, g5, g6, g7] = (Int.gcd (val64 [u0, u1, u2, u3, u4, u5, u6, u7]) (val64 [v0, v1, v2, v3, v4, v5, v6, v7]) : Int)) (w : World) : Calls Try.prog 142 #[L8 u0 u1 u2 u3 u4 u5 u6 u7, L8 v0 v1 v2 v3 v4 v5 v6 v7] w (VP (L8 g0 g1 g2 g3 g4 g5 g6 g7) w) := by
  refine (gcdL_any [u0, u1, u2, u3, u4, u5, u6, u7] [v0, v1, v2, v3, v4, v5, v6, v7] rfl rfl wu wv w).mono ?_
  rintro e w1 ⟨zs, rfl, zl, zw, zv, hB⟩
  obtain rfl : zs = [g0, g1, g2, g3, g4, g5, g6, g7] := val64_inj zw wg (zl.trans rfl) (zv.trans hg.symm)
  exact ⟨rfl, hB⟩
set_option maxRecDepth 100000 in
set_option maxHeartbeats 4000000 in
theorem lowest_any (x0 x1 x2 x3 x4 x5 x6 x7 y0 y1 y2 y3 y4 y5 y6 y7 : Int) (wx : Words [x0, x1, x2, x3, x4, x5, x6, x7]) (wy : Words [y0, y1, y2, y3, y4, y5, y6, y7]) (hX : -6703903964971298549787012499102923063739682910296196688861780721860882015036773488400937149083451713845015929093243025426876941405973284973216824503042048 < (sl x0 x1 x2 x3 x4 x5 x6 x7)) (hY : -6703903964971298549787012499102923063739682910296196688861780721860882015036773488400937149083451713845015929093243025426876941405973284973216824503042048 < (sl y0 y1 y2 y3 y4 y5 y6 y7)) (w : World) : Calls Try.prog 173 #[.agg #[.int .u64 x0, .int .u64 x1, .int .u64 x2, .int .u64 x3, .int .u64 x4, .int .u64 x5, .int .u64 x6, .int .u64 x7, .int .u64 y0, .int .u64 y1, .int .u64 y2, .int .u64 y3, .int .u64 y4, .int .u64 y5, .int .u64 y6, .int .u64 y7]] w (VP (ratV (sl x0 x1 x2 x3 x4 x5 x6 x7) (sl y0 y1 y2 y3 y4 y5 y6 y7)) w) := by
  have T0 := lo_args x0 x1 x2 x3 x4 x5 x6 x7 y0 y1 y2 y3 y4 y5 y6 y7 w
  have EZ := eqLongZ y0 y1 y2 y3 y4 y5 y6 y7
  rw [zeroL _ _ _ _ _ _ _ _ wy] at EZ
  have hyz : val64 [y0, y1, y2, y3, y4, y5, y6, y7] = 0 ↔ (sl y0 y1 y2 y3 y4 y5 y6 y7) = 0 := by
    obtain ⟨t1, t2, t3⟩ := sl_top wy
    unfold sl
    split <;> omega
  by_cases hb : (sl y0 y1 y2 y3 y4 y5 y6 y7) = 0
  · have HV : Hid (ratV (sl x0 x1 x2 x3 x4 x5 x6 x7) (sl y0 y1 y2 y3 y4 y5 y6 y7) = .tuple #[.agg #[.int .u64 0, .int .u64 0, .int .u64 0, .int .u64 0, .int .u64 0, .int .u64 0, .int .u64 0, .int .u64 0], .bool false]) := by show _ = _; unfold ratV; rw [if_neg (by rintro ⟨h, -⟩; exact h hb)]
    simp only [hyz.2 hb, decide_true] at EZ
    go_enter Try.func173, Try.ntmps173
    go_upto_region 2 with fail
    generalize ((w.alloc (.cells #[.int .u64 x0, .int .u64 x1, .int .u64 x2, .int .u64 x3, .int .u64 x4, .int .u64 x5, .int .u64 x6, .int .u64 x7, .int .u64 y0, .int .u64 y1, .int .u64 y2, .int .u64 y3, .int .u64 y4, .int .u64 y5, .int .u64 y6, .int .u64 y7] 215)).alloc (.cells #[.int .u64 0, .int .u64 0, .int .u64 0, .int .u64 0, .int .u64 0, .int .u64 0, .int .u64 0, .int .u64 0] 50)) = W at *
    have HB := T0.below
    have o0c := (T0.b 1 rfl).c 0 rfl; have o0f := (T0.b 1 rfl).f 0 rfl; have o1c := (T0.b 1 rfl).c 1 rfl; have o1f := (T0.b 1 rfl).f 1 rfl; have o2c := (T0.b 1 rfl).c 2 rfl; have o2f := (T0.b 1 rfl).f 2 rfl; have o3c := (T0.b 1 rfl).c 3 rfl; have o3f := (T0.b 1 rfl).f 3 rfl; have o4c := (T0.b 1 rfl).c 4 rfl; have o4f := (T0.b 1 rfl).f 4 rfl; have o5c := (T0.b 1 rfl).c 5 rfl; have o5f := (T0.b 1 rfl).f 5 rfl; have o6c := (T0.b 1 rfl).c 6 rfl; have o6f := (T0.b 1 rfl).f 6 rfl; have o7c := (T0.b 1 rfl).c 7 rfl; have o7f := (T0.b 1 rfl).f 7 rfl
    go_wp2
    refine bodyPost_ret (v := .tuple #[.agg #[.int .u64 0, .int .u64 0, .int .u64 0, .int .u64 0, .int .u64 0, .int .u64 0, .int .u64 0, .int .u64 0], .bool false]) (by simp [results, Try.results173, go_sem, o0c, o1c, o2c, o3c, o4c, o5c, o6c, o7c]) rfl ?_
    refine ⟨by rw [HV.out], ?_⟩
    repeat' (refine Below.setCell ?_ (by simp; try omega) _)
    exact HB
  · have hyz' : ¬ val64 [y0, y1, y2, y3, y4, y5, y6, y7] = 0 := fun h => hb (hyz.1 h)
    simp only [hyz', decide_false] at EZ
    obtain ⟨u0, u1, u2, u3, u4, u5, u6, u7, wu, uv⟩ := words8_ex ((sl x0 x1 x2 x3 x4 x5 x6 x7).natAbs : Int) (by omega) (by obtain ⟨t1, t2, t3⟩ := sl_top wx; unfold sl; split <;> omega)
    obtain ⟨v0, v1, v2, v3, v4, v5, v6, v7, wv, vv⟩ := words8_ex ((sl y0 y1 y2 y3 y4 y5 y6 y7).natAbs : Int) (by omega) (by obtain ⟨t1, t2, t3⟩ := sl_top wy; unfold sl; split <;> omega)
    have hg0 : 0 < Int.gcd (sl x0 x1 x2 x3 x4 x5 x6 x7) (sl y0 y1 y2 y3 y4 y5 y6 y7) := Int.gcd_pos_of_ne_zero_right _ hb
    have hg1 : Int.gcd (sl x0 x1 x2 x3 x4 x5 x6 x7) (sl y0 y1 y2 y3 y4 y5 y6 y7) ≤ (sl y0 y1 y2 y3 y4 y5 y6 y7).natAbs := Nat.le_of_dvd (by omega) (Int.gcd_dvd_natAbs_right _ _)
    have hyb : ((sl y0 y1 y2 y3 y4 y5 y6 y7).natAbs : Int) < 13407807929942597099574024998205846127479365820592393377723561443721764030073546976801874298166903427690031858186486050853753882811946569946433649006084096 := by obtain ⟨t1, t2, t3⟩ := sl_top wy; unfold sl; split <;> omega
    obtain ⟨g0, g1, g2, g3, g4, g5, g6, g7, wg, gv⟩ := words8_ex (Int.gcd (sl x0 x1 x2 x3 x4 x5 x6 x7) (sl y0 y1 y2 y3 y4 y5 y6 y7) : Int) (by omega) (by omega)
    have SA := sizeX_det x0 x1 x2 x3 x4 x5 x6 x7 wx u0 u1 u2 u3 u4 u5 u6 u7 wu uv
    have SB := sizeX_det y0 y1 y2 y3 y4 y5 y6 y7 wy v0 v1 v2 v3 v4 v5 v6 v7 wv vv
    have GD := gcdL_det u0 u1 u2 u3 u4 u5 u6 u7 v0 v1 v2 v3 v4 v5 v6 v7 g0 g1 g2 g3 g4 g5 g6 g7 wu wv wg (by rw [gv, uv, vv]; simp [Int.gcd])
    have NB := isBelowL_det y0 y1 y2 y3 y4 y5 y6 y7 wy
    have H1 := share_any x0 x1 x2 x3 x4 x5 x6 x7 g0 g1 g2 g3 g4 g5 g6 g7 (decide ((sl y0 y1 y2 y3 y4 y5 y6 y7) < 0)) wx wg (by rw [gv]; omega) hX
    have H2 := share_any y0 y1 y2 y3 y4 y5 y6 y7 g0 g1 g2 g3 g4 g5 g6 g7 (decide ((sl y0 y1 y2 y3 y4 y5 y6 y7) < 0)) wy wg (by rw [gv]; omega) hY
    rw [gv] at H1 H2
    rw [show shareZ (sl x0 x1 x2 x3 x4 x5 x6 x7) (Int.gcd (sl x0 x1 x2 x3 x4 x5 x6 x7) (sl y0 y1 y2 y3 y4 y5 y6 y7) : Int) (decide ((sl y0 y1 y2 y3 y4 y5 y6 y7) < 0)) = lowN (sl x0 x1 x2 x3 x4 x5 x6 x7) (sl y0 y1 y2 y3 y4 y5 y6 y7) from rfl] at H1
    rw [show shareZ (sl y0 y1 y2 y3 y4 y5 y6 y7) (Int.gcd (sl x0 x1 x2 x3 x4 x5 x6 x7) (sl y0 y1 y2 y3 y4 y5 y6 y7) : Int) (decide ((sl y0 y1 y2 y3 y4 y5 y6 y7) < 0)) = lowD (sl x0 x1 x2 x3 x4 x5 x6 x7) (sl y0 y1 y2 y3 y4 y5 y6 y7) from rfl] at H2
    obtain ⟨c3, c2, c1, c0, HT1, HC1⟩ := tellV_ex (lowN (sl x0 x1 x2 x3 x4 x5 x6 x7) (sl y0 y1 y2 y3 y4 y5 y6 y7))
    obtain ⟨d3, d2, d1, d0, HT2, HC2⟩ := tellV_ex (lowD (sl x0 x1 x2 x3 x4 x5 x6 x7) (sl y0 y1 y2 y3 y4 y5 y6 y7))
    obtain ⟨t1, ht1⟩ : ∃ t, told (lowN (sl x0 x1 x2 x3 x4 x5 x6 x7) (sl y0 y1 y2 y3 y4 y5 y6 y7)) = t := ⟨_, rfl⟩
    obtain ⟨t2, ht2⟩ : ∃ t, told (lowD (sl x0 x1 x2 x3 x4 x5 x6 x7) (sl y0 y1 y2 y3 y4 y5 y6 y7)) = t := ⟨_, rfl⟩
    rw [HT1, ht1] at H1
    rw [HT2, ht2] at H2
    have HR : Hid (ratV (sl x0 x1 x2 x3 x4 x5 x6 x7) (sl y0 y1 y2 y3 y4 y5 y6 y7) = if t1 = true ∧ t2 = true then .tuple #[.agg #[.int .u64 c3, .int .u64 c2, .int .u64 c1, .int .u64 c0, .int .u64 d3, .int .u64 d2, .int .u64 d1, .int .u64 d0], .bool true] else .tuple #[.agg #[.int .u64 0, .int .u64 0, .int .u64 0, .int .u64 0, .int .u64 0, .int .u64 0, .int .u64 0, .int .u64 0], .bool false]) := by
      show _ = _
      unfold ratV
      rw [ht1, ht2]
      by_cases h1 : t1 = true
      · by_cases h2 : t2 = true
        · have e1 := HC1 (ht1.trans h1)
          have e2 := HC2 (ht2.trans h2)
          simp only [Value.agg.injEq] at e1 e2
          simp at e1 e2
          rw [if_pos ⟨hb, h1, h2⟩, if_pos ⟨h1, h2⟩, e1.1, e1.2.1, e1.2.2.1, e1.2.2.2, e2.1, e2.2.1, e2.2.2.1, e2.2.2.2]
        · rw [if_neg (by rintro ⟨_, _, h⟩; exact h2 h), if_neg (by rintro ⟨_, h⟩; exact h2 h)]
      · rw [if_neg (by rintro ⟨_, h, _⟩; exact h1 h), if_neg (by rintro ⟨h, _⟩; exact h1 h)]
    clear ht1 ht2 HT1 HT2 HC1 HC2 uv vv gv hyz hyz' hX hY hg0 hg1 hyb
    go_enter Try.func173, Try.ntmps173
    go_upto_region 3 with fail
    generalize ((w.alloc (.cells #[.int .u64 x0, .int .u64 x1, .int .u64 x2, .int .u64 x3, .int .u64 x4, .int .u64 x5, .int .u64 x6, .int .u64 x7, .int .u64 y0, .int .u64 y1, .int .u64 y2, .int .u64 y3, .int .u64 y4, .int .u64 y5, .int .u64 y6, .int .u64 y7] 215)).alloc (.cells #[.int .u64 0, .int .u64 0, .int .u64 0, .int .u64 0, .int .u64 0, .int .u64 0, .int .u64 0, .int .u64 0] 50)) = W at *
    have hlw := (T0.b 1 rfl).lt
    go_cut [4] (fun p wx => CutB w wx [[.int .u64 x0, .int .u64 x1, .int .u64 x2, .int .u64 x3, .int .u64 x4, .int .u64 x5, .int .u64 x6, .int .u64 x7, .int .u64 y0, .int .u64 y1, .int .u64 y2, .int .u64 y3, .int .u64 y4, .int .u64 y5, .int .u64 y6, .int .u64 y7], [.int .u64 0, .int .u64 0, .int .u64 0, .int .u64 0, .int .u64 0, .int .u64 0, .int .u64 0, .int .u64 0]] [.int .u64 g0, .int .u64 g1, .int .u64 g2, .int .u64 g3, .int .u64 g4, .int .u64 g5, .int .u64 g6, .int .u64 g7] p)
    case first =>
      go_region_held3 (fun w' => w'.cell? ⟨w.heap.size, 0, none⟩ = some (.int .u64 x0) ∧ w'.cell? ⟨w.heap.size, 1, none⟩ = some (.int .u64 x1) ∧ w'.cell? ⟨w.heap.size, 2, none⟩ = some (.int .u64 x2) ∧ w'.cell? ⟨w.heap.size, 3, none⟩ = some (.int .u64 x3) ∧ w'.cell? ⟨w.heap.size, 4, none⟩ = some (.int .u64 x4) ∧ w'.cell? ⟨w.heap.size, 5, none⟩ = some (.int .u64 x5) ∧ w'.cell? ⟨w.heap.size, 6, none⟩ = some (.int .u64 x6) ∧ w'.cell? ⟨w.heap.size, 7, none⟩ = some (.int .u64 x7) ∧ w'.cell? ⟨w.heap.size, 8, none⟩ = some (.int .u64 y0) ∧ w'.cell? ⟨w.heap.size, 9, none⟩ = some (.int .u64 y1) ∧ w'.cell? ⟨w.heap.size, 10, none⟩ = some (.int .u64 y2) ∧ w'.cell? ⟨w.heap.size, 11, none⟩ = some (.int .u64 y3) ∧ w'.cell? ⟨w.heap.size, 12, none⟩ = some (.int .u64 y4) ∧ w'.cell? ⟨w.heap.size, 13, none⟩ = some (.int .u64 y5) ∧ w'.cell? ⟨w.heap.size, 14, none⟩ = some (.int .u64 y6) ∧ w'.cell? ⟨w.heap.size, 15, none⟩ = some (.int .u64 y7)) ((refine lo_cells ?_ <;> repeat (first | (with_reducible exact T0) | (with_reducible refine ArgsB.drew ?_) | (with_reducible refine ArgsB.alloc ?_ _) | (with_reducible refine ArgsB.set8g ?_ (by simp <;> omega) _ _ _ _ _ _ _ _) | (with_reducible refine Blk.set8 ?_ (by omega)))))
        (first
          | (go_at_call 144; refine (SA _).mono ?_; rintro e w1 ⟨rfl, hB⟩; (first | (have T1 : ArgsB w w1 [[.int .u64 x0, .int .u64 x1, .int .u64 x2, .int .u64 x3, .int .u64 x4, .int .u64 x5, .int .u64 x6, .int .u64 x7, .int .u64 y0, .int .u64 y1, .int .u64 y2, .int .u64 y3, .int .u64 y4, .int .u64 y5, .int .u64 y6, .int .u64 y7], [.int .u64 0, .int .u64 0, .int .u64 0, .int .u64 0, .int .u64 0, .int .u64 0, .int .u64 0, .int .u64 0]] := (by with_reducible exact T0.step hB); have tltw1 := (T0.b 1 rfl).lt; (try (replace G0 := G0.step hB; have j0c := G0.c 0 rfl; have j0f := G0.f 0 rfl; have j1c := G0.c 1 rfl; have j1f := G0.f 1 rfl; have j2c := G0.c 2 rfl; have j2f := G0.f 2 rfl; have j3c := G0.c 3 rfl; have j3f := G0.f 3 rfl; have j4c := G0.c 4 rfl; have j4f := G0.f 4 rfl; have j5c := G0.c 5 rfl; have j5f := G0.f 5 rfl; have j6c := G0.c 6 rfl; have j6f := G0.f 6 rfl; have j7c := G0.c 7 rfl; have j7f := G0.f 7 rfl; have jlt := G0.lt))) | (have T1 : ArgsB w w1 [[.int .u64 x0, .int .u64 x1, .int .u64 x2, .int .u64 x3, .int .u64 x4, .int .u64 x5, .int .u64 x6, .int .u64 x7, .int .u64 y0, .int .u64 y1, .int .u64 y2, .int .u64 y3, .int .u64 y4, .int .u64 y5, .int .u64 y6, .int .u64 y7], [.int .u64 0, .int .u64 0, .int .u64 0, .int .u64 0, .int .u64 0, .int .u64 0, .int .u64 0, .int .u64 0]] := (by with_reducible exact T0.drew.step hB); have tltw1 := (T0.b 1 rfl).lt; (try (replace G0 := G0.drew.step hB; have j0c := G0.c 0 rfl; have j0f := G0.f 0 rfl; have j1c := G0.c 1 rfl; have j1f := G0.f 1 rfl; have j2c := G0.c 2 rfl; have j2f := G0.f 2 rfl; have j3c := G0.c 3 rfl; have j3f := G0.f 3 rfl; have j4c := G0.c 4 rfl; have j4f := G0.f 4 rfl; have j5c := G0.c 5 rfl; have j5f := G0.f 5 rfl; have j6c := G0.c 6 rfl; have j6f := G0.f 6 rfl; have j7c := G0.c 7 rfl; have j7f := G0.f 7 rfl; have jlt := G0.lt))) | (have T1 : ArgsB w w1 [[.int .u64 x0, .int .u64 x1, .int .u64 x2, .int .u64 x3, .int .u64 x4, .int .u64 x5, .int .u64 x6, .int .u64 x7, .int .u64 y0, .int .u64 y1, .int .u64 y2, .int .u64 y3, .int .u64 y4, .int .u64 y5, .int .u64 y6, .int .u64 y7], [.int .u64 0, .int .u64 0, .int .u64 0, .int .u64 0, .int .u64 0, .int .u64 0, .int .u64 0, .int .u64 0]] := (by with_reducible exact (T0.alloc _).step hB); have tltw1 := (T0.b 1 rfl).lt; (have G0 := (Blk.new _ [.int .u64 0, .int .u64 0, .int .u64 0, .int .u64 0, .int .u64 0, .int .u64 0, .int .u64 0, .int .u64 0] _ rfl).step hB; have j0c := G0.c 0 rfl; have j0f := G0.f 0 rfl; have j1c := G0.c 1 rfl; have j1f := G0.f 1 rfl; have j2c := G0.c 2 rfl; have j2f := G0.f 2 rfl; have j3c := G0.c 3 rfl; have j3f := G0.f 3 rfl; have j4c := G0.c 4 rfl; have j4f := G0.f 4 rfl; have j5c := G0.c 5 rfl; have j5f := G0.f 5 rfl; have j6c := G0.c 6 rfl; have j6f := G0.f 6 rfl; have j7c := G0.c 7 rfl; have j7f := G0.f 7 rfl; have jlt := G0.lt)) | (have T1 : ArgsB w w1 [[.int .u64 x0, .int .u64 x1, .int .u64 x2, .int .u64 x3, .int .u64 x4, .int .u64 x5, .int .u64 x6, .int .u64 x7, .int .u64 y0, .int .u64 y1, .int .u64 y2, .int .u64 y3, .int .u64 y4, .int .u64 y5, .int .u64 y6, .int .u64 y7], [.int .u64 0, .int .u64 0, .int .u64 0, .int .u64 0, .int .u64 0, .int .u64 0, .int .u64 0, .int .u64 0]] := (by with_reducible exact (T0.alloc _).drew.step hB); have tltw1 := (T0.b 1 rfl).lt; (have G0 := (Blk.new _ [.int .u64 0, .int .u64 0, .int .u64 0, .int .u64 0, .int .u64 0, .int .u64 0, .int .u64 0, .int .u64 0] _ rfl).drew.step hB; have j0c := G0.c 0 rfl; have j0f := G0.f 0 rfl; have j1c := G0.c 1 rfl; have j1f := G0.f 1 rfl; have j2c := G0.c 2 rfl; have j2f := G0.f 2 rfl; have j3c := G0.c 3 rfl; have j3f := G0.f 3 rfl; have j4c := G0.c 4 rfl; have j4f := G0.f 4 rfl; have j5c := G0.c 5 rfl; have j5f := G0.f 5 rfl; have j6c := G0.c 6 rfl; have j6f := G0.f 6 rfl; have j7c := G0.c 7 rfl; have j7f := G0.f 7 rfl; have jlt := G0.lt))); clear T0; have T0 := T1; clear T1; clear hB)
          | (go_at_call 144; refine (SB _).mono ?_; rintro e w2 ⟨rfl, hB⟩; (first | (have T1 : ArgsB w w2 [[.int .u64 x0, .int .u64 x1, .int .u64 x2, .int .u64 x3, .int .u64 x4, .int .u64 x5, .int .u64 x6, .int .u64 x7, .int .u64 y0, .int .u64 y1, .int .u64 y2, .int .u64 y3, .int .u64 y4, .int .u64 y5, .int .u64 y6, .int .u64 y7], [.int .u64 0, .int .u64 0, .int .u64 0, .int .u64 0, .int .u64 0, .int .u64 0, .int .u64 0, .int .u64 0]] := (by with_reducible exact T0.step hB); have tltw2 := (T0.b 1 rfl).lt; (try (replace G0 := G0.step hB; have j0c := G0.c 0 rfl; have j0f := G0.f 0 rfl; have j1c := G0.c 1 rfl; have j1f := G0.f 1 rfl; have j2c := G0.c 2 rfl; have j2f := G0.f 2 rfl; have j3c := G0.c 3 rfl; have j3f := G0.f 3 rfl; have j4c := G0.c 4 rfl; have j4f := G0.f 4 rfl; have j5c := G0.c 5 rfl; have j5f := G0.f 5 rfl; have j6c := G0.c 6 rfl; have j6f := G0.f 6 rfl; have j7c := G0.c 7 rfl; have j7f := G0.f 7 rfl; have jlt := G0.lt))) | (have T1 : ArgsB w w2 [[.int .u64 x0, .int .u64 x1, .int .u64 x2, .int .u64 x3, .int .u64 x4, .int .u64 x5, .int .u64 x6, .int .u64 x7, .int .u64 y0, .int .u64 y1, .int .u64 y2, .int .u64 y3, .int .u64 y4, .int .u64 y5, .int .u64 y6, .int .u64 y7], [.int .u64 0, .int .u64 0, .int .u64 0, .int .u64 0, .int .u64 0, .int .u64 0, .int .u64 0, .int .u64 0]] := (by with_reducible exact T0.drew.step hB); have tltw2 := (T0.b 1 rfl).lt; (try (replace G0 := G0.drew.step hB; have j0c := G0.c 0 rfl; have j0f := G0.f 0 rfl; have j1c := G0.c 1 rfl; have j1f := G0.f 1 rfl; have j2c := G0.c 2 rfl; have j2f := G0.f 2 rfl; have j3c := G0.c 3 rfl; have j3f := G0.f 3 rfl; have j4c := G0.c 4 rfl; have j4f := G0.f 4 rfl; have j5c := G0.c 5 rfl; have j5f := G0.f 5 rfl; have j6c := G0.c 6 rfl; have j6f := G0.f 6 rfl; have j7c := G0.c 7 rfl; have j7f := G0.f 7 rfl; have jlt := G0.lt))) | (have T1 : ArgsB w w2 [[.int .u64 x0, .int .u64 x1, .int .u64 x2, .int .u64 x3, .int .u64 x4, .int .u64 x5, .int .u64 x6, .int .u64 x7, .int .u64 y0, .int .u64 y1, .int .u64 y2, .int .u64 y3, .int .u64 y4, .int .u64 y5, .int .u64 y6, .int .u64 y7], [.int .u64 0, .int .u64 0, .int .u64 0, .int .u64 0, .int .u64 0, .int .u64 0, .int .u64 0, .int .u64 0]] := (by with_reducible exact (T0.alloc _).step hB); have tltw2 := (T0.b 1 rfl).lt; (have G0 := (Blk.new _ [.int .u64 0, .int .u64 0, .int .u64 0, .int .u64 0, .int .u64 0, .int .u64 0, .int .u64 0, .int .u64 0] _ rfl).step hB; have j0c := G0.c 0 rfl; have j0f := G0.f 0 rfl; have j1c := G0.c 1 rfl; have j1f := G0.f 1 rfl; have j2c := G0.c 2 rfl; have j2f := G0.f 2 rfl; have j3c := G0.c 3 rfl; have j3f := G0.f 3 rfl; have j4c := G0.c 4 rfl; have j4f := G0.f 4 rfl; have j5c := G0.c 5 rfl; have j5f := G0.f 5 rfl; have j6c := G0.c 6 rfl; have j6f := G0.f 6 rfl; have j7c := G0.c 7 rfl; have j7f := G0.f 7 rfl; have jlt := G0.lt)) | (have T1 : ArgsB w w2 [[.int .u64 x0, .int .u64 x1, .int .u64 x2, .int .u64 x3, .int .u64 x4, .int .u64 x5, .int .u64 x6, .int .u64 x7, .int .u64 y0, .int .u64 y1, .int .u64 y2, .int .u64 y3, .int .u64 y4, .int .u64 y5, .int .u64 y6, .int .u64 y7], [.int .u64 0, .int .u64 0, .int .u64 0, .int .u64 0, .int .u64 0, .int .u64 0, .int .u64 0, .int .u64 0]] := (by with_reducible exact (T0.alloc _).drew.step hB); have tltw2 := (T0.b 1 rfl).lt; (have G0 := (Blk.new _ [.int .u64 0, .int .u64 0, .int .u64 0, .int .u64 0, .int .u64 0, .int .u64 0, .int .u64 0, .int .u64 0] _ rfl).drew.step hB; have j0c := G0.c 0 rfl; have j0f := G0.f 0 rfl; have j1c := G0.c 1 rfl; have j1f := G0.f 1 rfl; have j2c := G0.c 2 rfl; have j2f := G0.f 2 rfl; have j3c := G0.c 3 rfl; have j3f := G0.f 3 rfl; have j4c := G0.c 4 rfl; have j4f := G0.f 4 rfl; have j5c := G0.c 5 rfl; have j5f := G0.f 5 rfl; have j6c := G0.c 6 rfl; have j6f := G0.f 6 rfl; have j7c := G0.c 7 rfl; have j7f := G0.f 7 rfl; have jlt := G0.lt))); clear T0; have T0 := T1; clear T1; clear hB)
          | (go_at_call 142; refine (GD _).mono ?_; rintro e w3 ⟨rfl, hB⟩; (first | (have T1 : ArgsB w w3 [[.int .u64 x0, .int .u64 x1, .int .u64 x2, .int .u64 x3, .int .u64 x4, .int .u64 x5, .int .u64 x6, .int .u64 x7, .int .u64 y0, .int .u64 y1, .int .u64 y2, .int .u64 y3, .int .u64 y4, .int .u64 y5, .int .u64 y6, .int .u64 y7], [.int .u64 0, .int .u64 0, .int .u64 0, .int .u64 0, .int .u64 0, .int .u64 0, .int .u64 0, .int .u64 0]] := (by with_reducible exact T0.step hB); have tltw3 := (T0.b 1 rfl).lt; (try (replace G0 := G0.step hB; have j0c := G0.c 0 rfl; have j0f := G0.f 0 rfl; have j1c := G0.c 1 rfl; have j1f := G0.f 1 rfl; have j2c := G0.c 2 rfl; have j2f := G0.f 2 rfl; have j3c := G0.c 3 rfl; have j3f := G0.f 3 rfl; have j4c := G0.c 4 rfl; have j4f := G0.f 4 rfl; have j5c := G0.c 5 rfl; have j5f := G0.f 5 rfl; have j6c := G0.c 6 rfl; have j6f := G0.f 6 rfl; have j7c := G0.c 7 rfl; have j7f := G0.f 7 rfl; have jlt := G0.lt))) | (have T1 : ArgsB w w3 [[.int .u64 x0, .int .u64 x1, .int .u64 x2, .int .u64 x3, .int .u64 x4, .int .u64 x5, .int .u64 x6, .int .u64 x7, .int .u64 y0, .int .u64 y1, .int .u64 y2, .int .u64 y3, .int .u64 y4, .int .u64 y5, .int .u64 y6, .int .u64 y7], [.int .u64 0, .int .u64 0, .int .u64 0, .int .u64 0, .int .u64 0, .int .u64 0, .int .u64 0, .int .u64 0]] := (by with_reducible exact T0.drew.step hB); have tltw3 := (T0.b 1 rfl).lt; (try (replace G0 := G0.drew.step hB; have j0c := G0.c 0 rfl; have j0f := G0.f 0 rfl; have j1c := G0.c 1 rfl; have j1f := G0.f 1 rfl; have j2c := G0.c 2 rfl; have j2f := G0.f 2 rfl; have j3c := G0.c 3 rfl; have j3f := G0.f 3 rfl; have j4c := G0.c 4 rfl; have j4f := G0.f 4 rfl; have j5c := G0.c 5 rfl; have j5f := G0.f 5 rfl; have j6c := G0.c 6 rfl; have j6f := G0.f 6 rfl; have j7c := G0.c 7 rfl; have j7f := G0.f 7 rfl; have jlt := G0.lt))) | (have T1 : ArgsB w w3 [[.int .u64 x0, .int .u64 x1, .int .u64 x2, .int .u64 x3, .int .u64 x4, .int .u64 x5, .int .u64 x6, .int .u64 x7, .int .u64 y0, .int .u64 y1, .int .u64 y2, .int .u64 y3, .int .u64 y4, .int .u64 y5, .int .u64 y6, .int .u64 y7], [.int .u64 0, .int .u64 0, .int .u64 0, .int .u64 0, .int .u64 0, .int .u64 0, .int .u64 0, .int .u64 0]] := (by with_reducible exact (T0.alloc _).step hB); have tltw3 := (T0.b 1 rfl).lt; (have G0 := (Blk.new _ [.int .u64 0, .int .u64 0, .int .u64 0, .int .u64 0, .int .u64 0, .int .u64 0, .int .u64 0, .int .u64 0] _ rfl).step hB; have j0c := G0.c 0 rfl; have j0f := G0.f 0 rfl; have j1c := G0.c 1 rfl; have j1f := G0.f 1 rfl; have j2c := G0.c 2 rfl; have j2f := G0.f 2 rfl; have j3c := G0.c 3 rfl; have j3f := G0.f 3 rfl; have j4c := G0.c 4 rfl; have j4f := G0.f 4 rfl; have j5c := G0.c 5 rfl; have j5f := G0.f 5 rfl; have j6c := G0.c 6 rfl; have j6f := G0.f 6 rfl; have j7c := G0.c 7 rfl; have j7f := G0.f 7 rfl; have jlt := G0.lt)) | (have T1 : ArgsB w w3 [[.int .u64 x0, .int .u64 x1, .int .u64 x2, .int .u64 x3, .int .u64 x4, .int .u64 x5, .int .u64 x6, .int .u64 x7, .int .u64 y0, .int .u64 y1, .int .u64 y2, .int .u64 y3, .int .u64 y4, .int .u64 y5, .int .u64 y6, .int .u64 y7], [.int .u64 0, .int .u64 0, .int .u64 0, .int .u64 0, .int .u64 0, .int .u64 0, .int .u64 0, .int .u64 0]] := (by with_reducible exact (T0.alloc _).drew.step hB); have tltw3 := (T0.b 1 rfl).lt; (have G0 := (Blk.new _ [.int .u64 0, .int .u64 0, .int .u64 0, .int .u64 0, .int .u64 0, .int .u64 0, .int .u64 0, .int .u64 0] _ rfl).drew.step hB; have j0c := G0.c 0 rfl; have j0f := G0.f 0 rfl; have j1c := G0.c 1 rfl; have j1f := G0.f 1 rfl; have j2c := G0.c 2 rfl; have j2f := G0.f 2 rfl; have j3c := G0.c 3 rfl; have j3f := G0.f 3 rfl; have j4c := G0.c 4 rfl; have j4f := G0.f 4 rfl; have j5c := G0.c 5 rfl; have j5f := G0.f 5 rfl; have j6c := G0.c 6 rfl; have j6f := G0.f 6 rfl; have j7c := G0.c 7 rfl; have j7f := G0.f 7 rfl; have jlt := G0.lt))); clear T0; have T0 := T1; clear T1; clear hB))
      all_goals go_wp2_with fail
      all_goals go_meet
      all_goals have hl : w.heap.size + ([[.int .u64 x0, .int .u64 x1, .int .u64 x2, .int .u64 x3, .int .u64 x4, .int .u64 x5, .int .u64 x6, .int .u64 x7, .int .u64 y0, .int .u64 y1, .int .u64 y2, .int .u64 y3, .int .u64 y4, .int .u64 y5, .int .u64 y6, .int .u64 y7], [.int .u64 0, .int .u64 0, .int .u64 0, .int .u64 0, .int .u64 0, .int .u64 0, .int .u64 0, .int .u64 0]] : List (List Value)).length ≤ w3.heap.size := (T0.b 1 rfl).lt
      all_goals first | (with_reducible exact cutB_new T0 hl) | (with_reducible exact cutB_set8 T0 G0 (by simp; omega))
    case rest =>
      clear T0 SA SB GD hlw EZ
      obtain ⟨gc, hp, hgc, T0, GC⟩ := hcut
      subst hp
      have hgc' : w.heap.size + 2 ≤ gc := hgc
      have hlw := (T0.b 1 rfl).lt
      have hlc := GC.lt
      go_upto_region 4 with fail
      go_cut [5, 6] (fun p q wx => CutB w wx [[.int .u64 x0, .int .u64 x1, .int .u64 x2, .int .u64 x3, .int .u64 x4, .int .u64 x5, .int .u64 x6, .int .u64 x7, .int .u64 y0, .int .u64 y1, .int .u64 y2, .int .u64 y3, .int .u64 y4, .int .u64 y5, .int .u64 y6, .int .u64 y7], [.int .u64 0, .int .u64 0, .int .u64 0, .int .u64 0, .int .u64 0, .int .u64 0, .int .u64 0, .int .u64 0]] [.int .u64 c3, .int .u64 c2, .int .u64 c1, .int .u64 c0] p ∧ q = .bool t1 ∧ Blk wx gc [.int .u64 g0, .int .u64 g1, .int .u64 g2, .int .u64 g3, .int .u64 g4, .int .u64 g5, .int .u64 g6, .int .u64 g7])
      case first =>
        go_region_held3 (fun w' => w'.cell? ⟨w.heap.size, 0, none⟩ = some (.int .u64 x0) ∧ w'.cell? ⟨w.heap.size, 1, none⟩ = some (.int .u64 x1) ∧ w'.cell? ⟨w.heap.size, 2, none⟩ = some (.int .u64 x2) ∧ w'.cell? ⟨w.heap.size, 3, none⟩ = some (.int .u64 x3) ∧ w'.cell? ⟨w.heap.size, 4, none⟩ = some (.int .u64 x4) ∧ w'.cell? ⟨w.heap.size, 5, none⟩ = some (.int .u64 x5) ∧ w'.cell? ⟨w.heap.size, 6, none⟩ = some (.int .u64 x6) ∧ w'.cell? ⟨w.heap.size, 7, none⟩ = some (.int .u64 x7) ∧ w'.cell? ⟨w.heap.size, 8, none⟩ = some (.int .u64 y0) ∧ w'.cell? ⟨w.heap.size, 9, none⟩ = some (.int .u64 y1) ∧ w'.cell? ⟨w.heap.size, 10, none⟩ = some (.int .u64 y2) ∧ w'.cell? ⟨w.heap.size, 11, none⟩ = some (.int .u64 y3) ∧ w'.cell? ⟨w.heap.size, 12, none⟩ = some (.int .u64 y4) ∧ w'.cell? ⟨w.heap.size, 13, none⟩ = some (.int .u64 y5) ∧ w'.cell? ⟨w.heap.size, 14, none⟩ = some (.int .u64 y6) ∧ w'.cell? ⟨w.heap.size, 15, none⟩ = some (.int .u64 y7) ∧ w'.cell? ⟨gc, 0, none⟩ = some (.int .u64 g0) ∧ w'.cell? ⟨gc, 1, none⟩ = some (.int .u64 g1) ∧ w'.cell? ⟨gc, 2, none⟩ = some (.int .u64 g2) ∧ w'.cell? ⟨gc, 3, none⟩ = some (.int .u64 g3) ∧ w'.cell? ⟨gc, 4, none⟩ = some (.int .u64 g4) ∧ w'.cell? ⟨gc, 5, none⟩ = some (.int .u64 g5) ∧ w'.cell? ⟨gc, 6, none⟩ = some (.int .u64 g6) ∧ w'.cell? ⟨gc, 7, none⟩ = some (.int .u64 g7)) ((refine lo_cells2 ?_ ?_ <;> repeat (first | (with_reducible exact T0) | (with_reducible exact GC) | (with_reducible refine ArgsB.drew ?_) | (with_reducible refine ArgsB.alloc ?_ _) | (with_reducible refine Blk.drew ?_) | (with_reducible refine Blk.alloc ?_ _) | (with_reducible refine ArgsB.set4g ?_ (by simp <;> omega) _ _ _ _) | (with_reducible refine Blk.set4 ?_ (by omega)))))
          (first
            | (go_at_call 172; refine (NB _).mono ?_; rintro e w4 ⟨rfl, hB⟩; (first | (have T1 : ArgsB w w4 [[.int .u64 x0, .int .u64 x1, .int .u64 x2, .int .u64 x3, .int .u64 x4, .int .u64 x5, .int .u64 x6, .int .u64 x7, .int .u64 y0, .int .u64 y1, .int .u64 y2, .int .u64 y3, .int .u64 y4, .int .u64 y5, .int .u64 y6, .int .u64 y7], [.int .u64 0, .int .u64 0, .int .u64 0, .int .u64 0, .int .u64 0, .int .u64 0, .int .u64 0, .int .u64 0]] := (by with_reducible exact T0.step hB); have tltw4 := (T0.b 1 rfl).lt; have lGCw4 := GC.lt; replace GC := GC.step hB; (try (replace G0 := G0.step hB; have j0c := G0.c 0 rfl; have j0f := G0.f 0 rfl; have j1c := G0.c 1 rfl; have j1f := G0.f 1 rfl; have j2c := G0.c 2 rfl; have j2f := G0.f 2 rfl; have j3c := G0.c 3 rfl; have j3f := G0.f 3 rfl; have jlt := G0.lt))) | (have T1 : ArgsB w w4 [[.int .u64 x0, .int .u64 x1, .int .u64 x2, .int .u64 x3, .int .u64 x4, .int .u64 x5, .int .u64 x6, .int .u64 x7, .int .u64 y0, .int .u64 y1, .int .u64 y2, .int .u64 y3, .int .u64 y4, .int .u64 y5, .int .u64 y6, .int .u64 y7], [.int .u64 0, .int .u64 0, .int .u64 0, .int .u64 0, .int .u64 0, .int .u64 0, .int .u64 0, .int .u64 0]] := (by with_reducible exact T0.drew.step hB); have tltw4 := (T0.b 1 rfl).lt; have lGCw4 := GC.lt; replace GC := GC.drew.step hB; (try (replace G0 := G0.drew.step hB; have j0c := G0.c 0 rfl; have j0f := G0.f 0 rfl; have j1c := G0.c 1 rfl; have j1f := G0.f 1 rfl; have j2c := G0.c 2 rfl; have j2f := G0.f 2 rfl; have j3c := G0.c 3 rfl; have j3f := G0.f 3 rfl; have jlt := G0.lt))) | (have T1 : ArgsB w w4 [[.int .u64 x0, .int .u64 x1, .int .u64 x2, .int .u64 x3, .int .u64 x4, .int .u64 x5, .int .u64 x6, .int .u64 x7, .int .u64 y0, .int .u64 y1, .int .u64 y2, .int .u64 y3, .int .u64 y4, .int .u64 y5, .int .u64 y6, .int .u64 y7], [.int .u64 0, .int .u64 0, .int .u64 0, .int .u64 0, .int .u64 0, .int .u64 0, .int .u64 0, .int .u64 0]] := (by with_reducible exact (T0.alloc _).step hB); have tltw4 := (T0.b 1 rfl).lt; have lGCw4 := GC.lt; replace GC := (GC.alloc _).step hB; (have G0 := (Blk.new _ [.int .u64 0, .int .u64 0, .int .u64 0, .int .u64 0] _ rfl).step hB; have j0c := G0.c 0 rfl; have j0f := G0.f 0 rfl; have j1c := G0.c 1 rfl; have j1f := G0.f 1 rfl; have j2c := G0.c 2 rfl; have j2f := G0.f 2 rfl; have j3c := G0.c 3 rfl; have j3f := G0.f 3 rfl; have jlt := G0.lt)) | (have T1 : ArgsB w w4 [[.int .u64 x0, .int .u64 x1, .int .u64 x2, .int .u64 x3, .int .u64 x4, .int .u64 x5, .int .u64 x6, .int .u64 x7, .int .u64 y0, .int .u64 y1, .int .u64 y2, .int .u64 y3, .int .u64 y4, .int .u64 y5, .int .u64 y6, .int .u64 y7], [.int .u64 0, .int .u64 0, .int .u64 0, .int .u64 0, .int .u64 0, .int .u64 0, .int .u64 0, .int .u64 0]] := (by with_reducible exact (T0.alloc _).drew.step hB); have tltw4 := (T0.b 1 rfl).lt; have lGCw4 := GC.lt; replace GC := (GC.alloc _).drew.step hB; (have G0 := (Blk.new _ [.int .u64 0, .int .u64 0, .int .u64 0, .int .u64 0] _ rfl).drew.step hB; have j0c := G0.c 0 rfl; have j0f := G0.f 0 rfl; have j1c := G0.c 1 rfl; have j1f := G0.f 1 rfl; have j2c := G0.c 2 rfl; have j2f := G0.f 2 rfl; have j3c := G0.c 3 rfl; have j3f := G0.f 3 rfl; have jlt := G0.lt))); clear T0; have T0 := T1; clear T1; clear hB)
            | (go_at_call 185; refine (H1 _).mono ?_; rintro e w5 ⟨rfl, hB⟩; (first | (have T1 : ArgsB w w5 [[.int .u64 x0, .int .u64 x1, .int .u64 x2, .int .u64 x3, .int .u64 x4, .int .u64 x5, .int .u64 x6, .int .u64 x7, .int .u64 y0, .int .u64 y1, .int .u64 y2, .int .u64 y3, .int .u64 y4, .int .u64 y5, .int .u64 y6, .int .u64 y7], [.int .u64 0, .int .u64 0, .int .u64 0, .int .u64 0, .int .u64 0, .int .u64 0, .int .u64 0, .int .u64 0]] := (by with_reducible exact T0.step hB); have tltw5 := (T0.b 1 rfl).lt; have lGCw5 := GC.lt; replace GC := GC.step hB; (try (replace G0 := G0.step hB; have j0c := G0.c 0 rfl; have j0f := G0.f 0 rfl; have j1c := G0.c 1 rfl; have j1f := G0.f 1 rfl; have j2c := G0.c 2 rfl; have j2f := G0.f 2 rfl; have j3c := G0.c 3 rfl; have j3f := G0.f 3 rfl; have jlt := G0.lt))) | (have T1 : ArgsB w w5 [[.int .u64 x0, .int .u64 x1, .int .u64 x2, .int .u64 x3, .int .u64 x4, .int .u64 x5, .int .u64 x6, .int .u64 x7, .int .u64 y0, .int .u64 y1, .int .u64 y2, .int .u64 y3, .int .u64 y4, .int .u64 y5, .int .u64 y6, .int .u64 y7], [.int .u64 0, .int .u64 0, .int .u64 0, .int .u64 0, .int .u64 0, .int .u64 0, .int .u64 0, .int .u64 0]] := (by with_reducible exact T0.drew.step hB); have tltw5 := (T0.b 1 rfl).lt; have lGCw5 := GC.lt; replace GC := GC.drew.step hB; (try (replace G0 := G0.drew.step hB; have j0c := G0.c 0 rfl; have j0f := G0.f 0 rfl; have j1c := G0.c 1 rfl; have j1f := G0.f 1 rfl; have j2c := G0.c 2 rfl; have j2f := G0.f 2 rfl; have j3c := G0.c 3 rfl; have j3f := G0.f 3 rfl; have jlt := G0.lt))) | (have T1 : ArgsB w w5 [[.int .u64 x0, .int .u64 x1, .int .u64 x2, .int .u64 x3, .int .u64 x4, .int .u64 x5, .int .u64 x6, .int .u64 x7, .int .u64 y0, .int .u64 y1, .int .u64 y2, .int .u64 y3, .int .u64 y4, .int .u64 y5, .int .u64 y6, .int .u64 y7], [.int .u64 0, .int .u64 0, .int .u64 0, .int .u64 0, .int .u64 0, .int .u64 0, .int .u64 0, .int .u64 0]] := (by with_reducible exact (T0.alloc _).step hB); have tltw5 := (T0.b 1 rfl).lt; have lGCw5 := GC.lt; replace GC := (GC.alloc _).step hB; (have G0 := (Blk.new _ [.int .u64 0, .int .u64 0, .int .u64 0, .int .u64 0] _ rfl).step hB; have j0c := G0.c 0 rfl; have j0f := G0.f 0 rfl; have j1c := G0.c 1 rfl; have j1f := G0.f 1 rfl; have j2c := G0.c 2 rfl; have j2f := G0.f 2 rfl; have j3c := G0.c 3 rfl; have j3f := G0.f 3 rfl; have jlt := G0.lt)) | (have T1 : ArgsB w w5 [[.int .u64 x0, .int .u64 x1, .int .u64 x2, .int .u64 x3, .int .u64 x4, .int .u64 x5, .int .u64 x6, .int .u64 x7, .int .u64 y0, .int .u64 y1, .int .u64 y2, .int .u64 y3, .int .u64 y4, .int .u64 y5, .int .u64 y6, .int .u64 y7], [.int .u64 0, .int .u64 0, .int .u64 0, .int .u64 0, .int .u64 0, .int .u64 0, .int .u64 0, .int .u64 0]] := (by with_reducible exact (T0.alloc _).drew.step hB); have tltw5 := (T0.b 1 rfl).lt; have lGCw5 := GC.lt; replace GC := (GC.alloc _).drew.step hB; (have G0 := (Blk.new _ [.int .u64 0, .int .u64 0, .int .u64 0, .int .u64 0] _ rfl).drew.step hB; have j0c := G0.c 0 rfl; have j0f := G0.f 0 rfl; have j1c := G0.c 1 rfl; have j1f := G0.f 1 rfl; have j2c := G0.c 2 rfl; have j2f := G0.f 2 rfl; have j3c := G0.c 3 rfl; have j3f := G0.f 3 rfl; have jlt := G0.lt))); clear T0; have T0 := T1; clear T1; clear hB))
        all_goals go_wp2_with fail
        all_goals go_meet
        all_goals have hl : w.heap.size + ([[.int .u64 x0, .int .u64 x1, .int .u64 x2, .int .u64 x3, .int .u64 x4, .int .u64 x5, .int .u64 x6, .int .u64 x7, .int .u64 y0, .int .u64 y1, .int .u64 y2, .int .u64 y3, .int .u64 y4, .int .u64 y5, .int .u64 y6, .int .u64 y7], [.int .u64 0, .int .u64 0, .int .u64 0, .int .u64 0, .int .u64 0, .int .u64 0, .int .u64 0, .int .u64 0]] : List (List Value)).length ≤ w5.heap.size := (T0.b 1 rfl).lt
        all_goals first | (with_reducible exact ⟨cutB_new T0 hl, rfl, GC.alloc _⟩) | (with_reducible exact ⟨cutB_set4 T0 G0 (by simp; omega), rfl, GC.set4 (by omega)⟩)
      case rest =>
        clear T0 GC H1 hlw hlc
        obtain ⟨⟨gu, hp, hgu, T0, GU⟩, hq, GC⟩ := hcut
        subst hp; subst hq
        cases t1
        · have HV : Hid (ratV (sl x0 x1 x2 x3 x4 x5 x6 x7) (sl y0 y1 y2 y3 y4 y5 y6 y7) = .tuple #[.agg #[.int .u64 0, .int .u64 0, .int .u64 0, .int .u64 0, .int .u64 0, .int .u64 0, .int .u64 0, .int .u64 0], .bool false]) := by show _ = _; rw [HR.out]; simp
          have HB := T0.below
          have o0c := (T0.b 1 rfl).c 0 rfl; have o0f := (T0.b 1 rfl).f 0 rfl; have o1c := (T0.b 1 rfl).c 1 rfl; have o1f := (T0.b 1 rfl).f 1 rfl; have o2c := (T0.b 1 rfl).c 2 rfl; have o2f := (T0.b 1 rfl).f 2 rfl; have o3c := (T0.b 1 rfl).c 3 rfl; have o3f := (T0.b 1 rfl).f 3 rfl; have o4c := (T0.b 1 rfl).c 4 rfl; have o4f := (T0.b 1 rfl).f 4 rfl; have o5c := (T0.b 1 rfl).c 5 rfl; have o5f := (T0.b 1 rfl).f 5 rfl; have o6c := (T0.b 1 rfl).c 6 rfl; have o6f := (T0.b 1 rfl).f 6 rfl; have o7c := (T0.b 1 rfl).c 7 rfl; have o7f := (T0.b 1 rfl).f 7 rfl
          go_wp2
          refine bodyPost_ret (v := .tuple #[.agg #[.int .u64 0, .int .u64 0, .int .u64 0, .int .u64 0, .int .u64 0, .int .u64 0, .int .u64 0, .int .u64 0], .bool false]) (by simp [results, Try.results173, go_sem, o0c, o1c, o2c, o3c, o4c, o5c, o6c, o7c]) rfl ?_
          refine ⟨by rw [HV.out], ?_⟩
          repeat' (refine Below.setCell ?_ (by simp; try omega) _)
          exact HB
        · have hgu' : w.heap.size + 2 ≤ gu := hgu
          have hlw := (T0.b 1 rfl).lt
          have hlc := GC.lt
          have hlu := GU.lt
          go_upto_region 7 with fail
          go_cut [7, 6] (fun p q wx => CutB w wx [[.int .u64 x0, .int .u64 x1, .int .u64 x2, .int .u64 x3, .int .u64 x4, .int .u64 x5, .int .u64 x6, .int .u64 x7, .int .u64 y0, .int .u64 y1, .int .u64 y2, .int .u64 y3, .int .u64 y4, .int .u64 y5, .int .u64 y6, .int .u64 y7], [.int .u64 0, .int .u64 0, .int .u64 0, .int .u64 0, .int .u64 0, .int .u64 0, .int .u64 0, .int .u64 0]] [.int .u64 d3, .int .u64 d2, .int .u64 d1, .int .u64 d0] p ∧ q = .bool t2 ∧ Blk wx gu [.int .u64 c3, .int .u64 c2, .int .u64 c1, .int .u64 c0])
          case first =>
            go_region_held3 (fun w' => w'.cell? ⟨w.heap.size, 8, none⟩ = some (.int .u64 y0) ∧ w'.cell? ⟨w.heap.size, 9, none⟩ = some (.int .u64 y1) ∧ w'.cell? ⟨w.heap.size, 10, none⟩ = some (.int .u64 y2) ∧ w'.cell? ⟨w.heap.size, 11, none⟩ = some (.int .u64 y3) ∧ w'.cell? ⟨w.heap.size, 12, none⟩ = some (.int .u64 y4) ∧ w'.cell? ⟨w.heap.size, 13, none⟩ = some (.int .u64 y5) ∧ w'.cell? ⟨w.heap.size, 14, none⟩ = some (.int .u64 y6) ∧ w'.cell? ⟨w.heap.size, 15, none⟩ = some (.int .u64 y7) ∧ w'.cell? ⟨gc, 0, none⟩ = some (.int .u64 g0) ∧ w'.cell? ⟨gc, 1, none⟩ = some (.int .u64 g1) ∧ w'.cell? ⟨gc, 2, none⟩ = some (.int .u64 g2) ∧ w'.cell? ⟨gc, 3, none⟩ = some (.int .u64 g3) ∧ w'.cell? ⟨gc, 4, none⟩ = some (.int .u64 g4) ∧ w'.cell? ⟨gc, 5, none⟩ = some (.int .u64 g5) ∧ w'.cell? ⟨gc, 6, none⟩ = some (.int .u64 g6) ∧ w'.cell? ⟨gc, 7, none⟩ = some (.int .u64 g7)) ((refine lo_cells3 (x0 := x0) (x1 := x1) (x2 := x2) (x3 := x3) (x4 := x4) (x5 := x5) (x6 := x6) (x7 := x7) ?_ ?_ <;> repeat (first | (with_reducible exact T0) | (with_reducible exact GC) | (with_reducible refine ArgsB.drew ?_) | (with_reducible refine ArgsB.alloc ?_ _) | (with_reducible refine Blk.drew ?_) | (with_reducible refine Blk.alloc ?_ _) | (with_reducible refine ArgsB.set4g ?_ (by simp <;> omega) _ _ _ _) | (with_reducible refine Blk.set4 ?_ (by omega)))))
              (first
                | (go_at_call 172; refine (NB _).mono ?_; rintro e w6 ⟨rfl, hB⟩; (first | (have T1 : ArgsB w w6 [[.int .u64 x0, .int .u64 x1, .int .u64 x2, .int .u64 x3, .int .u64 x4, .int .u64 x5, .int .u64 x6, .int .u64 x7, .int .u64 y0, .int .u64 y1, .int .u64 y2, .int .u64 y3, .int .u64 y4, .int .u64 y5, .int .u64 y6, .int .u64 y7], [.int .u64 0, .int .u64 0, .int .u64 0, .int .u64 0, .int .u64 0, .int .u64 0, .int .u64 0, .int .u64 0]] := (by with_reducible exact T0.step hB); have tltw6 := (T0.b 1 rfl).lt; have lGCw6 := GC.lt; replace GC := GC.step hB; have lGUw6 := GU.lt; replace GU := GU.step hB; (try (replace G0 := G0.step hB; have j0c := G0.c 0 rfl; have j0f := G0.f 0 rfl; have j1c := G0.c 1 rfl; have j1f := G0.f 1 rfl; have j2c := G0.c 2 rfl; have j2f := G0.f 2 rfl; have j3c := G0.c 3 rfl; have j3f := G0.f 3 rfl; have jlt := G0.lt))) | (have T1 : ArgsB w w6 [[.int .u64 x0, .int .u64 x1, .int .u64 x2, .int .u64 x3, .int .u64 x4, .int .u64 x5, .int .u64 x6, .int .u64 x7, .int .u64 y0, .int .u64 y1, .int .u64 y2, .int .u64 y3, .int .u64 y4, .int .u64 y5, .int .u64 y6, .int .u64 y7], [.int .u64 0, .int .u64 0, .int .u64 0, .int .u64 0, .int .u64 0, .int .u64 0, .int .u64 0, .int .u64 0]] := (by with_reducible exact T0.drew.step hB); have tltw6 := (T0.b 1 rfl).lt; have lGCw6 := GC.lt; replace GC := GC.drew.step hB; have lGUw6 := GU.lt; replace GU := GU.drew.step hB; (try (replace G0 := G0.drew.step hB; have j0c := G0.c 0 rfl; have j0f := G0.f 0 rfl; have j1c := G0.c 1 rfl; have j1f := G0.f 1 rfl; have j2c := G0.c 2 rfl; have j2f := G0.f 2 rfl; have j3c := G0.c 3 rfl; have j3f := G0.f 3 rfl; have jlt := G0.lt))) | (have T1 : ArgsB w w6 [[.int .u64 x0, .int .u64 x1, .int .u64 x2, .int .u64 x3, .int .u64 x4, .int .u64 x5, .int .u64 x6, .int .u64 x7, .int .u64 y0, .int .u64 y1, .int .u64 y2, .int .u64 y3, .int .u64 y4, .int .u64 y5, .int .u64 y6, .int .u64 y7], [.int .u64 0, .int .u64 0, .int .u64 0, .int .u64 0, .int .u64 0, .int .u64 0, .int .u64 0, .int .u64 0]] := (by with_reducible exact (T0.alloc _).step hB); have tltw6 := (T0.b 1 rfl).lt; have lGCw6 := GC.lt; replace GC := (GC.alloc _).step hB; have lGUw6 := GU.lt; replace GU := (GU.alloc _).step hB; (have G0 := (Blk.new _ [.int .u64 0, .int .u64 0, .int .u64 0, .int .u64 0] _ rfl).step hB; have j0c := G0.c 0 rfl; have j0f := G0.f 0 rfl; have j1c := G0.c 1 rfl; have j1f := G0.f 1 rfl; have j2c := G0.c 2 rfl; have j2f := G0.f 2 rfl; have j3c := G0.c 3 rfl; have j3f := G0.f 3 rfl; have jlt := G0.lt)) | (have T1 : ArgsB w w6 [[.int .u64 x0, .int .u64 x1, .int .u64 x2, .int .u64 x3, .int .u64 x4, .int .u64 x5, .int .u64 x6, .int .u64 x7, .int .u64 y0, .int .u64 y1, .int .u64 y2, .int .u64 y3, .int .u64 y4, .int .u64 y5, .int .u64 y6, .int .u64 y7], [.int .u64 0, .int .u64 0, .int .u64 0, .int .u64 0, .int .u64 0, .int .u64 0, .int .u64 0, .int .u64 0]] := (by with_reducible exact (T0.alloc _).drew.step hB); have tltw6 := (T0.b 1 rfl).lt; have lGCw6 := GC.lt; replace GC := (GC.alloc _).drew.step hB; have lGUw6 := GU.lt; replace GU := (GU.alloc _).drew.step hB; (have G0 := (Blk.new _ [.int .u64 0, .int .u64 0, .int .u64 0, .int .u64 0] _ rfl).drew.step hB; have j0c := G0.c 0 rfl; have j0f := G0.f 0 rfl; have j1c := G0.c 1 rfl; have j1f := G0.f 1 rfl; have j2c := G0.c 2 rfl; have j2f := G0.f 2 rfl; have j3c := G0.c 3 rfl; have j3f := G0.f 3 rfl; have jlt := G0.lt))); clear T0; have T0 := T1; clear T1; clear hB)
                | (go_at_call 185; refine (H2 _).mono ?_; rintro e w7 ⟨rfl, hB⟩; (first | (have T1 : ArgsB w w7 [[.int .u64 x0, .int .u64 x1, .int .u64 x2, .int .u64 x3, .int .u64 x4, .int .u64 x5, .int .u64 x6, .int .u64 x7, .int .u64 y0, .int .u64 y1, .int .u64 y2, .int .u64 y3, .int .u64 y4, .int .u64 y5, .int .u64 y6, .int .u64 y7], [.int .u64 0, .int .u64 0, .int .u64 0, .int .u64 0, .int .u64 0, .int .u64 0, .int .u64 0, .int .u64 0]] := (by with_reducible exact T0.step hB); have tltw7 := (T0.b 1 rfl).lt; have lGCw7 := GC.lt; replace GC := GC.step hB; have lGUw7 := GU.lt; replace GU := GU.step hB; (try (replace G0 := G0.step hB; have j0c := G0.c 0 rfl; have j0f := G0.f 0 rfl; have j1c := G0.c 1 rfl; have j1f := G0.f 1 rfl; have j2c := G0.c 2 rfl; have j2f := G0.f 2 rfl; have j3c := G0.c 3 rfl; have j3f := G0.f 3 rfl; have jlt := G0.lt))) | (have T1 : ArgsB w w7 [[.int .u64 x0, .int .u64 x1, .int .u64 x2, .int .u64 x3, .int .u64 x4, .int .u64 x5, .int .u64 x6, .int .u64 x7, .int .u64 y0, .int .u64 y1, .int .u64 y2, .int .u64 y3, .int .u64 y4, .int .u64 y5, .int .u64 y6, .int .u64 y7], [.int .u64 0, .int .u64 0, .int .u64 0, .int .u64 0, .int .u64 0, .int .u64 0, .int .u64 0, .int .u64 0]] := (by with_reducible exact T0.drew.step hB); have tltw7 := (T0.b 1 rfl).lt; have lGCw7 := GC.lt; replace GC := GC.drew.step hB; have lGUw7 := GU.lt; replace GU := GU.drew.step hB; (try (replace G0 := G0.drew.step hB; have j0c := G0.c 0 rfl; have j0f := G0.f 0 rfl; have j1c := G0.c 1 rfl; have j1f := G0.f 1 rfl; have j2c := G0.c 2 rfl; have j2f := G0.f 2 rfl; have j3c := G0.c 3 rfl; have j3f := G0.f 3 rfl; have jlt := G0.lt))) | (have T1 : ArgsB w w7 [[.int .u64 x0, .int .u64 x1, .int .u64 x2, .int .u64 x3, .int .u64 x4, .int .u64 x5, .int .u64 x6, .int .u64 x7, .int .u64 y0, .int .u64 y1, .int .u64 y2, .int .u64 y3, .int .u64 y4, .int .u64 y5, .int .u64 y6, .int .u64 y7], [.int .u64 0, .int .u64 0, .int .u64 0, .int .u64 0, .int .u64 0, .int .u64 0, .int .u64 0, .int .u64 0]] := (by with_reducible exact (T0.alloc _).step hB); have tltw7 := (T0.b 1 rfl).lt; have lGCw7 := GC.lt; replace GC := (GC.alloc _).step hB; have lGUw7 := GU.lt; replace GU := (GU.alloc _).step hB; (have G0 := (Blk.new _ [.int .u64 0, .int .u64 0, .int .u64 0, .int .u64 0] _ rfl).step hB; have j0c := G0.c 0 rfl; have j0f := G0.f 0 rfl; have j1c := G0.c 1 rfl; have j1f := G0.f 1 rfl; have j2c := G0.c 2 rfl; have j2f := G0.f 2 rfl; have j3c := G0.c 3 rfl; have j3f := G0.f 3 rfl; have jlt := G0.lt)) | (have T1 : ArgsB w w7 [[.int .u64 x0, .int .u64 x1, .int .u64 x2, .int .u64 x3, .int .u64 x4, .int .u64 x5, .int .u64 x6, .int .u64 x7, .int .u64 y0, .int .u64 y1, .int .u64 y2, .int .u64 y3, .int .u64 y4, .int .u64 y5, .int .u64 y6, .int .u64 y7], [.int .u64 0, .int .u64 0, .int .u64 0, .int .u64 0, .int .u64 0, .int .u64 0, .int .u64 0, .int .u64 0]] := (by with_reducible exact (T0.alloc _).drew.step hB); have tltw7 := (T0.b 1 rfl).lt; have lGCw7 := GC.lt; replace GC := (GC.alloc _).drew.step hB; have lGUw7 := GU.lt; replace GU := (GU.alloc _).drew.step hB; (have G0 := (Blk.new _ [.int .u64 0, .int .u64 0, .int .u64 0, .int .u64 0] _ rfl).drew.step hB; have j0c := G0.c 0 rfl; have j0f := G0.f 0 rfl; have j1c := G0.c 1 rfl; have j1f := G0.f 1 rfl; have j2c := G0.c 2 rfl; have j2f := G0.f 2 rfl; have j3c := G0.c 3 rfl; have j3f := G0.f 3 rfl; have jlt := G0.lt))); clear T0; have T0 := T1; clear T1; clear hB))
            all_goals go_wp2_with fail
            all_goals go_meet
            all_goals have hl : w.heap.size + ([[.int .u64 x0, .int .u64 x1, .int .u64 x2, .int .u64 x3, .int .u64 x4, .int .u64 x5, .int .u64 x6, .int .u64 x7, .int .u64 y0, .int .u64 y1, .int .u64 y2, .int .u64 y3, .int .u64 y4, .int .u64 y5, .int .u64 y6, .int .u64 y7], [.int .u64 0, .int .u64 0, .int .u64 0, .int .u64 0, .int .u64 0, .int .u64 0, .int .u64 0, .int .u64 0]] : List (List Value)).length ≤ w7.heap.size := (T0.b 1 rfl).lt
            all_goals first | (with_reducible exact ⟨cutB_new T0 hl, rfl, GU.alloc _⟩) | (with_reducible exact ⟨cutB_set4 T0 G0 (by simp; omega), rfl, GU.set4 (by omega)⟩)
          case rest =>
            clear T0 GC GU H2 hlw hlc hlu NB
            obtain ⟨⟨gd, hp, hgd, T0, GD⟩, hq, GU⟩ := hcut
            subst hp; subst hq
            cases t2
            · have HV : Hid (ratV (sl x0 x1 x2 x3 x4 x5 x6 x7) (sl y0 y1 y2 y3 y4 y5 y6 y7) = .tuple #[.agg #[.int .u64 0, .int .u64 0, .int .u64 0, .int .u64 0, .int .u64 0, .int .u64 0, .int .u64 0, .int .u64 0], .bool false]) := by show _ = _; rw [HR.out]; simp
              have HB := T0.below
              have o0c := (T0.b 1 rfl).c 0 rfl; have o0f := (T0.b 1 rfl).f 0 rfl; have o1c := (T0.b 1 rfl).c 1 rfl; have o1f := (T0.b 1 rfl).f 1 rfl; have o2c := (T0.b 1 rfl).c 2 rfl; have o2f := (T0.b 1 rfl).f 2 rfl; have o3c := (T0.b 1 rfl).c 3 rfl; have o3f := (T0.b 1 rfl).f 3 rfl; have o4c := (T0.b 1 rfl).c 4 rfl; have o4f := (T0.b 1 rfl).f 4 rfl; have o5c := (T0.b 1 rfl).c 5 rfl; have o5f := (T0.b 1 rfl).f 5 rfl; have o6c := (T0.b 1 rfl).c 6 rfl; have o6f := (T0.b 1 rfl).f 6 rfl; have o7c := (T0.b 1 rfl).c 7 rfl; have o7f := (T0.b 1 rfl).f 7 rfl
              go_wp2
              refine bodyPost_ret (v := .tuple #[.agg #[.int .u64 0, .int .u64 0, .int .u64 0, .int .u64 0, .int .u64 0, .int .u64 0, .int .u64 0, .int .u64 0], .bool false]) (by simp [results, Try.results173, go_sem, o0c, o1c, o2c, o3c, o4c, o5c, o6c, o7c]) rfl ?_
              refine ⟨by rw [HV.out], ?_⟩
              repeat' (refine Below.setCell ?_ (by simp; try omega) _)
              exact HB
            · have HV : Hid (ratV (sl x0 x1 x2 x3 x4 x5 x6 x7) (sl y0 y1 y2 y3 y4 y5 y6 y7) = .tuple #[.agg #[.int .u64 c3, .int .u64 c2, .int .u64 c1, .int .u64 c0, .int .u64 d3, .int .u64 d2, .int .u64 d1, .int .u64 d0], .bool true]) := by show _ = _; rw [HR.out]; simp
              have hgd' : w.heap.size + 2 ≤ gd := hgd
              have HB := T0.below
              have o0c := (T0.b 1 rfl).c 0 rfl; have o0f := (T0.b 1 rfl).f 0 rfl; have o1c := (T0.b 1 rfl).c 1 rfl; have o1f := (T0.b 1 rfl).f 1 rfl; have o2c := (T0.b 1 rfl).c 2 rfl; have o2f := (T0.b 1 rfl).f 2 rfl; have o3c := (T0.b 1 rfl).c 3 rfl; have o3f := (T0.b 1 rfl).f 3 rfl; have o4c := (T0.b 1 rfl).c 4 rfl; have o4f := (T0.b 1 rfl).f 4 rfl; have o5c := (T0.b 1 rfl).c 5 rfl; have o5f := (T0.b 1 rfl).f 5 rfl; have o6c := (T0.b 1 rfl).c 6 rfl; have o6f := (T0.b 1 rfl).f 6 rfl; have o7c := (T0.b 1 rfl).c 7 rfl; have o7f := (T0.b 1 rfl).f 7 rfl
              have p0c := GU.c 0 rfl; have p1c := GU.c 1 rfl; have p2c := GU.c 2 rfl; have p3c := GU.c 3 rfl
              have q0c := GD.c 0 rfl; have q1c := GD.c 1 rfl; have q2c := GD.c 2 rfl; have q3c := GD.c 3 rfl
              go_wp2
              refine bodyPost_ret (v := .tuple #[.agg #[.int .u64 c3, .int .u64 c2, .int .u64 c1, .int .u64 c0, .int .u64 d3, .int .u64 d2, .int .u64 d1, .int .u64 d0], .bool true]) (by simp [results, Try.results173, go_sem, o0c, o1c, o2c, o3c, o4c, o5c, o6c, o7c]) rfl ?_
              refine ⟨by rw [HV.out], ?_⟩
              repeat' (refine Below.setCell ?_ (by simp; try omega) _)
              exact HB
end Go.Proofs.Ytmjlgmoohpnhfaa

/- The walk of the model's quotient and rest of two numbers of four words. -/
namespace Go.Proofs.Ytmjlgmoohpnhfaa
open Go.RowKit
end Go.Proofs.Ytmjlgmoohpnhfaa

/- The walk of the model's fraction in lowest terms. -/
namespace Go.Proofs.Ytmjlgmoohpnhfaa
open Go.RowKit
/-- Two numbers of digits in one answer. -/
def NumsP (k : Nat) (x y : Int) (w : World) (e : Ending) (w' : World) : Prop :=
  ∃ (s1 : Bool) (o1 : Option Addr) (n1 c1 : Nat) (d1 : List Int) (s2 : Bool) (o2 : Option Addr) (n2 c2 : Nat) (d2 : List Int), e = .returned (.agg #[.bool s1, .slice o1 n1 c1, .bool s2, .slice o2 n2 c2]) ∧ IsNum w' s1 o1 n1 c1 d1 x k ∧ IsNum w' s2 o2 n2 c2 d2 y k ∧ Below w.heap.size w w'
theorem nums_ret {w w3 : World} {x y : Int} {k : Nat} {s : Bool} {ao : Option Addr} {n cap : Nat} {ds : List Int} {t : Bool} {bo : Option Addr} {m c : Nat} {es : List Int} {R : Nat} (hR : w.heap.size ≤ R) (G : Blk w3 R [.bool false, .slice none 0 0, .bool false, .slice none 0 0]) (h : IsNum w3 s ao n cap ds x k) (h' : IsNum w3 t bo m c es y k) (hb : Below w.heap.size w w3) :
    NumsP k x y w (.returned (.agg #[.bool s, .slice ao n cap, .bool t, .slice bo m c])) ((((w3.setCell ⟨R, 0, none⟩ (.bool s)).setCell ⟨R, 1, none⟩ (.slice ao n cap)).setCell ⟨R, 2, none⟩ (.bool t)).setCell ⟨R, 3, none⟩ (.slice bo m c)) := by
  have G1 := G.setI 0 (by simp) (.bool s)
  have G2 := G1.setI 1 (by simp) (.slice ao n cap)
  have G3 := G2.setI 2 (by simp) (.bool t)
  refine ⟨s, ao, n, cap, ds, t, bo, m, c, es, rfl, ?_, ?_, (((hb.setCell hR _).setCell hR _).setCell hR _).setCell hR _⟩
  · exact (((h.set (G.c 0 rfl) (by simp) _).set (G1.c 1 rfl) (by simp) _).set (G2.c 2 rfl) (by simp) _).set (G3.c 3 rfl) (by simp) _
  · exact (((h'.set (G.c 0 rfl) (by simp) _).set (G1.c 1 rfl) (by simp) _).set (G2.c 2 rfl) (by simp) _).set (G3.c 3 rfl) (by simp) _
theorem NumsP.drew {k : Nat} {x y : Int} {w w' : World} {e : Ending} (h : NumsP k x y w e w') : NumsP k x y w e w'.drew := by
  obtain ⟨s1, o1, n1, c1, d1, s2, o2, n2, c2, d2, e, N1, N2, hB⟩ := h
  exact ⟨s1, o1, n1, c1, d1, s2, o2, n2, c2, d2, e, N1.drew, N2.drew, hB.drew⟩
/-- The two numbers as they lie in the arguments' places. -/
def CutM (w wx : World) (x y : Int) (k : Nat) : Prop :=
  ∃ (s1 : Bool) (o1 : Option Addr) (n1 c1 : Nat) (d1 : List Int) (s2 : Bool) (o2 : Option Addr) (n2 c2 : Nat) (d2 : List Int), ArgsB w wx [[.bool s1, .slice o1 n1 c1], [.bool s2, .slice o2 n2 c2], [.bool false, .slice none 0 0, .bool false, .slice none 0 0]] ∧ IsNum wx s1 o1 n1 c1 d1 x k ∧ IsNum wx s2 o2 n2 c2 d2 y k
theorem ArgsB.up0 {w W : World} {a0 a1 u0 u1 : Value} {b r : List Value} (h : ArgsB w W [[a0, a1], b, r]) : ArgsB w ((W.setCell ⟨w.heap.size, 0, none⟩ u0).setCell ⟨w.heap.size, 1, none⟩ u1) [[u0, u1], b, r] := by
  refine ⟨(h.1.setCell (by simp) _).setCell (by simp) _, fun j vs hj => ?_⟩
  match j, hj with
  | 0, hj => cases hj; exact Blk.stored2 (h.b 0 rfl) _ _
  | 1, hj => cases hj; exact Blk.set2 (h.b 1 rfl) (by omega)
  | 2, hj => cases hj; exact Blk.set2 (h.b 2 rfl) (by omega)
  | j + 3, hj => simp at hj
theorem ArgsB.up1 {w W : World} {b0 b1 u0 u1 : Value} {a r : List Value} (h : ArgsB w W [a, [b0, b1], r]) : ArgsB w ((W.setCell ⟨w.heap.size + 1, 0, none⟩ u0).setCell ⟨w.heap.size + 1, 1, none⟩ u1) [a, [u0, u1], r] := by
  refine ⟨(h.1.setCell (by simp) _).setCell (by simp) _, fun j vs hj => ?_⟩
  match j, hj with
  | 0, hj => cases hj; exact Blk.set2 (h.b 0 rfl) (by omega)
  | 1, hj => cases hj; exact Blk.stored2 (h.b 1 rfl) _ _
  | 2, hj => cases hj; exact Blk.set2 (h.b 2 rfl) (by omega)
  | j + 3, hj => simp at hj
theorem cutM_up {w W : World} {x y : Int} {k : Nat} {p q : Bool} {po qo : Option Addr} {p1 p2 q1 q2 : Nat} {s1 : Bool} {o1 : Option Addr} {n1 c1 : Nat} {d1 : List Int} {s2 : Bool} {o2 : Option Addr} {n2 c2 : Nat} {d2 : List Int} (h : ArgsB w W [[.bool p, .slice po p1 p2], [.bool q, .slice qo q1 q2], [.bool false, .slice none 0 0, .bool false, .slice none 0 0]]) (N1 : IsNum W s1 o1 n1 c1 d1 x k) (N2 : IsNum W s2 o2 n2 c2 d2 y k) :
    CutM w ((((W.setCell ⟨w.heap.size, 0, none⟩ (.bool s1)).setCell ⟨w.heap.size, 1, none⟩ (.slice o1 n1 c1)).setCell ⟨w.heap.size + 1, 0, none⟩ (.bool s2)).setCell ⟨w.heap.size + 1, 1, none⟩ (.slice o2 n2 c2)) x y k :=
  ⟨s1, o1, n1, c1, d1, s2, o2, n2, c2, d2, h.up0.up1, num_put (num_put N1 (h.b 0 rfl) _ _) (Blk.set2 (h.b 1 rfl) (by omega)) _ _, num_put (num_put N2 (h.b 0 rfl) _ _) (Blk.set2 (h.b 1 rfl) (by omega)) _ _⟩
theorem CutM.drew {w W : World} {x y : Int} {k : Nat} (h : CutM w W x y k) : CutM w W.drew x y k := by
  obtain ⟨s1, o1, n1, c1, d1, s2, o2, n2, c2, d2, A, N1, N2⟩ := h
  exact ⟨s1, o1, n1, c1, d1, s2, o2, n2, c2, d2, A.drew, N1.drew, N2.drew⟩
theorem mk_args (s1 : Bool) (o1 : Option Addr) (n1 c1 : Nat) (s2 : Bool) (o2 : Option Addr) (n2 c2 : Nat) (w : World) : ArgsB w (((w.alloc (.cells #[.bool s1, .slice o1 n1 c1] 89)).alloc (.cells #[.bool s2, .slice o2 n2 c2] 89)).alloc (.cells #[.bool false, .slice none 0 0, .bool false, .slice none 0 0] 100)) [[.bool s1, .slice o1 n1 c1], [.bool s2, .slice o2 n2 c2], [.bool false, .slice none 0 0, .bool false, .slice none 0 0]] := by
  refine ⟨(((Below.refl _ _).alloc (Nat.le_refl _) _).alloc (by simp) _).alloc (by simp; omega) _, fun j vs hj => ?_⟩
  match j, hj with
  | 0, hj => cases hj; exact ((Blk.new w [.bool s1, .slice o1 n1 c1] 89 rfl).alloc _).alloc _
  | 1, hj => cases hj; exact (Blk.new (w.alloc (.cells #[.bool s1, .slice o1 n1 c1] 89)) [.bool s2, .slice o2 n2 c2] 89 (by simp)).alloc _
  | 2, hj => cases hj; exact Blk.new ((w.alloc (.cells #[.bool s1, .slice o1 n1 c1] 89)).alloc (.cells #[.bool s2, .slice o2 n2 c2] 89)) [.bool false, .slice none 0 0, .bool false, .slice none 0 0] 100 (by simp)
  | j + 3, hj => simp at hj
theorem low_make {x y X Y g : Int} (hX : X = if y < 0 then -x else x) (hY : Y = if y < 0 then -y else y) (hg : g = (Int.gcd x y : Int)) (hy : y ≠ 0) : X / g = lowN x y ∧ Y / g = lowD x y ∧ (Int.gcd X Y : Int) = g ∧ 0 < g := by
  have g0 : 0 < Int.gcd x y := Int.gcd_pos_of_ne_zero_right _ hy
  have dx : g ∣ x := by rw [hg]; exact Int.gcd_dvd_left _ _
  have dy : g ∣ y := by rw [hg]; exact Int.gcd_dvd_right _ _
  have e1 : (Int.gcd X Y : Int) = g := by
    rw [hg, hX, hY]
    split
    · simp [Int.gcd]
    · rfl
  have hgp : 0 < g := by omega
  obtain ⟨a, rfl⟩ := dx
  obtain ⟨b, rfl⟩ := dy
  have hd : ∀ z : Int, (g * z) / g = z := fun z => Int.mul_ediv_cancel_left z (by omega)
  have hn : ∀ z : Int, (((g * z).natAbs : Nat) : Int) / g = (z.natAbs : Int) := fun z => by
    rw [Int.natAbs_mul, Int.natCast_mul, Int.natAbs_of_nonneg (by omega)]
    exact hd _
  have hs : ∀ z : Int, g * z < 0 ↔ z < 0 := fun z => by
    constructor
    · intro h
      apply Decidable.byContradiction
      intro h'
      have := Int.mul_nonneg (a := g) (b := z) (by omega) (by omega)
      omega
    · intro h
      exact Int.mul_neg_of_pos_of_neg hgp h
  refine ⟨?_, ?_, e1, hgp⟩
  · unfold lowN shareZ
    rw [← hg, hn, hX]
    simp only [hs]
    by_cases h2 : b < 0
    · rw [if_pos h2, ← Int.mul_neg, hd]
      by_cases h1 : a < 0 <;> simp [h1, h2] <;> omega
    · rw [if_neg h2, hd]
      by_cases h1 : a < 0 <;> simp [h1, h2] <;> omega
  · unfold lowD shareZ
    rw [← hg, hn, hY]
    simp only [hs]
    by_cases h2 : b < 0
    · rw [if_pos h2, ← Int.mul_neg, hd]
      simp [h2]; omega
    · rw [if_neg h2, hd]
      simp [h2]; omega
theorem mk_cells {s : Bool} {o : Option Addr} {n c : Nat} {W : World} {g : Nat} (G : Blk W g [.bool s, .slice o n c]) : (fun w' => w'.cell? ⟨g, 0, none⟩ = some (.bool s) ∧ w'.cell? ⟨g, 1, none⟩ = some (.slice o n c)) W := ⟨G.c 0 rfl, G.c 1 rfl⟩
set_option maxRecDepth 100000 in
set_option maxHeartbeats 4000000 in
theorem l2Make_any (s1 : Bool) (o1 : Option Addr) (n1 c1 : Nat) (d1 : List Int) (s2 : Bool) (o2 : Option Addr) (n2 c2 : Nat) (d2 : List Int) (x y : Int) (k : Nat) (hk : 2 ≤ k) (hk2 : k ≤ 8000) (w : World) (N1 : IsNum w s1 o1 n1 c1 d1 x k) (N2 : IsNum w s2 o2 n2 c2 d2 y k) (hy : y ≠ 0) :
    Calls Try.prog 108 #[.agg #[.bool s1, .slice o1 n1 c1], .agg #[.bool s2, .slice o2 n2 c2]] w (NumsP (k + 3) (lowN x y) (lowD x y) w) := by
  have T0 := mk_args s1 o1 n1 c1 s2 o2 n2 c2 w
  replace N1 := N1.step T0.below
  replace N2 := N2.step T0.below
  obtain ⟨X, hX⟩ : ∃ X, X = if y < 0 then -x else x := ⟨_, rfl⟩
  obtain ⟨Y, hY⟩ : ∃ Y, Y = if y < 0 then -y else y := ⟨_, rfl⟩
  obtain ⟨e1, e2, e3, e4⟩ := low_make hX hY rfl hy
  go_enter Try.func108, Try.ntmps108
  go_upto_region 1 with fail
  generalize (((w.alloc (.cells #[.bool s1, .slice o1 n1 c1] 89)).alloc (.cells #[.bool s2, .slice o2 n2 c2] 89)).alloc (.cells #[.bool false, .slice none 0 0, .bool false, .slice none 0 0] 100)) = W at *
  go_cut [7] (fun p wx => p = .bool (decide (y < 0)) ∧ wx = W)
  case first =>
    have HN : Hid (s2 = decide (y < 0)) := N2.neg
    have a0c := (T0.b 0 rfl).c 0 rfl; have a0f := (T0.b 0 rfl).f 0 rfl; have a1c := (T0.b 0 rfl).c 1 rfl; have a1f := (T0.b 0 rfl).f 1 rfl; have alt := (T0.b 0 rfl).lt; have b0c := (T0.b 1 rfl).c 0 rfl; have b0f := (T0.b 1 rfl).f 0 rfl; have b1c := (T0.b 1 rfl).c 1 rfl; have b1f := (T0.b 1 rfl).f 1 rfl; have blt := (T0.b 1 rfl).lt; simp only [Nat.add_zero] at a0c a0f a1c a1f alt
    go_wp2_with fail
    go_meet
    case rel => exact ⟨by rw [HN.out], rfl⟩
  case rest =>
   obtain ⟨rfl, rfl⟩ := hcut
   rename_i hk'
   refine hk' _ _ ?_
   go_cut [] (fun wx => CutM w wx X Y k)
   case first =>
    by_cases hn : y < 0
    · obtain rfl : s2 = true := by rw [N2.neg]; simpa using hn
      rw [if_pos hn] at hX hY
      rw [decide_eq_true hn]
      have a0c := (T0.b 0 rfl).c 0 rfl; have a0f := (T0.b 0 rfl).f 0 rfl; have a1c := (T0.b 0 rfl).c 1 rfl; have a1f := (T0.b 0 rfl).f 1 rfl; have alt := (T0.b 0 rfl).lt; have b0c := (T0.b 1 rfl).c 0 rfl; have b0f := (T0.b 1 rfl).f 0 rfl; have b1c := (T0.b 1 rfl).c 1 rfl; have b1f := (T0.b 1 rfl).f 1 rfl; have blt := (T0.b 1 rfl).lt; simp only [Nat.add_zero] at a0c a0f a1c a1f alt
      have tok1 : True := trivial
      replace T0 := T0.drew; replace N1 := N1.drew; replace N2 := N2.drew
      go_wp2_with fail
      go_region_with ((first
        | (go_at_call 146; have _t := tok1; refine (neg_any s1 o1 n1 c1 d1 x k _ N1).mono ?_; rintro e w1 ⟨s3, o3, n3, c3, d3, rfl, N3, hB⟩; replace T0 := T0.step hB; replace N2 := N2.step hB; (try (replace N4 := N4.step hB)); clear hB tok1 _t a0c a0f a1c a1f alt b0c b0f b1c b1f blt; have a0c := (T0.b 0 rfl).c 0 rfl; have a0f := (T0.b 0 rfl).f 0 rfl; have a1c := (T0.b 0 rfl).c 1 rfl; have a1f := (T0.b 0 rfl).f 1 rfl; have alt := (T0.b 0 rfl).lt; have b0c := (T0.b 1 rfl).c 0 rfl; have b0f := (T0.b 1 rfl).f 0 rfl; have b1c := (T0.b 1 rfl).c 1 rfl; have b1f := (T0.b 1 rfl).f 1 rfl; have blt := (T0.b 1 rfl).lt; simp only [Nat.add_zero] at a0c a0f a1c a1f alt)
        | (go_at_call 146; refine (neg_any true o2 n2 c2 d2 y k _ N2).mono ?_; rintro e w2 ⟨s4, o4, n4, c4, d4, rfl, N4, hB⟩; replace T0 := T0.step hB; replace N3 := N3.step hB; clear hB a0c a0f a1c a1f alt b0c b0f b1c b1f blt; have a0c := (T0.b 0 rfl).c 0 rfl; have a0f := (T0.b 0 rfl).f 0 rfl; have a1c := (T0.b 0 rfl).c 1 rfl; have a1f := (T0.b 0 rfl).f 1 rfl; have alt := (T0.b 0 rfl).lt; have b0c := (T0.b 1 rfl).c 0 rfl; have b0f := (T0.b 1 rfl).f 0 rfl; have b1c := (T0.b 1 rfl).c 1 rfl; have b1f := (T0.b 1 rfl).f 1 rfl; have blt := (T0.b 1 rfl).lt; simp only [Nat.add_zero] at a0c a0f a1c a1f alt)))
      all_goals go_wp2_with fail
      all_goals go_meet
      all_goals rw [← hX] at N3
      all_goals rw [← hY] at N4
      all_goals first | exact cutM_up T0 N3 N4 | exact (cutM_up T0 N3 N4).drew
    · obtain rfl : s2 = false := by rw [N2.neg]; simpa using hn
      rw [if_neg hn] at hX hY
      rw [decide_eq_false hn]
      subst hX hY
      have a0c := (T0.b 0 rfl).c 0 rfl; have a0f := (T0.b 0 rfl).f 0 rfl; have a1c := (T0.b 0 rfl).c 1 rfl; have a1f := (T0.b 0 rfl).f 1 rfl; have alt := (T0.b 0 rfl).lt; have b0c := (T0.b 1 rfl).c 0 rfl; have b0f := (T0.b 1 rfl).f 0 rfl; have b1c := (T0.b 1 rfl).c 1 rfl; have b1f := (T0.b 1 rfl).f 1 rfl; have blt := (T0.b 1 rfl).lt; simp only [Nat.add_zero] at a0c a0f a1c a1f alt
      go_wp2_with fail
      go_meet
      case rel => exact ⟨s1, o1, n1, c1, d1, false, o2, n2, c2, d2, T0, N1, N2⟩
   case rest =>
    clear T0 N1 N2 hk'
    obtain ⟨s3, o3, n3, c3, d3, s4, o4, n4, c4, d4, T0, N1, N2⟩ := hcut
    have a0c := (T0.b 0 rfl).c 0 rfl; have a0f := (T0.b 0 rfl).f 0 rfl; have a1c := (T0.b 0 rfl).c 1 rfl; have a1f := (T0.b 0 rfl).f 1 rfl; have alt := (T0.b 0 rfl).lt; have b0c := (T0.b 1 rfl).c 0 rfl; have b0f := (T0.b 1 rfl).f 0 rfl; have b1c := (T0.b 1 rfl).c 1 rfl; have b1f := (T0.b 1 rfl).f 1 rfl; have blt := (T0.b 1 rfl).lt; simp only [Nat.add_zero] at a0c a0f a1c a1f alt
    go_wp2_with fail
    refine (gcd_any s3 s4 o3 o4 n3 n4 c3 c4 k d3 d4 _ _ _ N1 N2 (by omega)).mono ?_
    rintro e w3 ⟨s5, o5, n5, c5, d5, rfl, N3, hB⟩
    rw [e3] at N3
    replace T0 := T0.step hB; replace N1 := N1.step hB; replace N2 := N2.step hB
    clear hB a0c a0f a1c a1f alt b0c b0f b1c b1f blt
    have hlw := (T0.b 2 rfl).lt
    have GB := Blk.new w3 [.bool s5, .slice o5 n5 c5] 89 rfl
    replace T0 := T0.alloc (.cells #[.bool s5, .slice o5 n5 c5] 89); replace N1 := N1.alloc (.cells #[.bool s5, .slice o5 n5 c5] 89); replace N2 := N2.alloc (.cells #[.bool s5, .slice o5 n5 c5] 89); replace N3 := N3.alloc (.cells #[.bool s5, .slice o5 n5 c5] 89)
    go_upto_region 4 with fail
    generalize w3.alloc (.cells #[.bool s5, .slice o5 n5 c5] 89) = W3 at *
    generalize w3.heap.size = gb at *
    obtain ⟨q, hq⟩ : ∃ q, cmpI (Int.gcd x y : Int) 1 = q := ⟨_, rfl⟩
    go_cut [18] (fun p wx => p = .bool (!(q == 0)) ∧ ArgsB w wx [[.bool s3, .slice o3 n3 c3], [.bool s4, .slice o4 n4 c4], [.bool false, .slice none 0 0, .bool false, .slice none 0 0]] ∧ Blk wx gb [.bool s5, .slice o5 n5 c5] ∧ IsNum wx s3 o3 n3 c3 d3 X k ∧ IsNum wx s4 o4 n4 c4 d4 Y k ∧ IsNum wx s5 o5 n5 c5 d5 (Int.gcd x y : Int) k)
    case first =>
      replace N3 := N3.drew; replace N1 := N1.drew; replace N2 := N2.drew; replace T0 := T0.drew
      go_region_held3 (fun w' => w'.cell? ⟨gb, 0, none⟩ = some (.bool s5) ∧ w'.cell? ⟨gb, 1, none⟩ = some (.slice o5 n5 c5)) ((refine mk_cells ?_ <;> repeat (first | (with_reducible exact GB) | (with_reducible refine Blk.drew ?_))))
        (first
          | (go_at_call 93; refine (int_any 1 _ (by decide) (by decide)).mono ?_; rintro e w4 ⟨s9, o9, n9, c9, d9, rfl, N9, hB⟩; replace GB := GB.drew.step hB; replace T0 := T0.step hB; replace N1 := N1.step hB; replace N2 := N2.step hB; replace N3 := N3.step hB; clear hB)
          | (go_at_call 91; refine (cmp_any s5 s9 o5 o9 n5 n9 c5 c9 k d5 d9 _ _ _ N3 (num_more N9 hk) (by omega)).mono ?_; rintro e w5 ⟨rfl, hB⟩; rw [hq]; replace GB := GB.step hB; replace T0 := T0.step hB; replace N1 := N1.step hB; replace N2 := N2.step hB; replace N3 := N3.step hB; clear hB))
      all_goals go_wp2_with fail
      all_goals go_meet
      all_goals exact ⟨rfl, T0, GB, N1, N2, N3⟩
    case rest =>
      clear T0 N1 N2 N3 GB
      obtain ⟨rfl, T0, GB, N1, N2, N3⟩ := hcut
      rename_i hk'
      refine hk' _ _ ?_
      have hlb := GB.lt
      go_cut [] (fun wx => CutM w wx (lowN x y) (lowD x y) (k + 3))
      case first =>
        by_cases h1 : (Int.gcd x y : Int) = 1
        · obtain rfl : q = 0 := by rw [← hq, h1]; decide
          rw [h1, Int.ediv_one] at e1 e2
          rw [e1] at N1
          rw [e2] at N2
          go_wp2_with fail
          go_meet
          case rel => exact ⟨s3, o3, n3, c3, d3, s4, o4, n4, c4, d4, T0, num_more N1 (by omega), num_more N2 (by omega)⟩
        · have hq1 : (!(q == 0)) = true := by
            have h3 : q ≠ 0 := by
              rw [← hq, cmpI_gt (by omega)]
              decide
            simp [h3]
          rw [hq1]
          have a0c := (T0.b 0 rfl).c 0 rfl; have a0f := (T0.b 0 rfl).f 0 rfl; have a1c := (T0.b 0 rfl).c 1 rfl; have a1f := (T0.b 0 rfl).f 1 rfl; have alt := (T0.b 0 rfl).lt; have b0c := (T0.b 1 rfl).c 0 rfl; have b0f := (T0.b 1 rfl).f 0 rfl; have b1c := (T0.b 1 rfl).c 1 rfl; have b1f := (T0.b 1 rfl).f 1 rfl; have blt := (T0.b 1 rfl).lt; simp only [Nat.add_zero] at a0c a0f a1c a1f alt
          have g0c := GB.c 0 rfl; have g1c := GB.c 1 rfl
          go_wp2_with fail
          refine (div_any s3 s5 o3 o5 n3 n5 c3 c5 k d3 d5 _ _ _ N1 N3 (by omega) (by omega)).mono ?_
          rintro e w5 ⟨s6, o6, n6, c6, d6, s7, o7, n7, c7, d7, rfl, M1, -, hB⟩
          rw [e1] at M1
          replace T0 := T0.step hB; replace GB := GB.step hB; replace N2 := N2.step hB; replace N3 := N3.step hB
          clear hB g0c g1c N1 a0c a0f a1c a1f alt b0c b0f b1c b1f blt
          have a0c := (T0.b 0 rfl).c 0 rfl; have a0f := (T0.b 0 rfl).f 0 rfl; have a1c := (T0.b 0 rfl).c 1 rfl; have a1f := (T0.b 0 rfl).f 1 rfl; have alt := (T0.b 0 rfl).lt; have b0c := (T0.b 1 rfl).c 0 rfl; have b0f := (T0.b 1 rfl).f 0 rfl; have b1c := (T0.b 1 rfl).c 1 rfl; have b1f := (T0.b 1 rfl).f 1 rfl; have blt := (T0.b 1 rfl).lt; simp only [Nat.add_zero] at a0c a0f a1c a1f alt
          go_upto_region 6 with fail
          clear a0c a0f a1c a1f alt b0c b0f b1c b1f blt
          have M2 := num_put M1 (R := w.heap.size) (T0.b 0 rfl) (.bool s6) (.slice o6 n6 c6)
          have N4 := num_put N2 (R := w.heap.size) (T0.b 0 rfl) (.bool s6) (.slice o6 n6 c6)
          have N5 := num_put N3 (R := w.heap.size) (T0.b 0 rfl) (.bool s6) (.slice o6 n6 c6)
          have G2 := GB.set2 (g := w.heap.size) (v0 := .bool s6) (v1 := .slice o6 n6 c6) (by omega)
          replace T0 := T0.up0 (u0 := .bool s6) (u1 := .slice o6 n6 c6)
          clear M1 N2 N3 GB
          generalize ((w5.setCell ⟨w.heap.size, 0, none⟩ (.bool s6)).setCell ⟨w.heap.size, 1, none⟩ (.slice o6 n6 c6)) = W6 at *
          have a0c := (T0.b 0 rfl).c 0 rfl; have a0f := (T0.b 0 rfl).f 0 rfl; have a1c := (T0.b 0 rfl).c 1 rfl; have a1f := (T0.b 0 rfl).f 1 rfl; have alt := (T0.b 0 rfl).lt; have b0c := (T0.b 1 rfl).c 0 rfl; have b0f := (T0.b 1 rfl).f 0 rfl; have b1c := (T0.b 1 rfl).c 1 rfl; have b1f := (T0.b 1 rfl).f 1 rfl; have blt := (T0.b 1 rfl).lt; simp only [Nat.add_zero] at a0c a0f a1c a1f alt
          have g0c := G2.c 0 rfl; have g1c := G2.c 1 rfl
          go_wp2_with fail
          refine (div_any s4 s5 o4 o5 n4 n5 c4 c5 k d4 d5 _ _ _ N4 N5 (by omega) (by omega)).mono ?_
          rintro e w7 ⟨s8, o8, n8, c8, d8, s9, o9, n9, c9, d9, rfl, M3, -, hB⟩
          rw [e2] at M3
          replace T0 := T0.step hB; replace M2 := M2.step hB
          clear hB g0c g1c N4 N5 G2 a0c a0f a1c a1f alt b0c b0f b1c b1f blt
          have a0c := (T0.b 0 rfl).c 0 rfl; have a0f := (T0.b 0 rfl).f 0 rfl; have a1c := (T0.b 0 rfl).c 1 rfl; have a1f := (T0.b 0 rfl).f 1 rfl; have alt := (T0.b 0 rfl).lt; have b0c := (T0.b 1 rfl).c 0 rfl; have b0f := (T0.b 1 rfl).f 0 rfl; have b1c := (T0.b 1 rfl).c 1 rfl; have b1f := (T0.b 1 rfl).f 1 rfl; have blt := (T0.b 1 rfl).lt; simp only [Nat.add_zero] at a0c a0f a1c a1f alt
          have M4 := num_put M2 (R := w.heap.size + 1) (T0.b 1 rfl) (.bool s8) (.slice o8 n8 c8)
          have M5 := num_put M3 (R := w.heap.size + 1) (T0.b 1 rfl) (.bool s8) (.slice o8 n8 c8)
          have T1 := T0.up1 (u0 := .bool s8) (u1 := .slice o8 n8 c8)
          clear M2 M3 T0
          go_wp2_with fail
          go_meet
          case rel => exact ⟨s6, o6, n6, c6, d6, s8, o8, n8, c8, d8, T1, M4, M5⟩
      case rest =>
        clear T0 N1 N2 N3 GB hk' hlb
        obtain ⟨s6, o6, n6, c6, d6, s7, o7, n7, c7, d7, T0, N1, N2⟩ := hcut
        have a0c := (T0.b 0 rfl).c 0 rfl; have a0f := (T0.b 0 rfl).f 0 rfl; have a1c := (T0.b 0 rfl).c 1 rfl; have a1f := (T0.b 0 rfl).f 1 rfl; have alt := (T0.b 0 rfl).lt; have b0c := (T0.b 1 rfl).c 0 rfl; have b0f := (T0.b 1 rfl).f 0 rfl; have b1c := (T0.b 1 rfl).c 1 rfl; have b1f := (T0.b 1 rfl).f 1 rfl; have blt := (T0.b 1 rfl).lt; simp only [Nat.add_zero] at a0c a0f a1c a1f alt
        have R0 := T0.b 2 rfl
        have r0c := R0.c 0 rfl; have r0f := R0.f 0 rfl; have r1c := R0.c 1 rfl; have r1f := R0.f 1 rfl; have r2c := R0.c 2 rfl; have r2f := R0.f 2 rfl; have r3c := R0.c 3 rfl; have r3f := R0.f 3 rfl
        have HB := T0.below
        have F := nums_ret (w := w) (R := w.heap.size + 1 + 1) (by omega) (T0.b 2 rfl) N1 N2 HB
        clear T0 N1 N2
        go_wp2
        refine bodyPost_ret (v := .agg #[.bool s6, .slice o6 n6 c6, .bool s7, .slice o7 n7 c7]) (by simp [results, Try.results108, go_sem, r0c, r1c, r2c, r3c]) rfl ?_
        exact F
end Go.Proofs.Ytmjlgmoohpnhfaa

/- What the walks of the laws over two numbers of four words share. -/
namespace Go.Proofs.Ytmjlgmoohpnhfaa
open Go.RowKit
/-- A number that was told lies in the block g, its flag beside it. -/
def LayP (z : Int) (w wx : World) (g : Nat) (x3 x2 x1 x0 : Int) (t : Bool) : Prop :=
  Wd wx g x3 x2 x1 x0 ∧ w.heap.size + 1 < g ∧ ∃ u v, TellP z u (.returned (.tuple #[.agg #[.int .u64 x3, .int .u64 x2, .int .u64 x1, .int .u64 x0], .bool t])) v
theorem LayP.step {z : Int} {w W W' : World} {g : Nat} {x3 x2 x1 x0 : Int} {t : Bool} (h : LayP z w W g x3 x2 x1 x0 t) (hb : Below W.heap.size W W') : LayP z w W' g x3 x2 x1 x0 t := ⟨h.1.step hb, h.2⟩
theorem LayP.alloc {z : Int} {w W : World} {g : Nat} {x3 x2 x1 x0 : Int} {t : Bool} (h : LayP z w W g x3 x2 x1 x0 t) (o : Obj) : LayP z w (W.alloc o) g x3 x2 x1 x0 t := ⟨h.1.alloc o, h.2⟩
theorem LayP.drew {z : Int} {w W : World} {g : Nat} {x3 x2 x1 x0 : Int} {t : Bool} (h : LayP z w W g x3 x2 x1 x0 t) : LayP z w W.drew g x3 x2 x1 x0 t := ⟨h.1.drew, h.2⟩
theorem LayP.set {z : Int} {w W : World} {g R : Nat} {x3 x2 x1 x0 : Int} {t : Bool} (h : LayP z w W g x3 x2 x1 x0 t) (hne : g ≠ R) (u0 u1 u2 u3 : Value) : LayP z w ((((W.setCell ⟨R, 0, none⟩ u0).setCell ⟨R, 1, none⟩ u1).setCell ⟨R, 2, none⟩ u2).setCell ⟨R, 3, none⟩ u3) g x3 x2 x1 x0 t := ⟨h.1.set hne _ _ _ _, h.2⟩
end Go.Proofs.Ytmjlgmoohpnhfaa
