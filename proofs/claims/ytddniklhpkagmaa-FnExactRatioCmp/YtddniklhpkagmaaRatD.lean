/- Fractions in their order: the program's and the model's answer, and the law over both. -/
import Derived.Test.YtddniklhpkagmaaRatC
import Derived.Test.YtddniklhpkagmaaRatP
import Derived.Test.YtddniklhpkagmaaBase4
namespace Go.Proofs.Ytddniklhpkagmaa
open Go.RowKit
/-- The order of two fractions by their parts, and whether both are right. -/
def ratCmp (x y u v : Int) : Int × Bool := if rightB x y && rightB u v then (cmpI (x * v) (u * y), true) else (0, false)
def IntB (z : Int × Bool) (w : World) (e : Ending) (w' : World) : Prop := e = .returned (.tuple #[.int .i64 z.1, .bool z.2]) ∧ Below w.heap.size w w'
theorem ratCmp_no1 {x y u v : Int} (h : rightB x y = false) : ratCmp x y u v = (0, false) := by unfold ratCmp; rw [h]; rfl
theorem ratCmp_no2 {x y u v : Int} (h : rightB u v = false) : ratCmp x y u v = (0, false) := by unfold ratCmp; rw [h]; simp
theorem ratCmp_yes {x y u v : Int} (h : rightB x y = true) (h' : rightB u v = true) : ratCmp x y u v = (cmpI (x * v) (u * y), true) := by unfold ratCmp; rw [h, h']; rfl
theorem rightB_pos {x y : Int} (h : rightB x y = true) : 0 < y := by unfold rightB at h; simp at h; exact h.1
theorem cmpI_sub (a b : Int) : cmpI (a - b) 0 = cmpI a b := by
  rcases Int.lt_trichotomy a b with h | h | h
  · rw [cmpI_lt h, cmpI_lt (by omega)]
  · rw [cmpI_eq h, cmpI_eq (by omega)]
  · rw [cmpI_gt h, cmpI_gt (by omega)]
theorem prod_bound {u d : Int} (h1 : -57896044618658097711785492504343953926634992332820282019728792003956564819968 ≤ u) (h2 : u < 57896044618658097711785492504343953926634992332820282019728792003956564819968) (h3 : 0 < d) (h4 : d < 57896044618658097711785492504343953926634992332820282019728792003956564819968) :
    -3351951982485649274893506249551461531869841455148098344430890360930441007518386744200468574541725856922507964546621512713438470702986642486608412251521024 < u * d ∧ u * d < 3351951982485649274893506249551461531869841455148098344430890360930441007518386744200468574541725856922507964546621512713438470702986642486608412251521024 := by
  have e1 : u * d ≤ 57896044618658097711785492504343953926634992332820282019728792003956564819968 * d := Int.mul_le_mul_of_nonneg_right (by omega) (by omega)
  have e2 : -57896044618658097711785492504343953926634992332820282019728792003956564819968 * d ≤ u * d := Int.mul_le_mul_of_nonneg_right h1 (by omega)
  omega
theorem rc_cells {a3 a2 a1 a0 b3 b2 b1 b0 c3 c2 c1 c0 d3 d2 d1 d0 : Int} {w W : World} (h : ArgsB w W [[.int .u64 a3, .int .u64 a2, .int .u64 a1, .int .u64 a0, .int .u64 b3, .int .u64 b2, .int .u64 b1, .int .u64 b0], [.int .u64 c3, .int .u64 c2, .int .u64 c1, .int .u64 c0, .int .u64 d3, .int .u64 d2, .int .u64 d1, .int .u64 d0]]) : (fun w' => w'.cell? ⟨w.heap.size, 0, none⟩ = some (.int .u64 a3) ∧ w'.cell? ⟨w.heap.size, 1, none⟩ = some (.int .u64 a2) ∧ w'.cell? ⟨w.heap.size, 2, none⟩ = some (.int .u64 a1) ∧ w'.cell? ⟨w.heap.size, 3, none⟩ = some (.int .u64 a0) ∧ w'.cell? ⟨w.heap.size, 4, none⟩ = some (.int .u64 b3) ∧ w'.cell? ⟨w.heap.size, 5, none⟩ = some (.int .u64 b2) ∧ w'.cell? ⟨w.heap.size, 6, none⟩ = some (.int .u64 b1) ∧ w'.cell? ⟨w.heap.size, 7, none⟩ = some (.int .u64 b0) ∧ w'.cell? ⟨w.heap.size + 1, 0, none⟩ = some (.int .u64 c3) ∧ w'.cell? ⟨w.heap.size + 1, 1, none⟩ = some (.int .u64 c2) ∧ w'.cell? ⟨w.heap.size + 1, 2, none⟩ = some (.int .u64 c1) ∧ w'.cell? ⟨w.heap.size + 1, 3, none⟩ = some (.int .u64 c0) ∧ w'.cell? ⟨w.heap.size + 1, 4, none⟩ = some (.int .u64 d3) ∧ w'.cell? ⟨w.heap.size + 1, 5, none⟩ = some (.int .u64 d2) ∧ w'.cell? ⟨w.heap.size + 1, 6, none⟩ = some (.int .u64 d1) ∧ w'.cell? ⟨w.heap.size + 1, 7, none⟩ = some (.int .u64 d0)) W :=
  ⟨(h.b 0 rfl).c 0 rfl, (h.b 0 rfl).c 1 rfl, (h.b 0 rfl).c 2 rfl, (h.b 0 rfl).c 3 rfl, (h.b 0 rfl).c 4 rfl, (h.b 0 rfl).c 5 rfl, (h.b 0 rfl).c 6 rfl, (h.b 0 rfl).c 7 rfl, (h.b 1 rfl).c 0 rfl, (h.b 1 rfl).c 1 rfl, (h.b 1 rfl).c 2 rfl, (h.b 1 rfl).c 3 rfl, (h.b 1 rfl).c 4 rfl, (h.b 1 rfl).c 5 rfl, (h.b 1 rfl).c 6 rfl, (h.b 1 rfl).c 7 rfl⟩
theorem rc_args (a3 a2 a1 a0 b3 b2 b1 b0 c3 c2 c1 c0 d3 d2 d1 d0 : Int) (T : TypeId) (w : World) : ArgsB w ((w.alloc (.cells #[.int .u64 a3, .int .u64 a2, .int .u64 a1, .int .u64 a0, .int .u64 b3, .int .u64 b2, .int .u64 b1, .int .u64 b0] T)).alloc (.cells #[.int .u64 c3, .int .u64 c2, .int .u64 c1, .int .u64 c0, .int .u64 d3, .int .u64 d2, .int .u64 d1, .int .u64 d0] T)) [[.int .u64 a3, .int .u64 a2, .int .u64 a1, .int .u64 a0, .int .u64 b3, .int .u64 b2, .int .u64 b1, .int .u64 b0], [.int .u64 c3, .int .u64 c2, .int .u64 c1, .int .u64 c0, .int .u64 d3, .int .u64 d2, .int .u64 d1, .int .u64 d0]] := by
  refine ⟨((Below.refl _ _).alloc (Nat.le_refl _) _).alloc (by simp) _, fun j vs hj => ?_⟩
  match j, hj with
  | 0, hj => cases hj; exact (Blk.new w [.int .u64 a3, .int .u64 a2, .int .u64 a1, .int .u64 a0, .int .u64 b3, .int .u64 b2, .int .u64 b1, .int .u64 b0] T rfl).alloc _
  | 1, hj => cases hj; exact Blk.new (w.alloc (.cells #[.int .u64 a3, .int .u64 a2, .int .u64 a1, .int .u64 a0, .int .u64 b3, .int .u64 b2, .int .u64 b1, .int .u64 b0] T)) [.int .u64 c3, .int .u64 c2, .int .u64 c1, .int .u64 c0, .int .u64 d3, .int .u64 d2, .int .u64 d1, .int .u64 d0] T (by simp)
  | j + 2, hj => simp at hj
set_option maxRecDepth 100000 in
set_option maxHeartbeats 2000000 in
theorem implRatioCmp_any (a3 a2 a1 a0 b3 b2 b1 b0 c3 c2 c1 c0 d3 d2 d1 d0 : Int) (ha3 : Word a3) (ha2 : Word a2) (ha1 : Word a1) (ha0 : Word a0) (hb3 : Word b3) (hb2 : Word b2) (hb1 : Word b1) (hb0 : Word b0) (hc3 : Word c3) (hc2 : Word c2) (hc1 : Word c1) (hc0 : Word c0) (hd3 : Word d3) (hd2 : Word d2) (hd1 : Word d1) (hd0 : Word d0) (w : World) : Calls Try.prog 42 #[Rt a3 a2 a1 a0 b3 b2 b1 b0, Rt c3 c2 c1 c0 d3 d2 d1 d0] w (IntB (ratCmp (sw a3 a2 a1 a0) (sw b3 b2 b1 b0) (sw c3 c2 c1 c0) (sw d3 d2 d1 d0)) w) := by
  have T0 := rc_args a3 a2 a1 a0 b3 b2 b1 b0 c3 c2 c1 c0 d3 d2 d1 d0 41 w
  have RA := right_any a3 a2 a1 a0 b3 b2 b1 b0 ha3 ha2 ha1 ha0 hb3 hb2 hb1 hb0
  have RB := right_any c3 c2 c1 c0 d3 d2 d1 d0 hc3 hc2 hc1 hc0 hd3 hd2 hd1 hd0
  have C1 := cross_any a3 a2 a1 a0 b3 b2 b1 b0 c3 c2 c1 c0 d3 d2 d1 d0 ha3 ha2 ha1 ha0 hd3 hd2 hd1 hd0
  have C2 := cross_any c3 c2 c1 c0 d3 d2 d1 d0 a3 a2 a1 a0 b3 b2 b1 b0 hc3 hc2 hc1 hc0 hb3 hb2 hb1 hb0
  have ba := sw_bound ha3 ha2 ha1 ha0
  have bb := sw_bound hb3 hb2 hb1 hb0
  have bc := sw_bound hc3 hc2 hc1 hc0
  have bd := sw_bound hd3 hd2 hd1 hd0
  clear ha3 ha2 ha1 ha0 hb3 hb2 hb1 hb0 hc3 hc2 hc1 hc0 hd3 hd2 hd1 hd0
  generalize sw a3 a2 a1 a0 = x at *
  generalize sw b3 b2 b1 b0 = y at *
  generalize sw c3 c2 c1 c0 = u at *
  generalize sw d3 d2 d1 d0 = v at *
  obtain ⟨ra, hra⟩ : ∃ b, rightB x y = b := ⟨_, rfl⟩
  obtain ⟨rb, hrb⟩ : ∃ b, rightB u v = b := ⟨_, rfl⟩
  rw [hra] at RA
  rw [hrb] at RB
  have tok1 : True := trivial
  go_enter Try.func42, Try.ntmps42
  go_wp2_with fail
  generalize ((w.alloc (.cells #[.int .u64 a3, .int .u64 a2, .int .u64 a1, .int .u64 a0, .int .u64 b3, .int .u64 b2, .int .u64 b1, .int .u64 b0] 41)).alloc (.cells #[.int .u64 c3, .int .u64 c2, .int .u64 c1, .int .u64 c0, .int .u64 d3, .int .u64 d2, .int .u64 d1, .int .u64 d0] 41)) = W at *
  refine (RA _).mono ?_
  rintro e w1 ⟨rfl, hB⟩
  replace T0 := T0.step hB
  clear hB RA
  cases ra
  · have HR : Hid (ratCmp x y u v = (0, false)) := ratCmp_no1 hra
    have HB := T0.below
    clear T0 RB C1 C2
    go_wp2
    go_ret2
    exact ⟨by rw [HR.out]; simp, HB⟩
  · have x0 := (T0.b 0 rfl).c 0 rfl; have y0 := (T0.b 1 rfl).c 0 rfl; have x1 := (T0.b 0 rfl).c 1 rfl; have y1 := (T0.b 1 rfl).c 1 rfl; have x2 := (T0.b 0 rfl).c 2 rfl; have y2 := (T0.b 1 rfl).c 2 rfl; have x3 := (T0.b 0 rfl).c 3 rfl; have y3 := (T0.b 1 rfl).c 3 rfl; have x4 := (T0.b 0 rfl).c 4 rfl; have y4 := (T0.b 1 rfl).c 4 rfl; have x5 := (T0.b 0 rfl).c 5 rfl; have y5 := (T0.b 1 rfl).c 5 rfl; have x6 := (T0.b 0 rfl).c 6 rfl; have y6 := (T0.b 1 rfl).c 6 rfl; have x7 := (T0.b 0 rfl).c 7 rfl; have y7 := (T0.b 1 rfl).c 7 rfl
    go_wp2_with fail
    refine (RB _).mono ?_
    rintro e w2 ⟨rfl, hB⟩
    replace T0 := T0.step hB
    clear hB RB x0 y0 x1 y1 x2 y2 x3 y3 x4 y4 x5 y5 x6 y6 x7 y7
    cases rb
    · have HR : Hid (ratCmp x y u v = (0, false)) := ratCmp_no2 hrb
      have HB := T0.below
      clear T0 C1 C2
      go_wp2
      go_ret2
      exact ⟨by rw [HR.out]; simp, HB⟩
    · have HR : Hid (ratCmp x y u v = (cmpI (x * v) (u * y), true)) := ratCmp_yes hra hrb
      have py := rightB_pos hra
      have pv := rightB_pos hrb
      have pb1 := prod_bound ba.1 ba.2 pv bd.2
      have pb2 := prod_bound bc.1 bc.2 py bb.2
      clear hra hrb
      go_upto_region 3 with fail
      go_region_held3 (fun w' => w'.cell? ⟨w.heap.size, 0, none⟩ = some (.int .u64 a3) ∧ w'.cell? ⟨w.heap.size, 1, none⟩ = some (.int .u64 a2) ∧ w'.cell? ⟨w.heap.size, 2, none⟩ = some (.int .u64 a1) ∧ w'.cell? ⟨w.heap.size, 3, none⟩ = some (.int .u64 a0) ∧ w'.cell? ⟨w.heap.size, 4, none⟩ = some (.int .u64 b3) ∧ w'.cell? ⟨w.heap.size, 5, none⟩ = some (.int .u64 b2) ∧ w'.cell? ⟨w.heap.size, 6, none⟩ = some (.int .u64 b1) ∧ w'.cell? ⟨w.heap.size, 7, none⟩ = some (.int .u64 b0) ∧ w'.cell? ⟨w.heap.size + 1, 0, none⟩ = some (.int .u64 c3) ∧ w'.cell? ⟨w.heap.size + 1, 1, none⟩ = some (.int .u64 c2) ∧ w'.cell? ⟨w.heap.size + 1, 2, none⟩ = some (.int .u64 c1) ∧ w'.cell? ⟨w.heap.size + 1, 3, none⟩ = some (.int .u64 c0) ∧ w'.cell? ⟨w.heap.size + 1, 4, none⟩ = some (.int .u64 d3) ∧ w'.cell? ⟨w.heap.size + 1, 5, none⟩ = some (.int .u64 d2) ∧ w'.cell? ⟨w.heap.size + 1, 6, none⟩ = some (.int .u64 d1) ∧ w'.cell? ⟨w.heap.size + 1, 7, none⟩ = some (.int .u64 d0)) (first | (with_reducible exact rc_cells T0) | (with_reducible exact rc_cells T0.drew))
        (first
          | (go_at_call 85; have _t := tok1; refine (C1 _).mono ?_; rintro e w3 ⟨m0, m1, m2, m3, m4, m5, m6, m7, rfl, wm, hm, hB⟩; (first | (have T1 := T0.step hB) | (have T1 := T0.drew.step hB)); clear T0; have T0 := T1; clear T1; clear hB tok1 _t)
          | (go_at_call 85; refine (C2 _).mono ?_; rintro e w4 ⟨n0, n1, n2, n3, n4, n5, n6, n7, rfl, wn, hn, hB⟩; (first | (have T1 := T0.step hB) | (have T1 := T0.drew.step hB)); clear T0; have T0 := T1; clear T1; clear hB)
          | (go_at_call 60; refine (minusL_any m0 m1 m2 m3 m4 m5 m6 m7 n0 n1 n2 n3 n4 n5 n6 n7 wm wn (x * v - u * y) (by rw [hm, hn]) (by omega) _).mono ?_; rintro e w5 ⟨z0, z1, z2, z3, z4, z5, z6, z7, rfl, wz, hz, hB⟩; (first | (have T1 := T0.step hB) | (have T1 := T0.drew.step hB)); clear T0; have T0 := T1; clear T1; clear hB)
          | (go_at_call 86; refine (signL_any z0 z1 z2 z3 z4 z5 z6 z7 wz _).mono ?_; rintro e w6 ⟨rfl, hB⟩; rw [hz, cmpI_sub]; (first | (have T1 := T0.step hB) | (have T1 := T0.drew.step hB)); clear T0; have T0 := T1; clear T1; clear hB))
      all_goals have HB := T0.below
      all_goals clear T0
      all_goals go_wp2
      all_goals go_ret2
      all_goals exact ⟨by rw [HR.out]; simp, by first | exact HB | exact HB.drew⟩
end Go.Proofs.Ytddniklhpkagmaa
