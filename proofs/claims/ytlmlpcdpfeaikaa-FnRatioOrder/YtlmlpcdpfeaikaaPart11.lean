/- Part 11 of the walks that the proof leans on. -/
import Derived.Test.YtlmlpcdpfeaikaaPart7
import Derived.Test.YtlmlpcdpfeaikaaPart10
import Derived.Test.YtlmlpcdpfeaikaaPart9
import Derived.Test.YtlmlpcdpfeaikaaPart4
import Derived.Test.YtlmlpcdpfeaikaaPart2
import Derived.Test.YtlmlpcdpfeaikaaPart3
import Derived.Deep.RegionHeld3
import Derived.Deep.DeepCutAuto
/- Sums of numbers of eight words, and that words tell a number. -/
namespace Go.Proofs.Ytlmlpcdpfeaikaa
open Go.RowKit
theorem sl_plus {x0 x1 x2 x3 x4 x5 x6 x7 y0 y1 y2 y3 y4 y5 y6 y7 : Int} {zs : List Int} {c : Int} (wx : Words [x0, x1, x2, x3, x4, x5, x6, x7]) (wy : Words [y0, y1, y2, y3, y4, y5, y6, y7]) (wz : Words zs) (hl : zs.length = 8) (c0 : 0 ≤ c) (c1 : c ≤ 1) (hv : val64 zs + c * pw64 8 = val64 [x0, x1, x2, x3, x4, x5, x6, x7] + val64 [y0, y1, y2, y3, y4, y5, y6, y7]) (hb : -6703903964971298549787012499102923063739682910296196688861780721860882015036773488400937149083451713845015929093243025426876941405973284973216824503042048 ≤ sl x0 x1 x2 x3 x4 x5 x6 x7 + sl y0 y1 y2 y3 y4 y5 y6 y7 ∧ sl x0 x1 x2 x3 x4 x5 x6 x7 + sl y0 y1 y2 y3 y4 y5 y6 y7 < 6703903964971298549787012499102923063739682910296196688861780721860882015036773488400937149083451713845015929093243025426876941405973284973216824503042048) : ∃ z0 z1 z2 z3 z4 z5 z6 z7, zs = [z0, z1, z2, z3, z4, z5, z6, z7] ∧ sl z0 z1 z2 z3 z4 z5 z6 z7 = sl x0 x1 x2 x3 x4 x5 x6 x7 + sl y0 y1 y2 y3 y4 y5 y6 y7 := by
  obtain ⟨z0, z1, z2, z3, z4, z5, z6, z7, rfl⟩ := list8' hl
  refine ⟨z0, z1, z2, z3, z4, z5, z6, z7, rfl, ?_⟩
  obtain ⟨t1, t2, t3⟩ := sl_top wz
  obtain ⟨u1, u2, u3⟩ := sl_top wx
  obtain ⟨v1, v2, v3⟩ := sl_top wy
  rw [pw64_8] at hv
  unfold sl at hb ⊢
  generalize val64 [z0, z1, z2, z3, z4, z5, z6, z7] = Z at *
  generalize val64 [x0, x1, x2, x3, x4, x5, x6, x7] = X at *
  generalize val64 [y0, y1, y2, y3, y4, y5, y6, y7] = Y at *
  simp only [t1, u1, v1] at hb ⊢
  clear t1 u1 v1
  by_cases hz : Z < 6703903964971298549787012499102923063739682910296196688861780721860882015036773488400937149083451713845015929093243025426876941405973284973216824503042048 <;> by_cases hx : X < 6703903964971298549787012499102923063739682910296196688861780721860882015036773488400937149083451713845015929093243025426876941405973284973216824503042048 <;> by_cases hy : Y < 6703903964971298549787012499102923063739682910296196688861780721860882015036773488400937149083451713845015929093243025426876941405973284973216824503042048 <;> simp only [hz, hx, hy, if_true, if_false] at hb ⊢ <;> (obtain rfl | rfl : c = 0 ∨ c = 1 := by omega) <;> omega
theorem plusS_any (x0 x1 x2 x3 x4 x5 x6 x7 y0 y1 y2 y3 y4 y5 y6 y7 : Int) (wx : Words [x0, x1, x2, x3, x4, x5, x6, x7]) (wy : Words [y0, y1, y2, y3, y4, y5, y6, y7]) (z : Int) (hz : sl x0 x1 x2 x3 x4 x5 x6 x7 + sl y0 y1 y2 y3 y4 y5 y6 y7 = z) (hb : -6703903964971298549787012499102923063739682910296196688861780721860882015036773488400937149083451713845015929093243025426876941405973284973216824503042048 ≤ z ∧ z < 6703903964971298549787012499102923063739682910296196688861780721860882015036773488400937149083451713845015929093243025426876941405973284973216824503042048) (w : World) : Calls Try.prog 46 #[L8 x0 x1 x2 x3 x4 x5 x6 x7, L8 y0 y1 y2 y3 y4 y5 y6 y7] w (TimesP z w) := by
  refine (plus8 x0 x1 x2 x3 x4 x5 x6 x7 y0 y1 y2 y3 y4 y5 y6 y7 wx wy w).mono ?_
  rintro e w1 ⟨zs, c, rfl, q1, q2, q3, q4, q5, hB⟩
  have z1' : zs.length = 8 := q1
  have z5' : val64 zs + c * pw64 8 = val64 [x0, x1, x2, x3, x4, x5, x6, x7] + val64 [y0, y1, y2, y3, y4, y5, y6, y7] := q5
  obtain ⟨z0, z1, z2, z3, z4, z5, z6, z7, rfl, hv⟩ := sl_plus wx wy q2 z1' q3 q4 z5' (by rw [hz]; exact hb)
  exact ⟨z0, z1, z2, z3, z4, z5, z6, z7, rfl, q2, hv.trans hz, hB⟩
theorem sl_inj {x0 x1 x2 x3 x4 x5 x6 x7 y0 y1 y2 y3 y4 y5 y6 y7 : Int} (wx : Words [x0, x1, x2, x3, x4, x5, x6, x7]) (wy : Words [y0, y1, y2, y3, y4, y5, y6, y7]) (h : sl x0 x1 x2 x3 x4 x5 x6 x7 = sl y0 y1 y2 y3 y4 y5 y6 y7) : [x0, x1, x2, x3, x4, x5, x6, x7] = [y0, y1, y2, y3, y4, y5, y6, y7] := by
  refine val64_inj wx wy rfl ?_
  obtain ⟨u1, u2, u3⟩ := sl_top wx
  obtain ⟨v1, v2, v3⟩ := sl_top wy
  revert h
  unfold sl
  split <;> split <;> intro h <;> omega
end Go.Proofs.Ytlmlpcdpfeaikaa

/- The program's sums, products and quotients of fractions. -/
namespace Go.Proofs.Ytlmlpcdpfeaikaa
open Go.RowKit
/-- A fraction of two longs. -/
def FracP (n d : Int) (w : World) (e : Ending) (w' : World) : Prop :=
  ∃ x0 x1 x2 x3 x4 x5 x6 x7 y0 y1 y2 y3 y4 y5 y6 y7 : Int, e = .returned (.agg #[.int .u64 x0, .int .u64 x1, .int .u64 x2, .int .u64 x3, .int .u64 x4, .int .u64 x5, .int .u64 x6, .int .u64 x7, .int .u64 y0, .int .u64 y1, .int .u64 y2, .int .u64 y3, .int .u64 y4, .int .u64 y5, .int .u64 y6, .int .u64 y7]) ∧ Words [x0, x1, x2, x3, x4, x5, x6, x7] ∧ Words [y0, y1, y2, y3, y4, y5, y6, y7] ∧ sl x0 x1 x2 x3 x4 x5 x6 x7 = n ∧ sl y0 y1 y2 y3 y4 y5 y6 y7 = d ∧ Below w.heap.size w w'
theorem rs_args (a3 a2 a1 a0 b3 b2 b1 b0 c3 c2 c1 c0 d3 d2 d1 d0 : Int) (T : TypeId) (zs : List Value) (w : World) : ArgsB w (((w.alloc (.cells #[.int .u64 a3, .int .u64 a2, .int .u64 a1, .int .u64 a0, .int .u64 b3, .int .u64 b2, .int .u64 b1, .int .u64 b0] 28)).alloc (.cells #[.int .u64 c3, .int .u64 c2, .int .u64 c1, .int .u64 c0, .int .u64 d3, .int .u64 d2, .int .u64 d1, .int .u64 d0] 28)).alloc (.cells zs.toArray T)) [[.int .u64 a3, .int .u64 a2, .int .u64 a1, .int .u64 a0, .int .u64 b3, .int .u64 b2, .int .u64 b1, .int .u64 b0], [.int .u64 c3, .int .u64 c2, .int .u64 c1, .int .u64 c0, .int .u64 d3, .int .u64 d2, .int .u64 d1, .int .u64 d0]] := by
  refine ⟨(((Below.refl _ _).alloc (Nat.le_refl _) _).alloc (by simp) _).alloc (by simp; omega) _, fun j vs hj => ?_⟩
  match j, hj with
  | 0, hj => cases hj; exact ((Blk.new w [.int .u64 a3, .int .u64 a2, .int .u64 a1, .int .u64 a0, .int .u64 b3, .int .u64 b2, .int .u64 b1, .int .u64 b0] 28 rfl).alloc _).alloc _
  | 1, hj => cases hj; exact (Blk.new (w.alloc (.cells #[.int .u64 a3, .int .u64 a2, .int .u64 a1, .int .u64 a0, .int .u64 b3, .int .u64 b2, .int .u64 b1, .int .u64 b0] 28)) [.int .u64 c3, .int .u64 c2, .int .u64 c1, .int .u64 c0, .int .u64 d3, .int .u64 d2, .int .u64 d1, .int .u64 d0] 28 (by simp)).alloc _
  | j + 2, hj => simp at hj
theorem Blk.stored16 {W : World} {g : Nat} {z0 z1 z2 z3 z4 z5 z6 z7 z8 z9 z10 z11 z12 z13 z14 z15 : Value} (G : Blk W g [z0, z1, z2, z3, z4, z5, z6, z7, z8, z9, z10, z11, z12, z13, z14, z15]) (v0 v1 v2 v3 v4 v5 v6 v7 v8 v9 v10 v11 v12 v13 v14 v15 : Value) : Blk ((((((((((((((((W.setCell ⟨g, 0, none⟩ v0).setCell ⟨g, 1, none⟩ v1).setCell ⟨g, 2, none⟩ v2).setCell ⟨g, 3, none⟩ v3).setCell ⟨g, 4, none⟩ v4).setCell ⟨g, 5, none⟩ v5).setCell ⟨g, 6, none⟩ v6).setCell ⟨g, 7, none⟩ v7).setCell ⟨g, 8, none⟩ v8).setCell ⟨g, 9, none⟩ v9).setCell ⟨g, 10, none⟩ v10).setCell ⟨g, 11, none⟩ v11).setCell ⟨g, 12, none⟩ v12).setCell ⟨g, 13, none⟩ v13).setCell ⟨g, 14, none⟩ v14).setCell ⟨g, 15, none⟩ v15) g [v0, v1, v2, v3, v4, v5, v6, v7, v8, v9, v10, v11, v12, v13, v14, v15] :=
  ((((((((((((((((G.setI 0 (by simp) v0).setI 1 (by simp) v1).setI 2 (by simp) v2).setI 3 (by simp) v3).setI 4 (by simp) v4).setI 5 (by simp) v5).setI 6 (by simp) v6).setI 7 (by simp) v7).setI 8 (by simp) v8).setI 9 (by simp) v9).setI 10 (by simp) v10).setI 11 (by simp) v11).setI 12 (by simp) v12).setI 13 (by simp) v13).setI 14 (by simp) v14).setI 15 (by simp) v15)
theorem below_set16 {B g : Nat} {w W : World} {v0 v1 v2 v3 v4 v5 v6 v7 v8 v9 v10 v11 v12 v13 v14 v15 : Value} (hg : B ≤ g) (h : Below B w W) : Below B w ((((((((((((((((W.setCell ⟨g, 0, none⟩ v0).setCell ⟨g, 1, none⟩ v1).setCell ⟨g, 2, none⟩ v2).setCell ⟨g, 3, none⟩ v3).setCell ⟨g, 4, none⟩ v4).setCell ⟨g, 5, none⟩ v5).setCell ⟨g, 6, none⟩ v6).setCell ⟨g, 7, none⟩ v7).setCell ⟨g, 8, none⟩ v8).setCell ⟨g, 9, none⟩ v9).setCell ⟨g, 10, none⟩ v10).setCell ⟨g, 11, none⟩ v11).setCell ⟨g, 12, none⟩ v12).setCell ⟨g, 13, none⟩ v13).setCell ⟨g, 14, none⟩ v14).setCell ⟨g, 15, none⟩ v15) := ((((((((((((((((h.setCell (by exact hg) _).setCell (by exact hg) _).setCell (by exact hg) _).setCell (by exact hg) _).setCell (by exact hg) _).setCell (by exact hg) _).setCell (by exact hg) _).setCell (by exact hg) _).setCell (by exact hg) _).setCell (by exact hg) _).setCell (by exact hg) _).setCell (by exact hg) _).setCell (by exact hg) _).setCell (by exact hg) _).setCell (by exact hg) _).setCell (by exact hg) _)
theorem long_ex (z : Int) (h0 : -6703903964971298549787012499102923063739682910296196688861780721860882015036773488400937149083451713845015929093243025426876941405973284973216824503042048 ≤ z) (h1 : z < 6703903964971298549787012499102923063739682910296196688861780721860882015036773488400937149083451713845015929093243025426876941405973284973216824503042048) : ∃ m0 m1 m2 m3 m4 m5 m6 m7 : Int, Words [m0, m1, m2, m3, m4, m5, m6, m7] ∧ sl m0 m1 m2 m3 m4 m5 m6 m7 = z := by
  by_cases hz : 0 ≤ z
  · obtain ⟨m0, m1, m2, m3, m4, m5, m6, m7, wm, hv⟩ := words8_ex z hz (by omega)
    refine ⟨m0, m1, m2, m3, m4, m5, m6, m7, wm, ?_⟩
    obtain ⟨u1, u2, u3⟩ := sl_top wm
    unfold sl
    rw [if_pos (u1.2 (by omega)), hv]
    omega
  · obtain ⟨m0, m1, m2, m3, m4, m5, m6, m7, wm, hv⟩ := words8_ex (z + 13407807929942597099574024998205846127479365820592393377723561443721764030073546976801874298166903427690031858186486050853753882811946569946433649006084096) (by omega) (by omega)
    refine ⟨m0, m1, m2, m3, m4, m5, m6, m7, wm, ?_⟩
    obtain ⟨u1, u2, u3⟩ := sl_top wm
    unfold sl
    rw [if_neg (by rw [u1]; omega), hv]
    omega
theorem times_VP {z : Int} {m0 m1 m2 m3 m4 m5 m6 m7 : Int} (wm : Words [m0, m1, m2, m3, m4, m5, m6, m7]) (hm : sl m0 m1 m2 m3 m4 m5 m6 m7 = z) {w w' : World} {e : Ending} (h : TimesP z w e w') : VP (L8 m0 m1 m2 m3 m4 m5 m6 m7) w e w' := by
  obtain ⟨z0, z1, z2, z3, z4, z5, z6, z7, rfl, wz, hz, hB⟩ := h
  have e := sl_inj wz wm (hz.trans hm.symm)
  simp only [List.cons.injEq] at e
  obtain ⟨rfl, rfl, rfl, rfl, rfl, rfl, rfl, rfl, -⟩ := e
  exact ⟨rfl, hB⟩
theorem sw_prod {a3 a2 a1 a0 b3 b2 b1 b0 : Int} (h3 : Word a3) (h2 : Word a2) (h1 : Word a1) (h0 : Word a0) (k3 : Word b3) (k2 : Word b2) (k1 : Word b1) (k0 : Word b0) : -3351951982485649274893506249551461531869841455148098344430890360930441007518386744200468574541725856922507964546621512713438470702986642486608412251521024 ≤ (sw a3 a2 a1 a0) * (sw b3 b2 b1 b0) ∧ (sw a3 a2 a1 a0) * (sw b3 b2 b1 b0) ≤ 3351951982485649274893506249551461531869841455148098344430890360930441007518386744200468574541725856922507964546621512713438470702986642486608412251521024 := by
  have s1 := sw_size h3 h2 h1 h0
  have s2 := sw_size k3 k2 k1 k0
  generalize (sw a3 a2 a1 a0) = x at *
  generalize (sw b3 b2 b1 b0) = y at *
  have e : (x * y).natAbs = x.natAbs * y.natAbs := Int.natAbs_mul x y
  have e2 : ((x.natAbs * y.natAbs : Nat) : Int) ≤ 57896044618658097711785492504343953926634992332820282019728792003956564819968 * 57896044618658097711785492504343953926634992332820282019728792003956564819968 := by
    rw [Int.natCast_mul]
    exact Int.mul_le_mul s1 s2 (by omega) (by omega)
  omega
set_option maxRecDepth 100000 in
set_option maxHeartbeats 2000000 in
theorem plusR_any (a3 a2 a1 a0 b3 b2 b1 b0 c3 c2 c1 c0 d3 d2 d1 d0 : Int) (ha3 : Word a3) (ha2 : Word a2) (ha1 : Word a1) (ha0 : Word a0) (hb3 : Word b3) (hb2 : Word b2) (hb1 : Word b1) (hb0 : Word b0) (hc3 : Word c3) (hc2 : Word c2) (hc1 : Word c1) (hc0 : Word c0) (hd3 : Word d3) (hd2 : Word d2) (hd1 : Word d1) (hd0 : Word d0) (hpb : -6703903964971298549787012499102923063739682910296196688861780721860882015036773488400937149083451713845015929093243025426876941405973284973216824503042048 ≤ (sw a3 a2 a1 a0) * (sw d3 d2 d1 d0) + (sw c3 c2 c1 c0) * (sw b3 b2 b1 b0) ∧ (sw a3 a2 a1 a0) * (sw d3 d2 d1 d0) + (sw c3 c2 c1 c0) * (sw b3 b2 b1 b0) < 6703903964971298549787012499102923063739682910296196688861780721860882015036773488400937149083451713845015929093243025426876941405973284973216824503042048) (w : World) : Calls Try.prog 23 #[Rt a3 a2 a1 a0 b3 b2 b1 b0, Rt c3 c2 c1 c0 d3 d2 d1 d0] w (FracP ((sw a3 a2 a1 a0) * (sw d3 d2 d1 d0) + (sw c3 c2 c1 c0) * (sw b3 b2 b1 b0)) ((sw b3 b2 b1 b0) * (sw d3 d2 d1 d0)) w) := by
  have T0 := rs_args a3 a2 a1 a0 b3 b2 b1 b0 c3 c2 c1 c0 d3 d2 d1 d0 49 [.int .u64 0, .int .u64 0, .int .u64 0, .int .u64 0, .int .u64 0, .int .u64 0, .int .u64 0, .int .u64 0, .int .u64 0, .int .u64 0, .int .u64 0, .int .u64 0, .int .u64 0, .int .u64 0, .int .u64 0, .int .u64 0] w
  have R0 : Blk (((w.alloc (.cells #[.int .u64 a3, .int .u64 a2, .int .u64 a1, .int .u64 a0, .int .u64 b3, .int .u64 b2, .int .u64 b1, .int .u64 b0] 28)).alloc (.cells #[.int .u64 c3, .int .u64 c2, .int .u64 c1, .int .u64 c0, .int .u64 d3, .int .u64 d2, .int .u64 d1, .int .u64 d0] 28)).alloc (.cells #[.int .u64 0, .int .u64 0, .int .u64 0, .int .u64 0, .int .u64 0, .int .u64 0, .int .u64 0, .int .u64 0, .int .u64 0, .int .u64 0, .int .u64 0, .int .u64 0, .int .u64 0, .int .u64 0, .int .u64 0, .int .u64 0] 49)) (w.heap.size + 1 + 1) [.int .u64 0, .int .u64 0, .int .u64 0, .int .u64 0, .int .u64 0, .int .u64 0, .int .u64 0, .int .u64 0, .int .u64 0, .int .u64 0, .int .u64 0, .int .u64 0, .int .u64 0, .int .u64 0, .int .u64 0, .int .u64 0] := Blk.new _ [.int .u64 0, .int .u64 0, .int .u64 0, .int .u64 0, .int .u64 0, .int .u64 0, .int .u64 0, .int .u64 0, .int .u64 0, .int .u64 0, .int .u64 0, .int .u64 0, .int .u64 0, .int .u64 0, .int .u64 0, .int .u64 0] _ (by simp)
  obtain ⟨k0, k1, k2, k3, k4, k5, k6, k7, wk, hk⟩ := long_ex ((sw a3 a2 a1 a0) * (sw d3 d2 d1 d0)) (by have := sw_prod ha3 ha2 ha1 ha0 hd3 hd2 hd1 hd0; omega) (by have := sw_prod ha3 ha2 ha1 ha0 hd3 hd2 hd1 hd0; omega)
  obtain ⟨l0, l1, l2, l3, l4, l5, l6, l7, wl, hl⟩ := long_ex ((sw c3 c2 c1 c0) * (sw b3 b2 b1 b0)) (by have := sw_prod hc3 hc2 hc1 hc0 hb3 hb2 hb1 hb0; omega) (by have := sw_prod hc3 hc2 hc1 hc0 hb3 hb2 hb1 hb0; omega)
  obtain ⟨m0, m1, m2, m3, m4, m5, m6, m7, wm, hm⟩ := long_ex ((sw a3 a2 a1 a0) * (sw d3 d2 d1 d0) + (sw c3 c2 c1 c0) * (sw b3 b2 b1 b0)) hpb.1 hpb.2
  obtain ⟨n0, n1, n2, n3, n4, n5, n6, n7, wn, hn⟩ := long_ex ((sw b3 b2 b1 b0) * (sw d3 d2 d1 d0)) (by have := sw_prod hb3 hb2 hb1 hb0 hd3 hd2 hd1 hd0; omega) (by have := sw_prod hb3 hb2 hb1 hb0 hd3 hd2 hd1 hd0; omega)
  have C1 := fun w => (cross_any a3 a2 a1 a0 b3 b2 b1 b0 c3 c2 c1 c0 d3 d2 d1 d0 ha3 ha2 ha1 ha0 hd3 hd2 hd1 hd0 w).mono fun _ _ => times_VP wk hk
  have C2 := fun w => (cross_any c3 c2 c1 c0 d3 d2 d1 d0 a3 a2 a1 a0 b3 b2 b1 b0 hc3 hc2 hc1 hc0 hb3 hb2 hb1 hb0 w).mono fun _ _ => times_VP wl hl
  have C3 := fun w => (plusS_any k0 k1 k2 k3 k4 k5 k6 k7 l0 l1 l2 l3 l4 l5 l6 l7 wk wl _ (by rw [hk, hl]) hpb w).mono fun _ _ => times_VP wm hm
  have C4 := fun w => (times_any b3 b2 b1 b0 d3 d2 d1 d0 hb3 hb2 hb1 hb0 hd3 hd2 hd1 hd0 w).mono fun _ _ => times_VP wn hn
  have tok1 : True := trivial
  go_enter Try.func23, Try.ntmps23
  go_upto_region 1 with fail
  generalize (((w.alloc (.cells #[.int .u64 a3, .int .u64 a2, .int .u64 a1, .int .u64 a0, .int .u64 b3, .int .u64 b2, .int .u64 b1, .int .u64 b0] 28)).alloc (.cells #[.int .u64 c3, .int .u64 c2, .int .u64 c1, .int .u64 c0, .int .u64 d3, .int .u64 d2, .int .u64 d1, .int .u64 d0] 28)).alloc (.cells #[.int .u64 0, .int .u64 0, .int .u64 0, .int .u64 0, .int .u64 0, .int .u64 0, .int .u64 0, .int .u64 0, .int .u64 0, .int .u64 0, .int .u64 0, .int .u64 0, .int .u64 0, .int .u64 0, .int .u64 0, .int .u64 0] 49)) = W at *
  have hlw := (T0.b 1 rfl).lt
  have hlr := R0.lt
  go_region_held3 (fun w' => w'.cell? ⟨w.heap.size, 0, none⟩ = some (.int .u64 a3) ∧ w'.cell? ⟨w.heap.size, 1, none⟩ = some (.int .u64 a2) ∧ w'.cell? ⟨w.heap.size, 2, none⟩ = some (.int .u64 a1) ∧ w'.cell? ⟨w.heap.size, 3, none⟩ = some (.int .u64 a0) ∧ w'.cell? ⟨w.heap.size, 4, none⟩ = some (.int .u64 b3) ∧ w'.cell? ⟨w.heap.size, 5, none⟩ = some (.int .u64 b2) ∧ w'.cell? ⟨w.heap.size, 6, none⟩ = some (.int .u64 b1) ∧ w'.cell? ⟨w.heap.size, 7, none⟩ = some (.int .u64 b0) ∧ w'.cell? ⟨w.heap.size + 1, 0, none⟩ = some (.int .u64 c3) ∧ w'.cell? ⟨w.heap.size + 1, 1, none⟩ = some (.int .u64 c2) ∧ w'.cell? ⟨w.heap.size + 1, 2, none⟩ = some (.int .u64 c1) ∧ w'.cell? ⟨w.heap.size + 1, 3, none⟩ = some (.int .u64 c0) ∧ w'.cell? ⟨w.heap.size + 1, 4, none⟩ = some (.int .u64 d3) ∧ w'.cell? ⟨w.heap.size + 1, 5, none⟩ = some (.int .u64 d2) ∧ w'.cell? ⟨w.heap.size + 1, 6, none⟩ = some (.int .u64 d1) ∧ w'.cell? ⟨w.heap.size + 1, 7, none⟩ = some (.int .u64 d0)) ((refine rc_cells ?_ <;> repeat (first | (with_reducible exact T0) | (with_reducible refine ArgsB.drew ?_) | (with_reducible refine ArgsB.set ?_ (by simp <;> omega) _))))
    (first
        | (go_at_call 45; have _t := tok1; refine (C1 _).mono ?_; rintro e w1 ⟨rfl, hB⟩; (first | (have T1 : ArgsB w w1 [[.int .u64 a3, .int .u64 a2, .int .u64 a1, .int .u64 a0, .int .u64 b3, .int .u64 b2, .int .u64 b1, .int .u64 b0], [.int .u64 c3, .int .u64 c2, .int .u64 c1, .int .u64 c0, .int .u64 d3, .int .u64 d2, .int .u64 d1, .int .u64 d0]] := (by with_reducible exact T0.step hB); have tltw1 := (T0.b 1 rfl).lt; have lR0w1 := R0.lt; replace R0 := R0.step hB; skip) | (have T1 : ArgsB w w1 [[.int .u64 a3, .int .u64 a2, .int .u64 a1, .int .u64 a0, .int .u64 b3, .int .u64 b2, .int .u64 b1, .int .u64 b0], [.int .u64 c3, .int .u64 c2, .int .u64 c1, .int .u64 c0, .int .u64 d3, .int .u64 d2, .int .u64 d1, .int .u64 d0]] := (by with_reducible exact T0.drew.step hB); have tltw1 := (T0.b 1 rfl).lt; have lR0w1 := R0.lt; replace R0 := R0.drew.step hB; skip)); clear T0; have T0 := T1; clear T1; clear hB tok1 _t)
        | (go_at_call 45; refine (C2 _).mono ?_; rintro e w2 ⟨rfl, hB⟩; (first | (have T1 : ArgsB w w2 [[.int .u64 a3, .int .u64 a2, .int .u64 a1, .int .u64 a0, .int .u64 b3, .int .u64 b2, .int .u64 b1, .int .u64 b0], [.int .u64 c3, .int .u64 c2, .int .u64 c1, .int .u64 c0, .int .u64 d3, .int .u64 d2, .int .u64 d1, .int .u64 d0]] := (by with_reducible exact T0.step hB); have tltw2 := (T0.b 1 rfl).lt; have lR0w2 := R0.lt; replace R0 := R0.step hB; skip) | (have T1 : ArgsB w w2 [[.int .u64 a3, .int .u64 a2, .int .u64 a1, .int .u64 a0, .int .u64 b3, .int .u64 b2, .int .u64 b1, .int .u64 b0], [.int .u64 c3, .int .u64 c2, .int .u64 c1, .int .u64 c0, .int .u64 d3, .int .u64 d2, .int .u64 d1, .int .u64 d0]] := (by with_reducible exact T0.drew.step hB); have tltw2 := (T0.b 1 rfl).lt; have lR0w2 := R0.lt; replace R0 := R0.drew.step hB; skip)); clear T0; have T0 := T1; clear T1; clear hB )
        | (go_at_call 46; refine (C3 _).mono ?_; rintro e w3 ⟨rfl, hB⟩; (first | (have T1 : ArgsB w w3 [[.int .u64 a3, .int .u64 a2, .int .u64 a1, .int .u64 a0, .int .u64 b3, .int .u64 b2, .int .u64 b1, .int .u64 b0], [.int .u64 c3, .int .u64 c2, .int .u64 c1, .int .u64 c0, .int .u64 d3, .int .u64 d2, .int .u64 d1, .int .u64 d0]] := (by with_reducible exact T0.step hB); have tltw3 := (T0.b 1 rfl).lt; have lR0w3 := R0.lt; replace R0 := R0.step hB; skip) | (have T1 : ArgsB w w3 [[.int .u64 a3, .int .u64 a2, .int .u64 a1, .int .u64 a0, .int .u64 b3, .int .u64 b2, .int .u64 b1, .int .u64 b0], [.int .u64 c3, .int .u64 c2, .int .u64 c1, .int .u64 c0, .int .u64 d3, .int .u64 d2, .int .u64 d1, .int .u64 d0]] := (by with_reducible exact T0.drew.step hB); have tltw3 := (T0.b 1 rfl).lt; have lR0w3 := R0.lt; replace R0 := R0.drew.step hB; skip)); clear T0; have T0 := T1; clear T1; clear hB )
        | (go_at_call 47; refine (C4 _).mono ?_; rintro e w4 ⟨rfl, hB⟩; (first | (have T1 : ArgsB w w4 [[.int .u64 a3, .int .u64 a2, .int .u64 a1, .int .u64 a0, .int .u64 b3, .int .u64 b2, .int .u64 b1, .int .u64 b0], [.int .u64 c3, .int .u64 c2, .int .u64 c1, .int .u64 c0, .int .u64 d3, .int .u64 d2, .int .u64 d1, .int .u64 d0]] := (by with_reducible exact T0.step hB); have tltw4 := (T0.b 1 rfl).lt; have lR0w4 := R0.lt; replace R0 := R0.step hB; skip) | (have T1 : ArgsB w w4 [[.int .u64 a3, .int .u64 a2, .int .u64 a1, .int .u64 a0, .int .u64 b3, .int .u64 b2, .int .u64 b1, .int .u64 b0], [.int .u64 c3, .int .u64 c2, .int .u64 c1, .int .u64 c0, .int .u64 d3, .int .u64 d2, .int .u64 d1, .int .u64 d0]] := (by with_reducible exact T0.drew.step hB); have tltw4 := (T0.b 1 rfl).lt; have lR0w4 := R0.lt; replace R0 := R0.drew.step hB; skip)); clear T0; have T0 := T1; clear T1; have o0c := R0.c 0 rfl; have o0f := R0.f 0 rfl; have o1c := R0.c 1 rfl; have o1f := R0.f 1 rfl; have o2c := R0.c 2 rfl; have o2f := R0.f 2 rfl; have o3c := R0.c 3 rfl; have o3f := R0.f 3 rfl; have o4c := R0.c 4 rfl; have o4f := R0.f 4 rfl; have o5c := R0.c 5 rfl; have o5f := R0.f 5 rfl; have o6c := R0.c 6 rfl; have o6f := R0.f 6 rfl; have o7c := R0.c 7 rfl; have o7f := R0.f 7 rfl; have o8c := R0.c 8 rfl; have o8f := R0.f 8 rfl; have o9c := R0.c 9 rfl; have o9f := R0.f 9 rfl; have o10c := R0.c 10 rfl; have o10f := R0.f 10 rfl; have o11c := R0.c 11 rfl; have o11f := R0.f 11 rfl; have o12c := R0.c 12 rfl; have o12f := R0.f 12 rfl; have o13c := R0.c 13 rfl; have o13f := R0.f 13 rfl; have o14c := R0.c 14 rfl; have o14f := R0.f 14 rfl; have o15c := R0.c 15 rfl; have o15f := R0.f 15 rfl; have olt := R0.lt; clear hB ))
  all_goals have R1 := R0.stored16 (.int .u64 m0) (.int .u64 m1) (.int .u64 m2) (.int .u64 m3) (.int .u64 m4) (.int .u64 m5) (.int .u64 m6) (.int .u64 m7) (.int .u64 n0) (.int .u64 n1) (.int .u64 n2) (.int .u64 n3) (.int .u64 n4) (.int .u64 n5) (.int .u64 n6) (.int .u64 n7)
  all_goals have HB : Below w.heap.size w ((((((((((((((((w4.setCell ⟨w.heap.size + 1 + 1, 0, none⟩ (.int .u64 m0)).setCell ⟨w.heap.size + 1 + 1, 1, none⟩ (.int .u64 m1)).setCell ⟨w.heap.size + 1 + 1, 2, none⟩ (.int .u64 m2)).setCell ⟨w.heap.size + 1 + 1, 3, none⟩ (.int .u64 m3)).setCell ⟨w.heap.size + 1 + 1, 4, none⟩ (.int .u64 m4)).setCell ⟨w.heap.size + 1 + 1, 5, none⟩ (.int .u64 m5)).setCell ⟨w.heap.size + 1 + 1, 6, none⟩ (.int .u64 m6)).setCell ⟨w.heap.size + 1 + 1, 7, none⟩ (.int .u64 m7)).setCell ⟨w.heap.size + 1 + 1, 8, none⟩ (.int .u64 n0)).setCell ⟨w.heap.size + 1 + 1, 9, none⟩ (.int .u64 n1)).setCell ⟨w.heap.size + 1 + 1, 10, none⟩ (.int .u64 n2)).setCell ⟨w.heap.size + 1 + 1, 11, none⟩ (.int .u64 n3)).setCell ⟨w.heap.size + 1 + 1, 12, none⟩ (.int .u64 n4)).setCell ⟨w.heap.size + 1 + 1, 13, none⟩ (.int .u64 n5)).setCell ⟨w.heap.size + 1 + 1, 14, none⟩ (.int .u64 n6)).setCell ⟨w.heap.size + 1 + 1, 15, none⟩ (.int .u64 n7)) := below_set16 (by omega) T0.below
  all_goals clear T0 R0 o0c o0f o1c o1f o2c o2f o3c o3f o4c o4f o5c o5f o6c o6f o7c o7f o8c o8f o9c o9f o10c o10f o11c o11f o12c o12f o13c o13f o14c o14f o15c o15f olt
  all_goals generalize ((((((((((((((((w4.setCell ⟨w.heap.size + 1 + 1, 0, none⟩ (.int .u64 m0)).setCell ⟨w.heap.size + 1 + 1, 1, none⟩ (.int .u64 m1)).setCell ⟨w.heap.size + 1 + 1, 2, none⟩ (.int .u64 m2)).setCell ⟨w.heap.size + 1 + 1, 3, none⟩ (.int .u64 m3)).setCell ⟨w.heap.size + 1 + 1, 4, none⟩ (.int .u64 m4)).setCell ⟨w.heap.size + 1 + 1, 5, none⟩ (.int .u64 m5)).setCell ⟨w.heap.size + 1 + 1, 6, none⟩ (.int .u64 m6)).setCell ⟨w.heap.size + 1 + 1, 7, none⟩ (.int .u64 m7)).setCell ⟨w.heap.size + 1 + 1, 8, none⟩ (.int .u64 n0)).setCell ⟨w.heap.size + 1 + 1, 9, none⟩ (.int .u64 n1)).setCell ⟨w.heap.size + 1 + 1, 10, none⟩ (.int .u64 n2)).setCell ⟨w.heap.size + 1 + 1, 11, none⟩ (.int .u64 n3)).setCell ⟨w.heap.size + 1 + 1, 12, none⟩ (.int .u64 n4)).setCell ⟨w.heap.size + 1 + 1, 13, none⟩ (.int .u64 n5)).setCell ⟨w.heap.size + 1 + 1, 14, none⟩ (.int .u64 n6)).setCell ⟨w.heap.size + 1 + 1, 15, none⟩ (.int .u64 n7)) = W5 at *
  all_goals (have o0c := R1.c 0 rfl; have o1c := R1.c 1 rfl; have o2c := R1.c 2 rfl; have o3c := R1.c 3 rfl; have o4c := R1.c 4 rfl; have o5c := R1.c 5 rfl; have o6c := R1.c 6 rfl; have o7c := R1.c 7 rfl; have o8c := R1.c 8 rfl; have o9c := R1.c 9 rfl; have o10c := R1.c 10 rfl; have o11c := R1.c 11 rfl; have o12c := R1.c 12 rfl; have o13c := R1.c 13 rfl; have o14c := R1.c 14 rfl; have o15c := R1.c 15 rfl)
  all_goals go_wp2
  all_goals refine bodyPost_ret (v := .agg #[.int .u64 m0, .int .u64 m1, .int .u64 m2, .int .u64 m3, .int .u64 m4, .int .u64 m5, .int .u64 m6, .int .u64 m7, .int .u64 n0, .int .u64 n1, .int .u64 n2, .int .u64 n3, .int .u64 n4, .int .u64 n5, .int .u64 n6, .int .u64 n7]) (by simp [results, Try.results23, go_sem, o0c, o1c, o2c, o3c, o4c, o5c, o6c, o7c, o8c, o9c, o10c, o11c, o12c, o13c, o14c, o15c]) rfl ?_
  all_goals exact ⟨m0, m1, m2, m3, m4, m5, m6, m7, n0, n1, n2, n3, n4, n5, n6, n7, rfl, wm, wn, hm, hn, HB⟩
end Go.Proofs.Ytlmlpcdpfeaikaa

/- The program's laws of two fractions, as far as they are told. -/
namespace Go.Proofs.Ytlmlpcdpfeaikaa
open Go.RowKit
/-- What is told of two right fractions. -/
def rat2V (x y u v n d : Int) : Value := if rightB x y = true ∧ rightB u v = true then ratV n d else .tuple #[.agg #[.int .u64 0, .int .u64 0, .int .u64 0, .int .u64 0, .int .u64 0, .int .u64 0, .int .u64 0, .int .u64 0], .bool false]
theorem rat2V_no1 {x y u v n d : Int} (h : rightB x y = false) : rat2V x y u v n d = .tuple #[.agg #[.int .u64 0, .int .u64 0, .int .u64 0, .int .u64 0, .int .u64 0, .int .u64 0, .int .u64 0, .int .u64 0], .bool false] := by unfold rat2V; rw [if_neg (by rw [h]; rintro ⟨h', -⟩; cases h')]
theorem rat2V_no2 {x y u v n d : Int} (h : rightB u v = false) : rat2V x y u v n d = .tuple #[.agg #[.int .u64 0, .int .u64 0, .int .u64 0, .int .u64 0, .int .u64 0, .int .u64 0, .int .u64 0, .int .u64 0], .bool false] := by unfold rat2V; rw [if_neg (by rw [h]; rintro ⟨-, h'⟩; cases h')]
theorem rat2V_yes {x y u v n d : Int} (h : rightB x y = true) (h' : rightB u v = true) : rat2V x y u v n d = ratV n d := by unfold rat2V; rw [if_pos ⟨h, h'⟩]
set_option maxRecDepth 100000 in
set_option maxHeartbeats 2000000 in
theorem implRatioAdd_any (a3 a2 a1 a0 b3 b2 b1 b0 c3 c2 c1 c0 d3 d2 d1 d0 : Int) (ha3 : Word a3) (ha2 : Word a2) (ha1 : Word a1) (ha0 : Word a0) (hb3 : Word b3) (hb2 : Word b2) (hb1 : Word b1) (hb0 : Word b0) (hc3 : Word c3) (hc2 : Word c2) (hc1 : Word c1) (hc0 : Word c0) (hd3 : Word d3) (hd2 : Word d2) (hd1 : Word d1) (hd0 : Word d0) (w : World) : Calls Try.prog 7 #[Rt a3 a2 a1 a0 b3 b2 b1 b0, Rt c3 c2 c1 c0 d3 d2 d1 d0] w (VP (rat2V (sw a3 a2 a1 a0) (sw b3 b2 b1 b0) (sw c3 c2 c1 c0) (sw d3 d2 d1 d0) ((sw a3 a2 a1 a0) * (sw d3 d2 d1 d0) + (sw c3 c2 c1 c0) * (sw b3 b2 b1 b0)) ((sw b3 b2 b1 b0) * (sw d3 d2 d1 d0))) w) := by
  have T0 := rs_args a3 a2 a1 a0 b3 b2 b1 b0 c3 c2 c1 c0 d3 d2 d1 d0 28 [.int .u64 0, .int .u64 0, .int .u64 0, .int .u64 0, .int .u64 0, .int .u64 0, .int .u64 0, .int .u64 0] w
  have R0 : Blk (((w.alloc (.cells #[.int .u64 a3, .int .u64 a2, .int .u64 a1, .int .u64 a0, .int .u64 b3, .int .u64 b2, .int .u64 b1, .int .u64 b0] 28)).alloc (.cells #[.int .u64 c3, .int .u64 c2, .int .u64 c1, .int .u64 c0, .int .u64 d3, .int .u64 d2, .int .u64 d1, .int .u64 d0] 28)).alloc (.cells #[.int .u64 0, .int .u64 0, .int .u64 0, .int .u64 0, .int .u64 0, .int .u64 0, .int .u64 0, .int .u64 0] 28)) (w.heap.size + 1 + 1) [.int .u64 0, .int .u64 0, .int .u64 0, .int .u64 0, .int .u64 0, .int .u64 0, .int .u64 0, .int .u64 0] := Blk.new _ [.int .u64 0, .int .u64 0, .int .u64 0, .int .u64 0, .int .u64 0, .int .u64 0, .int .u64 0, .int .u64 0] _ (by simp)
  have RA := right_any a3 a2 a1 a0 b3 b2 b1 b0 ha3 ha2 ha1 ha0 hb3 hb2 hb1 hb0
  have RB := right_any c3 c2 c1 c0 d3 d2 d1 d0 hc3 hc2 hc1 hc0 hd3 hd2 hd1 hd0
  have ba := sw_bound ha3 ha2 ha1 ha0; have bb := sw_bound hb3 hb2 hb1 hb0; have bc := sw_bound hc3 hc2 hc1 hc0; have bd := sw_bound hd3 hd2 hd1 hd0
  obtain ⟨ra, hra⟩ : ∃ b, rightB (sw a3 a2 a1 a0) (sw b3 b2 b1 b0) = b := ⟨_, rfl⟩
  obtain ⟨rb, hrb⟩ : ∃ b, rightB (sw c3 c2 c1 c0) (sw d3 d2 d1 d0) = b := ⟨_, rfl⟩
  rw [hra] at RA
  rw [hrb] at RB
  go_enter Try.func7, Try.ntmps7
  go_wp2_with fail
  generalize (((w.alloc (.cells #[.int .u64 a3, .int .u64 a2, .int .u64 a1, .int .u64 a0, .int .u64 b3, .int .u64 b2, .int .u64 b1, .int .u64 b0] 28)).alloc (.cells #[.int .u64 c3, .int .u64 c2, .int .u64 c1, .int .u64 c0, .int .u64 d3, .int .u64 d2, .int .u64 d1, .int .u64 d0] 28)).alloc (.cells #[.int .u64 0, .int .u64 0, .int .u64 0, .int .u64 0, .int .u64 0, .int .u64 0, .int .u64 0, .int .u64 0] 28)) = W at *
  refine (RA _).mono ?_
  rintro e w1 ⟨rfl, hB⟩
  replace T0 := T0.step hB; replace R0 := R0.step hB
  clear hB RA
  cases ra
  · have HV : Hid (rat2V (sw a3 a2 a1 a0) (sw b3 b2 b1 b0) (sw c3 c2 c1 c0) (sw d3 d2 d1 d0) ((sw a3 a2 a1 a0) * (sw d3 d2 d1 d0) + (sw c3 c2 c1 c0) * (sw b3 b2 b1 b0)) ((sw b3 b2 b1 b0) * (sw d3 d2 d1 d0)) = .tuple #[.agg #[.int .u64 0, .int .u64 0, .int .u64 0, .int .u64 0, .int .u64 0, .int .u64 0, .int .u64 0, .int .u64 0], .bool false]) := rat2V_no1 hra
    clear RB
    have HB := T0.below
    have o0c := R0.c 0 rfl; have o0f := R0.f 0 rfl; have o1c := R0.c 1 rfl; have o1f := R0.f 1 rfl; have o2c := R0.c 2 rfl; have o2f := R0.f 2 rfl; have o3c := R0.c 3 rfl; have o3f := R0.f 3 rfl; have o4c := R0.c 4 rfl; have o4f := R0.f 4 rfl; have o5c := R0.c 5 rfl; have o5f := R0.f 5 rfl; have o6c := R0.c 6 rfl; have o6f := R0.f 6 rfl; have o7c := R0.c 7 rfl; have o7f := R0.f 7 rfl
    go_wp2
    refine bodyPost_ret (v := .tuple #[.agg #[.int .u64 0, .int .u64 0, .int .u64 0, .int .u64 0, .int .u64 0, .int .u64 0, .int .u64 0, .int .u64 0], .bool false]) (by simp [results, Try.results7, go_sem, o0c, o1c, o2c, o3c, o4c, o5c, o6c, o7c]) rfl ?_
    refine ⟨by rw [HV.out], ?_⟩
    repeat' (refine Below.setCell ?_ (by simp; try omega) _)
    exact HB
  · have x0c := (T0.b 0 rfl).c 0 rfl; have x1c := (T0.b 0 rfl).c 1 rfl; have x2c := (T0.b 0 rfl).c 2 rfl; have x3c := (T0.b 0 rfl).c 3 rfl; have x4c := (T0.b 0 rfl).c 4 rfl; have x5c := (T0.b 0 rfl).c 5 rfl; have x6c := (T0.b 0 rfl).c 6 rfl; have x7c := (T0.b 0 rfl).c 7 rfl; have y0c := (T0.b 1 rfl).c 0 rfl; have y1c := (T0.b 1 rfl).c 1 rfl; have y2c := (T0.b 1 rfl).c 2 rfl; have y3c := (T0.b 1 rfl).c 3 rfl; have y4c := (T0.b 1 rfl).c 4 rfl; have y5c := (T0.b 1 rfl).c 5 rfl; have y6c := (T0.b 1 rfl).c 6 rfl; have y7c := (T0.b 1 rfl).c 7 rfl; simp only [Nat.add_zero] at x0c x1c x2c x3c x4c x5c x6c x7c
    go_wp2_with fail
    refine (RB _).mono ?_
    rintro e w2 ⟨rfl, hB⟩
    replace T0 := T0.step hB; replace R0 := R0.step hB
    clear hB RB x0c x1c x2c x3c x4c x5c x6c x7c y0c y1c y2c y3c y4c y5c y6c y7c
    cases rb
    · have HV : Hid (rat2V (sw a3 a2 a1 a0) (sw b3 b2 b1 b0) (sw c3 c2 c1 c0) (sw d3 d2 d1 d0) ((sw a3 a2 a1 a0) * (sw d3 d2 d1 d0) + (sw c3 c2 c1 c0) * (sw b3 b2 b1 b0)) ((sw b3 b2 b1 b0) * (sw d3 d2 d1 d0)) = .tuple #[.agg #[.int .u64 0, .int .u64 0, .int .u64 0, .int .u64 0, .int .u64 0, .int .u64 0, .int .u64 0, .int .u64 0], .bool false]) := rat2V_no2 hrb
      have HB := T0.below
      have o0c := R0.c 0 rfl; have o0f := R0.f 0 rfl; have o1c := R0.c 1 rfl; have o1f := R0.f 1 rfl; have o2c := R0.c 2 rfl; have o2f := R0.f 2 rfl; have o3c := R0.c 3 rfl; have o3f := R0.f 3 rfl; have o4c := R0.c 4 rfl; have o4f := R0.f 4 rfl; have o5c := R0.c 5 rfl; have o5f := R0.f 5 rfl; have o6c := R0.c 6 rfl; have o6f := R0.f 6 rfl; have o7c := R0.c 7 rfl; have o7f := R0.f 7 rfl
      go_wp2
      refine bodyPost_ret (v := .tuple #[.agg #[.int .u64 0, .int .u64 0, .int .u64 0, .int .u64 0, .int .u64 0, .int .u64 0, .int .u64 0, .int .u64 0], .bool false]) (by simp [results, Try.results7, go_sem, o0c, o1c, o2c, o3c, o4c, o5c, o6c, o7c]) rfl ?_
      refine ⟨by rw [HV.out], ?_⟩
      repeat' (refine Below.setCell ?_ (by simp; try omega) _)
      exact HB
    · have py := rightB_pos hra
      have pv := rightB_pos hrb
      have p1 := prod_bound ba.1 ba.2 pv bd.2
      have p2 := prod_bound bc.1 bc.2 py bb.2
      have p3 := prod_bound bb.1 bb.2 pv bd.2
      have p4 := sw_prod ha3 ha2 ha1 ha0 hc3 hc2 hc1 hc0
      obtain ⟨z0, z1, z2, z3, z4, z5, z6, z7, t, hz⟩ := ratV_ex ((sw a3 a2 a1 a0) * (sw d3 d2 d1 d0) + (sw c3 c2 c1 c0) * (sw b3 b2 b1 b0)) ((sw b3 b2 b1 b0) * (sw d3 d2 d1 d0))
      have HV : Hid (rat2V (sw a3 a2 a1 a0) (sw b3 b2 b1 b0) (sw c3 c2 c1 c0) (sw d3 d2 d1 d0) ((sw a3 a2 a1 a0) * (sw d3 d2 d1 d0) + (sw c3 c2 c1 c0) * (sw b3 b2 b1 b0)) ((sw b3 b2 b1 b0) * (sw d3 d2 d1 d0)) = .tuple #[.agg #[.int .u64 z0, .int .u64 z1, .int .u64 z2, .int .u64 z3, .int .u64 z4, .int .u64 z5, .int .u64 z6, .int .u64 z7], .bool t]) := (rat2V_yes hra hrb).trans hz
      have PL := plusR_any a3 a2 a1 a0 b3 b2 b1 b0 c3 c2 c1 c0 d3 d2 d1 d0 ha3 ha2 ha1 ha0 hb3 hb2 hb1 hb0 hc3 hc2 hc1 hc0 hd3 hd2 hd1 hd0 ⟨by omega, by omega⟩
      have x0c := (T0.b 0 rfl).c 0 rfl; have x1c := (T0.b 0 rfl).c 1 rfl; have x2c := (T0.b 0 rfl).c 2 rfl; have x3c := (T0.b 0 rfl).c 3 rfl; have x4c := (T0.b 0 rfl).c 4 rfl; have x5c := (T0.b 0 rfl).c 5 rfl; have x6c := (T0.b 0 rfl).c 6 rfl; have x7c := (T0.b 0 rfl).c 7 rfl; have y0c := (T0.b 1 rfl).c 0 rfl; have y1c := (T0.b 1 rfl).c 1 rfl; have y2c := (T0.b 1 rfl).c 2 rfl; have y3c := (T0.b 1 rfl).c 3 rfl; have y4c := (T0.b 1 rfl).c 4 rfl; have y5c := (T0.b 1 rfl).c 5 rfl; have y6c := (T0.b 1 rfl).c 6 rfl; have y7c := (T0.b 1 rfl).c 7 rfl; simp only [Nat.add_zero] at x0c x1c x2c x3c x4c x5c x6c x7c
      go_wp2_with fail
      refine (PL _).mono ?_
      rintro e w3 ⟨m0, m1, m2, m3, m4, m5, m6, m7, n0, n1, n2, n3, n4, n5, n6, n7, rfl, wm, wn, hm, hn, hB⟩
      replace T0 := T0.step hB; replace R0 := R0.step hB
      clear hB PL x0c x1c x2c x3c x4c x5c x6c x7c y0c y1c y2c y3c y4c y5c y6c y7c
      have LW := lowest_any m0 m1 m2 m3 m4 m5 m6 m7 n0 n1 n2 n3 n4 n5 n6 n7 wm wn (by rw [hm]; omega) (by rw [hn]; omega)
      rw [hm, hn, hz] at LW
      clear hm hn hz wm wn hra hrb p1 p2 p3 p4
      go_wp2_with fail
      refine (LW _).mono ?_
      rintro e w4 ⟨rfl, hB⟩
      replace T0 := T0.step hB; replace R0 := R0.step hB
      clear hB LW
      have HB := T0.below
      have o0c := R0.c 0 rfl; have o0f := R0.f 0 rfl; have o1c := R0.c 1 rfl; have o1f := R0.f 1 rfl; have o2c := R0.c 2 rfl; have o2f := R0.f 2 rfl; have o3c := R0.c 3 rfl; have o3f := R0.f 3 rfl; have o4c := R0.c 4 rfl; have o4f := R0.f 4 rfl; have o5c := R0.c 5 rfl; have o5f := R0.f 5 rfl; have o6c := R0.c 6 rfl; have o6f := R0.f 6 rfl; have o7c := R0.c 7 rfl; have o7f := R0.f 7 rfl
      go_wp2
      refine bodyPost_ret (v := .tuple #[.agg #[.int .u64 z0, .int .u64 z1, .int .u64 z2, .int .u64 z3, .int .u64 z4, .int .u64 z5, .int .u64 z6, .int .u64 z7], .bool t]) (by simp [results, Try.results7, go_sem, o0c, o1c, o2c, o3c, o4c, o5c, o6c, o7c]) rfl ?_
      refine ⟨by rw [HV.out], ?_⟩
      repeat' (refine Below.setCell ?_ (by simp; try omega) _)
      exact HB
end Go.Proofs.Ytlmlpcdpfeaikaa

/- The floor of a fraction: the program's, the model's, and the law. -/
namespace Go.Proofs.Ytlmlpcdpfeaikaa
open Go.RowKit
/-- The floor as it is told. -/
def floorV (x y : Int) : Value := if rightB x y then tellV (x / y) else .tuple #[W4 0, .bool false]
theorem divV_floor {x y : Int} (h : rightB x y = true) : ∃ c3 c2 c1 c0 d3 d2 d1 d0 : Int, ∃ t : Bool, divV x y = .tuple #[.agg #[.int .u64 c3, .int .u64 c2, .int .u64 c1, .int .u64 c0], .agg #[.int .u64 d3, .int .u64 d2, .int .u64 d1, .int .u64 d0], .bool t] ∧ floorV x y = .tuple #[.agg #[.int .u64 c3, .int .u64 c2, .int .u64 c1, .int .u64 c0], .bool t] := by
  have hy : y ≠ 0 := by have := rightB_pos h; omega
  unfold divV floorV tellV
  rw [if_neg hy, h, if_pos rfl]
  split
  · exact ⟨_, _, _, _, _, _, _, _, _, rfl, rfl⟩
  · exact ⟨_, _, _, _, _, _, _, _, _, rfl, rfl⟩
theorem rf_args (a3 a2 a1 a0 b3 b2 b1 b0 : Int) (T T' : TypeId) (w : World) : ArgsB w ((w.alloc (.cells #[.int .u64 a3, .int .u64 a2, .int .u64 a1, .int .u64 a0, .int .u64 b3, .int .u64 b2, .int .u64 b1, .int .u64 b0] T)).alloc (.cells #[.int .u64 0, .int .u64 0, .int .u64 0, .int .u64 0] T')) [[.int .u64 a3, .int .u64 a2, .int .u64 a1, .int .u64 a0, .int .u64 b3, .int .u64 b2, .int .u64 b1, .int .u64 b0], [.int .u64 0, .int .u64 0, .int .u64 0, .int .u64 0]] := by
  refine ⟨((Below.refl _ _).alloc (Nat.le_refl _) _).alloc (by simp) _, fun j vs hj => ?_⟩
  match j, hj with
  | 0, hj => cases hj; exact (Blk.new w [.int .u64 a3, .int .u64 a2, .int .u64 a1, .int .u64 a0, .int .u64 b3, .int .u64 b2, .int .u64 b1, .int .u64 b0] T rfl).alloc _
  | 1, hj => cases hj; exact Blk.new (w.alloc (.cells #[.int .u64 a3, .int .u64 a2, .int .u64 a1, .int .u64 a0, .int .u64 b3, .int .u64 b2, .int .u64 b1, .int .u64 b0] T)) [.int .u64 0, .int .u64 0, .int .u64 0, .int .u64 0] T' (by simp)
  | j + 2, hj => simp at hj
set_option maxRecDepth 100000 in
set_option maxHeartbeats 1000000 in
theorem implRatioFloor_any (a3 a2 a1 a0 b3 b2 b1 b0 : Int) (ha3 : Word a3) (ha2 : Word a2) (ha1 : Word a1) (ha0 : Word a0) (hb3 : Word b3) (hb2 : Word b2) (hb1 : Word b1) (hb0 : Word b0) (w : World) : Calls Try.prog 18 #[Rt a3 a2 a1 a0 b3 b2 b1 b0] w (VP (floorV (sw a3 a2 a1 a0) (sw b3 b2 b1 b0)) w) := by
  have T0 := rf_args a3 a2 a1 a0 b3 b2 b1 b0 28 26 w
  have RA := right_any a3 a2 a1 a0 b3 b2 b1 b0 ha3 ha2 ha1 ha0 hb3 hb2 hb1 hb0
  have DV := implDiv_any a3 a2 a1 a0 b3 b2 b1 b0 ha3 ha2 ha1 ha0 hb3 hb2 hb1 hb0
  obtain ⟨ra, hra⟩ : ∃ b, rightB (sw a3 a2 a1 a0) (sw b3 b2 b1 b0) = b := ⟨_, rfl⟩
  rw [hra] at RA
  go_enter Try.func18, Try.ntmps18
  go_wp2_with fail
  generalize ((w.alloc (.cells #[.int .u64 a3, .int .u64 a2, .int .u64 a1, .int .u64 a0, .int .u64 b3, .int .u64 b2, .int .u64 b1, .int .u64 b0] 28)).alloc (.cells #[.int .u64 0, .int .u64 0, .int .u64 0, .int .u64 0] 26)) = W at *
  refine (RA _).mono ?_
  rintro e w1 ⟨rfl, hB⟩
  replace T0 := T0.step hB
  clear hB RA
  cases ra
  · have HV : Hid (floorV (sw a3 a2 a1 a0) (sw b3 b2 b1 b0) = .tuple #[W4 0, .bool false]) := by show _ = _; unfold floorV; rw [hra]; rfl
    have HB := T0.below
    have o0c := (T0.b 1 rfl).c 0 rfl; have o0f := (T0.b 1 rfl).f 0 rfl; have o1c := (T0.b 1 rfl).c 1 rfl; have o1f := (T0.b 1 rfl).f 1 rfl; have o2c := (T0.b 1 rfl).c 2 rfl; have o2f := (T0.b 1 rfl).f 2 rfl; have o3c := (T0.b 1 rfl).c 3 rfl; have o3f := (T0.b 1 rfl).f 3 rfl
    clear DV
    go_wp2
    refine bodyPost_ret (v := .tuple #[.agg #[.int .u64 0, .int .u64 0, .int .u64 0, .int .u64 0], .bool false]) (by simp [results, Try.results18, go_sem, o0c, o1c, o2c, o3c]) rfl ?_
    refine ⟨by rw [HV.out, W40], ?_⟩
    repeat' (refine Below.setCell ?_ (by simp; try omega) _)
    exact HB
  · obtain ⟨c3, c2, c1, c0, d3, d2, d1, d0, t, hD, hF⟩ := divV_floor hra
    have HV : Hid (floorV (sw a3 a2 a1 a0) (sw b3 b2 b1 b0) = .tuple #[.agg #[.int .u64 c3, .int .u64 c2, .int .u64 c1, .int .u64 c0], .bool t]) := hF
    rw [hD] at DV
    clear hD hF hra
    have x0c := (T0.b 0 rfl).c 0 rfl; have x1c := (T0.b 0 rfl).c 1 rfl; have x2c := (T0.b 0 rfl).c 2 rfl; have x3c := (T0.b 0 rfl).c 3 rfl; have x4c := (T0.b 0 rfl).c 4 rfl; have x5c := (T0.b 0 rfl).c 5 rfl; have x6c := (T0.b 0 rfl).c 6 rfl; have x7c := (T0.b 0 rfl).c 7 rfl
    simp only [Nat.add_zero] at x0c x1c x2c x3c x4c x5c x6c x7c
    go_wp2_with fail
    refine (DV _).mono ?_
    rintro e w2 ⟨rfl, hB⟩
    replace T0 := T0.step hB
    clear hB DV x0c x1c x2c x3c x4c x5c x6c x7c
    have hl := (T0.b 1 rfl).lt
    go_upto_region 4 with fail
    have G0 := (Blk.new w2 [.int .u64 c3, .int .u64 c2, .int .u64 c1, .int .u64 c0] 26 rfl).alloc (.cells #[.int .u64 d3, .int .u64 d2, .int .u64 d1, .int .u64 d0] 26)
    replace T0 := (T0.alloc (.cells #[.int .u64 c3, .int .u64 c2, .int .u64 c1, .int .u64 c0] 26)).alloc (.cells #[.int .u64 d3, .int .u64 d2, .int .u64 d1, .int .u64 d0] 26)
    generalize (w2.alloc (.cells #[.int .u64 c3, .int .u64 c2, .int .u64 c1, .int .u64 c0] 26)).alloc (.cells #[.int .u64 d3, .int .u64 d2, .int .u64 d1, .int .u64 d0] 26) = W2 at *
    generalize w2.heap.size = g2 at *
    have HB := T0.below
    have g0c := G0.c 0 rfl; have g1c := G0.c 1 rfl; have g2c := G0.c 2 rfl; have g3c := G0.c 3 rfl
    have o0c := (T0.b 1 rfl).c 0 rfl; have o0f := (T0.b 1 rfl).f 0 rfl; have o1c := (T0.b 1 rfl).c 1 rfl; have o1f := (T0.b 1 rfl).f 1 rfl; have o2c := (T0.b 1 rfl).c 2 rfl; have o2f := (T0.b 1 rfl).f 2 rfl; have o3c := (T0.b 1 rfl).c 3 rfl; have o3f := (T0.b 1 rfl).f 3 rfl
    go_wp2
    refine bodyPost_ret (v := .tuple #[.agg #[.int .u64 c3, .int .u64 c2, .int .u64 c1, .int .u64 c0], .bool t]) (by simp [results, Try.results18, go_sem, o0c, o1c, o2c, o3c]) rfl ?_
    refine ⟨by rw [HV.out], ?_⟩
    repeat' (refine Below.setCell ?_ (by simp; try omega) _)
    exact HB
end Go.Proofs.Ytlmlpcdpfeaikaa

/- A spot as a point: the walks of the model's numbers. -/
namespace Go.Proofs.Ytlmlpcdpfeaikaa
open Go.RowKit
theorem implOf_det (n : Int) (w : World) (h0 : -9223372036854775808 ≤ n) (h1 : n ≤ 9223372036854775807) : Calls Try.prog 17 #[.int .i64 n] w (VP (W4 n) w) := by
  refine (implOf_any n w h0 h1).mono ?_
  rintro e w' ⟨a3, a2, a1, a0, rfl, g3, g2, g1, g0, hs, hB⟩
  obtain ⟨rfl, rfl, rfl, rfl⟩ := wd_of g3 g2 g1 g0 hs
  exact ⟨rfl, hB⟩
end Go.Proofs.Ytlmlpcdpfeaikaa

/- A spot as a point: the walks of the model's point of numbers. -/
namespace Go.Proofs.Ytlmlpcdpfeaikaa
open Go.RowKit
def small (z : Int) : Bool := decide ((z.natAbs : Int) < 1208925819614629174706176)
end Go.Proofs.Ytlmlpcdpfeaikaa

/- Numbers by their own words: what is answered is known ahead. -/
namespace Go.Proofs.Ytlmlpcdpfeaikaa
open Go.RowKit
/-- A number of 512 bits. -/
def LR (z : Int) : Prop := -6703903964971298549787012499102923063739682910296196688861780721860882015036773488400937149083451713845015929093243025426876941405973284973216824503042048 ≤ z ∧ z < 6703903964971298549787012499102923063739682910296196688861780721860882015036773488400937149083451713845015929093243025426876941405973284973216824503042048
theorem ww_words (z : Int) : Word (ww3 z) ∧ Word (ww2 z) ∧ Word (ww1 z) ∧ Word (ww0 z) := by
  have h : ∀ x : Int, Word (x % 18446744073709551616) := fun x => ⟨Int.emod_nonneg _ (by decide), Int.emod_lt_of_pos _ (by decide)⟩
  exact ⟨h _, h _, h _, h _⟩
theorem ww_sw {z : Int} (h : told z = true) : sw (ww3 z) (ww2 z) (ww1 z) (ww0 z) = z := by
  unfold told at h
  rw [decide_eq_true_iff] at h
  unfold sw uw ww3 ww2 ww1 ww0
  split <;> omega
theorem sign_det (x : Int) (hx : told x = true) (w : World) : Calls Try.prog 11 #[W4 x] w (VP (.int .i64 (cmpI x 0)) w) := by
  obtain ⟨p3, p2, p1, p0⟩ := ww_words x
  have h := implSign_any (ww3 x) (ww2 x) (ww1 x) (ww0 x) p3 p2 p1 p0 w
  rw [ww_sw hx] at h
  exact h
end Go.Proofs.Ytlmlpcdpfeaikaa

/- Fractions by their own numbers: the reckoning of sums, products, order and floor. -/
namespace Go.Proofs.Ytlmlpcdpfeaikaa
open Go.RowKit
abbrev RZ (n d : Int) : Value := .agg #[.int .u64 (ww3 n), .int .u64 (ww2 n), .int .u64 (ww1 n), .int .u64 (ww0 n), .int .u64 (ww3 d), .int .u64 (ww2 d), .int .u64 (ww1 d), .int .u64 (ww0 d)]
theorem rz0 : RZ 0 0 = .agg #[.int .u64 0, .int .u64 0, .int .u64 0, .int .u64 0, .int .u64 0, .int .u64 0, .int .u64 0, .int .u64 0] := by
  have h3 : ww3 0 = 0 := by decide
  have h2 : ww2 0 = 0 := by decide
  have h1 : ww1 0 = 0 := by decide
  have h0 : ww0 0 = 0 := by decide
  show Value.agg #[.int .u64 (ww3 0), .int .u64 (ww2 0), .int .u64 (ww1 0), .int .u64 (ww0 0), .int .u64 (ww3 0), .int .u64 (ww2 0), .int .u64 (ww1 0), .int .u64 (ww0 0)] = _
  rw [h3, h2, h1, h0]
theorem ratV_rz (n d : Int) : ∃ N D t, ratV n d = .tuple #[RZ N D, .bool t] ∧ told N = true ∧ told D = true ∧ (t = true → d ≠ 0 ∧ N = lowN n d ∧ D = lowD n d) := by
  unfold ratV
  split
  · rename_i h
    exact ⟨lowN n d, lowD n d, true, rfl, h.2.1, h.2.2, fun _ => ⟨h.1, rfl, rfl⟩⟩
  · exact ⟨0, 0, false, by rw [rz0], by decide, by decide, fun h => by cases h⟩
theorem rat2V_rz (x y u v n d : Int) : ∃ N D t, rat2V x y u v n d = .tuple #[RZ N D, .bool t] ∧ told N = true ∧ told D = true ∧ (t = true → rightB x y = true ∧ rightB u v = true ∧ d ≠ 0 ∧ N = lowN n d ∧ D = lowD n d) := by
  unfold rat2V
  split
  · rename_i hr
    obtain ⟨N, D, t, h, a, b, c⟩ := ratV_rz n d
    exact ⟨N, D, t, h, a, b, fun k => ⟨hr.1, hr.2, c k⟩⟩
  · exact ⟨0, 0, false, by rw [rz0], by decide, by decide, fun h => by cases h⟩
theorem negZ_scale {n k : Int} (hk : 0 < k) : n * k < 0 ↔ n < 0 := by
  constructor
  · intro h
    apply Decidable.byContradiction
    intro h'
    have := Int.mul_nonneg (a := n) (b := k) (by omega) (by omega)
    omega
  · intro h
    exact Int.mul_neg_of_neg_of_pos h hk
theorem low_pts {n d : Int} (hd : 0 < d) : ∃ g, 0 < g ∧ n = lowN n d * g ∧ d = lowD n d * g ∧ rightB (lowN n d) (lowD n d) = true := by
  have g0 : 0 < Int.gcd n d := Int.gcd_pos_of_ne_zero_right _ (by omega)
  obtain ⟨e1, e2, -, -⟩ := low_make (x := n) (y := d) (X := n) (Y := d) (g := (Int.gcd n d : Int)) (by rw [if_neg (by omega)]) (by rw [if_neg (by omega)]) rfl (by omega)
  have hg : (0 : Int) < Int.gcd n d := by omega
  have m1 : n = lowN n d * (Int.gcd n d : Int) := by rw [← e1]; exact (Int.ediv_mul_cancel (Int.gcd_dvd_left _ _)).symm
  have m2 : d = lowD n d * (Int.gcd n d : Int) := by rw [← e2]; exact (Int.ediv_mul_cancel (Int.gcd_dvd_right _ _)).symm
  refine ⟨Int.gcd n d, hg, m1, m2, ?_⟩
  have p : 0 < lowD n d := by
    apply Decidable.byContradiction
    intro h
    have := Int.mul_nonneg (a := -lowD n d) (b := (Int.gcd n d : Int)) (by omega) (by omega)
    have e : -lowD n d * (Int.gcd n d : Int) = -(lowD n d * (Int.gcd n d : Int)) := by grind
    omega
  have q : Int.gcd (lowN n d) (lowD n d) = 1 := by
    have en : (((Int.gcd n d : Int).natAbs : Nat) : Int) = (Int.gcd n d : Int) := by omega
    have h : (Int.gcd (lowN n d * (Int.gcd n d : Int)) (lowD n d * (Int.gcd n d : Int)) : Int) = Int.gcd (lowN n d) (lowD n d) * (Int.gcd n d : Int) := by rw [Int.gcd_mul_right, Int.natCast_mul, en]
    rw [← m1, ← m2] at h
    have h2 : (Int.gcd (lowN n d) (lowD n d) : Int) * (Int.gcd n d : Int) = 1 * (Int.gcd n d : Int) := by omega
    have := Int.eq_of_mul_eq_mul_right (by omega) h2
    omega
  unfold rightB
  exact decide_eq_true ⟨p, q⟩
theorem right_of {x y : Int} (h : rightB x y = true) : 0 < y ∧ Int.gcd x y = 1 := by unfold rightB at h; exact of_decide_eq_true h
theorem cmpI_flip (a b : Int) : cmpI b a = -cmpI a b := by
  unfold cmpI
  repeat' split
  all_goals omega
theorem cmpI_in (a b : Int) : cmpI a b = -1 ∨ cmpI a b = 0 ∨ cmpI a b = 1 := by
  unfold cmpI
  repeat' split
  all_goals omega
theorem cmpI_z {a b : Int} : cmpI a b = 0 ↔ a = b := by
  unfold cmpI
  repeat' split
  all_goals omega
theorem cmp_flip (x y u v : Int) : ratCmp u v x y = (-(ratCmp x y u v).1, (ratCmp x y u v).2) := by
  unfold ratCmp
  rw [Bool.and_comm]
  split
  · rw [cmpI_flip]
  · rfl
theorem cmp_in (x y u v : Int) : (ratCmp x y u v).1 = -1 ∨ (ratCmp x y u v).1 = 0 ∨ (ratCmp x y u v).1 = 1 := by
  unfold ratCmp
  split
  · exact cmpI_in _ _
  · exact Or.inr (Or.inl rfl)
theorem cmp_right {x y u v : Int} (h : (ratCmp x y u v).2 = true) : rightB x y = true ∧ rightB u v = true ∧ (ratCmp x y u v).1 = cmpI (x * v) (u * y) := by
  unfold ratCmp at h ⊢
  split at h
  · rename_i hr
    rw [if_pos hr]
    simp only [Bool.and_eq_true] at hr
    exact ⟨hr.1, hr.2, rfl⟩
  · cases h
theorem dvd2 {x y v d : Int} (hg : Int.gcd x y = 1) (h1 : d ∣ x * v) (h2 : d ∣ y * v) : d ∣ v := by
  have e1 : (Int.gcd (x * v) (y * v) : Int) = (v.natAbs : Int) := by rw [Int.gcd_mul_right, hg]; simp
  have d1 : d ∣ (Int.gcd (x * v) (y * v) : Int) := Int.dvd_coe_gcd h1 h2
  rw [e1] at d1
  exact Int.dvd_natAbs.1 d1
theorem right_same {x y u v : Int} (h : rightB x y = true) (h' : rightB u v = true) : x * v = u * y ↔ x = u ∧ y = v := by
  constructor
  · intro e
    obtain ⟨y0, g1⟩ := right_of h
    obtain ⟨v0, g2⟩ := right_of h'
    have d1 : y ∣ v := by
      have : y ∣ x * v := ⟨u, by rw [e, Int.mul_comm]⟩
      exact dvd2 g1 this (Int.dvd_mul_right _ _)
    have d2 : v ∣ y := by
      have : v ∣ u * y := ⟨x, by rw [← e, Int.mul_comm]⟩
      exact dvd2 g2 this (Int.dvd_mul_right _ _)
    have e1 := Int.le_of_dvd v0 d1
    have e2 := Int.le_of_dvd y0 d2
    have ey : y = v := by omega
    subst ey
    exact ⟨Int.eq_of_mul_eq_mul_right (by omega) e, rfl⟩
  · rintro ⟨rfl, rfl⟩
    rfl
theorem cmp_zero {x y u v : Int} (h : (ratCmp x y u v).2 = true) : (ratCmp x y u v).1 = 0 ↔ x = u ∧ y = v := by
  obtain ⟨h1, h2, h3⟩ := cmp_right h
  rw [h3, cmpI_z]
  exact right_same h1 h2
theorem right_one (x : Int) : rightB x 1 = true := by
  unfold rightB
  exact decide_eq_true ⟨by decide, by simp⟩
theorem floor_told {x y : Int} (h : rightB x y = true) (tx : told x = true) : told (x / y) = true := by
  obtain ⟨y0, -⟩ := right_of h
  unfold told at tx ⊢
  have tx' := of_decide_eq_true tx
  apply decide_eq_true
  by_cases hx : 0 ≤ x
  · have h1 := Int.ediv_nonneg hx (show 0 ≤ y by omega)
    have h2 := Int.ediv_le_self y hx
    omega
  · have h1 : x / y < 0 := Int.ediv_neg_of_neg_of_pos (by omega) y0
    have h2 : x ≤ x / y := by
      have e := Int.mul_ediv_add_emod x y
      have m0 := Int.emod_nonneg x (show y ≠ 0 by omega)
      have m1 := Int.emod_lt_of_pos x y0
      apply Decidable.byContradiction
      intro hc
      have := Int.mul_le_mul_of_nonneg_left (a := x / y) (b := x - 1) (c := y) (by omega) (by omega)
      have k1 := Int.mul_nonneg (a := y - 1) (b := -x) (by omega) (by omega)
      have k2 : (y - 1) * -x = x - y * x := by grind
      have k3 : y * (x - 1) = y * x - y := by grind
      omega
    omega
theorem floor_facts {x y : Int} (h : rightB x y = true) (tx : told x = true) : floorV x y = .tuple #[W4 (x / y), .bool true] ∧ (ratCmp (x / y) 1 x y).1 ≤ 0 ∧ (ratCmp (x / y + 1) 1 x y).1 = 1 := by
  obtain ⟨y0, -⟩ := right_of h
  have e := Int.mul_ediv_add_emod x y
  have m0 := Int.emod_nonneg x (show y ≠ 0 by omega)
  have m1 := Int.emod_lt_of_pos x y0
  refine ⟨?_, ?_, ?_⟩
  · unfold floorV tellV
    rw [if_pos h, if_pos (floor_told h tx)]
  · rw [ratCmp_yes (right_one _) h]
    have : x / y * y = y * (x / y) := Int.mul_comm _ _
    unfold cmpI
    repeat' split
    all_goals omega
  · rw [ratCmp_yes (right_one _) h]
    have : (x / y + 1) * y = y * (x / y) + y := by grind
    unfold cmpI
    repeat' split
    all_goals omega
theorem low_sign {n d : Int} (hd : 0 < d) : cmpI (lowN n d) 0 = cmpI n 0 := by
  obtain ⟨g, hg, e1, -, -⟩ := low_pts (n := n) hd
  generalize lowN n d = N at *
  subst e1
  have a := negZ_scale (n := N) hg
  have b := negZ_scale (n := -N) hg
  have c : -N * g = -(N * g) := by grind
  unfold cmpI
  repeat' split
  all_goals omega
theorem diff_facts (x y u v : Int) : ∃ N D ok, rat2V x y (-u) v (x * v + -u * y) (y * v) = .tuple #[RZ N D, .bool ok] ∧ told N = true ∧ told D = true ∧ (ok = true → cmpI N 0 = cmpI (x * v) (u * y)) := by
  obtain ⟨N, D, t, h, a, b, c⟩ := rat2V_rz x y (-u) v (x * v + -u * y) (y * v)
  refine ⟨N, D, t, h, a, b, fun ht => ?_⟩
  obtain ⟨r1, r2, -, rfl, rfl⟩ := c ht
  obtain ⟨y0, -⟩ := right_of r1
  obtain ⟨v0, -⟩ := right_of r2
  rw [low_sign (Int.mul_pos y0 v0), ← cmpI_sub (x * v) (u * y)]
  congr 1
  grind
end Go.Proofs.Ytlmlpcdpfeaikaa

/- Fractions in their order: the model's walks. -/
namespace Go.Proofs.Ytlmlpcdpfeaikaa
open Go.RowKit
theorem lc_cells {s1 s2 s3 s4 : Bool} {o1 o2 o3 o4 : Option Addr} {n1 n2 n3 n4 c1 c2 c3 c4 : Nat} {w W : World} (h : ArgsB w W [[.bool s1, .slice o1 n1 c1, .bool s2, .slice o2 n2 c2], [.bool s3, .slice o3 n3 c3, .bool s4, .slice o4 n4 c4]]) : (fun w' => w'.cell? ⟨w.heap.size, 0, none⟩ = some (.bool s1) ∧ w'.cell? ⟨w.heap.size, 1, none⟩ = some (.slice o1 n1 c1) ∧ w'.cell? ⟨w.heap.size, 2, none⟩ = some (.bool s2) ∧ w'.cell? ⟨w.heap.size, 3, none⟩ = some (.slice o2 n2 c2) ∧ w'.cell? ⟨w.heap.size + 1, 0, none⟩ = some (.bool s3) ∧ w'.cell? ⟨w.heap.size + 1, 1, none⟩ = some (.slice o3 n3 c3) ∧ w'.cell? ⟨w.heap.size + 1, 2, none⟩ = some (.bool s4) ∧ w'.cell? ⟨w.heap.size + 1, 3, none⟩ = some (.slice o4 n4 c4)) W :=
  ⟨(h.b 0 rfl).c 0 rfl, (h.b 0 rfl).c 1 rfl, (h.b 0 rfl).c 2 rfl, (h.b 0 rfl).c 3 rfl, (h.b 1 rfl).c 0 rfl, (h.b 1 rfl).c 1 rfl, (h.b 1 rfl).c 2 rfl, (h.b 1 rfl).c 3 rfl⟩
set_option maxRecDepth 100000 in
set_option maxHeartbeats 2000000 in
theorem l2Cmp_any (s1 : Bool) (o1 : Option Addr) (n1 c1 : Nat) (ds1 : List Int) (s2 : Bool) (o2 : Option Addr) (n2 c2 : Nat) (ds2 : List Int) (s3 : Bool) (o3 : Option Addr) (n3 c3 : Nat) (ds3 : List Int) (s4 : Bool) (o4 : Option Addr) (n4 c4 : Nat) (ds4 : List Int) (x y u v : Int) (w : World) (N1 : IsNum w s1 o1 n1 c1 ds1 x 8) (N2 : IsNum w s2 o2 n2 c2 ds2 y 8) (N3 : IsNum w s3 o3 n3 c3 ds3 u 8) (N4 : IsNum w s4 o4 n4 c4 ds4 v 8) :
    Calls Try.prog 35 #[.agg #[.bool s1, .slice o1 n1 c1, .bool s2, .slice o2 n2 c2], .agg #[.bool s3, .slice o3 n3 c3, .bool s4, .slice o4 n4 c4]] w (IntP (cmpI (x * v) (u * y)) w) := by
  have T0 : ArgsB w ((w.alloc (.cells #[.bool s1, .slice o1 n1 c1, .bool s2, .slice o2 n2 c2] 57)).alloc (.cells #[.bool s3, .slice o3 n3 c3, .bool s4, .slice o4 n4 c4] 57)) [[.bool s1, .slice o1 n1 c1, .bool s2, .slice o2 n2 c2], [.bool s3, .slice o3 n3 c3, .bool s4, .slice o4 n4 c4]] := by
    refine ⟨((Below.refl _ _).alloc (Nat.le_refl _) _).alloc (by simp) _, fun j vs hj => ?_⟩
    match j, hj with
    | 0, hj => cases hj; exact (Blk.new w [.bool s1, .slice o1 n1 c1, .bool s2, .slice o2 n2 c2] 57 rfl).alloc _
    | 1, hj => cases hj; exact Blk.new (w.alloc (.cells #[.bool s1, .slice o1 n1 c1, .bool s2, .slice o2 n2 c2] 57)) [.bool s3, .slice o3 n3 c3, .bool s4, .slice o4 n4 c4] 57 (by simp)
    | j + 2, hj => simp at hj
  replace N1 := N1.below T0.below
  replace N2 := N2.below T0.below
  replace N3 := N3.below T0.below
  replace N4 := N4.below T0.below
  replace N1 := N1.drew
  replace N2 := N2.drew
  replace N3 := N3.drew
  replace N4 := N4.drew
  replace T0 := T0.drew
  have tok1 : True := trivial
  go_enter Try.func35, Try.ntmps35
  go_wp2_with fail
  generalize ((w.alloc (.cells #[.bool s1, .slice o1 n1 c1, .bool s2, .slice o2 n2 c2] 57)).alloc (.cells #[.bool s3, .slice o3 n3 c3, .bool s4, .slice o4 n4 c4] 57)) = W at *
  go_region_held3 (fun w' => w'.cell? ⟨w.heap.size, 0, none⟩ = some (.bool s1) ∧ w'.cell? ⟨w.heap.size, 1, none⟩ = some (.slice o1 n1 c1) ∧ w'.cell? ⟨w.heap.size, 2, none⟩ = some (.bool s2) ∧ w'.cell? ⟨w.heap.size, 3, none⟩ = some (.slice o2 n2 c2) ∧ w'.cell? ⟨w.heap.size + 1, 0, none⟩ = some (.bool s3) ∧ w'.cell? ⟨w.heap.size + 1, 1, none⟩ = some (.slice o3 n3 c3) ∧ w'.cell? ⟨w.heap.size + 1, 2, none⟩ = some (.bool s4) ∧ w'.cell? ⟨w.heap.size + 1, 3, none⟩ = some (.slice o4 n4 c4)) (first | (with_reducible exact lc_cells T0) | (with_reducible exact lc_cells T0.drew))
    (first
      | (go_at_call 59; have _t := tok1; refine (mul_any s1 s4 o1 o4 n1 n4 c1 c4 8 ds1 ds4 _ _ _ N1 N4 (by omega)).mono ?_; rintro e w1 ⟨s5, o5, n5, c5, ds5, rfl, N5, hB⟩; (first | (have T1 : ArgsB w w1 [[.bool s1, .slice o1 n1 c1, .bool s2, .slice o2 n2 c2], [.bool s3, .slice o3 n3 c3, .bool s4, .slice o4 n4 c4]] := (by with_reducible exact T0.step hB); replace N2 := N2.below hB; replace N3 := N3.below hB) | (have T1 : ArgsB w w1 [[.bool s1, .slice o1 n1 c1, .bool s2, .slice o2 n2 c2], [.bool s3, .slice o3 n3 c3, .bool s4, .slice o4 n4 c4]] := (by with_reducible exact T0.drew.step hB); replace N2 := N2.drew.below hB; replace N3 := N3.drew.below hB)); clear T0; have T0 := T1; clear T1; clear hB tok1 _t N1 N4)
      | (go_at_call 59; refine (mul_any s3 s2 o3 o2 n3 n2 c3 c2 8 ds3 ds2 _ _ _ N3 N2 (by omega)).mono ?_; rintro e w2 ⟨s6, o6, n6, c6, ds6, rfl, N6, hB⟩; (first | (have T1 : ArgsB w w2 [[.bool s1, .slice o1 n1 c1, .bool s2, .slice o2 n2 c2], [.bool s3, .slice o3 n3 c3, .bool s4, .slice o4 n4 c4]] := (by with_reducible exact T0.step hB); replace N5 := N5.below hB) | (have T1 : ArgsB w w2 [[.bool s1, .slice o1 n1 c1, .bool s2, .slice o2 n2 c2], [.bool s3, .slice o3 n3 c3, .bool s4, .slice o4 n4 c4]] := (by with_reducible exact T0.drew.step hB); replace N5 := N5.drew.below hB)); clear T0; have T0 := T1; clear T1; clear hB N2 N3)
      | (go_at_call 53; refine (cmp_any s5 s6 o5 o6 n5 n6 c5 c6 (8 + 8) ds5 ds6 _ _ _ N5 N6 (by omega)).mono ?_; rintro e w3 ⟨rfl, hB⟩; (first | (have T1 : ArgsB w w3 [[.bool s1, .slice o1 n1 c1, .bool s2, .slice o2 n2 c2], [.bool s3, .slice o3 n3 c3, .bool s4, .slice o4 n4 c4]] := (by with_reducible exact T0.step hB)) | (have T1 : ArgsB w w3 [[.bool s1, .slice o1 n1 c1, .bool s2, .slice o2 n2 c2], [.bool s3, .slice o3 n3 c3, .bool s4, .slice o4 n4 c4]] := (by with_reducible exact T0.drew.step hB))); clear T0; have T0 := T1; clear T1; clear hB N5 N6))
  all_goals have HB := T0.below
  all_goals clear T0
  all_goals go_wp2
  all_goals go_ret
  all_goals exact ⟨by simp, by first | exact HB | exact HB.drew⟩
set_option maxRecDepth 100000 in
set_option maxHeartbeats 2000000 in
theorem specRatioCmp_any (a3 a2 a1 a0 b3 b2 b1 b0 c3 c2 c1 c0 d3 d2 d1 d0 : Int) (ha3 : Word a3) (ha2 : Word a2) (ha1 : Word a1) (ha0 : Word a0) (hb3 : Word b3) (hb2 : Word b2) (hb1 : Word b1) (hb0 : Word b0) (hc3 : Word c3) (hc2 : Word c2) (hc1 : Word c1) (hc0 : Word c0) (hd3 : Word d3) (hd2 : Word d2) (hd1 : Word d1) (hd0 : Word d0) (w : World) : Calls Try.prog 16 #[Rt a3 a2 a1 a0 b3 b2 b1 b0, Rt c3 c2 c1 c0 d3 d2 d1 d0] w (IntB (ratCmp (sw a3 a2 a1 a0) (sw b3 b2 b1 b0) (sw c3 c2 c1 c0) (sw d3 d2 d1 d0)) w) := by
  have T0 := rc_args a3 a2 a1 a0 b3 b2 b1 b0 c3 c2 c1 c0 d3 d2 d1 d0 28 w
  have RA := specRatioOk_any a3 a2 a1 a0 b3 b2 b1 b0 ha3 ha2 ha1 ha0 hb3 hb2 hb1 hb0
  have RB := specRatioOk_any c3 c2 c1 c0 d3 d2 d1 d0 hc3 hc2 hc1 hc0 hd3 hd2 hd1 hd0
  have O1 := l2Of_any a3 a2 a1 a0 b3 b2 b1 b0 ha3 ha2 ha1 ha0 hb3 hb2 hb1 hb0
  have O2 := l2Of_any c3 c2 c1 c0 d3 d2 d1 d0 hc3 hc2 hc1 hc0 hd3 hd2 hd1 hd0
  clear ha3 ha2 ha1 ha0 hb3 hb2 hb1 hb0 hc3 hc2 hc1 hc0 hd3 hd2 hd1 hd0
  generalize sw a3 a2 a1 a0 = x at *
  generalize sw b3 b2 b1 b0 = y at *
  generalize sw c3 c2 c1 c0 = u at *
  generalize sw d3 d2 d1 d0 = v at *
  obtain ⟨ra, hra⟩ : ∃ b, rightB x y = b := ⟨_, rfl⟩
  obtain ⟨rb, hrb⟩ : ∃ b, rightB u v = b := ⟨_, rfl⟩
  rw [hra] at RA
  rw [hrb] at RB
  have tok1 : True := trivial
  go_enter Try.func16, Try.ntmps16
  go_wp2_with fail
  generalize ((w.alloc (.cells #[.int .u64 a3, .int .u64 a2, .int .u64 a1, .int .u64 a0, .int .u64 b3, .int .u64 b2, .int .u64 b1, .int .u64 b0] 28)).alloc (.cells #[.int .u64 c3, .int .u64 c2, .int .u64 c1, .int .u64 c0, .int .u64 d3, .int .u64 d2, .int .u64 d1, .int .u64 d0] 28)) = W at *
  refine (RA _).mono ?_
  rintro e w1 ⟨rfl, hB⟩
  replace T0 := T0.step hB
  clear hB RA
  cases ra
  · have HR : Hid (ratCmp x y u v = (0, false)) := ratCmp_no1 hra
    have HB := T0.below
    clear T0 RB O1 O2
    go_wp2
    go_ret2
    exact ⟨by rw [HR.out]; simp, HB⟩
  · have x0 := (T0.b 0 rfl).c 0 rfl; have y0 := (T0.b 1 rfl).c 0 rfl; have x1 := (T0.b 0 rfl).c 1 rfl; have y1 := (T0.b 1 rfl).c 1 rfl; have x2 := (T0.b 0 rfl).c 2 rfl; have y2 := (T0.b 1 rfl).c 2 rfl; have x3 := (T0.b 0 rfl).c 3 rfl; have y3 := (T0.b 1 rfl).c 3 rfl; have x4 := (T0.b 0 rfl).c 4 rfl; have y4 := (T0.b 1 rfl).c 4 rfl; have x5 := (T0.b 0 rfl).c 5 rfl; have y5 := (T0.b 1 rfl).c 5 rfl; have x6 := (T0.b 0 rfl).c 6 rfl; have y6 := (T0.b 1 rfl).c 6 rfl; have x7 := (T0.b 0 rfl).c 7 rfl; have y7 := (T0.b 1 rfl).c 7 rfl
    go_wp2_with fail
    refine (RB _).mono ?_
    rintro e w2 ⟨rfl, hB⟩
    replace T0 := T0.step hB
    clear hB RB x0 y0 x1 y1 x2 y2 x3 y3 x4 y4 x5 y5 x6 y6 x7 y7
    cases rb
    · have HR : Hid (ratCmp x y u v = (0, false)) := ratCmp_no2 hrb
      have HB := T0.below
      clear T0 O1 O2
      go_wp2
      go_ret2
      exact ⟨by rw [HR.out]; simp, HB⟩
    · have HR : Hid (ratCmp x y u v = (cmpI (x * v) (u * y), true)) := ratCmp_yes hra hrb
      clear hra hrb
      go_upto_region 3 with fail
      go_region_held3 (fun w' => w'.cell? ⟨w.heap.size, 0, none⟩ = some (.int .u64 a3) ∧ w'.cell? ⟨w.heap.size, 1, none⟩ = some (.int .u64 a2) ∧ w'.cell? ⟨w.heap.size, 2, none⟩ = some (.int .u64 a1) ∧ w'.cell? ⟨w.heap.size, 3, none⟩ = some (.int .u64 a0) ∧ w'.cell? ⟨w.heap.size, 4, none⟩ = some (.int .u64 b3) ∧ w'.cell? ⟨w.heap.size, 5, none⟩ = some (.int .u64 b2) ∧ w'.cell? ⟨w.heap.size, 6, none⟩ = some (.int .u64 b1) ∧ w'.cell? ⟨w.heap.size, 7, none⟩ = some (.int .u64 b0) ∧ w'.cell? ⟨w.heap.size + 1, 0, none⟩ = some (.int .u64 c3) ∧ w'.cell? ⟨w.heap.size + 1, 1, none⟩ = some (.int .u64 c2) ∧ w'.cell? ⟨w.heap.size + 1, 2, none⟩ = some (.int .u64 c1) ∧ w'.cell? ⟨w.heap.size + 1, 3, none⟩ = some (.int .u64 c0) ∧ w'.cell? ⟨w.heap.size + 1, 4, none⟩ = some (.int .u64 d3) ∧ w'.cell? ⟨w.heap.size + 1, 5, none⟩ = some (.int .u64 d2) ∧ w'.cell? ⟨w.heap.size + 1, 6, none⟩ = some (.int .u64 d1) ∧ w'.cell? ⟨w.heap.size + 1, 7, none⟩ = some (.int .u64 d0)) (first | (with_reducible exact rc_cells T0) | (with_reducible exact rc_cells T0.drew))
        (first
          | (go_at_call 28; have _t := tok1; refine (O1 _).mono ?_; rintro e w3 ⟨s1, o1, n1, e1, ds1, s2, o2, n2, e2, ds2, rfl, N1, N2, hB⟩; (first | (have T1 : ArgsB w w3 [[.int .u64 a3, .int .u64 a2, .int .u64 a1, .int .u64 a0, .int .u64 b3, .int .u64 b2, .int .u64 b1, .int .u64 b0], [.int .u64 c3, .int .u64 c2, .int .u64 c1, .int .u64 c0, .int .u64 d3, .int .u64 d2, .int .u64 d1, .int .u64 d0]] := (by with_reducible exact T0.step hB)) | (have T1 : ArgsB w w3 [[.int .u64 a3, .int .u64 a2, .int .u64 a1, .int .u64 a0, .int .u64 b3, .int .u64 b2, .int .u64 b1, .int .u64 b0], [.int .u64 c3, .int .u64 c2, .int .u64 c1, .int .u64 c0, .int .u64 d3, .int .u64 d2, .int .u64 d1, .int .u64 d0]] := (by with_reducible exact T0.drew.step hB))); clear T0; have T0 := T1; clear T1; clear hB tok1 _t)
          | (go_at_call 28; refine (O2 _).mono ?_; rintro e w4 ⟨s3, o3, n3, e3, ds3, s4, o4, n4, e4, ds4, rfl, N3, N4, hB⟩; (first | (have T1 : ArgsB w w4 [[.int .u64 a3, .int .u64 a2, .int .u64 a1, .int .u64 a0, .int .u64 b3, .int .u64 b2, .int .u64 b1, .int .u64 b0], [.int .u64 c3, .int .u64 c2, .int .u64 c1, .int .u64 c0, .int .u64 d3, .int .u64 d2, .int .u64 d1, .int .u64 d0]] := (by with_reducible exact T0.step hB); replace N1 := N1.below hB; replace N2 := N2.below hB) | (have T1 : ArgsB w w4 [[.int .u64 a3, .int .u64 a2, .int .u64 a1, .int .u64 a0, .int .u64 b3, .int .u64 b2, .int .u64 b1, .int .u64 b0], [.int .u64 c3, .int .u64 c2, .int .u64 c1, .int .u64 c0, .int .u64 d3, .int .u64 d2, .int .u64 d1, .int .u64 d0]] := (by with_reducible exact T0.drew.step hB); replace N1 := N1.drew.below hB; replace N2 := N2.drew.below hB)); clear T0; have T0 := T1; clear T1; clear hB)
          | (go_at_call 35; refine (l2Cmp_any s1 o1 n1 e1 ds1 s2 o2 n2 e2 ds2 s3 o3 n3 e3 ds3 s4 o4 n4 e4 ds4 x y u v _ N1 N2 N3 N4).mono ?_; rintro e w5 ⟨rfl, hB⟩; (first | (have T1 : ArgsB w w5 [[.int .u64 a3, .int .u64 a2, .int .u64 a1, .int .u64 a0, .int .u64 b3, .int .u64 b2, .int .u64 b1, .int .u64 b0], [.int .u64 c3, .int .u64 c2, .int .u64 c1, .int .u64 c0, .int .u64 d3, .int .u64 d2, .int .u64 d1, .int .u64 d0]] := (by with_reducible exact T0.step hB)) | (have T1 : ArgsB w w5 [[.int .u64 a3, .int .u64 a2, .int .u64 a1, .int .u64 a0, .int .u64 b3, .int .u64 b2, .int .u64 b1, .int .u64 b0], [.int .u64 c3, .int .u64 c2, .int .u64 c1, .int .u64 c0, .int .u64 d3, .int .u64 d2, .int .u64 d1, .int .u64 d0]] := (by with_reducible exact T0.drew.step hB))); clear T0; have T0 := T1; clear T1; clear hB N1 N2 N3 N4))
      all_goals have HB := T0.below
      all_goals clear T0
      all_goals go_wp2
      all_goals go_ret2
      all_goals exact ⟨by rw [HR.out]; simp, by first | exact HB | exact HB.drew⟩
end Go.Proofs.Ytlmlpcdpfeaikaa

/- The model's sums and products of two fractions. -/
namespace Go.Proofs.Ytlmlpcdpfeaikaa
open Go.RowKit
end Go.Proofs.Ytlmlpcdpfeaikaa

/- The model's word on sums of two fractions. -/
namespace Go.Proofs.Ytlmlpcdpfeaikaa
open Go.RowKit
end Go.Proofs.Ytlmlpcdpfeaikaa

/- The walk of the program's difference of four words. -/
namespace Go.Proofs.Ytlmlpcdpfeaikaa
open Go.RowKit
set_option maxRecDepth 100000 in
set_option maxHeartbeats 4000000 in
theorem implSub_any (a3 a2 a1 a0 b3 b2 b1 b0 : Int) (h3 : Word a3) (h2 : Word a2) (h1 : Word a1) (h0 : Word a0) (k3 : Word b3) (k2 : Word b2) (k1 : Word b1) (k0 : Word b0) (w : World) :
    Calls Try.prog 29 #[.agg #[.int .u64 a3, .int .u64 a2, .int .u64 a1, .int .u64 a0], .agg #[.int .u64 b3, .int .u64 b2, .int .u64 b1, .int .u64 b0]] w (TellP (sw a3 a2 a1 a0 - sw b3 b2 b1 b0) w) := by
  have T0 := ((twoW_start w a3 a2 a1 a0 b3 b2 b1 b0 26).alloc (Obj.cells #[Value.int IntKind.u64 0, Value.int IntKind.u64 0, Value.int IntKind.u64 0, Value.int IntKind.u64 0] 26))
  have R0 : Wd _ (w.heap.size + 1 + 1) 0 0 0 0 := (Wd.new ((w.alloc (Obj.cells #[Value.int IntKind.u64 a3, Value.int IntKind.u64 a2, Value.int IntKind.u64 a1, Value.int IntKind.u64 a0] 26)).alloc (Obj.cells #[Value.int IntKind.u64 b3, Value.int IntKind.u64 b2, Value.int IntKind.u64 b1, Value.int IntKind.u64 b0] 26)) 0 0 0 0 26 (by simp))
  have tok1 : True := trivial
  go_enter Try.func29, Try.ntmps29
  go_upto_region 1 with fail
  generalize ((w.alloc (Obj.cells #[Value.int IntKind.u64 a3, Value.int IntKind.u64 a2, Value.int IntKind.u64 a1, Value.int IntKind.u64 a0] 26)).alloc (Obj.cells #[Value.int IntKind.u64 b3, Value.int IntKind.u64 b2, Value.int IntKind.u64 b1, Value.int IntKind.u64 b0] 26)).alloc (Obj.cells #[Value.int IntKind.u64 0, Value.int IntKind.u64 0, Value.int IntKind.u64 0, Value.int IntKind.u64 0] 26) = W at *
  go_cut [6] (fun p wx => CutP (MinusR a3 a2 a1 a0 b3 b2 b1 b0) w wx a3 a2 a1 a0 b3 b2 b1 b0 p)
  case first =>
    go_region_held3 (fun w' => w'.cell? ⟨w.heap.size, 0, none⟩ = some (.int .u64 a3) ∧ w'.cell? ⟨w.heap.size, 1, none⟩ = some (.int .u64 a2) ∧ w'.cell? ⟨w.heap.size, 2, none⟩ = some (.int .u64 a1) ∧ w'.cell? ⟨w.heap.size, 3, none⟩ = some (.int .u64 a0) ∧ w'.cell? ⟨w.heap.size + 1, 0, none⟩ = some (.int .u64 b3) ∧ w'.cell? ⟨w.heap.size + 1, 1, none⟩ = some (.int .u64 b2) ∧ w'.cell? ⟨w.heap.size + 1, 2, none⟩ = some (.int .u64 b1) ∧ w'.cell? ⟨w.heap.size + 1, 3, none⟩ = some (.int .u64 b0)) (first | (with_reducible exact cells8x T0) | (with_reducible exact cells8x T0.drew) | (with_reducible exact cells8x (T0.alloc _)) | (with_reducible exact cells8x (T0.alloc _).drew) | (with_reducible exact cells8x (T0.set (by omega) _ _ _ _)))
      (first
        | (go_at_call 38; have _t := tok1; refine (wordsOf_any a3 a2 a1 a0 _).mono ?_; rintro e w1 ⟨rfl, hB⟩; (first | (have T1 : TwoW w w1 a3 a2 a1 a0 b3 b2 b1 b0 := (by with_reducible exact T0.step hB); replace R0 := R0.step hB; try (replace G0 := G0.step hB; have z0c := G0.c0; have z1c := G0.c1; have z2c := G0.c2; have z3c := G0.c3; have z0f := G0.f0; have z1f := G0.f1; have z2f := G0.f2; have z3f := G0.f3)) | (have T1 : TwoW w w1 a3 a2 a1 a0 b3 b2 b1 b0 := (by with_reducible exact T0.drew.step hB); replace R0 := R0.drew.step hB; try (replace G0 := G0.step hB; have z0c := G0.c0; have z1c := G0.c1; have z2c := G0.c2; have z3c := G0.c3; have z0f := G0.f0; have z1f := G0.f1; have z2f := G0.f2; have z3f := G0.f3)) | (have T1 : TwoW w w1 a3 a2 a1 a0 b3 b2 b1 b0 := (by with_reducible exact (T0.alloc _).step hB); have hg := R0.lt; replace R0 := (R0.alloc _).step hB; have G0 := (Wd.new _ 0 0 0 0 _ rfl).step hB; have z0c := G0.c0; have z1c := G0.c1; have z2c := G0.c2; have z3c := G0.c3; have z0f := G0.f0; have z1f := G0.f1; have z2f := G0.f2; have z3f := G0.f3) | (have T1 : TwoW w w1 a3 a2 a1 a0 b3 b2 b1 b0 := (by with_reducible exact (T0.alloc _).drew.step hB); have hg := R0.lt; replace R0 := (R0.alloc _).drew.step hB; have G0 := (Wd.new _ 0 0 0 0 _ rfl).drew.step hB; have z0c := G0.c0; have z1c := G0.c1; have z2c := G0.c2; have z3c := G0.c3; have z0f := G0.f0; have z1f := G0.f1; have z2f := G0.f2; have z3f := G0.f3)); clear T0; have T0 := T1; clear T1; clear tok1 _t hB)
        | (go_at_call 38; refine (wordsOf_any b3 b2 b1 b0 _).mono ?_; rintro e w2 ⟨rfl, hB⟩; (first | (have T1 : TwoW w w2 a3 a2 a1 a0 b3 b2 b1 b0 := (by with_reducible exact T0.step hB); replace R0 := R0.step hB; try (replace G0 := G0.step hB; have z0c := G0.c0; have z1c := G0.c1; have z2c := G0.c2; have z3c := G0.c3; have z0f := G0.f0; have z1f := G0.f1; have z2f := G0.f2; have z3f := G0.f3)) | (have T1 : TwoW w w2 a3 a2 a1 a0 b3 b2 b1 b0 := (by with_reducible exact T0.drew.step hB); replace R0 := R0.drew.step hB; try (replace G0 := G0.step hB; have z0c := G0.c0; have z1c := G0.c1; have z2c := G0.c2; have z3c := G0.c3; have z0f := G0.f0; have z1f := G0.f1; have z2f := G0.f2; have z3f := G0.f3)) | (have T1 : TwoW w w2 a3 a2 a1 a0 b3 b2 b1 b0 := (by with_reducible exact (T0.alloc _).step hB); have hg := R0.lt; replace R0 := (R0.alloc _).step hB; have G0 := (Wd.new _ 0 0 0 0 _ rfl).step hB; have z0c := G0.c0; have z1c := G0.c1; have z2c := G0.c2; have z3c := G0.c3; have z0f := G0.f0; have z1f := G0.f1; have z2f := G0.f2; have z3f := G0.f3) | (have T1 : TwoW w w2 a3 a2 a1 a0 b3 b2 b1 b0 := (by with_reducible exact (T0.alloc _).drew.step hB); have hg := R0.lt; replace R0 := (R0.alloc _).drew.step hB; have G0 := (Wd.new _ 0 0 0 0 _ rfl).drew.step hB; have z0c := G0.c0; have z1c := G0.c1; have z2c := G0.c2; have z3c := G0.c3; have z0f := G0.f0; have z1f := G0.f1; have z2f := G0.f2; have z3f := G0.f3)); clear T0; have T0 := T1; clear T1; clear hB)
        | (go_at_call 61; refine (minus4 a0 a1 a2 a3 b0 b1 b2 b3 (words4 h0 h1 h2 h3) (words4 k0 k1 k2 k3) _).mono ?_; intro e w3 hP; obtain ⟨z3, z2, z1, z0, rfl, hrel, hB⟩ := minusR_of hP; (first | (have T1 : TwoW w w3 a3 a2 a1 a0 b3 b2 b1 b0 := (by with_reducible exact T0.step hB); replace R0 := R0.step hB; try (replace G0 := G0.step hB; have z0c := G0.c0; have z1c := G0.c1; have z2c := G0.c2; have z3c := G0.c3; have z0f := G0.f0; have z1f := G0.f1; have z2f := G0.f2; have z3f := G0.f3)) | (have T1 : TwoW w w3 a3 a2 a1 a0 b3 b2 b1 b0 := (by with_reducible exact T0.drew.step hB); replace R0 := R0.drew.step hB; try (replace G0 := G0.step hB; have z0c := G0.c0; have z1c := G0.c1; have z2c := G0.c2; have z3c := G0.c3; have z0f := G0.f0; have z1f := G0.f1; have z2f := G0.f2; have z3f := G0.f3)) | (have T1 : TwoW w w3 a3 a2 a1 a0 b3 b2 b1 b0 := (by with_reducible exact (T0.alloc _).step hB); have hg := R0.lt; replace R0 := (R0.alloc _).step hB; have G0 := (Wd.new _ 0 0 0 0 _ rfl).step hB; have z0c := G0.c0; have z1c := G0.c1; have z2c := G0.c2; have z3c := G0.c3; have z0f := G0.f0; have z1f := G0.f1; have z2f := G0.f2; have z3f := G0.f3) | (have T1 : TwoW w w3 a3 a2 a1 a0 b3 b2 b1 b0 := (by with_reducible exact (T0.alloc _).drew.step hB); have hg := R0.lt; replace R0 := (R0.alloc _).drew.step hB; have G0 := (Wd.new _ 0 0 0 0 _ rfl).drew.step hB; have z0c := G0.c0; have z1c := G0.c1; have z2c := G0.c2; have z3c := G0.c3; have z0f := G0.f0; have z1f := G0.f1; have z2f := G0.f2; have z3f := G0.f3)); clear T0; have T0 := T1; clear T1; clear hB hP)
        | (go_at_call 37; refine (wideOf_any z3 z2 z1 z0 _).mono ?_; rintro e w4 ⟨rfl, hB⟩; (first | (have T1 : TwoW w w4 a3 a2 a1 a0 b3 b2 b1 b0 := (by with_reducible exact T0.step hB); replace R0 := R0.step hB; try (replace G0 := G0.step hB; have z0c := G0.c0; have z1c := G0.c1; have z2c := G0.c2; have z3c := G0.c3; have z0f := G0.f0; have z1f := G0.f1; have z2f := G0.f2; have z3f := G0.f3)) | (have T1 : TwoW w w4 a3 a2 a1 a0 b3 b2 b1 b0 := (by with_reducible exact T0.drew.step hB); replace R0 := R0.drew.step hB; try (replace G0 := G0.step hB; have z0c := G0.c0; have z1c := G0.c1; have z2c := G0.c2; have z3c := G0.c3; have z0f := G0.f0; have z1f := G0.f1; have z2f := G0.f2; have z3f := G0.f3)) | (have T1 : TwoW w w4 a3 a2 a1 a0 b3 b2 b1 b0 := (by with_reducible exact (T0.alloc _).step hB); have hg := R0.lt; replace R0 := (R0.alloc _).step hB; have G0 := (Wd.new _ 0 0 0 0 _ rfl).step hB; have z0c := G0.c0; have z1c := G0.c1; have z2c := G0.c2; have z3c := G0.c3; have z0f := G0.f0; have z1f := G0.f1; have z2f := G0.f2; have z3f := G0.f3) | (have T1 : TwoW w w4 a3 a2 a1 a0 b3 b2 b1 b0 := (by with_reducible exact (T0.alloc _).drew.step hB); have hg := R0.lt; replace R0 := (R0.alloc _).drew.step hB; have G0 := (Wd.new _ 0 0 0 0 _ rfl).drew.step hB; have z0c := G0.c0; have z1c := G0.c1; have z2c := G0.c2; have z3c := G0.c3; have z0f := G0.f0; have z1f := G0.f1; have z2f := G0.f2; have z3f := G0.f3)); clear T0; have T0 := T1; clear T1; clear hB))
    all_goals go_wp2_with fail
    all_goals go_meet
    all_goals first | exact cut_new T0 R0 hrel | exact cut_set T0 R0 G0 (by omega) hrel | exact cut_drew (cut_new T0 R0 hrel) | exact cut_drew (cut_set T0 R0 G0 (by omega) hrel)
  case rest =>
    clear T0 R0 tok1
    obtain ⟨g, z3, z2, z1, z0, hp, T0, R0, G0, hg, l3, l2, l1, l0, c, hc0, hc1, heq⟩ := hcut
    subst hp
    have HT := minus_told h3 h2 h1 h0 k3 k2 k1 k0 l3 l2 l1 l0 hc0 hc1 heq
    obtain ⟨ba, hba⟩ : ∃ b, (a3 / 9223372036854775808 == 1) = b := ⟨_, rfl⟩
    obtain ⟨bb, hbb⟩ : ∃ b, (b3 / 9223372036854775808 == 1) = b := ⟨_, rfl⟩
    obtain ⟨bz, hbz⟩ : ∃ b, (z3 / 9223372036854775808 == 1) = b := ⟨_, rfl⟩
    rw [hba, hbb, hbz] at HT
    clear hc0 hc1 heq
    by_cases e1 : ba ≠ bb
    · have e1' : (ba == bb) = false := by simpa using e1
      by_cases e2 : bz = ba
      · rw [if_neg (by intro h; exact h.2 e2)] at HT
        have e2' : (bz == ba) = true := by simpa using e2
        have HT' : Hid _ := HT; clear HT; have HT := HT'; clear HT'
        clear e1 e2
        go_upto_region 2 with fail
        go_region_held3 (fun w' => w'.cell? ⟨w.heap.size, 0, none⟩ = some (.int .u64 a3) ∧ w'.cell? ⟨w.heap.size, 1, none⟩ = some (.int .u64 a2) ∧ w'.cell? ⟨w.heap.size, 2, none⟩ = some (.int .u64 a1) ∧ w'.cell? ⟨w.heap.size, 3, none⟩ = some (.int .u64 a0) ∧ w'.cell? ⟨w.heap.size + 1, 0, none⟩ = some (.int .u64 b3) ∧ w'.cell? ⟨w.heap.size + 1, 1, none⟩ = some (.int .u64 b2) ∧ w'.cell? ⟨w.heap.size + 1, 2, none⟩ = some (.int .u64 b1) ∧ w'.cell? ⟨w.heap.size + 1, 3, none⟩ = some (.int .u64 b0) ∧ w'.cell? ⟨g, 0, none⟩ = some (.int .u64 z3) ∧ w'.cell? ⟨g, 1, none⟩ = some (.int .u64 z2) ∧ w'.cell? ⟨g, 2, none⟩ = some (.int .u64 z1) ∧ w'.cell? ⟨g, 3, none⟩ = some (.int .u64 z0)) (first | (with_reducible exact cells12x T0 G0) | (with_reducible exact cells12x T0.drew G0.drew))
          (first
            | (go_at_call 31; refine (isBelow_any _ _ _ _ (by assumption) _ (by assumption) _).mono ?_; rintro e w1 ⟨rfl, hB⟩; (first | (have T1 : TwoW w w1 a3 a2 a1 a0 b3 b2 b1 b0 := (by with_reducible exact T0.step hB); replace R0 := R0.step hB; replace G0 := G0.step hB) | (have T1 : TwoW w w1 a3 a2 a1 a0 b3 b2 b1 b0 := (by with_reducible exact T0.drew.step hB); replace R0 := R0.drew.step hB; replace G0 := G0.drew.step hB)); clear T0; have T0 := T1; clear T1 hB))
        have r0 := R0.c0; have r1 := R0.c1; have r2 := R0.c2; have r3 := R0.c3; have f0 := R0.f0; have f1 := R0.f1; have f2 := R0.f2; have f3 := R0.f3
        have y0 := G0.c0; have y1 := G0.c1; have y2 := G0.c2; have y3 := G0.c3
        all_goals go_wp2
        all_goals refine bodyPost_ret (v := .tuple #[.agg #[.int .u64 z3, .int .u64 z2, .int .u64 z1, .int .u64 z0], .bool true]) (by simp [results, Try.results29, go_sem, r0, r1, r2, r3]) rfl ?_
        all_goals first | exact tellP_set (by omega) ⟨T0.below, Or.inl ⟨HT.out.1, z3, z2, z1, z0, rfl, l3, l2, l1, l0, HT.out.2⟩⟩ | exact tellP_drew (tellP_set (by omega) ⟨T0.below, Or.inl ⟨HT.out.1, z3, z2, z1, z0, rfl, l3, l2, l1, l0, HT.out.2⟩⟩)
      · rw [if_pos ⟨e1, e2⟩] at HT
        have e2' : (bz == ba) = false := by simpa using e2
        have HT' : Hid _ := HT; clear HT; have HT := HT'; clear HT'
        clear e1 e2
        go_upto_region 2 with fail
        go_region_held3 (fun w' => w'.cell? ⟨w.heap.size, 0, none⟩ = some (.int .u64 a3) ∧ w'.cell? ⟨w.heap.size, 1, none⟩ = some (.int .u64 a2) ∧ w'.cell? ⟨w.heap.size, 2, none⟩ = some (.int .u64 a1) ∧ w'.cell? ⟨w.heap.size, 3, none⟩ = some (.int .u64 a0) ∧ w'.cell? ⟨w.heap.size + 1, 0, none⟩ = some (.int .u64 b3) ∧ w'.cell? ⟨w.heap.size + 1, 1, none⟩ = some (.int .u64 b2) ∧ w'.cell? ⟨w.heap.size + 1, 2, none⟩ = some (.int .u64 b1) ∧ w'.cell? ⟨w.heap.size + 1, 3, none⟩ = some (.int .u64 b0) ∧ w'.cell? ⟨g, 0, none⟩ = some (.int .u64 z3) ∧ w'.cell? ⟨g, 1, none⟩ = some (.int .u64 z2) ∧ w'.cell? ⟨g, 2, none⟩ = some (.int .u64 z1) ∧ w'.cell? ⟨g, 3, none⟩ = some (.int .u64 z0)) (first | (with_reducible exact cells12x T0 G0) | (with_reducible exact cells12x T0.drew G0.drew))
          (first
            | (go_at_call 31; refine (isBelow_any _ _ _ _ (by assumption) _ (by assumption) _).mono ?_; rintro e w1 ⟨rfl, hB⟩; (first | (have T1 : TwoW w w1 a3 a2 a1 a0 b3 b2 b1 b0 := (by with_reducible exact T0.step hB); replace R0 := R0.step hB; replace G0 := G0.step hB) | (have T1 : TwoW w w1 a3 a2 a1 a0 b3 b2 b1 b0 := (by with_reducible exact T0.drew.step hB); replace R0 := R0.drew.step hB; replace G0 := G0.drew.step hB)); clear T0; have T0 := T1; clear T1 hB))
        have r0 := R0.c0; have r1 := R0.c1; have r2 := R0.c2; have r3 := R0.c3; have f0 := R0.f0; have f1 := R0.f1; have f2 := R0.f2; have f3 := R0.f3
        have y0 := G0.c0; have y1 := G0.c1; have y2 := G0.c2; have y3 := G0.c3
        go_wp2
        refine bodyPost_ret (v := .tuple #[.agg #[.int .u64 0, .int .u64 0, .int .u64 0, .int .u64 0], .bool false]) (by simp [results, Try.results29, go_sem, r0, r1, r2, r3]) rfl ?_
        first | exact tellP_set (by omega) ⟨T0.below, Or.inr ⟨HT.out, rfl⟩⟩ | exact tellP_drew (tellP_set (by omega) ⟨T0.below, Or.inr ⟨HT.out, rfl⟩⟩)
    · have e1' : (ba == bb) = true := by simpa using e1
      rw [if_neg (by intro h; exact e1 h.1)] at HT
      have HT' : Hid _ := HT; clear HT; have HT := HT'; clear HT'
      clear e1
      have p0 := T0.a.c0; have p1 := T0.a.c1; have p2 := T0.a.c2; have p3 := T0.a.c3; have q0 := T0.b.c0; have q1 := T0.b.c1; have q2 := T0.b.c2; have q3 := T0.b.c3
      go_upto_region 2 with fail
      go_region_with ((go_at_call 31; refine (isBelow_any _ _ _ _ (by assumption) _ (by assumption) _).mono ?_; rintro e w1 ⟨rfl, hB⟩; (first | (have T1 : TwoW w w1 a3 a2 a1 a0 b3 b2 b1 b0 := (by with_reducible exact T0.step hB); replace R0 := R0.step hB; replace G0 := G0.step hB) | (have T1 : TwoW w w1 a3 a2 a1 a0 b3 b2 b1 b0 := (by with_reducible exact T0.drew.step hB); replace R0 := R0.drew.step hB; replace G0 := G0.drew.step hB)); clear T0; have T0 := T1; clear T1 hB; have p0 := T0.a.c0; have p1 := T0.a.c1; have p2 := T0.a.c2; have p3 := T0.a.c3; have q0 := T0.b.c0; have q1 := T0.b.c1; have q2 := T0.b.c2; have q3 := T0.b.c3))
      all_goals (have r0 := R0.c0; have r1 := R0.c1; have r2 := R0.c2; have r3 := R0.c3; have f0 := R0.f0; have f1 := R0.f1; have f2 := R0.f2; have f3 := R0.f3; have y0 := G0.c0; have y1 := G0.c1; have y2 := G0.c2; have y3 := G0.c3)
      all_goals go_wp2
      all_goals refine bodyPost_ret (v := .tuple #[.agg #[.int .u64 z3, .int .u64 z2, .int .u64 z1, .int .u64 z0], .bool true]) (by simp [results, Try.results29, go_sem, r0, r1, r2, r3]) rfl ?_
      all_goals first | exact tellP_set (by omega) ⟨T0.below, Or.inl ⟨HT.out.1, z3, z2, z1, z0, rfl, l3, l2, l1, l0, HT.out.2⟩⟩ | exact tellP_drew (tellP_set (by omega) ⟨T0.below, Or.inl ⟨HT.out.1, z3, z2, z1, z0, rfl, l3, l2, l1, l0, HT.out.2⟩⟩)
end Go.Proofs.Ytlmlpcdpfeaikaa

/- The walks of the negation of four words, by the model and by the program, and of the law over both. -/
namespace Go.Proofs.Ytlmlpcdpfeaikaa
open Go.RowKit
theorem word0 : Word 0 := ⟨by decide, by decide⟩
set_option maxRecDepth 100000 in
set_option maxHeartbeats 1000000 in
theorem implNeg_any (a3 a2 a1 a0 : Int) (h3 : Word a3) (h2 : Word a2) (h1 : Word a1) (h0 : Word a0) (w : World) :
    Calls Try.prog 9 #[.agg #[.int .u64 a3, .int .u64 a2, .int .u64 a1, .int .u64 a0]] w (TellP (-(sw a3 a2 a1 a0)) w) := by
  have R0 : Wd ((w.alloc (Obj.cells #[Value.int IntKind.u64 a3, Value.int IntKind.u64 a2, Value.int IntKind.u64 a1, Value.int IntKind.u64 a0] 26)).alloc (Obj.cells #[Value.int IntKind.u64 0, Value.int IntKind.u64 0, Value.int IntKind.u64 0, Value.int IntKind.u64 0] 26)) (w.heap.size + 1) 0 0 0 0 := Wd.new _ 0 0 0 0 26 (by simp)
  have HB : Below w.heap.size w ((w.alloc (Obj.cells #[Value.int IntKind.u64 a3, Value.int IntKind.u64 a2, Value.int IntKind.u64 a1, Value.int IntKind.u64 a0] 26)).alloc (Obj.cells #[Value.int IntKind.u64 0, Value.int IntKind.u64 0, Value.int IntKind.u64 0, Value.int IntKind.u64 0] 26)) := ((Below.refl _ _).alloc (Nat.le_refl _) _).alloc (by simp) _
  go_enter Try.func9, Try.ntmps9
  go_wp2_with fail
  refine (implSub_any 0 0 0 0 a3 a2 a1 a0 word0 word0 word0 word0 h3 h2 h1 h0 _).mono ?_
  intro e w3 hT
  rw [show sw 0 0 0 0 - sw a3 a2 a1 a0 = -(sw a3 a2 a1 a0) by have : sw 0 0 0 0 = 0 := by decide
                                                              omega] at hT
  have hTT := tellP_from HB hT
  replace R0 := R0.step hT.1
  obtain ⟨x3, x2, x1, x0, p, rfl⟩ := tellP_shape hT
  have r0 := R0.c0; have r1 := R0.c1; have r2 := R0.c2; have r3 := R0.c3; have f0 := R0.f0; have f1 := R0.f1; have f2 := R0.f2; have f3 := R0.f3
  clear hT HB R0
  go_wp2
  refine bodyPost_ret (v := .tuple #[.agg #[.int .u64 x3, .int .u64 x2, .int .u64 x1, .int .u64 x0], .bool p]) (by simp [results, Try.results9, go_sem, r0, r1, r2, r3]) rfl ?_
  exact tellP_set (Nat.le_succ _) hTT
end Go.Proofs.Ytlmlpcdpfeaikaa

/- The walk of the program's sum of four words. -/
namespace Go.Proofs.Ytlmlpcdpfeaikaa
open Go.RowKit
set_option maxRecDepth 100000 in
set_option maxHeartbeats 4000000 in
theorem implAdd_any (a3 a2 a1 a0 b3 b2 b1 b0 : Int) (h3 : Word a3) (h2 : Word a2) (h1 : Word a1) (h0 : Word a0) (k3 : Word b3) (k2 : Word b2) (k1 : Word b1) (k0 : Word b0) (w : World) :
    Calls Try.prog 19 #[.agg #[.int .u64 a3, .int .u64 a2, .int .u64 a1, .int .u64 a0], .agg #[.int .u64 b3, .int .u64 b2, .int .u64 b1, .int .u64 b0]] w (TellP (sw a3 a2 a1 a0 + sw b3 b2 b1 b0) w) := by
  have T0 := ((twoW_start w a3 a2 a1 a0 b3 b2 b1 b0 26).alloc (Obj.cells #[Value.int IntKind.u64 0, Value.int IntKind.u64 0, Value.int IntKind.u64 0, Value.int IntKind.u64 0] 26))
  have R0 : Wd _ (w.heap.size + 1 + 1) 0 0 0 0 := (Wd.new ((w.alloc (Obj.cells #[Value.int IntKind.u64 a3, Value.int IntKind.u64 a2, Value.int IntKind.u64 a1, Value.int IntKind.u64 a0] 26)).alloc (Obj.cells #[Value.int IntKind.u64 b3, Value.int IntKind.u64 b2, Value.int IntKind.u64 b1, Value.int IntKind.u64 b0] 26)) 0 0 0 0 26 (by simp))
  have tok1 : True := trivial
  go_enter Try.func19, Try.ntmps19
  go_upto_region 1 with fail
  generalize ((w.alloc (Obj.cells #[Value.int IntKind.u64 a3, Value.int IntKind.u64 a2, Value.int IntKind.u64 a1, Value.int IntKind.u64 a0] 26)).alloc (Obj.cells #[Value.int IntKind.u64 b3, Value.int IntKind.u64 b2, Value.int IntKind.u64 b1, Value.int IntKind.u64 b0] 26)).alloc (Obj.cells #[Value.int IntKind.u64 0, Value.int IntKind.u64 0, Value.int IntKind.u64 0, Value.int IntKind.u64 0] 26) = W at *
  go_cut [6] (fun p wx => CutP (PlusR a3 a2 a1 a0 b3 b2 b1 b0) w wx a3 a2 a1 a0 b3 b2 b1 b0 p)
  case first =>
    go_region_held3 (fun w' => w'.cell? ⟨w.heap.size, 0, none⟩ = some (.int .u64 a3) ∧ w'.cell? ⟨w.heap.size, 1, none⟩ = some (.int .u64 a2) ∧ w'.cell? ⟨w.heap.size, 2, none⟩ = some (.int .u64 a1) ∧ w'.cell? ⟨w.heap.size, 3, none⟩ = some (.int .u64 a0) ∧ w'.cell? ⟨w.heap.size + 1, 0, none⟩ = some (.int .u64 b3) ∧ w'.cell? ⟨w.heap.size + 1, 1, none⟩ = some (.int .u64 b2) ∧ w'.cell? ⟨w.heap.size + 1, 2, none⟩ = some (.int .u64 b1) ∧ w'.cell? ⟨w.heap.size + 1, 3, none⟩ = some (.int .u64 b0)) (first | (with_reducible exact cells8x T0) | (with_reducible exact cells8x T0.drew) | (with_reducible exact cells8x (T0.alloc _)) | (with_reducible exact cells8x (T0.alloc _).drew) | (with_reducible exact cells8x (T0.set (by omega) _ _ _ _)))
      (first
        | (go_at_call 38; have _t := tok1; refine (wordsOf_any a3 a2 a1 a0 _).mono ?_; rintro e w1 ⟨rfl, hB⟩; (first | (have T1 : TwoW w w1 a3 a2 a1 a0 b3 b2 b1 b0 := (by with_reducible exact T0.step hB); replace R0 := R0.step hB; try (replace G0 := G0.step hB; have z0c := G0.c0; have z1c := G0.c1; have z2c := G0.c2; have z3c := G0.c3; have z0f := G0.f0; have z1f := G0.f1; have z2f := G0.f2; have z3f := G0.f3)) | (have T1 : TwoW w w1 a3 a2 a1 a0 b3 b2 b1 b0 := (by with_reducible exact T0.drew.step hB); replace R0 := R0.drew.step hB; try (replace G0 := G0.step hB; have z0c := G0.c0; have z1c := G0.c1; have z2c := G0.c2; have z3c := G0.c3; have z0f := G0.f0; have z1f := G0.f1; have z2f := G0.f2; have z3f := G0.f3)) | (have T1 : TwoW w w1 a3 a2 a1 a0 b3 b2 b1 b0 := (by with_reducible exact (T0.alloc _).step hB); have hg := R0.lt; replace R0 := (R0.alloc _).step hB; have G0 := (Wd.new _ 0 0 0 0 _ rfl).step hB; have z0c := G0.c0; have z1c := G0.c1; have z2c := G0.c2; have z3c := G0.c3; have z0f := G0.f0; have z1f := G0.f1; have z2f := G0.f2; have z3f := G0.f3) | (have T1 : TwoW w w1 a3 a2 a1 a0 b3 b2 b1 b0 := (by with_reducible exact (T0.alloc _).drew.step hB); have hg := R0.lt; replace R0 := (R0.alloc _).drew.step hB; have G0 := (Wd.new _ 0 0 0 0 _ rfl).drew.step hB; have z0c := G0.c0; have z1c := G0.c1; have z2c := G0.c2; have z3c := G0.c3; have z0f := G0.f0; have z1f := G0.f1; have z2f := G0.f2; have z3f := G0.f3)); clear T0; have T0 := T1; clear T1; clear tok1 _t hB)
        | (go_at_call 38; refine (wordsOf_any b3 b2 b1 b0 _).mono ?_; rintro e w2 ⟨rfl, hB⟩; (first | (have T1 : TwoW w w2 a3 a2 a1 a0 b3 b2 b1 b0 := (by with_reducible exact T0.step hB); replace R0 := R0.step hB; try (replace G0 := G0.step hB; have z0c := G0.c0; have z1c := G0.c1; have z2c := G0.c2; have z3c := G0.c3; have z0f := G0.f0; have z1f := G0.f1; have z2f := G0.f2; have z3f := G0.f3)) | (have T1 : TwoW w w2 a3 a2 a1 a0 b3 b2 b1 b0 := (by with_reducible exact T0.drew.step hB); replace R0 := R0.drew.step hB; try (replace G0 := G0.step hB; have z0c := G0.c0; have z1c := G0.c1; have z2c := G0.c2; have z3c := G0.c3; have z0f := G0.f0; have z1f := G0.f1; have z2f := G0.f2; have z3f := G0.f3)) | (have T1 : TwoW w w2 a3 a2 a1 a0 b3 b2 b1 b0 := (by with_reducible exact (T0.alloc _).step hB); have hg := R0.lt; replace R0 := (R0.alloc _).step hB; have G0 := (Wd.new _ 0 0 0 0 _ rfl).step hB; have z0c := G0.c0; have z1c := G0.c1; have z2c := G0.c2; have z3c := G0.c3; have z0f := G0.f0; have z1f := G0.f1; have z2f := G0.f2; have z3f := G0.f3) | (have T1 : TwoW w w2 a3 a2 a1 a0 b3 b2 b1 b0 := (by with_reducible exact (T0.alloc _).drew.step hB); have hg := R0.lt; replace R0 := (R0.alloc _).drew.step hB; have G0 := (Wd.new _ 0 0 0 0 _ rfl).drew.step hB; have z0c := G0.c0; have z1c := G0.c1; have z2c := G0.c2; have z3c := G0.c3; have z0f := G0.f0; have z1f := G0.f1; have z2f := G0.f2; have z3f := G0.f3)); clear T0; have T0 := T1; clear T1; clear hB)
        | (go_at_call 39; refine (plus4 a0 a1 a2 a3 b0 b1 b2 b3 (words4 h0 h1 h2 h3) (words4 k0 k1 k2 k3) _).mono ?_; intro e w3 hP; obtain ⟨z3, z2, z1, z0, rfl, hrel, hB⟩ := plusR_of hP; (first | (have T1 : TwoW w w3 a3 a2 a1 a0 b3 b2 b1 b0 := (by with_reducible exact T0.step hB); replace R0 := R0.step hB; try (replace G0 := G0.step hB; have z0c := G0.c0; have z1c := G0.c1; have z2c := G0.c2; have z3c := G0.c3; have z0f := G0.f0; have z1f := G0.f1; have z2f := G0.f2; have z3f := G0.f3)) | (have T1 : TwoW w w3 a3 a2 a1 a0 b3 b2 b1 b0 := (by with_reducible exact T0.drew.step hB); replace R0 := R0.drew.step hB; try (replace G0 := G0.step hB; have z0c := G0.c0; have z1c := G0.c1; have z2c := G0.c2; have z3c := G0.c3; have z0f := G0.f0; have z1f := G0.f1; have z2f := G0.f2; have z3f := G0.f3)) | (have T1 : TwoW w w3 a3 a2 a1 a0 b3 b2 b1 b0 := (by with_reducible exact (T0.alloc _).step hB); have hg := R0.lt; replace R0 := (R0.alloc _).step hB; have G0 := (Wd.new _ 0 0 0 0 _ rfl).step hB; have z0c := G0.c0; have z1c := G0.c1; have z2c := G0.c2; have z3c := G0.c3; have z0f := G0.f0; have z1f := G0.f1; have z2f := G0.f2; have z3f := G0.f3) | (have T1 : TwoW w w3 a3 a2 a1 a0 b3 b2 b1 b0 := (by with_reducible exact (T0.alloc _).drew.step hB); have hg := R0.lt; replace R0 := (R0.alloc _).drew.step hB; have G0 := (Wd.new _ 0 0 0 0 _ rfl).drew.step hB; have z0c := G0.c0; have z1c := G0.c1; have z2c := G0.c2; have z3c := G0.c3; have z0f := G0.f0; have z1f := G0.f1; have z2f := G0.f2; have z3f := G0.f3)); clear T0; have T0 := T1; clear T1; clear hB hP)
        | (go_at_call 37; refine (wideOf_any z3 z2 z1 z0 _).mono ?_; rintro e w4 ⟨rfl, hB⟩; (first | (have T1 : TwoW w w4 a3 a2 a1 a0 b3 b2 b1 b0 := (by with_reducible exact T0.step hB); replace R0 := R0.step hB; try (replace G0 := G0.step hB; have z0c := G0.c0; have z1c := G0.c1; have z2c := G0.c2; have z3c := G0.c3; have z0f := G0.f0; have z1f := G0.f1; have z2f := G0.f2; have z3f := G0.f3)) | (have T1 : TwoW w w4 a3 a2 a1 a0 b3 b2 b1 b0 := (by with_reducible exact T0.drew.step hB); replace R0 := R0.drew.step hB; try (replace G0 := G0.step hB; have z0c := G0.c0; have z1c := G0.c1; have z2c := G0.c2; have z3c := G0.c3; have z0f := G0.f0; have z1f := G0.f1; have z2f := G0.f2; have z3f := G0.f3)) | (have T1 : TwoW w w4 a3 a2 a1 a0 b3 b2 b1 b0 := (by with_reducible exact (T0.alloc _).step hB); have hg := R0.lt; replace R0 := (R0.alloc _).step hB; have G0 := (Wd.new _ 0 0 0 0 _ rfl).step hB; have z0c := G0.c0; have z1c := G0.c1; have z2c := G0.c2; have z3c := G0.c3; have z0f := G0.f0; have z1f := G0.f1; have z2f := G0.f2; have z3f := G0.f3) | (have T1 : TwoW w w4 a3 a2 a1 a0 b3 b2 b1 b0 := (by with_reducible exact (T0.alloc _).drew.step hB); have hg := R0.lt; replace R0 := (R0.alloc _).drew.step hB; have G0 := (Wd.new _ 0 0 0 0 _ rfl).drew.step hB; have z0c := G0.c0; have z1c := G0.c1; have z2c := G0.c2; have z3c := G0.c3; have z0f := G0.f0; have z1f := G0.f1; have z2f := G0.f2; have z3f := G0.f3)); clear T0; have T0 := T1; clear T1; clear hB))
    all_goals go_wp2_with fail
    all_goals go_meet
    all_goals first | exact cut_new T0 R0 hrel | exact cut_set T0 R0 G0 (by omega) hrel | exact cut_drew (cut_new T0 R0 hrel) | exact cut_drew (cut_set T0 R0 G0 (by omega) hrel)
  case rest =>
    clear T0 R0 tok1
    obtain ⟨g, z3, z2, z1, z0, hp, T0, R0, G0, hg, l3, l2, l1, l0, c, hc0, hc1, heq⟩ := hcut
    subst hp
    have HT := plus_told h3 h2 h1 h0 k3 k2 k1 k0 l3 l2 l1 l0 hc0 hc1 heq
    obtain ⟨ba, hba⟩ : ∃ b, (a3 / 9223372036854775808 == 1) = b := ⟨_, rfl⟩
    obtain ⟨bb, hbb⟩ : ∃ b, (b3 / 9223372036854775808 == 1) = b := ⟨_, rfl⟩
    obtain ⟨bz, hbz⟩ : ∃ b, (z3 / 9223372036854775808 == 1) = b := ⟨_, rfl⟩
    rw [hba, hbb, hbz] at HT
    clear hc0 hc1 heq
    by_cases e1 : ba = bb
    · have e1' : (ba == bb) = true := by simpa using e1
      by_cases e2 : bz = ba
      · rw [if_neg (by intro h; exact h.2 e2)] at HT
        have e2' : (bz == ba) = true := by simpa using e2
        have HT' : Hid _ := HT; clear HT; have HT := HT'; clear HT'
        clear e1 e2
        go_upto_region 2 with fail
        go_region_held3 (fun w' => w'.cell? ⟨w.heap.size, 0, none⟩ = some (.int .u64 a3) ∧ w'.cell? ⟨w.heap.size, 1, none⟩ = some (.int .u64 a2) ∧ w'.cell? ⟨w.heap.size, 2, none⟩ = some (.int .u64 a1) ∧ w'.cell? ⟨w.heap.size, 3, none⟩ = some (.int .u64 a0) ∧ w'.cell? ⟨w.heap.size + 1, 0, none⟩ = some (.int .u64 b3) ∧ w'.cell? ⟨w.heap.size + 1, 1, none⟩ = some (.int .u64 b2) ∧ w'.cell? ⟨w.heap.size + 1, 2, none⟩ = some (.int .u64 b1) ∧ w'.cell? ⟨w.heap.size + 1, 3, none⟩ = some (.int .u64 b0) ∧ w'.cell? ⟨g, 0, none⟩ = some (.int .u64 z3) ∧ w'.cell? ⟨g, 1, none⟩ = some (.int .u64 z2) ∧ w'.cell? ⟨g, 2, none⟩ = some (.int .u64 z1) ∧ w'.cell? ⟨g, 3, none⟩ = some (.int .u64 z0)) (first | (with_reducible exact cells12x T0 G0) | (with_reducible exact cells12x T0.drew G0.drew))
          (first
            | (go_at_call 31; refine (isBelow_any _ _ _ _ (by assumption) _ (by assumption) _).mono ?_; rintro e w1 ⟨rfl, hB⟩; (first | (have T1 : TwoW w w1 a3 a2 a1 a0 b3 b2 b1 b0 := (by with_reducible exact T0.step hB); replace R0 := R0.step hB; replace G0 := G0.step hB) | (have T1 : TwoW w w1 a3 a2 a1 a0 b3 b2 b1 b0 := (by with_reducible exact T0.drew.step hB); replace R0 := R0.drew.step hB; replace G0 := G0.drew.step hB)); clear T0; have T0 := T1; clear T1 hB))
        have r0 := R0.c0; have r1 := R0.c1; have r2 := R0.c2; have r3 := R0.c3; have f0 := R0.f0; have f1 := R0.f1; have f2 := R0.f2; have f3 := R0.f3
        have y0 := G0.c0; have y1 := G0.c1; have y2 := G0.c2; have y3 := G0.c3
        all_goals go_wp2
        all_goals refine bodyPost_ret (v := .tuple #[.agg #[.int .u64 z3, .int .u64 z2, .int .u64 z1, .int .u64 z0], .bool true]) (by simp [results, Try.results19, go_sem, r0, r1, r2, r3]) rfl ?_
        all_goals first | exact tellP_set (by omega) ⟨T0.below, Or.inl ⟨HT.out.1, z3, z2, z1, z0, rfl, l3, l2, l1, l0, HT.out.2⟩⟩ | exact tellP_drew (tellP_set (by omega) ⟨T0.below, Or.inl ⟨HT.out.1, z3, z2, z1, z0, rfl, l3, l2, l1, l0, HT.out.2⟩⟩)
      · rw [if_pos ⟨e1, e2⟩] at HT
        have e2' : (bz == ba) = false := by simpa using e2
        have HT' : Hid _ := HT; clear HT; have HT := HT'; clear HT'
        clear e1 e2
        go_upto_region 2 with fail
        go_region_held3 (fun w' => w'.cell? ⟨w.heap.size, 0, none⟩ = some (.int .u64 a3) ∧ w'.cell? ⟨w.heap.size, 1, none⟩ = some (.int .u64 a2) ∧ w'.cell? ⟨w.heap.size, 2, none⟩ = some (.int .u64 a1) ∧ w'.cell? ⟨w.heap.size, 3, none⟩ = some (.int .u64 a0) ∧ w'.cell? ⟨w.heap.size + 1, 0, none⟩ = some (.int .u64 b3) ∧ w'.cell? ⟨w.heap.size + 1, 1, none⟩ = some (.int .u64 b2) ∧ w'.cell? ⟨w.heap.size + 1, 2, none⟩ = some (.int .u64 b1) ∧ w'.cell? ⟨w.heap.size + 1, 3, none⟩ = some (.int .u64 b0) ∧ w'.cell? ⟨g, 0, none⟩ = some (.int .u64 z3) ∧ w'.cell? ⟨g, 1, none⟩ = some (.int .u64 z2) ∧ w'.cell? ⟨g, 2, none⟩ = some (.int .u64 z1) ∧ w'.cell? ⟨g, 3, none⟩ = some (.int .u64 z0)) (first | (with_reducible exact cells12x T0 G0) | (with_reducible exact cells12x T0.drew G0.drew))
          (first
            | (go_at_call 31; refine (isBelow_any _ _ _ _ (by assumption) _ (by assumption) _).mono ?_; rintro e w1 ⟨rfl, hB⟩; (first | (have T1 : TwoW w w1 a3 a2 a1 a0 b3 b2 b1 b0 := (by with_reducible exact T0.step hB); replace R0 := R0.step hB; replace G0 := G0.step hB) | (have T1 : TwoW w w1 a3 a2 a1 a0 b3 b2 b1 b0 := (by with_reducible exact T0.drew.step hB); replace R0 := R0.drew.step hB; replace G0 := G0.drew.step hB)); clear T0; have T0 := T1; clear T1 hB))
        have r0 := R0.c0; have r1 := R0.c1; have r2 := R0.c2; have r3 := R0.c3; have f0 := R0.f0; have f1 := R0.f1; have f2 := R0.f2; have f3 := R0.f3
        have y0 := G0.c0; have y1 := G0.c1; have y2 := G0.c2; have y3 := G0.c3
        go_wp2
        refine bodyPost_ret (v := .tuple #[.agg #[.int .u64 0, .int .u64 0, .int .u64 0, .int .u64 0], .bool false]) (by simp [results, Try.results19, go_sem, r0, r1, r2, r3]) rfl ?_
        first | exact tellP_set (by omega) ⟨T0.below, Or.inr ⟨HT.out, rfl⟩⟩ | exact tellP_drew (tellP_set (by omega) ⟨T0.below, Or.inr ⟨HT.out, rfl⟩⟩)
    · have e1' : (ba == bb) = false := by simpa using e1
      rw [if_neg (by intro h; exact e1 h.1)] at HT
      have HT' : Hid _ := HT; clear HT; have HT := HT'; clear HT'
      clear e1
      have p0 := T0.a.c0; have p1 := T0.a.c1; have p2 := T0.a.c2; have p3 := T0.a.c3; have q0 := T0.b.c0; have q1 := T0.b.c1; have q2 := T0.b.c2; have q3 := T0.b.c3
      go_upto_region 2 with fail
      go_region_with ((go_at_call 31; refine (isBelow_any _ _ _ _ (by assumption) _ (by assumption) _).mono ?_; rintro e w1 ⟨rfl, hB⟩; (first | (have T1 : TwoW w w1 a3 a2 a1 a0 b3 b2 b1 b0 := (by with_reducible exact T0.step hB); replace R0 := R0.step hB; replace G0 := G0.step hB) | (have T1 : TwoW w w1 a3 a2 a1 a0 b3 b2 b1 b0 := (by with_reducible exact T0.drew.step hB); replace R0 := R0.drew.step hB; replace G0 := G0.drew.step hB)); clear T0; have T0 := T1; clear T1 hB; have p0 := T0.a.c0; have p1 := T0.a.c1; have p2 := T0.a.c2; have p3 := T0.a.c3; have q0 := T0.b.c0; have q1 := T0.b.c1; have q2 := T0.b.c2; have q3 := T0.b.c3))
      all_goals (have r0 := R0.c0; have r1 := R0.c1; have r2 := R0.c2; have r3 := R0.c3; have f0 := R0.f0; have f1 := R0.f1; have f2 := R0.f2; have f3 := R0.f3; have y0 := G0.c0; have y1 := G0.c1; have y2 := G0.c2; have y3 := G0.c3)
      all_goals go_wp2
      all_goals refine bodyPost_ret (v := .tuple #[.agg #[.int .u64 z3, .int .u64 z2, .int .u64 z1, .int .u64 z0], .bool true]) (by simp [results, Try.results19, go_sem, r0, r1, r2, r3]) rfl ?_
      all_goals first | exact tellP_set (by omega) ⟨T0.below, Or.inl ⟨HT.out.1, z3, z2, z1, z0, rfl, l3, l2, l1, l0, HT.out.2⟩⟩ | exact tellP_drew (tellP_set (by omega) ⟨T0.below, Or.inl ⟨HT.out.1, z3, z2, z1, z0, rfl, l3, l2, l1, l0, HT.out.2⟩⟩)
end Go.Proofs.Ytlmlpcdpfeaikaa
