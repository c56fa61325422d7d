/- Fractions in their order: the program's walks. -/
import Derived.Test.YtddniklhpkagmaaRatO
import Derived.Test.YtddniklhpkagmaaDivG
namespace Go.Proofs.Ytddniklhpkagmaa
open Go.RowKit
set_option maxRecDepth 100000 in
set_option maxHeartbeats 1000000 in
theorem cross_any (a3 a2 a1 a0 b3 b2 b1 b0 c3 c2 c1 c0 d3 d2 d1 d0 : Int) (ha3 : Word a3) (ha2 : Word a2) (ha1 : Word a1) (ha0 : Word a0) (hd3 : Word d3) (hd2 : Word d2) (hd1 : Word d1) (hd0 : Word d0) (w : World) : Calls Try.prog 85 #[Rt a3 a2 a1 a0 b3 b2 b1 b0, Rt c3 c2 c1 c0 d3 d2 d1 d0] w (TimesP (sw a3 a2 a1 a0 * sw d3 d2 d1 d0) w) := by
  have HB := (((Below.refl _ w).alloc (Nat.le_refl _) (.cells #[.int .u64 a3, .int .u64 a2, .int .u64 a1, .int .u64 a0, .int .u64 b3, .int .u64 b2, .int .u64 b1, .int .u64 b0] 41)).alloc (by simp) (.cells #[.int .u64 c3, .int .u64 c2, .int .u64 c1, .int .u64 c0, .int .u64 d3, .int .u64 d2, .int .u64 d1, .int .u64 d0] 41)).alloc (by simp; omega) (.cells #[.int .u64 0, .int .u64 0, .int .u64 0, .int .u64 0, .int .u64 0, .int .u64 0, .int .u64 0, .int .u64 0] 62)
  have O0 := Blk.new ((w.alloc (.cells #[.int .u64 a3, .int .u64 a2, .int .u64 a1, .int .u64 a0, .int .u64 b3, .int .u64 b2, .int .u64 b1, .int .u64 b0] 41)).alloc (.cells #[.int .u64 c3, .int .u64 c2, .int .u64 c1, .int .u64 c0, .int .u64 d3, .int .u64 d2, .int .u64 d1, .int .u64 d0] 41)) [.int .u64 0, .int .u64 0, .int .u64 0, .int .u64 0, .int .u64 0, .int .u64 0, .int .u64 0, .int .u64 0] 62 (g := w.heap.size + 1 + 1) (by simp)
  go_enter Try.func85, Try.ntmps85
  go_wp2_with fail
  refine (times_any a3 a2 a1 a0 d3 d2 d1 d0 ha3 ha2 ha1 ha0 hd3 hd2 hd1 hd0 _).mono ?_
  rintro e w1 ⟨z0, z1, z2, z3, z4, z5, z6, z7, rfl, wz, hz, hB⟩
  replace O0 := O0.step hB; replace HB := HB.trans (hB.mono HB.size)
  have o0 := O0.c 0 rfl; have p0 := O0.f 0 rfl; have o1 := O0.c 1 rfl; have p1 := O0.f 1 rfl; have o2 := O0.c 2 rfl; have p2 := O0.f 2 rfl; have o3 := O0.c 3 rfl; have p3 := O0.f 3 rfl; have o4 := O0.c 4 rfl; have p4 := O0.f 4 rfl; have o5 := O0.c 5 rfl; have p5 := O0.f 5 rfl; have o6 := O0.c 6 rfl; have p6 := O0.f 6 rfl; have o7 := O0.c 7 rfl; have p7 := O0.f 7 rfl
  have lo := O0.lt
  clear hB O0
  go_wp2
  refine bodyPost_ret (v := L8 z0 z1 z2 z3 z4 z5 z6 z7) (by simp [results, Try.results85, go_sem, o0, o1, o2, o3, o4, o5, o6, o7]) rfl ?_
  exact ⟨z0, z1, z2, z3, z4, z5, z6, z7, rfl, wz, hz, below_set8 (g := w.heap.size + 1 + 1) (by omega) HB⟩
set_option maxRecDepth 100000 in
set_option maxHeartbeats 1000000 in
theorem signL_any (x0 x1 x2 x3 x4 x5 x6 x7 : Int) (wx : Words [x0, x1, x2, x3, x4, x5, x6, x7]) (w : World) : Calls Try.prog 86 #[L8 x0 x1 x2 x3 x4 x5 x6 x7] w (IntP (cmpI (sl x0 x1 x2 x3 x4 x5 x6 x7) 0) w) := by
  have X0 := Blk.new w [.int .u64 x0, .int .u64 x1, .int .u64 x2, .int .u64 x3, .int .u64 x4, .int .u64 x5, .int .u64 x6, .int .u64 x7] 62 rfl
  have HB := (Below.refl _ w).alloc (Nat.le_refl _) (.cells #[.int .u64 x0, .int .u64 x1, .int .u64 x2, .int .u64 x3, .int .u64 x4, .int .u64 x5, .int .u64 x6, .int .u64 x7] 62)
  obtain ⟨t1, t2, t3⟩ := sl_top wx
  have h7 : Word x7 := words_at wx 7 (by simp)
  have EZ := eqLongZ x0 x1 x2 x3 x4 x5 x6 x7
  rw [zeroL _ _ _ _ _ _ _ _ wx] at EZ
  go_enter Try.func86, Try.ntmps86
  go_wp2_with fail
  refine (isBelowL_any x0 x1 x2 x3 x4 x5 x6 x7 _).mono ?_
  rintro e w1 ⟨rfl, hB⟩
  replace X0 := X0.step hB; replace HB := HB.trans (hB.mono HB.size)
  have o0 := X0.c 0 rfl; have o1 := X0.c 1 rfl; have o2 := X0.c 2 rfl; have o3 := X0.c 3 rfl; have o4 := X0.c 4 rfl; have o5 := X0.c 5 rfl; have o6 := X0.c 6 rfl; have o7 := X0.c 7 rfl
  clear hB X0
  unfold Word at h7
  by_cases hp : x7 < 9223372036854775808
  · have hb : (x7 / 9223372036854775808 == 1) = false := beq_eq_false_iff_ne.2 (by omega)
    have HS : Hid (sl x0 x1 x2 x3 x4 x5 x6 x7 = val64 [x0, x1, x2, x3, x4, x5, x6, x7]) := by show _ = _; unfold sl; rw [if_pos hp]; omega
    rw [hb]
    by_cases hz : val64 [x0, x1, x2, x3, x4, x5, x6, x7] = 0
    · rw [hz] at EZ
      simp only [decide_true] at EZ
      clear t1 t2 t3
      go_wp2
      go_ret
      exact ⟨by rw [HS.out, hz]; rfl, HB⟩
    · simp only [hz, decide_false] at EZ
      have HC : Hid (cmpI (sl x0 x1 x2 x3 x4 x5 x6 x7) 0 = 1) := by show _ = _; rw [HS.out]; exact cmpI_gt (by omega)
      clear t1 t2 t3
      go_wp2
      go_ret
      exact ⟨by rw [HC.out]; rfl, HB⟩
  · have hb : (x7 / 9223372036854775808 == 1) = true := beq_iff_eq.2 (by omega)
    have HC : Hid (cmpI (sl x0 x1 x2 x3 x4 x5 x6 x7) 0 = -1) := by
      show _ = _
      apply cmpI_lt
      unfold sl
      rw [if_neg hp]
      omega
    rw [hb]
    clear t1 t2 t3 EZ
    go_wp2
    go_ret
    exact ⟨by rw [HC.out]; rfl, HB⟩
theorem sl_minus {x0 x1 x2 x3 x4 x5 x6 x7 y0 y1 y2 y3 y4 y5 y6 y7 : Int} {zs : List Int} {c : Int} (wx : Words [x0, x1, x2, x3, x4, x5, x6, x7]) (wy : Words [y0, y1, y2, y3, y4, y5, y6, y7]) (wz : Words zs) (hl : zs.length = 8) (c0 : 0 ≤ c) (c1 : c ≤ 1) (hv : val64 zs = val64 [x0, x1, x2, x3, x4, x5, x6, x7] - val64 [y0, y1, y2, y3, y4, y5, y6, y7] + c * pw64 8) (hb : -6703903964971298549787012499102923063739682910296196688861780721860882015036773488400937149083451713845015929093243025426876941405973284973216824503042048 ≤ sl x0 x1 x2 x3 x4 x5 x6 x7 - sl y0 y1 y2 y3 y4 y5 y6 y7 ∧ sl x0 x1 x2 x3 x4 x5 x6 x7 - sl y0 y1 y2 y3 y4 y5 y6 y7 < 6703903964971298549787012499102923063739682910296196688861780721860882015036773488400937149083451713845015929093243025426876941405973284973216824503042048) : ∃ z0 z1 z2 z3 z4 z5 z6 z7, zs = [z0, z1, z2, z3, z4, z5, z6, z7] ∧ sl z0 z1 z2 z3 z4 z5 z6 z7 = sl x0 x1 x2 x3 x4 x5 x6 x7 - sl y0 y1 y2 y3 y4 y5 y6 y7 := by
  obtain ⟨z0, z1, z2, z3, z4, z5, z6, z7, rfl⟩ := list8' hl
  refine ⟨z0, z1, z2, z3, z4, z5, z6, z7, rfl, ?_⟩
  obtain ⟨t1, t2, t3⟩ := sl_top wz
  obtain ⟨u1, u2, u3⟩ := sl_top wx
  obtain ⟨v1, v2, v3⟩ := sl_top wy
  rw [pw64_8] at hv
  unfold sl at hb ⊢
  generalize val64 [z0, z1, z2, z3, z4, z5, z6, z7] = Z at *
  generalize val64 [x0, x1, x2, x3, x4, x5, x6, x7] = X at *
  generalize val64 [y0, y1, y2, y3, y4, y5, y6, y7] = Y at *
  simp only [t1, u1, v1] at hb ⊢
  clear t1 u1 v1
  by_cases hz : Z < 6703903964971298549787012499102923063739682910296196688861780721860882015036773488400937149083451713845015929093243025426876941405973284973216824503042048 <;> by_cases hx : X < 6703903964971298549787012499102923063739682910296196688861780721860882015036773488400937149083451713845015929093243025426876941405973284973216824503042048 <;> by_cases hy : Y < 6703903964971298549787012499102923063739682910296196688861780721860882015036773488400937149083451713845015929093243025426876941405973284973216824503042048 <;> simp only [hz, hx, hy, if_true, if_false] at hb ⊢ <;> (obtain rfl | rfl : c = 0 ∨ c = 1 := by omega) <;> omega
theorem minusL_any (x0 x1 x2 x3 x4 x5 x6 x7 y0 y1 y2 y3 y4 y5 y6 y7 : Int) (wx : Words [x0, x1, x2, x3, x4, x5, x6, x7]) (wy : Words [y0, y1, y2, y3, y4, y5, y6, y7]) (z : Int) (hz : sl x0 x1 x2 x3 x4 x5 x6 x7 - sl y0 y1 y2 y3 y4 y5 y6 y7 = z) (hb : -6703903964971298549787012499102923063739682910296196688861780721860882015036773488400937149083451713845015929093243025426876941405973284973216824503042048 ≤ z ∧ z < 6703903964971298549787012499102923063739682910296196688861780721860882015036773488400937149083451713845015929093243025426876941405973284973216824503042048) (w : World) : Calls Try.prog 60 #[L8 x0 x1 x2 x3 x4 x5 x6 x7, L8 y0 y1 y2 y3 y4 y5 y6 y7] w (TimesP z w) := by
  refine (minus8 x0 x1 x2 x3 x4 x5 x6 x7 y0 y1 y2 y3 y4 y5 y6 y7 wx wy w).mono ?_
  rintro e w1 ⟨zs, c, rfl, q1, q2, q3, q4, q5, hB⟩
  have z1' : zs.length = 8 := q1
  have z5' : val64 zs = val64 [x0, x1, x2, x3, x4, x5, x6, x7] - val64 [y0, y1, y2, y3, y4, y5, y6, y7] + c * pw64 8 := q5
  obtain ⟨z0, z1, z2, z3, z4, z5, z6, z7, rfl, hv⟩ := sl_minus wx wy q2 z1' q3 q4 z5' (by rw [hz]; exact hb)
  exact ⟨z0, z1, z2, z3, z4, z5, z6, z7, rfl, q2, hv.trans hz, hB⟩
end Go.Proofs.Ytddniklhpkagmaa
