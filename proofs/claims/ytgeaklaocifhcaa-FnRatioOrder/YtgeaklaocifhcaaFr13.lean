/- Part 13 of the walks that the proof leans on. -/
import Derived.Test.YtgeaklaocifhcaaFr12
import Derived.Test.YtgeaklaocifhcaaFr11
import Derived.Test.YtgeaklaocifhcaaFr10
import Derived.Test.YtgeaklaocifhcaaFr7
import Derived.Test.YtgeaklaocifhcaaFr4
import Derived.Test.YtgeaklaocifhcaaFr2
import Derived.Deep.RegionHeld3
import Derived.Deep.DeepCutAuto
import Derived.Test.YtgeaklaocifhcaaFr3
/- The program's laws of two fractions, as far as they are told. -/
namespace Go.Proofs.Ytgeaklaocifhcaa
open Go.RowKit
/-- What is told of two right fractions. -/
def rat2V (x y u v n d : Int) : Value := if rightB x y = true ∧ rightB u v = true then ratV n d else .tuple #[.agg #[.int .u64 0, .int .u64 0, .int .u64 0, .int .u64 0, .int .u64 0, .int .u64 0, .int .u64 0, .int .u64 0], .bool false]
theorem rat2V_no1 {x y u v n d : Int} (h : rightB x y = false) : rat2V x y u v n d = .tuple #[.agg #[.int .u64 0, .int .u64 0, .int .u64 0, .int .u64 0, .int .u64 0, .int .u64 0, .int .u64 0, .int .u64 0], .bool false] := by unfold rat2V; rw [if_neg (by rw [h]; rintro ⟨h', -⟩; cases h')]
theorem rat2V_no2 {x y u v n d : Int} (h : rightB u v = false) : rat2V x y u v n d = .tuple #[.agg #[.int .u64 0, .int .u64 0, .int .u64 0, .int .u64 0, .int .u64 0, .int .u64 0, .int .u64 0, .int .u64 0], .bool false] := by unfold rat2V; rw [if_neg (by rw [h]; rintro ⟨-, h'⟩; cases h')]
theorem rat2V_yes {x y u v n d : Int} (h : rightB x y = true) (h' : rightB u v = true) : rat2V x y u v n d = ratV n d := by unfold rat2V; rw [if_pos ⟨h, h'⟩]
set_option maxRecDepth 100000 in
set_option maxHeartbeats 2000000 in
theorem implRatioAdd_any (a3 a2 a1 a0 b3 b2 b1 b0 c3 c2 c1 c0 d3 d2 d1 d0 : Int) (ha3 : Word a3) (ha2 : Word a2) (ha1 : Word a1) (ha0 : Word a0) (hb3 : Word b3) (hb2 : Word b2) (hb1 : Word b1) (hb0 : Word b0) (hc3 : Word c3) (hc2 : Word c2) (hc1 : Word c1) (hc0 : Word c0) (hd3 : Word d3) (hd2 : Word d2) (hd1 : Word d1) (hd0 : Word d0) (w : World) : Calls Try.prog 7 #[Rt a3 a2 a1 a0 b3 b2 b1 b0, Rt c3 c2 c1 c0 d3 d2 d1 d0] w (VP (rat2V (sw a3 a2 a1 a0) (sw b3 b2 b1 b0) (sw c3 c2 c1 c0) (sw d3 d2 d1 d0) ((sw a3 a2 a1 a0) * (sw d3 d2 d1 d0) + (sw c3 c2 c1 c0) * (sw b3 b2 b1 b0)) ((sw b3 b2 b1 b0) * (sw d3 d2 d1 d0))) w) := by
  have T0 := rs_args a3 a2 a1 a0 b3 b2 b1 b0 c3 c2 c1 c0 d3 d2 d1 d0 28 [.int .u64 0, .int .u64 0, .int .u64 0, .int .u64 0, .int .u64 0, .int .u64 0, .int .u64 0, .int .u64 0] w
  have R0 : Blk (((w.alloc (.cells #[.int .u64 a3, .int .u64 a2, .int .u64 a1, .int .u64 a0, .int .u64 b3, .int .u64 b2, .int .u64 b1, .int .u64 b0] 28)).alloc (.cells #[.int .u64 c3, .int .u64 c2, .int .u64 c1, .int .u64 c0, .int .u64 d3, .int .u64 d2, .int .u64 d1, .int .u64 d0] 28)).alloc (.cells #[.int .u64 0, .int .u64 0, .int .u64 0, .int .u64 0, .int .u64 0, .int .u64 0, .int .u64 0, .int .u64 0] 28)) (w.heap.size + 1 + 1) [.int .u64 0, .int .u64 0, .int .u64 0, .int .u64 0, .int .u64 0, .int .u64 0, .int .u64 0, .int .u64 0] := Blk.new _ [.int .u64 0, .int .u64 0, .int .u64 0, .int .u64 0, .int .u64 0, .int .u64 0, .int .u64 0, .int .u64 0] _ (by simp)
  have RA := right_any a3 a2 a1 a0 b3 b2 b1 b0 ha3 ha2 ha1 ha0 hb3 hb2 hb1 hb0
  have RB := right_any c3 c2 c1 c0 d3 d2 d1 d0 hc3 hc2 hc1 hc0 hd3 hd2 hd1 hd0
  have ba := sw_bound ha3 ha2 ha1 ha0; have bb := sw_bound hb3 hb2 hb1 hb0; have bc := sw_bound hc3 hc2 hc1 hc0; have bd := sw_bound hd3 hd2 hd1 hd0
  obtain ⟨ra, hra⟩ : ∃ b, rightB (sw a3 a2 a1 a0) (sw b3 b2 b1 b0) = b := ⟨_, rfl⟩
  obtain ⟨rb, hrb⟩ : ∃ b, rightB (sw c3 c2 c1 c0) (sw d3 d2 d1 d0) = b := ⟨_, rfl⟩
  rw [hra] at RA
  rw [hrb] at RB
  go_enter Try.func7, Try.ntmps7
  go_wp2_with fail
  generalize (((w.alloc (.cells #[.int .u64 a3, .int .u64 a2, .int .u64 a1, .int .u64 a0, .int .u64 b3, .int .u64 b2, .int .u64 b1, .int .u64 b0] 28)).alloc (.cells #[.int .u64 c3, .int .u64 c2, .int .u64 c1, .int .u64 c0, .int .u64 d3, .int .u64 d2, .int .u64 d1, .int .u64 d0] 28)).alloc (.cells #[.int .u64 0, .int .u64 0, .int .u64 0, .int .u64 0, .int .u64 0, .int .u64 0, .int .u64 0, .int .u64 0] 28)) = W at *
  refine (RA _).mono ?_
  rintro e w1 ⟨rfl, hB⟩
  replace T0 := T0.step hB; replace R0 := R0.step hB
  clear hB RA
  cases ra
  · have HV : Hid (rat2V (sw a3 a2 a1 a0) (sw b3 b2 b1 b0) (sw c3 c2 c1 c0) (sw d3 d2 d1 d0) ((sw a3 a2 a1 a0) * (sw d3 d2 d1 d0) + (sw c3 c2 c1 c0) * (sw b3 b2 b1 b0)) ((sw b3 b2 b1 b0) * (sw d3 d2 d1 d0)) = .tuple #[.agg #[.int .u64 0, .int .u64 0, .int .u64 0, .int .u64 0, .int .u64 0, .int .u64 0, .int .u64 0, .int .u64 0], .bool false]) := rat2V_no1 hra
    clear RB
    have HB := T0.below
    have o0c := R0.c 0 rfl; have o0f := R0.f 0 rfl; have o1c := R0.c 1 rfl; have o1f := R0.f 1 rfl; have o2c := R0.c 2 rfl; have o2f := R0.f 2 rfl; have o3c := R0.c 3 rfl; have o3f := R0.f 3 rfl; have o4c := R0.c 4 rfl; have o4f := R0.f 4 rfl; have o5c := R0.c 5 rfl; have o5f := R0.f 5 rfl; have o6c := R0.c 6 rfl; have o6f := R0.f 6 rfl; have o7c := R0.c 7 rfl; have o7f := R0.f 7 rfl
    go_wp2
    refine bodyPost_ret (v := .tuple #[.agg #[.int .u64 0, .int .u64 0, .int .u64 0, .int .u64 0, .int .u64 0, .int .u64 0, .int .u64 0, .int .u64 0], .bool false]) (by simp [results, Try.results7, go_sem, o0c, o1c, o2c, o3c, o4c, o5c, o6c, o7c]) rfl ?_
    refine ⟨by rw [HV.out], ?_⟩
    repeat' (refine Below.setCell ?_ (by simp; try omega) _)
    exact HB
  · have x0c := (T0.b 0 rfl).c 0 rfl; have x1c := (T0.b 0 rfl).c 1 rfl; have x2c := (T0.b 0 rfl).c 2 rfl; have x3c := (T0.b 0 rfl).c 3 rfl; have x4c := (T0.b 0 rfl).c 4 rfl; have x5c := (T0.b 0 rfl).c 5 rfl; have x6c := (T0.b 0 rfl).c 6 rfl; have x7c := (T0.b 0 rfl).c 7 rfl; have y0c := (T0.b 1 rfl).c 0 rfl; have y1c := (T0.b 1 rfl).c 1 rfl; have y2c := (T0.b 1 rfl).c 2 rfl; have y3c := (T0.b 1 rfl).c 3 rfl; have y4c := (T0.b 1 rfl).c 4 rfl; have y5c := (T0.b 1 rfl).c 5 rfl; have y6c := (T0.b 1 rfl).c 6 rfl; have y7c := (T0.b 1 rfl).c 7 rfl; simp only [Nat.add_zero] at x0c x1c x2c x3c x4c x5c x6c x7c
    go_wp2_with fail
    refine (RB _).mono ?_
    rintro e w2 ⟨rfl, hB⟩
    replace T0 := T0.step hB; replace R0 := R0.step hB
    clear hB RB x0c x1c x2c x3c x4c x5c x6c x7c y0c y1c y2c y3c y4c y5c y6c y7c
    cases rb
    · have HV : Hid (rat2V (sw a3 a2 a1 a0) (sw b3 b2 b1 b0) (sw c3 c2 c1 c0) (sw d3 d2 d1 d0) ((sw a3 a2 a1 a0) * (sw d3 d2 d1 d0) + (sw c3 c2 c1 c0) * (sw b3 b2 b1 b0)) ((sw b3 b2 b1 b0) * (sw d3 d2 d1 d0)) = .tuple #[.agg #[.int .u64 0, .int .u64 0, .int .u64 0, .int .u64 0, .int .u64 0, .int .u64 0, .int .u64 0, .int .u64 0], .bool false]) := rat2V_no2 hrb
      have HB := T0.below
      have o0c := R0.c 0 rfl; have o0f := R0.f 0 rfl; have o1c := R0.c 1 rfl; have o1f := R0.f 1 rfl; have o2c := R0.c 2 rfl; have o2f := R0.f 2 rfl; have o3c := R0.c 3 rfl; have o3f := R0.f 3 rfl; have o4c := R0.c 4 rfl; have o4f := R0.f 4 rfl; have o5c := R0.c 5 rfl; have o5f := R0.f 5 rfl; have o6c := R0.c 6 rfl; have o6f := R0.f 6 rfl; have o7c := R0.c 7 rfl; have o7f := R0.f 7 rfl
      go_wp2
      refine bodyPost_ret (v := .tuple #[.agg #[.int .u64 0, .int .u64 0, .int .u64 0, .int .u64 0, .int .u64 0, .int .u64 0, .int .u64 0, .int .u64 0], .bool false]) (by simp [results, Try.results7, go_sem, o0c, o1c, o2c, o3c, o4c, o5c, o6c, o7c]) rfl ?_
      refine ⟨by rw [HV.out], ?_⟩
      repeat' (refine Below.setCell ?_ (by simp; try omega) _)
      exact HB
    · have py := rightB_pos hra
      have pv := rightB_pos hrb
      have p1 := prod_bound ba.1 ba.2 pv bd.2
      have p2 := prod_bound bc.1 bc.2 py bb.2
      have p3 := prod_bound bb.1 bb.2 pv bd.2
      have p4 := sw_prod ha3 ha2 ha1 ha0 hc3 hc2 hc1 hc0
      obtain ⟨z0, z1, z2, z3, z4, z5, z6, z7, t, hz⟩ := ratV_ex ((sw a3 a2 a1 a0) * (sw d3 d2 d1 d0) + (sw c3 c2 c1 c0) * (sw b3 b2 b1 b0)) ((sw b3 b2 b1 b0) * (sw d3 d2 d1 d0))
      have HV : Hid (rat2V (sw a3 a2 a1 a0) (sw b3 b2 b1 b0) (sw c3 c2 c1 c0) (sw d3 d2 d1 d0) ((sw a3 a2 a1 a0) * (sw d3 d2 d1 d0) + (sw c3 c2 c1 c0) * (sw b3 b2 b1 b0)) ((sw b3 b2 b1 b0) * (sw d3 d2 d1 d0)) = .tuple #[.agg #[.int .u64 z0, .int .u64 z1, .int .u64 z2, .int .u64 z3, .int .u64 z4, .int .u64 z5, .int .u64 z6, .int .u64 z7], .bool t]) := (rat2V_yes hra hrb).trans hz
      have PL := plusR_any a3 a2 a1 a0 b3 b2 b1 b0 c3 c2 c1 c0 d3 d2 d1 d0 ha3 ha2 ha1 ha0 hb3 hb2 hb1 hb0 hc3 hc2 hc1 hc0 hd3 hd2 hd1 hd0 ⟨by omega, by omega⟩
      have x0c := (T0.b 0 rfl).c 0 rfl; have x1c := (T0.b 0 rfl).c 1 rfl; have x2c := (T0.b 0 rfl).c 2 rfl; have x3c := (T0.b 0 rfl).c 3 rfl; have x4c := (T0.b 0 rfl).c 4 rfl; have x5c := (T0.b 0 rfl).c 5 rfl; have x6c := (T0.b 0 rfl).c 6 rfl; have x7c := (T0.b 0 rfl).c 7 rfl; have y0c := (T0.b 1 rfl).c 0 rfl; have y1c := (T0.b 1 rfl).c 1 rfl; have y2c := (T0.b 1 rfl).c 2 rfl; have y3c := (T0.b 1 rfl).c 3 rfl; have y4c := (T0.b 1 rfl).c 4 rfl; have y5c := (T0.b 1 rfl).c 5 rfl; have y6c := (T0.b 1 rfl).c 6 rfl; have y7c := (T0.b 1 rfl).c 7 rfl; simp only [Nat.add_zero] at x0c x1c x2c x3c x4c x5c x6c x7c
      go_wp2_with fail
      refine (PL _).mono ?_
      rintro e w3 ⟨m0, m1, m2, m3, m4, m5, m6, m7, n0, n1, n2, n3, n4, n5, n6, n7, rfl, wm, wn, hm, hn, hB⟩
      replace T0 := T0.step hB; replace R0 := R0.step hB
      clear hB PL x0c x1c x2c x3c x4c x5c x6c x7c y0c y1c y2c y3c y4c y5c y6c y7c
      have LW := lowest_any m0 m1 m2 m3 m4 m5 m6 m7 n0 n1 n2 n3 n4 n5 n6 n7 wm wn (by rw [hm]; omega) (by rw [hn]; omega)
      rw [hm, hn, hz] at LW
      clear hm hn hz wm wn hra hrb p1 p2 p3 p4
      go_wp2_with fail
      refine (LW _).mono ?_
      rintro e w4 ⟨rfl, hB⟩
      replace T0 := T0.step hB; replace R0 := R0.step hB
      clear hB LW
      have HB := T0.below
      have o0c := R0.c 0 rfl; have o0f := R0.f 0 rfl; have o1c := R0.c 1 rfl; have o1f := R0.f 1 rfl; have o2c := R0.c 2 rfl; have o2f := R0.f 2 rfl; have o3c := R0.c 3 rfl; have o3f := R0.f 3 rfl; have o4c := R0.c 4 rfl; have o4f := R0.f 4 rfl; have o5c := R0.c 5 rfl; have o5f := R0.f 5 rfl; have o6c := R0.c 6 rfl; have o6f := R0.f 6 rfl; have o7c := R0.c 7 rfl; have o7f := R0.f 7 rfl
      go_wp2
      refine bodyPost_ret (v := .tuple #[.agg #[.int .u64 z0, .int .u64 z1, .int .u64 z2, .int .u64 z3, .int .u64 z4, .int .u64 z5, .int .u64 z6, .int .u64 z7], .bool t]) (by simp [results, Try.results7, go_sem, o0c, o1c, o2c, o3c, o4c, o5c, o6c, o7c]) rfl ?_
      refine ⟨by rw [HV.out], ?_⟩
      repeat' (refine Below.setCell ?_ (by simp; try omega) _)
      exact HB
set_option maxRecDepth 100000 in
set_option maxHeartbeats 2000000 in
theorem implRatioMul_any (a3 a2 a1 a0 b3 b2 b1 b0 c3 c2 c1 c0 d3 d2 d1 d0 : Int) (ha3 : Word a3) (ha2 : Word a2) (ha1 : Word a1) (ha0 : Word a0) (hb3 : Word b3) (hb2 : Word b2) (hb1 : Word b1) (hb0 : Word b0) (hc3 : Word c3) (hc2 : Word c2) (hc1 : Word c1) (hc0 : Word c0) (hd3 : Word d3) (hd2 : Word d2) (hd1 : Word d1) (hd0 : Word d0) (w : World) : Calls Try.prog 10 #[Rt a3 a2 a1 a0 b3 b2 b1 b0, Rt c3 c2 c1 c0 d3 d2 d1 d0] w (VP (rat2V (sw a3 a2 a1 a0) (sw b3 b2 b1 b0) (sw c3 c2 c1 c0) (sw d3 d2 d1 d0) ((sw a3 a2 a1 a0) * (sw c3 c2 c1 c0)) ((sw b3 b2 b1 b0) * (sw d3 d2 d1 d0))) w) := by
  have T0 := rs_args a3 a2 a1 a0 b3 b2 b1 b0 c3 c2 c1 c0 d3 d2 d1 d0 28 [.int .u64 0, .int .u64 0, .int .u64 0, .int .u64 0, .int .u64 0, .int .u64 0, .int .u64 0, .int .u64 0] w
  have R0 : Blk (((w.alloc (.cells #[.int .u64 a3, .int .u64 a2, .int .u64 a1, .int .u64 a0, .int .u64 b3, .int .u64 b2, .int .u64 b1, .int .u64 b0] 28)).alloc (.cells #[.int .u64 c3, .int .u64 c2, .int .u64 c1, .int .u64 c0, .int .u64 d3, .int .u64 d2, .int .u64 d1, .int .u64 d0] 28)).alloc (.cells #[.int .u64 0, .int .u64 0, .int .u64 0, .int .u64 0, .int .u64 0, .int .u64 0, .int .u64 0, .int .u64 0] 28)) (w.heap.size + 1 + 1) [.int .u64 0, .int .u64 0, .int .u64 0, .int .u64 0, .int .u64 0, .int .u64 0, .int .u64 0, .int .u64 0] := Blk.new _ [.int .u64 0, .int .u64 0, .int .u64 0, .int .u64 0, .int .u64 0, .int .u64 0, .int .u64 0, .int .u64 0] _ (by simp)
  have RA := right_any a3 a2 a1 a0 b3 b2 b1 b0 ha3 ha2 ha1 ha0 hb3 hb2 hb1 hb0
  have RB := right_any c3 c2 c1 c0 d3 d2 d1 d0 hc3 hc2 hc1 hc0 hd3 hd2 hd1 hd0
  have ba := sw_bound ha3 ha2 ha1 ha0; have bb := sw_bound hb3 hb2 hb1 hb0; have bc := sw_bound hc3 hc2 hc1 hc0; have bd := sw_bound hd3 hd2 hd1 hd0
  obtain ⟨ra, hra⟩ : ∃ b, rightB (sw a3 a2 a1 a0) (sw b3 b2 b1 b0) = b := ⟨_, rfl⟩
  obtain ⟨rb, hrb⟩ : ∃ b, rightB (sw c3 c2 c1 c0) (sw d3 d2 d1 d0) = b := ⟨_, rfl⟩
  rw [hra] at RA
  rw [hrb] at RB
  go_enter Try.func10, Try.ntmps10
  go_wp2_with fail
  generalize (((w.alloc (.cells #[.int .u64 a3, .int .u64 a2, .int .u64 a1, .int .u64 a0, .int .u64 b3, .int .u64 b2, .int .u64 b1, .int .u64 b0] 28)).alloc (.cells #[.int .u64 c3, .int .u64 c2, .int .u64 c1, .int .u64 c0, .int .u64 d3, .int .u64 d2, .int .u64 d1, .int .u64 d0] 28)).alloc (.cells #[.int .u64 0, .int .u64 0, .int .u64 0, .int .u64 0, .int .u64 0, .int .u64 0, .int .u64 0, .int .u64 0] 28)) = W at *
  refine (RA _).mono ?_
  rintro e w1 ⟨rfl, hB⟩
  replace T0 := T0.step hB; replace R0 := R0.step hB
  clear hB RA
  cases ra
  · have HV : Hid (rat2V (sw a3 a2 a1 a0) (sw b3 b2 b1 b0) (sw c3 c2 c1 c0) (sw d3 d2 d1 d0) ((sw a3 a2 a1 a0) * (sw c3 c2 c1 c0)) ((sw b3 b2 b1 b0) * (sw d3 d2 d1 d0)) = .tuple #[.agg #[.int .u64 0, .int .u64 0, .int .u64 0, .int .u64 0, .int .u64 0, .int .u64 0, .int .u64 0, .int .u64 0], .bool false]) := rat2V_no1 hra
    clear RB
    have HB := T0.below
    have o0c := R0.c 0 rfl; have o0f := R0.f 0 rfl; have o1c := R0.c 1 rfl; have o1f := R0.f 1 rfl; have o2c := R0.c 2 rfl; have o2f := R0.f 2 rfl; have o3c := R0.c 3 rfl; have o3f := R0.f 3 rfl; have o4c := R0.c 4 rfl; have o4f := R0.f 4 rfl; have o5c := R0.c 5 rfl; have o5f := R0.f 5 rfl; have o6c := R0.c 6 rfl; have o6f := R0.f 6 rfl; have o7c := R0.c 7 rfl; have o7f := R0.f 7 rfl
    go_wp2
    refine bodyPost_ret (v := .tuple #[.agg #[.int .u64 0, .int .u64 0, .int .u64 0, .int .u64 0, .int .u64 0, .int .u64 0, .int .u64 0, .int .u64 0], .bool false]) (by simp [results, Try.results10, go_sem, o0c, o1c, o2c, o3c, o4c, o5c, o6c, o7c]) rfl ?_
    refine ⟨by rw [HV.out], ?_⟩
    repeat' (refine Below.setCell ?_ (by simp; try omega) _)
    exact HB
  · have x0c := (T0.b 0 rfl).c 0 rfl; have x1c := (T0.b 0 rfl).c 1 rfl; have x2c := (T0.b 0 rfl).c 2 rfl; have x3c := (T0.b 0 rfl).c 3 rfl; have x4c := (T0.b 0 rfl).c 4 rfl; have x5c := (T0.b 0 rfl).c 5 rfl; have x6c := (T0.b 0 rfl).c 6 rfl; have x7c := (T0.b 0 rfl).c 7 rfl; have y0c := (T0.b 1 rfl).c 0 rfl; have y1c := (T0.b 1 rfl).c 1 rfl; have y2c := (T0.b 1 rfl).c 2 rfl; have y3c := (T0.b 1 rfl).c 3 rfl; have y4c := (T0.b 1 rfl).c 4 rfl; have y5c := (T0.b 1 rfl).c 5 rfl; have y6c := (T0.b 1 rfl).c 6 rfl; have y7c := (T0.b 1 rfl).c 7 rfl; simp only [Nat.add_zero] at x0c x1c x2c x3c x4c x5c x6c x7c
    go_wp2_with fail
    refine (RB _).mono ?_
    rintro e w2 ⟨rfl, hB⟩
    replace T0 := T0.step hB; replace R0 := R0.step hB
    clear hB RB x0c x1c x2c x3c x4c x5c x6c x7c y0c y1c y2c y3c y4c y5c y6c y7c
    cases rb
    · have HV : Hid (rat2V (sw a3 a2 a1 a0) (sw b3 b2 b1 b0) (sw c3 c2 c1 c0) (sw d3 d2 d1 d0) ((sw a3 a2 a1 a0) * (sw c3 c2 c1 c0)) ((sw b3 b2 b1 b0) * (sw d3 d2 d1 d0)) = .tuple #[.agg #[.int .u64 0, .int .u64 0, .int .u64 0, .int .u64 0, .int .u64 0, .int .u64 0, .int .u64 0, .int .u64 0], .bool false]) := rat2V_no2 hrb
      have HB := T0.below
      have o0c := R0.c 0 rfl; have o0f := R0.f 0 rfl; have o1c := R0.c 1 rfl; have o1f := R0.f 1 rfl; have o2c := R0.c 2 rfl; have o2f := R0.f 2 rfl; have o3c := R0.c 3 rfl; have o3f := R0.f 3 rfl; have o4c := R0.c 4 rfl; have o4f := R0.f 4 rfl; have o5c := R0.c 5 rfl; have o5f := R0.f 5 rfl; have o6c := R0.c 6 rfl; have o6f := R0.f 6 rfl; have o7c := R0.c 7 rfl; have o7f := R0.f 7 rfl
      go_wp2
      refine bodyPost_ret (v := .tuple #[.agg #[.int .u64 0, .int .u64 0, .int .u64 0, .int .u64 0, .int .u64 0, .int .u64 0, .int .u64 0, .int .u64 0], .bool false]) (by simp [results, Try.results10, go_sem, o0c, o1c, o2c, o3c, o4c, o5c, o6c, o7c]) rfl ?_
      refine ⟨by rw [HV.out], ?_⟩
      repeat' (refine Below.setCell ?_ (by simp; try omega) _)
      exact HB
    · have py := rightB_pos hra
      have pv := rightB_pos hrb
      have p1 := prod_bound ba.1 ba.2 pv bd.2
      have p2 := prod_bound bc.1 bc.2 py bb.2
      have p3 := prod_bound bb.1 bb.2 pv bd.2
      have p4 := sw_prod ha3 ha2 ha1 ha0 hc3 hc2 hc1 hc0
      obtain ⟨z0, z1, z2, z3, z4, z5, z6, z7, t, hz⟩ := ratV_ex ((sw a3 a2 a1 a0) * (sw c3 c2 c1 c0)) ((sw b3 b2 b1 b0) * (sw d3 d2 d1 d0))
      have HV : Hid (rat2V (sw a3 a2 a1 a0) (sw b3 b2 b1 b0) (sw c3 c2 c1 c0) (sw d3 d2 d1 d0) ((sw a3 a2 a1 a0) * (sw c3 c2 c1 c0)) ((sw b3 b2 b1 b0) * (sw d3 d2 d1 d0)) = .tuple #[.agg #[.int .u64 z0, .int .u64 z1, .int .u64 z2, .int .u64 z3, .int .u64 z4, .int .u64 z5, .int .u64 z6, .int .u64 z7], .bool t]) := (rat2V_yes hra hrb).trans hz
      have PL := timesR_any a3 a2 a1 a0 b3 b2 b1 b0 c3 c2 c1 c0 d3 d2 d1 d0 ha3 ha2 ha1 ha0 hb3 hb2 hb1 hb0 hc3 hc2 hc1 hc0 hd3 hd2 hd1 hd0
      have x0c := (T0.b 0 rfl).c 0 rfl; have x1c := (T0.b 0 rfl).c 1 rfl; have x2c := (T0.b 0 rfl).c 2 rfl; have x3c := (T0.b 0 rfl).c 3 rfl; have x4c := (T0.b 0 rfl).c 4 rfl; have x5c := (T0.b 0 rfl).c 5 rfl; have x6c := (T0.b 0 rfl).c 6 rfl; have x7c := (T0.b 0 rfl).c 7 rfl; have y0c := (T0.b 1 rfl).c 0 rfl; have y1c := (T0.b 1 rfl).c 1 rfl; have y2c := (T0.b 1 rfl).c 2 rfl; have y3c := (T0.b 1 rfl).c 3 rfl; have y4c := (T0.b 1 rfl).c 4 rfl; have y5c := (T0.b 1 rfl).c 5 rfl; have y6c := (T0.b 1 rfl).c 6 rfl; have y7c := (T0.b 1 rfl).c 7 rfl; simp only [Nat.add_zero] at x0c x1c x2c x3c x4c x5c x6c x7c
      go_wp2_with fail
      refine (PL _).mono ?_
      rintro e w3 ⟨m0, m1, m2, m3, m4, m5, m6, m7, n0, n1, n2, n3, n4, n5, n6, n7, rfl, wm, wn, hm, hn, hB⟩
      replace T0 := T0.step hB; replace R0 := R0.step hB
      clear hB PL x0c x1c x2c x3c x4c x5c x6c x7c y0c y1c y2c y3c y4c y5c y6c y7c
      have LW := lowest_any m0 m1 m2 m3 m4 m5 m6 m7 n0 n1 n2 n3 n4 n5 n6 n7 wm wn (by rw [hm]; omega) (by rw [hn]; omega)
      rw [hm, hn, hz] at LW
      clear hm hn hz wm wn hra hrb p1 p2 p3 p4
      go_wp2_with fail
      refine (LW _).mono ?_
      rintro e w4 ⟨rfl, hB⟩
      replace T0 := T0.step hB; replace R0 := R0.step hB
      clear hB LW
      have HB := T0.below
      have o0c := R0.c 0 rfl; have o0f := R0.f 0 rfl; have o1c := R0.c 1 rfl; have o1f := R0.f 1 rfl; have o2c := R0.c 2 rfl; have o2f := R0.f 2 rfl; have o3c := R0.c 3 rfl; have o3f := R0.f 3 rfl; have o4c := R0.c 4 rfl; have o4f := R0.f 4 rfl; have o5c := R0.c 5 rfl; have o5f := R0.f 5 rfl; have o6c := R0.c 6 rfl; have o6f := R0.f 6 rfl; have o7c := R0.c 7 rfl; have o7f := R0.f 7 rfl
      go_wp2
      refine bodyPost_ret (v := .tuple #[.agg #[.int .u64 z0, .int .u64 z1, .int .u64 z2, .int .u64 z3, .int .u64 z4, .int .u64 z5, .int .u64 z6, .int .u64 z7], .bool t]) (by simp [results, Try.results10, go_sem, o0c, o1c, o2c, o3c, o4c, o5c, o6c, o7c]) rfl ?_
      refine ⟨by rw [HV.out], ?_⟩
      repeat' (refine Below.setCell ?_ (by simp; try omega) _)
      exact HB
set_option maxRecDepth 100000 in
set_option maxHeartbeats 2000000 in
theorem implRatioDiv_any (a3 a2 a1 a0 b3 b2 b1 b0 c3 c2 c1 c0 d3 d2 d1 d0 : Int) (ha3 : Word a3) (ha2 : Word a2) (ha1 : Word a1) (ha0 : Word a0) (hb3 : Word b3) (hb2 : Word b2) (hb1 : Word b1) (hb0 : Word b0) (hc3 : Word c3) (hc2 : Word c2) (hc1 : Word c1) (hc0 : Word c0) (hd3 : Word d3) (hd2 : Word d2) (hd1 : Word d1) (hd0 : Word d0) (w : World) : Calls Try.prog 12 #[Rt a3 a2 a1 a0 b3 b2 b1 b0, Rt c3 c2 c1 c0 d3 d2 d1 d0] w (VP (rat2V (sw a3 a2 a1 a0) (sw b3 b2 b1 b0) (sw c3 c2 c1 c0) (sw d3 d2 d1 d0) ((sw a3 a2 a1 a0) * (sw d3 d2 d1 d0)) ((sw c3 c2 c1 c0) * (sw b3 b2 b1 b0))) w) := by
  have T0 := rs_args a3 a2 a1 a0 b3 b2 b1 b0 c3 c2 c1 c0 d3 d2 d1 d0 28 [.int .u64 0, .int .u64 0, .int .u64 0, .int .u64 0, .int .u64 0, .int .u64 0, .int .u64 0, .int .u64 0] w
  have R0 : Blk (((w.alloc (.cells #[.int .u64 a3, .int .u64 a2, .int .u64 a1, .int .u64 a0, .int .u64 b3, .int .u64 b2, .int .u64 b1, .int .u64 b0] 28)).alloc (.cells #[.int .u64 c3, .int .u64 c2, .int .u64 c1, .int .u64 c0, .int .u64 d3, .int .u64 d2, .int .u64 d1, .int .u64 d0] 28)).alloc (.cells #[.int .u64 0, .int .u64 0, .int .u64 0, .int .u64 0, .int .u64 0, .int .u64 0, .int .u64 0, .int .u64 0] 28)) (w.heap.size + 1 + 1) [.int .u64 0, .int .u64 0, .int .u64 0, .int .u64 0, .int .u64 0, .int .u64 0, .int .u64 0, .int .u64 0] := Blk.new _ [.int .u64 0, .int .u64 0, .int .u64 0, .int .u64 0, .int .u64 0, .int .u64 0, .int .u64 0, .int .u64 0] _ (by simp)
  have RA := right_any a3 a2 a1 a0 b3 b2 b1 b0 ha3 ha2 ha1 ha0 hb3 hb2 hb1 hb0
  have RB := right_any c3 c2 c1 c0 d3 d2 d1 d0 hc3 hc2 hc1 hc0 hd3 hd2 hd1 hd0
  have ba := sw_bound ha3 ha2 ha1 ha0; have bb := sw_bound hb3 hb2 hb1 hb0; have bc := sw_bound hc3 hc2 hc1 hc0; have bd := sw_bound hd3 hd2 hd1 hd0
  obtain ⟨ra, hra⟩ : ∃ b, rightB (sw a3 a2 a1 a0) (sw b3 b2 b1 b0) = b := ⟨_, rfl⟩
  obtain ⟨rb, hrb⟩ : ∃ b, rightB (sw c3 c2 c1 c0) (sw d3 d2 d1 d0) = b := ⟨_, rfl⟩
  rw [hra] at RA
  rw [hrb] at RB
  go_enter Try.func12, Try.ntmps12
  go_wp2_with fail
  generalize (((w.alloc (.cells #[.int .u64 a3, .int .u64 a2, .int .u64 a1, .int .u64 a0, .int .u64 b3, .int .u64 b2, .int .u64 b1, .int .u64 b0] 28)).alloc (.cells #[.int .u64 c3, .int .u64 c2, .int .u64 c1, .int .u64 c0, .int .u64 d3, .int .u64 d2, .int .u64 d1, .int .u64 d0] 28)).alloc (.cells #[.int .u64 0, .int .u64 0, .int .u64 0, .int .u64 0, .int .u64 0, .int .u64 0, .int .u64 0, .int .u64 0] 28)) = W at *
  refine (RA _).mono ?_
  rintro e w1 ⟨rfl, hB⟩
  replace T0 := T0.step hB; replace R0 := R0.step hB
  clear hB RA
  cases ra
  · have HV : Hid (rat2V (sw a3 a2 a1 a0) (sw b3 b2 b1 b0) (sw c3 c2 c1 c0) (sw d3 d2 d1 d0) ((sw a3 a2 a1 a0) * (sw d3 d2 d1 d0)) ((sw c3 c2 c1 c0) * (sw b3 b2 b1 b0)) = .tuple #[.agg #[.int .u64 0, .int .u64 0, .int .u64 0, .int .u64 0, .int .u64 0, .int .u64 0, .int .u64 0, .int .u64 0], .bool false]) := rat2V_no1 hra
    clear RB
    have HB := T0.below
    have o0c := R0.c 0 rfl; have o0f := R0.f 0 rfl; have o1c := R0.c 1 rfl; have o1f := R0.f 1 rfl; have o2c := R0.c 2 rfl; have o2f := R0.f 2 rfl; have o3c := R0.c 3 rfl; have o3f := R0.f 3 rfl; have o4c := R0.c 4 rfl; have o4f := R0.f 4 rfl; have o5c := R0.c 5 rfl; have o5f := R0.f 5 rfl; have o6c := R0.c 6 rfl; have o6f := R0.f 6 rfl; have o7c := R0.c 7 rfl; have o7f := R0.f 7 rfl
    go_wp2
    refine bodyPost_ret (v := .tuple #[.agg #[.int .u64 0, .int .u64 0, .int .u64 0, .int .u64 0, .int .u64 0, .int .u64 0, .int .u64 0, .int .u64 0], .bool false]) (by simp [results, Try.results12, go_sem, o0c, o1c, o2c, o3c, o4c, o5c, o6c, o7c]) rfl ?_
    refine ⟨by rw [HV.out], ?_⟩
    repeat' (refine Below.setCell ?_ (by simp; try omega) _)
    exact HB
  · have x0c := (T0.b 0 rfl).c 0 rfl; have x1c := (T0.b 0 rfl).c 1 rfl; have x2c := (T0.b 0 rfl).c 2 rfl; have x3c := (T0.b 0 rfl).c 3 rfl; have x4c := (T0.b 0 rfl).c 4 rfl; have x5c := (T0.b 0 rfl).c 5 rfl; have x6c := (T0.b 0 rfl).c 6 rfl; have x7c := (T0.b 0 rfl).c 7 rfl; have y0c := (T0.b 1 rfl).c 0 rfl; have y1c := (T0.b 1 rfl).c 1 rfl; have y2c := (T0.b 1 rfl).c 2 rfl; have y3c := (T0.b 1 rfl).c 3 rfl; have y4c := (T0.b 1 rfl).c 4 rfl; have y5c := (T0.b 1 rfl).c 5 rfl; have y6c := (T0.b 1 rfl).c 6 rfl; have y7c := (T0.b 1 rfl).c 7 rfl; simp only [Nat.add_zero] at x0c x1c x2c x3c x4c x5c x6c x7c
    go_wp2_with fail
    refine (RB _).mono ?_
    rintro e w2 ⟨rfl, hB⟩
    replace T0 := T0.step hB; replace R0 := R0.step hB
    clear hB RB x0c x1c x2c x3c x4c x5c x6c x7c y0c y1c y2c y3c y4c y5c y6c y7c
    cases rb
    · have HV : Hid (rat2V (sw a3 a2 a1 a0) (sw b3 b2 b1 b0) (sw c3 c2 c1 c0) (sw d3 d2 d1 d0) ((sw a3 a2 a1 a0) * (sw d3 d2 d1 d0)) ((sw c3 c2 c1 c0) * (sw b3 b2 b1 b0)) = .tuple #[.agg #[.int .u64 0, .int .u64 0, .int .u64 0, .int .u64 0, .int .u64 0, .int .u64 0, .int .u64 0, .int .u64 0], .bool false]) := rat2V_no2 hrb
      have HB := T0.below
      have o0c := R0.c 0 rfl; have o0f := R0.f 0 rfl; have o1c := R0.c 1 rfl; have o1f := R0.f 1 rfl; have o2c := R0.c 2 rfl; have o2f := R0.f 2 rfl; have o3c := R0.c 3 rfl; have o3f := R0.f 3 rfl; have o4c := R0.c 4 rfl; have o4f := R0.f 4 rfl; have o5c := R0.c 5 rfl; have o5f := R0.f 5 rfl; have o6c := R0.c 6 rfl; have o6f := R0.f 6 rfl; have o7c := R0.c 7 rfl; have o7f := R0.f 7 rfl
      go_wp2
      refine bodyPost_ret (v := .tuple #[.agg #[.int .u64 0, .int .u64 0, .int .u64 0, .int .u64 0, .int .u64 0, .int .u64 0, .int .u64 0, .int .u64 0], .bool false]) (by simp [results, Try.results12, go_sem, o0c, o1c, o2c, o3c, o4c, o5c, o6c, o7c]) rfl ?_
      refine ⟨by rw [HV.out], ?_⟩
      repeat' (refine Below.setCell ?_ (by simp; try omega) _)
      exact HB
    · have py := rightB_pos hra
      have pv := rightB_pos hrb
      have p1 := prod_bound ba.1 ba.2 pv bd.2
      have p2 := prod_bound bc.1 bc.2 py bb.2
      have p3 := prod_bound bb.1 bb.2 pv bd.2
      have p4 := sw_prod ha3 ha2 ha1 ha0 hc3 hc2 hc1 hc0
      obtain ⟨z0, z1, z2, z3, z4, z5, z6, z7, t, hz⟩ := ratV_ex ((sw a3 a2 a1 a0) * (sw d3 d2 d1 d0)) ((sw c3 c2 c1 c0) * (sw b3 b2 b1 b0))
      have HV : Hid (rat2V (sw a3 a2 a1 a0) (sw b3 b2 b1 b0) (sw c3 c2 c1 c0) (sw d3 d2 d1 d0) ((sw a3 a2 a1 a0) * (sw d3 d2 d1 d0)) ((sw c3 c2 c1 c0) * (sw b3 b2 b1 b0)) = .tuple #[.agg #[.int .u64 z0, .int .u64 z1, .int .u64 z2, .int .u64 z3, .int .u64 z4, .int .u64 z5, .int .u64 z6, .int .u64 z7], .bool t]) := (rat2V_yes hra hrb).trans hz
      have PL := over_any a3 a2 a1 a0 b3 b2 b1 b0 c3 c2 c1 c0 d3 d2 d1 d0 ha3 ha2 ha1 ha0 hb3 hb2 hb1 hb0 hc3 hc2 hc1 hc0 hd3 hd2 hd1 hd0
      have x0c := (T0.b 0 rfl).c 0 rfl; have x1c := (T0.b 0 rfl).c 1 rfl; have x2c := (T0.b 0 rfl).c 2 rfl; have x3c := (T0.b 0 rfl).c 3 rfl; have x4c := (T0.b 0 rfl).c 4 rfl; have x5c := (T0.b 0 rfl).c 5 rfl; have x6c := (T0.b 0 rfl).c 6 rfl; have x7c := (T0.b 0 rfl).c 7 rfl; have y0c := (T0.b 1 rfl).c 0 rfl; have y1c := (T0.b 1 rfl).c 1 rfl; have y2c := (T0.b 1 rfl).c 2 rfl; have y3c := (T0.b 1 rfl).c 3 rfl; have y4c := (T0.b 1 rfl).c 4 rfl; have y5c := (T0.b 1 rfl).c 5 rfl; have y6c := (T0.b 1 rfl).c 6 rfl; have y7c := (T0.b 1 rfl).c 7 rfl; simp only [Nat.add_zero] at x0c x1c x2c x3c x4c x5c x6c x7c
      go_wp2_with fail
      refine (PL _).mono ?_
      rintro e w3 ⟨m0, m1, m2, m3, m4, m5, m6, m7, n0, n1, n2, n3, n4, n5, n6, n7, rfl, wm, wn, hm, hn, hB⟩
      replace T0 := T0.step hB; replace R0 := R0.step hB
      clear hB PL x0c x1c x2c x3c x4c x5c x6c x7c y0c y1c y2c y3c y4c y5c y6c y7c
      have LW := lowest_any m0 m1 m2 m3 m4 m5 m6 m7 n0 n1 n2 n3 n4 n5 n6 n7 wm wn (by rw [hm]; omega) (by rw [hn]; omega)
      rw [hm, hn, hz] at LW
      clear hm hn hz wm wn hra hrb p1 p2 p3 p4
      go_wp2_with fail
      refine (LW _).mono ?_
      rintro e w4 ⟨rfl, hB⟩
      replace T0 := T0.step hB; replace R0 := R0.step hB
      clear hB LW
      have HB := T0.below
      have o0c := R0.c 0 rfl; have o0f := R0.f 0 rfl; have o1c := R0.c 1 rfl; have o1f := R0.f 1 rfl; have o2c := R0.c 2 rfl; have o2f := R0.f 2 rfl; have o3c := R0.c 3 rfl; have o3f := R0.f 3 rfl; have o4c := R0.c 4 rfl; have o4f := R0.f 4 rfl; have o5c := R0.c 5 rfl; have o5f := R0.f 5 rfl; have o6c := R0.c 6 rfl; have o6f := R0.f 6 rfl; have o7c := R0.c 7 rfl; have o7f := R0.f 7 rfl
      go_wp2
      refine bodyPost_ret (v := .tuple #[.agg #[.int .u64 z0, .int .u64 z1, .int .u64 z2, .int .u64 z3, .int .u64 z4, .int .u64 z5, .int .u64 z6, .int .u64 z7], .bool t]) (by simp [results, Try.results12, go_sem, o0c, o1c, o2c, o3c, o4c, o5c, o6c, o7c]) rfl ?_
      refine ⟨by rw [HV.out], ?_⟩
      repeat' (refine Below.setCell ?_ (by simp; try omega) _)
      exact HB
end Go.Proofs.Ytgeaklaocifhcaa

/- The floor of a fraction: the program's, the model's, and the law. -/
namespace Go.Proofs.Ytgeaklaocifhcaa
open Go.RowKit
/-- The floor as it is told. -/
def floorV (x y : Int) : Value := if rightB x y then tellV (x / y) else .tuple #[W4 0, .bool false]
theorem divV_floor {x y : Int} (h : rightB x y = true) : ∃ c3 c2 c1 c0 d3 d2 d1 d0 : Int, ∃ t : Bool, divV x y = .tuple #[.agg #[.int .u64 c3, .int .u64 c2, .int .u64 c1, .int .u64 c0], .agg #[.int .u64 d3, .int .u64 d2, .int .u64 d1, .int .u64 d0], .bool t] ∧ floorV x y = .tuple #[.agg #[.int .u64 c3, .int .u64 c2, .int .u64 c1, .int .u64 c0], .bool t] := by
  have hy : y ≠ 0 := by have := rightB_pos h; omega
  unfold divV floorV tellV
  rw [if_neg hy, h, if_pos rfl]
  split
  · exact ⟨_, _, _, _, _, _, _, _, _, rfl, rfl⟩
  · exact ⟨_, _, _, _, _, _, _, _, _, rfl, rfl⟩
theorem rf_args (a3 a2 a1 a0 b3 b2 b1 b0 : Int) (T T' : TypeId) (w : World) : ArgsB w ((w.alloc (.cells #[.int .u64 a3, .int .u64 a2, .int .u64 a1, .int .u64 a0, .int .u64 b3, .int .u64 b2, .int .u64 b1, .int .u64 b0] T)).alloc (.cells #[.int .u64 0, .int .u64 0, .int .u64 0, .int .u64 0] T')) [[.int .u64 a3, .int .u64 a2, .int .u64 a1, .int .u64 a0, .int .u64 b3, .int .u64 b2, .int .u64 b1, .int .u64 b0], [.int .u64 0, .int .u64 0, .int .u64 0, .int .u64 0]] := by
  refine ⟨((Below.refl _ _).alloc (Nat.le_refl _) _).alloc (by simp) _, fun j vs hj => ?_⟩
  match j, hj with
  | 0, hj => cases hj; exact (Blk.new w [.int .u64 a3, .int .u64 a2, .int .u64 a1, .int .u64 a0, .int .u64 b3, .int .u64 b2, .int .u64 b1, .int .u64 b0] T rfl).alloc _
  | 1, hj => cases hj; exact Blk.new (w.alloc (.cells #[.int .u64 a3, .int .u64 a2, .int .u64 a1, .int .u64 a0, .int .u64 b3, .int .u64 b2, .int .u64 b1, .int .u64 b0] T)) [.int .u64 0, .int .u64 0, .int .u64 0, .int .u64 0] T' (by simp)
  | j + 2, hj => simp at hj
set_option maxRecDepth 100000 in
set_option maxHeartbeats 1000000 in
theorem implRatioFloor_any (a3 a2 a1 a0 b3 b2 b1 b0 : Int) (ha3 : Word a3) (ha2 : Word a2) (ha1 : Word a1) (ha0 : Word a0) (hb3 : Word b3) (hb2 : Word b2) (hb1 : Word b1) (hb0 : Word b0) (w : World) : Calls Try.prog 18 #[Rt a3 a2 a1 a0 b3 b2 b1 b0] w (VP (floorV (sw a3 a2 a1 a0) (sw b3 b2 b1 b0)) w) := by
  have T0 := rf_args a3 a2 a1 a0 b3 b2 b1 b0 28 26 w
  have RA := right_any a3 a2 a1 a0 b3 b2 b1 b0 ha3 ha2 ha1 ha0 hb3 hb2 hb1 hb0
  have DV := implDiv_any a3 a2 a1 a0 b3 b2 b1 b0 ha3 ha2 ha1 ha0 hb3 hb2 hb1 hb0
  obtain ⟨ra, hra⟩ : ∃ b, rightB (sw a3 a2 a1 a0) (sw b3 b2 b1 b0) = b := ⟨_, rfl⟩
  rw [hra] at RA
  go_enter Try.func18, Try.ntmps18
  go_wp2_with fail
  generalize ((w.alloc (.cells #[.int .u64 a3, .int .u64 a2, .int .u64 a1, .int .u64 a0, .int .u64 b3, .int .u64 b2, .int .u64 b1, .int .u64 b0] 28)).alloc (.cells #[.int .u64 0, .int .u64 0, .int .u64 0, .int .u64 0] 26)) = W at *
  refine (RA _).mono ?_
  rintro e w1 ⟨rfl, hB⟩
  replace T0 := T0.step hB
  clear hB RA
  cases ra
  · have HV : Hid (floorV (sw a3 a2 a1 a0) (sw b3 b2 b1 b0) = .tuple #[W4 0, .bool false]) := by show _ = _; unfold floorV; rw [hra]; rfl
    have HB := T0.below
    have o0c := (T0.b 1 rfl).c 0 rfl; have o0f := (T0.b 1 rfl).f 0 rfl; have o1c := (T0.b 1 rfl).c 1 rfl; have o1f := (T0.b 1 rfl).f 1 rfl; have o2c := (T0.b 1 rfl).c 2 rfl; have o2f := (T0.b 1 rfl).f 2 rfl; have o3c := (T0.b 1 rfl).c 3 rfl; have o3f := (T0.b 1 rfl).f 3 rfl
    clear DV
    go_wp2
    refine bodyPost_ret (v := .tuple #[.agg #[.int .u64 0, .int .u64 0, .int .u64 0, .int .u64 0], .bool false]) (by simp [results, Try.results18, go_sem, o0c, o1c, o2c, o3c]) rfl ?_
    refine ⟨by rw [HV.out, W40], ?_⟩
    repeat' (refine Below.setCell ?_ (by simp; try omega) _)
    exact HB
  · obtain ⟨c3, c2, c1, c0, d3, d2, d1, d0, t, hD, hF⟩ := divV_floor hra
    have HV : Hid (floorV (sw a3 a2 a1 a0) (sw b3 b2 b1 b0) = .tuple #[.agg #[.int .u64 c3, .int .u64 c2, .int .u64 c1, .int .u64 c0], .bool t]) := hF
    rw [hD] at DV
    clear hD hF hra
    have x0c := (T0.b 0 rfl).c 0 rfl; have x1c := (T0.b 0 rfl).c 1 rfl; have x2c := (T0.b 0 rfl).c 2 rfl; have x3c := (T0.b 0 rfl).c 3 rfl; have x4c := (T0.b 0 rfl).c 4 rfl; have x5c := (T0.b 0 rfl).c 5 rfl; have x6c := (T0.b 0 rfl).c 6 rfl; have x7c := (T0.b 0 rfl).c 7 rfl
    simp only [Nat.add_zero] at x0c x1c x2c x3c x4c x5c x6c x7c
    go_wp2_with fail
    refine (DV _).mono ?_
    rintro e w2 ⟨rfl, hB⟩
    replace T0 := T0.step hB
    clear hB DV x0c x1c x2c x3c x4c x5c x6c x7c
    have hl := (T0.b 1 rfl).lt
    go_upto_region 4 with fail
    have G0 := (Blk.new w2 [.int .u64 c3, .int .u64 c2, .int .u64 c1, .int .u64 c0] 26 rfl).alloc (.cells #[.int .u64 d3, .int .u64 d2, .int .u64 d1, .int .u64 d0] 26)
    replace T0 := (T0.alloc (.cells #[.int .u64 c3, .int .u64 c2, .int .u64 c1, .int .u64 c0] 26)).alloc (.cells #[.int .u64 d3, .int .u64 d2, .int .u64 d1, .int .u64 d0] 26)
    generalize (w2.alloc (.cells #[.int .u64 c3, .int .u64 c2, .int .u64 c1, .int .u64 c0] 26)).alloc (.cells #[.int .u64 d3, .int .u64 d2, .int .u64 d1, .int .u64 d0] 26) = W2 at *
    generalize w2.heap.size = g2 at *
    have HB := T0.below
    have g0c := G0.c 0 rfl; have g1c := G0.c 1 rfl; have g2c := G0.c 2 rfl; have g3c := G0.c 3 rfl
    have o0c := (T0.b 1 rfl).c 0 rfl; have o0f := (T0.b 1 rfl).f 0 rfl; have o1c := (T0.b 1 rfl).c 1 rfl; have o1f := (T0.b 1 rfl).f 1 rfl; have o2c := (T0.b 1 rfl).c 2 rfl; have o2f := (T0.b 1 rfl).f 2 rfl; have o3c := (T0.b 1 rfl).c 3 rfl; have o3f := (T0.b 1 rfl).f 3 rfl
    go_wp2
    refine bodyPost_ret (v := .tuple #[.agg #[.int .u64 c3, .int .u64 c2, .int .u64 c1, .int .u64 c0], .bool t]) (by simp [results, Try.results18, go_sem, o0c, o1c, o2c, o3c]) rfl ?_
    refine ⟨by rw [HV.out], ?_⟩
    repeat' (refine Below.setCell ?_ (by simp; try omega) _)
    exact HB
end Go.Proofs.Ytgeaklaocifhcaa

/- A spot as a point: the walks of the model's numbers. -/
namespace Go.Proofs.Ytgeaklaocifhcaa
open Go.RowKit
theorem implOf_det (n : Int) (w : World) (h0 : -9223372036854775808 ≤ n) (h1 : n ≤ 9223372036854775807) : Calls Try.prog 17 #[.int .i64 n] w (VP (W4 n) w) := by
  refine (implOf_any n w h0 h1).mono ?_
  rintro e w' ⟨a3, a2, a1, a0, rfl, g3, g2, g1, g0, hs, hB⟩
  obtain ⟨rfl, rfl, rfl, rfl⟩ := wd_of g3 g2 g1 g0 hs
  exact ⟨rfl, hB⟩
end Go.Proofs.Ytgeaklaocifhcaa

/- A spot as a point: the walks of the model's point of numbers. -/
namespace Go.Proofs.Ytgeaklaocifhcaa
open Go.RowKit
def small (z : Int) : Bool := decide ((z.natAbs : Int) < 1208925819614629174706176)
end Go.Proofs.Ytgeaklaocifhcaa

/- Numbers by their own words: what is answered is known ahead. -/
namespace Go.Proofs.Ytgeaklaocifhcaa
open Go.RowKit
/-- A number of 512 bits. -/
def LR (z : Int) : Prop := -6703903964971298549787012499102923063739682910296196688861780721860882015036773488400937149083451713845015929093243025426876941405973284973216824503042048 ≤ z ∧ z < 6703903964971298549787012499102923063739682910296196688861780721860882015036773488400937149083451713845015929093243025426876941405973284973216824503042048
theorem ww_words (z : Int) : Word (ww3 z) ∧ Word (ww2 z) ∧ Word (ww1 z) ∧ Word (ww0 z) := by
  have h : ∀ x : Int, Word (x % 18446744073709551616) := fun x => ⟨Int.emod_nonneg _ (by decide), Int.emod_lt_of_pos _ (by decide)⟩
  exact ⟨h _, h _, h _, h _⟩
theorem ww_sw {z : Int} (h : told z = true) : sw (ww3 z) (ww2 z) (ww1 z) (ww0 z) = z := by
  unfold told at h
  rw [decide_eq_true_iff] at h
  unfold sw uw ww3 ww2 ww1 ww0
  split <;> omega
theorem sign_det (x : Int) (hx : told x = true) (w : World) : Calls Try.prog 11 #[W4 x] w (VP (.int .i64 (cmpI x 0)) w) := by
  obtain ⟨p3, p2, p1, p0⟩ := ww_words x
  have h := implSign_any (ww3 x) (ww2 x) (ww1 x) (ww0 x) p3 p2 p1 p0 w
  rw [ww_sw hx] at h
  exact h
end Go.Proofs.Ytgeaklaocifhcaa

/- Fractions by their own numbers: the reckoning of sums, products, order and floor. -/
namespace Go.Proofs.Ytgeaklaocifhcaa
open Go.RowKit
abbrev RZ (n d : Int) : Value := .agg #[.int .u64 (ww3 n), .int .u64 (ww2 n), .int .u64 (ww1 n), .int .u64 (ww0 n), .int .u64 (ww3 d), .int .u64 (ww2 d), .int .u64 (ww1 d), .int .u64 (ww0 d)]
theorem rz0 : RZ 0 0 = .agg #[.int .u64 0, .int .u64 0, .int .u64 0, .int .u64 0, .int .u64 0, .int .u64 0, .int .u64 0, .int .u64 0] := by
  have h3 : ww3 0 = 0 := by decide
  have h2 : ww2 0 = 0 := by decide
  have h1 : ww1 0 = 0 := by decide
  have h0 : ww0 0 = 0 := by decide
  show Value.agg #[.int .u64 (ww3 0), .int .u64 (ww2 0), .int .u64 (ww1 0), .int .u64 (ww0 0), .int .u64 (ww3 0), .int .u64 (ww2 0), .int .u64 (ww1 0), .int .u64 (ww0 0)] = _
  rw [h3, h2, h1, h0]
theorem ratV_rz (n d : Int) : ∃ N D t, ratV n d = .tuple #[RZ N D, .bool t] ∧ told N = true ∧ told D = true ∧ (t = true → d ≠ 0 ∧ N = lowN n d ∧ D = lowD n d) := by
  unfold ratV
  split
  · rename_i h
    exact ⟨lowN n d, lowD n d, true, rfl, h.2.1, h.2.2, fun _ => ⟨h.1, rfl, rfl⟩⟩
  · exact ⟨0, 0, false, by rw [rz0], by decide, by decide, fun h => by cases h⟩
theorem rat2V_rz (x y u v n d : Int) : ∃ N D t, rat2V x y u v n d = .tuple #[RZ N D, .bool t] ∧ told N = true ∧ told D = true ∧ (t = true → rightB x y = true ∧ rightB u v = true ∧ d ≠ 0 ∧ N = lowN n d ∧ D = lowD n d) := by
  unfold rat2V
  split
  · rename_i hr
    obtain ⟨N, D, t, h, a, b, c⟩ := ratV_rz n d
    exact ⟨N, D, t, h, a, b, fun k => ⟨hr.1, hr.2, c k⟩⟩
  · exact ⟨0, 0, false, by rw [rz0], by decide, by decide, fun h => by cases h⟩
theorem negZ_scale {n k : Int} (hk : 0 < k) : n * k < 0 ↔ n < 0 := by
  constructor
  · intro h
    apply Decidable.byContradiction
    intro h'
    have := Int.mul_nonneg (a := n) (b := k) (by omega) (by omega)
    omega
  · intro h
    exact Int.mul_neg_of_neg_of_pos h hk
theorem shZ_scale {n g k : Int} {s : Bool} (hk : 0 < k) : shareZ (n * k) (g * k) s = shareZ n g s := by
  have ek : (k.natAbs : Int) = k := by omega
  have e : (((n * k).natAbs : Nat) : Int) / (g * k) = (n.natAbs : Int) / g := by
    rw [Int.natAbs_mul, Int.natCast_mul, ek]
    exact Int.mul_ediv_mul_of_pos_left _ _ hk
  unfold shareZ
  rw [e]
  simp only [negZ_scale hk]
theorem rz_scale {n d k : Int} (hk : 0 < k) : ratV (n * k) (d * k) = ratV n d := by
  have ek : (k.natAbs : Int) = k := by omega
  have eg : (Int.gcd (n * k) (d * k) : Int) = Int.gcd n d * k := by rw [Int.gcd_mul_right, Int.natCast_mul, ek]
  have h1 : lowN (n * k) (d * k) = lowN n d := by
    unfold lowN
    rw [eg, shZ_scale hk]
    simp only [negZ_scale hk]
  have h2 : lowD (n * k) (d * k) = lowD n d := by
    unfold lowD
    rw [eg, shZ_scale hk]
    simp only [negZ_scale hk]
  have h3 : d * k ≠ 0 ↔ d ≠ 0 := by
    constructor
    · intro h h'
      exact h (by rw [h']; simp)
    · intro h
      exact Int.mul_ne_zero h (by omega)
  unfold ratV
  simp only [h1, h2, h3]
theorem dec_neg {n : Int} (h : n ≠ 0) : decide (-n < 0) = !decide (n < 0) := by
  by_cases h' : n < 0
  · rw [decide_eq_false (by omega), decide_eq_true h']; rfl
  · rw [decide_eq_true (by omega), decide_eq_false h']; rfl
theorem shZ_neg {n g d : Int} (hd : d ≠ 0) : shareZ (-n) g (decide (-d < 0)) = shareZ n g (decide (d < 0)) := by
  unfold shareZ
  rw [Int.natAbs_neg, dec_neg hd]
  by_cases hn : n = 0
  · subst hn
    simp
  · rw [dec_neg hn]
    cases decide (n < 0) <;> cases decide (d < 0) <;> rfl
theorem rz_neg (n d : Int) : ratV (-n) (-d) = ratV n d := by
  by_cases hd : d = 0
  · subst hd
    unfold ratV
    rw [if_neg (by simp), if_neg (by simp)]
  · have eg : Int.gcd (-n) (-d) = Int.gcd n d := by unfold Int.gcd; rw [Int.natAbs_neg, Int.natAbs_neg]
    have h1 : lowN (-n) (-d) = lowN n d := by unfold lowN; rw [eg, shZ_neg hd]
    have h2 : lowD (-n) (-d) = lowD n d := by unfold lowD; rw [eg, shZ_neg hd]
    have h3 : -d ≠ 0 ↔ d ≠ 0 := by omega
    unfold ratV
    simp only [h1, h2, h3]
theorem rz_mul {n d k : Int} (hk : k ≠ 0) : ratV (n * k) (d * k) = ratV n d := by
  rcases Int.lt_or_lt_of_ne hk with h | h
  · rw [← rz_neg, ← Int.mul_neg, ← Int.mul_neg]
    exact rz_scale (by omega)
  · exact rz_scale h
theorem rz_same {n d n' d' k k' : Int} (hk : k ≠ 0) (hk' : k' ≠ 0) (hn : n * k = n' * k') (hd : d * k = d' * k') : ratV n d = ratV n' d' := by
  rw [← rz_mul (n := n) (d := d) hk, ← rz_mul (n := n') (d := d') hk', hn, hd]
theorem low_pts {n d : Int} (hd : 0 < d) : ∃ g, 0 < g ∧ n = lowN n d * g ∧ d = lowD n d * g ∧ rightB (lowN n d) (lowD n d) = true := by
  have g0 : 0 < Int.gcd n d := Int.gcd_pos_of_ne_zero_right _ (by omega)
  obtain ⟨e1, e2, -, -⟩ := low_make (x := n) (y := d) (X := n) (Y := d) (g := (Int.gcd n d : Int)) (by rw [if_neg (by omega)]) (by rw [if_neg (by omega)]) rfl (by omega)
  have hg : (0 : Int) < Int.gcd n d := by omega
  have m1 : n = lowN n d * (Int.gcd n d : Int) := by rw [← e1]; exact (Int.ediv_mul_cancel (Int.gcd_dvd_left _ _)).symm
  have m2 : d = lowD n d * (Int.gcd n d : Int) := by rw [← e2]; exact (Int.ediv_mul_cancel (Int.gcd_dvd_right _ _)).symm
  refine ⟨Int.gcd n d, hg, m1, m2, ?_⟩
  have p : 0 < lowD n d := by
    apply Decidable.byContradiction
    intro h
    have := Int.mul_nonneg (a := -lowD n d) (b := (Int.gcd n d : Int)) (by omega) (by omega)
    have e : -lowD n d * (Int.gcd n d : Int) = -(lowD n d * (Int.gcd n d : Int)) := by grind
    omega
  have q : Int.gcd (lowN n d) (lowD n d) = 1 := by
    have en : (((Int.gcd n d : Int).natAbs : Nat) : Int) = (Int.gcd n d : Int) := by omega
    have h : (Int.gcd (lowN n d * (Int.gcd n d : Int)) (lowD n d * (Int.gcd n d : Int)) : Int) = Int.gcd (lowN n d) (lowD n d) * (Int.gcd n d : Int) := by rw [Int.gcd_mul_right, Int.natCast_mul, en]
    rw [← m1, ← m2] at h
    have h2 : (Int.gcd (lowN n d) (lowD n d) : Int) * (Int.gcd n d : Int) = 1 * (Int.gcd n d : Int) := by omega
    have := Int.eq_of_mul_eq_mul_right (by omega) h2
    omega
  unfold rightB
  exact decide_eq_true ⟨p, q⟩
theorem right_of {x y : Int} (h : rightB x y = true) : 0 < y ∧ Int.gcd x y = 1 := by unfold rightB at h; exact of_decide_eq_true h
theorem right_neg {x y : Int} (h : rightB x y = true) : rightB (-x) y = true := by
  obtain ⟨h1, h2⟩ := right_of h
  unfold rightB
  refine decide_eq_true ⟨h1, ?_⟩
  unfold Int.gcd at h2 ⊢
  rw [Int.natAbs_neg]
  exact h2
theorem ratV_right {x y : Int} (h : rightB x y = true) (tx : told x = true) (ty : told y = true) : ratV x y = .tuple #[RZ x y, .bool true] := by
  obtain ⟨h1, h2⟩ := right_of h
  have e1 : lowN x y = x := by
    unfold lowN shareZ
    rw [h2, decide_eq_false (show ¬ y < 0 by omega)]
    by_cases hx : x < 0
    · rw [decide_eq_true hx, if_pos (by rfl)]; simp; omega
    · rw [decide_eq_false hx, if_neg (by decide)]; simp; omega
  have e2 : lowD x y = y := by
    unfold lowD shareZ
    rw [h2, decide_eq_false (show ¬ y < 0 by omega), if_neg (by decide)]; simp; omega
  unfold ratV
  rw [e1, e2, if_pos ⟨by omega, tx, ty⟩]
theorem sum_comm (x y u v : Int) : rat2V u v x y (u * y + x * v) (v * y) = rat2V x y u v (x * v + u * y) (y * v) := by
  unfold rat2V
  rw [Int.add_comm, Int.mul_comm v y]
  simp only [and_comm]
theorem mul_comm2 (x y u v : Int) : rat2V u v x y (u * x) (v * y) = rat2V x y u v (x * u) (y * v) := by
  unfold rat2V
  rw [Int.mul_comm u x, Int.mul_comm v y]
  simp only [and_comm]
theorem sum_facts (x y u v : Int) (tx : told x = true) (ty : told y = true) : ∃ N D ok, rat2V x y u v (x * v + u * y) (y * v) = .tuple #[RZ N D, .bool ok] ∧ told N = true ∧ told D = true ∧ (ok = true → rat2V N D (-u) v (N * v + -u * D) (D * v) = .tuple #[RZ x y, .bool true]) := by
  obtain ⟨N, D, t, h, a, b, c⟩ := rat2V_rz x y u v (x * v + u * y) (y * v)
  refine ⟨N, D, t, h, a, b, fun ht => ?_⟩
  obtain ⟨r1, r2, -, rfl, rfl⟩ := c ht
  obtain ⟨y0, -⟩ := right_of r1
  obtain ⟨v0, -⟩ := right_of r2
  obtain ⟨g, hg, e1, e2, r3⟩ := low_pts (n := x * v + u * y) (d := y * v) (Int.mul_pos y0 v0)
  have vv := Int.mul_pos v0 v0
  generalize lowN (x * v + u * y) (y * v) = N at *
  generalize lowD (x * v + u * y) (y * v) = D at *
  unfold rat2V
  rw [if_pos ⟨r3, right_neg r2⟩, ← ratV_right r1 tx ty]
  refine rz_same (k := g) (k' := v * v) (by omega) (by omega) ?_ ?_
  · have : (N * v + -u * D) * g = (N * g) * v - u * (D * g) := by grind
    rw [this, ← e1, ← e2]; grind
  · have : D * v * g = (D * g) * v := by grind
    rw [this, ← e2]; grind
theorem mul_facts (x y u v : Int) (tx : told x = true) (ty : told y = true) : ∃ N D ok, rat2V x y u v (x * u) (y * v) = .tuple #[RZ N D, .bool ok] ∧ told N = true ∧ told D = true ∧ (ok = true → u ≠ 0 → rat2V N D u v (N * v) (u * D) = .tuple #[RZ x y, .bool true] ∧ rightB N D = true) := by
  obtain ⟨N, D, t, h, a, b, c⟩ := rat2V_rz x y u v (x * u) (y * v)
  refine ⟨N, D, t, h, a, b, fun ht hu => ?_⟩
  obtain ⟨r1, r2, -, rfl, rfl⟩ := c ht
  obtain ⟨y0, -⟩ := right_of r1
  obtain ⟨v0, -⟩ := right_of r2
  obtain ⟨g, hg, e1, e2, r3⟩ := low_pts (n := x * u) (d := y * v) (Int.mul_pos y0 v0)
  have uv := Int.mul_ne_zero hu (show v ≠ 0 by omega)
  generalize lowN (x * u) (y * v) = N at *
  generalize lowD (x * u) (y * v) = D at *
  refine ⟨?_, r3⟩
  unfold rat2V
  rw [if_pos ⟨r3, r2⟩, ← ratV_right r1 tx ty]
  refine rz_same (k := g) (k' := u * v) (by omega) uv ?_ ?_
  · have : N * v * g = (N * g) * v := by grind
    rw [this, ← e1]; grind
  · have : u * D * g = u * (D * g) := by grind
    rw [this, ← e2]; grind
theorem cmpI_flip (a b : Int) : cmpI b a = -cmpI a b := by
  unfold cmpI
  repeat' split
  all_goals omega
theorem cmpI_in (a b : Int) : cmpI a b = -1 ∨ cmpI a b = 0 ∨ cmpI a b = 1 := by
  unfold cmpI
  repeat' split
  all_goals omega
theorem cmpI_z {a b : Int} : cmpI a b = 0 ↔ a = b := by
  unfold cmpI
  repeat' split
  all_goals omega
theorem cmp_flip (x y u v : Int) : ratCmp u v x y = (-(ratCmp x y u v).1, (ratCmp x y u v).2) := by
  unfold ratCmp
  rw [Bool.and_comm]
  split
  · rw [cmpI_flip]
  · rfl
theorem cmp_in (x y u v : Int) : (ratCmp x y u v).1 = -1 ∨ (ratCmp x y u v).1 = 0 ∨ (ratCmp x y u v).1 = 1 := by
  unfold ratCmp
  split
  · exact cmpI_in _ _
  · exact Or.inr (Or.inl rfl)
theorem cmp_right {x y u v : Int} (h : (ratCmp x y u v).2 = true) : rightB x y = true ∧ rightB u v = true ∧ (ratCmp x y u v).1 = cmpI (x * v) (u * y) := by
  unfold ratCmp at h ⊢
  split at h
  · rename_i hr
    rw [if_pos hr]
    simp only [Bool.and_eq_true] at hr
    exact ⟨hr.1, hr.2, rfl⟩
  · cases h
theorem dvd2 {x y v d : Int} (hg : Int.gcd x y = 1) (h1 : d ∣ x * v) (h2 : d ∣ y * v) : d ∣ v := by
  have e1 : (Int.gcd (x * v) (y * v) : Int) = (v.natAbs : Int) := by rw [Int.gcd_mul_right, hg]; simp
  have d1 : d ∣ (Int.gcd (x * v) (y * v) : Int) := Int.dvd_coe_gcd h1 h2
  rw [e1] at d1
  exact Int.dvd_natAbs.1 d1
theorem right_same {x y u v : Int} (h : rightB x y = true) (h' : rightB u v = true) : x * v = u * y ↔ x = u ∧ y = v := by
  constructor
  · intro e
    obtain ⟨y0, g1⟩ := right_of h
    obtain ⟨v0, g2⟩ := right_of h'
    have d1 : y ∣ v := by
      have : y ∣ x * v := ⟨u, by rw [e, Int.mul_comm]⟩
      exact dvd2 g1 this (Int.dvd_mul_right _ _)
    have d2 : v ∣ y := by
      have : v ∣ u * y := ⟨x, by rw [← e, Int.mul_comm]⟩
      exact dvd2 g2 this (Int.dvd_mul_right _ _)
    have e1 := Int.le_of_dvd v0 d1
    have e2 := Int.le_of_dvd y0 d2
    have ey : y = v := by omega
    subst ey
    exact ⟨Int.eq_of_mul_eq_mul_right (by omega) e, rfl⟩
  · rintro ⟨rfl, rfl⟩
    rfl
theorem cmp_zero {x y u v : Int} (h : (ratCmp x y u v).2 = true) : (ratCmp x y u v).1 = 0 ↔ x = u ∧ y = v := by
  obtain ⟨h1, h2, h3⟩ := cmp_right h
  rw [h3, cmpI_z]
  exact right_same h1 h2
theorem right_one (x : Int) : rightB x 1 = true := by
  unfold rightB
  exact decide_eq_true ⟨by decide, by simp⟩
theorem floor_told {x y : Int} (h : rightB x y = true) (tx : told x = true) : told (x / y) = true := by
  obtain ⟨y0, -⟩ := right_of h
  unfold told at tx ⊢
  have tx' := of_decide_eq_true tx
  apply decide_eq_true
  by_cases hx : 0 ≤ x
  · have h1 := Int.ediv_nonneg hx (show 0 ≤ y by omega)
    have h2 := Int.ediv_le_self y hx
    omega
  · have h1 : x / y < 0 := Int.ediv_neg_of_neg_of_pos (by omega) y0
    have h2 : x ≤ x / y := by
      have e := Int.mul_ediv_add_emod x y
      have m0 := Int.emod_nonneg x (show y ≠ 0 by omega)
      have m1 := Int.emod_lt_of_pos x y0
      apply Decidable.byContradiction
      intro hc
      have := Int.mul_le_mul_of_nonneg_left (a := x / y) (b := x - 1) (c := y) (by omega) (by omega)
      have k1 := Int.mul_nonneg (a := y - 1) (b := -x) (by omega) (by omega)
      have k2 : (y - 1) * -x = x - y * x := by grind
      have k3 : y * (x - 1) = y * x - y := by grind
      omega
    omega
theorem floor_facts {x y : Int} (h : rightB x y = true) (tx : told x = true) : floorV x y = .tuple #[W4 (x / y), .bool true] ∧ (ratCmp (x / y) 1 x y).1 ≤ 0 ∧ (ratCmp (x / y + 1) 1 x y).1 = 1 := by
  obtain ⟨y0, -⟩ := right_of h
  have e := Int.mul_ediv_add_emod x y
  have m0 := Int.emod_nonneg x (show y ≠ 0 by omega)
  have m1 := Int.emod_lt_of_pos x y0
  refine ⟨?_, ?_, ?_⟩
  · unfold floorV tellV
    rw [if_pos h, if_pos (floor_told h tx)]
  · rw [ratCmp_yes (right_one _) h]
    have : x / y * y = y * (x / y) := Int.mul_comm _ _
    unfold cmpI
    repeat' split
    all_goals omega
  · rw [ratCmp_yes (right_one _) h]
    have : (x / y + 1) * y = y * (x / y) + y := by grind
    unfold cmpI
    repeat' split
    all_goals omega
theorem low_sign {n d : Int} (hd : 0 < d) : cmpI (lowN n d) 0 = cmpI n 0 := by
  obtain ⟨g, hg, e1, -, -⟩ := low_pts (n := n) hd
  generalize lowN n d = N at *
  subst e1
  have a := negZ_scale (n := N) hg
  have b := negZ_scale (n := -N) hg
  have c : -N * g = -(N * g) := by grind
  unfold cmpI
  repeat' split
  all_goals omega
theorem diff_facts (x y u v : Int) : ∃ N D ok, rat2V x y (-u) v (x * v + -u * y) (y * v) = .tuple #[RZ N D, .bool ok] ∧ told N = true ∧ told D = true ∧ (ok = true → cmpI N 0 = cmpI (x * v) (u * y)) := by
  obtain ⟨N, D, t, h, a, b, c⟩ := rat2V_rz x y (-u) v (x * v + -u * y) (y * v)
  refine ⟨N, D, t, h, a, b, fun ht => ?_⟩
  obtain ⟨r1, r2, -, rfl, rfl⟩ := c ht
  obtain ⟨y0, -⟩ := right_of r1
  obtain ⟨v0, -⟩ := right_of r2
  rw [low_sign (Int.mul_pos y0 v0), ← cmpI_sub (x * v) (u * y)]
  congr 1
  grind
end Go.Proofs.Ytgeaklaocifhcaa

/- Fractions in their order: the model's walks. -/
namespace Go.Proofs.Ytgeaklaocifhcaa
open Go.RowKit
theorem lc_cells {s1 s2 s3 s4 : Bool} {o1 o2 o3 o4 : Option Addr} {n1 n2 n3 n4 c1 c2 c3 c4 : Nat} {w W : World} (h : ArgsB w W [[.bool s1, .slice o1 n1 c1, .bool s2, .slice o2 n2 c2], [.bool s3, .slice o3 n3 c3, .bool s4, .slice o4 n4 c4]]) : (fun w' => w'.cell? ⟨w.heap.size, 0, none⟩ = some (.bool s1) ∧ w'.cell? ⟨w.heap.size, 1, none⟩ = some (.slice o1 n1 c1) ∧ w'.cell? ⟨w.heap.size, 2, none⟩ = some (.bool s2) ∧ w'.cell? ⟨w.heap.size, 3, none⟩ = some (.slice o2 n2 c2) ∧ w'.cell? ⟨w.heap.size + 1, 0, none⟩ = some (.bool s3) ∧ w'.cell? ⟨w.heap.size + 1, 1, none⟩ = some (.slice o3 n3 c3) ∧ w'.cell? ⟨w.heap.size + 1, 2, none⟩ = some (.bool s4) ∧ w'.cell? ⟨w.heap.size + 1, 3, none⟩ = some (.slice o4 n4 c4)) W :=
  ⟨(h.b 0 rfl).c 0 rfl, (h.b 0 rfl).c 1 rfl, (h.b 0 rfl).c 2 rfl, (h.b 0 rfl).c 3 rfl, (h.b 1 rfl).c 0 rfl, (h.b 1 rfl).c 1 rfl, (h.b 1 rfl).c 2 rfl, (h.b 1 rfl).c 3 rfl⟩
set_option maxRecDepth 100000 in
set_option maxHeartbeats 2000000 in
theorem l2Cmp_any (s1 : Bool) (o1 : Option Addr) (n1 c1 : Nat) (ds1 : List Int) (s2 : Bool) (o2 : Option Addr) (n2 c2 : Nat) (ds2 : List Int) (s3 : Bool) (o3 : Option Addr) (n3 c3 : Nat) (ds3 : List Int) (s4 : Bool) (o4 : Option Addr) (n4 c4 : Nat) (ds4 : List Int) (x y u v : Int) (w : World) (N1 : IsNum w s1 o1 n1 c1 ds1 x 8) (N2 : IsNum w s2 o2 n2 c2 ds2 y 8) (N3 : IsNum w s3 o3 n3 c3 ds3 u 8) (N4 : IsNum w s4 o4 n4 c4 ds4 v 8) :
    Calls Try.prog 37 #[.agg #[.bool s1, .slice o1 n1 c1, .bool s2, .slice o2 n2 c2], .agg #[.bool s3, .slice o3 n3 c3, .bool s4, .slice o4 n4 c4]] w (IntP (cmpI (x * v) (u * y)) w) := by
  have T0 : ArgsB w ((w.alloc (.cells #[.bool s1, .slice o1 n1 c1, .bool s2, .slice o2 n2 c2] 57)).alloc (.cells #[.bool s3, .slice o3 n3 c3, .bool s4, .slice o4 n4 c4] 57)) [[.bool s1, .slice o1 n1 c1, .bool s2, .slice o2 n2 c2], [.bool s3, .slice o3 n3 c3, .bool s4, .slice o4 n4 c4]] := by
    refine ⟨((Below.refl _ _).alloc (Nat.le_refl _) _).alloc (by simp) _, fun j vs hj => ?_⟩
    match j, hj with
    | 0, hj => cases hj; exact (Blk.new w [.bool s1, .slice o1 n1 c1, .bool s2, .slice o2 n2 c2] 57 rfl).alloc _
    | 1, hj => cases hj; exact Blk.new (w.alloc (.cells #[.bool s1, .slice o1 n1 c1, .bool s2, .slice o2 n2 c2] 57)) [.bool s3, .slice o3 n3 c3, .bool s4, .slice o4 n4 c4] 57 (by simp)
    | j + 2, hj => simp at hj
  replace N1 := N1.below T0.below
  replace N2 := N2.below T0.below
  replace N3 := N3.below T0.below
  replace N4 := N4.below T0.below
  replace N1 := N1.drew
  replace N2 := N2.drew
  replace N3 := N3.drew
  replace N4 := N4.drew
  replace T0 := T0.drew
  have tok1 : True := trivial
  go_enter Try.func37, Try.ntmps37
  go_wp2_with fail
  generalize ((w.alloc (.cells #[.bool s1, .slice o1 n1 c1, .bool s2, .slice o2 n2 c2] 57)).alloc (.cells #[.bool s3, .slice o3 n3 c3, .bool s4, .slice o4 n4 c4] 57)) = W at *
  go_region_held3 (fun w' => w'.cell? ⟨w.heap.size, 0, none⟩ = some (.bool s1) ∧ w'.cell? ⟨w.heap.size, 1, none⟩ = some (.slice o1 n1 c1) ∧ w'.cell? ⟨w.heap.size, 2, none⟩ = some (.bool s2) ∧ w'.cell? ⟨w.heap.size, 3, none⟩ = some (.slice o2 n2 c2) ∧ w'.cell? ⟨w.heap.size + 1, 0, none⟩ = some (.bool s3) ∧ w'.cell? ⟨w.heap.size + 1, 1, none⟩ = some (.slice o3 n3 c3) ∧ w'.cell? ⟨w.heap.size + 1, 2, none⟩ = some (.bool s4) ∧ w'.cell? ⟨w.heap.size + 1, 3, none⟩ = some (.slice o4 n4 c4)) (first | (with_reducible exact lc_cells T0) | (with_reducible exact lc_cells T0.drew))
    (first
      | (go_at_call 60; have _t := tok1; refine (mul_any s1 s4 o1 o4 n1 n4 c1 c4 8 ds1 ds4 _ _ _ N1 N4 (by omega)).mono ?_; rintro e w1 ⟨s5, o5, n5, c5, ds5, rfl, N5, hB⟩; (first | (have T1 : ArgsB w w1 [[.bool s1, .slice o1 n1 c1, .bool s2, .slice o2 n2 c2], [.bool s3, .slice o3 n3 c3, .bool s4, .slice o4 n4 c4]] := (by with_reducible exact T0.step hB); replace N2 := N2.below hB; replace N3 := N3.below hB) | (have T1 : ArgsB w w1 [[.bool s1, .slice o1 n1 c1, .bool s2, .slice o2 n2 c2], [.bool s3, .slice o3 n3 c3, .bool s4, .slice o4 n4 c4]] := (by with_reducible exact T0.drew.step hB); replace N2 := N2.drew.below hB; replace N3 := N3.drew.below hB)); clear T0; have T0 := T1; clear T1; clear hB tok1 _t N1 N4)
      | (go_at_call 60; refine (mul_any s3 s2 o3 o2 n3 n2 c3 c2 8 ds3 ds2 _ _ _ N3 N2 (by omega)).mono ?_; rintro e w2 ⟨s6, o6, n6, c6, ds6, rfl, N6, hB⟩; (first | (have T1 : ArgsB w w2 [[.bool s1, .slice o1 n1 c1, .bool s2, .slice o2 n2 c2], [.bool s3, .slice o3 n3 c3, .bool s4, .slice o4 n4 c4]] := (by with_reducible exact T0.step hB); replace N5 := N5.below hB) | (have T1 : ArgsB w w2 [[.bool s1, .slice o1 n1 c1, .bool s2, .slice o2 n2 c2], [.bool s3, .slice o3 n3 c3, .bool s4, .slice o4 n4 c4]] := (by with_reducible exact T0.drew.step hB); replace N5 := N5.drew.below hB)); clear T0; have T0 := T1; clear T1; clear hB N2 N3)
      | (go_at_call 54; refine (cmp_any s5 s6 o5 o6 n5 n6 c5 c6 (8 + 8) ds5 ds6 _ _ _ N5 N6 (by omega)).mono ?_; rintro e w3 ⟨rfl, hB⟩; (first | (have T1 : ArgsB w w3 [[.bool s1, .slice o1 n1 c1, .bool s2, .slice o2 n2 c2], [.bool s3, .slice o3 n3 c3, .bool s4, .slice o4 n4 c4]] := (by with_reducible exact T0.step hB)) | (have T1 : ArgsB w w3 [[.bool s1, .slice o1 n1 c1, .bool s2, .slice o2 n2 c2], [.bool s3, .slice o3 n3 c3, .bool s4, .slice o4 n4 c4]] := (by with_reducible exact T0.drew.step hB))); clear T0; have T0 := T1; clear T1; clear hB N5 N6))
  all_goals have HB := T0.below
  all_goals clear T0
  all_goals go_wp2
  all_goals go_ret
  all_goals exact ⟨by simp, by first | exact HB | exact HB.drew⟩
set_option maxRecDepth 100000 in
set_option maxHeartbeats 2000000 in
theorem specRatioCmp_any (a3 a2 a1 a0 b3 b2 b1 b0 c3 c2 c1 c0 d3 d2 d1 d0 : Int) (ha3 : Word a3) (ha2 : Word a2) (ha1 : Word a1) (ha0 : Word a0) (hb3 : Word b3) (hb2 : Word b2) (hb1 : Word b1) (hb0 : Word b0) (hc3 : Word c3) (hc2 : Word c2) (hc1 : Word c1) (hc0 : Word c0) (hd3 : Word d3) (hd2 : Word d2) (hd1 : Word d1) (hd0 : Word d0) (w : World) : Calls Try.prog 16 #[Rt a3 a2 a1 a0 b3 b2 b1 b0, Rt c3 c2 c1 c0 d3 d2 d1 d0] w (IntB (ratCmp (sw a3 a2 a1 a0) (sw b3 b2 b1 b0) (sw c3 c2 c1 c0) (sw d3 d2 d1 d0)) w) := by
  have T0 := rc_args a3 a2 a1 a0 b3 b2 b1 b0 c3 c2 c1 c0 d3 d2 d1 d0 28 w
  have RA := specRatioOk_any a3 a2 a1 a0 b3 b2 b1 b0 ha3 ha2 ha1 ha0 hb3 hb2 hb1 hb0
  have RB := specRatioOk_any c3 c2 c1 c0 d3 d2 d1 d0 hc3 hc2 hc1 hc0 hd3 hd2 hd1 hd0
  have O1 := l2Of_any a3 a2 a1 a0 b3 b2 b1 b0 ha3 ha2 ha1 ha0 hb3 hb2 hb1 hb0
  have O2 := l2Of_any c3 c2 c1 c0 d3 d2 d1 d0 hc3 hc2 hc1 hc0 hd3 hd2 hd1 hd0
  clear ha3 ha2 ha1 ha0 hb3 hb2 hb1 hb0 hc3 hc2 hc1 hc0 hd3 hd2 hd1 hd0
  generalize sw a3 a2 a1 a0 = x at *
  generalize sw b3 b2 b1 b0 = y at *
  generalize sw c3 c2 c1 c0 = u at *
  generalize sw d3 d2 d1 d0 = v at *
  obtain ⟨ra, hra⟩ : ∃ b, rightB x y = b := ⟨_, rfl⟩
  obtain ⟨rb, hrb⟩ : ∃ b, rightB u v = b := ⟨_, rfl⟩
  rw [hra] at RA
  rw [hrb] at RB
  have tok1 : True := trivial
  go_enter Try.func16, Try.ntmps16
  go_wp2_with fail
  generalize ((w.alloc (.cells #[.int .u64 a3, .int .u64 a2, .int .u64 a1, .int .u64 a0, .int .u64 b3, .int .u64 b2, .int .u64 b1, .int .u64 b0] 28)).alloc (.cells #[.int .u64 c3, .int .u64 c2, .int .u64 c1, .int .u64 c0, .int .u64 d3, .int .u64 d2, .int .u64 d1, .int .u64 d0] 28)) = W at *
  refine (RA _).mono ?_
  rintro e w1 ⟨rfl, hB⟩
  replace T0 := T0.step hB
  clear hB RA
  cases ra
  · have HR : Hid (ratCmp x y u v = (0, false)) := ratCmp_no1 hra
    have HB := T0.below
    clear T0 RB O1 O2
    go_wp2
    go_ret2
    exact ⟨by rw [HR.out]; simp, HB⟩
  · have x0 := (T0.b 0 rfl).c 0 rfl; have y0 := (T0.b 1 rfl).c 0 rfl; have x1 := (T0.b 0 rfl).c 1 rfl; have y1 := (T0.b 1 rfl).c 1 rfl; have x2 := (T0.b 0 rfl).c 2 rfl; have y2 := (T0.b 1 rfl).c 2 rfl; have x3 := (T0.b 0 rfl).c 3 rfl; have y3 := (T0.b 1 rfl).c 3 rfl; have x4 := (T0.b 0 rfl).c 4 rfl; have y4 := (T0.b 1 rfl).c 4 rfl; have x5 := (T0.b 0 rfl).c 5 rfl; have y5 := (T0.b 1 rfl).c 5 rfl; have x6 := (T0.b 0 rfl).c 6 rfl; have y6 := (T0.b 1 rfl).c 6 rfl; have x7 := (T0.b 0 rfl).c 7 rfl; have y7 := (T0.b 1 rfl).c 7 rfl
    go_wp2_with fail
    refine (RB _).mono ?_
    rintro e w2 ⟨rfl, hB⟩
    replace T0 := T0.step hB
    clear hB RB x0 y0 x1 y1 x2 y2 x3 y3 x4 y4 x5 y5 x6 y6 x7 y7
    cases rb
    · have HR : Hid (ratCmp x y u v = (0, false)) := ratCmp_no2 hrb
      have HB := T0.below
      clear T0 O1 O2
      go_wp2
      go_ret2
      exact ⟨by rw [HR.out]; simp, HB⟩
    · have HR : Hid (ratCmp x y u v = (cmpI (x * v) (u * y), true)) := ratCmp_yes hra hrb
      clear hra hrb
      go_upto_region 3 with fail
      go_region_held3 (fun w' => w'.cell? ⟨w.heap.size, 0, none⟩ = some (.int .u64 a3) ∧ w'.cell? ⟨w.heap.size, 1, none⟩ = some (.int .u64 a2) ∧ w'.cell? ⟨w.heap.size, 2, none⟩ = some (.int .u64 a1) ∧ w'.cell? ⟨w.heap.size, 3, none⟩ = some (.int .u64 a0) ∧ w'.cell? ⟨w.heap.size, 4, none⟩ = some (.int .u64 b3) ∧ w'.cell? ⟨w.heap.size, 5, none⟩ = some (.int .u64 b2) ∧ w'.cell? ⟨w.heap.size, 6, none⟩ = some (.int .u64 b1) ∧ w'.cell? ⟨w.heap.size, 7, none⟩ = some (.int .u64 b0) ∧ w'.cell? ⟨w.heap.size + 1, 0, none⟩ = some (.int .u64 c3) ∧ w'.cell? ⟨w.heap.size + 1, 1, none⟩ = some (.int .u64 c2) ∧ w'.cell? ⟨w.heap.size + 1, 2, none⟩ = some (.int .u64 c1) ∧ w'.cell? ⟨w.heap.size + 1, 3, none⟩ = some (.int .u64 c0) ∧ w'.cell? ⟨w.heap.size + 1, 4, none⟩ = some (.int .u64 d3) ∧ w'.cell? ⟨w.heap.size + 1, 5, none⟩ = some (.int .u64 d2) ∧ w'.cell? ⟨w.heap.size + 1, 6, none⟩ = some (.int .u64 d1) ∧ w'.cell? ⟨w.heap.size + 1, 7, none⟩ = some (.int .u64 d0)) (first | (with_reducible exact rc_cells T0) | (with_reducible exact rc_cells T0.drew))
        (first
          | (go_at_call 28; have _t := tok1; refine (O1 _).mono ?_; rintro e w3 ⟨s1, o1, n1, e1, ds1, s2, o2, n2, e2, ds2, rfl, N1, N2, hB⟩; (first | (have T1 : ArgsB w w3 [[.int .u64 a3, .int .u64 a2, .int .u64 a1, .int .u64 a0, .int .u64 b3, .int .u64 b2, .int .u64 b1, .int .u64 b0], [.int .u64 c3, .int .u64 c2, .int .u64 c1, .int .u64 c0, .int .u64 d3, .int .u64 d2, .int .u64 d1, .int .u64 d0]] := (by with_reducible exact T0.step hB)) | (have T1 : ArgsB w w3 [[.int .u64 a3, .int .u64 a2, .int .u64 a1, .int .u64 a0, .int .u64 b3, .int .u64 b2, .int .u64 b1, .int .u64 b0], [.int .u64 c3, .int .u64 c2, .int .u64 c1, .int .u64 c0, .int .u64 d3, .int .u64 d2, .int .u64 d1, .int .u64 d0]] := (by with_reducible exact T0.drew.step hB))); clear T0; have T0 := T1; clear T1; clear hB tok1 _t)
          | (go_at_call 28; refine (O2 _).mono ?_; rintro e w4 ⟨s3, o3, n3, e3, ds3, s4, o4, n4, e4, ds4, rfl, N3, N4, hB⟩; (first | (have T1 : ArgsB w w4 [[.int .u64 a3, .int .u64 a2, .int .u64 a1, .int .u64 a0, .int .u64 b3, .int .u64 b2, .int .u64 b1, .int .u64 b0], [.int .u64 c3, .int .u64 c2, .int .u64 c1, .int .u64 c0, .int .u64 d3, .int .u64 d2, .int .u64 d1, .int .u64 d0]] := (by with_reducible exact T0.step hB); replace N1 := N1.below hB; replace N2 := N2.below hB) | (have T1 : ArgsB w w4 [[.int .u64 a3, .int .u64 a2, .int .u64 a1, .int .u64 a0, .int .u64 b3, .int .u64 b2, .int .u64 b1, .int .u64 b0], [.int .u64 c3, .int .u64 c2, .int .u64 c1, .int .u64 c0, .int .u64 d3, .int .u64 d2, .int .u64 d1, .int .u64 d0]] := (by with_reducible exact T0.drew.step hB); replace N1 := N1.drew.below hB; replace N2 := N2.drew.below hB)); clear T0; have T0 := T1; clear T1; clear hB)
          | (go_at_call 37; refine (l2Cmp_any s1 o1 n1 e1 ds1 s2 o2 n2 e2 ds2 s3 o3 n3 e3 ds3 s4 o4 n4 e4 ds4 x y u v _ N1 N2 N3 N4).mono ?_; rintro e w5 ⟨rfl, hB⟩; (first | (have T1 : ArgsB w w5 [[.int .u64 a3, .int .u64 a2, .int .u64 a1, .int .u64 a0, .int .u64 b3, .int .u64 b2, .int .u64 b1, .int .u64 b0], [.int .u64 c3, .int .u64 c2, .int .u64 c1, .int .u64 c0, .int .u64 d3, .int .u64 d2, .int .u64 d1, .int .u64 d0]] := (by with_reducible exact T0.step hB)) | (have T1 : ArgsB w w5 [[.int .u64 a3, .int .u64 a2, .int .u64 a1, .int .u64 a0, .int .u64 b3, .int .u64 b2, .int .u64 b1, .int .u64 b0], [.int .u64 c3, .int .u64 c2, .int .u64 c1, .int .u64 c0, .int .u64 d3, .int .u64 d2, .int .u64 d1, .int .u64 d0]] := (by with_reducible exact T0.drew.step hB))); clear T0; have T0 := T1; clear T1; clear hB N1 N2 N3 N4))
      all_goals have HB := T0.below
      all_goals clear T0
      all_goals go_wp2
      all_goals go_ret2
      all_goals exact ⟨by rw [HR.out]; simp, by first | exact HB | exact HB.drew⟩
end Go.Proofs.Ytgeaklaocifhcaa

/- The model's sums and products of two fractions. -/
namespace Go.Proofs.Ytgeaklaocifhcaa
open Go.RowKit
theorem ln_args (s1 : Bool) (o1 : Option Addr) (n1 c1 : Nat) (s2 : Bool) (o2 : Option Addr) (n2 c2 : Nat) (s3 : Bool) (o3 : Option Addr) (n3 c3 : Nat) (s4 : Bool) (o4 : Option Addr) (n4 c4 : Nat) (w : World) : ArgsB w (((w.alloc (.cells #[.bool s1, .slice o1 n1 c1, .bool s2, .slice o2 n2 c2] 57)).alloc (.cells #[.bool s3, .slice o3 n3 c3, .bool s4, .slice o4 n4 c4] 57)).alloc (.cells #[.bool false, .slice none 0 0, .bool false, .slice none 0 0] 57)) [[.bool s1, .slice o1 n1 c1, .bool s2, .slice o2 n2 c2], [.bool s3, .slice o3 n3 c3, .bool s4, .slice o4 n4 c4]] := by
  refine ⟨(((Below.refl _ _).alloc (Nat.le_refl _) _).alloc (by simp) _).alloc (by simp; omega) _, fun j vs hj => ?_⟩
  match j, hj with
  | 0, hj => cases hj; exact ((Blk.new w [.bool s1, .slice o1 n1 c1, .bool s2, .slice o2 n2 c2] 57 rfl).alloc _).alloc _
  | 1, hj => cases hj; exact (Blk.new (w.alloc (.cells #[.bool s1, .slice o1 n1 c1, .bool s2, .slice o2 n2 c2] 57)) [.bool s3, .slice o3 n3 c3, .bool s4, .slice o4 n4 c4] 57 (by simp)).alloc _
  | j + 2, hj => simp at hj
set_option maxRecDepth 100000 in
set_option maxHeartbeats 2000000 in
theorem l2Add_any (s1 : Bool) (o1 : Option Addr) (n1 c1 : Nat) (d1 : List Int) (s2 : Bool) (o2 : Option Addr) (n2 c2 : Nat) (d2 : List Int) (s3 : Bool) (o3 : Option Addr) (n3 c3 : Nat) (d3 : List Int) (s4 : Bool) (o4 : Option Addr) (n4 c4 : Nat) (d4 : List Int) (x y u v : Int) (w : World) (N1 : IsNum w s1 o1 n1 c1 d1 x 8) (N2 : IsNum w s2 o2 n2 c2 d2 y 8) (N3 : IsNum w s3 o3 n3 c3 d3 u 8) (N4 : IsNum w s4 o4 n4 c4 d4 v 8) (hD : y * v ≠ 0) :
    Calls Try.prog 27 #[.agg #[.bool s1, .slice o1 n1 c1, .bool s2, .slice o2 n2 c2], .agg #[.bool s3, .slice o3 n3 c3, .bool s4, .slice o4 n4 c4]] w (NumsP 20 (lowN (x * v + u * y) (y * v)) (lowD (x * v + u * y) (y * v)) w) := by
  have T0 := ln_args s1 o1 n1 c1 s2 o2 n2 c2 s3 o3 n3 c3 s4 o4 n4 c4 w
  have R0 : Blk (((w.alloc (.cells #[.bool s1, .slice o1 n1 c1, .bool s2, .slice o2 n2 c2] 57)).alloc (.cells #[.bool s3, .slice o3 n3 c3, .bool s4, .slice o4 n4 c4] 57)).alloc (.cells #[.bool false, .slice none 0 0, .bool false, .slice none 0 0] 57)) (w.heap.size + 1 + 1) [.bool false, .slice none 0 0, .bool false, .slice none 0 0] := Blk.new _ [.bool false, .slice none 0 0, .bool false, .slice none 0 0] _ (by simp)
  replace N1 := N1.step T0.below; replace N2 := N2.step T0.below; replace N3 := N3.step T0.below; replace N4 := N4.step T0.below
  have tok1 : True := trivial
  have tok2 : True := trivial
  go_enter Try.func27, Try.ntmps27
  go_upto_region 1 with fail
  generalize (((w.alloc (.cells #[.bool s1, .slice o1 n1 c1, .bool s2, .slice o2 n2 c2] 57)).alloc (.cells #[.bool s3, .slice o3 n3 c3, .bool s4, .slice o4 n4 c4] 57)).alloc (.cells #[.bool false, .slice none 0 0, .bool false, .slice none 0 0] 57)) = W at *
  have hlw := (T0.b 1 rfl).lt
  replace N1 := N1.drew; replace N2 := N2.drew; replace N3 := N3.drew; replace N4 := N4.drew; replace R0 := R0.drew
  go_region_held3 (fun w' => w'.cell? ⟨w.heap.size, 0, none⟩ = some (.bool s1) ∧ w'.cell? ⟨w.heap.size, 1, none⟩ = some (.slice o1 n1 c1) ∧ w'.cell? ⟨w.heap.size, 2, none⟩ = some (.bool s2) ∧ w'.cell? ⟨w.heap.size, 3, none⟩ = some (.slice o2 n2 c2) ∧ w'.cell? ⟨w.heap.size + 1, 0, none⟩ = some (.bool s3) ∧ w'.cell? ⟨w.heap.size + 1, 1, none⟩ = some (.slice o3 n3 c3) ∧ w'.cell? ⟨w.heap.size + 1, 2, none⟩ = some (.bool s4) ∧ w'.cell? ⟨w.heap.size + 1, 3, none⟩ = some (.slice o4 n4 c4)) ((refine lc_cells ?_ <;> repeat (first | (with_reducible exact T0) | (with_reducible refine ArgsB.drew ?_) | (with_reducible refine ArgsB.set4g ?_ (by simp <;> omega) _ _ _ _))))
    (first
        | (go_at_call 60; have _t := tok1; refine (mul_any s1 s4 o1 o4 n1 n4 c1 c4 8 d1 d4 _ _ _ N1 N4 (by omega)).mono ?_; rintro e w1 ⟨s5, o5, n5, c5, d5, rfl, N5, hB⟩; (first | (have T1 : ArgsB w w1 [[.bool s1, .slice o1 n1 c1, .bool s2, .slice o2 n2 c2], [.bool s3, .slice o3 n3 c3, .bool s4, .slice o4 n4 c4]] := (by with_reducible exact T0.step hB)) | (have T1 : ArgsB w w1 [[.bool s1, .slice o1 n1 c1, .bool s2, .slice o2 n2 c2], [.bool s3, .slice o3 n3 c3, .bool s4, .slice o4 n4 c4]] := (by with_reducible exact T0.drew.step hB))); clear T0; have T0 := T1; clear T1; replace R0 := R0.step hB; replace N1 := N1.step hB; replace N2 := N2.step hB; replace N3 := N3.step hB; replace N4 := N4.step hB; clear hB tok1 _t)
        | (go_at_call 60; have _t := tok2; refine (mul_any s3 s2 o3 o2 n3 n2 c3 c2 8 d3 d2 _ _ _ N3 N2 (by omega)).mono ?_; rintro e w2 ⟨s6, o6, n6, c6, d6, rfl, N6, hB⟩; (first | (have T1 : ArgsB w w2 [[.bool s1, .slice o1 n1 c1, .bool s2, .slice o2 n2 c2], [.bool s3, .slice o3 n3 c3, .bool s4, .slice o4 n4 c4]] := (by with_reducible exact T0.step hB)) | (have T1 : ArgsB w w2 [[.bool s1, .slice o1 n1 c1, .bool s2, .slice o2 n2 c2], [.bool s3, .slice o3 n3 c3, .bool s4, .slice o4 n4 c4]] := (by with_reducible exact T0.drew.step hB))); clear T0; have T0 := T1; clear T1; replace R0 := R0.step hB; replace N1 := N1.step hB; replace N2 := N2.step hB; replace N3 := N3.step hB; replace N4 := N4.step hB; replace N5 := N5.step hB; clear hB tok2 _t)
        | (go_at_call 59; refine (add_any s5 s6 o5 o6 n5 n6 c5 c6 (8 + 8) d5 d6 _ _ _ N5 N6 (by omega)).mono ?_; rintro e w3 ⟨s7, o7, n7, c7, d7, rfl, N7, hB⟩; (first | (have T1 : ArgsB w w3 [[.bool s1, .slice o1 n1 c1, .bool s2, .slice o2 n2 c2], [.bool s3, .slice o3 n3 c3, .bool s4, .slice o4 n4 c4]] := (by with_reducible exact T0.step hB)) | (have T1 : ArgsB w w3 [[.bool s1, .slice o1 n1 c1, .bool s2, .slice o2 n2 c2], [.bool s3, .slice o3 n3 c3, .bool s4, .slice o4 n4 c4]] := (by with_reducible exact T0.drew.step hB))); clear T0; have T0 := T1; clear T1; replace R0 := R0.step hB; replace N1 := N1.step hB; replace N2 := N2.step hB; replace N3 := N3.step hB; replace N4 := N4.step hB; clear hB )
        | (go_at_call 60; refine (mul_any s2 s4 o2 o4 n2 n4 c2 c4 8 d2 d4 _ _ _ N2 N4 (by omega)).mono ?_; rintro e w4 ⟨s8, o8, n8, c8, d8, rfl, N8, hB⟩; (first | (have T1 : ArgsB w w4 [[.bool s1, .slice o1 n1 c1, .bool s2, .slice o2 n2 c2], [.bool s3, .slice o3 n3 c3, .bool s4, .slice o4 n4 c4]] := (by with_reducible exact T0.step hB)) | (have T1 : ArgsB w w4 [[.bool s1, .slice o1 n1 c1, .bool s2, .slice o2 n2 c2], [.bool s3, .slice o3 n3 c3, .bool s4, .slice o4 n4 c4]] := (by with_reducible exact T0.drew.step hB))); clear T0; have T0 := T1; clear T1; replace R0 := R0.step hB; replace N7 := N7.step hB; clear hB )
        | (go_at_call 58; refine (l2Make_any s7 o7 n7 c7 d7 s8 o8 n8 c8 d8 _ _ 17 (by omega) (by omega) _ N7 (num_more N8 (by omega)) hD).mono ?_; rintro e w5 ⟨s9, o9, n9, c9, d9, s10, o10, n10, c10, d10, rfl, N9, N10, hB⟩; (first | (have T1 : ArgsB w w5 [[.bool s1, .slice o1 n1 c1, .bool s2, .slice o2 n2 c2], [.bool s3, .slice o3 n3 c3, .bool s4, .slice o4 n4 c4]] := (by with_reducible exact T0.step hB)) | (have T1 : ArgsB w w5 [[.bool s1, .slice o1 n1 c1, .bool s2, .slice o2 n2 c2], [.bool s3, .slice o3 n3 c3, .bool s4, .slice o4 n4 c4]] := (by with_reducible exact T0.drew.step hB))); clear T0; have T0 := T1; clear T1; replace R0 := R0.step hB; clear hB ; have o0c := R0.c 0 rfl; have o0f := R0.f 0 rfl; have o1c := R0.c 1 rfl; have o1f := R0.f 1 rfl; have o2c := R0.c 2 rfl; have o2f := R0.f 2 rfl; have o3c := R0.c 3 rfl; have o3f := R0.f 3 rfl; have olt := R0.lt))
  all_goals have HB := T0.below
  all_goals have F := nums_ret (w := w) (R := w.heap.size + 1 + 1) (by omega) R0 N9 N10 HB
  all_goals clear T0 R0 N9 N10
  all_goals go_wp2
  all_goals refine bodyPost_ret (v := .agg #[.bool s9, .slice o9 n9 c9, .bool s10, .slice o10 n10 c10]) (by simp [results, Try.results27, go_sem, o0c, o1c, o2c, o3c]) rfl ?_
  all_goals first | exact F | exact F.drew
end Go.Proofs.Ytgeaklaocifhcaa

/- The model's word on sums of two fractions. -/
namespace Go.Proofs.Ytgeaklaocifhcaa
open Go.RowKit
set_option maxRecDepth 100000 in
set_option maxHeartbeats 2000000 in
theorem specRatioAdd_any (a3 a2 a1 a0 b3 b2 b1 b0 c3 c2 c1 c0 d3 d2 d1 d0 : Int) (ha3 : Word a3) (ha2 : Word a2) (ha1 : Word a1) (ha0 : Word a0) (hb3 : Word b3) (hb2 : Word b2) (hb1 : Word b1) (hb0 : Word b0) (hc3 : Word c3) (hc2 : Word c2) (hc1 : Word c1) (hc0 : Word c0) (hd3 : Word d3) (hd2 : Word d2) (hd1 : Word d1) (hd0 : Word d0) (w : World) : Calls Try.prog 8 #[Rt a3 a2 a1 a0 b3 b2 b1 b0, Rt c3 c2 c1 c0 d3 d2 d1 d0] w (VP (rat2V (sw a3 a2 a1 a0) (sw b3 b2 b1 b0) (sw c3 c2 c1 c0) (sw d3 d2 d1 d0) ((sw a3 a2 a1 a0) * (sw d3 d2 d1 d0) + (sw c3 c2 c1 c0) * (sw b3 b2 b1 b0)) ((sw b3 b2 b1 b0) * (sw d3 d2 d1 d0))) w) := by
  have T0 := rs_args a3 a2 a1 a0 b3 b2 b1 b0 c3 c2 c1 c0 d3 d2 d1 d0 28 [.int .u64 0, .int .u64 0, .int .u64 0, .int .u64 0, .int .u64 0, .int .u64 0, .int .u64 0, .int .u64 0] w
  have R0 : Blk (((w.alloc (.cells #[.int .u64 a3, .int .u64 a2, .int .u64 a1, .int .u64 a0, .int .u64 b3, .int .u64 b2, .int .u64 b1, .int .u64 b0] 28)).alloc (.cells #[.int .u64 c3, .int .u64 c2, .int .u64 c1, .int .u64 c0, .int .u64 d3, .int .u64 d2, .int .u64 d1, .int .u64 d0] 28)).alloc (.cells #[.int .u64 0, .int .u64 0, .int .u64 0, .int .u64 0, .int .u64 0, .int .u64 0, .int .u64 0, .int .u64 0] 28)) (w.heap.size + 1 + 1) [.int .u64 0, .int .u64 0, .int .u64 0, .int .u64 0, .int .u64 0, .int .u64 0, .int .u64 0, .int .u64 0] := Blk.new _ [.int .u64 0, .int .u64 0, .int .u64 0, .int .u64 0, .int .u64 0, .int .u64 0, .int .u64 0, .int .u64 0] _ (by simp)
  have RA := specRatioOk_any a3 a2 a1 a0 b3 b2 b1 b0 ha3 ha2 ha1 ha0 hb3 hb2 hb1 hb0
  have RB := specRatioOk_any c3 c2 c1 c0 d3 d2 d1 d0 hc3 hc2 hc1 hc0 hd3 hd2 hd1 hd0
  obtain ⟨ra, hra⟩ : ∃ b, rightB (sw a3 a2 a1 a0) (sw b3 b2 b1 b0) = b := ⟨_, rfl⟩
  obtain ⟨rb, hrb⟩ : ∃ b, rightB (sw c3 c2 c1 c0) (sw d3 d2 d1 d0) = b := ⟨_, rfl⟩
  rw [hra] at RA
  rw [hrb] at RB
  go_enter Try.func8, Try.ntmps8
  go_wp2_with fail
  generalize (((w.alloc (.cells #[.int .u64 a3, .int .u64 a2, .int .u64 a1, .int .u64 a0, .int .u64 b3, .int .u64 b2, .int .u64 b1, .int .u64 b0] 28)).alloc (.cells #[.int .u64 c3, .int .u64 c2, .int .u64 c1, .int .u64 c0, .int .u64 d3, .int .u64 d2, .int .u64 d1, .int .u64 d0] 28)).alloc (.cells #[.int .u64 0, .int .u64 0, .int .u64 0, .int .u64 0, .int .u64 0, .int .u64 0, .int .u64 0, .int .u64 0] 28)) = W at *
  refine (RA _).mono ?_
  rintro e w1 ⟨rfl, hB⟩
  replace T0 := T0.step hB; replace R0 := R0.step hB
  clear hB RA
  cases ra
  · have HV : Hid (rat2V (sw a3 a2 a1 a0) (sw b3 b2 b1 b0) (sw c3 c2 c1 c0) (sw d3 d2 d1 d0) ((sw a3 a2 a1 a0) * (sw d3 d2 d1 d0) + (sw c3 c2 c1 c0) * (sw b3 b2 b1 b0)) ((sw b3 b2 b1 b0) * (sw d3 d2 d1 d0)) = .tuple #[.agg #[.int .u64 0, .int .u64 0, .int .u64 0, .int .u64 0, .int .u64 0, .int .u64 0, .int .u64 0, .int .u64 0], .bool false]) := rat2V_no1 hra
    clear RB
    have HB := T0.below
    have o0c := R0.c 0 rfl; have o0f := R0.f 0 rfl; have o1c := R0.c 1 rfl; have o1f := R0.f 1 rfl; have o2c := R0.c 2 rfl; have o2f := R0.f 2 rfl; have o3c := R0.c 3 rfl; have o3f := R0.f 3 rfl; have o4c := R0.c 4 rfl; have o4f := R0.f 4 rfl; have o5c := R0.c 5 rfl; have o5f := R0.f 5 rfl; have o6c := R0.c 6 rfl; have o6f := R0.f 6 rfl; have o7c := R0.c 7 rfl; have o7f := R0.f 7 rfl
    go_wp2
    refine bodyPost_ret (v := .tuple #[.agg #[.int .u64 0, .int .u64 0, .int .u64 0, .int .u64 0, .int .u64 0, .int .u64 0, .int .u64 0, .int .u64 0], .bool false]) (by simp [results, Try.results8, go_sem, o0c, o1c, o2c, o3c, o4c, o5c, o6c, o7c]) rfl ?_
    refine ⟨by rw [HV.out], ?_⟩
    repeat' (refine Below.setCell ?_ (by simp; try omega) _)
    exact HB
  · have x0c := (T0.b 0 rfl).c 0 rfl; have x1c := (T0.b 0 rfl).c 1 rfl; have x2c := (T0.b 0 rfl).c 2 rfl; have x3c := (T0.b 0 rfl).c 3 rfl; have x4c := (T0.b 0 rfl).c 4 rfl; have x5c := (T0.b 0 rfl).c 5 rfl; have x6c := (T0.b 0 rfl).c 6 rfl; have x7c := (T0.b 0 rfl).c 7 rfl; have y0c := (T0.b 1 rfl).c 0 rfl; have y1c := (T0.b 1 rfl).c 1 rfl; have y2c := (T0.b 1 rfl).c 2 rfl; have y3c := (T0.b 1 rfl).c 3 rfl; have y4c := (T0.b 1 rfl).c 4 rfl; have y5c := (T0.b 1 rfl).c 5 rfl; have y6c := (T0.b 1 rfl).c 6 rfl; have y7c := (T0.b 1 rfl).c 7 rfl; simp only [Nat.add_zero] at x0c x1c x2c x3c x4c x5c x6c x7c
    go_wp2_with fail
    refine (RB _).mono ?_
    rintro e w2 ⟨rfl, hB⟩
    replace T0 := T0.step hB; replace R0 := R0.step hB
    clear hB RB x0c x1c x2c x3c x4c x5c x6c x7c y0c y1c y2c y3c y4c y5c y6c y7c
    cases rb
    · have HV : Hid (rat2V (sw a3 a2 a1 a0) (sw b3 b2 b1 b0) (sw c3 c2 c1 c0) (sw d3 d2 d1 d0) ((sw a3 a2 a1 a0) * (sw d3 d2 d1 d0) + (sw c3 c2 c1 c0) * (sw b3 b2 b1 b0)) ((sw b3 b2 b1 b0) * (sw d3 d2 d1 d0)) = .tuple #[.agg #[.int .u64 0, .int .u64 0, .int .u64 0, .int .u64 0, .int .u64 0, .int .u64 0, .int .u64 0, .int .u64 0], .bool false]) := rat2V_no2 hrb
      have HB := T0.below
      have o0c := R0.c 0 rfl; have o0f := R0.f 0 rfl; have o1c := R0.c 1 rfl; have o1f := R0.f 1 rfl; have o2c := R0.c 2 rfl; have o2f := R0.f 2 rfl; have o3c := R0.c 3 rfl; have o3f := R0.f 3 rfl; have o4c := R0.c 4 rfl; have o4f := R0.f 4 rfl; have o5c := R0.c 5 rfl; have o5f := R0.f 5 rfl; have o6c := R0.c 6 rfl; have o6f := R0.f 6 rfl; have o7c := R0.c 7 rfl; have o7f := R0.f 7 rfl
      go_wp2
      refine bodyPost_ret (v := .tuple #[.agg #[.int .u64 0, .int .u64 0, .int .u64 0, .int .u64 0, .int .u64 0, .int .u64 0, .int .u64 0, .int .u64 0], .bool false]) (by simp [results, Try.results8, go_sem, o0c, o1c, o2c, o3c, o4c, o5c, o6c, o7c]) rfl ?_
      refine ⟨by rw [HV.out], ?_⟩
      repeat' (refine Below.setCell ?_ (by simp; try omega) _)
      exact HB
    · have hD : ((sw b3 b2 b1 b0) * (sw d3 d2 d1 d0)) ≠ 0 := by
        have py := rightB_pos hra
        have pv := rightB_pos hrb
        have := Int.mul_pos py pv
        omega
      obtain ⟨z0, z1, z2, z3, z4, z5, z6, z7, t, hz⟩ := rtV_ex (lowN ((sw a3 a2 a1 a0) * (sw d3 d2 d1 d0) + (sw c3 c2 c1 c0) * (sw b3 b2 b1 b0)) ((sw b3 b2 b1 b0) * (sw d3 d2 d1 d0))) (lowD ((sw a3 a2 a1 a0) * (sw d3 d2 d1 d0) + (sw c3 c2 c1 c0) * (sw b3 b2 b1 b0)) ((sw b3 b2 b1 b0) * (sw d3 d2 d1 d0)))
      have HV : Hid (rat2V (sw a3 a2 a1 a0) (sw b3 b2 b1 b0) (sw c3 c2 c1 c0) (sw d3 d2 d1 d0) ((sw a3 a2 a1 a0) * (sw d3 d2 d1 d0) + (sw c3 c2 c1 c0) * (sw b3 b2 b1 b0)) ((sw b3 b2 b1 b0) * (sw d3 d2 d1 d0)) = .tuple #[.agg #[.int .u64 z0, .int .u64 z1, .int .u64 z2, .int .u64 z3, .int .u64 z4, .int .u64 z5, .int .u64 z6, .int .u64 z7], .bool t]) := (rat2V_yes hra hrb).trans ((ratV_rt hD).trans hz)
      have LA := l2Of_any a3 a2 a1 a0 b3 b2 b1 b0 ha3 ha2 ha1 ha0 hb3 hb2 hb1 hb0
      have LB := l2Of_any c3 c2 c1 c0 d3 d2 d1 d0 hc3 hc2 hc1 hc0 hd3 hd2 hd1 hd0
      have tok1 : True := trivial
      clear hra hrb
      go_upto_region 3 with fail
      have hlw := (T0.b 1 rfl).lt
      have hlr := R0.lt
      go_region_held3 (fun w' => w'.cell? ⟨w.heap.size, 0, none⟩ = some (.int .u64 a3) ∧ w'.cell? ⟨w.heap.size, 1, none⟩ = some (.int .u64 a2) ∧ w'.cell? ⟨w.heap.size, 2, none⟩ = some (.int .u64 a1) ∧ w'.cell? ⟨w.heap.size, 3, none⟩ = some (.int .u64 a0) ∧ w'.cell? ⟨w.heap.size, 4, none⟩ = some (.int .u64 b3) ∧ w'.cell? ⟨w.heap.size, 5, none⟩ = some (.int .u64 b2) ∧ w'.cell? ⟨w.heap.size, 6, none⟩ = some (.int .u64 b1) ∧ w'.cell? ⟨w.heap.size, 7, none⟩ = some (.int .u64 b0) ∧ w'.cell? ⟨w.heap.size + 1, 0, none⟩ = some (.int .u64 c3) ∧ w'.cell? ⟨w.heap.size + 1, 1, none⟩ = some (.int .u64 c2) ∧ w'.cell? ⟨w.heap.size + 1, 2, none⟩ = some (.int .u64 c1) ∧ w'.cell? ⟨w.heap.size + 1, 3, none⟩ = some (.int .u64 c0) ∧ w'.cell? ⟨w.heap.size + 1, 4, none⟩ = some (.int .u64 d3) ∧ w'.cell? ⟨w.heap.size + 1, 5, none⟩ = some (.int .u64 d2) ∧ w'.cell? ⟨w.heap.size + 1, 6, none⟩ = some (.int .u64 d1) ∧ w'.cell? ⟨w.heap.size + 1, 7, none⟩ = some (.int .u64 d0)) ((refine rc_cells ?_ <;> repeat (first | (with_reducible exact T0) | (with_reducible refine ArgsB.drew ?_) | (with_reducible refine ArgsB.set8g ?_ (by simp <;> omega) _ _ _ _ _ _ _ _))))
        (first
          | (go_at_call 28; have _t := tok1; refine (LA _).mono ?_; rintro e w3 ⟨p1s, p1o, p1n, p1c, p1d, p2s, p2o, p2n, p2c, p2d, rfl, N1, N2, hB⟩; (first | (have T1 : ArgsB w w3 [[.int .u64 a3, .int .u64 a2, .int .u64 a1, .int .u64 a0, .int .u64 b3, .int .u64 b2, .int .u64 b1, .int .u64 b0], [.int .u64 c3, .int .u64 c2, .int .u64 c1, .int .u64 c0, .int .u64 d3, .int .u64 d2, .int .u64 d1, .int .u64 d0]] := (by with_reducible exact T0.step hB); have tltw3 := (T0.b 1 rfl).lt; have lR0w3 := R0.lt; replace R0 := R0.step hB; skip) | (have T1 : ArgsB w w3 [[.int .u64 a3, .int .u64 a2, .int .u64 a1, .int .u64 a0, .int .u64 b3, .int .u64 b2, .int .u64 b1, .int .u64 b0], [.int .u64 c3, .int .u64 c2, .int .u64 c1, .int .u64 c0, .int .u64 d3, .int .u64 d2, .int .u64 d1, .int .u64 d0]] := (by with_reducible exact T0.drew.step hB); have tltw3 := (T0.b 1 rfl).lt; have lR0w3 := R0.lt; replace R0 := R0.drew.step hB; skip)); clear T0; have T0 := T1; clear T1; clear hB tok1 _t)
          | (go_at_call 28; refine (LB _).mono ?_; rintro e w4 ⟨p3s, p3o, p3n, p3c, p3d, p4s, p4o, p4n, p4c, p4d, rfl, N3, N4, hB⟩; (first | (have T1 : ArgsB w w4 [[.int .u64 a3, .int .u64 a2, .int .u64 a1, .int .u64 a0, .int .u64 b3, .int .u64 b2, .int .u64 b1, .int .u64 b0], [.int .u64 c3, .int .u64 c2, .int .u64 c1, .int .u64 c0, .int .u64 d3, .int .u64 d2, .int .u64 d1, .int .u64 d0]] := (by with_reducible exact T0.step hB); have tltw4 := (T0.b 1 rfl).lt; have lR0w4 := R0.lt; replace R0 := R0.step hB; skip) | (have T1 : ArgsB w w4 [[.int .u64 a3, .int .u64 a2, .int .u64 a1, .int .u64 a0, .int .u64 b3, .int .u64 b2, .int .u64 b1, .int .u64 b0], [.int .u64 c3, .int .u64 c2, .int .u64 c1, .int .u64 c0, .int .u64 d3, .int .u64 d2, .int .u64 d1, .int .u64 d0]] := (by with_reducible exact T0.drew.step hB); have tltw4 := (T0.b 1 rfl).lt; have lR0w4 := R0.lt; replace R0 := R0.drew.step hB; skip)); clear T0; have T0 := T1; clear T1; replace N1 := N1.step hB; replace N2 := N2.step hB; clear hB)
          | (go_at_call 27; refine (l2Add_any p1s p1o p1n p1c p1d p2s p2o p2n p2c p2d p3s p3o p3n p3c p3d p4s p4o p4n p4c p4d _ _ _ _ _ N1 N2 N3 N4 hD).mono ?_; rintro e w5 ⟨p5s, p5o, p5n, p5c, p5d, p6s, p6o, p6n, p6c, p6d, rfl, N5, N6, hB⟩; (first | (have T1 : ArgsB w w5 [[.int .u64 a3, .int .u64 a2, .int .u64 a1, .int .u64 a0, .int .u64 b3, .int .u64 b2, .int .u64 b1, .int .u64 b0], [.int .u64 c3, .int .u64 c2, .int .u64 c1, .int .u64 c0, .int .u64 d3, .int .u64 d2, .int .u64 d1, .int .u64 d0]] := (by with_reducible exact T0.step hB); have tltw5 := (T0.b 1 rfl).lt; have lR0w5 := R0.lt; replace R0 := R0.step hB; skip) | (have T1 : ArgsB w w5 [[.int .u64 a3, .int .u64 a2, .int .u64 a1, .int .u64 a0, .int .u64 b3, .int .u64 b2, .int .u64 b1, .int .u64 b0], [.int .u64 c3, .int .u64 c2, .int .u64 c1, .int .u64 c0, .int .u64 d3, .int .u64 d2, .int .u64 d1, .int .u64 d0]] := (by with_reducible exact T0.drew.step hB); have tltw5 := (T0.b 1 rfl).lt; have lR0w5 := R0.lt; replace R0 := R0.drew.step hB; skip)); clear T0; have T0 := T1; clear T1; clear hB N1 N2 N3 N4)
          | (go_at_call 26; refine (l2Ratio_any p5s p5o p5n p5c p5d p6s p6o p6n p6c p6d _ _ _ (by omega) _ N5 N6).mono ?_; rw [hz]; rintro e w6 ⟨rfl, hB⟩; (first | (have T1 : ArgsB w w6 [[.int .u64 a3, .int .u64 a2, .int .u64 a1, .int .u64 a0, .int .u64 b3, .int .u64 b2, .int .u64 b1, .int .u64 b0], [.int .u64 c3, .int .u64 c2, .int .u64 c1, .int .u64 c0, .int .u64 d3, .int .u64 d2, .int .u64 d1, .int .u64 d0]] := (by with_reducible exact T0.step hB); have tltw6 := (T0.b 1 rfl).lt; have lR0w6 := R0.lt; replace R0 := R0.step hB; skip) | (have T1 : ArgsB w w6 [[.int .u64 a3, .int .u64 a2, .int .u64 a1, .int .u64 a0, .int .u64 b3, .int .u64 b2, .int .u64 b1, .int .u64 b0], [.int .u64 c3, .int .u64 c2, .int .u64 c1, .int .u64 c0, .int .u64 d3, .int .u64 d2, .int .u64 d1, .int .u64 d0]] := (by with_reducible exact T0.drew.step hB); have tltw6 := (T0.b 1 rfl).lt; have lR0w6 := R0.lt; replace R0 := R0.drew.step hB; skip)); clear T0; have T0 := T1; clear T1; have o0c := R0.c 0 rfl; have o0f := R0.f 0 rfl; have o1c := R0.c 1 rfl; have o1f := R0.f 1 rfl; have o2c := R0.c 2 rfl; have o2f := R0.f 2 rfl; have o3c := R0.c 3 rfl; have o3f := R0.f 3 rfl; have o4c := R0.c 4 rfl; have o4f := R0.f 4 rfl; have o5c := R0.c 5 rfl; have o5f := R0.f 5 rfl; have o6c := R0.c 6 rfl; have o6f := R0.f 6 rfl; have o7c := R0.c 7 rfl; have o7f := R0.f 7 rfl; have olt := R0.lt; clear hB N5 N6))
      all_goals have HB := T0.below
      all_goals clear T0
      all_goals go_wp2
      all_goals refine bodyPost_ret (v := .tuple #[.agg #[.int .u64 z0, .int .u64 z1, .int .u64 z2, .int .u64 z3, .int .u64 z4, .int .u64 z5, .int .u64 z6, .int .u64 z7], .bool t]) (by simp [results, Try.results8, go_sem, o0c, o1c, o2c, o3c, o4c, o5c, o6c, o7c]) rfl ?_
      all_goals refine ⟨by rw [HV.out], ?_⟩
      all_goals (try (with_reducible refine Below.drew ?_))
      all_goals repeat' (refine Below.setCell ?_ (by simp; try omega) _)
      all_goals exact HB
end Go.Proofs.Ytgeaklaocifhcaa
