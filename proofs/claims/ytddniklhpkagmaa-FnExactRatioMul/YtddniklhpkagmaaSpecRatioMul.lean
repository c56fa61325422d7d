/- The model's word on products of two fractions. -/
import Derived.Test.YtddniklhpkagmaaRatT
namespace Go.Proofs.Ytddniklhpkagmaa
open Go.RowKit
set_option maxRecDepth 100000 in
set_option maxHeartbeats 2000000 in
theorem specRatioMul_any (a3 a2 a1 a0 b3 b2 b1 b0 c3 c2 c1 c0 d3 d2 d1 d0 : Int) (ha3 : Word a3) (ha2 : Word a2) (ha1 : Word a1) (ha0 : Word a0) (hb3 : Word b3) (hb2 : Word b2) (hb1 : Word b1) (hb0 : Word b0) (hc3 : Word c3) (hc2 : Word c2) (hc1 : Word c1) (hc0 : Word c0) (hd3 : Word d3) (hd2 : Word d2) (hd1 : Word d1) (hd0 : Word d0) (w : World) : Calls Try.prog 37 #[Rt a3 a2 a1 a0 b3 b2 b1 b0, Rt c3 c2 c1 c0 d3 d2 d1 d0] w (VP (rat2V (sw a3 a2 a1 a0) (sw b3 b2 b1 b0) (sw c3 c2 c1 c0) (sw d3 d2 d1 d0) ((sw a3 a2 a1 a0) * (sw c3 c2 c1 c0)) ((sw b3 b2 b1 b0) * (sw d3 d2 d1 d0))) w) := by
  have T0 := rs_args a3 a2 a1 a0 b3 b2 b1 b0 c3 c2 c1 c0 d3 d2 d1 d0 41 [.int .u64 0, .int .u64 0, .int .u64 0, .int .u64 0, .int .u64 0, .int .u64 0, .int .u64 0, .int .u64 0] w
  have R0 : Blk (((w.alloc (.cells #[.int .u64 a3, .int .u64 a2, .int .u64 a1, .int .u64 a0, .int .u64 b3, .int .u64 b2, .int .u64 b1, .int .u64 b0] 41)).alloc (.cells #[.int .u64 c3, .int .u64 c2, .int .u64 c1, .int .u64 c0, .int .u64 d3, .int .u64 d2, .int .u64 d1, .int .u64 d0] 41)).alloc (.cells #[.int .u64 0, .int .u64 0, .int .u64 0, .int .u64 0, .int .u64 0, .int .u64 0, .int .u64 0, .int .u64 0] 41)) (w.heap.size + 1 + 1) [.int .u64 0, .int .u64 0, .int .u64 0, .int .u64 0, .int .u64 0, .int .u64 0, .int .u64 0, .int .u64 0] := Blk.new _ [.int .u64 0, .int .u64 0, .int .u64 0, .int .u64 0, .int .u64 0, .int .u64 0, .int .u64 0, .int .u64 0] _ (by simp)
  have RA := specRatioOk_any a3 a2 a1 a0 b3 b2 b1 b0 ha3 ha2 ha1 ha0 hb3 hb2 hb1 hb0
  have RB := specRatioOk_any c3 c2 c1 c0 d3 d2 d1 d0 hc3 hc2 hc1 hc0 hd3 hd2 hd1 hd0
  obtain ⟨ra, hra⟩ : ∃ b, rightB (sw a3 a2 a1 a0) (sw b3 b2 b1 b0) = b := ⟨_, rfl⟩
  obtain ⟨rb, hrb⟩ : ∃ b, rightB (sw c3 c2 c1 c0) (sw d3 d2 d1 d0) = b := ⟨_, rfl⟩
  rw [hra] at RA
  rw [hrb] at RB
  go_enter Try.func37, Try.ntmps37
  go_wp2_with fail
  generalize (((w.alloc (.cells #[.int .u64 a3, .int .u64 a2, .int .u64 a1, .int .u64 a0, .int .u64 b3, .int .u64 b2, .int .u64 b1, .int .u64 b0] 41)).alloc (.cells #[.int .u64 c3, .int .u64 c2, .int .u64 c1, .int .u64 c0, .int .u64 d3, .int .u64 d2, .int .u64 d1, .int .u64 d0] 41)).alloc (.cells #[.int .u64 0, .int .u64 0, .int .u64 0, .int .u64 0, .int .u64 0, .int .u64 0, .int .u64 0, .int .u64 0] 41)) = W at *
  refine (RA _).mono ?_
  rintro e w1 ⟨rfl, hB⟩
  replace T0 := T0.step hB; replace R0 := R0.step hB
  clear hB RA
  cases ra
  · have HV : Hid (rat2V (sw a3 a2 a1 a0) (sw b3 b2 b1 b0) (sw c3 c2 c1 c0) (sw d3 d2 d1 d0) ((sw a3 a2 a1 a0) * (sw c3 c2 c1 c0)) ((sw b3 b2 b1 b0) * (sw d3 d2 d1 d0)) = .tuple #[.agg #[.int .u64 0, .int .u64 0, .int .u64 0, .int .u64 0, .int .u64 0, .int .u64 0, .int .u64 0, .int .u64 0], .bool false]) := rat2V_no1 hra
    clear RB
    have HB := T0.below
    have o0c := R0.c 0 rfl; have o0f := R0.f 0 rfl; have o1c := R0.c 1 rfl; have o1f := R0.f 1 rfl; have o2c := R0.c 2 rfl; have o2f := R0.f 2 rfl; have o3c := R0.c 3 rfl; have o3f := R0.f 3 rfl; have o4c := R0.c 4 rfl; have o4f := R0.f 4 rfl; have o5c := R0.c 5 rfl; have o5f := R0.f 5 rfl; have o6c := R0.c 6 rfl; have o6f := R0.f 6 rfl; have o7c := R0.c 7 rfl; have o7f := R0.f 7 rfl
    go_wp2
    refine bodyPost_ret (v := .tuple #[.agg #[.int .u64 0, .int .u64 0, .int .u64 0, .int .u64 0, .int .u64 0, .int .u64 0, .int .u64 0, .int .u64 0], .bool false]) (by simp [results, Try.results37, go_sem, o0c, o1c, o2c, o3c, o4c, o5c, o6c, o7c]) rfl ?_
    refine ⟨by rw [HV.out], ?_⟩
    repeat' (refine Below.setCell ?_ (by simp; try omega) _)
    exact HB
  · have x0c := (T0.b 0 rfl).c 0 rfl; have x1c := (T0.b 0 rfl).c 1 rfl; have x2c := (T0.b 0 rfl).c 2 rfl; have x3c := (T0.b 0 rfl).c 3 rfl; have x4c := (T0.b 0 rfl).c 4 rfl; have x5c := (T0.b 0 rfl).c 5 rfl; have x6c := (T0.b 0 rfl).c 6 rfl; have x7c := (T0.b 0 rfl).c 7 rfl; have y0c := (T0.b 1 rfl).c 0 rfl; have y1c := (T0.b 1 rfl).c 1 rfl; have y2c := (T0.b 1 rfl).c 2 rfl; have y3c := (T0.b 1 rfl).c 3 rfl; have y4c := (T0.b 1 rfl).c 4 rfl; have y5c := (T0.b 1 rfl).c 5 rfl; have y6c := (T0.b 1 rfl).c 6 rfl; have y7c := (T0.b 1 rfl).c 7 rfl; simp only [Nat.add_zero] at x0c x1c x2c x3c x4c x5c x6c x7c
    go_wp2_with fail
    refine (RB _).mono ?_
    rintro e w2 ⟨rfl, hB⟩
    replace T0 := T0.step hB; replace R0 := R0.step hB
    clear hB RB x0c x1c x2c x3c x4c x5c x6c x7c y0c y1c y2c y3c y4c y5c y6c y7c
    cases rb
    · have HV : Hid (rat2V (sw a3 a2 a1 a0) (sw b3 b2 b1 b0) (sw c3 c2 c1 c0) (sw d3 d2 d1 d0) ((sw a3 a2 a1 a0) * (sw c3 c2 c1 c0)) ((sw b3 b2 b1 b0) * (sw d3 d2 d1 d0)) = .tuple #[.agg #[.int .u64 0, .int .u64 0, .int .u64 0, .int .u64 0, .int .u64 0, .int .u64 0, .int .u64 0, .int .u64 0], .bool false]) := rat2V_no2 hrb
      have HB := T0.below
      have o0c := R0.c 0 rfl; have o0f := R0.f 0 rfl; have o1c := R0.c 1 rfl; have o1f := R0.f 1 rfl; have o2c := R0.c 2 rfl; have o2f := R0.f 2 rfl; have o3c := R0.c 3 rfl; have o3f := R0.f 3 rfl; have o4c := R0.c 4 rfl; have o4f := R0.f 4 rfl; have o5c := R0.c 5 rfl; have o5f := R0.f 5 rfl; have o6c := R0.c 6 rfl; have o6f := R0.f 6 rfl; have o7c := R0.c 7 rfl; have o7f := R0.f 7 rfl
      go_wp2
      refine bodyPost_ret (v := .tuple #[.agg #[.int .u64 0, .int .u64 0, .int .u64 0, .int .u64 0, .int .u64 0, .int .u64 0, .int .u64 0, .int .u64 0], .bool false]) (by simp [results, Try.results37, go_sem, o0c, o1c, o2c, o3c, o4c, o5c, o6c, o7c]) rfl ?_
      refine ⟨by rw [HV.out], ?_⟩
      repeat' (refine Below.setCell ?_ (by simp; try omega) _)
      exact HB
    · have hD : ((sw b3 b2 b1 b0) * (sw d3 d2 d1 d0)) ≠ 0 := by
        have py := rightB_pos hra
        have pv := rightB_pos hrb
        have := Int.mul_pos py pv
        omega
      obtain ⟨z0, z1, z2, z3, z4, z5, z6, z7, t, hz⟩ := rtV_ex (lowN ((sw a3 a2 a1 a0) * (sw c3 c2 c1 c0)) ((sw b3 b2 b1 b0) * (sw d3 d2 d1 d0))) (lowD ((sw a3 a2 a1 a0) * (sw c3 c2 c1 c0)) ((sw b3 b2 b1 b0) * (sw d3 d2 d1 d0)))
      have HV : Hid (rat2V (sw a3 a2 a1 a0) (sw b3 b2 b1 b0) (sw c3 c2 c1 c0) (sw d3 d2 d1 d0) ((sw a3 a2 a1 a0) * (sw c3 c2 c1 c0)) ((sw b3 b2 b1 b0) * (sw d3 d2 d1 d0)) = .tuple #[.agg #[.int .u64 z0, .int .u64 z1, .int .u64 z2, .int .u64 z3, .int .u64 z4, .int .u64 z5, .int .u64 z6, .int .u64 z7], .bool t]) := (rat2V_yes hra hrb).trans ((ratV_rt hD).trans hz)
      have LA := l2Of_any a3 a2 a1 a0 b3 b2 b1 b0 ha3 ha2 ha1 ha0 hb3 hb2 hb1 hb0
      have LB := l2Of_any c3 c2 c1 c0 d3 d2 d1 d0 hc3 hc2 hc1 hc0 hd3 hd2 hd1 hd0
      have tok1 : True := trivial
      clear hra hrb
      go_upto_region 3 with fail
      have hlw := (T0.b 1 rfl).lt
      have hlr := R0.lt
      go_region_held3 (fun w' => w'.cell? ⟨w.heap.size, 0, none⟩ = some (.int .u64 a3) ∧ w'.cell? ⟨w.heap.size, 1, none⟩ = some (.int .u64 a2) ∧ w'.cell? ⟨w.heap.size, 2, none⟩ = some (.int .u64 a1) ∧ w'.cell? ⟨w.heap.size, 3, none⟩ = some (.int .u64 a0) ∧ w'.cell? ⟨w.heap.size, 4, none⟩ = some (.int .u64 b3) ∧ w'.cell? ⟨w.heap.size, 5, none⟩ = some (.int .u64 b2) ∧ w'.cell? ⟨w.heap.size, 6, none⟩ = some (.int .u64 b1) ∧ w'.cell? ⟨w.heap.size, 7, none⟩ = some (.int .u64 b0) ∧ w'.cell? ⟨w.heap.size + 1, 0, none⟩ = some (.int .u64 c3) ∧ w'.cell? ⟨w.heap.size + 1, 1, none⟩ = some (.int .u64 c2) ∧ w'.cell? ⟨w.heap.size + 1, 2, none⟩ = some (.int .u64 c1) ∧ w'.cell? ⟨w.heap.size + 1, 3, none⟩ = some (.int .u64 c0) ∧ w'.cell? ⟨w.heap.size + 1, 4, none⟩ = some (.int .u64 d3) ∧ w'.cell? ⟨w.heap.size + 1, 5, none⟩ = some (.int .u64 d2) ∧ w'.cell? ⟨w.heap.size + 1, 6, none⟩ = some (.int .u64 d1) ∧ w'.cell? ⟨w.heap.size + 1, 7, none⟩ = some (.int .u64 d0)) ((refine rc_cells ?_ <;> repeat (first | (with_reducible exact T0) | (with_reducible refine ArgsB.drew ?_) | (with_reducible refine ArgsB.set8g ?_ (by simp <;> omega) _ _ _ _ _ _ _ _))))
        (first
          | (go_at_call 71; have _t := tok1; refine (LA _).mono ?_; rintro e w3 ⟨p1s, p1o, p1n, p1c, p1d, p2s, p2o, p2n, p2c, p2d, rfl, N1, N2, hB⟩; (first | (have T1 : ArgsB w w3 [[.int .u64 a3, .int .u64 a2, .int .u64 a1, .int .u64 a0, .int .u64 b3, .int .u64 b2, .int .u64 b1, .int .u64 b0], [.int .u64 c3, .int .u64 c2, .int .u64 c1, .int .u64 c0, .int .u64 d3, .int .u64 d2, .int .u64 d1, .int .u64 d0]] := (by with_reducible exact T0.step hB); have tltw3 := (T0.b 1 rfl).lt; have lR0w3 := R0.lt; replace R0 := R0.step hB; skip) | (have T1 : ArgsB w w3 [[.int .u64 a3, .int .u64 a2, .int .u64 a1, .int .u64 a0, .int .u64 b3, .int .u64 b2, .int .u64 b1, .int .u64 b0], [.int .u64 c3, .int .u64 c2, .int .u64 c1, .int .u64 c0, .int .u64 d3, .int .u64 d2, .int .u64 d1, .int .u64 d0]] := (by with_reducible exact T0.drew.step hB); have tltw3 := (T0.b 1 rfl).lt; have lR0w3 := R0.lt; replace R0 := R0.drew.step hB; skip)); clear T0; have T0 := T1; clear T1; clear hB tok1 _t)
          | (go_at_call 71; refine (LB _).mono ?_; rintro e w4 ⟨p3s, p3o, p3n, p3c, p3d, p4s, p4o, p4n, p4c, p4d, rfl, N3, N4, hB⟩; (first | (have T1 : ArgsB w w4 [[.int .u64 a3, .int .u64 a2, .int .u64 a1, .int .u64 a0, .int .u64 b3, .int .u64 b2, .int .u64 b1, .int .u64 b0], [.int .u64 c3, .int .u64 c2, .int .u64 c1, .int .u64 c0, .int .u64 d3, .int .u64 d2, .int .u64 d1, .int .u64 d0]] := (by with_reducible exact T0.step hB); have tltw4 := (T0.b 1 rfl).lt; have lR0w4 := R0.lt; replace R0 := R0.step hB; skip) | (have T1 : ArgsB w w4 [[.int .u64 a3, .int .u64 a2, .int .u64 a1, .int .u64 a0, .int .u64 b3, .int .u64 b2, .int .u64 b1, .int .u64 b0], [.int .u64 c3, .int .u64 c2, .int .u64 c1, .int .u64 c0, .int .u64 d3, .int .u64 d2, .int .u64 d1, .int .u64 d0]] := (by with_reducible exact T0.drew.step hB); have tltw4 := (T0.b 1 rfl).lt; have lR0w4 := R0.lt; replace R0 := R0.drew.step hB; skip)); clear T0; have T0 := T1; clear T1; replace N1 := N1.step hB; replace N2 := N2.step hB; clear hB)
          | (go_at_call 81; refine (l2Mul_any p1s p1o p1n p1c p1d p2s p2o p2n p2c p2d p3s p3o p3n p3c p3d p4s p4o p4n p4c p4d _ _ _ _ _ N1 N2 N3 N4 hD).mono ?_; rintro e w5 ⟨p5s, p5o, p5n, p5c, p5d, p6s, p6o, p6n, p6c, p6d, rfl, N5, N6, hB⟩; (first | (have T1 : ArgsB w w5 [[.int .u64 a3, .int .u64 a2, .int .u64 a1, .int .u64 a0, .int .u64 b3, .int .u64 b2, .int .u64 b1, .int .u64 b0], [.int .u64 c3, .int .u64 c2, .int .u64 c1, .int .u64 c0, .int .u64 d3, .int .u64 d2, .int .u64 d1, .int .u64 d0]] := (by with_reducible exact T0.step hB); have tltw5 := (T0.b 1 rfl).lt; have lR0w5 := R0.lt; replace R0 := R0.step hB; skip) | (have T1 : ArgsB w w5 [[.int .u64 a3, .int .u64 a2, .int .u64 a1, .int .u64 a0, .int .u64 b3, .int .u64 b2, .int .u64 b1, .int .u64 b0], [.int .u64 c3, .int .u64 c2, .int .u64 c1, .int .u64 c0, .int .u64 d3, .int .u64 d2, .int .u64 d1, .int .u64 d0]] := (by with_reducible exact T0.drew.step hB); have tltw5 := (T0.b 1 rfl).lt; have lR0w5 := R0.lt; replace R0 := R0.drew.step hB; skip)); clear T0; have T0 := T1; clear T1; clear hB N1 N2 N3 N4)
          | (go_at_call 76; refine (l2Ratio_any p5s p5o p5n p5c p5d p6s p6o p6n p6c p6d _ _ _ (by omega) _ N5 N6).mono ?_; rw [hz]; rintro e w6 ⟨rfl, hB⟩; (first | (have T1 : ArgsB w w6 [[.int .u64 a3, .int .u64 a2, .int .u64 a1, .int .u64 a0, .int .u64 b3, .int .u64 b2, .int .u64 b1, .int .u64 b0], [.int .u64 c3, .int .u64 c2, .int .u64 c1, .int .u64 c0, .int .u64 d3, .int .u64 d2, .int .u64 d1, .int .u64 d0]] := (by with_reducible exact T0.step hB); have tltw6 := (T0.b 1 rfl).lt; have lR0w6 := R0.lt; replace R0 := R0.step hB; skip) | (have T1 : ArgsB w w6 [[.int .u64 a3, .int .u64 a2, .int .u64 a1, .int .u64 a0, .int .u64 b3, .int .u64 b2, .int .u64 b1, .int .u64 b0], [.int .u64 c3, .int .u64 c2, .int .u64 c1, .int .u64 c0, .int .u64 d3, .int .u64 d2, .int .u64 d1, .int .u64 d0]] := (by with_reducible exact T0.drew.step hB); have tltw6 := (T0.b 1 rfl).lt; have lR0w6 := R0.lt; replace R0 := R0.drew.step hB; skip)); clear T0; have T0 := T1; clear T1; have o0c := R0.c 0 rfl; have o0f := R0.f 0 rfl; have o1c := R0.c 1 rfl; have o1f := R0.f 1 rfl; have o2c := R0.c 2 rfl; have o2f := R0.f 2 rfl; have o3c := R0.c 3 rfl; have o3f := R0.f 3 rfl; have o4c := R0.c 4 rfl; have o4f := R0.f 4 rfl; have o5c := R0.c 5 rfl; have o5f := R0.f 5 rfl; have o6c := R0.c 6 rfl; have o6f := R0.f 6 rfl; have o7c := R0.c 7 rfl; have o7f := R0.f 7 rfl; have olt := R0.lt; clear hB N5 N6))
      all_goals have HB := T0.below
      all_goals clear T0
      all_goals go_wp2
      all_goals refine bodyPost_ret (v := .tuple #[.agg #[.int .u64 z0, .int .u64 z1, .int .u64 z2, .int .u64 z3, .int .u64 z4, .int .u64 z5, .int .u64 z6, .int .u64 z7], .bool t]) (by simp [results, Try.results37, go_sem, o0c, o1c, o2c, o3c, o4c, o5c, o6c, o7c]) rfl ?_
      all_goals refine ⟨by rw [HV.out], ?_⟩
      all_goals (try (with_reducible refine Below.drew ?_))
      all_goals repeat' (refine Below.setCell ?_ (by simp; try omega) _)
      all_goals exact HB
end Go.Proofs.Ytddniklhpkagmaa
