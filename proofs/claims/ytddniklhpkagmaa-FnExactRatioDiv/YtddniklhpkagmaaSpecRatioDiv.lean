/- The model's word on quotients of two fractions. -/
import Derived.Test.YtddniklhpkagmaaRatT
namespace Go.Proofs.Ytddniklhpkagmaa
open Go.RowKit
theorem dd_cells {p1s p2s p3s p4s : Bool} {p1o p2o p3o p4o : Option Addr} {p1n p2n p3n p4n p1c p2c p3c p4c : Nat} {W : World} {gx gy : Nat} (X : Blk W gx [.bool p1s, .slice p1o p1n p1c, .bool p2s, .slice p2o p2n p2c]) (Y : Blk W gy [.bool p3s, .slice p3o p3n p3c, .bool p4s, .slice p4o p4n p4c]) : (fun w' => w'.cell? ⟨gx, 0, none⟩ = some (.bool p1s) ∧ w'.cell? ⟨gx, 1, none⟩ = some (.slice p1o p1n p1c) ∧ w'.cell? ⟨gx, 2, none⟩ = some (.bool p2s) ∧ w'.cell? ⟨gx, 3, none⟩ = some (.slice p2o p2n p2c) ∧ w'.cell? ⟨gy, 0, none⟩ = some (.bool p3s) ∧ w'.cell? ⟨gy, 1, none⟩ = some (.slice p3o p3n p3c) ∧ w'.cell? ⟨gy, 2, none⟩ = some (.bool p4s) ∧ w'.cell? ⟨gy, 3, none⟩ = some (.slice p4o p4n p4c)) W := ⟨X.c 0 rfl, X.c 1 rfl, X.c 2 rfl, X.c 3 rfl, Y.c 0 rfl, Y.c 1 rfl, Y.c 2 rfl, Y.c 3 rfl⟩
set_option maxRecDepth 100000 in
set_option maxHeartbeats 2000000 in
theorem specRatioDiv_any (a3 a2 a1 a0 b3 b2 b1 b0 c3 c2 c1 c0 d3 d2 d1 d0 : Int) (ha3 : Word a3) (ha2 : Word a2) (ha1 : Word a1) (ha0 : Word a0) (hb3 : Word b3) (hb2 : Word b2) (hb1 : Word b1) (hb0 : Word b0) (hc3 : Word c3) (hc2 : Word c2) (hc1 : Word c1) (hc0 : Word c0) (hd3 : Word d3) (hd2 : Word d2) (hd1 : Word d1) (hd0 : Word d0) (w : World) : Calls Try.prog 39 #[Rt a3 a2 a1 a0 b3 b2 b1 b0, Rt c3 c2 c1 c0 d3 d2 d1 d0] w (VP (rat2V (sw a3 a2 a1 a0) (sw b3 b2 b1 b0) (sw c3 c2 c1 c0) (sw d3 d2 d1 d0) ((sw a3 a2 a1 a0) * (sw d3 d2 d1 d0)) ((sw c3 c2 c1 c0) * (sw b3 b2 b1 b0))) w) := by
  have T0 := rs_args a3 a2 a1 a0 b3 b2 b1 b0 c3 c2 c1 c0 d3 d2 d1 d0 41 [.int .u64 0, .int .u64 0, .int .u64 0, .int .u64 0, .int .u64 0, .int .u64 0, .int .u64 0, .int .u64 0] w
  have R0 : Blk (((w.alloc (.cells #[.int .u64 a3, .int .u64 a2, .int .u64 a1, .int .u64 a0, .int .u64 b3, .int .u64 b2, .int .u64 b1, .int .u64 b0] 41)).alloc (.cells #[.int .u64 c3, .int .u64 c2, .int .u64 c1, .int .u64 c0, .int .u64 d3, .int .u64 d2, .int .u64 d1, .int .u64 d0] 41)).alloc (.cells #[.int .u64 0, .int .u64 0, .int .u64 0, .int .u64 0, .int .u64 0, .int .u64 0, .int .u64 0, .int .u64 0] 41)) (w.heap.size + 1 + 1) [.int .u64 0, .int .u64 0, .int .u64 0, .int .u64 0, .int .u64 0, .int .u64 0, .int .u64 0, .int .u64 0] := Blk.new _ [.int .u64 0, .int .u64 0, .int .u64 0, .int .u64 0, .int .u64 0, .int .u64 0, .int .u64 0, .int .u64 0] _ (by simp)
  have RA := specRatioOk_any a3 a2 a1 a0 b3 b2 b1 b0 ha3 ha2 ha1 ha0 hb3 hb2 hb1 hb0
  have RB := specRatioOk_any c3 c2 c1 c0 d3 d2 d1 d0 hc3 hc2 hc1 hc0 hd3 hd2 hd1 hd0
  have EZ := eqZ4 c3 c2 c1 c0
  rw [zero4 hc3 hc2 hc1 hc0] at EZ
  obtain ⟨ra, hra⟩ : ∃ b, rightB (sw a3 a2 a1 a0) (sw b3 b2 b1 b0) = b := ⟨_, rfl⟩
  obtain ⟨rb, hrb⟩ : ∃ b, rightB (sw c3 c2 c1 c0) (sw d3 d2 d1 d0) = b := ⟨_, rfl⟩
  rw [hra] at RA
  rw [hrb] at RB
  go_enter Try.func39, Try.ntmps39
  go_wp2_with fail
  generalize (((w.alloc (.cells #[.int .u64 a3, .int .u64 a2, .int .u64 a1, .int .u64 a0, .int .u64 b3, .int .u64 b2, .int .u64 b1, .int .u64 b0] 41)).alloc (.cells #[.int .u64 c3, .int .u64 c2, .int .u64 c1, .int .u64 c0, .int .u64 d3, .int .u64 d2, .int .u64 d1, .int .u64 d0] 41)).alloc (.cells #[.int .u64 0, .int .u64 0, .int .u64 0, .int .u64 0, .int .u64 0, .int .u64 0, .int .u64 0, .int .u64 0] 41)) = W at *
  refine (RA _).mono ?_
  rintro e w1 ⟨rfl, hB⟩
  replace T0 := T0.step hB; replace R0 := R0.step hB
  clear hB RA
  cases ra
  · have HV : Hid (rat2V (sw a3 a2 a1 a0) (sw b3 b2 b1 b0) (sw c3 c2 c1 c0) (sw d3 d2 d1 d0) ((sw a3 a2 a1 a0) * (sw d3 d2 d1 d0)) ((sw c3 c2 c1 c0) * (sw b3 b2 b1 b0)) = .tuple #[.agg #[.int .u64 0, .int .u64 0, .int .u64 0, .int .u64 0, .int .u64 0, .int .u64 0, .int .u64 0, .int .u64 0], .bool false]) := rat2V_no1 hra
    clear RB EZ
    have HB := T0.below
    have o0c := R0.c 0 rfl; have o0f := R0.f 0 rfl; have o1c := R0.c 1 rfl; have o1f := R0.f 1 rfl; have o2c := R0.c 2 rfl; have o2f := R0.f 2 rfl; have o3c := R0.c 3 rfl; have o3f := R0.f 3 rfl; have o4c := R0.c 4 rfl; have o4f := R0.f 4 rfl; have o5c := R0.c 5 rfl; have o5f := R0.f 5 rfl; have o6c := R0.c 6 rfl; have o6f := R0.f 6 rfl; have o7c := R0.c 7 rfl; have o7f := R0.f 7 rfl
    go_wp2
    refine bodyPost_ret (v := .tuple #[.agg #[.int .u64 0, .int .u64 0, .int .u64 0, .int .u64 0, .int .u64 0, .int .u64 0, .int .u64 0, .int .u64 0], .bool false]) (by simp [results, Try.results39, go_sem, o0c, o1c, o2c, o3c, o4c, o5c, o6c, o7c]) rfl ?_
    refine ⟨by rw [HV.out], ?_⟩
    repeat' (refine Below.setCell ?_ (by simp; try omega) _)
    exact HB
  · have x0c := (T0.b 0 rfl).c 0 rfl; have x1c := (T0.b 0 rfl).c 1 rfl; have x2c := (T0.b 0 rfl).c 2 rfl; have x3c := (T0.b 0 rfl).c 3 rfl; have x4c := (T0.b 0 rfl).c 4 rfl; have x5c := (T0.b 0 rfl).c 5 rfl; have x6c := (T0.b 0 rfl).c 6 rfl; have x7c := (T0.b 0 rfl).c 7 rfl; have y0c := (T0.b 1 rfl).c 0 rfl; have y1c := (T0.b 1 rfl).c 1 rfl; have y2c := (T0.b 1 rfl).c 2 rfl; have y3c := (T0.b 1 rfl).c 3 rfl; have y4c := (T0.b 1 rfl).c 4 rfl; have y5c := (T0.b 1 rfl).c 5 rfl; have y6c := (T0.b 1 rfl).c 6 rfl; have y7c := (T0.b 1 rfl).c 7 rfl; simp only [Nat.add_zero] at x0c x1c x2c x3c x4c x5c x6c x7c
    go_wp2_with fail
    refine (RB _).mono ?_
    rintro e w2 ⟨rfl, hB⟩
    replace T0 := T0.step hB; replace R0 := R0.step hB
    clear hB RB x0c x1c x2c x3c x4c x5c x6c x7c y0c y1c y2c y3c y4c y5c y6c y7c
    cases rb
    · have HV : Hid (rat2V (sw a3 a2 a1 a0) (sw b3 b2 b1 b0) (sw c3 c2 c1 c0) (sw d3 d2 d1 d0) ((sw a3 a2 a1 a0) * (sw d3 d2 d1 d0)) ((sw c3 c2 c1 c0) * (sw b3 b2 b1 b0)) = .tuple #[.agg #[.int .u64 0, .int .u64 0, .int .u64 0, .int .u64 0, .int .u64 0, .int .u64 0, .int .u64 0, .int .u64 0], .bool false]) := rat2V_no2 hrb
      clear EZ
      have HB := T0.below
      have o0c := R0.c 0 rfl; have o0f := R0.f 0 rfl; have o1c := R0.c 1 rfl; have o1f := R0.f 1 rfl; have o2c := R0.c 2 rfl; have o2f := R0.f 2 rfl; have o3c := R0.c 3 rfl; have o3f := R0.f 3 rfl; have o4c := R0.c 4 rfl; have o4f := R0.f 4 rfl; have o5c := R0.c 5 rfl; have o5f := R0.f 5 rfl; have o6c := R0.c 6 rfl; have o6f := R0.f 6 rfl; have o7c := R0.c 7 rfl; have o7f := R0.f 7 rfl
      go_wp2
      refine bodyPost_ret (v := .tuple #[.agg #[.int .u64 0, .int .u64 0, .int .u64 0, .int .u64 0, .int .u64 0, .int .u64 0, .int .u64 0, .int .u64 0], .bool false]) (by simp [results, Try.results39, go_sem, o0c, o1c, o2c, o3c, o4c, o5c, o6c, o7c]) rfl ?_
      refine ⟨by rw [HV.out], ?_⟩
      repeat' (refine Below.setCell ?_ (by simp; try omega) _)
      exact HB
    · have py := rightB_pos hra
      by_cases hu : (sw c3 c2 c1 c0) = 0
      · have HV : Hid (rat2V (sw a3 a2 a1 a0) (sw b3 b2 b1 b0) (sw c3 c2 c1 c0) (sw d3 d2 d1 d0) ((sw a3 a2 a1 a0) * (sw d3 d2 d1 d0)) ((sw c3 c2 c1 c0) * (sw b3 b2 b1 b0)) = .tuple #[.agg #[.int .u64 0, .int .u64 0, .int .u64 0, .int .u64 0, .int .u64 0, .int .u64 0, .int .u64 0, .int .u64 0], .bool false]) := by
          show _ = _
          rw [rat2V_yes hra hrb]
          unfold ratV
          rw [if_neg (by rintro ⟨h, -⟩; exact h (by rw [hu, Int.zero_mul]))]
        simp only [hu, decide_true] at EZ
        have x0c := (T0.b 0 rfl).c 0 rfl; have x1c := (T0.b 0 rfl).c 1 rfl; have x2c := (T0.b 0 rfl).c 2 rfl; have x3c := (T0.b 0 rfl).c 3 rfl; have x4c := (T0.b 0 rfl).c 4 rfl; have x5c := (T0.b 0 rfl).c 5 rfl; have x6c := (T0.b 0 rfl).c 6 rfl; have x7c := (T0.b 0 rfl).c 7 rfl; have y0c := (T0.b 1 rfl).c 0 rfl; have y1c := (T0.b 1 rfl).c 1 rfl; have y2c := (T0.b 1 rfl).c 2 rfl; have y3c := (T0.b 1 rfl).c 3 rfl; have y4c := (T0.b 1 rfl).c 4 rfl; have y5c := (T0.b 1 rfl).c 5 rfl; have y6c := (T0.b 1 rfl).c 6 rfl; have y7c := (T0.b 1 rfl).c 7 rfl; simp only [Nat.add_zero] at x0c x1c x2c x3c x4c x5c x6c x7c
        have HB := T0.below
        have o0c := R0.c 0 rfl; have o0f := R0.f 0 rfl; have o1c := R0.c 1 rfl; have o1f := R0.f 1 rfl; have o2c := R0.c 2 rfl; have o2f := R0.f 2 rfl; have o3c := R0.c 3 rfl; have o3f := R0.f 3 rfl; have o4c := R0.c 4 rfl; have o4f := R0.f 4 rfl; have o5c := R0.c 5 rfl; have o5f := R0.f 5 rfl; have o6c := R0.c 6 rfl; have o6f := R0.f 6 rfl; have o7c := R0.c 7 rfl; have o7f := R0.f 7 rfl
        go_wp2
        refine bodyPost_ret (v := .tuple #[.agg #[.int .u64 0, .int .u64 0, .int .u64 0, .int .u64 0, .int .u64 0, .int .u64 0, .int .u64 0, .int .u64 0], .bool false]) (by simp [results, Try.results39, go_sem, o0c, o1c, o2c, o3c, o4c, o5c, o6c, o7c]) rfl ?_
        refine ⟨by rw [HV.out], ?_⟩
        repeat' (refine Below.setCell ?_ (by simp; try omega) _)
        exact HB
      · simp only [hu, decide_false] at EZ
        have hD : (sw b3 b2 b1 b0) * (sw c3 c2 c1 c0) ≠ 0 := Int.mul_ne_zero (by omega) hu
        obtain ⟨z0, z1, z2, z3, z4, z5, z6, z7, t, hz⟩ := rtV_ex (lowN ((sw a3 a2 a1 a0) * (sw d3 d2 d1 d0)) ((sw b3 b2 b1 b0) * (sw c3 c2 c1 c0))) (lowD ((sw a3 a2 a1 a0) * (sw d3 d2 d1 d0)) ((sw b3 b2 b1 b0) * (sw c3 c2 c1 c0)))
        have HV : Hid (rat2V (sw a3 a2 a1 a0) (sw b3 b2 b1 b0) (sw c3 c2 c1 c0) (sw d3 d2 d1 d0) ((sw a3 a2 a1 a0) * (sw d3 d2 d1 d0)) ((sw c3 c2 c1 c0) * (sw b3 b2 b1 b0)) = .tuple #[.agg #[.int .u64 z0, .int .u64 z1, .int .u64 z2, .int .u64 z3, .int .u64 z4, .int .u64 z5, .int .u64 z6, .int .u64 z7], .bool t]) := by
          show _ = _
          rw [rat2V_yes hra hrb, Int.mul_comm (sw c3 c2 c1 c0) (sw b3 b2 b1 b0)]
          exact (ratV_rt hD).trans hz
        have LA := l2Of_any a3 a2 a1 a0 b3 b2 b1 b0 ha3 ha2 ha1 ha0 hb3 hb2 hb1 hb0
        have LB := l2Of_any c3 c2 c1 c0 d3 d2 d1 d0 hc3 hc2 hc1 hc0 hd3 hd2 hd1 hd0
        have tok1 : True := trivial
        have tok2 : True := trivial
        clear hra hrb
        have x0c := (T0.b 0 rfl).c 0 rfl; have x1c := (T0.b 0 rfl).c 1 rfl; have x2c := (T0.b 0 rfl).c 2 rfl; have x3c := (T0.b 0 rfl).c 3 rfl; have x4c := (T0.b 0 rfl).c 4 rfl; have x5c := (T0.b 0 rfl).c 5 rfl; have x6c := (T0.b 0 rfl).c 6 rfl; have x7c := (T0.b 0 rfl).c 7 rfl; have y0c := (T0.b 1 rfl).c 0 rfl; have y1c := (T0.b 1 rfl).c 1 rfl; have y2c := (T0.b 1 rfl).c 2 rfl; have y3c := (T0.b 1 rfl).c 3 rfl; have y4c := (T0.b 1 rfl).c 4 rfl; have y5c := (T0.b 1 rfl).c 5 rfl; have y6c := (T0.b 1 rfl).c 6 rfl; have y7c := (T0.b 1 rfl).c 7 rfl; simp only [Nat.add_zero] at x0c x1c x2c x3c x4c x5c x6c x7c
        go_wp2_with fail
        refine (LA _).mono ?_
        rintro e w3 ⟨p1s, p1o, p1n, p1c, p1d, p2s, p2o, p2n, p2c, p2d, rfl, N1, N2, hB⟩
        replace T0 := T0.step hB; replace R0 := R0.step hB
        clear hB LA x0c x1c x2c x3c x4c x5c x6c x7c y0c y1c y2c y3c y4c y5c y6c y7c
        have hl3 := R0.lt
        go_upto_region 4 with fail
        have GX := Blk.new w3 [.bool p1s, .slice p1o p1n p1c, .bool p2s, .slice p2o p2n p2c] 88 rfl
        replace T0 := T0.alloc (.cells #[.bool p1s, .slice p1o p1n p1c, .bool p2s, .slice p2o p2n p2c] 88); replace R0 := R0.alloc (.cells #[.bool p1s, .slice p1o p1n p1c, .bool p2s, .slice p2o p2n p2c] 88); replace N1 := N1.alloc (.cells #[.bool p1s, .slice p1o p1n p1c, .bool p2s, .slice p2o p2n p2c] 88); replace N2 := N2.alloc (.cells #[.bool p1s, .slice p1o p1n p1c, .bool p2s, .slice p2o p2n p2c] 88)
        generalize w3.alloc (.cells #[.bool p1s, .slice p1o p1n p1c, .bool p2s, .slice p2o p2n p2c] 88) = W3 at *
        generalize w3.heap.size = gx at *
        have x0c := (T0.b 0 rfl).c 0 rfl; have x1c := (T0.b 0 rfl).c 1 rfl; have x2c := (T0.b 0 rfl).c 2 rfl; have x3c := (T0.b 0 rfl).c 3 rfl; have x4c := (T0.b 0 rfl).c 4 rfl; have x5c := (T0.b 0 rfl).c 5 rfl; have x6c := (T0.b 0 rfl).c 6 rfl; have x7c := (T0.b 0 rfl).c 7 rfl; have y0c := (T0.b 1 rfl).c 0 rfl; have y1c := (T0.b 1 rfl).c 1 rfl; have y2c := (T0.b 1 rfl).c 2 rfl; have y3c := (T0.b 1 rfl).c 3 rfl; have y4c := (T0.b 1 rfl).c 4 rfl; have y5c := (T0.b 1 rfl).c 5 rfl; have y6c := (T0.b 1 rfl).c 6 rfl; have y7c := (T0.b 1 rfl).c 7 rfl; simp only [Nat.add_zero] at x0c x1c x2c x3c x4c x5c x6c x7c
        go_wp2_with fail
        refine (LB _).mono ?_
        rintro e w4 ⟨p3s, p3o, p3n, p3c, p3d, p4s, p4o, p4n, p4c, p4d, rfl, N3, N4, hB⟩
        replace T0 := T0.step hB; replace R0 := R0.step hB; replace GX := GX.step hB; replace N1 := N1.step hB; replace N2 := N2.step hB
        clear hB LB x0c x1c x2c x3c x4c x5c x6c x7c y0c y1c y2c y3c y4c y5c y6c y7c
        have hl4 := R0.lt
        have hx4 := GX.lt
        go_upto_region 5 with fail
        have GY := Blk.new w4 [.bool p3s, .slice p3o p3n p3c, .bool p4s, .slice p4o p4n p4c] 88 rfl
        have HB := (T0.alloc (.cells #[.bool p3s, .slice p3o p3n p3c, .bool p4s, .slice p4o p4n p4c] 88)).below
        clear T0
        replace R0 := R0.alloc (.cells #[.bool p3s, .slice p3o p3n p3c, .bool p4s, .slice p4o p4n p4c] 88); replace GX := GX.alloc (.cells #[.bool p3s, .slice p3o p3n p3c, .bool p4s, .slice p4o p4n p4c] 88); replace N1 := N1.alloc (.cells #[.bool p3s, .slice p3o p3n p3c, .bool p4s, .slice p4o p4n p4c] 88); replace N2 := N2.alloc (.cells #[.bool p3s, .slice p3o p3n p3c, .bool p4s, .slice p4o p4n p4c] 88); replace N3 := N3.alloc (.cells #[.bool p3s, .slice p3o p3n p3c, .bool p4s, .slice p4o p4n p4c] 88); replace N4 := N4.alloc (.cells #[.bool p3s, .slice p3o p3n p3c, .bool p4s, .slice p4o p4n p4c] 88)
        generalize w4.alloc (.cells #[.bool p3s, .slice p3o p3n p3c, .bool p4s, .slice p4o p4n p4c] 88) = W4' at *
        generalize w4.heap.size = gy at *
        replace R0 := R0.drew; replace GX := GX.drew; replace GY := GY.drew; replace N1 := N1.drew; replace N2 := N2.drew; replace N3 := N3.drew; replace N4 := N4.drew; replace HB := HB.drew
        go_region_held3 (fun w' => w'.cell? ⟨gx, 0, none⟩ = some (.bool p1s) ∧ w'.cell? ⟨gx, 1, none⟩ = some (.slice p1o p1n p1c) ∧ w'.cell? ⟨gx, 2, none⟩ = some (.bool p2s) ∧ w'.cell? ⟨gx, 3, none⟩ = some (.slice p2o p2n p2c) ∧ w'.cell? ⟨gy, 0, none⟩ = some (.bool p3s) ∧ w'.cell? ⟨gy, 1, none⟩ = some (.slice p3o p3n p3c) ∧ w'.cell? ⟨gy, 2, none⟩ = some (.bool p4s) ∧ w'.cell? ⟨gy, 3, none⟩ = some (.slice p4o p4n p4c)) ((refine dd_cells ?_ ?_ <;> repeat (first | (with_reducible exact GX) | (with_reducible exact GY) | (with_reducible refine Blk.drew ?_) | (with_reducible refine Blk.set8 ?_ (by omega)))))
          (first
        | (go_at_call 50; have _t := tok1; refine (mul_any p1s p4s p1o p4o p1n p4n p1c p4c 8 p1d p4d _ _ _ N1 N4 (by omega)).mono ?_; rintro e w5 ⟨p5s, p5o, p5n, p5c, p5d, rfl, N5, hB⟩; replace HB := HB.trans (hB.mono HB.size); replace GX := GX.step hB; replace GY := GY.step hB; replace R0 := R0.step hB; replace N1 := N1.step hB; replace N2 := N2.step hB; replace N3 := N3.step hB; replace N4 := N4.step hB; clear hB tok1 _t)
        | (go_at_call 50; have _t := tok2; refine (mul_any p2s p3s p2o p3o p2n p3n p2c p3c 8 p2d p3d _ _ _ N2 N3 (by omega)).mono ?_; rintro e w6 ⟨p6s, p6o, p6n, p6c, p6d, rfl, N6, hB⟩; replace HB := HB.trans (hB.mono HB.size); replace GX := GX.step hB; replace GY := GY.step hB; replace R0 := R0.step hB; replace N5 := N5.step hB; clear hB tok2 _t)
        | (go_at_call 77; refine (l2Make_any p5s p5o p5n p5c p5d p6s p6o p6n p6c p6d _ _ (8 + 8) (by omega) (by omega) _ N5 N6 hD).mono ?_; rintro e w7 ⟨p7s, p7o, p7n, p7c, p7d, p8s, p8o, p8n, p8c, p8d, rfl, N7, N8, hB⟩; replace HB := HB.trans (hB.mono HB.size); replace GX := GX.step hB; replace GY := GY.step hB; replace R0 := R0.step hB; clear hB )
        | (go_at_call 76; refine (l2Ratio_any p7s p7o p7n p7c p7d p8s p8o p8n p8c p8d _ _ _ (by omega) _ N7 N8).mono ?_; rw [hz]; rintro e w8 ⟨rfl, hB⟩; replace HB := HB.trans (hB.mono HB.size); replace GX := GX.step hB; replace GY := GY.step hB; replace R0 := R0.step hB; clear hB ; have o0c := R0.c 0 rfl; have o0f := R0.f 0 rfl; have o1c := R0.c 1 rfl; have o1f := R0.f 1 rfl; have o2c := R0.c 2 rfl; have o2f := R0.f 2 rfl; have o3c := R0.c 3 rfl; have o3f := R0.f 3 rfl; have o4c := R0.c 4 rfl; have o4f := R0.f 4 rfl; have o5c := R0.c 5 rfl; have o5f := R0.f 5 rfl; have o6c := R0.c 6 rfl; have o6f := R0.f 6 rfl; have o7c := R0.c 7 rfl; have o7f := R0.f 7 rfl; have olt := R0.lt))
        all_goals clear GX GY
        all_goals go_wp2
        all_goals refine bodyPost_ret (v := .tuple #[.agg #[.int .u64 z0, .int .u64 z1, .int .u64 z2, .int .u64 z3, .int .u64 z4, .int .u64 z5, .int .u64 z6, .int .u64 z7], .bool t]) (by simp [results, Try.results39, go_sem, o0c, o1c, o2c, o3c, o4c, o5c, o6c, o7c]) rfl ?_
        all_goals refine ⟨by rw [HV.out], ?_⟩
        all_goals (try (with_reducible refine Below.drew ?_))
        all_goals repeat' (refine Below.setCell ?_ (by simp; try omega) _)
        all_goals exact HB
end Go.Proofs.Ytddniklhpkagmaa
