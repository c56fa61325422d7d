/- The middle of two points: the program's walk. -/
import Derived.Test.YtckbhihdhcgaeaaPmB
namespace Go.Proofs.Ytckbhihdhcgaeaa
open Go.RowKit
/-- The middle of two right points, and true; zeros and false where there is none. -/
def midV (x y z u v t : Int) : Value := if ptB x y z && ptB u v t then pmV (x * t + u * z) (y * t + v * z) (2 * (z * t)) else .tuple #[.agg #[.int .u64 0, .int .u64 0, .int .u64 0, .int .u64 0, .int .u64 0, .int .u64 0, .int .u64 0, .int .u64 0, .int .u64 0, .int .u64 0, .int .u64 0, .int .u64 0], .bool false]
theorem midV_ex (x y z u v t : Int) : ∃ r0 r1 r2 r3 r4 r5 r6 r7 r8 r9 r10 r11 f, midV x y z u v t = .tuple #[.agg #[.int .u64 r0, .int .u64 r1, .int .u64 r2, .int .u64 r3, .int .u64 r4, .int .u64 r5, .int .u64 r6, .int .u64 r7, .int .u64 r8, .int .u64 r9, .int .u64 r10, .int .u64 r11], .bool f] := by
  unfold midV
  split
  · exact pmV_ex _ _ _
  · exact ⟨0, 0, 0, 0, 0, 0, 0, 0, 0, 0, 0, 0, false, rfl⟩
set_option maxRecDepth 100000 in
set_option maxHeartbeats 8000000 in
theorem implMiddle_det (x y z u v t : Int) (hx : told x = true) (hy : told y = true) (hz : told z = true) (hu : told u = true) (hv : told v = true) (ht : told t = true) (w : World) : Calls Try.prog 34 #[PV x y z, PV u v t] w (VP (midV x y z u v t) w) := by
  have T0 : ArgsB w (((w.alloc (.cells #[.int .u64 (ww3 x), .int .u64 (ww2 x), .int .u64 (ww1 x), .int .u64 (ww0 x), .int .u64 (ww3 y), .int .u64 (ww2 y), .int .u64 (ww1 y), .int .u64 (ww0 y), .int .u64 (ww3 z), .int .u64 (ww2 z), .int .u64 (ww1 z), .int .u64 (ww0 z)] 30)).alloc (.cells #[.int .u64 (ww3 u), .int .u64 (ww2 u), .int .u64 (ww1 u), .int .u64 (ww0 u), .int .u64 (ww3 v), .int .u64 (ww2 v), .int .u64 (ww1 v), .int .u64 (ww0 v), .int .u64 (ww3 t), .int .u64 (ww2 t), .int .u64 (ww1 t), .int .u64 (ww0 t)] 30)).alloc (.cells #[.int .u64 0, .int .u64 0, .int .u64 0, .int .u64 0, .int .u64 0, .int .u64 0, .int .u64 0, .int .u64 0, .int .u64 0, .int .u64 0, .int .u64 0, .int .u64 0] 30)) [[.int .u64 (ww3 x), .int .u64 (ww2 x), .int .u64 (ww1 x), .int .u64 (ww0 x), .int .u64 (ww3 y), .int .u64 (ww2 y), .int .u64 (ww1 y), .int .u64 (ww0 y), .int .u64 (ww3 z), .int .u64 (ww2 z), .int .u64 (ww1 z), .int .u64 (ww0 z)], [.int .u64 (ww3 u), .int .u64 (ww2 u), .int .u64 (ww1 u), .int .u64 (ww0 u), .int .u64 (ww3 v), .int .u64 (ww2 v), .int .u64 (ww1 v), .int .u64 (ww0 v), .int .u64 (ww3 t), .int .u64 (ww2 t), .int .u64 (ww1 t), .int .u64 (ww0 t)], [.int .u64 0, .int .u64 0, .int .u64 0, .int .u64 0, .int .u64 0, .int .u64 0, .int .u64 0, .int .u64 0, .int .u64 0, .int .u64 0, .int .u64 0, .int .u64 0]] := ar3 _ _ _ _ _ _ w
  have R1 := pright_det x y z hx hy hz
  have R2 := pright_det u v t hu hv ht
  clear hx hy hz hu hv ht
  go_enter Try.func34, Try.ntmps34
  go_wp2_with fail
  generalize (((w.alloc (.cells #[.int .u64 (ww3 x), .int .u64 (ww2 x), .int .u64 (ww1 x), .int .u64 (ww0 x), .int .u64 (ww3 y), .int .u64 (ww2 y), .int .u64 (ww1 y), .int .u64 (ww0 y), .int .u64 (ww3 z), .int .u64 (ww2 z), .int .u64 (ww1 z), .int .u64 (ww0 z)] 30)).alloc (.cells #[.int .u64 (ww3 u), .int .u64 (ww2 u), .int .u64 (ww1 u), .int .u64 (ww0 u), .int .u64 (ww3 v), .int .u64 (ww2 v), .int .u64 (ww1 v), .int .u64 (ww0 v), .int .u64 (ww3 t), .int .u64 (ww2 t), .int .u64 (ww1 t), .int .u64 (ww0 t)] 30)).alloc (.cells #[.int .u64 0, .int .u64 0, .int .u64 0, .int .u64 0, .int .u64 0, .int .u64 0, .int .u64 0, .int .u64 0, .int .u64 0, .int .u64 0, .int .u64 0, .int .u64 0] 30)) = WW at *
  refine (R1 _).mono ?_
  rintro e w1 ⟨rfl, hB⟩
  replace T0 := T0.step hB
  clear hB
  by_cases h1 : ptB x y z = true
  · rw [h1]
    have X0 : Blk _ w.heap.size _ := T0.b 0 rfl; have Y0 : Blk _ (w.heap.size + 1) _ := T0.b 1 rfl; have p0 := X0.c 0 rfl; have q0 := Y0.c 0 rfl; have p1 := X0.c 1 rfl; have q1 := Y0.c 1 rfl; have p2 := X0.c 2 rfl; have q2 := Y0.c 2 rfl; have p3 := X0.c 3 rfl; have q3 := Y0.c 3 rfl; have p4 := X0.c 4 rfl; have q4 := Y0.c 4 rfl; have p5 := X0.c 5 rfl; have q5 := Y0.c 5 rfl; have p6 := X0.c 6 rfl; have q6 := Y0.c 6 rfl; have p7 := X0.c 7 rfl; have q7 := Y0.c 7 rfl; have p8 := X0.c 8 rfl; have q8 := Y0.c 8 rfl; have p9 := X0.c 9 rfl; have q9 := Y0.c 9 rfl; have p10 := X0.c 10 rfl; have q10 := Y0.c 10 rfl; have p11 := X0.c 11 rfl; have q11 := Y0.c 11 rfl; clear X0 Y0
    go_wp2_with fail
    refine (R2 _).mono ?_
    rintro e w2 ⟨rfl, hB⟩
    replace T0 := T0.step hB
    clear hB p0 q0 p1 q1 p2 q2 p3 q3 p4 q4 p5 q5 p6 q6 p7 q7 p8 q8 p9 q9 p10 q10 p11 q11
    by_cases h2 : ptB u v t = true
    · rw [h2]
      obtain ⟨-, sx, sy, sz⟩ := ptB_small h1
      obtain ⟨-, su, sv, st⟩ := ptB_small h2
      have HV : Hid (midV x y z u v t = pmV (x * t + z * u) (y * t + z * v) (z * t + z * t)) := by
        show _ = _
        unfold midV
        rw [h1, h2, if_pos (show (true && true) = true from rfl), Int.mul_comm u z, Int.mul_comm v z, Int.two_mul]
      have m1 := sm_prod sx st; have m2 := sm_prod sz su; have m3 := sm_prod sy st; have m4 := sm_prod sz sv; have m5 := sm_prod sz st
      have tx := told_small sx; have ty := told_small sy; have tz := told_small sz; have tu := told_small su; have tv := told_small sv; have tt := told_small st
      have J1 := joint_det x z u t tx tz tu tt (lr_abs (by omega)) (lr_abs (by omega)) (told_of (by omega))
      have J2 := joint_det y z v t ty tz tv tt (lr_abs (by omega)) (lr_abs (by omega)) (told_of (by omega))
      have J3 := joint_det z z t t tz tz tt tt (lr_abs (by omega)) (lr_abs (by omega)) (told_of (by omega))
      have PM := implPointMake_det (x * t + z * u) (y * t + z * v) (z * t + z * t) (told_of (by omega)) (told_of (by omega)) (told_of (by omega))
      obtain ⟨r0, r1, r2, r3, r4, r5, r6, r7, r8, r9, r10, r11, f, hf⟩ := pmV_ex (x * t + z * u) (y * t + z * v) (z * t + z * t)
      rw [hf] at PM
      have HO : Hid (midV x y z u v t = .tuple #[.agg #[.int .u64 r0, .int .u64 r1, .int .u64 r2, .int .u64 r3, .int .u64 r4, .int .u64 r5, .int .u64 r6, .int .u64 r7, .int .u64 r8, .int .u64 r9, .int .u64 r10, .int .u64 r11], .bool f]) := HV.out.trans hf
      clear hf HV h1 h2 R1 R2 sx sy sz su sv st m1 m2 m3 m4 m5 tx ty tz tu tv tt
      generalize x * t + z * u = X at *
      generalize y * t + z * v = Y at *
      generalize z * t + z * t = Z at *
      have X0 : Blk _ w.heap.size _ := T0.b 0 rfl; have Y0 : Blk _ (w.heap.size + 1) _ := T0.b 1 rfl; have p0 := X0.c 0 rfl; have q0 := Y0.c 0 rfl; have p1 := X0.c 1 rfl; have q1 := Y0.c 1 rfl; have p2 := X0.c 2 rfl; have q2 := Y0.c 2 rfl; have p3 := X0.c 3 rfl; have q3 := Y0.c 3 rfl; have p4 := X0.c 4 rfl; have q4 := Y0.c 4 rfl; have p5 := X0.c 5 rfl; have q5 := Y0.c 5 rfl; have p6 := X0.c 6 rfl; have q6 := Y0.c 6 rfl; have p7 := X0.c 7 rfl; have q7 := Y0.c 7 rfl; have p8 := X0.c 8 rfl; have q8 := Y0.c 8 rfl; have p9 := X0.c 9 rfl; have q9 := Y0.c 9 rfl; have p10 := X0.c 10 rfl; have q10 := Y0.c 10 rfl; have p11 := X0.c 11 rfl; have q11 := Y0.c 11 rfl; clear X0 Y0
      go_wp2_with fail
      refine (J1 _).mono ?_
      rintro e w3 ⟨rfl, hB⟩
      replace T0 := (T0.step hB).alloc (.cells #[.int .u64 (ww3 X), .int .u64 (ww2 X), .int .u64 (ww1 X), .int .u64 (ww0 X)] 28)
      have BX := Blk.new w3 [.int .u64 (ww3 X), .int .u64 (ww2 X), .int .u64 (ww1 X), .int .u64 (ww0 X)] 28 rfl
      clear hB p0 q0 p1 q1 p2 q2 p3 q3 p4 q4 p5 q5 p6 q6 p7 q7 p8 q8 p9 q9 p10 q10 p11 q11 J1
      have X0 : Blk _ w.heap.size _ := T0.b 0 rfl; have Y0 : Blk _ (w.heap.size + 1) _ := T0.b 1 rfl; have p0 := X0.c 0 rfl; have q0 := Y0.c 0 rfl; have p1 := X0.c 1 rfl; have q1 := Y0.c 1 rfl; have p2 := X0.c 2 rfl; have q2 := Y0.c 2 rfl; have p3 := X0.c 3 rfl; have q3 := Y0.c 3 rfl; have p4 := X0.c 4 rfl; have q4 := Y0.c 4 rfl; have p5 := X0.c 5 rfl; have q5 := Y0.c 5 rfl; have p6 := X0.c 6 rfl; have q6 := Y0.c 6 rfl; have p7 := X0.c 7 rfl; have q7 := Y0.c 7 rfl; have p8 := X0.c 8 rfl; have q8 := Y0.c 8 rfl; have p9 := X0.c 9 rfl; have q9 := Y0.c 9 rfl; have p10 := X0.c 10 rfl; have q10 := Y0.c 10 rfl; have p11 := X0.c 11 rfl; have q11 := Y0.c 11 rfl; clear X0 Y0
      go_wp2_with fail
      generalize w3.heap.size = gX at *
      refine (J2 _).mono ?_
      rintro e w4 ⟨rfl, hB⟩
      replace T0 := (T0.step hB).alloc (.cells #[.int .u64 (ww3 Y), .int .u64 (ww2 Y), .int .u64 (ww1 Y), .int .u64 (ww0 Y)] 28)
      replace BX := (BX.step hB).alloc (.cells #[.int .u64 (ww3 Y), .int .u64 (ww2 Y), .int .u64 (ww1 Y), .int .u64 (ww0 Y)] 28)
      have BY := Blk.new w4 [.int .u64 (ww3 Y), .int .u64 (ww2 Y), .int .u64 (ww1 Y), .int .u64 (ww0 Y)] 28 rfl
      clear hB p0 q0 p1 q1 p2 q2 p3 q3 p4 q4 p5 q5 p6 q6 p7 q7 p8 q8 p9 q9 p10 q10 p11 q11 J2
      have X0 : Blk _ w.heap.size _ := T0.b 0 rfl; have Y0 : Blk _ (w.heap.size + 1) _ := T0.b 1 rfl; have p0 := X0.c 0 rfl; have q0 := Y0.c 0 rfl; have p1 := X0.c 1 rfl; have q1 := Y0.c 1 rfl; have p2 := X0.c 2 rfl; have q2 := Y0.c 2 rfl; have p3 := X0.c 3 rfl; have q3 := Y0.c 3 rfl; have p4 := X0.c 4 rfl; have q4 := Y0.c 4 rfl; have p5 := X0.c 5 rfl; have q5 := Y0.c 5 rfl; have p6 := X0.c 6 rfl; have q6 := Y0.c 6 rfl; have p7 := X0.c 7 rfl; have q7 := Y0.c 7 rfl; have p8 := X0.c 8 rfl; have q8 := Y0.c 8 rfl; have p9 := X0.c 9 rfl; have q9 := Y0.c 9 rfl; have p10 := X0.c 10 rfl; have q10 := Y0.c 10 rfl; have p11 := X0.c 11 rfl; have q11 := Y0.c 11 rfl; clear X0 Y0
      go_wp2_with fail
      generalize w4.heap.size = gY at *
      refine (J3 _).mono ?_
      rintro e w5 ⟨rfl, hB⟩
      replace T0 := (T0.step hB).alloc (.cells #[.int .u64 (ww3 Z), .int .u64 (ww2 Z), .int .u64 (ww1 Z), .int .u64 (ww0 Z)] 28)
      replace BX := (BX.step hB).alloc (.cells #[.int .u64 (ww3 Z), .int .u64 (ww2 Z), .int .u64 (ww1 Z), .int .u64 (ww0 Z)] 28)
      replace BY := (BY.step hB).alloc (.cells #[.int .u64 (ww3 Z), .int .u64 (ww2 Z), .int .u64 (ww1 Z), .int .u64 (ww0 Z)] 28)
      clear hB p0 q0 p1 q1 p2 q2 p3 q3 p4 q4 p5 q5 p6 q6 p7 q7 p8 q8 p9 q9 p10 q10 p11 q11 J3
      have bx0 := BX.c 0 rfl; have by0 := BY.c 0 rfl; have bx1 := BX.c 1 rfl; have by1 := BY.c 1 rfl; have bx2 := BX.c 2 rfl; have by2 := BY.c 2 rfl; have bx3 := BX.c 3 rfl; have by3 := BY.c 3 rfl
      go_wp2_with fail
      refine (PM _).mono ?_
      rintro e w6 ⟨rfl, hB⟩
      replace T0 := T0.step hB
      have o0 := (T0.b 2 rfl).c 0 rfl; have u0 := (T0.b 2 rfl).f 0 rfl; have o1 := (T0.b 2 rfl).c 1 rfl; have u1 := (T0.b 2 rfl).f 1 rfl; have o2 := (T0.b 2 rfl).c 2 rfl; have u2 := (T0.b 2 rfl).f 2 rfl; have o3 := (T0.b 2 rfl).c 3 rfl; have u3 := (T0.b 2 rfl).f 3 rfl; have o4 := (T0.b 2 rfl).c 4 rfl; have u4 := (T0.b 2 rfl).f 4 rfl; have o5 := (T0.b 2 rfl).c 5 rfl; have u5 := (T0.b 2 rfl).f 5 rfl; have o6 := (T0.b 2 rfl).c 6 rfl; have u6 := (T0.b 2 rfl).f 6 rfl; have o7 := (T0.b 2 rfl).c 7 rfl; have u7 := (T0.b 2 rfl).f 7 rfl; have o8 := (T0.b 2 rfl).c 8 rfl; have u8 := (T0.b 2 rfl).f 8 rfl; have o9 := (T0.b 2 rfl).c 9 rfl; have u9 := (T0.b 2 rfl).f 9 rfl; have o10 := (T0.b 2 rfl).c 10 rfl; have u10 := (T0.b 2 rfl).f 10 rfl; have o11 := (T0.b 2 rfl).c 11 rfl; have u11 := (T0.b 2 rfl).f 11 rfl; have olt := (T0.b 2 rfl).lt
      have HB := T0.below
      clear hB T0 BX BY bx0 by0 bx1 by1 bx2 by2 bx3 by3 PM
      go_wp2
      refine bodyPost_ret (v := .tuple #[.agg #[.int .u64 r0, .int .u64 r1, .int .u64 r2, .int .u64 r3, .int .u64 r4, .int .u64 r5, .int .u64 r6, .int .u64 r7, .int .u64 r8, .int .u64 r9, .int .u64 r10, .int .u64 r11], .bool f]) (by simp [results, Try.results34, go_sem, o0, o1, o2, o3, o4, o5, o6, o7, o8, o9, o10, o11]) rfl ?_
      refine ⟨by rw [HO.out], ?_⟩
      repeat' (refine Below.setCell ?_ (by simp; try omega) _)
      exact HB
    · replace h2 := Bool.eq_false_iff.2 h2
      rw [h2]
      have HO : Hid (midV x y z u v t = .tuple #[.agg #[.int .u64 0, .int .u64 0, .int .u64 0, .int .u64 0, .int .u64 0, .int .u64 0, .int .u64 0, .int .u64 0, .int .u64 0, .int .u64 0, .int .u64 0, .int .u64 0], .bool false]) := by show _ = _; unfold midV; rw [h2]; simp
      have o0 := (T0.b 2 rfl).c 0 rfl; have u0 := (T0.b 2 rfl).f 0 rfl; have o1 := (T0.b 2 rfl).c 1 rfl; have u1 := (T0.b 2 rfl).f 1 rfl; have o2 := (T0.b 2 rfl).c 2 rfl; have u2 := (T0.b 2 rfl).f 2 rfl; have o3 := (T0.b 2 rfl).c 3 rfl; have u3 := (T0.b 2 rfl).f 3 rfl; have o4 := (T0.b 2 rfl).c 4 rfl; have u4 := (T0.b 2 rfl).f 4 rfl; have o5 := (T0.b 2 rfl).c 5 rfl; have u5 := (T0.b 2 rfl).f 5 rfl; have o6 := (T0.b 2 rfl).c 6 rfl; have u6 := (T0.b 2 rfl).f 6 rfl; have o7 := (T0.b 2 rfl).c 7 rfl; have u7 := (T0.b 2 rfl).f 7 rfl; have o8 := (T0.b 2 rfl).c 8 rfl; have u8 := (T0.b 2 rfl).f 8 rfl; have o9 := (T0.b 2 rfl).c 9 rfl; have u9 := (T0.b 2 rfl).f 9 rfl; have o10 := (T0.b 2 rfl).c 10 rfl; have u10 := (T0.b 2 rfl).f 10 rfl; have o11 := (T0.b 2 rfl).c 11 rfl; have u11 := (T0.b 2 rfl).f 11 rfl; have olt := (T0.b 2 rfl).lt
      have HB := T0.below
      clear T0
      go_wp2
      refine bodyPost_ret (v := .tuple #[.agg #[.int .u64 0, .int .u64 0, .int .u64 0, .int .u64 0, .int .u64 0, .int .u64 0, .int .u64 0, .int .u64 0, .int .u64 0, .int .u64 0, .int .u64 0, .int .u64 0], .bool false]) (by simp [results, Try.results34, go_sem, o0, o1, o2, o3, o4, o5, o6, o7, o8, o9, o10, o11]) rfl ?_
      refine ⟨by rw [HO.out], ?_⟩
      repeat' (refine Below.setCell ?_ (by simp; try omega) _)
      exact HB
  · replace h1 := Bool.eq_false_iff.2 h1
    rw [h1]
    have HO : Hid (midV x y z u v t = .tuple #[.agg #[.int .u64 0, .int .u64 0, .int .u64 0, .int .u64 0, .int .u64 0, .int .u64 0, .int .u64 0, .int .u64 0, .int .u64 0, .int .u64 0, .int .u64 0, .int .u64 0], .bool false]) := by show _ = _; unfold midV; rw [h1]; simp
    have o0 := (T0.b 2 rfl).c 0 rfl; have u0 := (T0.b 2 rfl).f 0 rfl; have o1 := (T0.b 2 rfl).c 1 rfl; have u1 := (T0.b 2 rfl).f 1 rfl; have o2 := (T0.b 2 rfl).c 2 rfl; have u2 := (T0.b 2 rfl).f 2 rfl; have o3 := (T0.b 2 rfl).c 3 rfl; have u3 := (T0.b 2 rfl).f 3 rfl; have o4 := (T0.b 2 rfl).c 4 rfl; have u4 := (T0.b 2 rfl).f 4 rfl; have o5 := (T0.b 2 rfl).c 5 rfl; have u5 := (T0.b 2 rfl).f 5 rfl; have o6 := (T0.b 2 rfl).c 6 rfl; have u6 := (T0.b 2 rfl).f 6 rfl; have o7 := (T0.b 2 rfl).c 7 rfl; have u7 := (T0.b 2 rfl).f 7 rfl; have o8 := (T0.b 2 rfl).c 8 rfl; have u8 := (T0.b 2 rfl).f 8 rfl; have o9 := (T0.b 2 rfl).c 9 rfl; have u9 := (T0.b 2 rfl).f 9 rfl; have o10 := (T0.b 2 rfl).c 10 rfl; have u10 := (T0.b 2 rfl).f 10 rfl; have o11 := (T0.b 2 rfl).c 11 rfl; have u11 := (T0.b 2 rfl).f 11 rfl; have olt := (T0.b 2 rfl).lt
    have HB := T0.below
    clear T0
    go_wp2
    refine bodyPost_ret (v := .tuple #[.agg #[.int .u64 0, .int .u64 0, .int .u64 0, .int .u64 0, .int .u64 0, .int .u64 0, .int .u64 0, .int .u64 0, .int .u64 0, .int .u64 0, .int .u64 0, .int .u64 0], .bool false]) (by simp [results, Try.results34, go_sem, o0, o1, o2, o3, o4, o5, o6, o7, o8, o9, o10, o11]) rfl ?_
    refine ⟨by rw [HO.out], ?_⟩
    repeat' (refine Below.setCell ?_ (by simp; try omega) _)
    exact HB
end Go.Proofs.Ytckbhihdhcgaeaa
