/- Part 14 of the walks that the proof leans on. -/
import Derived.Test.YtnflhnfjlbjgdaaPart13
import Derived.Test.YtnflhnfjlbjgdaaPart12
import Derived.Test.YtnflhnfjlbjgdaaPart11
/- The middle of two points: the program's walk. -/
namespace Go.Proofs.Ytnflhnfjlbjgdaa
open Go.RowKit
/-- The middle of two right points, and true; zeros and false where there is none. -/
def midV (x y z u v t : Int) : Value := if ptB x y z && ptB u v t then pmV (x * t + u * z) (y * t + v * z) (2 * (z * t)) else .tuple #[.agg #[.int .u64 0, .int .u64 0, .int .u64 0, .int .u64 0, .int .u64 0, .int .u64 0, .int .u64 0, .int .u64 0, .int .u64 0, .int .u64 0, .int .u64 0, .int .u64 0], .bool false]
set_option maxRecDepth 100000 in
set_option maxHeartbeats 8000000 in
theorem implMiddle_det (x y z u v t : Int) (hx : told x = true) (hy : told y = true) (hz : told z = true) (hu : told u = true) (hv : told v = true) (ht : told t = true) (w : World) : Calls Try.prog 11 #[PV x y z, PV u v t] w (VP (midV x y z u v t) w) := by
  have T0 : ArgsB w (((w.alloc (.cells #[.int .u64 (ww3 x), .int .u64 (ww2 x), .int .u64 (ww1 x), .int .u64 (ww0 x), .int .u64 (ww3 y), .int .u64 (ww2 y), .int .u64 (ww1 y), .int .u64 (ww0 y), .int .u64 (ww3 z), .int .u64 (ww2 z), .int .u64 (ww1 z), .int .u64 (ww0 z)] 28)).alloc (.cells #[.int .u64 (ww3 u), .int .u64 (ww2 u), .int .u64 (ww1 u), .int .u64 (ww0 u), .int .u64 (ww3 v), .int .u64 (ww2 v), .int .u64 (ww1 v), .int .u64 (ww0 v), .int .u64 (ww3 t), .int .u64 (ww2 t), .int .u64 (ww1 t), .int .u64 (ww0 t)] 28)).alloc (.cells #[.int .u64 0, .int .u64 0, .int .u64 0, .int .u64 0, .int .u64 0, .int .u64 0, .int .u64 0, .int .u64 0, .int .u64 0, .int .u64 0, .int .u64 0, .int .u64 0] 28)) [[.int .u64 (ww3 x), .int .u64 (ww2 x), .int .u64 (ww1 x), .int .u64 (ww0 x), .int .u64 (ww3 y), .int .u64 (ww2 y), .int .u64 (ww1 y), .int .u64 (ww0 y), .int .u64 (ww3 z), .int .u64 (ww2 z), .int .u64 (ww1 z), .int .u64 (ww0 z)], [.int .u64 (ww3 u), .int .u64 (ww2 u), .int .u64 (ww1 u), .int .u64 (ww0 u), .int .u64 (ww3 v), .int .u64 (ww2 v), .int .u64 (ww1 v), .int .u64 (ww0 v), .int .u64 (ww3 t), .int .u64 (ww2 t), .int .u64 (ww1 t), .int .u64 (ww0 t)], [.int .u64 0, .int .u64 0, .int .u64 0, .int .u64 0, .int .u64 0, .int .u64 0, .int .u64 0, .int .u64 0, .int .u64 0, .int .u64 0, .int .u64 0, .int .u64 0]] := ar3 _ _ _ _ _ _ w
  have R1 := pright_det x y z hx hy hz
  have R2 := pright_det u v t hu hv ht
  clear hx hy hz hu hv ht
  go_enter Try.func11, Try.ntmps11
  go_wp2_with fail
  generalize (((w.alloc (.cells #[.int .u64 (ww3 x), .int .u64 (ww2 x), .int .u64 (ww1 x), .int .u64 (ww0 x), .int .u64 (ww3 y), .int .u64 (ww2 y), .int .u64 (ww1 y), .int .u64 (ww0 y), .int .u64 (ww3 z), .int .u64 (ww2 z), .int .u64 (ww1 z), .int .u64 (ww0 z)] 28)).alloc (.cells #[.int .u64 (ww3 u), .int .u64 (ww2 u), .int .u64 (ww1 u), .int .u64 (ww0 u), .int .u64 (ww3 v), .int .u64 (ww2 v), .int .u64 (ww1 v), .int .u64 (ww0 v), .int .u64 (ww3 t), .int .u64 (ww2 t), .int .u64 (ww1 t), .int .u64 (ww0 t)] 28)).alloc (.cells #[.int .u64 0, .int .u64 0, .int .u64 0, .int .u64 0, .int .u64 0, .int .u64 0, .int .u64 0, .int .u64 0, .int .u64 0, .int .u64 0, .int .u64 0, .int .u64 0] 28)) = WW at *
  refine (R1 _).mono ?_
  rintro e w1 ⟨rfl, hB⟩
  replace T0 := T0.step hB
  clear hB
  by_cases h1 : ptB x y z = true
  · rw [h1]
    have X0 : Blk _ w.heap.size _ := T0.b 0 rfl; have Y0 : Blk _ (w.heap.size + 1) _ := T0.b 1 rfl; have p0 := X0.c 0 rfl; have q0 := Y0.c 0 rfl; have p1 := X0.c 1 rfl; have q1 := Y0.c 1 rfl; have p2 := X0.c 2 rfl; have q2 := Y0.c 2 rfl; have p3 := X0.c 3 rfl; have q3 := Y0.c 3 rfl; have p4 := X0.c 4 rfl; have q4 := Y0.c 4 rfl; have p5 := X0.c 5 rfl; have q5 := Y0.c 5 rfl; have p6 := X0.c 6 rfl; have q6 := Y0.c 6 rfl; have p7 := X0.c 7 rfl; have q7 := Y0.c 7 rfl; have p8 := X0.c 8 rfl; have q8 := Y0.c 8 rfl; have p9 := X0.c 9 rfl; have q9 := Y0.c 9 rfl; have p10 := X0.c 10 rfl; have q10 := Y0.c 10 rfl; have p11 := X0.c 11 rfl; have q11 := Y0.c 11 rfl; clear X0 Y0
    go_wp2_with fail
    refine (R2 _).mono ?_
    rintro e w2 ⟨rfl, hB⟩
    replace T0 := T0.step hB
    clear hB p0 q0 p1 q1 p2 q2 p3 q3 p4 q4 p5 q5 p6 q6 p7 q7 p8 q8 p9 q9 p10 q10 p11 q11
    by_cases h2 : ptB u v t = true
    · rw [h2]
      obtain ⟨-, sx, sy, sz⟩ := ptB_small h1
      obtain ⟨-, su, sv, st⟩ := ptB_small h2
      have HV : Hid (midV x y z u v t = pmV (x * t + z * u) (y * t + z * v) (z * t + z * t)) := by
        show _ = _
        unfold midV
        rw [h1, h2, if_pos (show (true && true) = true from rfl), Int.mul_comm u z, Int.mul_comm v z, Int.two_mul]
      have m1 := sm_prod sx st; have m2 := sm_prod sz su; have m3 := sm_prod sy st; have m4 := sm_prod sz sv; have m5 := sm_prod sz st
      have tx := told_small sx; have ty := told_small sy; have tz := told_small sz; have tu := told_small su; have tv := told_small sv; have tt := told_small st
      have J1 := joint_det x z u t tx tz tu tt (lr_abs (by omega)) (lr_abs (by omega)) (told_of (by omega))
      have J2 := joint_det y z v t ty tz tv tt (lr_abs (by omega)) (lr_abs (by omega)) (told_of (by omega))
      have J3 := joint_det z z t t tz tz tt tt (lr_abs (by omega)) (lr_abs (by omega)) (told_of (by omega))
      have PM := implPointMake_det (x * t + z * u) (y * t + z * v) (z * t + z * t) (told_of (by omega)) (told_of (by omega)) (told_of (by omega))
      obtain ⟨r0, r1, r2, r3, r4, r5, r6, r7, r8, r9, r10, r11, f, hf⟩ := pmV_ex (x * t + z * u) (y * t + z * v) (z * t + z * t)
      rw [hf] at PM
      have HO : Hid (midV x y z u v t = .tuple #[.agg #[.int .u64 r0, .int .u64 r1, .int .u64 r2, .int .u64 r3, .int .u64 r4, .int .u64 r5, .int .u64 r6, .int .u64 r7, .int .u64 r8, .int .u64 r9, .int .u64 r10, .int .u64 r11], .bool f]) := HV.out.trans hf
      clear hf HV h1 h2 R1 R2 sx sy sz su sv st m1 m2 m3 m4 m5 tx ty tz tu tv tt
      generalize x * t + z * u = X at *
      generalize y * t + z * v = Y at *
      generalize z * t + z * t = Z at *
      have X0 : Blk _ w.heap.size _ := T0.b 0 rfl; have Y0 : Blk _ (w.heap.size + 1) _ := T0.b 1 rfl; have p0 := X0.c 0 rfl; have q0 := Y0.c 0 rfl; have p1 := X0.c 1 rfl; have q1 := Y0.c 1 rfl; have p2 := X0.c 2 rfl; have q2 := Y0.c 2 rfl; have p3 := X0.c 3 rfl; have q3 := Y0.c 3 rfl; have p4 := X0.c 4 rfl; have q4 := Y0.c 4 rfl; have p5 := X0.c 5 rfl; have q5 := Y0.c 5 rfl; have p6 := X0.c 6 rfl; have q6 := Y0.c 6 rfl; have p7 := X0.c 7 rfl; have q7 := Y0.c 7 rfl; have p8 := X0.c 8 rfl; have q8 := Y0.c 8 rfl; have p9 := X0.c 9 rfl; have q9 := Y0.c 9 rfl; have p10 := X0.c 10 rfl; have q10 := Y0.c 10 rfl; have p11 := X0.c 11 rfl; have q11 := Y0.c 11 rfl; clear X0 Y0
      go_wp2_with fail
      refine (J1 _).mono ?_
      rintro e w3 ⟨rfl, hB⟩
      replace T0 := (T0.step hB).alloc (.cells #[.int .u64 (ww3 X), .int .u64 (ww2 X), .int .u64 (ww1 X), .int .u64 (ww0 X)] 26)
      have BX := Blk.new w3 [.int .u64 (ww3 X), .int .u64 (ww2 X), .int .u64 (ww1 X), .int .u64 (ww0 X)] 26 rfl
      clear hB p0 q0 p1 q1 p2 q2 p3 q3 p4 q4 p5 q5 p6 q6 p7 q7 p8 q8 p9 q9 p10 q10 p11 q11 J1
      have X0 : Blk _ w.heap.size _ := T0.b 0 rfl; have Y0 : Blk _ (w.heap.size + 1) _ := T0.b 1 rfl; have p0 := X0.c 0 rfl; have q0 := Y0.c 0 rfl; have p1 := X0.c 1 rfl; have q1 := Y0.c 1 rfl; have p2 := X0.c 2 rfl; have q2 := Y0.c 2 rfl; have p3 := X0.c 3 rfl; have q3 := Y0.c 3 rfl; have p4 := X0.c 4 rfl; have q4 := Y0.c 4 rfl; have p5 := X0.c 5 rfl; have q5 := Y0.c 5 rfl; have p6 := X0.c 6 rfl; have q6 := Y0.c 6 rfl; have p7 := X0.c 7 rfl; have q7 := Y0.c 7 rfl; have p8 := X0.c 8 rfl; have q8 := Y0.c 8 rfl; have p9 := X0.c 9 rfl; have q9 := Y0.c 9 rfl; have p10 := X0.c 10 rfl; have q10 := Y0.c 10 rfl; have p11 := X0.c 11 rfl; have q11 := Y0.c 11 rfl; clear X0 Y0
      go_wp2_with fail
      generalize w3.heap.size = gX at *
      refine (J2 _).mono ?_
      rintro e w4 ⟨rfl, hB⟩
      replace T0 := (T0.step hB).alloc (.cells #[.int .u64 (ww3 Y), .int .u64 (ww2 Y), .int .u64 (ww1 Y), .int .u64 (ww0 Y)] 26)
      replace BX := (BX.step hB).alloc (.cells #[.int .u64 (ww3 Y), .int .u64 (ww2 Y), .int .u64 (ww1 Y), .int .u64 (ww0 Y)] 26)
      have BY := Blk.new w4 [.int .u64 (ww3 Y), .int .u64 (ww2 Y), .int .u64 (ww1 Y), .int .u64 (ww0 Y)] 26 rfl
      clear hB p0 q0 p1 q1 p2 q2 p3 q3 p4 q4 p5 q5 p6 q6 p7 q7 p8 q8 p9 q9 p10 q10 p11 q11 J2
      have X0 : Blk _ w.heap.size _ := T0.b 0 rfl; have Y0 : Blk _ (w.heap.size + 1) _ := T0.b 1 rfl; have p0 := X0.c 0 rfl; have q0 := Y0.c 0 rfl; have p1 := X0.c 1 rfl; have q1 := Y0.c 1 rfl; have p2 := X0.c 2 rfl; have q2 := Y0.c 2 rfl; have p3 := X0.c 3 rfl; have q3 := Y0.c 3 rfl; have p4 := X0.c 4 rfl; have q4 := Y0.c 4 rfl; have p5 := X0.c 5 rfl; have q5 := Y0.c 5 rfl; have p6 := X0.c 6 rfl; have q6 := Y0.c 6 rfl; have p7 := X0.c 7 rfl; have q7 := Y0.c 7 rfl; have p8 := X0.c 8 rfl; have q8 := Y0.c 8 rfl; have p9 := X0.c 9 rfl; have q9 := Y0.c 9 rfl; have p10 := X0.c 10 rfl; have q10 := Y0.c 10 rfl; have p11 := X0.c 11 rfl; have q11 := Y0.c 11 rfl; clear X0 Y0
      go_wp2_with fail
      generalize w4.heap.size = gY at *
      refine (J3 _).mono ?_
      rintro e w5 ⟨rfl, hB⟩
      replace T0 := (T0.step hB).alloc (.cells #[.int .u64 (ww3 Z), .int .u64 (ww2 Z), .int .u64 (ww1 Z), .int .u64 (ww0 Z)] 26)
      replace BX := (BX.step hB).alloc (.cells #[.int .u64 (ww3 Z), .int .u64 (ww2 Z), .int .u64 (ww1 Z), .int .u64 (ww0 Z)] 26)
      replace BY := (BY.step hB).alloc (.cells #[.int .u64 (ww3 Z), .int .u64 (ww2 Z), .int .u64 (ww1 Z), .int .u64 (ww0 Z)] 26)
      clear hB p0 q0 p1 q1 p2 q2 p3 q3 p4 q4 p5 q5 p6 q6 p7 q7 p8 q8 p9 q9 p10 q10 p11 q11 J3
      have bx0 := BX.c 0 rfl; have by0 := BY.c 0 rfl; have bx1 := BX.c 1 rfl; have by1 := BY.c 1 rfl; have bx2 := BX.c 2 rfl; have by2 := BY.c 2 rfl; have bx3 := BX.c 3 rfl; have by3 := BY.c 3 rfl
      go_wp2_with fail
      refine (PM _).mono ?_
      rintro e w6 ⟨rfl, hB⟩
      replace T0 := T0.step hB
      have o0 := (T0.b 2 rfl).c 0 rfl; have u0 := (T0.b 2 rfl).f 0 rfl; have o1 := (T0.b 2 rfl).c 1 rfl; have u1 := (T0.b 2 rfl).f 1 rfl; have o2 := (T0.b 2 rfl).c 2 rfl; have u2 := (T0.b 2 rfl).f 2 rfl; have o3 := (T0.b 2 rfl).c 3 rfl; have u3 := (T0.b 2 rfl).f 3 rfl; have o4 := (T0.b 2 rfl).c 4 rfl; have u4 := (T0.b 2 rfl).f 4 rfl; have o5 := (T0.b 2 rfl).c 5 rfl; have u5 := (T0.b 2 rfl).f 5 rfl; have o6 := (T0.b 2 rfl).c 6 rfl; have u6 := (T0.b 2 rfl).f 6 rfl; have o7 := (T0.b 2 rfl).c 7 rfl; have u7 := (T0.b 2 rfl).f 7 rfl; have o8 := (T0.b 2 rfl).c 8 rfl; have u8 := (T0.b 2 rfl).f 8 rfl; have o9 := (T0.b 2 rfl).c 9 rfl; have u9 := (T0.b 2 rfl).f 9 rfl; have o10 := (T0.b 2 rfl).c 10 rfl; have u10 := (T0.b 2 rfl).f 10 rfl; have o11 := (T0.b 2 rfl).c 11 rfl; have u11 := (T0.b 2 rfl).f 11 rfl; have olt := (T0.b 2 rfl).lt
      have HB := T0.below
      clear hB T0 BX BY bx0 by0 bx1 by1 bx2 by2 bx3 by3 PM
      go_wp2
      refine bodyPost_ret (v := .tuple #[.agg #[.int .u64 r0, .int .u64 r1, .int .u64 r2, .int .u64 r3, .int .u64 r4, .int .u64 r5, .int .u64 r6, .int .u64 r7, .int .u64 r8, .int .u64 r9, .int .u64 r10, .int .u64 r11], .bool f]) (by simp [results, Try.results11, go_sem, o0, o1, o2, o3, o4, o5, o6, o7, o8, o9, o10, o11]) rfl ?_
      refine ⟨by rw [HO.out], ?_⟩
      repeat' (refine Below.setCell ?_ (by simp; try omega) _)
      exact HB
    · replace h2 := Bool.eq_false_iff.2 h2
      rw [h2]
      have HO : Hid (midV x y z u v t = .tuple #[.agg #[.int .u64 0, .int .u64 0, .int .u64 0, .int .u64 0, .int .u64 0, .int .u64 0, .int .u64 0, .int .u64 0, .int .u64 0, .int .u64 0, .int .u64 0, .int .u64 0], .bool false]) := by show _ = _; unfold midV; rw [h2]; simp
      have o0 := (T0.b 2 rfl).c 0 rfl; have u0 := (T0.b 2 rfl).f 0 rfl; have o1 := (T0.b 2 rfl).c 1 rfl; have u1 := (T0.b 2 rfl).f 1 rfl; have o2 := (T0.b 2 rfl).c 2 rfl; have u2 := (T0.b 2 rfl).f 2 rfl; have o3 := (T0.b 2 rfl).c 3 rfl; have u3 := (T0.b 2 rfl).f 3 rfl; have o4 := (T0.b 2 rfl).c 4 rfl; have u4 := (T0.b 2 rfl).f 4 rfl; have o5 := (T0.b 2 rfl).c 5 rfl; have u5 := (T0.b 2 rfl).f 5 rfl; have o6 := (T0.b 2 rfl).c 6 rfl; have u6 := (T0.b 2 rfl).f 6 rfl; have o7 := (T0.b 2 rfl).c 7 rfl; have u7 := (T0.b 2 rfl).f 7 rfl; have o8 := (T0.b 2 rfl).c 8 rfl; have u8 := (T0.b 2 rfl).f 8 rfl; have o9 := (T0.b 2 rfl).c 9 rfl; have u9 := (T0.b 2 rfl).f 9 rfl; have o10 := (T0.b 2 rfl).c 10 rfl; have u10 := (T0.b 2 rfl).f 10 rfl; have o11 := (T0.b 2 rfl).c 11 rfl; have u11 := (T0.b 2 rfl).f 11 rfl; have olt := (T0.b 2 rfl).lt
      have HB := T0.below
      clear T0
      go_wp2
      refine bodyPost_ret (v := .tuple #[.agg #[.int .u64 0, .int .u64 0, .int .u64 0, .int .u64 0, .int .u64 0, .int .u64 0, .int .u64 0, .int .u64 0, .int .u64 0, .int .u64 0, .int .u64 0, .int .u64 0], .bool false]) (by simp [results, Try.results11, go_sem, o0, o1, o2, o3, o4, o5, o6, o7, o8, o9, o10, o11]) rfl ?_
      refine ⟨by rw [HO.out], ?_⟩
      repeat' (refine Below.setCell ?_ (by simp; try omega) _)
      exact HB
  · replace h1 := Bool.eq_false_iff.2 h1
    rw [h1]
    have HO : Hid (midV x y z u v t = .tuple #[.agg #[.int .u64 0, .int .u64 0, .int .u64 0, .int .u64 0, .int .u64 0, .int .u64 0, .int .u64 0, .int .u64 0, .int .u64 0, .int .u64 0, .int .u64 0, .int .u64 0], .bool false]) := by show _ = _; unfold midV; rw [h1]; simp
    have o0 := (T0.b 2 rfl).c 0 rfl; have u0 := (T0.b 2 rfl).f 0 rfl; have o1 := (T0.b 2 rfl).c 1 rfl; have u1 := (T0.b 2 rfl).f 1 rfl; have o2 := (T0.b 2 rfl).c 2 rfl; have u2 := (T0.b 2 rfl).f 2 rfl; have o3 := (T0.b 2 rfl).c 3 rfl; have u3 := (T0.b 2 rfl).f 3 rfl; have o4 := (T0.b 2 rfl).c 4 rfl; have u4 := (T0.b 2 rfl).f 4 rfl; have o5 := (T0.b 2 rfl).c 5 rfl; have u5 := (T0.b 2 rfl).f 5 rfl; have o6 := (T0.b 2 rfl).c 6 rfl; have u6 := (T0.b 2 rfl).f 6 rfl; have o7 := (T0.b 2 rfl).c 7 rfl; have u7 := (T0.b 2 rfl).f 7 rfl; have o8 := (T0.b 2 rfl).c 8 rfl; have u8 := (T0.b 2 rfl).f 8 rfl; have o9 := (T0.b 2 rfl).c 9 rfl; have u9 := (T0.b 2 rfl).f 9 rfl; have o10 := (T0.b 2 rfl).c 10 rfl; have u10 := (T0.b 2 rfl).f 10 rfl; have o11 := (T0.b 2 rfl).c 11 rfl; have u11 := (T0.b 2 rfl).f 11 rfl; have olt := (T0.b 2 rfl).lt
    have HB := T0.below
    clear T0
    go_wp2
    refine bodyPost_ret (v := .tuple #[.agg #[.int .u64 0, .int .u64 0, .int .u64 0, .int .u64 0, .int .u64 0, .int .u64 0, .int .u64 0, .int .u64 0, .int .u64 0, .int .u64 0, .int .u64 0, .int .u64 0], .bool false]) (by simp [results, Try.results11, go_sem, o0, o1, o2, o3, o4, o5, o6, o7, o8, o9, o10, o11]) rfl ?_
    refine ⟨by rw [HO.out], ?_⟩
    repeat' (refine Below.setCell ?_ (by simp; try omega) _)
    exact HB
end Go.Proofs.Ytnflhnfjlbjgdaa

/- The middle of two points: the model's walk. -/
namespace Go.Proofs.Ytnflhnfjlbjgdaa
open Go.RowKit
theorem md_cells {ps1 ps2 ps3 : Bool} {po1 po2 po3 : Option Addr} {pn1 pc1 pn2 pc2 pn3 pc3 : Nat} {qs1 qs2 qs3 : Bool} {qo1 qo2 qo3 : Option Addr} {qn1 qc1 qn2 qc2 qn3 qc3 : Nat} {W : World} {gp gq : Nat} (Xp : Blk W gp [.bool ps1, .slice po1 pn1 pc1, .bool ps2, .slice po2 pn2 pc2, .bool ps3, .slice po3 pn3 pc3]) (Xq : Blk W gq [.bool qs1, .slice qo1 qn1 qc1, .bool qs2, .slice qo2 qn2 qc2, .bool qs3, .slice qo3 qn3 qc3]) : (fun w' => w'.cell? ⟨gp, 0, none⟩ = some (.bool ps1) ∧ w'.cell? ⟨gp, 1, none⟩ = some (.slice po1 pn1 pc1) ∧ w'.cell? ⟨gp, 2, none⟩ = some (.bool ps2) ∧ w'.cell? ⟨gp, 3, none⟩ = some (.slice po2 pn2 pc2) ∧ w'.cell? ⟨gp, 4, none⟩ = some (.bool ps3) ∧ w'.cell? ⟨gp, 5, none⟩ = some (.slice po3 pn3 pc3) ∧ w'.cell? ⟨gq, 0, none⟩ = some (.bool qs1) ∧ w'.cell? ⟨gq, 1, none⟩ = some (.slice qo1 qn1 qc1) ∧ w'.cell? ⟨gq, 2, none⟩ = some (.bool qs2) ∧ w'.cell? ⟨gq, 3, none⟩ = some (.slice qo2 qn2 qc2) ∧ w'.cell? ⟨gq, 4, none⟩ = some (.bool qs3) ∧ w'.cell? ⟨gq, 5, none⟩ = some (.slice qo3 qn3 qc3)) W := ⟨Xp.c 0 rfl, Xp.c 1 rfl, Xp.c 2 rfl, Xp.c 3 rfl, Xp.c 4 rfl, Xp.c 5 rfl, Xq.c 0 rfl, Xq.c 1 rfl, Xq.c 2 rfl, Xq.c 3 rfl, Xq.c 4 rfl, Xq.c 5 rfl⟩
theorem md_cells12 {ps1 ps2 ps3 : Bool} {po1 po2 po3 : Option Addr} {pn1 pc1 pn2 pc2 pn3 pc3 : Nat} {qs1 qs2 qs3 : Bool} {qo1 qo2 qo3 : Option Addr} {qn1 qc1 qn2 qc2 qn3 qc3 : Nat} {W : World} {gp gq g : Nat} {v0 v1 v2 v3 v4 v5 v6 v7 v8 v9 v10 v11 : Value} (Xp : Blk W gp [.bool ps1, .slice po1 pn1 pc1, .bool ps2, .slice po2 pn2 pc2, .bool ps3, .slice po3 pn3 pc3]) (Xq : Blk W gq [.bool qs1, .slice qo1 qn1 qc1, .bool qs2, .slice qo2 qn2 qc2, .bool qs3, .slice qo3 qn3 qc3]) (hp : gp ≠ g) (hq : gq ≠ g) : (fun w' => w'.cell? ⟨gp, 0, none⟩ = some (.bool ps1) ∧ w'.cell? ⟨gp, 1, none⟩ = some (.slice po1 pn1 pc1) ∧ w'.cell? ⟨gp, 2, none⟩ = some (.bool ps2) ∧ w'.cell? ⟨gp, 3, none⟩ = some (.slice po2 pn2 pc2) ∧ w'.cell? ⟨gp, 4, none⟩ = some (.bool ps3) ∧ w'.cell? ⟨gp, 5, none⟩ = some (.slice po3 pn3 pc3) ∧ w'.cell? ⟨gq, 0, none⟩ = some (.bool qs1) ∧ w'.cell? ⟨gq, 1, none⟩ = some (.slice qo1 qn1 qc1) ∧ w'.cell? ⟨gq, 2, none⟩ = some (.bool qs2) ∧ w'.cell? ⟨gq, 3, none⟩ = some (.slice qo2 qn2 qc2) ∧ w'.cell? ⟨gq, 4, none⟩ = some (.bool qs3) ∧ w'.cell? ⟨gq, 5, none⟩ = some (.slice qo3 qn3 qc3)) ((((((((((((W.setCell ⟨g, 0, none⟩ v0).setCell ⟨g, 1, none⟩ v1).setCell ⟨g, 2, none⟩ v2).setCell ⟨g, 3, none⟩ v3).setCell ⟨g, 4, none⟩ v4).setCell ⟨g, 5, none⟩ v5).setCell ⟨g, 6, none⟩ v6).setCell ⟨g, 7, none⟩ v7).setCell ⟨g, 8, none⟩ v8).setCell ⟨g, 9, none⟩ v9).setCell ⟨g, 10, none⟩ v10).setCell ⟨g, 11, none⟩ v11) := ⟨(Xp.set12 hp).c 0 rfl, (Xp.set12 hp).c 1 rfl, (Xp.set12 hp).c 2 rfl, (Xp.set12 hp).c 3 rfl, (Xp.set12 hp).c 4 rfl, (Xp.set12 hp).c 5 rfl, (Xq.set12 hq).c 0 rfl, (Xq.set12 hq).c 1 rfl, (Xq.set12 hq).c 2 rfl, (Xq.set12 hq).c 3 rfl, (Xq.set12 hq).c 4 rfl, (Xq.set12 hq).c 5 rfl⟩
set_option maxRecDepth 100000 in
set_option maxHeartbeats 16000000 in
theorem specMiddle_det (x y z u v t : Int) (hx : told x = true) (hy : told y = true) (hz : told z = true) (hu : told u = true) (hv : told v = true) (ht : told t = true) (w : World) : Calls Try.prog 12 #[PV x y z, PV u v t] w (VP (midV x y z u v t) w) := by
  have T0 : ArgsB w (((w.alloc (.cells #[.int .u64 (ww3 x), .int .u64 (ww2 x), .int .u64 (ww1 x), .int .u64 (ww0 x), .int .u64 (ww3 y), .int .u64 (ww2 y), .int .u64 (ww1 y), .int .u64 (ww0 y), .int .u64 (ww3 z), .int .u64 (ww2 z), .int .u64 (ww1 z), .int .u64 (ww0 z)] 28)).alloc (.cells #[.int .u64 (ww3 u), .int .u64 (ww2 u), .int .u64 (ww1 u), .int .u64 (ww0 u), .int .u64 (ww3 v), .int .u64 (ww2 v), .int .u64 (ww1 v), .int .u64 (ww0 v), .int .u64 (ww3 t), .int .u64 (ww2 t), .int .u64 (ww1 t), .int .u64 (ww0 t)] 28)).alloc (.cells #[.int .u64 0, .int .u64 0, .int .u64 0, .int .u64 0, .int .u64 0, .int .u64 0, .int .u64 0, .int .u64 0, .int .u64 0, .int .u64 0, .int .u64 0, .int .u64 0] 28)) [[.int .u64 (ww3 x), .int .u64 (ww2 x), .int .u64 (ww1 x), .int .u64 (ww0 x), .int .u64 (ww3 y), .int .u64 (ww2 y), .int .u64 (ww1 y), .int .u64 (ww0 y), .int .u64 (ww3 z), .int .u64 (ww2 z), .int .u64 (ww1 z), .int .u64 (ww0 z)], [.int .u64 (ww3 u), .int .u64 (ww2 u), .int .u64 (ww1 u), .int .u64 (ww0 u), .int .u64 (ww3 v), .int .u64 (ww2 v), .int .u64 (ww1 v), .int .u64 (ww0 v), .int .u64 (ww3 t), .int .u64 (ww2 t), .int .u64 (ww1 t), .int .u64 (ww0 t)], [.int .u64 0, .int .u64 0, .int .u64 0, .int .u64 0, .int .u64 0, .int .u64 0, .int .u64 0, .int .u64 0, .int .u64 0, .int .u64 0, .int .u64 0, .int .u64 0]] := ar3 _ _ _ _ _ _ w
  have R1 := specPointOk_det x y z hx hy hz
  have R2 := specPointOk_det u v t hu hv ht
  have F1 := l3Of_det x y z hx hy hz
  have F2 := l3Of_det u v t hu hv ht
  clear hx hy hz hu hv ht
  go_enter Try.func12, Try.ntmps12
  go_wp2_with fail
  generalize (((w.alloc (.cells #[.int .u64 (ww3 x), .int .u64 (ww2 x), .int .u64 (ww1 x), .int .u64 (ww0 x), .int .u64 (ww3 y), .int .u64 (ww2 y), .int .u64 (ww1 y), .int .u64 (ww0 y), .int .u64 (ww3 z), .int .u64 (ww2 z), .int .u64 (ww1 z), .int .u64 (ww0 z)] 28)).alloc (.cells #[.int .u64 (ww3 u), .int .u64 (ww2 u), .int .u64 (ww1 u), .int .u64 (ww0 u), .int .u64 (ww3 v), .int .u64 (ww2 v), .int .u64 (ww1 v), .int .u64 (ww0 v), .int .u64 (ww3 t), .int .u64 (ww2 t), .int .u64 (ww1 t), .int .u64 (ww0 t)] 28)).alloc (.cells #[.int .u64 0, .int .u64 0, .int .u64 0, .int .u64 0, .int .u64 0, .int .u64 0, .int .u64 0, .int .u64 0, .int .u64 0, .int .u64 0, .int .u64 0, .int .u64 0] 28)) = WW at *
  refine (R1 _).mono ?_
  rintro e w1 ⟨rfl, hB⟩
  replace T0 := T0.step hB
  clear hB
  by_cases h1 : ptB x y z = true
  · rw [h1]
    have X0 : Blk _ w.heap.size _ := T0.b 0 rfl; have Y0 : Blk _ (w.heap.size + 1) _ := T0.b 1 rfl; have p0 := X0.c 0 rfl; have q0 := Y0.c 0 rfl; have p1 := X0.c 1 rfl; have q1 := Y0.c 1 rfl; have p2 := X0.c 2 rfl; have q2 := Y0.c 2 rfl; have p3 := X0.c 3 rfl; have q3 := Y0.c 3 rfl; have p4 := X0.c 4 rfl; have q4 := Y0.c 4 rfl; have p5 := X0.c 5 rfl; have q5 := Y0.c 5 rfl; have p6 := X0.c 6 rfl; have q6 := Y0.c 6 rfl; have p7 := X0.c 7 rfl; have q7 := Y0.c 7 rfl; have p8 := X0.c 8 rfl; have q8 := Y0.c 8 rfl; have p9 := X0.c 9 rfl; have q9 := Y0.c 9 rfl; have p10 := X0.c 10 rfl; have q10 := Y0.c 10 rfl; have p11 := X0.c 11 rfl; have q11 := Y0.c 11 rfl; clear X0 Y0
    go_wp2_with fail
    refine (R2 _).mono ?_
    rintro e w2 ⟨rfl, hB⟩
    replace T0 := T0.step hB
    clear hB p0 q0 p1 q1 p2 q2 p3 q3 p4 q4 p5 q5 p6 q6 p7 q7 p8 q8 p9 q9 p10 q10 p11 q11
    by_cases h2 : ptB u v t = true
    · rw [h2]
      obtain ⟨pz, -, -, -⟩ := ptB_small h1
      obtain ⟨pt, -, -, -⟩ := ptB_small h2
      have hne : 2 * (z * t) ≠ 0 := by
        have h := Int.mul_pos pz pt
        omega
      have HV : Hid (midV x y z u v t = pmV (x * t + u * z) (y * t + v * z) (2 * (z * t))) := by show _ = _; unfold midV; rw [h1, h2, if_pos (show (true && true) = true from rfl)]
      have HP : Hid (pmV (x * t + u * z) (y * t + v * z) (2 * (z * t)) = ptV (shareZ (x * t + u * z) (Int.gcd (Int.gcd (x * t + u * z) (y * t + v * z) : Int) (2 * (z * t)) : Int) (decide (2 * (z * t) < 0))) (shareZ (y * t + v * z) (Int.gcd (Int.gcd (x * t + u * z) (y * t + v * z) : Int) (2 * (z * t)) : Int) (decide (2 * (z * t) < 0))) (shareZ (2 * (z * t)) (Int.gcd (Int.gcd (x * t + u * z) (y * t + v * z) : Int) (2 * (z * t)) : Int) (decide (2 * (z * t) < 0)))) := by show _ = _; unfold pmV; rw [if_neg hne]
      obtain ⟨r0, r1, r2, r3, r4, r5, r6, r7, r8, r9, r10, r11, f, hf⟩ := pmV_ex (x * t + u * z) (y * t + v * z) (2 * (z * t))
      have HO : Hid (midV x y z u v t = .tuple #[.agg #[.int .u64 r0, .int .u64 r1, .int .u64 r2, .int .u64 r3, .int .u64 r4, .int .u64 r5, .int .u64 r6, .int .u64 r7, .int .u64 r8, .int .u64 r9, .int .u64 r10, .int .u64 r11], .bool f]) := HV.out.trans hf
      have ht := HP.out.symm.trans hf
      clear hf HV HP h1 h2 R1 R2 pz pt
      have X0 : Blk _ w.heap.size _ := T0.b 0 rfl; have Y0 : Blk _ (w.heap.size + 1) _ := T0.b 1 rfl; have p0 := X0.c 0 rfl; have q0 := Y0.c 0 rfl; have p1 := X0.c 1 rfl; have q1 := Y0.c 1 rfl; have p2 := X0.c 2 rfl; have q2 := Y0.c 2 rfl; have p3 := X0.c 3 rfl; have q3 := Y0.c 3 rfl; have p4 := X0.c 4 rfl; have q4 := Y0.c 4 rfl; have p5 := X0.c 5 rfl; have q5 := Y0.c 5 rfl; have p6 := X0.c 6 rfl; have q6 := Y0.c 6 rfl; have p7 := X0.c 7 rfl; have q7 := Y0.c 7 rfl; have p8 := X0.c 8 rfl; have q8 := Y0.c 8 rfl; have p9 := X0.c 9 rfl; have q9 := Y0.c 9 rfl; have p10 := X0.c 10 rfl; have q10 := Y0.c 10 rfl; have p11 := X0.c 11 rfl; have q11 := Y0.c 11 rfl; clear X0 Y0
      go_wp2_with fail
      refine (F1 _).mono ?_
      rintro e w3 ⟨ps1, po1, pn1, pc1, pd1, ps2, po2, pn2, pc2, pd2, ps3, po3, pn3, pc3, pd3, rfl, Np1, Np2, Np3, hB⟩
      have hgp : w.heap.size + 2 < w3.heap.size := ((T0.step hB).b 2 rfl).lt
      replace T0 := (T0.step hB).alloc (.cells #[.bool ps1, .slice po1 pn1 pc1, .bool ps2, .slice po2 pn2 pc2, .bool ps3, .slice po3 pn3 pc3] 58)
      have Xp := Blk.new w3 [.bool ps1, .slice po1 pn1 pc1, .bool ps2, .slice po2 pn2 pc2, .bool ps3, .slice po3 pn3 pc3] 58 rfl
      replace Np1 := Np1.alloc (.cells #[.bool ps1, .slice po1 pn1 pc1, .bool ps2, .slice po2 pn2 pc2, .bool ps3, .slice po3 pn3 pc3] 58); replace Np2 := Np2.alloc (.cells #[.bool ps1, .slice po1 pn1 pc1, .bool ps2, .slice po2 pn2 pc2, .bool ps3, .slice po3 pn3 pc3] 58); replace Np3 := Np3.alloc (.cells #[.bool ps1, .slice po1 pn1 pc1, .bool ps2, .slice po2 pn2 pc2, .bool ps3, .slice po3 pn3 pc3] 58)
      clear hB F1 p0 q0 p1 q1 p2 q2 p3 q3 p4 q4 p5 q5 p6 q6 p7 q7 p8 q8 p9 q9 p10 q10 p11 q11
      have X0 : Blk _ w.heap.size _ := T0.b 0 rfl; have Y0 : Blk _ (w.heap.size + 1) _ := T0.b 1 rfl; have p0 := X0.c 0 rfl; have q0 := Y0.c 0 rfl; have p1 := X0.c 1 rfl; have q1 := Y0.c 1 rfl; have p2 := X0.c 2 rfl; have q2 := Y0.c 2 rfl; have p3 := X0.c 3 rfl; have q3 := Y0.c 3 rfl; have p4 := X0.c 4 rfl; have q4 := Y0.c 4 rfl; have p5 := X0.c 5 rfl; have q5 := Y0.c 5 rfl; have p6 := X0.c 6 rfl; have q6 := Y0.c 6 rfl; have p7 := X0.c 7 rfl; have q7 := Y0.c 7 rfl; have p8 := X0.c 8 rfl; have q8 := Y0.c 8 rfl; have p9 := X0.c 9 rfl; have q9 := Y0.c 9 rfl; have p10 := X0.c 10 rfl; have q10 := Y0.c 10 rfl; have p11 := X0.c 11 rfl; have q11 := Y0.c 11 rfl; clear X0 Y0
      go_wp2_with fail
      refine (F2 _).mono ?_
      rintro e w4 ⟨qs1, qo1, qn1, qc1, qd1, qs2, qo2, qn2, qc2, qd2, qs3, qo3, qn3, qc3, qd3, rfl, Nq1, Nq2, Nq3, hB⟩
      replace Np1 := Np1.below hB; replace Np2 := Np2.below hB; replace Np3 := Np3.below hB
      replace T0 := (T0.step hB).alloc (.cells #[.bool qs1, .slice qo1 qn1 qc1, .bool qs2, .slice qo2 qn2 qc2, .bool qs3, .slice qo3 qn3 qc3] 58)
      replace Xp := Xp.step hB
      have hgq : w3.heap.size < w4.heap.size := Xp.lt
      replace Xp := Xp.alloc (.cells #[.bool qs1, .slice qo1 qn1 qc1, .bool qs2, .slice qo2 qn2 qc2, .bool qs3, .slice qo3 qn3 qc3] 58)
      have Xq := Blk.new w4 [.bool qs1, .slice qo1 qn1 qc1, .bool qs2, .slice qo2 qn2 qc2, .bool qs3, .slice qo3 qn3 qc3] 58 rfl
      replace Np1 := (Np1.alloc (.cells #[.bool qs1, .slice qo1 qn1 qc1, .bool qs2, .slice qo2 qn2 qc2, .bool qs3, .slice qo3 qn3 qc3] 58)).drew; replace Np2 := (Np2.alloc (.cells #[.bool qs1, .slice qo1 qn1 qc1, .bool qs2, .slice qo2 qn2 qc2, .bool qs3, .slice qo3 qn3 qc3] 58)).drew; replace Np3 := (Np3.alloc (.cells #[.bool qs1, .slice qo1 qn1 qc1, .bool qs2, .slice qo2 qn2 qc2, .bool qs3, .slice qo3 qn3 qc3] 58)).drew; replace Nq1 := (Nq1.alloc (.cells #[.bool qs1, .slice qo1 qn1 qc1, .bool qs2, .slice qo2 qn2 qc2, .bool qs3, .slice qo3 qn3 qc3] 58)).drew; replace Nq2 := (Nq2.alloc (.cells #[.bool qs1, .slice qo1 qn1 qc1, .bool qs2, .slice qo2 qn2 qc2, .bool qs3, .slice qo3 qn3 qc3] 58)).drew; replace Nq3 := (Nq3.alloc (.cells #[.bool qs1, .slice qo1 qn1 qc1, .bool qs2, .slice qo2 qn2 qc2, .bool qs3, .slice qo3 qn3 qc3] 58)).drew
      clear hB F2 p0 q0 p1 q1 p2 q2 p3 q3 p4 q4 p5 q5 p6 q6 p7 q7 p8 q8 p9 q9 p10 q10 p11 q11
      have tk0 : True := trivial; have tk1 : True := trivial; have tk2 : True := trivial; have tk3 : True := trivial; have tk4 : True := trivial; have tk5 : True := trivial; have tk6 : True := trivial; have tk7 : True := trivial
      go_upto_region 5 with fail
      generalize w4.alloc (.cells #[.bool qs1, .slice qo1 qn1 qc1, .bool qs2, .slice qo2 qn2 qc2, .bool qs3, .slice qo3 qn3 qc3] 58) = W4' at *
      generalize w4.heap.size = gq at *
      generalize w3.heap.size = gp at *
      go_region_held3 (fun w' => w'.cell? ⟨gp, 0, none⟩ = some (.bool ps1) ∧ w'.cell? ⟨gp, 1, none⟩ = some (.slice po1 pn1 pc1) ∧ w'.cell? ⟨gp, 2, none⟩ = some (.bool ps2) ∧ w'.cell? ⟨gp, 3, none⟩ = some (.slice po2 pn2 pc2) ∧ w'.cell? ⟨gp, 4, none⟩ = some (.bool ps3) ∧ w'.cell? ⟨gp, 5, none⟩ = some (.slice po3 pn3 pc3) ∧ w'.cell? ⟨gq, 0, none⟩ = some (.bool qs1) ∧ w'.cell? ⟨gq, 1, none⟩ = some (.slice qo1 qn1 qc1) ∧ w'.cell? ⟨gq, 2, none⟩ = some (.bool qs2) ∧ w'.cell? ⟨gq, 3, none⟩ = some (.slice qo2 qn2 qc2) ∧ w'.cell? ⟨gq, 4, none⟩ = some (.bool qs3) ∧ w'.cell? ⟨gq, 5, none⟩ = some (.slice qo3 qn3 qc3)) (first | (with_reducible exact md_cells Xp Xq) | (with_reducible exact md_cells Xp.drew Xq.drew) | (with_reducible exact md_cells12 Xp Xq (by omega) (by omega)))
        (first
          | (go_at_call 34; have _t := tk0; refine (mul_any ps1 qs3 po1 qo3 pn1 qn3 pc1 qc3 8 pd1 qd3 _ _ _ Np1 Nq3 (by omega)).mono ?_; rintro e k1 ⟨fas, fao, fan, fac, fad, rfl, Nfa, hB⟩; (first | (have T1 := T0.step hB; replace Xp := Xp.step hB; replace Xq := Xq.step hB) | (have T1 := T0.drew.step hB; replace Xp := Xp.drew.step hB; replace Xq := Xq.drew.step hB)); clear T0; have T0 := T1; clear T1; replace Np1 := Np1.below hB; replace Np2 := Np2.below hB; replace Np3 := Np3.below hB; replace Nq1 := Nq1.below hB; replace Nq2 := Nq2.below hB; replace Nq3 := Nq3.below hB; clear hB tk0 _t)
          | (go_at_call 34; have _t := tk1; refine (mul_any qs1 ps3 qo1 po3 qn1 pn3 qc1 pc3 8 qd1 pd3 _ _ _ Nq1 Np3 (by omega)).mono ?_; rintro e k2 ⟨fbs, fbo, fbn, fbc, fbd, rfl, Nfb, hB⟩; (first | (have T1 := T0.step hB; replace Xp := Xp.step hB; replace Xq := Xq.step hB) | (have T1 := T0.drew.step hB; replace Xp := Xp.drew.step hB; replace Xq := Xq.drew.step hB)); clear T0; have T0 := T1; clear T1; replace Np1 := Np1.below hB; replace Np2 := Np2.below hB; replace Np3 := Np3.below hB; replace Nq1 := Nq1.below hB; replace Nq2 := Nq2.below hB; replace Nq3 := Nq3.below hB; replace Nfa := Nfa.below hB; clear hB tk1 _t)
          | (go_at_call 33; have _t := tk2; refine (add_any fas fbs fao fbo fan fbn fac fbc 16 fad fbd _ _ _ Nfa Nfb (by omega)).mono ?_; rintro e k3 ⟨fcs, fco, fcn, fcc, fcd, rfl, Nfc, hB⟩; (first | (have T1 := T0.step hB; replace Xp := Xp.step hB; replace Xq := Xq.step hB) | (have T1 := T0.drew.step hB; replace Xp := Xp.drew.step hB; replace Xq := Xq.drew.step hB)); clear T0; have T0 := T1; clear T1; replace Np1 := Np1.below hB; replace Np2 := Np2.below hB; replace Np3 := Np3.below hB; replace Nq1 := Nq1.below hB; replace Nq2 := Nq2.below hB; replace Nq3 := Nq3.below hB; clear hB tk2 _t; clear Nfa Nfb)
          | (go_at_call 34; have _t := tk3; refine (mul_any ps2 qs3 po2 qo3 pn2 qn3 pc2 qc3 8 pd2 qd3 _ _ _ Np2 Nq3 (by omega)).mono ?_; rintro e k4 ⟨fds, fdo, fdn, fdc, fdd, rfl, Nfd, hB⟩; (first | (have T1 := T0.step hB; replace Xp := Xp.step hB; replace Xq := Xq.step hB) | (have T1 := T0.drew.step hB; replace Xp := Xp.drew.step hB; replace Xq := Xq.drew.step hB)); clear T0; have T0 := T1; clear T1; replace Np1 := Np1.below hB; replace Np2 := Np2.below hB; replace Np3 := Np3.below hB; replace Nq1 := Nq1.below hB; replace Nq2 := Nq2.below hB; replace Nq3 := Nq3.below hB; replace Nfc := Nfc.below hB; clear hB tk3 _t)
          | (go_at_call 34; have _t := tk4; refine (mul_any qs2 ps3 qo2 po3 qn2 pn3 qc2 pc3 8 qd2 pd3 _ _ _ Nq2 Np3 (by omega)).mono ?_; rintro e k5 ⟨fes, feo, fen, fec, fed, rfl, Nfe, hB⟩; (first | (have T1 := T0.step hB; replace Xp := Xp.step hB; replace Xq := Xq.step hB) | (have T1 := T0.drew.step hB; replace Xp := Xp.drew.step hB; replace Xq := Xq.drew.step hB)); clear T0; have T0 := T1; clear T1; replace Np1 := Np1.below hB; replace Np2 := Np2.below hB; replace Np3 := Np3.below hB; replace Nq1 := Nq1.below hB; replace Nq2 := Nq2.below hB; replace Nq3 := Nq3.below hB; replace Nfc := Nfc.below hB; replace Nfd := Nfd.below hB; clear hB tk4 _t)
          | (go_at_call 33; refine (add_any fds fes fdo feo fdn fen fdc fec 16 fdd fed _ _ _ Nfd Nfe (by omega)).mono ?_; rintro e k6 ⟨ffs, ffo, ffn, ffc, ffd, rfl, Nff, hB⟩; (first | (have T1 := T0.step hB; replace Xp := Xp.step hB; replace Xq := Xq.step hB) | (have T1 := T0.drew.step hB; replace Xp := Xp.drew.step hB; replace Xq := Xq.drew.step hB)); clear T0; have T0 := T1; clear T1; replace Np1 := Np1.below hB; replace Np2 := Np2.below hB; replace Np3 := Np3.below hB; replace Nq1 := Nq1.below hB; replace Nq2 := Nq2.below hB; replace Nq3 := Nq3.below hB; replace Nfc := Nfc.below hB; clear hB; clear Nfd Nfe)
          | (go_at_call 35; refine (int_any 2 _ (by decide) (by decide)).mono ?_; rintro e k7 ⟨fgs, fgo, fgn, fgc, fgd, rfl, Nfg, hB⟩; (first | (have T1 := T0.step hB; replace Xp := Xp.step hB; replace Xq := Xq.step hB) | (have T1 := T0.drew.step hB; replace Xp := Xp.drew.step hB; replace Xq := Xq.drew.step hB)); clear T0; have T0 := T1; clear T1; replace Np1 := Np1.below hB; replace Np2 := Np2.below hB; replace Np3 := Np3.below hB; replace Nq1 := Nq1.below hB; replace Nq2 := Nq2.below hB; replace Nq3 := Nq3.below hB; replace Nfc := Nfc.below hB; replace Nff := Nff.below hB; clear hB)
          | (go_at_call 34; have _t := tk5; refine (mul_any ps3 qs3 po3 qo3 pn3 qn3 pc3 qc3 8 pd3 qd3 _ _ _ Np3 Nq3 (by omega)).mono ?_; rintro e k8 ⟨fhs, fho, fhn, fhc, fhd, rfl, Nfh, hB⟩; (first | (have T1 := T0.step hB; replace Xp := Xp.step hB; replace Xq := Xq.step hB) | (have T1 := T0.drew.step hB; replace Xp := Xp.drew.step hB; replace Xq := Xq.drew.step hB)); clear T0; have T0 := T1; clear T1; replace Nfc := Nfc.below hB; replace Nff := Nff.below hB; replace Nfg := Nfg.below hB; clear hB tk5 _t; clear Np1 Np2 Np3 Nq1 Nq2 Nq3)
          | (go_at_call 34; refine (mul_any fgs fhs fgo fho fgn fhn fgc fhc 16 fgd fhd _ _ _ (num_more Nfg (by omega)) Nfh (by omega)).mono ?_; rintro e k9 ⟨fis, fio, fin, fic, fid, rfl, Nfi, hB⟩; (first | (have T1 := T0.step hB; replace Xp := Xp.step hB; replace Xq := Xq.step hB) | (have T1 := T0.drew.step hB; replace Xp := Xp.drew.step hB; replace Xq := Xq.drew.step hB)); clear T0; have T0 := T1; clear T1; replace Nfc := Nfc.below hB; replace Nff := Nff.below hB; clear hB; clear Nfg Nfh)
          | (go_at_call 32; refine (l3Make_any fcs fco fcn fcc fcd ffs ffo ffn ffc ffd fis fio fin fic fid _ _ _ 32 (by omega) (by omega) _ (num_more Nfc (by omega)) (num_more Nff (by omega)) Nfi hne).mono ?_; rintro e k10 ⟨bs1, bo1, bn1, bc1, bd1, bs2, bo2, bn2, bc2, bd2, bs3, bo3, bn3, bc3, bd3, rfl, M1, M2, M3, hB⟩; (first | (have T1 := T0.step hB; replace Xp := Xp.step hB; replace Xq := Xq.step hB) | (have T1 := T0.drew.step hB; replace Xp := Xp.drew.step hB; replace Xq := Xq.drew.step hB)); clear T0; have T0 := T1; clear T1; clear hB Nfc Nff Nfi)
          | (go_at_call 31; refine (l3Point_any bs1 bo1 bn1 bc1 bd1 bs2 bo2 bn2 bc2 bd2 bs3 bo3 bn3 bc3 bd3 _ _ _ _ (by omega) _ M1 M2 M3).mono ?_; rw [ht]; rintro e k11 ⟨rfl, hB⟩; (first | (have T1 := T0.step hB; replace Xp := Xp.step hB; replace Xq := Xq.step hB) | (have T1 := T0.drew.step hB; replace Xp := Xp.drew.step hB; replace Xq := Xq.drew.step hB)); clear T0; have T0 := T1; clear T1; clear hB M1 M2 M3; have o0 := (T0.b 2 rfl).c 0 rfl; have u0 := (T0.b 2 rfl).f 0 rfl; have o1 := (T0.b 2 rfl).c 1 rfl; have u1 := (T0.b 2 rfl).f 1 rfl; have o2 := (T0.b 2 rfl).c 2 rfl; have u2 := (T0.b 2 rfl).f 2 rfl; have o3 := (T0.b 2 rfl).c 3 rfl; have u3 := (T0.b 2 rfl).f 3 rfl; have o4 := (T0.b 2 rfl).c 4 rfl; have u4 := (T0.b 2 rfl).f 4 rfl; have o5 := (T0.b 2 rfl).c 5 rfl; have u5 := (T0.b 2 rfl).f 5 rfl; have o6 := (T0.b 2 rfl).c 6 rfl; have u6 := (T0.b 2 rfl).f 6 rfl; have o7 := (T0.b 2 rfl).c 7 rfl; have u7 := (T0.b 2 rfl).f 7 rfl; have o8 := (T0.b 2 rfl).c 8 rfl; have u8 := (T0.b 2 rfl).f 8 rfl; have o9 := (T0.b 2 rfl).c 9 rfl; have u9 := (T0.b 2 rfl).f 9 rfl; have o10 := (T0.b 2 rfl).c 10 rfl; have u10 := (T0.b 2 rfl).f 10 rfl; have o11 := (T0.b 2 rfl).c 11 rfl; have u11 := (T0.b 2 rfl).f 11 rfl; have olt := (T0.b 2 rfl).lt))
      all_goals have HB := T0.below
      all_goals clear T0 Xp Xq
      all_goals go_wp2
      all_goals refine bodyPost_ret (v := .tuple #[.agg #[.int .u64 r0, .int .u64 r1, .int .u64 r2, .int .u64 r3, .int .u64 r4, .int .u64 r5, .int .u64 r6, .int .u64 r7, .int .u64 r8, .int .u64 r9, .int .u64 r10, .int .u64 r11], .bool f]) (by simp [results, Try.results12, go_sem, o0, o1, o2, o3, o4, o5, o6, o7, o8, o9, o10, o11]) rfl ?_
      all_goals refine ⟨by rw [HO.out], ?_⟩
      all_goals repeat' (refine Below.setCell ?_ (by simp; try omega) _)
      all_goals first | exact HB | exact HB.drew
    · replace h2 := Bool.eq_false_iff.2 h2
      rw [h2]
      have HO : Hid (midV x y z u v t = .tuple #[.agg #[.int .u64 0, .int .u64 0, .int .u64 0, .int .u64 0, .int .u64 0, .int .u64 0, .int .u64 0, .int .u64 0, .int .u64 0, .int .u64 0, .int .u64 0, .int .u64 0], .bool false]) := by show _ = _; unfold midV; rw [h2]; simp
      have o0 := (T0.b 2 rfl).c 0 rfl; have u0 := (T0.b 2 rfl).f 0 rfl; have o1 := (T0.b 2 rfl).c 1 rfl; have u1 := (T0.b 2 rfl).f 1 rfl; have o2 := (T0.b 2 rfl).c 2 rfl; have u2 := (T0.b 2 rfl).f 2 rfl; have o3 := (T0.b 2 rfl).c 3 rfl; have u3 := (T0.b 2 rfl).f 3 rfl; have o4 := (T0.b 2 rfl).c 4 rfl; have u4 := (T0.b 2 rfl).f 4 rfl; have o5 := (T0.b 2 rfl).c 5 rfl; have u5 := (T0.b 2 rfl).f 5 rfl; have o6 := (T0.b 2 rfl).c 6 rfl; have u6 := (T0.b 2 rfl).f 6 rfl; have o7 := (T0.b 2 rfl).c 7 rfl; have u7 := (T0.b 2 rfl).f 7 rfl; have o8 := (T0.b 2 rfl).c 8 rfl; have u8 := (T0.b 2 rfl).f 8 rfl; have o9 := (T0.b 2 rfl).c 9 rfl; have u9 := (T0.b 2 rfl).f 9 rfl; have o10 := (T0.b 2 rfl).c 10 rfl; have u10 := (T0.b 2 rfl).f 10 rfl; have o11 := (T0.b 2 rfl).c 11 rfl; have u11 := (T0.b 2 rfl).f 11 rfl; have olt := (T0.b 2 rfl).lt
      have HB := T0.below
      clear T0
      go_wp2
      refine bodyPost_ret (v := .tuple #[.agg #[.int .u64 0, .int .u64 0, .int .u64 0, .int .u64 0, .int .u64 0, .int .u64 0, .int .u64 0, .int .u64 0, .int .u64 0, .int .u64 0, .int .u64 0, .int .u64 0], .bool false]) (by simp [results, Try.results12, go_sem, o0, o1, o2, o3, o4, o5, o6, o7, o8, o9, o10, o11]) rfl ?_
      refine ⟨by rw [HO.out], ?_⟩
      repeat' (refine Below.setCell ?_ (by simp; try omega) _)
      exact HB
  · replace h1 := Bool.eq_false_iff.2 h1
    rw [h1]
    have HO : Hid (midV x y z u v t = .tuple #[.agg #[.int .u64 0, .int .u64 0, .int .u64 0, .int .u64 0, .int .u64 0, .int .u64 0, .int .u64 0, .int .u64 0, .int .u64 0, .int .u64 0, .int .u64 0, .int .u64 0], .bool false]) := by show _ = _; unfold midV; rw [h1]; simp
    have o0 := (T0.b 2 rfl).c 0 rfl; have u0 := (T0.b 2 rfl).f 0 rfl; have o1 := (T0.b 2 rfl).c 1 rfl; have u1 := (T0.b 2 rfl).f 1 rfl; have o2 := (T0.b 2 rfl).c 2 rfl; have u2 := (T0.b 2 rfl).f 2 rfl; have o3 := (T0.b 2 rfl).c 3 rfl; have u3 := (T0.b 2 rfl).f 3 rfl; have o4 := (T0.b 2 rfl).c 4 rfl; have u4 := (T0.b 2 rfl).f 4 rfl; have o5 := (T0.b 2 rfl).c 5 rfl; have u5 := (T0.b 2 rfl).f 5 rfl; have o6 := (T0.b 2 rfl).c 6 rfl; have u6 := (T0.b 2 rfl).f 6 rfl; have o7 := (T0.b 2 rfl).c 7 rfl; have u7 := (T0.b 2 rfl).f 7 rfl; have o8 := (T0.b 2 rfl).c 8 rfl; have u8 := (T0.b 2 rfl).f 8 rfl; have o9 := (T0.b 2 rfl).c 9 rfl; have u9 := (T0.b 2 rfl).f 9 rfl; have o10 := (T0.b 2 rfl).c 10 rfl; have u10 := (T0.b 2 rfl).f 10 rfl; have o11 := (T0.b 2 rfl).c 11 rfl; have u11 := (T0.b 2 rfl).f 11 rfl; have olt := (T0.b 2 rfl).lt
    have HB := T0.below
    clear T0
    go_wp2
    refine bodyPost_ret (v := .tuple #[.agg #[.int .u64 0, .int .u64 0, .int .u64 0, .int .u64 0, .int .u64 0, .int .u64 0, .int .u64 0, .int .u64 0, .int .u64 0, .int .u64 0, .int .u64 0, .int .u64 0], .bool false]) (by simp [results, Try.results12, go_sem, o0, o1, o2, o3, o4, o5, o6, o7, o8, o9, o10, o11]) rfl ?_
    refine ⟨by rw [HO.out], ?_⟩
    repeat' (refine Below.setCell ?_ (by simp; try omega) _)
    exact HB
end Go.Proofs.Ytnflhnfjlbjgdaa

/- Three points drawn from a code. -/
namespace Go.Proofs.Ytnflhnfjlbjgdaa
open Go.RowKit
theorem dk3_cells {x y z u v t a b c : Int} {W : World} {gp gq gm : Nat} (Xp : Blk W gp [.int .u64 (ww3 x), .int .u64 (ww2 x), .int .u64 (ww1 x), .int .u64 (ww0 x), .int .u64 (ww3 y), .int .u64 (ww2 y), .int .u64 (ww1 y), .int .u64 (ww0 y), .int .u64 (ww3 z), .int .u64 (ww2 z), .int .u64 (ww1 z), .int .u64 (ww0 z)]) (Xq : Blk W gq [.int .u64 (ww3 u), .int .u64 (ww2 u), .int .u64 (ww1 u), .int .u64 (ww0 u), .int .u64 (ww3 v), .int .u64 (ww2 v), .int .u64 (ww1 v), .int .u64 (ww0 v), .int .u64 (ww3 t), .int .u64 (ww2 t), .int .u64 (ww1 t), .int .u64 (ww0 t)]) (Xm : Blk W gm [.int .u64 (ww3 a), .int .u64 (ww2 a), .int .u64 (ww1 a), .int .u64 (ww0 a), .int .u64 (ww3 b), .int .u64 (ww2 b), .int .u64 (ww1 b), .int .u64 (ww0 b), .int .u64 (ww3 c), .int .u64 (ww2 c), .int .u64 (ww1 c), .int .u64 (ww0 c)]) : (fun w' => w'.cell? ⟨gp, 0, none⟩ = some (.int .u64 (ww3 x)) ∧ w'.cell? ⟨gp, 1, none⟩ = some (.int .u64 (ww2 x)) ∧ w'.cell? ⟨gp, 2, none⟩ = some (.int .u64 (ww1 x)) ∧ w'.cell? ⟨gp, 3, none⟩ = some (.int .u64 (ww0 x)) ∧ w'.cell? ⟨gp, 4, none⟩ = some (.int .u64 (ww3 y)) ∧ w'.cell? ⟨gp, 5, none⟩ = some (.int .u64 (ww2 y)) ∧ w'.cell? ⟨gp, 6, none⟩ = some (.int .u64 (ww1 y)) ∧ w'.cell? ⟨gp, 7, none⟩ = some (.int .u64 (ww0 y)) ∧ w'.cell? ⟨gp, 8, none⟩ = some (.int .u64 (ww3 z)) ∧ w'.cell? ⟨gp, 9, none⟩ = some (.int .u64 (ww2 z)) ∧ w'.cell? ⟨gp, 10, none⟩ = some (.int .u64 (ww1 z)) ∧ w'.cell? ⟨gp, 11, none⟩ = some (.int .u64 (ww0 z)) ∧ w'.cell? ⟨gq, 0, none⟩ = some (.int .u64 (ww3 u)) ∧ w'.cell? ⟨gq, 1, none⟩ = some (.int .u64 (ww2 u)) ∧ w'.cell? ⟨gq, 2, none⟩ = some (.int .u64 (ww1 u)) ∧ w'.cell? ⟨gq, 3, none⟩ = some (.int .u64 (ww0 u)) ∧ w'.cell? ⟨gq, 4, none⟩ = some (.int .u64 (ww3 v)) ∧ w'.cell? ⟨gq, 5, none⟩ = some (.int .u64 (ww2 v)) ∧ w'.cell? ⟨gq, 6, none⟩ = some (.int .u64 (ww1 v)) ∧ w'.cell? ⟨gq, 7, none⟩ = some (.int .u64 (ww0 v)) ∧ w'.cell? ⟨gq, 8, none⟩ = some (.int .u64 (ww3 t)) ∧ w'.cell? ⟨gq, 9, none⟩ = some (.int .u64 (ww2 t)) ∧ w'.cell? ⟨gq, 10, none⟩ = some (.int .u64 (ww1 t)) ∧ w'.cell? ⟨gq, 11, none⟩ = some (.int .u64 (ww0 t)) ∧ w'.cell? ⟨gm, 0, none⟩ = some (.int .u64 (ww3 a)) ∧ w'.cell? ⟨gm, 1, none⟩ = some (.int .u64 (ww2 a)) ∧ w'.cell? ⟨gm, 2, none⟩ = some (.int .u64 (ww1 a)) ∧ w'.cell? ⟨gm, 3, none⟩ = some (.int .u64 (ww0 a)) ∧ w'.cell? ⟨gm, 4, none⟩ = some (.int .u64 (ww3 b)) ∧ w'.cell? ⟨gm, 5, none⟩ = some (.int .u64 (ww2 b)) ∧ w'.cell? ⟨gm, 6, none⟩ = some (.int .u64 (ww1 b)) ∧ w'.cell? ⟨gm, 7, none⟩ = some (.int .u64 (ww0 b)) ∧ w'.cell? ⟨gm, 8, none⟩ = some (.int .u64 (ww3 c)) ∧ w'.cell? ⟨gm, 9, none⟩ = some (.int .u64 (ww2 c)) ∧ w'.cell? ⟨gm, 10, none⟩ = some (.int .u64 (ww1 c)) ∧ w'.cell? ⟨gm, 11, none⟩ = some (.int .u64 (ww0 c))) W := ⟨Xp.c 0 rfl, Xp.c 1 rfl, Xp.c 2 rfl, Xp.c 3 rfl, Xp.c 4 rfl, Xp.c 5 rfl, Xp.c 6 rfl, Xp.c 7 rfl, Xp.c 8 rfl, Xp.c 9 rfl, Xp.c 10 rfl, Xp.c 11 rfl, Xq.c 0 rfl, Xq.c 1 rfl, Xq.c 2 rfl, Xq.c 3 rfl, Xq.c 4 rfl, Xq.c 5 rfl, Xq.c 6 rfl, Xq.c 7 rfl, Xq.c 8 rfl, Xq.c 9 rfl, Xq.c 10 rfl, Xq.c 11 rfl, Xm.c 0 rfl, Xm.c 1 rfl, Xm.c 2 rfl, Xm.c 3 rfl, Xm.c 4 rfl, Xm.c 5 rfl, Xm.c 6 rfl, Xm.c 7 rfl, Xm.c 8 rfl, Xm.c 9 rfl, Xm.c 10 rfl, Xm.c 11 rfl⟩
end Go.Proofs.Ytnflhnfjlbjgdaa

/- Right points: in order, one only where their numbers are, the same with all parts multiplied: the reckoning. -/
namespace Go.Proofs.Ytnflhnfjlbjgdaa
open Go.RowKit
theorem cmpI_zero {a b : Int} : cmpI a b = 0 ↔ a = b := by
  unfold cmpI
  split
  · constructor <;> intro h <;> omega
  · split
    · constructor <;> intro h <;> omega
    · constructor <;> intro h <;> omega
theorem ptB_gcd {x y z : Int} (h : ptB x y z = true) : 0 < z ∧ Int.gcd (Int.gcd x y) z = 1 := by
  unfold ptB at h
  simp at h
  exact ⟨h.1.1, h.2⟩
theorem dvd3 {x y z t : Int} (hg : Int.gcd (Int.gcd x y) z = 1) {d : Int} (h1 : d ∣ x * t) (h2 : d ∣ y * t) (h3 : d ∣ z * t) : d ∣ t := by
  have e1 : (Int.gcd (x * t) (y * t) : Int) = Int.gcd x y * (t.natAbs : Int) := by rw [Int.gcd_mul_right]; simp
  have d1 : d ∣ (Int.gcd (x * t) (y * t) : Int) := Int.dvd_coe_gcd h1 h2
  rw [e1] at d1
  have d2 : d ∣ z * (t.natAbs : Int) := by
    rcases Int.natAbs_eq t with h | h
    · rw [← h]; exact h3
    · have e : (t.natAbs : Int) = -t := by omega
      rw [e, Int.mul_neg]; exact Int.dvd_neg.2 h3
  have d3 := Int.dvd_coe_gcd d1 d2
  rw [Int.gcd_mul_right, hg] at d3
  exact Int.dvd_natAbs.1 (by simpa using d3)
theorem ord_zero {x y z u v t : Int} (h1 : ptB x y z = true) (h2 : ptB u v t = true) : ordI x y z u v t = 0 ↔ x = u ∧ y = v ∧ z = t := by
  obtain ⟨pz, g1⟩ := ptB_gcd h1
  obtain ⟨pt, g2⟩ := ptB_gcd h2
  constructor
  · intro h
    unfold ordI at h
    by_cases hc : cmpI (x * t) (u * z) = 0
    · rw [if_pos hc] at h
      have e1 := cmpI_zero.1 hc
      have e2 := cmpI_zero.1 h
      have d1 : z ∣ t := dvd3 g1 (by rw [e1]; exact Int.dvd_mul_left _ _) (by rw [e2]; exact Int.dvd_mul_left _ _) (Int.dvd_mul_right _ _)
      have d2 : t ∣ z := dvd3 g2 (by rw [← e1]; exact Int.dvd_mul_left _ _) (by rw [← e2]; exact Int.dvd_mul_left _ _) (Int.dvd_mul_right _ _)
      have l1 := Int.le_of_dvd pt d1
      have l2 := Int.le_of_dvd pz d2
      have ez : z = t := by omega
      subst ez
      exact ⟨Int.eq_of_mul_eq_mul_right (by omega) e1, Int.eq_of_mul_eq_mul_right (by omega) e2, rfl⟩
    · rw [if_neg hc] at h
      exact absurd h hc
  · rintro ⟨rfl, rfl, rfl⟩
    unfold ordI
    rw [if_pos (cmpI_zero.2 rfl)]
    exact cmpI_zero.2 rfl
end Go.Proofs.Ytnflhnfjlbjgdaa
