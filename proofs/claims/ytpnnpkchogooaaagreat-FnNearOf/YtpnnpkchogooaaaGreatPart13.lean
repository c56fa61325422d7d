/- Part 13 of the walks that the proof leans on. -/
import Derived.Test.YtpnnpkchogooaaaGreatPart12
import Derived.Test.YtpnnpkchogooaaaGreatPart9
import Derived.Test.YtpnnpkchogooaaaGreatPart11
import Derived.Deep.RegionHeld3
import Derived.Test.YtpnnpkchogooaaaGreatPart2
import Derived.Test.YtpnnpkchogooaaaGreatPart7
/- The middle of two points: the program's walk. -/
namespace Go.Proofs.YtpnnpkchogooaaaGreat
open Go.RowKit
/-- The middle of two right points, and true; zeros and false where there is none. -/
def midV (x y z u v t : Int) : Value := if ptB x y z && ptB u v t then pmV (x * t + u * z) (y * t + v * z) (2 * (z * t)) else .tuple #[.agg #[.int .u64 0, .int .u64 0, .int .u64 0, .int .u64 0, .int .u64 0, .int .u64 0, .int .u64 0, .int .u64 0, .int .u64 0, .int .u64 0, .int .u64 0, .int .u64 0], .bool false]
set_option maxRecDepth 100000 in
set_option maxHeartbeats 8000000 in
theorem implMiddle_det (x y z u v t : Int) (hx : told x = true) (hy : told y = true) (hz : told z = true) (hu : told u = true) (hv : told v = true) (ht : told t = true) (w : World) : Calls Tryz.prog 12 #[PV x y z, PV u v t] w (VP (midV x y z u v t) w) := by
  have T0 : ArgsB w (((w.alloc (.cells #[.int .u64 (ww3 x), .int .u64 (ww2 x), .int .u64 (ww1 x), .int .u64 (ww0 x), .int .u64 (ww3 y), .int .u64 (ww2 y), .int .u64 (ww1 y), .int .u64 (ww0 y), .int .u64 (ww3 z), .int .u64 (ww2 z), .int .u64 (ww1 z), .int .u64 (ww0 z)] 40)).alloc (.cells #[.int .u64 (ww3 u), .int .u64 (ww2 u), .int .u64 (ww1 u), .int .u64 (ww0 u), .int .u64 (ww3 v), .int .u64 (ww2 v), .int .u64 (ww1 v), .int .u64 (ww0 v), .int .u64 (ww3 t), .int .u64 (ww2 t), .int .u64 (ww1 t), .int .u64 (ww0 t)] 40)).alloc (.cells #[.int .u64 0, .int .u64 0, .int .u64 0, .int .u64 0, .int .u64 0, .int .u64 0, .int .u64 0, .int .u64 0, .int .u64 0, .int .u64 0, .int .u64 0, .int .u64 0] 40)) [[.int .u64 (ww3 x), .int .u64 (ww2 x), .int .u64 (ww1 x), .int .u64 (ww0 x), .int .u64 (ww3 y), .int .u64 (ww2 y), .int .u64 (ww1 y), .int .u64 (ww0 y), .int .u64 (ww3 z), .int .u64 (ww2 z), .int .u64 (ww1 z), .int .u64 (ww0 z)], [.int .u64 (ww3 u), .int .u64 (ww2 u), .int .u64 (ww1 u), .int .u64 (ww0 u), .int .u64 (ww3 v), .int .u64 (ww2 v), .int .u64 (ww1 v), .int .u64 (ww0 v), .int .u64 (ww3 t), .int .u64 (ww2 t), .int .u64 (ww1 t), .int .u64 (ww0 t)], [.int .u64 0, .int .u64 0, .int .u64 0, .int .u64 0, .int .u64 0, .int .u64 0, .int .u64 0, .int .u64 0, .int .u64 0, .int .u64 0, .int .u64 0, .int .u64 0]] := ar3 _ _ _ _ _ _ w
  have R1 := pright_det x y z hx hy hz
  have R2 := pright_det u v t hu hv ht
  clear hx hy hz hu hv ht
  go_enter Tryz.func12, Tryz.ntmps12
  go_wp2_with fail
  generalize (((w.alloc (.cells #[.int .u64 (ww3 x), .int .u64 (ww2 x), .int .u64 (ww1 x), .int .u64 (ww0 x), .int .u64 (ww3 y), .int .u64 (ww2 y), .int .u64 (ww1 y), .int .u64 (ww0 y), .int .u64 (ww3 z), .int .u64 (ww2 z), .int .u64 (ww1 z), .int .u64 (ww0 z)] 40)).alloc (.cells #[.int .u64 (ww3 u), .int .u64 (ww2 u), .int .u64 (ww1 u), .int .u64 (ww0 u), .int .u64 (ww3 v), .int .u64 (ww2 v), .int .u64 (ww1 v), .int .u64 (ww0 v), .int .u64 (ww3 t), .int .u64 (ww2 t), .int .u64 (ww1 t), .int .u64 (ww0 t)] 40)).alloc (.cells #[.int .u64 0, .int .u64 0, .int .u64 0, .int .u64 0, .int .u64 0, .int .u64 0, .int .u64 0, .int .u64 0, .int .u64 0, .int .u64 0, .int .u64 0, .int .u64 0] 40)) = WW at *
  refine (R1 _).mono ?_
  rintro e w1 ⟨rfl, hB⟩
  replace T0 := T0.step hB
  clear hB
  by_cases h1 : ptB x y z = true
  · rw [h1]
    have X0 : Blk _ w.heap.size _ := T0.b 0 rfl; have Y0 : Blk _ (w.heap.size + 1) _ := T0.b 1 rfl; have p0 := X0.c 0 rfl; have q0 := Y0.c 0 rfl; have p1 := X0.c 1 rfl; have q1 := Y0.c 1 rfl; have p2 := X0.c 2 rfl; have q2 := Y0.c 2 rfl; have p3 := X0.c 3 rfl; have q3 := Y0.c 3 rfl; have p4 := X0.c 4 rfl; have q4 := Y0.c 4 rfl; have p5 := X0.c 5 rfl; have q5 := Y0.c 5 rfl; have p6 := X0.c 6 rfl; have q6 := Y0.c 6 rfl; have p7 := X0.c 7 rfl; have q7 := Y0.c 7 rfl; have p8 := X0.c 8 rfl; have q8 := Y0.c 8 rfl; have p9 := X0.c 9 rfl; have q9 := Y0.c 9 rfl; have p10 := X0.c 10 rfl; have q10 := Y0.c 10 rfl; have p11 := X0.c 11 rfl; have q11 := Y0.c 11 rfl; clear X0 Y0
    go_wp2_with fail
    refine (R2 _).mono ?_
    rintro e w2 ⟨rfl, hB⟩
    replace T0 := T0.step hB
    clear hB p0 q0 p1 q1 p2 q2 p3 q3 p4 q4 p5 q5 p6 q6 p7 q7 p8 q8 p9 q9 p10 q10 p11 q11
    by_cases h2 : ptB u v t = true
    · rw [h2]
      obtain ⟨-, sx, sy, sz⟩ := ptB_small h1
      obtain ⟨-, su, sv, st⟩ := ptB_small h2
      have HV : Hid (midV x y z u v t = pmV (x * t + z * u) (y * t + z * v) (z * t + z * t)) := by
        show _ = _
        unfold midV
        rw [h1, h2, if_pos (show (true && true) = true from rfl), Int.mul_comm u z, Int.mul_comm v z, Int.two_mul]
      have m1 := sm_prod sx st; have m2 := sm_prod sz su; have m3 := sm_prod sy st; have m4 := sm_prod sz sv; have m5 := sm_prod sz st
      have tx := told_small sx; have ty := told_small sy; have tz := told_small sz; have tu := told_small su; have tv := told_small sv; have tt := told_small st
      have J1 := joint_det x z u t tx tz tu tt (lr_abs (by omega)) (lr_abs (by omega)) (told_of (by omega))
      have J2 := joint_det y z v t ty tz tv tt (lr_abs (by omega)) (lr_abs (by omega)) (told_of (by omega))
      have J3 := joint_det z z t t tz tz tt tt (lr_abs (by omega)) (lr_abs (by omega)) (told_of (by omega))
      have PM := implPointMake_det (x * t + z * u) (y * t + z * v) (z * t + z * t) (told_of (by omega)) (told_of (by omega)) (told_of (by omega))
      obtain ⟨r0, r1, r2, r3, r4, r5, r6, r7, r8, r9, r10, r11, f, hf⟩ := pmV_ex (x * t + z * u) (y * t + z * v) (z * t + z * t)
      rw [hf] at PM
      have HO : Hid (midV x y z u v t = .tuple #[.agg #[.int .u64 r0, .int .u64 r1, .int .u64 r2, .int .u64 r3, .int .u64 r4, .int .u64 r5, .int .u64 r6, .int .u64 r7, .int .u64 r8, .int .u64 r9, .int .u64 r10, .int .u64 r11], .bool f]) := HV.out.trans hf
      clear hf HV h1 h2 R1 R2 sx sy sz su sv st m1 m2 m3 m4 m5 tx ty tz tu tv tt
      generalize x * t + z * u = X at *
      generalize y * t + z * v = Y at *
      generalize z * t + z * t = Z at *
      have X0 : Blk _ w.heap.size _ := T0.b 0 rfl; have Y0 : Blk _ (w.heap.size + 1) _ := T0.b 1 rfl; have p0 := X0.c 0 rfl; have q0 := Y0.c 0 rfl; have p1 := X0.c 1 rfl; have q1 := Y0.c 1 rfl; have p2 := X0.c 2 rfl; have q2 := Y0.c 2 rfl; have p3 := X0.c 3 rfl; have q3 := Y0.c 3 rfl; have p4 := X0.c 4 rfl; have q4 := Y0.c 4 rfl; have p5 := X0.c 5 rfl; have q5 := Y0.c 5 rfl; have p6 := X0.c 6 rfl; have q6 := Y0.c 6 rfl; have p7 := X0.c 7 rfl; have q7 := Y0.c 7 rfl; have p8 := X0.c 8 rfl; have q8 := Y0.c 8 rfl; have p9 := X0.c 9 rfl; have q9 := Y0.c 9 rfl; have p10 := X0.c 10 rfl; have q10 := Y0.c 10 rfl; have p11 := X0.c 11 rfl; have q11 := Y0.c 11 rfl; clear X0 Y0
      go_wp2_with fail
      refine (J1 _).mono ?_
      rintro e w3 ⟨rfl, hB⟩
      replace T0 := (T0.step hB).alloc (.cells #[.int .u64 (ww3 X), .int .u64 (ww2 X), .int .u64 (ww1 X), .int .u64 (ww0 X)] 32)
      have BX := Blk.new w3 [.int .u64 (ww3 X), .int .u64 (ww2 X), .int .u64 (ww1 X), .int .u64 (ww0 X)] 32 rfl
      clear hB p0 q0 p1 q1 p2 q2 p3 q3 p4 q4 p5 q5 p6 q6 p7 q7 p8 q8 p9 q9 p10 q10 p11 q11 J1
      have X0 : Blk _ w.heap.size _ := T0.b 0 rfl; have Y0 : Blk _ (w.heap.size + 1) _ := T0.b 1 rfl; have p0 := X0.c 0 rfl; have q0 := Y0.c 0 rfl; have p1 := X0.c 1 rfl; have q1 := Y0.c 1 rfl; have p2 := X0.c 2 rfl; have q2 := Y0.c 2 rfl; have p3 := X0.c 3 rfl; have q3 := Y0.c 3 rfl; have p4 := X0.c 4 rfl; have q4 := Y0.c 4 rfl; have p5 := X0.c 5 rfl; have q5 := Y0.c 5 rfl; have p6 := X0.c 6 rfl; have q6 := Y0.c 6 rfl; have p7 := X0.c 7 rfl; have q7 := Y0.c 7 rfl; have p8 := X0.c 8 rfl; have q8 := Y0.c 8 rfl; have p9 := X0.c 9 rfl; have q9 := Y0.c 9 rfl; have p10 := X0.c 10 rfl; have q10 := Y0.c 10 rfl; have p11 := X0.c 11 rfl; have q11 := Y0.c 11 rfl; clear X0 Y0
      go_wp2_with fail
      generalize w3.heap.size = gX at *
      refine (J2 _).mono ?_
      rintro e w4 ⟨rfl, hB⟩
      replace T0 := (T0.step hB).alloc (.cells #[.int .u64 (ww3 Y), .int .u64 (ww2 Y), .int .u64 (ww1 Y), .int .u64 (ww0 Y)] 32)
      replace BX := (BX.step hB).alloc (.cells #[.int .u64 (ww3 Y), .int .u64 (ww2 Y), .int .u64 (ww1 Y), .int .u64 (ww0 Y)] 32)
      have BY := Blk.new w4 [.int .u64 (ww3 Y), .int .u64 (ww2 Y), .int .u64 (ww1 Y), .int .u64 (ww0 Y)] 32 rfl
      clear hB p0 q0 p1 q1 p2 q2 p3 q3 p4 q4 p5 q5 p6 q6 p7 q7 p8 q8 p9 q9 p10 q10 p11 q11 J2
      have X0 : Blk _ w.heap.size _ := T0.b 0 rfl; have Y0 : Blk _ (w.heap.size + 1) _ := T0.b 1 rfl; have p0 := X0.c 0 rfl; have q0 := Y0.c 0 rfl; have p1 := X0.c 1 rfl; have q1 := Y0.c 1 rfl; have p2 := X0.c 2 rfl; have q2 := Y0.c 2 rfl; have p3 := X0.c 3 rfl; have q3 := Y0.c 3 rfl; have p4 := X0.c 4 rfl; have q4 := Y0.c 4 rfl; have p5 := X0.c 5 rfl; have q5 := Y0.c 5 rfl; have p6 := X0.c 6 rfl; have q6 := Y0.c 6 rfl; have p7 := X0.c 7 rfl; have q7 := Y0.c 7 rfl; have p8 := X0.c 8 rfl; have q8 := Y0.c 8 rfl; have p9 := X0.c 9 rfl; have q9 := Y0.c 9 rfl; have p10 := X0.c 10 rfl; have q10 := Y0.c 10 rfl; have p11 := X0.c 11 rfl; have q11 := Y0.c 11 rfl; clear X0 Y0
      go_wp2_with fail
      generalize w4.heap.size = gY at *
      refine (J3 _).mono ?_
      rintro e w5 ⟨rfl, hB⟩
      replace T0 := (T0.step hB).alloc (.cells #[.int .u64 (ww3 Z), .int .u64 (ww2 Z), .int .u64 (ww1 Z), .int .u64 (ww0 Z)] 32)
      replace BX := (BX.step hB).alloc (.cells #[.int .u64 (ww3 Z), .int .u64 (ww2 Z), .int .u64 (ww1 Z), .int .u64 (ww0 Z)] 32)
      replace BY := (BY.step hB).alloc (.cells #[.int .u64 (ww3 Z), .int .u64 (ww2 Z), .int .u64 (ww1 Z), .int .u64 (ww0 Z)] 32)
      clear hB p0 q0 p1 q1 p2 q2 p3 q3 p4 q4 p5 q5 p6 q6 p7 q7 p8 q8 p9 q9 p10 q10 p11 q11 J3
      have bx0 := BX.c 0 rfl; have by0 := BY.c 0 rfl; have bx1 := BX.c 1 rfl; have by1 := BY.c 1 rfl; have bx2 := BX.c 2 rfl; have by2 := BY.c 2 rfl; have bx3 := BX.c 3 rfl; have by3 := BY.c 3 rfl
      go_wp2_with fail
      refine (PM _).mono ?_
      rintro e w6 ⟨rfl, hB⟩
      replace T0 := T0.step hB
      have o0 := (T0.b 2 rfl).c 0 rfl; have u0 := (T0.b 2 rfl).f 0 rfl; have o1 := (T0.b 2 rfl).c 1 rfl; have u1 := (T0.b 2 rfl).f 1 rfl; have o2 := (T0.b 2 rfl).c 2 rfl; have u2 := (T0.b 2 rfl).f 2 rfl; have o3 := (T0.b 2 rfl).c 3 rfl; have u3 := (T0.b 2 rfl).f 3 rfl; have o4 := (T0.b 2 rfl).c 4 rfl; have u4 := (T0.b 2 rfl).f 4 rfl; have o5 := (T0.b 2 rfl).c 5 rfl; have u5 := (T0.b 2 rfl).f 5 rfl; have o6 := (T0.b 2 rfl).c 6 rfl; have u6 := (T0.b 2 rfl).f 6 rfl; have o7 := (T0.b 2 rfl).c 7 rfl; have u7 := (T0.b 2 rfl).f 7 rfl; have o8 := (T0.b 2 rfl).c 8 rfl; have u8 := (T0.b 2 rfl).f 8 rfl; have o9 := (T0.b 2 rfl).c 9 rfl; have u9 := (T0.b 2 rfl).f 9 rfl; have o10 := (T0.b 2 rfl).c 10 rfl; have u10 := (T0.b 2 rfl).f 10 rfl; have o11 := (T0.b 2 rfl).c 11 rfl; have u11 := (T0.b 2 rfl).f 11 rfl; have olt := (T0.b 2 rfl).lt
      have HB := T0.below
      clear hB T0 BX BY bx0 by0 bx1 by1 bx2 by2 bx3 by3 PM
      go_wp2
      refine bodyPost_ret (v := .tuple #[.agg #[.int .u64 r0, .int .u64 r1, .int .u64 r2, .int .u64 r3, .int .u64 r4, .int .u64 r5, .int .u64 r6, .int .u64 r7, .int .u64 r8, .int .u64 r9, .int .u64 r10, .int .u64 r11], .bool f]) (by simp [results, Tryz.results12, go_sem, o0, o1, o2, o3, o4, o5, o6, o7, o8, o9, o10, o11]) rfl ?_
      refine ⟨by rw [HO.out], ?_⟩
      repeat' (refine Below.setCell ?_ (by simp; try omega) _)
      exact HB
    · replace h2 := Bool.eq_false_iff.2 h2
      rw [h2]
      have HO : Hid (midV x y z u v t = .tuple #[.agg #[.int .u64 0, .int .u64 0, .int .u64 0, .int .u64 0, .int .u64 0, .int .u64 0, .int .u64 0, .int .u64 0, .int .u64 0, .int .u64 0, .int .u64 0, .int .u64 0], .bool false]) := by show _ = _; unfold midV; rw [h2]; simp
      have o0 := (T0.b 2 rfl).c 0 rfl; have u0 := (T0.b 2 rfl).f 0 rfl; have o1 := (T0.b 2 rfl).c 1 rfl; have u1 := (T0.b 2 rfl).f 1 rfl; have o2 := (T0.b 2 rfl).c 2 rfl; have u2 := (T0.b 2 rfl).f 2 rfl; have o3 := (T0.b 2 rfl).c 3 rfl; have u3 := (T0.b 2 rfl).f 3 rfl; have o4 := (T0.b 2 rfl).c 4 rfl; have u4 := (T0.b 2 rfl).f 4 rfl; have o5 := (T0.b 2 rfl).c 5 rfl; have u5 := (T0.b 2 rfl).f 5 rfl; have o6 := (T0.b 2 rfl).c 6 rfl; have u6 := (T0.b 2 rfl).f 6 rfl; have o7 := (T0.b 2 rfl).c 7 rfl; have u7 := (T0.b 2 rfl).f 7 rfl; have o8 := (T0.b 2 rfl).c 8 rfl; have u8 := (T0.b 2 rfl).f 8 rfl; have o9 := (T0.b 2 rfl).c 9 rfl; have u9 := (T0.b 2 rfl).f 9 rfl; have o10 := (T0.b 2 rfl).c 10 rfl; have u10 := (T0.b 2 rfl).f 10 rfl; have o11 := (T0.b 2 rfl).c 11 rfl; have u11 := (T0.b 2 rfl).f 11 rfl; have olt := (T0.b 2 rfl).lt
      have HB := T0.below
      clear T0
      go_wp2
      refine bodyPost_ret (v := .tuple #[.agg #[.int .u64 0, .int .u64 0, .int .u64 0, .int .u64 0, .int .u64 0, .int .u64 0, .int .u64 0, .int .u64 0, .int .u64 0, .int .u64 0, .int .u64 0, .int .u64 0], .bool false]) (by simp [results, Tryz.results12, go_sem, o0, o1, o2, o3, o4, o5, o6, o7, o8, o9, o10, o11]) rfl ?_
      refine ⟨by rw [HO.out], ?_⟩
      repeat' (refine Below.setCell ?_ (by simp; try omega) _)
      exact HB
  · replace h1 := Bool.eq_false_iff.2 h1
    rw [h1]
    have HO : Hid (midV x y z u v t = .tuple #[.agg #[.int .u64 0, .int .u64 0, .int .u64 0, .int .u64 0, .int .u64 0, .int .u64 0, .int .u64 0, .int .u64 0, .int .u64 0, .int .u64 0, .int .u64 0, .int .u64 0], .bool false]) := by show _ = _; unfold midV; rw [h1]; simp
    have o0 := (T0.b 2 rfl).c 0 rfl; have u0 := (T0.b 2 rfl).f 0 rfl; have o1 := (T0.b 2 rfl).c 1 rfl; have u1 := (T0.b 2 rfl).f 1 rfl; have o2 := (T0.b 2 rfl).c 2 rfl; have u2 := (T0.b 2 rfl).f 2 rfl; have o3 := (T0.b 2 rfl).c 3 rfl; have u3 := (T0.b 2 rfl).f 3 rfl; have o4 := (T0.b 2 rfl).c 4 rfl; have u4 := (T0.b 2 rfl).f 4 rfl; have o5 := (T0.b 2 rfl).c 5 rfl; have u5 := (T0.b 2 rfl).f 5 rfl; have o6 := (T0.b 2 rfl).c 6 rfl; have u6 := (T0.b 2 rfl).f 6 rfl; have o7 := (T0.b 2 rfl).c 7 rfl; have u7 := (T0.b 2 rfl).f 7 rfl; have o8 := (T0.b 2 rfl).c 8 rfl; have u8 := (T0.b 2 rfl).f 8 rfl; have o9 := (T0.b 2 rfl).c 9 rfl; have u9 := (T0.b 2 rfl).f 9 rfl; have o10 := (T0.b 2 rfl).c 10 rfl; have u10 := (T0.b 2 rfl).f 10 rfl; have o11 := (T0.b 2 rfl).c 11 rfl; have u11 := (T0.b 2 rfl).f 11 rfl; have olt := (T0.b 2 rfl).lt
    have HB := T0.below
    clear T0
    go_wp2
    refine bodyPost_ret (v := .tuple #[.agg #[.int .u64 0, .int .u64 0, .int .u64 0, .int .u64 0, .int .u64 0, .int .u64 0, .int .u64 0, .int .u64 0, .int .u64 0, .int .u64 0, .int .u64 0, .int .u64 0], .bool false]) (by simp [results, Tryz.results12, go_sem, o0, o1, o2, o3, o4, o5, o6, o7, o8, o9, o10, o11]) rfl ?_
    refine ⟨by rw [HO.out], ?_⟩
    repeat' (refine Below.setCell ?_ (by simp; try omega) _)
    exact HB
end Go.Proofs.YtpnnpkchogooaaaGreat

/- The middle of two points: the model's walk. -/
namespace Go.Proofs.YtpnnpkchogooaaaGreat
open Go.RowKit
end Go.Proofs.YtpnnpkchogooaaaGreat

/- Segments drawn from a code. -/
namespace Go.Proofs.YtpnnpkchogooaaaGreat
open Go.RowKit
/-- A number of sixty-four bits. -/
def I64 (x : Int) : Prop := -9223372036854775808 ≤ x ∧ x ≤ 9223372036854775807
def IsI (v : Value) : Prop := ∃ x : Int, v = .int .i64 x ∧ I64 x
/-- Some segment. -/
def IsSg (v : Value) : Prop := ∃ a b c d : Int, v = .agg #[.int .i64 a, .int .i64 b, .int .i64 c, .int .i64 d] ∧ I64 a ∧ I64 b ∧ I64 c ∧ I64 d
set_option maxRecDepth 100000 in
set_option maxHeartbeats 2000000 in
theorem off_any (g : Nat) (ao : Option Addr) (n cap : Nat) (cs : List Int) (w : World) (R : Rdr w g ao n cap cs) :
    Calls Tryz.prog 25 #[.pointer (some ⟨g, 0, none⟩), .int .i64 (-1000000), .int .i64 1000000] w (RdP g ao n cap cs IsI w) := by
  go_enter Tryz.func25, Tryz.ntmps25
  go_wp2_with fail
  refine (once_any 24 (by decide) (by decide) g ao n cap cs _ R).mono ?_
  rintro e w1 ⟨_, rfl, ⟨b, rfl⟩, R1, K⟩
  clear R
  cases b
  · go_wp2_with fail
    refine (near_pm g ao n cap cs _ R1).mono ?_
    rintro e w2 ⟨_, rfl, ⟨x, rfl, x0, x1⟩, R2, K2⟩
    replace K := K.trans K2
    clear R1 K2
    go_wp2
    go_ret
    exact ⟨_, rfl, ⟨x, rfl, by constructor <;> omega⟩, R2, K⟩
  · have G := Blk.new w1 [.int .i64 (-1000001), .int .i64 1000001, .int .i64 (-9223372036854775808), .int .i64 9223372036854775807] 2 rfl
    rw [show ([.int .i64 (-1000001), .int .i64 1000001, .int .i64 (-9223372036854775808), .int .i64 9223372036854775807] : List Value).toArray = #[.int .i64 (-1000001), .int .i64 1000001, .int .i64 (-9223372036854775808), .int .i64 9223372036854775807] from rfl] at G
    have hgl := R1.lt
    have hgn : w1.heap.size ≠ g := by omega
    have R := R1.alloc (.cells #[.int .i64 (-1000001), .int .i64 1000001, .int .i64 (-9223372036854775808), .int .i64 9223372036854775807] 2)
    replace K := K.alloc (.cells #[.int .i64 (-1000001), .int .i64 1000001, .int .i64 (-9223372036854775808), .int .i64 9223372036854775807] 2)
    clear R1
    go_wp2_with fail
    refine (below_any 4 (by decide) (by decide) g ao n cap cs _ R).mono ?_
    rintro e w6 ⟨_, rfl, ⟨j, rfl, j0, j1⟩, R6, K6⟩
    replace G := G.kept K6 hgn
    replace K := K.trans K6
    obtain ⟨k, rfl⟩ : ∃ k : Nat, j = k := ⟨j.toNat, by omega⟩
    obtain ⟨u, hu, hus⟩ : ∃ u : Int, w6.cell? ⟨w1.heap.size, k, none⟩ = some (.int .i64 u) ∧ I64 u := by
      rcases (by omega : k = 0 ∨ k = 1 ∨ k = 2 ∨ k = 3) with rfl | rfl | rfl | rfl
      · exact ⟨_, G.c 0 rfl, by constructor <;> decide⟩
      · exact ⟨_, G.c 1 rfl, by constructor <;> decide⟩
      · exact ⟨_, G.c 2 rfl, by constructor <;> decide⟩
      · exact ⟨_, G.c 3 rfl, by constructor <;> decide⟩
    clear G R K6
    go_wp2
    go_ret
    exact ⟨_, rfl, ⟨u, rfl, hus⟩, R6, K⟩
theorem segOf_ex (x y u v : Int) (hx : I64 x) (hy : I64 y) (hu : I64 u) (hv : I64 v) : ∃ a b c d k, I64 a ∧ I64 b ∧ I64 c ∧ I64 d ∧ ∀ w, Calls Tryz.prog 50 #[.agg #[.int .i64 x, .int .i64 y], .agg #[.int .i64 u, .int .i64 v]] w (VP (.tuple #[.agg #[.int .i64 a, .int .i64 b, .int .i64 c, .int .i64 d], .bool k]) w) := by
  have hz : I64 0 := by constructor <;> decide
  refine ⟨_, _, _, _, _, ?_, ?_, ?_, ?_, fun w => specSegOf_any x y u v _ _ _ _ _ _ rfl rfl rfl rfl rfl rfl w⟩
  all_goals
    generalize lessI u v x y = l
    generalize segOk _ _ _ _ = k
    cases k <;> cases l <;> first | exact hz | exact hx | exact hy | exact hu | exact hv
end Go.Proofs.YtpnnpkchogooaaaGreat

/- Segments drawn from a code: the walk. -/
namespace Go.Proofs.YtpnnpkchogooaaaGreat
open Go.RowKit
set_option maxRecDepth 100000 in
theorem eqSpo (x y u v : Int) (w : World) : (Op.equalIn 10000 25 (.agg #[.int .i64 x, .int .i64 y]) (.agg #[.int .i64 u, .int .i64 v])).run Tryz.prog w = .ok (decide (x = u) && decide (y = v)) w := by
  have u3 := Tryz.underlying2
  have a3 := Tryz.isAgg2
  have z3 := Tryz.sizeOf2
  rw [show (10000 : Nat) = 9999 + 1 from rfl, Op.equalIn]
  simp only [Sem.run_bind, run_underlying Tryz.underlying25, Result.andThen_ok]
  go_simp
  by_cases h3 : x = u
  · subst h3
    by_cases h2 : y = v
    · subst h2
      simp
    · simp [h2]
  · simp [h3]
set_option maxRecDepth 100000 in
set_option maxHeartbeats 8000000 in
theorem seg_any (g : Nat) (ao : Option Addr) (n cap : Nat) (cs : List Int) (w : World) (h : Rdr w g ao n cap cs) :
    Calls Tryz.prog 23 #[.pointer (some ⟨g, 0, none⟩)] w (RdP g ao n cap cs IsSg w) := by
  have hg := h.lt
  have hne : w.heap.size ≠ g := by omega
  have B := Blk.new w [.int .i64 0, .int .i64 0, .int .i64 0, .int .i64 0] 27 rfl
  rw [show ([.int .i64 0, .int .i64 0, .int .i64 0, .int .i64 0] : List Value).toArray = #[.int .i64 0, .int .i64 0, .int .i64 0, .int .i64 0] from rfl] at B
  have R := h.alloc (.cells #[.int .i64 0, .int .i64 0, .int .i64 0, .int .i64 0] 27)
  have K := (Kept.refl g w).alloc (.cells #[.int .i64 0, .int .i64 0, .int .i64 0, .int .i64 0] 27)
  clear h
  go_enter Tryz.func23, Tryz.ntmps23
  go_wp2_with fail
  refine (below_any 20 (by decide) (by decide) g ao n cap cs _ R).mono ?_
  rintro e w1 ⟨_, rfl, ⟨v, rfl, v0, v1⟩, R1, K1⟩
  replace K := K.trans K1
  replace B := B.kept K1 hne
  clear R K1
  have R := R1
  clear R1
  by_cases hv0 : v = 0
  · subst hv0
    go_wp2_with fail
    refine (off_any g ao n cap cs _ R).mono ?_
    rintro e w2 ⟨_, rfl, ⟨a, rfl, ia⟩, R1, K1⟩
    replace K := K.trans K1
    replace B := B.kept K1 hne
    clear R K1
    have R := R1
    clear R1
    go_wp2_with fail
    refine (off_any g ao n cap cs _ R).mono ?_
    rintro e w3 ⟨_, rfl, ⟨b, rfl, ib⟩, R1, K1⟩
    replace K := K.trans K1
    replace B := B.kept K1 hne
    clear R K1
    have R := R1
    clear R1
    go_wp2_with fail
    refine (off_any g ao n cap cs _ R).mono ?_
    rintro e w4 ⟨_, rfl, ⟨c, rfl, ic⟩, R1, K1⟩
    replace K := K.trans K1
    replace B := B.kept K1 hne
    clear R K1
    have R := R1
    clear R1
    go_wp2_with fail
    refine (off_any g ao n cap cs _ R).mono ?_
    rintro e w5 ⟨_, rfl, ⟨d, rfl, id⟩, R1, K1⟩
    replace K := K.trans K1
    replace B := B.kept K1 hne
    clear R K1
    have R := R1
    clear R1
    have o0 := B.c 0 rfl; have f0 := B.f 0 rfl; have o1 := B.c 1 rfl; have f1 := B.f 1 rfl; have o2 := B.c 2 rfl; have f2 := B.f 2 rfl; have o3 := B.c 3 rfl; have f3 := B.f 3 rfl; have ol := B.lt
    clear B
    go_wp2
    refine bodyPost_ret (v := .agg #[.int .i64 a, .int .i64 b, .int .i64 c, .int .i64 d]) (by simp [results, Tryz.results23, go_sem, o0, o1, o2, o3]) rfl ?_
    exact ⟨_, rfl, ⟨_, _, _, _, rfl, ia, ib, ic, id⟩, (((R.setN (by exact hg) _).setN (by exact hg) _).setN (by exact hg) _).setN (by exact hg) _, (((K.setN (by simp) (by simp; omega) _).setN (by simp) (by simp; omega) _).setN (by simp) (by simp; omega) _).setN (by simp) (by simp; omega) _⟩
  · have b0 : (v == 0) = false := beq_eq_false_iff_ne.2 hv0
    by_cases hv1 : v = 1
    · subst hv1
      go_wp2_with fail
      refine (near_pm g ao n cap cs _ R).mono ?_
      rintro e w2 ⟨_, rfl, ⟨x, rfl, x0, x1⟩, R1, K1⟩
      replace K := K.trans K1
      replace B := B.kept K1 hne
      clear R K1
      have R := R1
      clear R1
      go_wp2_with fail
      refine (near_pm g ao n cap cs _ R).mono ?_
      rintro e w3 ⟨_, rfl, ⟨y, rfl, y0, y1⟩, R1, K1⟩
      replace K := K.trans K1
      replace B := B.kept K1 hne
      clear R K1
      have R := R1
      clear R1
      go_wp2_with fail
      refine (near_pm g ao n cap cs _ R).mono ?_
      rintro e w4 ⟨_, rfl, ⟨u, rfl, u0, u1⟩, R1, K1⟩
      replace K := K.trans K1
      replace B := B.kept K1 hne
      clear R K1
      have R := R1
      clear R1
      go_wp2_with fail
      refine (near_pm g ao n cap cs _ R).mono ?_
      rintro e w5 ⟨_, rfl, ⟨z, rfl, z0, z1⟩, R1, K1⟩
      replace K := K.trans K1
      replace B := B.kept K1 hne
      clear R K1
      have R := R1
      clear R1
      obtain ⟨a, b, c, d, k, ia, ib, ic, id, CS⟩ := segOf_ex x y u z (by constructor <;> omega) (by constructor <;> omega) (by constructor <;> omega) (by constructor <;> omega)
      go_wp2_with fail
      refine (CS _).mono ?_
      rintro e w6 ⟨rfl, hB⟩
      replace R := R.step hB
      replace K := K.trans (Kept.of hB)
      replace B := B.step hB
      clear hB
      clear CS
      have X := Blk.new w6 [.int .i64 a, .int .i64 b, .int .i64 c, .int .i64 d] 27 rfl
      rw [show ([.int .i64 a, .int .i64 b, .int .i64 c, .int .i64 d] : List Value).toArray = #[.int .i64 a, .int .i64 b, .int .i64 c, .int .i64 d] from rfl] at X
      replace R := R.alloc (.cells #[.int .i64 a, .int .i64 b, .int .i64 c, .int .i64 d] 27)
      replace K := K.alloc (.cells #[.int .i64 a, .int .i64 b, .int .i64 c, .int .i64 d] 27)
      replace B := B.alloc (.cells #[.int .i64 a, .int .i64 b, .int .i64 c, .int .i64 d] 27)
      obtain ⟨c0, c1, c2, c3⟩ := X.cs4
      have xl := B.lt
      clear X
      have o0 := B.c 0 rfl; have f0 := B.f 0 rfl; have o1 := B.c 1 rfl; have f1 := B.f 1 rfl; have o2 := B.c 2 rfl; have f2 := B.f 2 rfl; have o3 := B.c 3 rfl; have f3 := B.f 3 rfl; have ol := B.lt
      clear B
      go_wp2
      refine bodyPost_ret (v := .agg #[.int .i64 a, .int .i64 b, .int .i64 c, .int .i64 d]) (by simp [results, Tryz.results23, go_sem, o0, o1, o2, o3]) rfl ?_
      exact ⟨_, rfl, ⟨_, _, _, _, rfl, ia, ib, ic, id⟩, (((R.setN (by exact hg) _).setN (by exact hg) _).setN (by exact hg) _).setN (by exact hg) _, (((K.setN (by simp) (by simp; omega) _).setN (by simp) (by simp; omega) _).setN (by simp) (by simp; omega) _).setN (by simp) (by simp; omega) _⟩
    · have b1 : (v == 1) = false := beq_eq_false_iff_ne.2 hv1
      by_cases hv2 : v = 2
      · subst hv2
        go_wp2_with fail
        refine (spot_any g ao n cap cs _ R).mono ?_
        rintro e w2 ⟨_, rfl, ⟨x, y, rfl, x0, x1, y0, y1⟩, R1, K1⟩
        replace K := K.trans K1
        replace B := B.kept K1 hne
        clear R K1
        have R := R1
        clear R1
        go_wp2_with fail
        refine (spot_any g ao n cap cs _ R).mono ?_
        rintro e w3 ⟨_, rfl, ⟨u, z, rfl, u0, u1, z0, z1⟩, R1, K1⟩
        replace K := K.trans K1
        replace B := B.kept K1 hne
        clear R K1
        have R := R1
        clear R1
        have o0 := B.c 0 rfl; have f0 := B.f 0 rfl; have o1 := B.c 1 rfl; have f1 := B.f 1 rfl; have o2 := B.c 2 rfl; have f2 := B.f 2 rfl; have o3 := B.c 3 rfl; have f3 := B.f 3 rfl; have ol := B.lt
        clear B
        go_wp2
        refine bodyPost_ret (v := .agg #[.int .i64 x, .int .i64 y, .int .i64 u, .int .i64 z]) (by simp [results, Tryz.results23, go_sem, o0, o1, o2, o3]) rfl ?_
        exact ⟨_, rfl, ⟨_, _, _, _, rfl, (by constructor <;> omega), (by constructor <;> omega), (by constructor <;> omega), (by constructor <;> omega)⟩, (((R.setN (by exact hg) _).setN (by exact hg) _).setN (by exact hg) _).setN (by exact hg) _, (((K.setN (by simp) (by simp; omega) _).setN (by simp) (by simp; omega) _).setN (by simp) (by simp; omega) _).setN (by simp) (by simp; omega) _⟩
      · have b2 : (v == 2) = false := beq_eq_false_iff_ne.2 hv2
        go_wp2_with fail
        refine (spot_any g ao n cap cs _ R).mono ?_
        rintro e w2 ⟨_, rfl, ⟨x, y, rfl, x0, x1, y0, y1⟩, R1, K1⟩
        replace K := K.trans K1
        replace B := B.kept K1 hne
        clear R K1
        have R := R1
        clear R1
        have gl2 := R.lt
        have hn2 : w2.heap.size ≠ g := by omega
        have X2 := Blk.new w2 [.int .i64 x, .int .i64 y] 25 rfl
        rw [show ([.int .i64 x, .int .i64 y] : List Value).toArray = #[.int .i64 x, .int .i64 y] from rfl] at X2
        replace R := R.alloc (.cells #[.int .i64 x, .int .i64 y] 25)
        replace K := K.alloc (.cells #[.int .i64 x, .int .i64 y] 25)
        replace B := B.alloc (.cells #[.int .i64 x, .int .i64 y] 25)
        go_wp2_with fail
        refine (spot_any g ao n cap cs _ R).mono ?_
        rintro e w3 ⟨_, rfl, ⟨u, z, rfl, u0, u1, z0, z1⟩, R1, K1⟩
        replace K := K.trans K1
        replace B := B.kept K1 hne
        replace X2 := X2.kept K1 hn2
        clear R K1
        have R := R1
        clear R1
        have gl3 := R.lt
        have x2l := X2.lt
        have hwl := B.lt
        have Y2 := X2
        have YB := B
        have YR := R
        have YK := K
        have X3 := Blk.new w3 [.int .i64 u, .int .i64 z] 25 rfl
        rw [show ([.int .i64 u, .int .i64 z] : List Value).toArray = #[.int .i64 u, .int .i64 z] from rfl] at X3
        replace R := R.alloc (.cells #[.int .i64 u, .int .i64 z] 25)
        replace K := K.alloc (.cells #[.int .i64 u, .int .i64 z] 25)
        replace B := B.alloc (.cells #[.int .i64 u, .int .i64 z] 25)
        replace X2 := X2.alloc (.cells #[.int .i64 u, .int .i64 z] 25)
        have E := eqSpo x y u z
        have n32 : ¬ (w3.heap.size = w2.heap.size) := by omega
        have n23 : ¬ (w2.heap.size = w3.heap.size) := by omega
        by_cases he : x = u ∧ y = z
        · rw [decide_eq_true he.1, decide_eq_true he.2] at E
          obtain ⟨e1, e2⟩ := he
          have wr : IntKind.i64.wrap (u + 1) = u + 1 := by rw [IntKind.wrap_i64]; omega
          obtain ⟨p0, p1⟩ := X2.cs2
          obtain ⟨r0, rf0, r1, rf1⟩ := X3.cf2
          have x3l := X3.lt
          obtain ⟨a, b, c, d, k, ia, ib, ic, id, CS⟩ := segOf_ex x y (u + 1) z (by constructor <;> omega) (by constructor <;> omega) (by constructor <;> omega) (by constructor <;> omega)
          clear e1 e2
          go_upto_region 13 with fail
          clear p0 p1 r0 rf0 r1 rf1 X2 X3 E B R K x3l
          have X2 := Y2.alloc (.cells #[.int .i64 (u + 1), .int .i64 z] 25)
          have B := YB.alloc (.cells #[.int .i64 (u + 1), .int .i64 z] 25)
          have R := YR.alloc (.cells #[.int .i64 (u + 1), .int .i64 z] 25)
          have K := YK.alloc (.cells #[.int .i64 (u + 1), .int .i64 z] 25)
          have X3 := Blk.new w3 [.int .i64 (u + 1), .int .i64 z] 25 rfl
          rw [show ([.int .i64 (u + 1), .int .i64 z] : List Value).toArray = #[.int .i64 (u + 1), .int .i64 z] from rfl] at X3
          clear Y2 YB YR YK
          obtain ⟨p0, p1⟩ := X2.cs2
          obtain ⟨r0, r1⟩ := X3.cs2
          go_wp2_with fail
          clear p0 p1 r0 r1 X2 X3
          generalize (w3.alloc (.cells #[.int .i64 (u + 1), .int .i64 z] 25)) = W3 at *
          refine (CS _).mono ?_
          rintro e w4 ⟨rfl, hB⟩
          replace R := R.step hB
          replace K := K.trans (Kept.of hB)
          replace B := B.step hB
          clear hB CS
          have X := Blk.new w4 [.int .i64 a, .int .i64 b, .int .i64 c, .int .i64 d] 27 rfl
          rw [show ([.int .i64 a, .int .i64 b, .int .i64 c, .int .i64 d] : List Value).toArray = #[.int .i64 a, .int .i64 b, .int .i64 c, .int .i64 d] from rfl] at X
          replace R := R.alloc (.cells #[.int .i64 a, .int .i64 b, .int .i64 c, .int .i64 d] 27)
          replace K := K.alloc (.cells #[.int .i64 a, .int .i64 b, .int .i64 c, .int .i64 d] 27)
          replace B := B.alloc (.cells #[.int .i64 a, .int .i64 b, .int .i64 c, .int .i64 d] 27)
          obtain ⟨c0, c1, c2, c3⟩ := X.cs4
          have xl := B.lt
          clear X
          have o0 := B.c 0 rfl; have f0 := B.f 0 rfl; have o1 := B.c 1 rfl; have f1 := B.f 1 rfl; have o2 := B.c 2 rfl; have f2 := B.f 2 rfl; have o3 := B.c 3 rfl; have f3 := B.f 3 rfl; have ol := B.lt
          clear B
          go_wp2
          refine bodyPost_ret (v := .agg #[.int .i64 a, .int .i64 b, .int .i64 c, .int .i64 d]) (by simp [results, Tryz.results23, go_sem, o0, o1, o2, o3]) rfl ?_
          exact ⟨_, rfl, ⟨_, _, _, _, rfl, ia, ib, ic, id⟩, (((R.setN (by exact hg) _).setN (by exact hg) _).setN (by exact hg) _).setN (by exact hg) _, (((K.setN (by simp) (by simp; omega) _).setN (by simp) (by simp; omega) _).setN (by simp) (by simp; omega) _).setN (by simp) (by simp; omega) _⟩
        · have E' : ∀ w, (Op.equalIn 10000 25 (.agg #[.int .i64 x, .int .i64 y]) (.agg #[.int .i64 u, .int .i64 z])).run Tryz.prog w = .ok false w := by
            intro w
            rw [E w]
            congr 1
            simp only [Bool.and_eq_false_iff, decide_eq_false_iff_not]
            omega
          obtain ⟨p0, p1⟩ := X2.cs2
          obtain ⟨r0, r1⟩ := X3.cs2
          obtain ⟨a, b, c, d, k, ia, ib, ic, id, CS⟩ := segOf_ex x y u z (by constructor <;> omega) (by constructor <;> omega) (by constructor <;> omega) (by constructor <;> omega)
          clear he E Y2 YB YR YK
          go_wp2_with fail
          clear p0 p1 r0 r1 X2 X3 E'
          generalize (w3.alloc (.cells #[.int .i64 u, .int .i64 z] 25)) = W3 at *
          refine (CS _).mono ?_
          rintro e w4 ⟨rfl, hB⟩
          replace R := R.step hB
          replace K := K.trans (Kept.of hB)
          replace B := B.step hB
          clear hB CS
          have X := Blk.new w4 [.int .i64 a, .int .i64 b, .int .i64 c, .int .i64 d] 27 rfl
          rw [show ([.int .i64 a, .int .i64 b, .int .i64 c, .int .i64 d] : List Value).toArray = #[.int .i64 a, .int .i64 b, .int .i64 c, .int .i64 d] from rfl] at X
          replace R := R.alloc (.cells #[.int .i64 a, .int .i64 b, .int .i64 c, .int .i64 d] 27)
          replace K := K.alloc (.cells #[.int .i64 a, .int .i64 b, .int .i64 c, .int .i64 d] 27)
          replace B := B.alloc (.cells #[.int .i64 a, .int .i64 b, .int .i64 c, .int .i64 d] 27)
          obtain ⟨c0, c1, c2, c3⟩ := X.cs4
          have xl := B.lt
          clear X
          have o0 := B.c 0 rfl; have f0 := B.f 0 rfl; have o1 := B.c 1 rfl; have f1 := B.f 1 rfl; have o2 := B.c 2 rfl; have f2 := B.f 2 rfl; have o3 := B.c 3 rfl; have f3 := B.f 3 rfl; have ol := B.lt
          clear B
          go_wp2
          refine bodyPost_ret (v := .agg #[.int .i64 a, .int .i64 b, .int .i64 c, .int .i64 d]) (by simp [results, Tryz.results23, go_sem, o0, o1, o2, o3]) rfl ?_
          exact ⟨_, rfl, ⟨_, _, _, _, rfl, ia, ib, ic, id⟩, (((R.setN (by exact hg) _).setN (by exact hg) _).setN (by exact hg) _).setN (by exact hg) _, (((K.setN (by simp) (by simp; omega) _).setN (by simp) (by simp; omega) _).setN (by simp) (by simp; omega) _).setN (by simp) (by simp; omega) _⟩
end Go.Proofs.YtpnnpkchogooaaaGreat

/- A region that draws its order, by a condition that every operation keeps, whichever comes up: no order is walked. -/
namespace Go.Proofs.YtpnnpkchogooaaaGreat
variable {P : Program} {ops : Array Oper} {Q : Exit → Act → World → Prop} {md : Region.Mode}
def open_ (l : Array Bool) : Nat := l.toList.countP (fun b => !b)
theorem open_set {l : Array Bool} {i : Nat} (h : l.getD i true = false) : open_ (l.setIfInBounds i true) + 1 = open_ l := by
  obtain ⟨xs⟩ := l
  have hi : i < xs.length := by
    rcases Nat.lt_or_ge i xs.length with h' | h'
    · exact h'
    · simp [Array.getD, Nat.not_lt.2 h'] at h
  have hv : xs[i] = false := by simpa [Array.getD, hi] using h
  have hp : 0 < xs.countP (fun b => !b) := List.countP_pos_iff.2 ⟨xs[i], List.getElem_mem hi, by simp [hv]⟩
  simp only [open_, List.setIfInBounds_toArray, List.countP_set hi, hv]
  simp
  omega
theorem wpAny_inv (J : Array Bool → Act → World → Prop) (hs : ∀ l a w i o, J l a w → l.getD i true = false → ops[i]? = some o → (∀ e ∈ o.after, Region.binds md e = true → l.getD e.on false = true) → wpOp P ops Q i (J (l.setIfInBounds i true)) a w)
    (hd : ∀ l a w, J l a w → Region.ready md ops l = [] → Q .normal a w) : ∀ (fuel : Nat) (l : Array Bool) (a : Act) (w : World), open_ l ≤ fuel → J l a w → wpAny P md ops Q fuel l a w := by
  intro fuel
  induction fuel with
  | zero =>
    intro l a w hf hJ
    have hr : Region.ready md ops l = [] := by
      rw [List.eq_nil_iff_forall_not_mem]
      intro i hi
      have := open_set (mem_ready.1 hi).1
      omega
    exact ⟨hr, hd l a w hJ hr⟩
  | succ fuel ih =>
    intro l a w hf hJ
    refine ⟨fun hr => hd l a w hJ hr, fun i hi => ?_⟩
    obtain ⟨h0, o, ho, hall⟩ := mem_ready.1 hi
    exact wpOp_mono (fun a' w' h' => ih _ a' w' (by have := open_set h0; omega) h') (hs l a w i o hJ h0 ho hall)
theorem wp_region_inv {id : Nat} {a : Act} {w : World} (hm : P.follows .mixedOrders = true) (J : Array Bool → Act → World → Prop)
    (h0 : J (Array.replicate ops.size false) a { w with drawn := w.drawn + 1 })
    (hs : ∀ l a w i o, J l a w → l.getD i true = false → ops[i]? = some o → (∀ e ∈ o.after, Region.binds .any e = true → l.getD e.on false = true) → wpOp P ops Q i (J (l.setIfInBounds i true)) a w)
    (hd : ∀ l a w, J l a w → Region.ready .any ops l = [] → Q .normal a w) : (Code.region id ops true).wp P Q a w :=
  wp_region_any hm (wpAny_inv J hs hd _ _ _ _ (by
    unfold open_
    refine Nat.le_trans List.countP_le_length ?_
    simp) h0)
/-- The operations of a list, each of which waits for none but those ahead of it. -/
def waits (md : Region.Mode) (ops : Array Oper) : List Nat → List Nat → Bool
  | _, [] => true
  | acc, i :: r => ((ops[i]?).map (fun o => o.after.all (fun e => !Region.binds md e || acc.contains e.on))).getD false && waits md ops (i :: acc) r
/-- Where none is ready, all of such a list have come up. -/
theorem listed_of {l : Array Bool} (hr : Region.ready md ops l = []) : ∀ (r acc : List Nat), (∀ k ∈ acc, l.getD k false = true) → waits md ops acc r = true → (∀ k ∈ r, k < l.size) → ∀ k ∈ r, l.getD k false = true
  | [], _, _, _, _ => fun k hk => by simp at hk
  | i :: r, acc, ha, hw, hz => by
    simp only [waits, Bool.and_eq_true] at hw
    obtain ⟨hw1, hw2⟩ := hw
    have hi : l.getD i false = true := by
      cases ho : ops[i]? with
      | none => rw [ho] at hw1; simp at hw1
      | some o =>
        rw [ho] at hw1
        have hall : ∀ e ∈ o.after, Region.binds md e = true → l.getD e.on false = true := fun e he hb => by
          have h2 : o.after.all (fun e => !Region.binds md e || acc.contains e.on) = true := by simpa using hw1
          rw [Array.all_eq_true'] at h2
          have h3 := h2 e he
          rw [hb] at h3
          exact ha _ (by simpa using h3)
        have hz' := hz i (by simp)
        by_cases hc : l.getD i true = false
        · have : i ∈ Region.ready md ops l := mem_ready.2 ⟨hc, o, ho, hall⟩
          rw [hr] at this
          simp at this
        · simpa [Array.getD, hz'] using hc
    intro k hk
    rcases List.mem_cons.1 hk with rfl | hk
    · exact hi
    · exact listed_of hr r (i :: acc) (fun k hk => by
        rcases List.mem_cons.1 hk with rfl | hk
        · exact hi
        · exact ha k hk) hw2 (fun k hk => hz k (by simp [hk])) k hk
/-- One operation that is not guarded: what it does when it is carried out. -/
theorem wpOp_of {i : Nat} {o : Oper} {a : Act} {w : World} {K : Act → World → Prop} (ho : ops[i]? = some o) (hg : o.guard = none) (h : o.wp P a w K Q) : wpOp P ops Q i K a w := by
  unfold wpOp
  simp only [ho]
  have hw : Region.wanted o (yielded ops a.tmps) = true := by unfold Region.wanted; rw [hg]
  rw [if_pos hw]
  exact .inl h
/-- A frame that differs from another one at the told slots alone is that one with these slots put. -/
theorem tmps_fold : ∀ (D : List Nat) (t s : Array Value), t.size = s.size → (∀ d, d ∉ D → t[d]? = s[d]?) → t = D.foldl (fun u d => u.setIfInBounds d (t.getD d undef)) s
  | [], t, s, _, h => Array.ext_getElem? (fun d => h d (by simp))
  | d :: D, t, s, hz, h => by
    rw [List.foldl_cons]
    refine tmps_fold D t _ (by simpa using hz) (fun e he => ?_)
    by_cases hed : e = d
    · subst hed
      rcases Nat.lt_or_ge e t.size with h' | h'
      · simp [Array.getD, h', ← hz]
      · simp [← hz, h']
    · rw [Array.getElem?_setIfInBounds_ne (fun hh => hed hh.symm)]
      exact h e (by simp [hed, he])
theorem put_getD_ne {a : Act} {d e : Nat} {v : Value} (h : d ≠ e) : (a.put (some d) v).tmps.getD e undef = a.tmps.getD e undef := by
  simp [Act.put, Array.getD_eq_getD_getElem?, Array.getElem?_setIfInBounds_ne h]
theorem put_getD_same {a : Act} {d : Nat} {v : Value} (h : d < a.tmps.size) : (a.put (some d) v).tmps.getD d undef = v := by
  simp [Act.put, Array.getD_eq_getD_getElem?, h]
end Go.Proofs.YtpnnpkchogooaaaGreat

/- Operations that are guarded, in a region that is taken by a condition. -/
namespace Go.Proofs.YtpnnpkchogooaaaGreat
variable {P : Program} {ops : Array Oper} {Q : Exit → Act → World → Prop}
end Go.Proofs.YtpnnpkchogooaaaGreat

/- A region that draws its order, by what each slot holds once its operation has come up: the general form. -/
namespace Go.Proofs.YtpnnpkchogooaaaGreat
open Go.RowKit
variable {P : Program} {ops : Array Oper}
/-- No slot is written by two operations. -/
def distS : List (Option Nat) → Bool
  | [] => true
  | none :: r => distS r
  | some d :: r => !(r.contains (some d)) && distS r
theorem distS_inj : ∀ (S : List (Option Nat)) (i j d : Nat), distS S = true → S[i]? = some (some d) → S[j]? = some (some d) → i = j
  | [], i, _, _, _, h, _ => by simp at h
  | o :: r, i, j, d, hd, hi, hj => by
    have hr : distS r = true := by
      cases o with
      | none => exact hd
      | some d' => simp only [distS, Bool.and_eq_true] at hd; exact hd.2
    have hno : ∀ k, o = some d → r[k]? = some (some d) → False := fun k ho hk => by
      subst ho
      simp only [distS, Bool.and_eq_true, Bool.not_eq_true'] at hd
      have hm : some d ∈ r := List.mem_of_getElem? hk
      rw [← List.contains_iff_mem, hd.1] at hm
      cases hm
    match i, j with
    | 0, 0 => rfl
    | 0, j + 1 => exact (hno j (by simpa using hi) (by simpa using hj)).elim
    | i + 1, 0 => exact (hno i (by simpa using hj) (by simpa using hi)).elim
    | i + 1, j + 1 => exact congrArg (· + 1) (distS_inj r i j d hr (by simpa using hi) (by simpa using hj))
/-- What every operation keeps. -/
def InvQ (B : Nat) (S : List (Option Nat)) (V : Nat → Value → World → Prop) (w0 : World) (a0 : Act) (l : Array Bool) (a : Act) (W : World) : Prop :=
  l.size = S.length ∧ a.tmps.size = a0.tmps.size ∧ a.defers = a0.defers ∧ (∀ e, some e ∉ S → a.tmps[e]? = a0.tmps[e]?) ∧ Below B w0 W ∧ (∀ j d, l.getD j false = true → S[j]? = some (some d) → V j (a.tmps.getD d undef) W) ∧ (∀ j, l.getD j false = true → S[j]? = some none → V j undef W)
theorem getD_set_q {l : Array Bool} {i j : Nat} (h : (l.setIfInBounds i true).getD j false = true) (hne : j ≠ i) : l.getD j false = true := by
  rw [getD_set_ne false (Ne.symm hne)] at h
  exact h
theorem InvQ.put {B : Nat} {S : List (Option Nat)} {V : Nat → Value → World → Prop} {w0 : World} {a0 : Act} {l : Array Bool} {a : Act} {W W' : World} (h : InvQ B S V w0 a0 l a W) (hS : distS S = true) (i d : Nat) (hi : S[i]? = some (some d)) (hlt : d < a0.tmps.size)
    (hW : Below B w0 W') (hT : ∀ j v, V j v W → V j v W') (v : Value) (hv : V i v W') : InvQ B S V w0 a0 (l.setIfInBounds i true) (a.put (some d) v) W' := by
  obtain ⟨h1, h2, h3, h4, h5, h6, h7⟩ := h
  refine ⟨by simpa using h1, by simpa [Act.put] using h2, h3, fun e he => ?_, hW, fun j d' hj hd' => ?_, fun j hj hn => ?_⟩
  · have hne : d ≠ e := fun hh => he (hh ▸ List.mem_of_getElem? hi)
    simp only [Act.put]
    rw [Array.getElem?_setIfInBounds_ne hne]
    exact h4 e he
  · by_cases hji : j = i
    · subst hji
      rw [hi] at hd'
      cases hd'
      rw [put_getD_same (by omega)]
      exact hv
    · have hne : d ≠ d' := fun hh => hji (distS_inj S j i d hS (hh ▸ hd') hi)
      rw [put_getD_ne hne]
      exact hT _ _ (h6 j d' (getD_set_q hj hji) hd')
  · have hji : j ≠ i := fun hh => by subst hh; rw [hi] at hn; cases hn
    exact hT _ _ (h7 j (getD_set_q hj hji) hn)
theorem InvQ.world {B : Nat} {S : List (Option Nat)} {V : Nat → Value → World → Prop} {w0 : World} {a0 : Act} {l : Array Bool} {a : Act} {W W' : World} (h : InvQ B S V w0 a0 l a W) (i : Nat) (hi : S[i]? = some none)
    (hW : Below B w0 W') (hT : ∀ j v, V j v W → V j v W') (hv : V i undef W') : InvQ B S V w0 a0 (l.setIfInBounds i true) a W' := by
  obtain ⟨h1, h2, h3, h4, h5, h6, h7⟩ := h
  refine ⟨by simpa using h1, h2, h3, h4, hW, fun j d hj hd => ?_, fun j hj hn => ?_⟩
  · have hji : j ≠ i := fun hh => by subst hh; rw [hi] at hd; cases hd
    exact hT _ _ (h6 j d (getD_set_q hj hji) hd)
  · by_cases hji : j = i
    · subst hji; exact hv
    · exact hT _ _ (h7 j (getD_set_q hj hji) hn)
theorem wp_region_q {Q : Exit → Act → World → Prop} {id : Nat} {a0 : Act} {w0 : World} (hm : P.follows .mixedOrders = true) (B : Nat) (S : List (Option Nat)) (V : Nat → Value → World → Prop) (hSz : ops.size = S.length)
    (hs : ∀ (Q : Exit → Act → World → Prop) l a W i o, InvQ B S V w0 a0 l a W → l.getD i true = false → ops[i]? = some o → (∀ e ∈ o.after, Region.binds .any e = true → l.getD e.on false = true) → wpOp P ops Q i (InvQ B S V w0 a0 (l.setIfInBounds i true)) a W)
    (hd : ∀ l a W, InvQ B S V w0 a0 l a W → Region.ready .any ops l = [] → Q .normal a W) : (Code.region id ops true).wp P Q a0 w0 := by
  refine wp_region_inv hm (InvQ B S V w0 a0) ⟨by simpa using hSz, rfl, rfl, fun _ _ => rfl, (Below.refl _ w0).drew, fun j d hj => ?_, fun j hj => ?_⟩ (hs Q) hd
  all_goals
    exfalso
    rw [Array.getD_eq_getD_getElem?, Array.getElem?_replicate] at hj
    split at hj <;> simp at hj
/-- A block of so many cells. -/
def BlkN (W : World) (g n : Nat) : Prop := ∃ vs : List Value, vs.length = n ∧ Blk W g vs
theorem BlkN.step {W W' : World} {g n : Nat} (h : BlkN W g n) (hB : Below W.heap.size W W') : BlkN W' g n := by
  obtain ⟨vs, h1, h2⟩ := h
  exact ⟨vs, h1, h2.step hB⟩
theorem Blk.setA {W : World} {g : Nat} {vs : List Value} (h : Blk W g vs) (j : Nat) (u : Value) : Blk (W.setCell ⟨g, j, none⟩ u) g (vs.set j u) := by
  rcases Nat.lt_or_ge j vs.length with hj | hj
  · exact h.setI j hj u
  · refine ⟨by simpa [World.setCell] using h.1, fun i v hi => ?_⟩
    rw [List.set_eq_of_length_le hj] at hi
    have hne : i ≠ j := fun e => by
      subst e
      rw [List.getElem?_eq_none hj] at hi
      cases hi
    exact ⟨(World.cell?_setCell_other _ _ _ _ (by simp)).trans (h.c i hi), by simp [go_sem, h.f i hi]⟩
theorem BlkN.set {W : World} {g n : Nat} (h : BlkN W g n) (g' j : Nat) (u : Value) : BlkN (W.setCell ⟨g', j, none⟩ u) g n := by
  obtain ⟨vs, h1, h2⟩ := h
  by_cases hg : g = g'
  · subst hg
    exact ⟨vs.set j u, by simpa using h1, h2.setA j u⟩
  · exact ⟨vs, h1, h2.setO (p := ⟨g', j, none⟩) hg u⟩
end Go.Proofs.YtpnnpkchogooaaaGreat

/- The last regions in which a segment and a point are drawn. -/
namespace Go.Proofs.YtpnnpkchogooaaaGreat
open Go.RowKit
theorem Rdr.setM {w : World} {g : Nat} {ao : Option Addr} {n cap : Nat} {cs : List Int} (h : Rdr w g ao n cap cs) {p : Addr} (hp : p.block ≠ g) (hc : ∀ i, i < cs.length → ∃ b off, ao = some ⟨b, off, none⟩ ∧ b < p.block) (u : Value) : Rdr (w.setCell p u) g ao n cap cs := by
  obtain ⟨q, hq, B⟩ := h.blk
  refine ⟨⟨q, hq, B.setO (by omega) u⟩, fun i hi => ?_, h.len, h.small, h.byte⟩
  obtain ⟨b, off, e, hb, hc'⟩ := h.bytes i hi
  obtain ⟨b', off', e', hb'⟩ := hc i hi
  rw [e] at e'
  cases e'
  exact ⟨b, off, e, hb, (World.cell?_setCell_other _ _ _ _ (by intro e; rw [e] at hb'; simp at hb')).trans hc'⟩
def VsdR (R0 R1 _A5 _A6 : Nat) (a b c d p q r : Int) (_B : Nat) : Nat → Value → World → Prop
  | 0, v, _ => v = .agg #[.int .i64 a, .int .i64 b, .int .i64 c, .int .i64 d]
  | 1, v, _ => v = .agg #[.int .u64 (ww3 p), .int .u64 (ww2 p), .int .u64 (ww1 p), .int .u64 (ww0 p), .int .u64 (ww3 q), .int .u64 (ww2 q), .int .u64 (ww1 q), .int .u64 (ww0 q), .int .u64 (ww3 r), .int .u64 (ww2 r), .int .u64 (ww1 r), .int .u64 (ww0 r)]
  | 2, _, W => Blk W R0 [.int .i64 a, .int .i64 b, .int .i64 c, .int .i64 d]
  | 3, _, W => Blk W R1 [.int .u64 (ww3 p), .int .u64 (ww2 p), .int .u64 (ww1 p), .int .u64 (ww0 p), .int .u64 (ww3 q), .int .u64 (ww2 q), .int .u64 (ww1 q), .int .u64 (ww0 q), .int .u64 (ww3 r), .int .u64 (ww2 r), .int .u64 (ww1 r), .int .u64 (ww0 r)]
  | _, _, _ => True
theorem VsdR.mono {R0 R1 A5 A6 : Nat} {a b c d p q r : Int} {B j : Nat} {v : Value} {W W2 : World} (hB : Below W.heap.size W W2) (h : VsdR R0 R1 A5 A6 a b c d p q r B j v W) : VsdR R0 R1 A5 A6 a b c d p q r B j v W2 := by
  unfold VsdR at *
  split <;> simp only at h <;> first | exact h | exact h.step hB | trivial
theorem VsdR.put {R0 R1 A5 A6 : Nat} {a b c d p q r : Int} {B j : Nat} {v : Value} {W W2 : World} (h1 : Blk W R1 [.int .u64 (ww3 p), .int .u64 (ww2 p), .int .u64 (ww1 p), .int .u64 (ww0 p), .int .u64 (ww3 q), .int .u64 (ww2 q), .int .u64 (ww1 q), .int .u64 (ww0 q), .int .u64 (ww3 r), .int .u64 (ww2 r), .int .u64 (ww1 r), .int .u64 (ww0 r)] → Blk W2 R1 [.int .u64 (ww3 p), .int .u64 (ww2 p), .int .u64 (ww1 p), .int .u64 (ww0 p), .int .u64 (ww3 q), .int .u64 (ww2 q), .int .u64 (ww1 q), .int .u64 (ww0 q), .int .u64 (ww3 r), .int .u64 (ww2 r), .int .u64 (ww1 r), .int .u64 (ww0 r)]) (h0 : Blk W R0 [.int .i64 a, .int .i64 b, .int .i64 c, .int .i64 d] → Blk W2 R0 [.int .i64 a, .int .i64 b, .int .i64 c, .int .i64 d]) (h : VsdR R0 R1 A5 A6 a b c d p q r B j v W) : VsdR R0 R1 A5 A6 a b c d p q r B j v W2 := by
  unfold VsdR at *
  split <;> simp only at h <;> first | exact h | exact h0 h | exact h1 h | trivial
def VsdQ (R0 R1 _A5 G : Nat) (_ao : Option Addr) (_n _cap : Nat) (_cs : List Int) (a b c d : Int) (_B : Nat) : Nat → Value → World → Prop
  | 0, v, _ => v = .agg #[.int .i64 a, .int .i64 b, .int .i64 c, .int .i64 d]
  | 1, v, _ => v = .pointer (some ⟨G, 0, none⟩)
  | 2, v, _ => ∃ x y z : Int, v = .agg #[.int .u64 (ww3 x), .int .u64 (ww2 x), .int .u64 (ww1 x), .int .u64 (ww0 x), .int .u64 (ww3 y), .int .u64 (ww2 y), .int .u64 (ww1 y), .int .u64 (ww0 y), .int .u64 (ww3 z), .int .u64 (ww2 z), .int .u64 (ww1 z), .int .u64 (ww0 z)] ∧ told x = true ∧ told y = true ∧ told z = true
  | 3, _, W => Blk W R0 [.int .i64 a, .int .i64 b, .int .i64 c, .int .i64 d]
  | 4, _, W => ∃ x y z : Int, told x = true ∧ told y = true ∧ told z = true ∧ Blk W R1 [.int .u64 (ww3 x), .int .u64 (ww2 x), .int .u64 (ww1 x), .int .u64 (ww0 x), .int .u64 (ww3 y), .int .u64 (ww2 y), .int .u64 (ww1 y), .int .u64 (ww0 y), .int .u64 (ww3 z), .int .u64 (ww2 z), .int .u64 (ww1 z), .int .u64 (ww0 z)]
  | _, _, _ => True
theorem VsdQ.mono {R0 R1 A5 G : Nat} {ao : Option Addr} {n cap : Nat} {cs : List Int} {a b c d : Int} {B j : Nat} {v : Value} {W W2 : World} (hB : Below W.heap.size W W2) (h : VsdQ R0 R1 A5 G ao n cap cs a b c d B j v W) : VsdQ R0 R1 A5 G ao n cap cs a b c d B j v W2 := by
  unfold VsdQ at *
  split <;> simp only at h <;> first | exact h | (obtain ⟨x, y, z, t1, t2, t3, h4⟩ := h; exact ⟨x, y, z, t1, t2, t3, h4.step hB⟩) | exact h.step hB | trivial
theorem VsdQ.put {R0 R1 A5 G : Nat} {ao : Option Addr} {n cap : Nat} {cs : List Int} {a b c d : Int} {B j : Nat} {v : Value} {W W2 : World} (h1 : (∃ x y z : Int, told x = true ∧ told y = true ∧ told z = true ∧ Blk W R1 [.int .u64 (ww3 x), .int .u64 (ww2 x), .int .u64 (ww1 x), .int .u64 (ww0 x), .int .u64 (ww3 y), .int .u64 (ww2 y), .int .u64 (ww1 y), .int .u64 (ww0 y), .int .u64 (ww3 z), .int .u64 (ww2 z), .int .u64 (ww1 z), .int .u64 (ww0 z)]) → ∃ x y z : Int, told x = true ∧ told y = true ∧ told z = true ∧ Blk W2 R1 [.int .u64 (ww3 x), .int .u64 (ww2 x), .int .u64 (ww1 x), .int .u64 (ww0 x), .int .u64 (ww3 y), .int .u64 (ww2 y), .int .u64 (ww1 y), .int .u64 (ww0 y), .int .u64 (ww3 z), .int .u64 (ww2 z), .int .u64 (ww1 z), .int .u64 (ww0 z)]) (h0 : Blk W R0 [.int .i64 a, .int .i64 b, .int .i64 c, .int .i64 d] → Blk W2 R0 [.int .i64 a, .int .i64 b, .int .i64 c, .int .i64 d]) (h : VsdQ R0 R1 A5 G ao n cap cs a b c d B j v W) : VsdQ R0 R1 A5 G ao n cap cs a b c d B j v W2 := by
  unfold VsdQ at *
  split <;> simp only at h <;> first | exact h | exact h0 h | exact h1 h | trivial
end Go.Proofs.YtpnnpkchogooaaaGreat

/- A segment and a spot drawn from a code, and the law: drawn regions. -/
namespace Go.Proofs.YtpnnpkchogooaaaGreat
open Go.RowKit
def VnfA (_R0 _R1 _A5 G : Nat) (_ao : Option Addr) (_n _cap : Nat) (_cs : List Int) (a b c d : Int) (_B : Nat) : Nat → Value → World → Prop
  | 0, v, _ => v = .agg #[.int .i64 a, .int .i64 b, .int .i64 c, .int .i64 d]
  | 1, v, _ => v = .pointer (some ⟨G, 0, none⟩)
  | 2, v, _ => ∃ z : Int, v = .int .i64 z ∧ I64 z
  | 3, v, _ => v = .pointer (some ⟨G, 0, none⟩)
  | 4, v, _ => ∃ z : Int, v = .int .i64 z ∧ I64 z
  | 5, v, _ => ∃ x y : Int, v = .agg #[.int .i64 x, .int .i64 y] ∧ I64 x ∧ I64 y
  | _, _, _ => True
theorem VnfA.mono {R0 R1 A5 G : Nat} {ao : Option Addr} {n cap : Nat} {cs : List Int} {a b c d : Int} {B j : Nat} {v : Value} {W W2 : World} (_hB : Below W.heap.size W W2) (h : VnfA R0 R1 A5 G ao n cap cs a b c d B j v W) : VnfA R0 R1 A5 G ao n cap cs a b c d B j v W2 := by
  unfold VnfA at *
  split <;> simp only at h <;> first | exact h | trivial
theorem VnfA.same {R0 R1 A5 G : Nat} {ao : Option Addr} {n cap : Nat} {cs : List Int} {a b c d : Int} {B j : Nat} {v : Value} {W W2 : World} (h : VnfA R0 R1 A5 G ao n cap cs a b c d B j v W) : VnfA R0 R1 A5 G ao n cap cs a b c d B j v W2 := by
  unfold VnfA at *
  split <;> simp only at h <;> first | exact h | trivial
def SnfA (R0 R1 A5 G : Nat) (ao : Option Addr) (n cap : Nat) (cs : List Int) (a b c d : Int) (W : World) : Prop := Blk W A5 [.int .i64 a, .int .i64 b, .int .i64 c, .int .i64 d] ∧ Rdr W G ao n cap cs ∧ (∃ e0 e1 e2 e3 : Int, I64 e0 ∧ I64 e1 ∧ I64 e2 ∧ I64 e3 ∧ Blk W R0 [.int .i64 e0, .int .i64 e1, .int .i64 e2, .int .i64 e3]) ∧ ∃ p q : Int, I64 p ∧ I64 q ∧ Blk W R1 [.int .i64 p, .int .i64 q]
def JnfA (R0 R1 A5 G : Nat) (ao : Option Addr) (n cap : Nat) (cs : List Int) (a b c d : Int) (w0 : World) (a0 : Act) (lz : Array Bool) (az : Act) (W : World) : Prop := InvQ (R0) [some 12, some 13, some 14, some 15, some 16, some 17, none, none] (VnfA R0 R1 A5 G ao n cap cs a b c d (R0)) w0 a0 lz az W ∧ SnfA R0 R1 A5 G ao n cap cs a b c d W
set_option maxRecDepth 100000 in
set_option maxHeartbeats 4000000 in
theorem nfA {Q : Exit → Act → World → Prop} {R0 R1 A5 G : Nat} {ao : Option Addr} {n cap : Nat} {cs : List Int} {a b c d : Int}  {w0 : World} {a0 : Act} {idq : Nat} {t0 t1 t2 t3 t4 t5 t6 t7 : TypeId} {q0 q1 q2 q3 q4 q5 q6 q7 : String}
    (n01 : R0 < R1) (n5 : R1 < A5) (nG : R1 < G) (n5G : A5 ≠ G) (ia : I64 a) (ib : I64 b) (ic : I64 c) (id : I64 d) (hcd0 : ∀ i, i < cs.length → ∃ b off, ao = some ⟨b, off, none⟩ ∧ b < R0) (hcd1 : ∀ i, i < cs.length → ∃ b off, ao = some ⟨b, off, none⟩ ∧ b < R1) (h5 : a0.tmps[5]? = some (.pointer (some ⟨A5, 0, none⟩))) (h4 : a0.tmps[4]? = some (.pointer (some ⟨G, 0, none⟩))) (h2 : a0.tmps[2]? = some (.pointer (some ⟨R0, 0, none⟩))) (h3 : a0.tmps[3]? = some (.pointer (some ⟨R1, 0, none⟩)))  (hz : a0.tmps.size = 21) (hs0 : SnfA R0 R1 A5 G ao n cap cs a b c d w0.drew)
    (hQ : ∀ aq W, aq.tmps.size = a0.tmps.size → aq.defers = a0.defers → (∀ e, e ∉ ([12, 13, 14, 15, 16, 17] : List Nat) → aq.tmps[e]? = a0.tmps[e]?) → Below (R0) w0 W → SnfA R0 R1 A5 G ao n cap cs a b c d W → Q .normal aq W) :
    (Code.region idq #[{ dst := some 12, op := Op.load 27 (Operand.tmp 5), type := t0, pos := q0, after := #[], guard := none },
    { dst := some 13, op := Op.move (Operand.tmp 4), type := t1, pos := q1, after := #[], guard := none },
    { dst := some 14, op := Op.call { callee := Callee.value (Operand.func 25), args := #[Operand.tmp 13, Operand.const (Value.int IntKind.i64 (-1000000)), Operand.const (Value.int IntKind.i64 1000000)], argTypes := #[56, 2, 2] }, type := t2, pos := q2, after := #[{ on := 1, ground := Ground.data }], guard := none },
    { dst := some 15, op := Op.move (Operand.tmp 4), type := t3, pos := q3, after := #[], guard := none },
    { dst := some 16, op := Op.call { callee := Callee.value (Operand.func 25), args := #[Operand.tmp 15, Operand.const (Value.int IntKind.i64 (-1000000)), Operand.const (Value.int IntKind.i64 1000000)], argTypes := #[56, 2, 2] }, type := t4, pos := q4, after := #[{ on := 3, ground := Ground.data }, { on := 2, ground := Ground.chain }], guard := none },
    { dst := some 17, op := Op.build 25 #[(0, Operand.tmp 14), (1, Operand.tmp 16)], type := t5, pos := q5, after := #[{ on := 2, ground := Ground.data }, { on := 4, ground := Ground.data }, { on := 6, ground := Ground.gcOnly Departure.lateStores }], guard := none },
    { dst := none, op := Op.store 27 (Operand.tmp 2) (Operand.tmp 12), type := t6, pos := q6, after := #[{ on := 0, ground := Ground.data }, { on := 4, ground := Ground.chain }, { on := 0, ground := Ground.phase }, { on := 1, ground := Ground.textOnly Departure.lateStores }, { on := 2, ground := Ground.textOnly Departure.lateStoresUnsure }, { on := 3, ground := Ground.textOnly Departure.lateStores }, { on := 4, ground := Ground.textOnly Departure.lateStoresUnsure }, { on := 5, ground := Ground.textOnly Departure.lateStores }], guard := none },
    { dst := none, op := Op.store 25 (Operand.tmp 3) (Operand.tmp 17), type := t7, pos := q7, after := #[{ on := 5, ground := Ground.data }, { on := 6, ground := Ground.chain }, { on := 0, ground := Ground.phase }, { on := 1, ground := Ground.phase }, { on := 2, ground := Ground.phase }, { on := 3, ground := Ground.phase }, { on := 4, ground := Ground.phase }, { on := 5, ground := Ground.phase }, { on := 6, ground := Ground.phase }], guard := none }] true).wp Tryz.prog Q a0 w0 := by
  have hS : distS [some 12, some 13, some 14, some 15, some 16, some 17, none, none] = true := rfl
  refine wp_region_inv (by kernel_rfl) (JnfA R0 R1 A5 G ao n cap cs a b c d w0 a0) ⟨⟨rfl, rfl, rfl, fun _ _ => rfl, (Below.refl _ w0).drew, fun j d hj => ?_, fun j hj => ?_⟩, hs0⟩ ?_ ?_
  · exfalso
    rw [Array.getD_eq_getD_getElem?, Array.getElem?_replicate] at hj
    split at hj <;> simp at hj
  · exfalso
    rw [Array.getD_eq_getD_getElem?, Array.getElem?_replicate] at hj
    split at hj <;> simp at hj
  · intro lq aq W iq oq ⟨hJ, hs⟩ hl ho hall
    have hJ2 := hJ
    obtain ⟨z1, z2, z3, z4, z5, z6, z7⟩ := hJ
    obtain ⟨xa, xr, ⟨e0, e1, e2, e3, j0, j1, j2, j3, xc⟩, pb, qb, ipb, iqb, xd⟩ := hs
    have ca0 := xa.c 0 rfl; have ca1 := xa.c 1 rfl; have ca2 := xa.c 2 rfl; have ca3 := xa.c 3 rfl
    have rc0 := xc.c 0 rfl; have sc0 := xc.f 0 rfl; have rc1 := xc.c 1 rfl; have sc1 := xc.f 1 rfl; have rc2 := xc.c 2 rfl; have sc2 := xc.f 2 rfl; have rc3 := xc.c 3 rfl; have sc3 := xc.f 3 rfl; have rlc := xc.lt
    have rd0 := xd.c 0 rfl; have sd0 := xd.f 0 rfl; have rd1 := xd.c 1 rfl; have sd1 := xd.f 1 rfl; have rld := xd.lt
    have hs : SnfA R0 R1 A5 G ao n cap cs a b c d W := ⟨xa, xr, ⟨e0, e1, e2, e3, j0, j1, j2, j3, xc⟩, pb, qb, ipb, iqb, xd⟩
    have g5 : aq.tmps.getD 5 undef = .pointer (some ⟨A5, 0, none⟩) := by rw [Array.getD_eq_getD_getElem?, z4 5 (by decide), h5]; rfl
    have g4 : aq.tmps.getD 4 undef = .pointer (some ⟨G, 0, none⟩) := by rw [Array.getD_eq_getD_getElem?, z4 4 (by decide), h4]; rfl
    have g2 : aq.tmps.getD 2 undef = .pointer (some ⟨R0, 0, none⟩) := by rw [Array.getD_eq_getD_getElem?, z4 2 (by decide), h2]; rfl
    have g3 : aq.tmps.getD 3 undef = .pointer (some ⟨R1, 0, none⟩) := by rw [Array.getD_eq_getD_getElem?, z4 3 (by decide), h3]; rfl
    match iq, ho with
    | 0, ho =>
      cases ho
      refine wpOp_of rfl rfl ?_
      have hK := fun (v : Value) (W2 : World) hW hT hv (hs : SnfA R0 R1 A5 G ao n cap cs a b c d W2) => show (JnfA R0 R1 A5 G ao n cap cs a b c d w0 a0) (lq.setIfInBounds 0 true) (aq.put (some 12) v) W2 from ⟨hJ2.put hS 0 12 rfl (by omega) (W' := W2) hW hT v hv, hs⟩
      clear ho hall hl hQ
      generalize (JnfA R0 R1 A5 G ao n cap cs a b c d w0 a0) (lq.setIfInBounds 0 true) = K at hK ⊢
      clear hJ2 hS z1 z2 z3 z4 z6 z7
      go_simp
      exact hK _ _ z5 (fun _ _ h => h) rfl hs
    | 1, ho =>
      cases ho
      refine wpOp_of rfl rfl ?_
      have hK := fun (v : Value) (W2 : World) hW hT hv (hs : SnfA R0 R1 A5 G ao n cap cs a b c d W2) => show (JnfA R0 R1 A5 G ao n cap cs a b c d w0 a0) (lq.setIfInBounds 1 true) (aq.put (some 13) v) W2 from ⟨hJ2.put hS 1 13 rfl (by omega) (W' := W2) hW hT v hv, hs⟩
      clear ho hall hl hQ
      generalize (JnfA R0 R1 A5 G ao n cap cs a b c d w0 a0) (lq.setIfInBounds 1 true) = K at hK ⊢
      clear hJ2 hS z1 z2 z3 z4 z6 z7
      go_simp
      exact hK _ _ z5 (fun _ _ h => h) rfl hs
    | 2, ho =>
      cases ho
      refine wpOp_of rfl rfl ?_
      have f1 : (aq.tmps.getD 13 undef) = .pointer (some ⟨G, 0, none⟩) := z6 1 13 (hall { on := 1, ground := Ground.data } (by simp) rfl) rfl
      have hK := fun (v : Value) (W2 : World) hW hT hv (hs : SnfA R0 R1 A5 G ao n cap cs a b c d W2) => show (JnfA R0 R1 A5 G ao n cap cs a b c d w0 a0) (lq.setIfInBounds 2 true) (aq.put (some 14) v) W2 from ⟨hJ2.put hS 2 14 rfl (by omega) (W' := W2) hW hT v hv, hs⟩
      clear ho hall hl hQ
      generalize (JnfA R0 R1 A5 G ao n cap cs a b c d w0 a0) (lq.setIfInBounds 2 true) = K at hK ⊢
      clear hJ2 hS z1 z2 z3 z4 z6 z7
      have rwl := xc.lt
      go_simp
      refine (off_any G ao n cap cs _ xr).mono ?_
      rintro e v1 ⟨_, rfl, ⟨z, rfl, iz⟩, xr2, hk⟩
      exact hK _ _ (z5.trans (hk.below (by omega) (by omega))) (fun _ _ h => VnfA.same h) ⟨z, rfl, iz⟩ ⟨xa.kept hk n5G, xr2, ⟨e0, e1, e2, e3, j0, j1, j2, j3, xc.kept hk (by omega)⟩, pb, qb, ipb, iqb, xd.kept hk (by omega)⟩
    | 3, ho =>
      cases ho
      refine wpOp_of rfl rfl ?_
      have hK := fun (v : Value) (W2 : World) hW hT hv (hs : SnfA R0 R1 A5 G ao n cap cs a b c d W2) => show (JnfA R0 R1 A5 G ao n cap cs a b c d w0 a0) (lq.setIfInBounds 3 true) (aq.put (some 15) v) W2 from ⟨hJ2.put hS 3 15 rfl (by omega) (W' := W2) hW hT v hv, hs⟩
      clear ho hall hl hQ
      generalize (JnfA R0 R1 A5 G ao n cap cs a b c d w0 a0) (lq.setIfInBounds 3 true) = K at hK ⊢
      clear hJ2 hS z1 z2 z3 z4 z6 z7
      go_simp
      exact hK _ _ z5 (fun _ _ h => h) rfl hs
    | 4, ho =>
      cases ho
      refine wpOp_of rfl rfl ?_
      have f3 : (aq.tmps.getD 15 undef) = .pointer (some ⟨G, 0, none⟩) := z6 3 15 (hall { on := 3, ground := Ground.data } (by simp) rfl) rfl
      have hK := fun (v : Value) (W2 : World) hW hT hv (hs : SnfA R0 R1 A5 G ao n cap cs a b c d W2) => show (JnfA R0 R1 A5 G ao n cap cs a b c d w0 a0) (lq.setIfInBounds 4 true) (aq.put (some 16) v) W2 from ⟨hJ2.put hS 4 16 rfl (by omega) (W' := W2) hW hT v hv, hs⟩
      clear ho hall hl hQ
      generalize (JnfA R0 R1 A5 G ao n cap cs a b c d w0 a0) (lq.setIfInBounds 4 true) = K at hK ⊢
      clear hJ2 hS z1 z2 z3 z4 z6 z7
      have rwl := xc.lt
      go_simp
      refine (off_any G ao n cap cs _ xr).mono ?_
      rintro e v1 ⟨_, rfl, ⟨z, rfl, iz⟩, xr2, hk⟩
      exact hK _ _ (z5.trans (hk.below (by omega) (by omega))) (fun _ _ h => VnfA.same h) ⟨z, rfl, iz⟩ ⟨xa.kept hk n5G, xr2, ⟨e0, e1, e2, e3, j0, j1, j2, j3, xc.kept hk (by omega)⟩, pb, qb, ipb, iqb, xd.kept hk (by omega)⟩
    | 5, ho =>
      cases ho
      refine wpOp_of rfl rfl ?_
      have f2 : ∃ z : Int, (aq.tmps.getD 14 undef) = .int .i64 z ∧ I64 z := z6 2 14 (hall { on := 2, ground := Ground.data } (by simp) rfl) rfl
      obtain ⟨m2, ez2, iz2⟩ := f2
      have f4 : ∃ z : Int, (aq.tmps.getD 16 undef) = .int .i64 z ∧ I64 z := z6 4 16 (hall { on := 4, ground := Ground.data } (by simp) rfl) rfl
      obtain ⟨m4, ez4, iz4⟩ := f4
      rw [Array.getD_eq_getD_getElem?] at ez2 ez4
      have hK := fun (v : Value) (W2 : World) hW hT hv (hs : SnfA R0 R1 A5 G ao n cap cs a b c d W2) => show (JnfA R0 R1 A5 G ao n cap cs a b c d w0 a0) (lq.setIfInBounds 5 true) (aq.put (some 17) v) W2 from ⟨hJ2.put hS 5 17 rfl (by omega) (W' := W2) hW hT v hv, hs⟩
      clear ho hall hl hQ
      generalize (JnfA R0 R1 A5 G ao n cap cs a b c d w0 a0) (lq.setIfInBounds 5 true) = K at hK ⊢
      clear hJ2 hS z1 z2 z3 z4 z6 z7
      go_simp
      exact hK _ _ z5 (fun _ _ h => h) ⟨m2, m4, rfl, iz2, iz4⟩ hs
    | 6, ho =>
      cases ho
      refine wpOp_of rfl rfl ?_
      have f0 : (aq.tmps.getD 12 undef) = .agg #[.int .i64 a, .int .i64 b, .int .i64 c, .int .i64 d] := z6 0 12 (hall { on := 0, ground := Ground.data } (by simp) rfl) rfl
      have hK := fun (W2 : World) hW hT hv (hs : SnfA R0 R1 A5 G ao n cap cs a b c d W2) => show (JnfA R0 R1 A5 G ao n cap cs a b c d w0 a0) (lq.setIfInBounds 6 true) aq W2 from ⟨hJ2.world 6 rfl (W' := W2) hW hT hv, hs⟩
      clear ho hall hl hQ
      generalize (JnfA R0 R1 A5 G ao n cap cs a b c d w0 a0) (lq.setIfInBounds 6 true) = K at hK ⊢
      clear hJ2 hS z1 z2 z3 z4 z6 z7
      have nb : Blk ((((W.setCell ⟨R0, 0, none⟩ (.int .i64 a)).setCell ⟨R0, 1, none⟩ (.int .i64 b)).setCell ⟨R0, 2, none⟩ (.int .i64 c)).setCell ⟨R0, 3, none⟩ (.int .i64 d)) R0 [.int .i64 a, .int .i64 b, .int .i64 c, .int .i64 d] := ((((xc.setI 0 (by simp) _).setI 1 (by simp) _).setI 2 (by simp) _).setI 3 (by simp) _)
      have ns : SnfA R0 R1 A5 G ao n cap cs a b c d ((((W.setCell ⟨R0, 0, none⟩ (.int .i64 a)).setCell ⟨R0, 1, none⟩ (.int .i64 b)).setCell ⟨R0, 2, none⟩ (.int .i64 c)).setCell ⟨R0, 3, none⟩ (.int .i64 d)) := ⟨((((xa.setO (p := ⟨R0, 0, none⟩) (by show _ ≠ R0; omega) _).setO (p := ⟨R0, 1, none⟩) (by show _ ≠ R0; omega) _).setO (p := ⟨R0, 2, none⟩) (by show _ ≠ R0; omega) _).setO (p := ⟨R0, 3, none⟩) (by show _ ≠ R0; omega) _), ((((xr.setM (p := ⟨R0, 0, none⟩) (by show R0 ≠ G; omega) hcd0 _).setM (p := ⟨R0, 1, none⟩) (by show R0 ≠ G; omega) hcd0 _).setM (p := ⟨R0, 2, none⟩) (by show R0 ≠ G; omega) hcd0 _).setM (p := ⟨R0, 3, none⟩) (by show R0 ≠ G; omega) hcd0 _), ⟨a, b, c, d, ia, ib, ic, id, nb⟩, pb, qb, ipb, iqb, ((((xd.setO (p := ⟨R0, 0, none⟩) (by show _ ≠ R0; omega) _).setO (p := ⟨R0, 1, none⟩) (by show _ ≠ R0; omega) _).setO (p := ⟨R0, 2, none⟩) (by show _ ≠ R0; omega) _).setO (p := ⟨R0, 3, none⟩) (by show _ ≠ R0; omega) _)⟩
      have nB : Below R0 w0 ((((W.setCell ⟨R0, 0, none⟩ (.int .i64 a)).setCell ⟨R0, 1, none⟩ (.int .i64 b)).setCell ⟨R0, 2, none⟩ (.int .i64 c)).setCell ⟨R0, 3, none⟩ (.int .i64 d)) := ((((z5.setCell (p := ⟨R0, 0, none⟩) (Nat.le_refl _) _).setCell (p := ⟨R0, 1, none⟩) (Nat.le_refl _) _).setCell (p := ⟨R0, 2, none⟩) (Nat.le_refl _) _).setCell (p := ⟨R0, 3, none⟩) (Nat.le_refl _) _)
      clear xa xr xc xd nb
      go_simp
      exact hK _ nB (fun _ _ h => VnfA.same h) trivial ns
    | 7, ho =>
      cases ho
      refine wpOp_of rfl rfl ?_
      have f5 : ∃ x y : Int, (aq.tmps.getD 17 undef) = .agg #[.int .i64 x, .int .i64 y] ∧ I64 x ∧ I64 y := z6 5 17 (hall { on := 5, ground := Ground.data } (by simp) rfl) rfl
      obtain ⟨zx, zy, e5, ix, iy⟩ := f5
      have hK := fun (W2 : World) hW hT hv (hs : SnfA R0 R1 A5 G ao n cap cs a b c d W2) => show (JnfA R0 R1 A5 G ao n cap cs a b c d w0 a0) (lq.setIfInBounds 7 true) aq W2 from ⟨hJ2.world 7 rfl (W' := W2) hW hT hv, hs⟩
      clear ho hall hl hQ
      generalize (JnfA R0 R1 A5 G ao n cap cs a b c d w0 a0) (lq.setIfInBounds 7 true) = K at hK ⊢
      clear hJ2 hS z1 z2 z3 z4 z6 z7
      have nb : Blk ((W.setCell ⟨R1, 0, none⟩ (.int .i64 zx)).setCell ⟨R1, 1, none⟩ (.int .i64 zy)) R1 [.int .i64 zx, .int .i64 zy] := ((xd.setI 0 (by simp) _).setI 1 (by simp) _)
      have ns : SnfA R0 R1 A5 G ao n cap cs a b c d ((W.setCell ⟨R1, 0, none⟩ (.int .i64 zx)).setCell ⟨R1, 1, none⟩ (.int .i64 zy)) := ⟨((xa.setO (p := ⟨R1, 0, none⟩) (by show _ ≠ R1; omega) _).setO (p := ⟨R1, 1, none⟩) (by show _ ≠ R1; omega) _), ((xr.setM (p := ⟨R1, 0, none⟩) (by show R1 ≠ G; omega) hcd1 _).setM (p := ⟨R1, 1, none⟩) (by show R1 ≠ G; omega) hcd1 _), ⟨e0, e1, e2, e3, j0, j1, j2, j3, ((xc.setO (p := ⟨R1, 0, none⟩) (by show _ ≠ R1; omega) _).setO (p := ⟨R1, 1, none⟩) (by show _ ≠ R1; omega) _)⟩, zx, zy, ix, iy, nb⟩
      have nB : Below R0 w0 ((W.setCell ⟨R1, 0, none⟩ (.int .i64 zx)).setCell ⟨R1, 1, none⟩ (.int .i64 zy)) := ((z5.setCell (p := ⟨R1, 0, none⟩) (Nat.le_of_lt n01) _).setCell (p := ⟨R1, 1, none⟩) (Nat.le_of_lt n01) _)
      clear xa xr xc xd nb
      go_simp
      exact hK _ nB (fun _ _ h => VnfA.same h) trivial ns
    | iq + 8, ho => simp at ho
  · intro lq aq W ⟨hJ, hs⟩ hr
    obtain ⟨z1, z2, z3, z4, z5, z6, z7⟩ := hJ
    exact hQ aq W z2 z3 (fun e he => z4 e (by simpa using he))  z5 hs
def VnfB (_R0 _R1 _A5 G : Nat) (_ao : Option Addr) (_n _cap : Nat) (_cs : List Int) (a b c d : Int) (_B : Nat) : Nat → Value → World → Prop
  | 0, v, _ => v = .agg #[.int .i64 a, .int .i64 b, .int .i64 c, .int .i64 d]
  | 1, v, _ => v = .pointer (some ⟨G, 0, none⟩)
  | 2, v, _ => ∃ x y : Int, v = .agg #[.int .i64 x, .int .i64 y] ∧ I64 x ∧ I64 y
  | _, _, _ => True
theorem VnfB.mono {R0 R1 A5 G : Nat} {ao : Option Addr} {n cap : Nat} {cs : List Int} {a b c d : Int} {B j : Nat} {v : Value} {W W2 : World} (_hB : Below W.heap.size W W2) (h : VnfB R0 R1 A5 G ao n cap cs a b c d B j v W) : VnfB R0 R1 A5 G ao n cap cs a b c d B j v W2 := by
  unfold VnfB at *
  split <;> simp only at h <;> first | exact h | trivial
theorem VnfB.same {R0 R1 A5 G : Nat} {ao : Option Addr} {n cap : Nat} {cs : List Int} {a b c d : Int} {B j : Nat} {v : Value} {W W2 : World} (h : VnfB R0 R1 A5 G ao n cap cs a b c d B j v W) : VnfB R0 R1 A5 G ao n cap cs a b c d B j v W2 := by
  unfold VnfB at *
  split <;> simp only at h <;> first | exact h | trivial
def SnfB (R0 R1 A5 G : Nat) (ao : Option Addr) (n cap : Nat) (cs : List Int) (a b c d : Int) (W : World) : Prop := Blk W A5 [.int .i64 a, .int .i64 b, .int .i64 c, .int .i64 d] ∧ Rdr W G ao n cap cs ∧ (∃ e0 e1 e2 e3 : Int, I64 e0 ∧ I64 e1 ∧ I64 e2 ∧ I64 e3 ∧ Blk W R0 [.int .i64 e0, .int .i64 e1, .int .i64 e2, .int .i64 e3]) ∧ ∃ p q : Int, I64 p ∧ I64 q ∧ Blk W R1 [.int .i64 p, .int .i64 q]
def JnfB (R0 R1 A5 G : Nat) (ao : Option Addr) (n cap : Nat) (cs : List Int) (a b c d : Int) (w0 : World) (a0 : Act) (lz : Array Bool) (az : Act) (W : World) : Prop := InvQ (R0) [some 18, some 19, some 20, none, none] (VnfB R0 R1 A5 G ao n cap cs a b c d (R0)) w0 a0 lz az W ∧ SnfB R0 R1 A5 G ao n cap cs a b c d W
set_option maxRecDepth 100000 in
set_option maxHeartbeats 4000000 in
theorem nfB {Q : Exit → Act → World → Prop} {R0 R1 A5 G : Nat} {ao : Option Addr} {n cap : Nat} {cs : List Int} {a b c d : Int}  {w0 : World} {a0 : Act} {idq : Nat} {t0 t1 t2 t3 t4 : TypeId} {q0 q1 q2 q3 q4 : String}
    (n01 : R0 < R1) (n5 : R1 < A5) (nG : R1 < G) (n5G : A5 ≠ G) (ia : I64 a) (ib : I64 b) (ic : I64 c) (id : I64 d) (hcd0 : ∀ i, i < cs.length → ∃ b off, ao = some ⟨b, off, none⟩ ∧ b < R0) (hcd1 : ∀ i, i < cs.length → ∃ b off, ao = some ⟨b, off, none⟩ ∧ b < R1) (h5 : a0.tmps[5]? = some (.pointer (some ⟨A5, 0, none⟩))) (h4 : a0.tmps[4]? = some (.pointer (some ⟨G, 0, none⟩))) (h2 : a0.tmps[2]? = some (.pointer (some ⟨R0, 0, none⟩))) (h3 : a0.tmps[3]? = some (.pointer (some ⟨R1, 0, none⟩)))  (hz : a0.tmps.size = 21) (hs0 : SnfB R0 R1 A5 G ao n cap cs a b c d w0.drew)
    (hQ : ∀ aq W, aq.tmps.size = a0.tmps.size → aq.defers = a0.defers → (∀ e, e ∉ ([18, 19, 20] : List Nat) → aq.tmps[e]? = a0.tmps[e]?) → Below (R0) w0 W → SnfB R0 R1 A5 G ao n cap cs a b c d W → Q .normal aq W) :
    (Code.region idq #[{ dst := some 18, op := Op.load 27 (Operand.tmp 5), type := t0, pos := q0, after := #[], guard := none },
    { dst := some 19, op := Op.move (Operand.tmp 4), type := t1, pos := q1, after := #[], guard := none },
    { dst := some 20, op := Op.call { callee := Callee.value (Operand.func 26), args := #[Operand.tmp 19], argTypes := #[56] }, type := t2, pos := q2, after := #[{ on := 1, ground := Ground.data }], guard := none },
    { dst := none, op := Op.store 27 (Operand.tmp 2) (Operand.tmp 18), type := t3, pos := q3, after := #[{ on := 0, ground := Ground.data }, { on := 2, ground := Ground.chain }, { on := 0, ground := Ground.phase }, { on := 1, ground := Ground.textOnly Departure.lateStores }, { on := 2, ground := Ground.textOnly Departure.lateStoresUnsure }], guard := none },
    { dst := none, op := Op.store 25 (Operand.tmp 3) (Operand.tmp 20), type := t4, pos := q4, after := #[{ on := 2, ground := Ground.data }, { on := 3, ground := Ground.chain }, { on := 0, ground := Ground.phase }, { on := 1, ground := Ground.phase }, { on := 2, ground := Ground.phase }, { on := 3, ground := Ground.phase }], guard := none }] true).wp Tryz.prog Q a0 w0 := by
  have hS : distS [some 18, some 19, some 20, none, none] = true := rfl
  refine wp_region_inv (by kernel_rfl) (JnfB R0 R1 A5 G ao n cap cs a b c d w0 a0) ⟨⟨rfl, rfl, rfl, fun _ _ => rfl, (Below.refl _ w0).drew, fun j d hj => ?_, fun j hj => ?_⟩, hs0⟩ ?_ ?_
  · exfalso
    rw [Array.getD_eq_getD_getElem?, Array.getElem?_replicate] at hj
    split at hj <;> simp at hj
  · exfalso
    rw [Array.getD_eq_getD_getElem?, Array.getElem?_replicate] at hj
    split at hj <;> simp at hj
  · intro lq aq W iq oq ⟨hJ, hs⟩ hl ho hall
    have hJ2 := hJ
    obtain ⟨z1, z2, z3, z4, z5, z6, z7⟩ := hJ
    obtain ⟨xa, xr, ⟨e0, e1, e2, e3, j0, j1, j2, j3, xc⟩, pb, qb, ipb, iqb, xd⟩ := hs
    have ca0 := xa.c 0 rfl; have ca1 := xa.c 1 rfl; have ca2 := xa.c 2 rfl; have ca3 := xa.c 3 rfl
    have rc0 := xc.c 0 rfl; have sc0 := xc.f 0 rfl; have rc1 := xc.c 1 rfl; have sc1 := xc.f 1 rfl; have rc2 := xc.c 2 rfl; have sc2 := xc.f 2 rfl; have rc3 := xc.c 3 rfl; have sc3 := xc.f 3 rfl; have rlc := xc.lt
    have rd0 := xd.c 0 rfl; have sd0 := xd.f 0 rfl; have rd1 := xd.c 1 rfl; have sd1 := xd.f 1 rfl; have rld := xd.lt
    have hs : SnfB R0 R1 A5 G ao n cap cs a b c d W := ⟨xa, xr, ⟨e0, e1, e2, e3, j0, j1, j2, j3, xc⟩, pb, qb, ipb, iqb, xd⟩
    have g5 : aq.tmps.getD 5 undef = .pointer (some ⟨A5, 0, none⟩) := by rw [Array.getD_eq_getD_getElem?, z4 5 (by decide), h5]; rfl
    have g4 : aq.tmps.getD 4 undef = .pointer (some ⟨G, 0, none⟩) := by rw [Array.getD_eq_getD_getElem?, z4 4 (by decide), h4]; rfl
    have g2 : aq.tmps.getD 2 undef = .pointer (some ⟨R0, 0, none⟩) := by rw [Array.getD_eq_getD_getElem?, z4 2 (by decide), h2]; rfl
    have g3 : aq.tmps.getD 3 undef = .pointer (some ⟨R1, 0, none⟩) := by rw [Array.getD_eq_getD_getElem?, z4 3 (by decide), h3]; rfl
    match iq, ho with
    | 0, ho =>
      cases ho
      refine wpOp_of rfl rfl ?_
      have hK := fun (v : Value) (W2 : World) hW hT hv (hs : SnfB R0 R1 A5 G ao n cap cs a b c d W2) => show (JnfB R0 R1 A5 G ao n cap cs a b c d w0 a0) (lq.setIfInBounds 0 true) (aq.put (some 18) v) W2 from ⟨hJ2.put hS 0 18 rfl (by omega) (W' := W2) hW hT v hv, hs⟩
      clear ho hall hl hQ
      generalize (JnfB R0 R1 A5 G ao n cap cs a b c d w0 a0) (lq.setIfInBounds 0 true) = K at hK ⊢
      clear hJ2 hS z1 z2 z3 z4 z6 z7
      go_simp
      exact hK _ _ z5 (fun _ _ h => h) rfl hs
    | 1, ho =>
      cases ho
      refine wpOp_of rfl rfl ?_
      have hK := fun (v : Value) (W2 : World) hW hT hv (hs : SnfB R0 R1 A5 G ao n cap cs a b c d W2) => show (JnfB R0 R1 A5 G ao n cap cs a b c d w0 a0) (lq.setIfInBounds 1 true) (aq.put (some 19) v) W2 from ⟨hJ2.put hS 1 19 rfl (by omega) (W' := W2) hW hT v hv, hs⟩
      clear ho hall hl hQ
      generalize (JnfB R0 R1 A5 G ao n cap cs a b c d w0 a0) (lq.setIfInBounds 1 true) = K at hK ⊢
      clear hJ2 hS z1 z2 z3 z4 z6 z7
      go_simp
      exact hK _ _ z5 (fun _ _ h => h) rfl hs
    | 2, ho =>
      cases ho
      refine wpOp_of rfl rfl ?_
      have f1 : (aq.tmps.getD 19 undef) = .pointer (some ⟨G, 0, none⟩) := z6 1 19 (hall { on := 1, ground := Ground.data } (by simp) rfl) rfl
      have hK := fun (v : Value) (W2 : World) hW hT hv (hs : SnfB R0 R1 A5 G ao n cap cs a b c d W2) => show (JnfB R0 R1 A5 G ao n cap cs a b c d w0 a0) (lq.setIfInBounds 2 true) (aq.put (some 20) v) W2 from ⟨hJ2.put hS 2 20 rfl (by omega) (W' := W2) hW hT v hv, hs⟩
      clear ho hall hl hQ
      generalize (JnfB R0 R1 A5 G ao n cap cs a b c d w0 a0) (lq.setIfInBounds 2 true) = K at hK ⊢
      clear hJ2 hS z1 z2 z3 z4 z6 z7
      have rwl := xc.lt
      go_simp
      refine (spot_any G ao n cap cs _ xr).mono ?_
      rintro e v1 ⟨_, rfl, ⟨x, y, rfl, x0, x1, y0, y1⟩, xr2, hk⟩
      exact hK _ _ (z5.trans (hk.below (by omega) (by omega))) (fun _ _ h => VnfB.same h) ⟨x, y, rfl, (by constructor <;> omega), (by constructor <;> omega)⟩ ⟨xa.kept hk n5G, xr2, ⟨e0, e1, e2, e3, j0, j1, j2, j3, xc.kept hk (by omega)⟩, pb, qb, ipb, iqb, xd.kept hk (by omega)⟩
    | 3, ho =>
      cases ho
      refine wpOp_of rfl rfl ?_
      have f0 : (aq.tmps.getD 18 undef) = .agg #[.int .i64 a, .int .i64 b, .int .i64 c, .int .i64 d] := z6 0 18 (hall { on := 0, ground := Ground.data } (by simp) rfl) rfl
      have hK := fun (W2 : World) hW hT hv (hs : SnfB R0 R1 A5 G ao n cap cs a b c d W2) => show (JnfB R0 R1 A5 G ao n cap cs a b c d w0 a0) (lq.setIfInBounds 3 true) aq W2 from ⟨hJ2.world 3 rfl (W' := W2) hW hT hv, hs⟩
      clear ho hall hl hQ
      generalize (JnfB R0 R1 A5 G ao n cap cs a b c d w0 a0) (lq.setIfInBounds 3 true) = K at hK ⊢
      clear hJ2 hS z1 z2 z3 z4 z6 z7
      have nb : Blk ((((W.setCell ⟨R0, 0, none⟩ (.int .i64 a)).setCell ⟨R0, 1, none⟩ (.int .i64 b)).setCell ⟨R0, 2, none⟩ (.int .i64 c)).setCell ⟨R0, 3, none⟩ (.int .i64 d)) R0 [.int .i64 a, .int .i64 b, .int .i64 c, .int .i64 d] := ((((xc.setI 0 (by simp) _).setI 1 (by simp) _).setI 2 (by simp) _).setI 3 (by simp) _)
      have ns : SnfB R0 R1 A5 G ao n cap cs a b c d ((((W.setCell ⟨R0, 0, none⟩ (.int .i64 a)).setCell ⟨R0, 1, none⟩ (.int .i64 b)).setCell ⟨R0, 2, none⟩ (.int .i64 c)).setCell ⟨R0, 3, none⟩ (.int .i64 d)) := ⟨((((xa.setO (p := ⟨R0, 0, none⟩) (by show _ ≠ R0; omega) _).setO (p := ⟨R0, 1, none⟩) (by show _ ≠ R0; omega) _).setO (p := ⟨R0, 2, none⟩) (by show _ ≠ R0; omega) _).setO (p := ⟨R0, 3, none⟩) (by show _ ≠ R0; omega) _), ((((xr.setM (p := ⟨R0, 0, none⟩) (by show R0 ≠ G; omega) hcd0 _).setM (p := ⟨R0, 1, none⟩) (by show R0 ≠ G; omega) hcd0 _).setM (p := ⟨R0, 2, none⟩) (by show R0 ≠ G; omega) hcd0 _).setM (p := ⟨R0, 3, none⟩) (by show R0 ≠ G; omega) hcd0 _), ⟨a, b, c, d, ia, ib, ic, id, nb⟩, pb, qb, ipb, iqb, ((((xd.setO (p := ⟨R0, 0, none⟩) (by show _ ≠ R0; omega) _).setO (p := ⟨R0, 1, none⟩) (by show _ ≠ R0; omega) _).setO (p := ⟨R0, 2, none⟩) (by show _ ≠ R0; omega) _).setO (p := ⟨R0, 3, none⟩) (by show _ ≠ R0; omega) _)⟩
      have nB : Below R0 w0 ((((W.setCell ⟨R0, 0, none⟩ (.int .i64 a)).setCell ⟨R0, 1, none⟩ (.int .i64 b)).setCell ⟨R0, 2, none⟩ (.int .i64 c)).setCell ⟨R0, 3, none⟩ (.int .i64 d)) := ((((z5.setCell (p := ⟨R0, 0, none⟩) (Nat.le_refl _) _).setCell (p := ⟨R0, 1, none⟩) (Nat.le_refl _) _).setCell (p := ⟨R0, 2, none⟩) (Nat.le_refl _) _).setCell (p := ⟨R0, 3, none⟩) (Nat.le_refl _) _)
      clear xa xr xc xd nb
      go_simp
      exact hK _ nB (fun _ _ h => VnfB.same h) trivial ns
    | 4, ho =>
      cases ho
      refine wpOp_of rfl rfl ?_
      have f2 : ∃ x y : Int, (aq.tmps.getD 20 undef) = .agg #[.int .i64 x, .int .i64 y] ∧ I64 x ∧ I64 y := z6 2 20 (hall { on := 2, ground := Ground.data } (by simp) rfl) rfl
      obtain ⟨zx, zy, e5, ix, iy⟩ := f2
      have hK := fun (W2 : World) hW hT hv (hs : SnfB R0 R1 A5 G ao n cap cs a b c d W2) => show (JnfB R0 R1 A5 G ao n cap cs a b c d w0 a0) (lq.setIfInBounds 4 true) aq W2 from ⟨hJ2.world 4 rfl (W' := W2) hW hT hv, hs⟩
      clear ho hall hl hQ
      generalize (JnfB R0 R1 A5 G ao n cap cs a b c d w0 a0) (lq.setIfInBounds 4 true) = K at hK ⊢
      clear hJ2 hS z1 z2 z3 z4 z6 z7
      have nb : Blk ((W.setCell ⟨R1, 0, none⟩ (.int .i64 zx)).setCell ⟨R1, 1, none⟩ (.int .i64 zy)) R1 [.int .i64 zx, .int .i64 zy] := ((xd.setI 0 (by simp) _).setI 1 (by simp) _)
      have ns : SnfB R0 R1 A5 G ao n cap cs a b c d ((W.setCell ⟨R1, 0, none⟩ (.int .i64 zx)).setCell ⟨R1, 1, none⟩ (.int .i64 zy)) := ⟨((xa.setO (p := ⟨R1, 0, none⟩) (by show _ ≠ R1; omega) _).setO (p := ⟨R1, 1, none⟩) (by show _ ≠ R1; omega) _), ((xr.setM (p := ⟨R1, 0, none⟩) (by show R1 ≠ G; omega) hcd1 _).setM (p := ⟨R1, 1, none⟩) (by show R1 ≠ G; omega) hcd1 _), ⟨e0, e1, e2, e3, j0, j1, j2, j3, ((xc.setO (p := ⟨R1, 0, none⟩) (by show _ ≠ R1; omega) _).setO (p := ⟨R1, 1, none⟩) (by show _ ≠ R1; omega) _)⟩, zx, zy, ix, iy, nb⟩
      have nB : Below R0 w0 ((W.setCell ⟨R1, 0, none⟩ (.int .i64 zx)).setCell ⟨R1, 1, none⟩ (.int .i64 zy)) := ((z5.setCell (p := ⟨R1, 0, none⟩) (Nat.le_of_lt n01) _).setCell (p := ⟨R1, 1, none⟩) (Nat.le_of_lt n01) _)
      clear xa xr xc xd nb
      go_simp
      exact hK _ nB (fun _ _ h => VnfB.same h) trivial ns
    | iq + 5, ho => simp at ho
  · intro lq aq W ⟨hJ, hs⟩ hr
    obtain ⟨z1, z2, z3, z4, z5, z6, z7⟩ := hJ
    exact hQ aq W z2 z3 (fun e he => z4 e (by simpa using he))  z5 hs
def VnfL (A5 : Nat) (a b c d x y U sg : Int) (t : Bool) (_B : Nat) : Nat → Value → World → Prop
  | 0, v, _ => v = .pointer (some ⟨A5, 0, none⟩)
  | 1, v, _ => v = .agg #[.int .u64 (ww3 U), .int .u64 (ww2 U), .int .u64 (ww1 U), .int .u64 (ww0 U)]
  | 2, v, _ => v = .int .i64 sg
  | 3, v, _ => v = .bool t
  | 4, v, _ => v = .agg #[.int .i64 a, .int .i64 b, .int .i64 c, .int .i64 d]
  | 5, v, _ => v = .agg #[.int .u64 (ww3 x), .int .u64 (ww2 x), .int .u64 (ww1 x), .int .u64 (ww0 x), .int .u64 (ww3 y), .int .u64 (ww2 y), .int .u64 (ww1 y), .int .u64 (ww0 y), .int .u64 (ww3 1), .int .u64 (ww2 1), .int .u64 (ww1 1), .int .u64 (ww0 1)]
  | 6, v, _ => v = .bool t
  | 7, v, _ => v = .bool true
  | 8, v, _ => v = .bool true
  | _, _, _ => True
theorem VnfL.mono {A5 : Nat} {a b c d x y U sg : Int} {t : Bool} {B j : Nat} {v : Value} {W W2 : World} (_hB : Below W.heap.size W W2) (h : VnfL A5 a b c d x y U sg t B j v W) : VnfL A5 a b c d x y U sg t B j v W2 := by
  unfold VnfL at *
  split <;> simp only at h <;> first | exact h | trivial
set_option maxRecDepth 100000 in
set_option maxHeartbeats 4000000 in
theorem nfL {Q : Exit → Act → World → Prop} {A5 : Nat} {a b c d x y U sg : Int} {t : Bool} {A3 A9 : Nat}  {w0 : World} {a0 : Act} {idq : Nat} {t0 t1 t2 t3 t4 t5 t6 t7 t8 : TypeId} {q0 q1 q2 q3 q4 q5 q6 q7 q8 : String}
    (ht : (sg == 0) = t) (hW : ∀ w', Calls Tryz.prog 15 #[.agg #[.int .u64 (ww3 U), .int .u64 (ww2 U), .int .u64 (ww1 U), .int .u64 (ww0 U)]] w' (VP (.int .i64 sg) w')) (hO : ∀ w', Calls Tryz.prog 16 #[.agg #[.int .i64 a, .int .i64 b, .int .i64 c, .int .i64 d], .agg #[.int .u64 (ww3 x), .int .u64 (ww2 x), .int .u64 (ww1 x), .int .u64 (ww0 x), .int .u64 (ww3 y), .int .u64 (ww2 y), .int .u64 (ww1 y), .int .u64 (ww0 y), .int .u64 (ww3 1), .int .u64 (ww2 1), .int .u64 (ww1 1), .int .u64 (ww0 1)]] w' (BoolP t w')) (h5 : a0.tmps[5]? = some (.pointer (some ⟨A5, 0, none⟩))) (h3 : a0.tmps[3]? = some (.pointer (some ⟨A3, 0, none⟩))) (h9 : a0.tmps[9]? = some (.pointer (some ⟨A9, 0, none⟩))) (k0 : w0.cell? ⟨A5, 0, none⟩ = some (.int .u64 (ww3 U))) (l0 : (⟨A5, 0, none⟩ : Addr).block < w0.heap.size) (k1 : w0.cell? ⟨A5, 1, none⟩ = some (.int .u64 (ww2 U))) (l1 : (⟨A5, 1, none⟩ : Addr).block < w0.heap.size) (k2 : w0.cell? ⟨A5, 2, none⟩ = some (.int .u64 (ww1 U))) (l2 : (⟨A5, 2, none⟩ : Addr).block < w0.heap.size) (k3 : w0.cell? ⟨A5, 3, none⟩ = some (.int .u64 (ww0 U))) (l3 : (⟨A5, 3, none⟩ : Addr).block < w0.heap.size) (k4 : w0.cell? ⟨A3, 0, none⟩ = some (.int .i64 a)) (l4 : (⟨A3, 0, none⟩ : Addr).block < w0.heap.size) (k5 : w0.cell? ⟨A3, 1, none⟩ = some (.int .i64 b)) (l5 : (⟨A3, 1, none⟩ : Addr).block < w0.heap.size) (k6 : w0.cell? ⟨A3, 2, none⟩ = some (.int .i64 c)) (l6 : (⟨A3, 2, none⟩ : Addr).block < w0.heap.size) (k7 : w0.cell? ⟨A3, 3, none⟩ = some (.int .i64 d)) (l7 : (⟨A3, 3, none⟩ : Addr).block < w0.heap.size) (k8 : w0.cell? ⟨A9, 0, none⟩ = some (.int .u64 (ww3 x))) (l8 : (⟨A9, 0, none⟩ : Addr).block < w0.heap.size) (k9 : w0.cell? ⟨A9, 1, none⟩ = some (.int .u64 (ww2 x))) (l9 : (⟨A9, 1, none⟩ : Addr).block < w0.heap.size) (k10 : w0.cell? ⟨A9, 2, none⟩ = some (.int .u64 (ww1 x))) (l10 : (⟨A9, 2, none⟩ : Addr).block < w0.heap.size) (k11 : w0.cell? ⟨A9, 3, none⟩ = some (.int .u64 (ww0 x))) (l11 : (⟨A9, 3, none⟩ : Addr).block < w0.heap.size) (k12 : w0.cell? ⟨A9, 4, none⟩ = some (.int .u64 (ww3 y))) (l12 : (⟨A9, 4, none⟩ : Addr).block < w0.heap.size) (k13 : w0.cell? ⟨A9, 5, none⟩ = some (.int .u64 (ww2 y))) (l13 : (⟨A9, 5, none⟩ : Addr).block < w0.heap.size) (k14 : w0.cell? ⟨A9, 6, none⟩ = some (.int .u64 (ww1 y))) (l14 : (⟨A9, 6, none⟩ : Addr).block < w0.heap.size) (k15 : w0.cell? ⟨A9, 7, none⟩ = some (.int .u64 (ww0 y))) (l15 : (⟨A9, 7, none⟩ : Addr).block < w0.heap.size) (k16 : w0.cell? ⟨A9, 8, none⟩ = some (.int .u64 (ww3 1))) (l16 : (⟨A9, 8, none⟩ : Addr).block < w0.heap.size) (k17 : w0.cell? ⟨A9, 9, none⟩ = some (.int .u64 (ww2 1))) (l17 : (⟨A9, 9, none⟩ : Addr).block < w0.heap.size) (k18 : w0.cell? ⟨A9, 10, none⟩ = some (.int .u64 (ww1 1))) (l18 : (⟨A9, 10, none⟩ : Addr).block < w0.heap.size) (k19 : w0.cell? ⟨A9, 11, none⟩ = some (.int .u64 (ww0 1))) (l19 : (⟨A9, 11, none⟩ : Addr).block < w0.heap.size) (hz : a0.tmps.size = 107)
    (hQ : ∀ aq W, aq.tmps.size = a0.tmps.size → aq.defers = a0.defers → (∀ e, e ∉ ([99, 100, 101, 102, 103, 104, 105, 106, 2] : List Nat) → aq.tmps[e]? = a0.tmps[e]?) → VnfL A5 a b c d x y U sg t w0.heap.size 8 (aq.tmps.getD 2 undef) W → Below w0.heap.size w0 W → Q .normal aq W) :
    (Code.region idq #[{ dst := some 99, op := Op.fieldAddr 34 (Operand.tmp 5) 0, type := t0, pos := q0, after := #[], guard := none },
    { dst := some 100, op := Op.load 32 (Operand.tmp 99), type := t1, pos := q1, after := #[{ on := 0, ground := Ground.data }], guard := none },
    { dst := some 101, op := Op.call { callee := Callee.value (Operand.func 15), args := #[Operand.tmp 100], argTypes := #[32] }, type := t2, pos := q2, after := #[{ on := 1, ground := Ground.data }], guard := none },
    { dst := some 102, op := Op.binOp BinOp.eql 2 (Operand.tmp 101) (Operand.const (Value.int IntKind.i64 0)) 2, type := t3, pos := q3, after := #[{ on := 2, ground := Ground.data }], guard := none },
    { dst := some 103, op := Op.load 27 (Operand.tmp 3), type := t4, pos := q4, after := #[], guard := none },
    { dst := some 104, op := Op.load 40 (Operand.tmp 9), type := t5, pos := q5, after := #[], guard := none },
    { dst := some 105, op := Op.call { callee := Callee.value (Operand.func 16), args := #[Operand.tmp 103, Operand.tmp 104], argTypes := #[27, 40] }, type := t6, pos := q6, after := #[{ on := 4, ground := Ground.data }, { on := 5, ground := Ground.data }, { on := 2, ground := Ground.chain }], guard := none },
    { dst := some 106, op := Op.binOp BinOp.eql 4 (Operand.tmp 102) (Operand.tmp 105) 4, type := t7, pos := q7, after := #[{ on := 3, ground := Ground.data }, { on := 6, ground := Ground.data }], guard := none },
    { dst := some 2, op := Op.assign (Operand.tmp 106), type := t8, pos := q8, after := #[{ on := 7, ground := Ground.data }, { on := 6, ground := Ground.chain }, { on := 0, ground := Ground.phase }, { on := 1, ground := Ground.phase }, { on := 2, ground := Ground.phase }, { on := 3, ground := Ground.phase }, { on := 4, ground := Ground.phase }, { on := 5, ground := Ground.phase }, { on := 6, ground := Ground.phase }, { on := 7, ground := Ground.phase }], guard := none }] true).wp Tryz.prog Q a0 w0 := by
  have hS : distS [some 99, some 100, some 101, some 102, some 103, some 104, some 105, some 106, some 2] = true := rfl
  refine wp_region_q (by kernel_rfl) w0.heap.size [some 99, some 100, some 101, some 102, some 103, some 104, some 105, some 106, some 2] (VnfL A5 a b c d x y U sg t w0.heap.size) rfl ?_ ?_
  · intro Q lq aq W iq oq hJ hl ho hall
    have hJ2 := hJ
    obtain ⟨z1, z2, z3, z4, z5, z6, z7⟩ := hJ
    have g5 : aq.tmps.getD 5 undef = .pointer (some ⟨A5, 0, none⟩) := by rw [Array.getD_eq_getD_getElem?, z4 5 (by decide), h5]; rfl
    have g3 : aq.tmps.getD 3 undef = .pointer (some ⟨A3, 0, none⟩) := by rw [Array.getD_eq_getD_getElem?, z4 3 (by decide), h3]; rfl
    have g9 : aq.tmps.getD 9 undef = .pointer (some ⟨A9, 0, none⟩) := by rw [Array.getD_eq_getD_getElem?, z4 9 (by decide), h9]; rfl
    have c0 : W.cell? ⟨A5, 0, none⟩ = some (.int .u64 (ww3 U)) := (z5.cell l0).trans k0
    have c1 : W.cell? ⟨A5, 1, none⟩ = some (.int .u64 (ww2 U)) := (z5.cell l1).trans k1
    have c2 : W.cell? ⟨A5, 2, none⟩ = some (.int .u64 (ww1 U)) := (z5.cell l2).trans k2
    have c3 : W.cell? ⟨A5, 3, none⟩ = some (.int .u64 (ww0 U)) := (z5.cell l3).trans k3
    have c4 : W.cell? ⟨A3, 0, none⟩ = some (.int .i64 a) := (z5.cell l4).trans k4
    have c5 : W.cell? ⟨A3, 1, none⟩ = some (.int .i64 b) := (z5.cell l5).trans k5
    have c6 : W.cell? ⟨A3, 2, none⟩ = some (.int .i64 c) := (z5.cell l6).trans k6
    have c7 : W.cell? ⟨A3, 3, none⟩ = some (.int .i64 d) := (z5.cell l7).trans k7
    have c8 : W.cell? ⟨A9, 0, none⟩ = some (.int .u64 (ww3 x)) := (z5.cell l8).trans k8
    have c9 : W.cell? ⟨A9, 1, none⟩ = some (.int .u64 (ww2 x)) := (z5.cell l9).trans k9
    have c10 : W.cell? ⟨A9, 2, none⟩ = some (.int .u64 (ww1 x)) := (z5.cell l10).trans k10
    have c11 : W.cell? ⟨A9, 3, none⟩ = some (.int .u64 (ww0 x)) := (z5.cell l11).trans k11
    have c12 : W.cell? ⟨A9, 4, none⟩ = some (.int .u64 (ww3 y)) := (z5.cell l12).trans k12
    have c13 : W.cell? ⟨A9, 5, none⟩ = some (.int .u64 (ww2 y)) := (z5.cell l13).trans k13
    have c14 : W.cell? ⟨A9, 6, none⟩ = some (.int .u64 (ww1 y)) := (z5.cell l14).trans k14
    have c15 : W.cell? ⟨A9, 7, none⟩ = some (.int .u64 (ww0 y)) := (z5.cell l15).trans k15
    have c16 : W.cell? ⟨A9, 8, none⟩ = some (.int .u64 (ww3 1)) := (z5.cell l16).trans k16
    have c17 : W.cell? ⟨A9, 9, none⟩ = some (.int .u64 (ww2 1)) := (z5.cell l17).trans k17
    have c18 : W.cell? ⟨A9, 10, none⟩ = some (.int .u64 (ww1 1)) := (z5.cell l18).trans k18
    have c19 : W.cell? ⟨A9, 11, none⟩ = some (.int .u64 (ww0 1)) := (z5.cell l19).trans k19
    match iq, ho with
    | 0, ho =>
      cases ho
      refine wpOp_of rfl rfl ?_
      have hK := fun (v : Value) (W2 : World) hW hT hv => hJ2.put hS 0 99 rfl (by omega) (W' := W2) hW hT v hv
      clear ho hall hl hQ
      generalize InvQ w0.heap.size [some 99, some 100, some 101, some 102, some 103, some 104, some 105, some 106, some 2] (VnfL A5 a b c d x y U sg t w0.heap.size) w0 a0 (lq.setIfInBounds 0 true) = K at hK ⊢
      clear hJ2 hS z1 z2 z3 z4 z6 z7
      go_simp
      exact hK _ _ z5 (fun _ _ h => h) rfl
    | 1, ho =>
      cases ho
      refine wpOp_of rfl rfl ?_
      have f0 : (aq.tmps.getD 99 undef) = .pointer (some ⟨A5, 0, none⟩) := z6 0 99 (hall { on := 0, ground := Ground.data } (by simp) rfl) rfl
      have hK := fun (v : Value) (W2 : World) hW hT hv => hJ2.put hS 1 100 rfl (by omega) (W' := W2) hW hT v hv
      clear ho hall hl hQ
      generalize InvQ w0.heap.size [some 99, some 100, some 101, some 102, some 103, some 104, some 105, some 106, some 2] (VnfL A5 a b c d x y U sg t w0.heap.size) w0 a0 (lq.setIfInBounds 1 true) = K at hK ⊢
      clear hJ2 hS z1 z2 z3 z4 z6 z7
      go_simp
      exact hK _ _ z5 (fun _ _ h => h) rfl
    | 2, ho =>
      cases ho
      refine wpOp_of rfl rfl ?_
      have f1 : (aq.tmps.getD 100 undef) = .agg #[.int .u64 (ww3 U), .int .u64 (ww2 U), .int .u64 (ww1 U), .int .u64 (ww0 U)] := z6 1 100 (hall { on := 1, ground := Ground.data } (by simp) rfl) rfl
      have hK := fun (v : Value) (W2 : World) hW hT hv => hJ2.put hS 2 101 rfl (by omega) (W' := W2) hW hT v hv
      clear ho hall hl hQ
      generalize InvQ w0.heap.size [some 99, some 100, some 101, some 102, some 103, some 104, some 105, some 106, some 2] (VnfL A5 a b c d x y U sg t w0.heap.size) w0 a0 (lq.setIfInBounds 2 true) = K at hK ⊢
      clear hJ2 hS z1 z2 z3 z4 z6 z7
      go_simp
      refine (hW W).mono ?_
      rintro e v1 ⟨rfl, hBv⟩
      exact hK _ _ (z5.trans (hBv.mono z5.size)) (fun _ _ h => h.mono hBv) rfl
    | 3, ho =>
      cases ho
      refine wpOp_of rfl rfl ?_
      have f2 : (aq.tmps.getD 101 undef) = .int .i64 sg := z6 2 101 (hall { on := 2, ground := Ground.data } (by simp) rfl) rfl
      have hK := fun (v : Value) (W2 : World) hW hT hv => hJ2.put hS 3 102 rfl (by omega) (W' := W2) hW hT v hv
      clear ho hall hl hQ
      generalize InvQ w0.heap.size [some 99, some 100, some 101, some 102, some 103, some 104, some 105, some 106, some 2] (VnfL A5 a b c d x y U sg t w0.heap.size) w0 a0 (lq.setIfInBounds 3 true) = K at hK ⊢
      clear hJ2 hS z1 z2 z3 z4 z6 z7
      go_simp
      exact hK _ _ z5 (fun _ _ h => h) rfl
    | 4, ho =>
      cases ho
      refine wpOp_of rfl rfl ?_
      have hK := fun (v : Value) (W2 : World) hW hT hv => hJ2.put hS 4 103 rfl (by omega) (W' := W2) hW hT v hv
      clear ho hall hl hQ
      generalize InvQ w0.heap.size [some 99, some 100, some 101, some 102, some 103, some 104, some 105, some 106, some 2] (VnfL A5 a b c d x y U sg t w0.heap.size) w0 a0 (lq.setIfInBounds 4 true) = K at hK ⊢
      clear hJ2 hS z1 z2 z3 z4 z6 z7
      go_simp
      exact hK _ _ z5 (fun _ _ h => h) rfl
    | 5, ho =>
      cases ho
      refine wpOp_of rfl rfl ?_
      have hK := fun (v : Value) (W2 : World) hW hT hv => hJ2.put hS 5 104 rfl (by omega) (W' := W2) hW hT v hv
      clear ho hall hl hQ
      generalize InvQ w0.heap.size [some 99, some 100, some 101, some 102, some 103, some 104, some 105, some 106, some 2] (VnfL A5 a b c d x y U sg t w0.heap.size) w0 a0 (lq.setIfInBounds 5 true) = K at hK ⊢
      clear hJ2 hS z1 z2 z3 z4 z6 z7
      go_simp
      exact hK _ _ z5 (fun _ _ h => h) rfl
    | 6, ho =>
      cases ho
      refine wpOp_of rfl rfl ?_
      have f4 : (aq.tmps.getD 103 undef) = .agg #[.int .i64 a, .int .i64 b, .int .i64 c, .int .i64 d] := z6 4 103 (hall { on := 4, ground := Ground.data } (by simp) rfl) rfl
      have f5 : (aq.tmps.getD 104 undef) = .agg #[.int .u64 (ww3 x), .int .u64 (ww2 x), .int .u64 (ww1 x), .int .u64 (ww0 x), .int .u64 (ww3 y), .int .u64 (ww2 y), .int .u64 (ww1 y), .int .u64 (ww0 y), .int .u64 (ww3 1), .int .u64 (ww2 1), .int .u64 (ww1 1), .int .u64 (ww0 1)] := z6 5 104 (hall { on := 5, ground := Ground.data } (by simp) rfl) rfl
      have hK := fun (v : Value) (W2 : World) hW hT hv => hJ2.put hS 6 105 rfl (by omega) (W' := W2) hW hT v hv
      clear ho hall hl hQ
      generalize InvQ w0.heap.size [some 99, some 100, some 101, some 102, some 103, some 104, some 105, some 106, some 2] (VnfL A5 a b c d x y U sg t w0.heap.size) w0 a0 (lq.setIfInBounds 6 true) = K at hK ⊢
      clear hJ2 hS z1 z2 z3 z4 z6 z7
      go_simp
      refine (hO W).mono ?_
      rintro e v1 ⟨rfl, hBv⟩
      exact hK _ _ (z5.trans (hBv.mono z5.size)) (fun _ _ h => h.mono hBv) rfl
    | 7, ho =>
      cases ho
      refine wpOp_of rfl rfl ?_
      have f3 : (aq.tmps.getD 102 undef) = .bool t := z6 3 102 (hall { on := 3, ground := Ground.data } (by simp) rfl) rfl
      have f6 : (aq.tmps.getD 105 undef) = .bool t := z6 6 105 (hall { on := 6, ground := Ground.data } (by simp) rfl) rfl
      have hK := fun (v : Value) (W2 : World) hW hT hv => hJ2.put hS 7 106 rfl (by omega) (W' := W2) hW hT v hv
      clear ho hall hl hQ
      generalize InvQ w0.heap.size [some 99, some 100, some 101, some 102, some 103, some 104, some 105, some 106, some 2] (VnfL A5 a b c d x y U sg t w0.heap.size) w0 a0 (lq.setIfInBounds 7 true) = K at hK ⊢
      clear hJ2 hS z1 z2 z3 z4 z6 z7
      go_simp
      exact hK _ _ z5 (fun _ _ h => h) rfl
    | 8, ho =>
      cases ho
      refine wpOp_of rfl rfl ?_
      have f7 : (aq.tmps.getD 106 undef) = .bool true := z6 7 106 (hall { on := 7, ground := Ground.data } (by simp) rfl) rfl
      have hK := fun (v : Value) (W2 : World) hW hT hv => hJ2.put hS 8 2 rfl (by omega) (W' := W2) hW hT v hv
      clear ho hall hl hQ
      generalize InvQ w0.heap.size [some 99, some 100, some 101, some 102, some 103, some 104, some 105, some 106, some 2] (VnfL A5 a b c d x y U sg t w0.heap.size) w0 a0 (lq.setIfInBounds 8 true) = K at hK ⊢
      clear hJ2 hS z1 z2 z3 z4 z6 z7
      go_simp
      exact hK _ _ z5 (fun _ _ h => h) rfl
    | iq + 9, ho => simp at ho
  · intro lq aq W hJ hr
    obtain ⟨z1, z2, z3, z4, z5, z6, z7⟩ := hJ
    have hl := listed_of hr [0, 1, 2, 3, 4, 5, 6, 7, 8] [] (by simp) (by kernel_rfl) (by rw [z1]; decide)
    exact hQ aq W z2 z3 (fun e he => z4 e (by simpa using he)) (z6 8 2 (hl 8 (by simp)) rfl) z5
end Go.Proofs.YtpnnpkchogooaaaGreat
