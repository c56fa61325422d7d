/- The turn of three drawn points: the law. -/
import Derived.Test.YtgmenloipiedeaaBase16
import Derived.Test.YtgmenloipiedeaaOriL
namespace Go.Proofs.Ytgmenloipiedeaa
open Go.RowKit
theorem bigc_any (ao : Option Addr) (n cap : Nat) (w : World) (z : Bool) (hz : decide (1048576 < n) = z) : Calls Try.prog 6 #[.slice ao n cap] w (BoolP z w) := by
  subst hz
  go_enter Try.func6, Try.ntmps6
  go_wp2
  go_ret
  exact ⟨by simp; try omega, Below.refl _ _⟩
set_option maxRecDepth 100000 in
set_option maxHeartbeats 4000000 in
theorem lawTurns_any (ao : Option Addr) (n cap : Nat) (cs : List Int) (w : World) (h : n ≤ 1048576 → Code w ao n cs) : Calls Try.prog 3 #[.slice ao n cap] w (BoolP true w) := by
  by_cases hn : 1048576 < n
  · go_enter Try.func3, Try.ntmps3
    go_wp2_with fail
    refine (bigc_any ao n cap _ true (by simpa using hn)).mono ?_
    rintro e w1 ⟨rfl, hB⟩
    clear h
    go_wp2
    go_ret
    exact ⟨rfl, hB⟩
  · have hc := h (by omega)
    clear h
    go_enter Try.func3, Try.ntmps3
    go_wp2_with fail
    refine (bigc_any ao n cap _ false (by simpa using hn)).mono ?_
    rintro e w1 ⟨rfl, hB⟩
    replace hc := hc.below hB
    have HB := hB
    clear hB
    go_wp2_with fail
    refine (drawOrient_any ao n cap cs _ hc).mono ?_
    rintro e w2 ⟨x, y, z, u, v, t, a, b, c, rfl, tx, ty, tz, tu, tv, tt, ta, tb, tc, hB⟩
    replace HB := HB.trans (hB.mono HB.size)
    clear hB hc
    have I0 := implOrient_det x y z u v t a b c tx ty tz tu tv tt ta tb tc
    have I1 := specOrient_det x y z u v t a b c tx ty tz tu tv tt ta tb tc
    have I2 := implOrient_det u v t a b c x y z tu tv tt ta tb tc tx ty tz
    have I3 := implOrient_det a b c x y z u v t ta tb tc tx ty tz tu tv tt
    have I4 := implOrient_det u v t x y z a b c tu tv tt tx ty tz ta tb tc
    have I5 := implOrient_det x y z a b c u v t tx ty tz ta tb tc tu tv tt
    have I6 := implOrient_det x y z x y z a b c tx ty tz tx ty tz ta tb tc
    have I7 := implOrient_det x y z u v t u v t tx ty tz tu tv tt tu tv tt
    rw [ori_cyc x y z u v t a b c] at I2
    rw [← ori_cyc a b c x y z u v t] at I3
    rw [ori_swap x y z u v t a b c] at I4
    rw [ori_swap2 x y z u v t a b c] at I5
    rw [ori_two] at I6
    rw [ori_two'] at I7
    obtain ⟨o0, o1⟩ := ori_in x y z u v t a b c
    generalize oriI x y z u v t a b c = o at *
    clear tx ty tz tu tv tt ta tb tc
    have Xp : Blk (((w2.alloc (.cells #[.int .u64 (ww3 x), .int .u64 (ww2 x), .int .u64 (ww1 x), .int .u64 (ww0 x), .int .u64 (ww3 y), .int .u64 (ww2 y), .int .u64 (ww1 y), .int .u64 (ww0 y), .int .u64 (ww3 z), .int .u64 (ww2 z), .int .u64 (ww1 z), .int .u64 (ww0 z)] 28)).alloc (.cells #[.int .u64 (ww3 u), .int .u64 (ww2 u), .int .u64 (ww1 u), .int .u64 (ww0 u), .int .u64 (ww3 v), .int .u64 (ww2 v), .int .u64 (ww1 v), .int .u64 (ww0 v), .int .u64 (ww3 t), .int .u64 (ww2 t), .int .u64 (ww1 t), .int .u64 (ww0 t)] 28)).alloc (.cells #[.int .u64 (ww3 a), .int .u64 (ww2 a), .int .u64 (ww1 a), .int .u64 (ww0 a), .int .u64 (ww3 b), .int .u64 (ww2 b), .int .u64 (ww1 b), .int .u64 (ww0 b), .int .u64 (ww3 c), .int .u64 (ww2 c), .int .u64 (ww1 c), .int .u64 (ww0 c)] 28)) w2.heap.size [.int .u64 (ww3 x), .int .u64 (ww2 x), .int .u64 (ww1 x), .int .u64 (ww0 x), .int .u64 (ww3 y), .int .u64 (ww2 y), .int .u64 (ww1 y), .int .u64 (ww0 y), .int .u64 (ww3 z), .int .u64 (ww2 z), .int .u64 (ww1 z), .int .u64 (ww0 z)] := ((Blk.new w2 _ _ rfl).alloc _).alloc _
    have Xq : Blk (((w2.alloc (.cells #[.int .u64 (ww3 x), .int .u64 (ww2 x), .int .u64 (ww1 x), .int .u64 (ww0 x), .int .u64 (ww3 y), .int .u64 (ww2 y), .int .u64 (ww1 y), .int .u64 (ww0 y), .int .u64 (ww3 z), .int .u64 (ww2 z), .int .u64 (ww1 z), .int .u64 (ww0 z)] 28)).alloc (.cells #[.int .u64 (ww3 u), .int .u64 (ww2 u), .int .u64 (ww1 u), .int .u64 (ww0 u), .int .u64 (ww3 v), .int .u64 (ww2 v), .int .u64 (ww1 v), .int .u64 (ww0 v), .int .u64 (ww3 t), .int .u64 (ww2 t), .int .u64 (ww1 t), .int .u64 (ww0 t)] 28)).alloc (.cells #[.int .u64 (ww3 a), .int .u64 (ww2 a), .int .u64 (ww1 a), .int .u64 (ww0 a), .int .u64 (ww3 b), .int .u64 (ww2 b), .int .u64 (ww1 b), .int .u64 (ww0 b), .int .u64 (ww3 c), .int .u64 (ww2 c), .int .u64 (ww1 c), .int .u64 (ww0 c)] 28)) (w2.heap.size + 1) [.int .u64 (ww3 u), .int .u64 (ww2 u), .int .u64 (ww1 u), .int .u64 (ww0 u), .int .u64 (ww3 v), .int .u64 (ww2 v), .int .u64 (ww1 v), .int .u64 (ww0 v), .int .u64 (ww3 t), .int .u64 (ww2 t), .int .u64 (ww1 t), .int .u64 (ww0 t)] := (Blk.new (w2.alloc (.cells #[.int .u64 (ww3 x), .int .u64 (ww2 x), .int .u64 (ww1 x), .int .u64 (ww0 x), .int .u64 (ww3 y), .int .u64 (ww2 y), .int .u64 (ww1 y), .int .u64 (ww0 y), .int .u64 (ww3 z), .int .u64 (ww2 z), .int .u64 (ww1 z), .int .u64 (ww0 z)] 28)) _ _ (by simp)).alloc _
    have Xm : Blk (((w2.alloc (.cells #[.int .u64 (ww3 x), .int .u64 (ww2 x), .int .u64 (ww1 x), .int .u64 (ww0 x), .int .u64 (ww3 y), .int .u64 (ww2 y), .int .u64 (ww1 y), .int .u64 (ww0 y), .int .u64 (ww3 z), .int .u64 (ww2 z), .int .u64 (ww1 z), .int .u64 (ww0 z)] 28)).alloc (.cells #[.int .u64 (ww3 u), .int .u64 (ww2 u), .int .u64 (ww1 u), .int .u64 (ww0 u), .int .u64 (ww3 v), .int .u64 (ww2 v), .int .u64 (ww1 v), .int .u64 (ww0 v), .int .u64 (ww3 t), .int .u64 (ww2 t), .int .u64 (ww1 t), .int .u64 (ww0 t)] 28)).alloc (.cells #[.int .u64 (ww3 a), .int .u64 (ww2 a), .int .u64 (ww1 a), .int .u64 (ww0 a), .int .u64 (ww3 b), .int .u64 (ww2 b), .int .u64 (ww1 b), .int .u64 (ww0 b), .int .u64 (ww3 c), .int .u64 (ww2 c), .int .u64 (ww1 c), .int .u64 (ww0 c)] 28)) (w2.heap.size + 1 + 1) [.int .u64 (ww3 a), .int .u64 (ww2 a), .int .u64 (ww1 a), .int .u64 (ww0 a), .int .u64 (ww3 b), .int .u64 (ww2 b), .int .u64 (ww1 b), .int .u64 (ww0 b), .int .u64 (ww3 c), .int .u64 (ww2 c), .int .u64 (ww1 c), .int .u64 (ww0 c)] := Blk.new ((w2.alloc (.cells #[.int .u64 (ww3 x), .int .u64 (ww2 x), .int .u64 (ww1 x), .int .u64 (ww0 x), .int .u64 (ww3 y), .int .u64 (ww2 y), .int .u64 (ww1 y), .int .u64 (ww0 y), .int .u64 (ww3 z), .int .u64 (ww2 z), .int .u64 (ww1 z), .int .u64 (ww0 z)] 28)).alloc (.cells #[.int .u64 (ww3 u), .int .u64 (ww2 u), .int .u64 (ww1 u), .int .u64 (ww0 u), .int .u64 (ww3 v), .int .u64 (ww2 v), .int .u64 (ww1 v), .int .u64 (ww0 v), .int .u64 (ww3 t), .int .u64 (ww2 t), .int .u64 (ww1 t), .int .u64 (ww0 t)] 28)) _ _ (by simp)
    replace HB := ((HB.alloc HB.size (.cells #[.int .u64 (ww3 x), .int .u64 (ww2 x), .int .u64 (ww1 x), .int .u64 (ww0 x), .int .u64 (ww3 y), .int .u64 (ww2 y), .int .u64 (ww1 y), .int .u64 (ww0 y), .int .u64 (ww3 z), .int .u64 (ww2 z), .int .u64 (ww1 z), .int .u64 (ww0 z)] 28)).alloc (HB.alloc HB.size (.cells #[.int .u64 (ww3 x), .int .u64 (ww2 x), .int .u64 (ww1 x), .int .u64 (ww0 x), .int .u64 (ww3 y), .int .u64 (ww2 y), .int .u64 (ww1 y), .int .u64 (ww0 y), .int .u64 (ww3 z), .int .u64 (ww2 z), .int .u64 (ww1 z), .int .u64 (ww0 z)] 28)).size (.cells #[.int .u64 (ww3 u), .int .u64 (ww2 u), .int .u64 (ww1 u), .int .u64 (ww0 u), .int .u64 (ww3 v), .int .u64 (ww2 v), .int .u64 (ww1 v), .int .u64 (ww0 v), .int .u64 (ww3 t), .int .u64 (ww2 t), .int .u64 (ww1 t), .int .u64 (ww0 t)] 28)).alloc ((HB.alloc HB.size (.cells #[.int .u64 (ww3 x), .int .u64 (ww2 x), .int .u64 (ww1 x), .int .u64 (ww0 x), .int .u64 (ww3 y), .int .u64 (ww2 y), .int .u64 (ww1 y), .int .u64 (ww0 y), .int .u64 (ww3 z), .int .u64 (ww2 z), .int .u64 (ww1 z), .int .u64 (ww0 z)] 28)).alloc (HB.alloc HB.size (.cells #[.int .u64 (ww3 x), .int .u64 (ww2 x), .int .u64 (ww1 x), .int .u64 (ww0 x), .int .u64 (ww3 y), .int .u64 (ww2 y), .int .u64 (ww1 y), .int .u64 (ww0 y), .int .u64 (ww3 z), .int .u64 (ww2 z), .int .u64 (ww1 z), .int .u64 (ww0 z)] 28)).size (.cells #[.int .u64 (ww3 u), .int .u64 (ww2 u), .int .u64 (ww1 u), .int .u64 (ww0 u), .int .u64 (ww3 v), .int .u64 (ww2 v), .int .u64 (ww1 v), .int .u64 (ww0 v), .int .u64 (ww3 t), .int .u64 (ww2 t), .int .u64 (ww1 t), .int .u64 (ww0 t)] 28)).size (.cells #[.int .u64 (ww3 a), .int .u64 (ww2 a), .int .u64 (ww1 a), .int .u64 (ww0 a), .int .u64 (ww3 b), .int .u64 (ww2 b), .int .u64 (ww1 b), .int .u64 (ww0 b), .int .u64 (ww3 c), .int .u64 (ww2 c), .int .u64 (ww1 c), .int .u64 (ww0 c)] 28)
    have hoo : (o == o) = true := by simp
    have p0 := Xp.c 0 rfl; have p1 := Xp.c 1 rfl; have p2 := Xp.c 2 rfl; have p3 := Xp.c 3 rfl; have p4 := Xp.c 4 rfl; have p5 := Xp.c 5 rfl; have p6 := Xp.c 6 rfl; have p7 := Xp.c 7 rfl; have p8 := Xp.c 8 rfl; have p9 := Xp.c 9 rfl; have p10 := Xp.c 10 rfl; have p11 := Xp.c 11 rfl; have q0 := Xq.c 0 rfl; have q1 := Xq.c 1 rfl; have q2 := Xq.c 2 rfl; have q3 := Xq.c 3 rfl; have q4 := Xq.c 4 rfl; have q5 := Xq.c 5 rfl; have q6 := Xq.c 6 rfl; have q7 := Xq.c 7 rfl; have q8 := Xq.c 8 rfl; have q9 := Xq.c 9 rfl; have q10 := Xq.c 10 rfl; have q11 := Xq.c 11 rfl; have m0 := Xm.c 0 rfl; have m1 := Xm.c 1 rfl; have m2 := Xm.c 2 rfl; have m3 := Xm.c 3 rfl; have m4 := Xm.c 4 rfl; have m5 := Xm.c 5 rfl; have m6 := Xm.c 6 rfl; have m7 := Xm.c 7 rfl; have m8 := Xm.c 8 rfl; have m9 := Xm.c 9 rfl; have m10 := Xm.c 10 rfl; have m11 := Xm.c 11 rfl
    go_wp2_with fail
    refine (I0 _).mono ?_
    rintro e v0 ⟨rfl, hB⟩
    replace Xp := Xp.step hB; replace Xq := Xq.step hB; replace Xm := Xm.step hB; replace HB := HB.trans (hB.mono HB.size)
    clear hB p0 p1 p2 p3 p4 p5 p6 p7 p8 p9 p10 p11 q0 q1 q2 q3 q4 q5 q6 q7 q8 q9 q10 q11 m0 m1 m2 m3 m4 m5 m6 m7 m8 m9 m10 m11
    have p0 := Xp.c 0 rfl; have p1 := Xp.c 1 rfl; have p2 := Xp.c 2 rfl; have p3 := Xp.c 3 rfl; have p4 := Xp.c 4 rfl; have p5 := Xp.c 5 rfl; have p6 := Xp.c 6 rfl; have p7 := Xp.c 7 rfl; have p8 := Xp.c 8 rfl; have p9 := Xp.c 9 rfl; have p10 := Xp.c 10 rfl; have p11 := Xp.c 11 rfl; have q0 := Xq.c 0 rfl; have q1 := Xq.c 1 rfl; have q2 := Xq.c 2 rfl; have q3 := Xq.c 3 rfl; have q4 := Xq.c 4 rfl; have q5 := Xq.c 5 rfl; have q6 := Xq.c 6 rfl; have q7 := Xq.c 7 rfl; have q8 := Xq.c 8 rfl; have q9 := Xq.c 9 rfl; have q10 := Xq.c 10 rfl; have q11 := Xq.c 11 rfl; have m0 := Xm.c 0 rfl; have m1 := Xm.c 1 rfl; have m2 := Xm.c 2 rfl; have m3 := Xm.c 3 rfl; have m4 := Xm.c 4 rfl; have m5 := Xm.c 5 rfl; have m6 := Xm.c 6 rfl; have m7 := Xm.c 7 rfl; have m8 := Xm.c 8 rfl; have m9 := Xm.c 9 rfl; have m10 := Xm.c 10 rfl; have m11 := Xm.c 11 rfl
    go_wp2_with fail
    refine (I1 _).mono ?_
    rintro e v1 ⟨rfl, hB⟩
    replace Xp := Xp.step hB; replace Xq := Xq.step hB; replace Xm := Xm.step hB; replace HB := HB.trans (hB.mono HB.size)
    clear hB p0 p1 p2 p3 p4 p5 p6 p7 p8 p9 p10 p11 q0 q1 q2 q3 q4 q5 q6 q7 q8 q9 q10 q11 m0 m1 m2 m3 m4 m5 m6 m7 m8 m9 m10 m11
    have p0 := Xp.c 0 rfl; have p1 := Xp.c 1 rfl; have p2 := Xp.c 2 rfl; have p3 := Xp.c 3 rfl; have p4 := Xp.c 4 rfl; have p5 := Xp.c 5 rfl; have p6 := Xp.c 6 rfl; have p7 := Xp.c 7 rfl; have p8 := Xp.c 8 rfl; have p9 := Xp.c 9 rfl; have p10 := Xp.c 10 rfl; have p11 := Xp.c 11 rfl; have q0 := Xq.c 0 rfl; have q1 := Xq.c 1 rfl; have q2 := Xq.c 2 rfl; have q3 := Xq.c 3 rfl; have q4 := Xq.c 4 rfl; have q5 := Xq.c 5 rfl; have q6 := Xq.c 6 rfl; have q7 := Xq.c 7 rfl; have q8 := Xq.c 8 rfl; have q9 := Xq.c 9 rfl; have q10 := Xq.c 10 rfl; have q11 := Xq.c 11 rfl; have m0 := Xm.c 0 rfl; have m1 := Xm.c 1 rfl; have m2 := Xm.c 2 rfl; have m3 := Xm.c 3 rfl; have m4 := Xm.c 4 rfl; have m5 := Xm.c 5 rfl; have m6 := Xm.c 6 rfl; have m7 := Xm.c 7 rfl; have m8 := Xm.c 8 rfl; have m9 := Xm.c 9 rfl; have m10 := Xm.c 10 rfl; have m11 := Xm.c 11 rfl
    go_wp2_with fail
    refine (I2 _).mono ?_
    rintro e v2 ⟨rfl, hB⟩
    replace Xp := Xp.step hB; replace Xq := Xq.step hB; replace Xm := Xm.step hB; replace HB := HB.trans (hB.mono HB.size)
    clear hB p0 p1 p2 p3 p4 p5 p6 p7 p8 p9 p10 p11 q0 q1 q2 q3 q4 q5 q6 q7 q8 q9 q10 q11 m0 m1 m2 m3 m4 m5 m6 m7 m8 m9 m10 m11
    have p0 := Xp.c 0 rfl; have p1 := Xp.c 1 rfl; have p2 := Xp.c 2 rfl; have p3 := Xp.c 3 rfl; have p4 := Xp.c 4 rfl; have p5 := Xp.c 5 rfl; have p6 := Xp.c 6 rfl; have p7 := Xp.c 7 rfl; have p8 := Xp.c 8 rfl; have p9 := Xp.c 9 rfl; have p10 := Xp.c 10 rfl; have p11 := Xp.c 11 rfl; have q0 := Xq.c 0 rfl; have q1 := Xq.c 1 rfl; have q2 := Xq.c 2 rfl; have q3 := Xq.c 3 rfl; have q4 := Xq.c 4 rfl; have q5 := Xq.c 5 rfl; have q6 := Xq.c 6 rfl; have q7 := Xq.c 7 rfl; have q8 := Xq.c 8 rfl; have q9 := Xq.c 9 rfl; have q10 := Xq.c 10 rfl; have q11 := Xq.c 11 rfl; have m0 := Xm.c 0 rfl; have m1 := Xm.c 1 rfl; have m2 := Xm.c 2 rfl; have m3 := Xm.c 3 rfl; have m4 := Xm.c 4 rfl; have m5 := Xm.c 5 rfl; have m6 := Xm.c 6 rfl; have m7 := Xm.c 7 rfl; have m8 := Xm.c 8 rfl; have m9 := Xm.c 9 rfl; have m10 := Xm.c 10 rfl; have m11 := Xm.c 11 rfl
    go_wp2_with fail
    refine (I3 _).mono ?_
    rintro e v3 ⟨rfl, hB⟩
    replace Xp := Xp.step hB; replace Xq := Xq.step hB; replace Xm := Xm.step hB; replace HB := HB.trans (hB.mono HB.size)
    clear hB p0 p1 p2 p3 p4 p5 p6 p7 p8 p9 p10 p11 q0 q1 q2 q3 q4 q5 q6 q7 q8 q9 q10 q11 m0 m1 m2 m3 m4 m5 m6 m7 m8 m9 m10 m11
    have p0 := Xp.c 0 rfl; have p1 := Xp.c 1 rfl; have p2 := Xp.c 2 rfl; have p3 := Xp.c 3 rfl; have p4 := Xp.c 4 rfl; have p5 := Xp.c 5 rfl; have p6 := Xp.c 6 rfl; have p7 := Xp.c 7 rfl; have p8 := Xp.c 8 rfl; have p9 := Xp.c 9 rfl; have p10 := Xp.c 10 rfl; have p11 := Xp.c 11 rfl; have q0 := Xq.c 0 rfl; have q1 := Xq.c 1 rfl; have q2 := Xq.c 2 rfl; have q3 := Xq.c 3 rfl; have q4 := Xq.c 4 rfl; have q5 := Xq.c 5 rfl; have q6 := Xq.c 6 rfl; have q7 := Xq.c 7 rfl; have q8 := Xq.c 8 rfl; have q9 := Xq.c 9 rfl; have q10 := Xq.c 10 rfl; have q11 := Xq.c 11 rfl; have m0 := Xm.c 0 rfl; have m1 := Xm.c 1 rfl; have m2 := Xm.c 2 rfl; have m3 := Xm.c 3 rfl; have m4 := Xm.c 4 rfl; have m5 := Xm.c 5 rfl; have m6 := Xm.c 6 rfl; have m7 := Xm.c 7 rfl; have m8 := Xm.c 8 rfl; have m9 := Xm.c 9 rfl; have m10 := Xm.c 10 rfl; have m11 := Xm.c 11 rfl
    go_wp2_with fail
    refine (I4 _).mono ?_
    rintro e v4 ⟨rfl, hB⟩
    replace Xp := Xp.step hB; replace Xq := Xq.step hB; replace Xm := Xm.step hB; replace HB := HB.trans (hB.mono HB.size)
    clear hB p0 p1 p2 p3 p4 p5 p6 p7 p8 p9 p10 p11 q0 q1 q2 q3 q4 q5 q6 q7 q8 q9 q10 q11 m0 m1 m2 m3 m4 m5 m6 m7 m8 m9 m10 m11
    have p0 := Xp.c 0 rfl; have p1 := Xp.c 1 rfl; have p2 := Xp.c 2 rfl; have p3 := Xp.c 3 rfl; have p4 := Xp.c 4 rfl; have p5 := Xp.c 5 rfl; have p6 := Xp.c 6 rfl; have p7 := Xp.c 7 rfl; have p8 := Xp.c 8 rfl; have p9 := Xp.c 9 rfl; have p10 := Xp.c 10 rfl; have p11 := Xp.c 11 rfl; have q0 := Xq.c 0 rfl; have q1 := Xq.c 1 rfl; have q2 := Xq.c 2 rfl; have q3 := Xq.c 3 rfl; have q4 := Xq.c 4 rfl; have q5 := Xq.c 5 rfl; have q6 := Xq.c 6 rfl; have q7 := Xq.c 7 rfl; have q8 := Xq.c 8 rfl; have q9 := Xq.c 9 rfl; have q10 := Xq.c 10 rfl; have q11 := Xq.c 11 rfl; have m0 := Xm.c 0 rfl; have m1 := Xm.c 1 rfl; have m2 := Xm.c 2 rfl; have m3 := Xm.c 3 rfl; have m4 := Xm.c 4 rfl; have m5 := Xm.c 5 rfl; have m6 := Xm.c 6 rfl; have m7 := Xm.c 7 rfl; have m8 := Xm.c 8 rfl; have m9 := Xm.c 9 rfl; have m10 := Xm.c 10 rfl; have m11 := Xm.c 11 rfl
    go_wp2_with fail
    refine (I5 _).mono ?_
    rintro e v5 ⟨rfl, hB⟩
    replace Xp := Xp.step hB; replace Xq := Xq.step hB; replace Xm := Xm.step hB; replace HB := HB.trans (hB.mono HB.size)
    clear hB p0 p1 p2 p3 p4 p5 p6 p7 p8 p9 p10 p11 q0 q1 q2 q3 q4 q5 q6 q7 q8 q9 q10 q11 m0 m1 m2 m3 m4 m5 m6 m7 m8 m9 m10 m11
    have p0 := Xp.c 0 rfl; have p1 := Xp.c 1 rfl; have p2 := Xp.c 2 rfl; have p3 := Xp.c 3 rfl; have p4 := Xp.c 4 rfl; have p5 := Xp.c 5 rfl; have p6 := Xp.c 6 rfl; have p7 := Xp.c 7 rfl; have p8 := Xp.c 8 rfl; have p9 := Xp.c 9 rfl; have p10 := Xp.c 10 rfl; have p11 := Xp.c 11 rfl; have q0 := Xq.c 0 rfl; have q1 := Xq.c 1 rfl; have q2 := Xq.c 2 rfl; have q3 := Xq.c 3 rfl; have q4 := Xq.c 4 rfl; have q5 := Xq.c 5 rfl; have q6 := Xq.c 6 rfl; have q7 := Xq.c 7 rfl; have q8 := Xq.c 8 rfl; have q9 := Xq.c 9 rfl; have q10 := Xq.c 10 rfl; have q11 := Xq.c 11 rfl; have m0 := Xm.c 0 rfl; have m1 := Xm.c 1 rfl; have m2 := Xm.c 2 rfl; have m3 := Xm.c 3 rfl; have m4 := Xm.c 4 rfl; have m5 := Xm.c 5 rfl; have m6 := Xm.c 6 rfl; have m7 := Xm.c 7 rfl; have m8 := Xm.c 8 rfl; have m9 := Xm.c 9 rfl; have m10 := Xm.c 10 rfl; have m11 := Xm.c 11 rfl
    go_wp2_with fail
    refine (I6 _).mono ?_
    rintro e v6 ⟨rfl, hB⟩
    replace Xp := Xp.step hB; replace Xq := Xq.step hB; replace Xm := Xm.step hB; replace HB := HB.trans (hB.mono HB.size)
    clear hB p0 p1 p2 p3 p4 p5 p6 p7 p8 p9 p10 p11 q0 q1 q2 q3 q4 q5 q6 q7 q8 q9 q10 q11 m0 m1 m2 m3 m4 m5 m6 m7 m8 m9 m10 m11
    have p0 := Xp.c 0 rfl; have p1 := Xp.c 1 rfl; have p2 := Xp.c 2 rfl; have p3 := Xp.c 3 rfl; have p4 := Xp.c 4 rfl; have p5 := Xp.c 5 rfl; have p6 := Xp.c 6 rfl; have p7 := Xp.c 7 rfl; have p8 := Xp.c 8 rfl; have p9 := Xp.c 9 rfl; have p10 := Xp.c 10 rfl; have p11 := Xp.c 11 rfl; have q0 := Xq.c 0 rfl; have q1 := Xq.c 1 rfl; have q2 := Xq.c 2 rfl; have q3 := Xq.c 3 rfl; have q4 := Xq.c 4 rfl; have q5 := Xq.c 5 rfl; have q6 := Xq.c 6 rfl; have q7 := Xq.c 7 rfl; have q8 := Xq.c 8 rfl; have q9 := Xq.c 9 rfl; have q10 := Xq.c 10 rfl; have q11 := Xq.c 11 rfl; have m0 := Xm.c 0 rfl; have m1 := Xm.c 1 rfl; have m2 := Xm.c 2 rfl; have m3 := Xm.c 3 rfl; have m4 := Xm.c 4 rfl; have m5 := Xm.c 5 rfl; have m6 := Xm.c 6 rfl; have m7 := Xm.c 7 rfl; have m8 := Xm.c 8 rfl; have m9 := Xm.c 9 rfl; have m10 := Xm.c 10 rfl; have m11 := Xm.c 11 rfl
    go_wp2_with fail
    refine (I7 _).mono ?_
    rintro e v7 ⟨rfl, hB⟩
    replace Xp := Xp.step hB; replace Xq := Xq.step hB; replace Xm := Xm.step hB; replace HB := HB.trans (hB.mono HB.size)
    clear hB p0 p1 p2 p3 p4 p5 p6 p7 p8 p9 p10 p11 q0 q1 q2 q3 q4 q5 q6 q7 q8 q9 q10 q11 m0 m1 m2 m3 m4 m5 m6 m7 m8 m9 m10 m11
    clear Xp Xq Xm
    go_wp2
    go_ret
    exact ⟨rfl, HB⟩
end Go.Proofs.Ytgmenloipiedeaa
