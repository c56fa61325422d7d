/- Part 11 of the walks that the proof leans on. -/
import Derived.Test.YtpnnpkchogooaaaGreatPart10
import Derived.Test.YtpnnpkchogooaaaGreatPart9
set_option maxRecDepth 100000
set_option maxHeartbeats 8000000
namespace Go.Proofs.YtpnnpkchogooaaaGreat
open Go.RowKit
theorem isBelow_det (z : Int) (hz : told z = true) (w : World) : Calls Tryz.prog 47 #[W4 z] w (VP (.bool (decide (z < 0))) w) := by
 obtain ⟨z3, z2, z1, z0⟩ := ww_words z
 have e : (ww3 z / 9223372036854775808 == 1) = decide (z < 0) := by
   rw [Bool.eq_iff_iff]
   have := sw_neg z3 z2 z1 z0
   rw [ww_sw hz] at this
   unfold Word at z3
   simp
   omega
 exact isBelow_any (ww3 z) (ww2 z) (ww1 z) (ww0 z) z3 _ e w
theorem told_lt {z : Int} (h : told z = true) : -57896044618658097711785492504343953926634992332820282019728792003956564819968 ≤ z ∧ z < 57896044618658097711785492504343953926634992332820282019728792003956564819968 := by
 unfold told at h
 simp at h
 omega
theorem gcd3_le {x y z : Int} (hz : z ≠ 0) (ht : told z = true) : 0 < (Int.gcd (Int.gcd x y : Int) z : Int) ∧ (Int.gcd (Int.gcd x y : Int) z : Int) ≤ 57896044618658097711785492504343953926634992332820282019728792003956564819968 := by
 have g0 : 0 < Int.gcd (Int.gcd x y : Int) z := Int.gcd_pos_of_ne_zero_right _ hz
 have hd : (Int.gcd (Int.gcd x y : Int) z : Int) ∣ z := Int.gcd_dvd_right _ _
 have h1 := Int.le_of_dvd (b := (z.natAbs : Int)) (by omega) (Int.dvd_natAbs.2 hd)
 have := told_lt ht
 omega
theorem pw_cells {g z v : Int} {x y : Int} {w W : World} {gW gC : Nat} (T0 : ArgsB w W [[.int .u64 (ww3 x), .int .u64 (ww2 x), .int .u64 (ww1 x), .int .u64 (ww0 x)], [.int .u64 (ww3 y), .int .u64 (ww2 y), .int .u64 (ww1 y), .int .u64 (ww0 y)], [.int .u64 (ww3 z), .int .u64 (ww2 z), .int .u64 (ww1 z), .int .u64 (ww0 z)], [.int .u64 0, .int .u64 0, .int .u64 0, .int .u64 0, .int .u64 0, .int .u64 0, .int .u64 0, .int .u64 0, .int .u64 0, .int .u64 0, .int .u64 0, .int .u64 0]]) (BC : Blk W gC [.int .u64 (lw0 g), .int .u64 (lw1 g), .int .u64 (lw2 g), .int .u64 (lw3 g), .int .u64 (lw4 g), .int .u64 (lw5 g), .int .u64 (lw6 g), .int .u64 (lw7 g)]) (BW : Blk W gW [.int .u64 (ww3 v), .int .u64 (ww2 v), .int .u64 (ww1 v), .int .u64 (ww0 v)]) : (fun w' => w'.cell? ⟨gW, 0, none⟩ = some (.int .u64 (ww3 v)) ∧ w'.cell? ⟨gW, 1, none⟩ = some (.int .u64 (ww2 v)) ∧ w'.cell? ⟨gW, 2, none⟩ = some (.int .u64 (ww1 v)) ∧ w'.cell? ⟨gW, 3, none⟩ = some (.int .u64 (ww0 v)) ∧ w'.cell? ⟨gC, 0, none⟩ = some (.int .u64 (lw0 g)) ∧ w'.cell? ⟨gC, 1, none⟩ = some (.int .u64 (lw1 g)) ∧ w'.cell? ⟨gC, 2, none⟩ = some (.int .u64 (lw2 g)) ∧ w'.cell? ⟨gC, 3, none⟩ = some (.int .u64 (lw3 g)) ∧ w'.cell? ⟨gC, 4, none⟩ = some (.int .u64 (lw4 g)) ∧ w'.cell? ⟨gC, 5, none⟩ = some (.int .u64 (lw5 g)) ∧ w'.cell? ⟨gC, 6, none⟩ = some (.int .u64 (lw6 g)) ∧ w'.cell? ⟨gC, 7, none⟩ = some (.int .u64 (lw7 g)) ∧ w'.cell? ⟨w.heap.size + 2, 0, none⟩ = some (.int .u64 (ww3 z)) ∧ w'.cell? ⟨w.heap.size + 2, 1, none⟩ = some (.int .u64 (ww2 z)) ∧ w'.cell? ⟨w.heap.size + 2, 2, none⟩ = some (.int .u64 (ww1 z)) ∧ w'.cell? ⟨w.heap.size + 2, 3, none⟩ = some (.int .u64 (ww0 z))) W := ⟨BW.c 0 rfl, BW.c 1 rfl, BW.c 2 rfl, BW.c 3 rfl, BC.c 0 rfl, BC.c 1 rfl, BC.c 2 rfl, BC.c 3 rfl, BC.c 4 rfl, BC.c 5 rfl, BC.c 6 rfl, BC.c 7 rfl, (T0.b 2 rfl).c 0 rfl, (T0.b 2 rfl).c 1 rfl, (T0.b 2 rfl).c 2 rfl, (T0.b 2 rfl).c 3 rfl⟩
theorem ix3_0 (a0 a1 a2 a3 a4 a5 a6 a7 a8 a9 a10 a11 : Value) (w : World) : (Instr.index 120 (.agg #[a0, a1, a2, a3, a4, a5, a6, a7, a8, a9, a10, a11]) (.int .i64 0)).run Tryz.prog w = .ok (.agg #[a0, a1, a2, a3]) w := by kernel_rfl
theorem ix3_1 (a0 a1 a2 a3 a4 a5 a6 a7 a8 a9 a10 a11 : Value) (w : World) : (Instr.index 120 (.agg #[a0, a1, a2, a3, a4, a5, a6, a7, a8, a9, a10, a11]) (.int .i64 1)).run Tryz.prog w = .ok (.agg #[a4, a5, a6, a7]) w := by kernel_rfl
theorem ix3_2 (a0 a1 a2 a3 a4 a5 a6 a7 a8 a9 a10 a11 : Value) (w : World) : (Instr.index 120 (.agg #[a0, a1, a2, a3, a4, a5, a6, a7, a8, a9, a10, a11]) (.int .i64 2)).run Tryz.prog w = .ok (.agg #[a8, a9, a10, a11]) w := by kernel_rfl
theorem implPointMake_det (x y z : Int) (hx : told x = true) (hy : told y = true) (hz : told z = true) (w : World) : Calls Tryz.prog 41 #[W4 x, W4 y, W4 z] w (VP (pmV x y z) w) := by
 have T0 : ArgsB w ((((w.alloc (.cells #[.int .u64 (ww3 x), .int .u64 (ww2 x), .int .u64 (ww1 x), .int .u64 (ww0 x)] 32)).alloc (.cells #[.int .u64 (ww3 y), .int .u64 (ww2 y), .int .u64 (ww1 y), .int .u64 (ww0 y)] 32)).alloc (.cells #[.int .u64 (ww3 z), .int .u64 (ww2 z), .int .u64 (ww1 z), .int .u64 (ww0 z)] 32)).alloc (.cells #[.int .u64 0, .int .u64 0, .int .u64 0, .int .u64 0, .int .u64 0, .int .u64 0, .int .u64 0, .int .u64 0, .int .u64 0, .int .u64 0, .int .u64 0, .int .u64 0] 40)) [[.int .u64 (ww3 x), .int .u64 (ww2 x), .int .u64 (ww1 x), .int .u64 (ww0 x)], [.int .u64 (ww3 y), .int .u64 (ww2 y), .int .u64 (ww1 y), .int .u64 (ww0 y)], [.int .u64 (ww3 z), .int .u64 (ww2 z), .int .u64 (ww1 z), .int .u64 (ww0 z)], [.int .u64 0, .int .u64 0, .int .u64 0, .int .u64 0, .int .u64 0, .int .u64 0, .int .u64 0, .int .u64 0, .int .u64 0, .int .u64 0, .int .u64 0, .int .u64 0]] := ar4 _ _ _ _ _ _ _ _ w
 obtain ⟨z3, z2, z1, z0⟩ := ww_words z
 have EZ := eqZ4 (ww3 z) (ww2 z) (ww1 z) (ww0 z)
 rw [zero4 z3 z2 z1 z0, ww_sw hz] at EZ
 clear z3 z2 z1 z0
 by_cases h0 : z = 0
 · have HO : Hid (pmV x y z = .tuple #[.agg #[.int .u64 0, .int .u64 0, .int .u64 0, .int .u64 0, .int .u64 0, .int .u64 0, .int .u64 0, .int .u64 0, .int .u64 0, .int .u64 0, .int .u64 0, .int .u64 0], .bool false]) := by show _ = _; unfold pmV; rw [if_pos h0]
   rw [decide_eq_true h0] at EZ
   clear h0 hx hy hz
   go_enter Tryz.func41, Tryz.ntmps41
   go_upto_region 1 with fail
   generalize ((((w.alloc (.cells #[.int .u64 (ww3 x), .int .u64 (ww2 x), .int .u64 (ww1 x), .int .u64 (ww0 x)] 32)).alloc (.cells #[.int .u64 (ww3 y), .int .u64 (ww2 y), .int .u64 (ww1 y), .int .u64 (ww0 y)] 32)).alloc (.cells #[.int .u64 (ww3 z), .int .u64 (ww2 z), .int .u64 (ww1 z), .int .u64 (ww0 z)] 32)).alloc (.cells #[.int .u64 0, .int .u64 0, .int .u64 0, .int .u64 0, .int .u64 0, .int .u64 0, .int .u64 0, .int .u64 0, .int .u64 0, .int .u64 0, .int .u64 0, .int .u64 0] 40)) = W0 at *
   have aB : Blk _ (w.heap.size) _ := T0.b 0 rfl; obtain ⟨a0, a1, a2, a3⟩ := aB.cs4; clear aB; have bB : Blk _ (w.heap.size + 1) _ := T0.b 1 rfl; obtain ⟨b0, b1, b2, b3⟩ := bB.cs4; clear bB; have eB : Blk _ (w.heap.size + 1 + 1) _ := T0.b 2 rfl; obtain ⟨e0, e1, e2, e3⟩ := eB.cs4; clear eB
   have o0 := (T0.b 3 rfl).c 0 rfl; have u0 := (T0.b 3 rfl).f 0 rfl; have o1 := (T0.b 3 rfl).c 1 rfl; have u1 := (T0.b 3 rfl).f 1 rfl; have o2 := (T0.b 3 rfl).c 2 rfl; have u2 := (T0.b 3 rfl).f 2 rfl; have o3 := (T0.b 3 rfl).c 3 rfl; have u3 := (T0.b 3 rfl).f 3 rfl; have o4 := (T0.b 3 rfl).c 4 rfl; have u4 := (T0.b 3 rfl).f 4 rfl; have o5 := (T0.b 3 rfl).c 5 rfl; have u5 := (T0.b 3 rfl).f 5 rfl; have o6 := (T0.b 3 rfl).c 6 rfl; have u6 := (T0.b 3 rfl).f 6 rfl; have o7 := (T0.b 3 rfl).c 7 rfl; have u7 := (T0.b 3 rfl).f 7 rfl; have o8 := (T0.b 3 rfl).c 8 rfl; have u8 := (T0.b 3 rfl).f 8 rfl; have o9 := (T0.b 3 rfl).c 9 rfl; have u9 := (T0.b 3 rfl).f 9 rfl; have o10 := (T0.b 3 rfl).c 10 rfl; have u10 := (T0.b 3 rfl).f 10 rfl; have o11 := (T0.b 3 rfl).c 11 rfl; have u11 := (T0.b 3 rfl).f 11 rfl; have olt := (T0.b 3 rfl).lt
   have HB := T0.below
   clear T0
   go_wp2
   refine bodyPost_ret (v := .tuple #[.agg #[.int .u64 0, .int .u64 0, .int .u64 0, .int .u64 0, .int .u64 0, .int .u64 0, .int .u64 0, .int .u64 0, .int .u64 0, .int .u64 0, .int .u64 0, .int .u64 0], .bool false]) (by simp [results, Tryz.results41, go_sem, o0, o1, o2, o3, o4, o5, o6, o7, o8, o9, o10, o11]) rfl ?_
   refine ⟨by rw [HO.out], ?_⟩
   repeat' (refine Below.setCell ?_ (by simp; try omega) _)
   exact HB
 · have HV : Hid (pmV x y z = ptV (shareZ x (Int.gcd (Int.gcd x y : Int) z : Int) (decide (z < 0))) (shareZ y (Int.gcd (Int.gcd x y : Int) z : Int) (decide (z < 0))) (shareZ z (Int.gcd (Int.gcd x y : Int) z : Int) (decide (z < 0)))) := by show _ = _; unfold pmV; rw [if_neg h0]
   rw [decide_eq_false h0] at EZ
   obtain ⟨g1, g2⟩ := gcd3_le (x := x) (y := y) h0 hz
   have C1 := common3_det x y z hx hy hz
   rw [gcd_three] at C1
   have bx := told_lt hx; have by' := told_lt hy; have bz := told_lt hz
   have S0 := share_det x (Int.gcd (Int.gcd x y : Int) z : Int) (decide (z < 0)) ⟨by omega, by omega⟩ ⟨g1, by omega⟩
   have S1 := share_det y (Int.gcd (Int.gcd x y : Int) z : Int) (decide (z < 0)) ⟨by omega, by omega⟩ ⟨g1, by omega⟩
   have S2 := share_det z (Int.gcd (Int.gcd x y : Int) z : Int) (decide (z < 0)) ⟨by omega, by omega⟩ ⟨g1, by omega⟩
   have L0 := longOf_det x hx
   have L1 := longOf_det y hy
   have L2 := longOf_det z hz
   have IB := isBelow_det z hz
   clear g1 g2 bx by' bz hx hy hz h0
   generalize (shareZ x (Int.gcd (Int.gcd x y : Int) z : Int) (decide (z < 0))) = sx at *
   generalize (shareZ y (Int.gcd (Int.gcd x y : Int) z : Int) (decide (z < 0))) = sy at *
   generalize (shareZ z (Int.gcd (Int.gcd x y : Int) z : Int) (decide (z < 0))) = sz at *
   generalize (Int.gcd (Int.gcd x y : Int) z : Int) = g at *
   generalize decide (z < 0) = b at *
   go_enter Tryz.func41, Tryz.ntmps41
   go_upto_region 1 with fail
   generalize ((((w.alloc (.cells #[.int .u64 (ww3 x), .int .u64 (ww2 x), .int .u64 (ww1 x), .int .u64 (ww0 x)] 32)).alloc (.cells #[.int .u64 (ww3 y), .int .u64 (ww2 y), .int .u64 (ww1 y), .int .u64 (ww0 y)] 32)).alloc (.cells #[.int .u64 (ww3 z), .int .u64 (ww2 z), .int .u64 (ww1 z), .int .u64 (ww0 z)] 32)).alloc (.cells #[.int .u64 0, .int .u64 0, .int .u64 0, .int .u64 0, .int .u64 0, .int .u64 0, .int .u64 0, .int .u64 0, .int .u64 0, .int .u64 0, .int .u64 0, .int .u64 0] 40)) = W0 at *
   have aB : Blk _ (w.heap.size) _ := T0.b 0 rfl; obtain ⟨a0, a1, a2, a3⟩ := aB.cs4; clear aB; have bB : Blk _ (w.heap.size + 1) _ := T0.b 1 rfl; obtain ⟨b0, b1, b2, b3⟩ := bB.cs4; clear bB; have eB : Blk _ (w.heap.size + 1 + 1) _ := T0.b 2 rfl; obtain ⟨e0, e1, e2, e3⟩ := eB.cs4; clear eB
   go_wp2_with fail
   refine (C1 _).mono ?_
   rintro e w1 ⟨rfl, hB⟩
   have hgC : w.heap.size + 3 < w1.heap.size := ((T0.step hB).b 3 rfl).lt
   replace T0 := (T0.step hB).alloc (.cells #[.int .u64 (lw0 g), .int .u64 (lw1 g), .int .u64 (lw2 g), .int .u64 (lw3 g), .int .u64 (lw4 g), .int .u64 (lw5 g), .int .u64 (lw6 g), .int .u64 (lw7 g)] 68)
   have BC := Blk.new w1 [.int .u64 (lw0 g), .int .u64 (lw1 g), .int .u64 (lw2 g), .int .u64 (lw3 g), .int .u64 (lw4 g), .int .u64 (lw5 g), .int .u64 (lw6 g), .int .u64 (lw7 g)] 68 rfl
   clear hB C1 a0 a1 a2 a3 b0 b1 b2 b3 e0 e1 e2 e3
   have aB : Blk _ (w.heap.size) _ := T0.b 0 rfl; obtain ⟨a0, a1, a2, a3⟩ := aB.cs4; clear aB; have bB : Blk _ (w.heap.size + 1) _ := T0.b 1 rfl; obtain ⟨b0, b1, b2, b3⟩ := bB.cs4; clear bB; have eB : Blk _ (w.heap.size + 1 + 1) _ := T0.b 2 rfl; obtain ⟨e0, e1, e2, e3⟩ := eB.cs4; clear eB
   go_upto_region 5 with fail
   have BP : Blk ((w1.alloc (.cells #[.int .u64 (lw0 g), .int .u64 (lw1 g), .int .u64 (lw2 g), .int .u64 (lw3 g), .int .u64 (lw4 g), .int .u64 (lw5 g), .int .u64 (lw6 g), .int .u64 (lw7 g)] 68)).alloc (.cells #[.int .u64 (ww3 x), .int .u64 (ww2 x), .int .u64 (ww1 x), .int .u64 (ww0 x), .int .u64 (ww3 y), .int .u64 (ww2 y), .int .u64 (ww1 y), .int .u64 (ww0 y), .int .u64 (ww3 z), .int .u64 (ww2 z), .int .u64 (ww1 z), .int .u64 (ww0 z)] 120)) (w1.heap.size + 1) [.int .u64 (ww3 x), .int .u64 (ww2 x), .int .u64 (ww1 x), .int .u64 (ww0 x), .int .u64 (ww3 y), .int .u64 (ww2 y), .int .u64 (ww1 y), .int .u64 (ww0 y), .int .u64 (ww3 z), .int .u64 (ww2 z), .int .u64 (ww1 z), .int .u64 (ww0 z)] := Blk.new _ _ _ (by simp)
   replace T0 := T0.alloc (.cells #[.int .u64 (ww3 x), .int .u64 (ww2 x), .int .u64 (ww1 x), .int .u64 (ww0 x), .int .u64 (ww3 y), .int .u64 (ww2 y), .int .u64 (ww1 y), .int .u64 (ww0 y), .int .u64 (ww3 z), .int .u64 (ww2 z), .int .u64 (ww1 z), .int .u64 (ww0 z)] 120); replace BC := BC.alloc (.cells #[.int .u64 (ww3 x), .int .u64 (ww2 x), .int .u64 (ww1 x), .int .u64 (ww0 x), .int .u64 (ww3 y), .int .u64 (ww2 y), .int .u64 (ww1 y), .int .u64 (ww0 y), .int .u64 (ww3 z), .int .u64 (ww2 z), .int .u64 (ww1 z), .int .u64 (ww0 z)] 120)
   clear a0 a1 a2 a3 b0 b1 b2 b3 e0 e1 e2 e3
   have hgP : w1.heap.size < w1.heap.size + 1 := by omega
   generalize ((w1.alloc (.cells #[.int .u64 (lw0 g), .int .u64 (lw1 g), .int .u64 (lw2 g), .int .u64 (lw3 g), .int .u64 (lw4 g), .int .u64 (lw5 g), .int .u64 (lw6 g), .int .u64 (lw7 g)] 68)).alloc (.cells #[.int .u64 (ww3 x), .int .u64 (ww2 x), .int .u64 (ww1 x), .int .u64 (ww0 x), .int .u64 (ww3 y), .int .u64 (ww2 y), .int .u64 (ww1 y), .int .u64 (ww0 y), .int .u64 (ww3 z), .int .u64 (ww2 z), .int .u64 (ww1 z), .int .u64 (ww0 z)] 120)) = W2 at *
   generalize w1.heap.size + 1 = gP at *
   generalize w1.heap.size = gC at *
   obtain ⟨m0, m1, m2, m3, m4, m5, m6, m7, m8, m9, m10, m11⟩ := BP.cs12
   go_wp2_with fail
   clear m0 m1 m2 m3 m4 m5 m6 m7 m8 m9 m10 m11
   go_loopw [27] (fun i wr => (i = .int .i64 0 ∧ ArgsB w wr [[.int .u64 (ww3 x), .int .u64 (ww2 x), .int .u64 (ww1 x), .int .u64 (ww0 x)], [.int .u64 (ww3 y), .int .u64 (ww2 y), .int .u64 (ww1 y), .int .u64 (ww0 y)], [.int .u64 (ww3 z), .int .u64 (ww2 z), .int .u64 (ww1 z), .int .u64 (ww0 z)], [.int .u64 0, .int .u64 0, .int .u64 0, .int .u64 0, .int .u64 0, .int .u64 0, .int .u64 0, .int .u64 0, .int .u64 0, .int .u64 0, .int .u64 0, .int .u64 0]] ∧ Blk wr gC [.int .u64 (lw0 g), .int .u64 (lw1 g), .int .u64 (lw2 g), .int .u64 (lw3 g), .int .u64 (lw4 g), .int .u64 (lw5 g), .int .u64 (lw6 g), .int .u64 (lw7 g)] ∧ Blk wr gP [.int .u64 (ww3 x), .int .u64 (ww2 x), .int .u64 (ww1 x), .int .u64 (ww0 x), .int .u64 (ww3 y), .int .u64 (ww2 y), .int .u64 (ww1 y), .int .u64 (ww0 y), .int .u64 (ww3 z), .int .u64 (ww2 z), .int .u64 (ww1 z), .int .u64 (ww0 z)]) ∨ (i = .int .i64 1 ∧ small sx = true ∧ ArgsB w wr [[.int .u64 (ww3 x), .int .u64 (ww2 x), .int .u64 (ww1 x), .int .u64 (ww0 x)], [.int .u64 (ww3 y), .int .u64 (ww2 y), .int .u64 (ww1 y), .int .u64 (ww0 y)], [.int .u64 (ww3 z), .int .u64 (ww2 z), .int .u64 (ww1 z), .int .u64 (ww0 z)], [.int .u64 0, .int .u64 0, .int .u64 0, .int .u64 0, .int .u64 0, .int .u64 0, .int .u64 0, .int .u64 0, .int .u64 0, .int .u64 0, .int .u64 0, .int .u64 0]] ∧ Blk wr gC [.int .u64 (lw0 g), .int .u64 (lw1 g), .int .u64 (lw2 g), .int .u64 (lw3 g), .int .u64 (lw4 g), .int .u64 (lw5 g), .int .u64 (lw6 g), .int .u64 (lw7 g)] ∧ Blk wr gP [.int .u64 (ww3 sx), .int .u64 (ww2 sx), .int .u64 (ww1 sx), .int .u64 (ww0 sx), .int .u64 (ww3 y), .int .u64 (ww2 y), .int .u64 (ww1 y), .int .u64 (ww0 y), .int .u64 (ww3 z), .int .u64 (ww2 z), .int .u64 (ww1 z), .int .u64 (ww0 z)]) ∨ (i = .int .i64 2 ∧ small sx = true ∧ small sy = true ∧ ArgsB w wr [[.int .u64 (ww3 x), .int .u64 (ww2 x), .int .u64 (ww1 x), .int .u64 (ww0 x)], [.int .u64 (ww3 y), .int .u64 (ww2 y), .int .u64 (ww1 y), .int .u64 (ww0 y)], [.int .u64 (ww3 z), .int .u64 (ww2 z), .int .u64 (ww1 z), .int .u64 (ww0 z)], [.int .u64 0, .int .u64 0, .int .u64 0, .int .u64 0, .int .u64 0, .int .u64 0, .int .u64 0, .int .u64 0, .int .u64 0, .int .u64 0, .int .u64 0, .int .u64 0]] ∧ Blk wr gC [.int .u64 (lw0 g), .int .u64 (lw1 g), .int .u64 (lw2 g), .int .u64 (lw3 g), .int .u64 (lw4 g), .int .u64 (lw5 g), .int .u64 (lw6 g), .int .u64 (lw7 g)] ∧ Blk wr gP [.int .u64 (ww3 sx), .int .u64 (ww2 sx), .int .u64 (ww1 sx), .int .u64 (ww0 sx), .int .u64 (ww3 sy), .int .u64 (ww2 sy), .int .u64 (ww1 sy), .int .u64 (ww0 sy), .int .u64 (ww3 z), .int .u64 (ww2 z), .int .u64 (ww1 z), .int .u64 (ww0 z)]) ∨ (i = .int .i64 3 ∧ small sx = true ∧ small sy = true ∧ small sz = true ∧ ArgsB w wr [[.int .u64 (ww3 x), .int .u64 (ww2 x), .int .u64 (ww1 x), .int .u64 (ww0 x)], [.int .u64 (ww3 y), .int .u64 (ww2 y), .int .u64 (ww1 y), .int .u64 (ww0 y)], [.int .u64 (ww3 z), .int .u64 (ww2 z), .int .u64 (ww1 z), .int .u64 (ww0 z)], [.int .u64 0, .int .u64 0, .int .u64 0, .int .u64 0, .int .u64 0, .int .u64 0, .int .u64 0, .int .u64 0, .int .u64 0, .int .u64 0, .int .u64 0, .int .u64 0]] ∧ Blk wr gC [.int .u64 (lw0 g), .int .u64 (lw1 g), .int .u64 (lw2 g), .int .u64 (lw3 g), .int .u64 (lw4 g), .int .u64 (lw5 g), .int .u64 (lw6 g), .int .u64 (lw7 g)] ∧ Blk wr gP [.int .u64 (ww3 sx), .int .u64 (ww2 sx), .int .u64 (ww1 sx), .int .u64 (ww0 sx), .int .u64 (ww3 sy), .int .u64 (ww2 sy), .int .u64 (ww1 sy), .int .u64 (ww0 sy), .int .u64 (ww3 sz), .int .u64 (ww2 sz), .int .u64 (ww1 sz), .int .u64 (ww0 sz)])) (fun i _ => 3 - (intOf i).toNat)
   case atStart => exact Or.inl ⟨rfl, T0, BC, BP⟩
   case round =>
     clear T0 BC BP
     rcases hrel with ⟨rfl, T0, BC, BP⟩ | ⟨rfl, hs0, T0, BC, BP⟩ | ⟨rfl, hs0, hs1, T0, BC, BP⟩ | ⟨rfl, hs0, hs1, hs2, T0, BC, BP⟩
     · have IX := ix3_0 (.int .u64 (ww3 x)) (.int .u64 (ww2 x)) (.int .u64 (ww1 x)) (.int .u64 (ww0 x)) (.int .u64 (ww3 y)) (.int .u64 (ww2 y)) (.int .u64 (ww1 y)) (.int .u64 (ww0 y)) (.int .u64 (ww3 z)) (.int .u64 (ww2 z)) (.int .u64 (ww1 z)) (.int .u64 (ww0 z))
       obtain ⟨q, hq⟩ : ∃ q : Int, (if told sx = true then sx else 0) = q := ⟨_, rfl⟩
       have TV : tellV sx = .tuple #[W4 q, .bool (told sx)] := by
         rw [← hq]
         unfold tellV
         by_cases hd : told sx = true
         · rw [if_pos hd, if_pos hd, hd]
         · rw [if_neg hd, if_neg hd, Bool.eq_false_iff.2 hd]
       have SH := S0
       rw [TV] at SH
       clear TV
       go_upto_region 8 with fail
       clear IX
       have BW := Blk.new wr [.int .u64 (ww3 x), .int .u64 (ww2 x), .int .u64 (ww1 x), .int .u64 (ww0 x)] 32 rfl
       replace T0 := T0.alloc (.cells #[.int .u64 (ww3 x), .int .u64 (ww2 x), .int .u64 (ww1 x), .int .u64 (ww0 x)] 32); replace BC := BC.alloc (.cells #[.int .u64 (ww3 x), .int .u64 (ww2 x), .int .u64 (ww1 x), .int .u64 (ww0 x)] 32); 
       have hPw := BP.lt
       replace BP := BP.alloc (.cells #[.int .u64 (ww3 x), .int .u64 (ww2 x), .int .u64 (ww1 x), .int .u64 (ww0 x)] 32)
       generalize wr.alloc (.cells #[.int .u64 (ww3 x), .int .u64 (ww2 x), .int .u64 (ww1 x), .int .u64 (ww0 x)] 32) = W7 at *
       generalize wr.heap.size = gW at *
       have h7 := (T0.b 3 rfl).lt
       go_cut [12, 13] (fun p t wx => (∃ g', p = .pointer (some ⟨g', 0, none⟩) ∧ gP + 1 ≤ g' ∧ Blk wx g' [.int .u64 (ww3 q), .int .u64 (ww2 q), .int .u64 (ww1 q), .int .u64 (ww0 q)]) ∧ t = .bool (told sx) ∧ ArgsB w wx [[.int .u64 (ww3 x), .int .u64 (ww2 x), .int .u64 (ww1 x), .int .u64 (ww0 x)], [.int .u64 (ww3 y), .int .u64 (ww2 y), .int .u64 (ww1 y), .int .u64 (ww0 y)], [.int .u64 (ww3 z), .int .u64 (ww2 z), .int .u64 (ww1 z), .int .u64 (ww0 z)], [.int .u64 0, .int .u64 0, .int .u64 0, .int .u64 0, .int .u64 0, .int .u64 0, .int .u64 0, .int .u64 0, .int .u64 0, .int .u64 0, .int .u64 0, .int .u64 0]] ∧ Blk wx gC [.int .u64 (lw0 g), .int .u64 (lw1 g), .int .u64 (lw2 g), .int .u64 (lw3 g), .int .u64 (lw4 g), .int .u64 (lw5 g), .int .u64 (lw6 g), .int .u64 (lw7 g)] ∧ Blk wx gP [.int .u64 (ww3 x), .int .u64 (ww2 x), .int .u64 (ww1 x), .int .u64 (ww0 x), .int .u64 (ww3 y), .int .u64 (ww2 y), .int .u64 (ww1 y), .int .u64 (ww0 y), .int .u64 (ww3 z), .int .u64 (ww2 z), .int .u64 (ww1 z), .int .u64 (ww0 z)])
       case first =>
         go_region_held3 (fun w' => w'.cell? ⟨gW, 0, none⟩ = some (.int .u64 (ww3 x)) ∧ w'.cell? ⟨gW, 1, none⟩ = some (.int .u64 (ww2 x)) ∧ w'.cell? ⟨gW, 2, none⟩ = some (.int .u64 (ww1 x)) ∧ w'.cell? ⟨gW, 3, none⟩ = some (.int .u64 (ww0 x)) ∧ w'.cell? ⟨gC, 0, none⟩ = some (.int .u64 (lw0 g)) ∧ w'.cell? ⟨gC, 1, none⟩ = some (.int .u64 (lw1 g)) ∧ w'.cell? ⟨gC, 2, none⟩ = some (.int .u64 (lw2 g)) ∧ w'.cell? ⟨gC, 3, none⟩ = some (.int .u64 (lw3 g)) ∧ w'.cell? ⟨gC, 4, none⟩ = some (.int .u64 (lw4 g)) ∧ w'.cell? ⟨gC, 5, none⟩ = some (.int .u64 (lw5 g)) ∧ w'.cell? ⟨gC, 6, none⟩ = some (.int .u64 (lw6 g)) ∧ w'.cell? ⟨gC, 7, none⟩ = some (.int .u64 (lw7 g)) ∧ w'.cell? ⟨w.heap.size + 2, 0, none⟩ = some (.int .u64 (ww3 z)) ∧ w'.cell? ⟨w.heap.size + 2, 1, none⟩ = some (.int .u64 (ww2 z)) ∧ w'.cell? ⟨w.heap.size + 2, 2, none⟩ = some (.int .u64 (ww1 z)) ∧ w'.cell? ⟨w.heap.size + 2, 3, none⟩ = some (.int .u64 (ww0 z))) ((refine pw_cells (x := x) (y := y) ?_ ?_ ?_ <;> repeat (first | (with_reducible exact T0) | (with_reducible exact BC) | (with_reducible exact BW) | (with_reducible refine ArgsB.drew ?_) | (with_reducible refine ArgsB.alloc ?_ _) | (with_reducible refine ArgsB.set4g ?_ (by simp; omega) _ _ _ _) | (with_reducible refine Blk.drew ?_) | (with_reducible refine Blk.alloc ?_ _) | (with_reducible refine Blk.set4 ?_ (by omega)))))
           (first
             | (go_at_call 58; refine (L0 _).mono ?_; rintro e k1 ⟨rfl, hB⟩; (first | (have T1 : ArgsB w k1 [[.int .u64 (ww3 x), .int .u64 (ww2 x), .int .u64 (ww1 x), .int .u64 (ww0 x)], [.int .u64 (ww3 y), .int .u64 (ww2 y), .int .u64 (ww1 y), .int .u64 (ww0 y)], [.int .u64 (ww3 z), .int .u64 (ww2 z), .int .u64 (ww1 z), .int .u64 (ww0 z)], [.int .u64 0, .int .u64 0, .int .u64 0, .int .u64 0, .int .u64 0, .int .u64 0, .int .u64 0, .int .u64 0, .int .u64 0, .int .u64 0, .int .u64 0, .int .u64 0]] := (by with_reducible exact T0.step hB); have tltk1 := (T0.b 3 rfl).lt; have lBCk1 := BC.lt; replace BC := BC.step hB; have lBPk1 := BP.lt; replace BP := BP.step hB; have lBWk1 := BW.lt; replace BW := BW.step hB; (try (replace G0 := G0.step hB; obtain ⟨j0c, j0f, j1c, j1f, j2c, j2f, j3c, j3f⟩ := G0.cf4; have jlt := G0.lt))) | (have T1 : ArgsB w k1 [[.int .u64 (ww3 x), .int .u64 (ww2 x), .int .u64 (ww1 x), .int .u64 (ww0 x)], [.int .u64 (ww3 y), .int .u64 (ww2 y), .int .u64 (ww1 y), .int .u64 (ww0 y)], [.int .u64 (ww3 z), .int .u64 (ww2 z), .int .u64 (ww1 z), .int .u64 (ww0 z)], [.int .u64 0, .int .u64 0, .int .u64 0, .int .u64 0, .int .u64 0, .int .u64 0, .int .u64 0, .int .u64 0, .int .u64 0, .int .u64 0, .int .u64 0, .int .u64 0]] := (by with_reducible exact T0.drew.step hB); have tltk1 := (T0.b 3 rfl).lt; have lBCk1 := BC.lt; replace BC := BC.drew.step hB; have lBPk1 := BP.lt; replace BP := BP.drew.step hB; have lBWk1 := BW.lt; replace BW := BW.drew.step hB; (try (replace G0 := G0.drew.step hB; obtain ⟨j0c, j0f, j1c, j1f, j2c, j2f, j3c, j3f⟩ := G0.cf4; have jlt := G0.lt))) | (have T1 : ArgsB w k1 [[.int .u64 (ww3 x), .int .u64 (ww2 x), .int .u64 (ww1 x), .int .u64 (ww0 x)], [.int .u64 (ww3 y), .int .u64 (ww2 y), .int .u64 (ww1 y), .int .u64 (ww0 y)], [.int .u64 (ww3 z), .int .u64 (ww2 z), .int .u64 (ww1 z), .int .u64 (ww0 z)], [.int .u64 0, .int .u64 0, .int .u64 0, .int .u64 0, .int .u64 0, .int .u64 0, .int .u64 0, .int .u64 0, .int .u64 0, .int .u64 0, .int .u64 0, .int .u64 0]] := (by with_reducible exact (T0.alloc _).step hB); have tltk1 := (T0.b 3 rfl).lt; have lBCk1 := BC.lt; replace BC := (BC.alloc _).step hB; have lBPk1 := BP.lt; replace BP := (BP.alloc _).step hB; have lBWk1 := BW.lt; replace BW := (BW.alloc _).step hB; (have G0 := (Blk.new _ [.int .u64 0, .int .u64 0, .int .u64 0, .int .u64 0] _ rfl).step hB; obtain ⟨j0c, j0f, j1c, j1f, j2c, j2f, j3c, j3f⟩ := G0.cf4; have jlt := G0.lt)) | (have T1 : ArgsB w k1 [[.int .u64 (ww3 x), .int .u64 (ww2 x), .int .u64 (ww1 x), .int .u64 (ww0 x)], [.int .u64 (ww3 y), .int .u64 (ww2 y), .int .u64 (ww1 y), .int .u64 (ww0 y)], [.int .u64 (ww3 z), .int .u64 (ww2 z), .int .u64 (ww1 z), .int .u64 (ww0 z)], [.int .u64 0, .int .u64 0, .int .u64 0, .int .u64 0, .int .u64 0, .int .u64 0, .int .u64 0, .int .u64 0, .int .u64 0, .int .u64 0, .int .u64 0, .int .u64 0]] := (by with_reducible exact (T0.alloc _).drew.step hB); have tltk1 := (T0.b 3 rfl).lt; have lBCk1 := BC.lt; replace BC := (BC.alloc _).drew.step hB; have lBPk1 := BP.lt; replace BP := (BP.alloc _).drew.step hB; have lBWk1 := BW.lt; replace BW := (BW.alloc _).drew.step hB; (have G0 := (Blk.new _ [.int .u64 0, .int .u64 0, .int .u64 0, .int .u64 0] _ rfl).drew.step hB; obtain ⟨j0c, j0f, j1c, j1f, j2c, j2f, j3c, j3f⟩ := G0.cf4; have jlt := G0.lt))); clear T0; have T0 := T1; clear T1; clear hB)
             | (go_at_call 47; refine (IB _).mono ?_; rintro e k2 ⟨rfl, hB⟩; (first | (have T1 : ArgsB w k2 [[.int .u64 (ww3 x), .int .u64 (ww2 x), .int .u64 (ww1 x), .int .u64 (ww0 x)], [.int .u64 (ww3 y), .int .u64 (ww2 y), .int .u64 (ww1 y), .int .u64 (ww0 y)], [.int .u64 (ww3 z), .int .u64 (ww2 z), .int .u64 (ww1 z), .int .u64 (ww0 z)], [.int .u64 0, .int .u64 0, .int .u64 0, .int .u64 0, .int .u64 0, .int .u64 0, .int .u64 0, .int .u64 0, .int .u64 0, .int .u64 0, .int .u64 0, .int .u64 0]] := (by with_reducible exact T0.step hB); have tltk2 := (T0.b 3 rfl).lt; have lBCk2 := BC.lt; replace BC := BC.step hB; have lBPk2 := BP.lt; replace BP := BP.step hB; have lBWk2 := BW.lt; replace BW := BW.step hB; (try (replace G0 := G0.step hB; obtain ⟨j0c, j0f, j1c, j1f, j2c, j2f, j3c, j3f⟩ := G0.cf4; have jlt := G0.lt))) | (have T1 : ArgsB w k2 [[.int .u64 (ww3 x), .int .u64 (ww2 x), .int .u64 (ww1 x), .int .u64 (ww0 x)], [.int .u64 (ww3 y), .int .u64 (ww2 y), .int .u64 (ww1 y), .int .u64 (ww0 y)], [.int .u64 (ww3 z), .int .u64 (ww2 z), .int .u64 (ww1 z), .int .u64 (ww0 z)], [.int .u64 0, .int .u64 0, .int .u64 0, .int .u64 0, .int .u64 0, .int .u64 0, .int .u64 0, .int .u64 0, .int .u64 0, .int .u64 0, .int .u64 0, .int .u64 0]] := (by with_reducible exact T0.drew.step hB); have tltk2 := (T0.b 3 rfl).lt; have lBCk2 := BC.lt; replace BC := BC.drew.step hB; have lBPk2 := BP.lt; replace BP := BP.drew.step hB; have lBWk2 := BW.lt; replace BW := BW.drew.step hB; (try (replace G0 := G0.drew.step hB; obtain ⟨j0c, j0f, j1c, j1f, j2c, j2f, j3c, j3f⟩ := G0.cf4; have jlt := G0.lt))) | (have T1 : ArgsB w k2 [[.int .u64 (ww3 x), .int .u64 (ww2 x), .int .u64 (ww1 x), .int .u64 (ww0 x)], [.int .u64 (ww3 y), .int .u64 (ww2 y), .int .u64 (ww1 y), .int .u64 (ww0 y)], [.int .u64 (ww3 z), .int .u64 (ww2 z), .int .u64 (ww1 z), .int .u64 (ww0 z)], [.int .u64 0, .int .u64 0, .int .u64 0, .int .u64 0, .int .u64 0, .int .u64 0, .int .u64 0, .int .u64 0, .int .u64 0, .int .u64 0, .int .u64 0, .int .u64 0]] := (by with_reducible exact (T0.alloc _).step hB); have tltk2 := (T0.b 3 rfl).lt; have lBCk2 := BC.lt; replace BC := (BC.alloc _).step hB; have lBPk2 := BP.lt; replace BP := (BP.alloc _).step hB; have lBWk2 := BW.lt; replace BW := (BW.alloc _).step hB; (have G0 := (Blk.new _ [.int .u64 0, .int .u64 0, .int .u64 0, .int .u64 0] _ rfl).step hB; obtain ⟨j0c, j0f, j1c, j1f, j2c, j2f, j3c, j3f⟩ := G0.cf4; have jlt := G0.lt)) | (have T1 : ArgsB w k2 [[.int .u64 (ww3 x), .int .u64 (ww2 x), .int .u64 (ww1 x), .int .u64 (ww0 x)], [.int .u64 (ww3 y), .int .u64 (ww2 y), .int .u64 (ww1 y), .int .u64 (ww0 y)], [.int .u64 (ww3 z), .int .u64 (ww2 z), .int .u64 (ww1 z), .int .u64 (ww0 z)], [.int .u64 0, .int .u64 0, .int .u64 0, .int .u64 0, .int .u64 0, .int .u64 0, .int .u64 0, .int .u64 0, .int .u64 0, .int .u64 0, .int .u64 0, .int .u64 0]] := (by with_reducible exact (T0.alloc _).drew.step hB); have tltk2 := (T0.b 3 rfl).lt; have lBCk2 := BC.lt; replace BC := (BC.alloc _).drew.step hB; have lBPk2 := BP.lt; replace BP := (BP.alloc _).drew.step hB; have lBWk2 := BW.lt; replace BW := (BW.alloc _).drew.step hB; (have G0 := (Blk.new _ [.int .u64 0, .int .u64 0, .int .u64 0, .int .u64 0] _ rfl).drew.step hB; obtain ⟨j0c, j0f, j1c, j1f, j2c, j2f, j3c, j3f⟩ := G0.cf4; have jlt := G0.lt))); clear T0; have T0 := T1; clear T1; clear hB)
             | (go_at_call 72; refine (SH _).mono ?_; rintro e k3 ⟨rfl, hB⟩; (first | (have T1 : ArgsB w k3 [[.int .u64 (ww3 x), .int .u64 (ww2 x), .int .u64 (ww1 x), .int .u64 (ww0 x)], [.int .u64 (ww3 y), .int .u64 (ww2 y), .int .u64 (ww1 y), .int .u64 (ww0 y)], [.int .u64 (ww3 z), .int .u64 (ww2 z), .int .u64 (ww1 z), .int .u64 (ww0 z)], [.int .u64 0, .int .u64 0, .int .u64 0, .int .u64 0, .int .u64 0, .int .u64 0, .int .u64 0, .int .u64 0, .int .u64 0, .int .u64 0, .int .u64 0, .int .u64 0]] := (by with_reducible exact T0.step hB); have tltk3 := (T0.b 3 rfl).lt; have lBCk3 := BC.lt; replace BC := BC.step hB; have lBPk3 := BP.lt; replace BP := BP.step hB; have lBWk3 := BW.lt; replace BW := BW.step hB; (try (replace G0 := G0.step hB; obtain ⟨j0c, j0f, j1c, j1f, j2c, j2f, j3c, j3f⟩ := G0.cf4; have jlt := G0.lt))) | (have T1 : ArgsB w k3 [[.int .u64 (ww3 x), .int .u64 (ww2 x), .int .u64 (ww1 x), .int .u64 (ww0 x)], [.int .u64 (ww3 y), .int .u64 (ww2 y), .int .u64 (ww1 y), .int .u64 (ww0 y)], [.int .u64 (ww3 z), .int .u64 (ww2 z), .int .u64 (ww1 z), .int .u64 (ww0 z)], [.int .u64 0, .int .u64 0, .int .u64 0, .int .u64 0, .int .u64 0, .int .u64 0, .int .u64 0, .int .u64 0, .int .u64 0, .int .u64 0, .int .u64 0, .int .u64 0]] := (by with_reducible exact T0.drew.step hB); have tltk3 := (T0.b 3 rfl).lt; have lBCk3 := BC.lt; replace BC := BC.drew.step hB; have lBPk3 := BP.lt; replace BP := BP.drew.step hB; have lBWk3 := BW.lt; replace BW := BW.drew.step hB; (try (replace G0 := G0.drew.step hB; obtain ⟨j0c, j0f, j1c, j1f, j2c, j2f, j3c, j3f⟩ := G0.cf4; have jlt := G0.lt))) | (have T1 : ArgsB w k3 [[.int .u64 (ww3 x), .int .u64 (ww2 x), .int .u64 (ww1 x), .int .u64 (ww0 x)], [.int .u64 (ww3 y), .int .u64 (ww2 y), .int .u64 (ww1 y), .int .u64 (ww0 y)], [.int .u64 (ww3 z), .int .u64 (ww2 z), .int .u64 (ww1 z), .int .u64 (ww0 z)], [.int .u64 0, .int .u64 0, .int .u64 0, .int .u64 0, .int .u64 0, .int .u64 0, .int .u64 0, .int .u64 0, .int .u64 0, .int .u64 0, .int .u64 0, .int .u64 0]] := (by with_reducible exact (T0.alloc _).step hB); have tltk3 := (T0.b 3 rfl).lt; have lBCk3 := BC.lt; replace BC := (BC.alloc _).step hB; have lBPk3 := BP.lt; replace BP := (BP.alloc _).step hB; have lBWk3 := BW.lt; replace BW := (BW.alloc _).step hB; (have G0 := (Blk.new _ [.int .u64 0, .int .u64 0, .int .u64 0, .int .u64 0] _ rfl).step hB; obtain ⟨j0c, j0f, j1c, j1f, j2c, j2f, j3c, j3f⟩ := G0.cf4; have jlt := G0.lt)) | (have T1 : ArgsB w k3 [[.int .u64 (ww3 x), .int .u64 (ww2 x), .int .u64 (ww1 x), .int .u64 (ww0 x)], [.int .u64 (ww3 y), .int .u64 (ww2 y), .int .u64 (ww1 y), .int .u64 (ww0 y)], [.int .u64 (ww3 z), .int .u64 (ww2 z), .int .u64 (ww1 z), .int .u64 (ww0 z)], [.int .u64 0, .int .u64 0, .int .u64 0, .int .u64 0, .int .u64 0, .int .u64 0, .int .u64 0, .int .u64 0, .int .u64 0, .int .u64 0, .int .u64 0, .int .u64 0]] := (by with_reducible exact (T0.alloc _).drew.step hB); have tltk3 := (T0.b 3 rfl).lt; have lBCk3 := BC.lt; replace BC := (BC.alloc _).drew.step hB; have lBPk3 := BP.lt; replace BP := (BP.alloc _).drew.step hB; have lBWk3 := BW.lt; replace BW := (BW.alloc _).drew.step hB; (have G0 := (Blk.new _ [.int .u64 0, .int .u64 0, .int .u64 0, .int .u64 0] _ rfl).drew.step hB; obtain ⟨j0c, j0f, j1c, j1f, j2c, j2f, j3c, j3f⟩ := G0.cf4; have jlt := G0.lt))); clear T0; have T0 := T1; clear T1; clear hB))
         all_goals go_wp2_with fail
         all_goals go_meet
         all_goals have hl := (T0.b 3 rfl).lt
         all_goals have hlC := BC.lt
         all_goals have hlP := BP.lt
         all_goals first | (with_reducible exact ⟨⟨_, rfl, by omega, Blk.new _ _ _ rfl⟩, rfl, T0.alloc _, BC.alloc _, BP.alloc _⟩) | (with_reducible exact ⟨⟨_, rfl, by omega, Blk.stored4g G0 _ _ _ _⟩, rfl, T0.set4g (by simp; omega) _ _ _ _, BC.set4 (by omega), BP.set4 (by omega)⟩)
       case rest =>
         clear T0 BC BP BW SH h7 hPw
         obtain ⟨⟨gQ, hp, hgQ, BQ⟩, ht, T0, BC, BP⟩ := hcut
         subst hp; subst ht
         by_cases hd : told sx = true
         · rw [hd]
           rw [if_pos hd] at hq
           subst hq
           have IP := isPart_det sx hd
           obtain ⟨q0, q1, q2, q3⟩ := BQ.cs4
           go_wp2_with fail
           refine (IP _).mono ?_
           rintro e k4 ⟨rfl, hB⟩
           replace T0 := T0.step hB; replace BC := BC.step hB; replace BP := BP.step hB; replace BQ := BQ.step hB
           clear hB IP q0 q1 q2 q3
           by_cases hs : small sx = true
           · rw [hs]
             obtain ⟨q0, q1, q2, q3⟩ := BQ.cs4
             obtain ⟨m0, k0, m1, k1, m2, k2, m3, k3⟩ := BP.cf4
             have hPl := BP.lt
             have BN : Blk ((((k4.setCell ⟨gP, 0, none⟩ (.int .u64 (ww3 sx))).setCell ⟨gP, 1, none⟩ (.int .u64 (ww2 sx))).setCell ⟨gP, 2, none⟩ (.int .u64 (ww1 sx))).setCell ⟨gP, 3, none⟩ (.int .u64 (ww0 sx))) gP [.int .u64 (ww3 sx), .int .u64 (ww2 sx), .int .u64 (ww1 sx), .int .u64 (ww0 sx), .int .u64 (ww3 y), .int .u64 (ww2 y), .int .u64 (ww1 y), .int .u64 (ww0 y), .int .u64 (ww3 z), .int .u64 (ww2 z), .int .u64 (ww1 z), .int .u64 (ww0 z)] := (((BP.setI 0 (by simp) (.int .u64 (ww3 sx))).setI 1 (by simp) (.int .u64 (ww2 sx))).setI 2 (by simp) (.int .u64 (ww1 sx))).setI 3 (by simp) (.int .u64 (ww0 sx))
             have BD : Blk ((((k4.setCell ⟨gP, 0, none⟩ (.int .u64 (ww3 sx))).setCell ⟨gP, 1, none⟩ (.int .u64 (ww2 sx))).setCell ⟨gP, 2, none⟩ (.int .u64 (ww1 sx))).setCell ⟨gP, 3, none⟩ (.int .u64 (ww0 sx))) gC [.int .u64 (lw0 g), .int .u64 (lw1 g), .int .u64 (lw2 g), .int .u64 (lw3 g), .int .u64 (lw4 g), .int .u64 (lw5 g), .int .u64 (lw6 g), .int .u64 (lw7 g)] := (((BC.setO (p := ⟨gP, 0, none⟩) (by show gC ≠ gP; omega) _).setO (p := ⟨gP, 1, none⟩) (by show gC ≠ gP; omega) _).setO (p := ⟨gP, 2, none⟩) (by show gC ≠ gP; omega) _).setO (p := ⟨gP, 3, none⟩) (by show gC ≠ gP; omega) _
             have TN : ArgsB w ((((k4.setCell ⟨gP, 0, none⟩ (.int .u64 (ww3 sx))).setCell ⟨gP, 1, none⟩ (.int .u64 (ww2 sx))).setCell ⟨gP, 2, none⟩ (.int .u64 (ww1 sx))).setCell ⟨gP, 3, none⟩ (.int .u64 (ww0 sx))) [[.int .u64 (ww3 x), .int .u64 (ww2 x), .int .u64 (ww1 x), .int .u64 (ww0 x)], [.int .u64 (ww3 y), .int .u64 (ww2 y), .int .u64 (ww1 y), .int .u64 (ww0 y)], [.int .u64 (ww3 z), .int .u64 (ww2 z), .int .u64 (ww1 z), .int .u64 (ww0 z)], [.int .u64 0, .int .u64 0, .int .u64 0, .int .u64 0, .int .u64 0, .int .u64 0, .int .u64 0, .int .u64 0, .int .u64 0, .int .u64 0, .int .u64 0, .int .u64 0]] := (((T0.set (p := ⟨gP, 0, none⟩) (by show w.heap.size + 4 ≤ gP; omega) _).set (p := ⟨gP, 1, none⟩) (by show w.heap.size + 4 ≤ gP; omega) _).set (p := ⟨gP, 2, none⟩) (by show w.heap.size + 4 ≤ gP; omega) _).set (p := ⟨gP, 3, none⟩) (by show w.heap.size + 4 ≤ gP; omega) _
             have HS : Hid (small sx = true) := hs
             clear BP BC T0 BQ hs hd
             go_wp2
             go_roundw
             case rel => exact Or.inr (Or.inl ⟨rfl, HS.out, TN, BD, BN⟩)
             case measure => simp [intOf]
           · replace hs := Bool.eq_false_iff.2 hs
             rw [hs]
             have HO : Hid (pmV x y z = .tuple #[.agg #[.int .u64 0, .int .u64 0, .int .u64 0, .int .u64 0, .int .u64 0, .int .u64 0, .int .u64 0, .int .u64 0, .int .u64 0, .int .u64 0, .int .u64 0, .int .u64 0], .bool false]) := by show _ = _; rw [HV.out]; unfold ptV; rw [hs]; simp
             clear BQ hs hd
             have o0 := (T0.b 3 rfl).c 0 rfl; have u0 := (T0.b 3 rfl).f 0 rfl; have o1 := (T0.b 3 rfl).c 1 rfl; have u1 := (T0.b 3 rfl).f 1 rfl; have o2 := (T0.b 3 rfl).c 2 rfl; have u2 := (T0.b 3 rfl).f 2 rfl; have o3 := (T0.b 3 rfl).c 3 rfl; have u3 := (T0.b 3 rfl).f 3 rfl; have o4 := (T0.b 3 rfl).c 4 rfl; have u4 := (T0.b 3 rfl).f 4 rfl; have o5 := (T0.b 3 rfl).c 5 rfl; have u5 := (T0.b 3 rfl).f 5 rfl; have o6 := (T0.b 3 rfl).c 6 rfl; have u6 := (T0.b 3 rfl).f 6 rfl; have o7 := (T0.b 3 rfl).c 7 rfl; have u7 := (T0.b 3 rfl).f 7 rfl; have o8 := (T0.b 3 rfl).c 8 rfl; have u8 := (T0.b 3 rfl).f 8 rfl; have o9 := (T0.b 3 rfl).c 9 rfl; have u9 := (T0.b 3 rfl).f 9 rfl; have o10 := (T0.b 3 rfl).c 10 rfl; have u10 := (T0.b 3 rfl).f 10 rfl; have o11 := (T0.b 3 rfl).c 11 rfl; have u11 := (T0.b 3 rfl).f 11 rfl; have olt := (T0.b 3 rfl).lt
             have HB := T0.below
             clear T0 BC BP
             go_wp2
             refine bodyPost_ret (v := .tuple #[.agg #[.int .u64 0, .int .u64 0, .int .u64 0, .int .u64 0, .int .u64 0, .int .u64 0, .int .u64 0, .int .u64 0, .int .u64 0, .int .u64 0, .int .u64 0, .int .u64 0], .bool false]) (by simp [results, Tryz.results41, go_sem, o0, o1, o2, o3, o4, o5, o6, o7, o8, o9, o10, o11]) rfl ?_
             refine ⟨by rw [HO.out], ?_⟩
             repeat' (refine Below.setCell ?_ (by simp; try omega) _)
             exact HB
         · replace hd := Bool.eq_false_iff.2 hd
           rw [hd]
           have hs : small sx = false := by
             rw [Bool.eq_false_iff]
             intro h
             rw [told_small h] at hd
             cases hd
           have HO : Hid (pmV x y z = .tuple #[.agg #[.int .u64 0, .int .u64 0, .int .u64 0, .int .u64 0, .int .u64 0, .int .u64 0, .int .u64 0, .int .u64 0, .int .u64 0, .int .u64 0, .int .u64 0, .int .u64 0], .bool false]) := by show _ = _; rw [HV.out]; unfold ptV; rw [hs]; simp
           clear BQ hs hd
           have o0 := (T0.b 3 rfl).c 0 rfl; have u0 := (T0.b 3 rfl).f 0 rfl; have o1 := (T0.b 3 rfl).c 1 rfl; have u1 := (T0.b 3 rfl).f 1 rfl; have o2 := (T0.b 3 rfl).c 2 rfl; have u2 := (T0.b 3 rfl).f 2 rfl; have o3 := (T0.b 3 rfl).c 3 rfl; have u3 := (T0.b 3 rfl).f 3 rfl; have o4 := (T0.b 3 rfl).c 4 rfl; have u4 := (T0.b 3 rfl).f 4 rfl; have o5 := (T0.b 3 rfl).c 5 rfl; have u5 := (T0.b 3 rfl).f 5 rfl; have o6 := (T0.b 3 rfl).c 6 rfl; have u6 := (T0.b 3 rfl).f 6 rfl; have o7 := (T0.b 3 rfl).c 7 rfl; have u7 := (T0.b 3 rfl).f 7 rfl; have o8 := (T0.b 3 rfl).c 8 rfl; have u8 := (T0.b 3 rfl).f 8 rfl; have o9 := (T0.b 3 rfl).c 9 rfl; have u9 := (T0.b 3 rfl).f 9 rfl; have o10 := (T0.b 3 rfl).c 10 rfl; have u10 := (T0.b 3 rfl).f 10 rfl; have o11 := (T0.b 3 rfl).c 11 rfl; have u11 := (T0.b 3 rfl).f 11 rfl; have olt := (T0.b 3 rfl).lt
           have HB := T0.below
           clear T0 BC BP
           go_wp2
           refine bodyPost_ret (v := .tuple #[.agg #[.int .u64 0, .int .u64 0, .int .u64 0, .int .u64 0, .int .u64 0, .int .u64 0, .int .u64 0, .int .u64 0, .int .u64 0, .int .u64 0, .int .u64 0, .int .u64 0], .bool false]) (by simp [results, Tryz.results41, go_sem, o0, o1, o2, o3, o4, o5, o6, o7, o8, o9, o10, o11]) rfl ?_
           refine ⟨by rw [HO.out], ?_⟩
           repeat' (refine Below.setCell ?_ (by simp; try omega) _)
           exact HB
     · have IX := ix3_1 (.int .u64 (ww3 x)) (.int .u64 (ww2 x)) (.int .u64 (ww1 x)) (.int .u64 (ww0 x)) (.int .u64 (ww3 y)) (.int .u64 (ww2 y)) (.int .u64 (ww1 y)) (.int .u64 (ww0 y)) (.int .u64 (ww3 z)) (.int .u64 (ww2 z)) (.int .u64 (ww1 z)) (.int .u64 (ww0 z))
       obtain ⟨q, hq⟩ : ∃ q : Int, (if told sy = true then sy else 0) = q := ⟨_, rfl⟩
       have TV : tellV sy = .tuple #[W4 q, .bool (told sy)] := by
         rw [← hq]
         unfold tellV
         by_cases hd : told sy = true
         · rw [if_pos hd, if_pos hd, hd]
         · rw [if_neg hd, if_neg hd, Bool.eq_false_iff.2 hd]
       have SH := S1
       rw [TV] at SH
       clear TV
       go_upto_region 8 with fail
       clear IX
       have BW := Blk.new wr [.int .u64 (ww3 y), .int .u64 (ww2 y), .int .u64 (ww1 y), .int .u64 (ww0 y)] 32 rfl
       replace T0 := T0.alloc (.cells #[.int .u64 (ww3 y), .int .u64 (ww2 y), .int .u64 (ww1 y), .int .u64 (ww0 y)] 32); replace BC := BC.alloc (.cells #[.int .u64 (ww3 y), .int .u64 (ww2 y), .int .u64 (ww1 y), .int .u64 (ww0 y)] 32); 
       have hPw := BP.lt
       replace BP := BP.alloc (.cells #[.int .u64 (ww3 y), .int .u64 (ww2 y), .int .u64 (ww1 y), .int .u64 (ww0 y)] 32)
       generalize wr.alloc (.cells #[.int .u64 (ww3 y), .int .u64 (ww2 y), .int .u64 (ww1 y), .int .u64 (ww0 y)] 32) = W7 at *
       generalize wr.heap.size = gW at *
       have h7 := (T0.b 3 rfl).lt
       go_cut [12, 13] (fun p t wx => (∃ g', p = .pointer (some ⟨g', 0, none⟩) ∧ gP + 1 ≤ g' ∧ Blk wx g' [.int .u64 (ww3 q), .int .u64 (ww2 q), .int .u64 (ww1 q), .int .u64 (ww0 q)]) ∧ t = .bool (told sy) ∧ ArgsB w wx [[.int .u64 (ww3 x), .int .u64 (ww2 x), .int .u64 (ww1 x), .int .u64 (ww0 x)], [.int .u64 (ww3 y), .int .u64 (ww2 y), .int .u64 (ww1 y), .int .u64 (ww0 y)], [.int .u64 (ww3 z), .int .u64 (ww2 z), .int .u64 (ww1 z), .int .u64 (ww0 z)], [.int .u64 0, .int .u64 0, .int .u64 0, .int .u64 0, .int .u64 0, .int .u64 0, .int .u64 0, .int .u64 0, .int .u64 0, .int .u64 0, .int .u64 0, .int .u64 0]] ∧ Blk wx gC [.int .u64 (lw0 g), .int .u64 (lw1 g), .int .u64 (lw2 g), .int .u64 (lw3 g), .int .u64 (lw4 g), .int .u64 (lw5 g), .int .u64 (lw6 g), .int .u64 (lw7 g)] ∧ Blk wx gP [.int .u64 (ww3 sx), .int .u64 (ww2 sx), .int .u64 (ww1 sx), .int .u64 (ww0 sx), .int .u64 (ww3 y), .int .u64 (ww2 y), .int .u64 (ww1 y), .int .u64 (ww0 y), .int .u64 (ww3 z), .int .u64 (ww2 z), .int .u64 (ww1 z), .int .u64 (ww0 z)])
       case first =>
         go_region_held3 (fun w' => w'.cell? ⟨gW, 0, none⟩ = some (.int .u64 (ww3 y)) ∧ w'.cell? ⟨gW, 1, none⟩ = some (.int .u64 (ww2 y)) ∧ w'.cell? ⟨gW, 2, none⟩ = some (.int .u64 (ww1 y)) ∧ w'.cell? ⟨gW, 3, none⟩ = some (.int .u64 (ww0 y)) ∧ w'.cell? ⟨gC, 0, none⟩ = some (.int .u64 (lw0 g)) ∧ w'.cell? ⟨gC, 1, none⟩ = some (.int .u64 (lw1 g)) ∧ w'.cell? ⟨gC, 2, none⟩ = some (.int .u64 (lw2 g)) ∧ w'.cell? ⟨gC, 3, none⟩ = some (.int .u64 (lw3 g)) ∧ w'.cell? ⟨gC, 4, none⟩ = some (.int .u64 (lw4 g)) ∧ w'.cell? ⟨gC, 5, none⟩ = some (.int .u64 (lw5 g)) ∧ w'.cell? ⟨gC, 6, none⟩ = some (.int .u64 (lw6 g)) ∧ w'.cell? ⟨gC, 7, none⟩ = some (.int .u64 (lw7 g)) ∧ w'.cell? ⟨w.heap.size + 2, 0, none⟩ = some (.int .u64 (ww3 z)) ∧ w'.cell? ⟨w.heap.size + 2, 1, none⟩ = some (.int .u64 (ww2 z)) ∧ w'.cell? ⟨w.heap.size + 2, 2, none⟩ = some (.int .u64 (ww1 z)) ∧ w'.cell? ⟨w.heap.size + 2, 3, none⟩ = some (.int .u64 (ww0 z))) ((refine pw_cells (x := x) (y := y) ?_ ?_ ?_ <;> repeat (first | (with_reducible exact T0) | (with_reducible exact BC) | (with_reducible exact BW) | (with_reducible refine ArgsB.drew ?_) | (with_reducible refine ArgsB.alloc ?_ _) | (with_reducible refine ArgsB.set4g ?_ (by simp; omega) _ _ _ _) | (with_reducible refine Blk.drew ?_) | (with_reducible refine Blk.alloc ?_ _) | (with_reducible refine Blk.set4 ?_ (by omega)))))
           (first
             | (go_at_call 58; refine (L1 _).mono ?_; rintro e k1 ⟨rfl, hB⟩; (first | (have T1 : ArgsB w k1 [[.int .u64 (ww3 x), .int .u64 (ww2 x), .int .u64 (ww1 x), .int .u64 (ww0 x)], [.int .u64 (ww3 y), .int .u64 (ww2 y), .int .u64 (ww1 y), .int .u64 (ww0 y)], [.int .u64 (ww3 z), .int .u64 (ww2 z), .int .u64 (ww1 z), .int .u64 (ww0 z)], [.int .u64 0, .int .u64 0, .int .u64 0, .int .u64 0, .int .u64 0, .int .u64 0, .int .u64 0, .int .u64 0, .int .u64 0, .int .u64 0, .int .u64 0, .int .u64 0]] := (by with_reducible exact T0.step hB); have tltk1 := (T0.b 3 rfl).lt; have lBCk1 := BC.lt; replace BC := BC.step hB; have lBPk1 := BP.lt; replace BP := BP.step hB; have lBWk1 := BW.lt; replace BW := BW.step hB; (try (replace G0 := G0.step hB; obtain ⟨j0c, j0f, j1c, j1f, j2c, j2f, j3c, j3f⟩ := G0.cf4; have jlt := G0.lt))) | (have T1 : ArgsB w k1 [[.int .u64 (ww3 x), .int .u64 (ww2 x), .int .u64 (ww1 x), .int .u64 (ww0 x)], [.int .u64 (ww3 y), .int .u64 (ww2 y), .int .u64 (ww1 y), .int .u64 (ww0 y)], [.int .u64 (ww3 z), .int .u64 (ww2 z), .int .u64 (ww1 z), .int .u64 (ww0 z)], [.int .u64 0, .int .u64 0, .int .u64 0, .int .u64 0, .int .u64 0, .int .u64 0, .int .u64 0, .int .u64 0, .int .u64 0, .int .u64 0, .int .u64 0, .int .u64 0]] := (by with_reducible exact T0.drew.step hB); have tltk1 := (T0.b 3 rfl).lt; have lBCk1 := BC.lt; replace BC := BC.drew.step hB; have lBPk1 := BP.lt; replace BP := BP.drew.step hB; have lBWk1 := BW.lt; replace BW := BW.drew.step hB; (try (replace G0 := G0.drew.step hB; obtain ⟨j0c, j0f, j1c, j1f, j2c, j2f, j3c, j3f⟩ := G0.cf4; have jlt := G0.lt))) | (have T1 : ArgsB w k1 [[.int .u64 (ww3 x), .int .u64 (ww2 x), .int .u64 (ww1 x), .int .u64 (ww0 x)], [.int .u64 (ww3 y), .int .u64 (ww2 y), .int .u64 (ww1 y), .int .u64 (ww0 y)], [.int .u64 (ww3 z), .int .u64 (ww2 z), .int .u64 (ww1 z), .int .u64 (ww0 z)], [.int .u64 0, .int .u64 0, .int .u64 0, .int .u64 0, .int .u64 0, .int .u64 0, .int .u64 0, .int .u64 0, .int .u64 0, .int .u64 0, .int .u64 0, .int .u64 0]] := (by with_reducible exact (T0.alloc _).step hB); have tltk1 := (T0.b 3 rfl).lt; have lBCk1 := BC.lt; replace BC := (BC.alloc _).step hB; have lBPk1 := BP.lt; replace BP := (BP.alloc _).step hB; have lBWk1 := BW.lt; replace BW := (BW.alloc _).step hB; (have G0 := (Blk.new _ [.int .u64 0, .int .u64 0, .int .u64 0, .int .u64 0] _ rfl).step hB; obtain ⟨j0c, j0f, j1c, j1f, j2c, j2f, j3c, j3f⟩ := G0.cf4; have jlt := G0.lt)) | (have T1 : ArgsB w k1 [[.int .u64 (ww3 x), .int .u64 (ww2 x), .int .u64 (ww1 x), .int .u64 (ww0 x)], [.int .u64 (ww3 y), .int .u64 (ww2 y), .int .u64 (ww1 y), .int .u64 (ww0 y)], [.int .u64 (ww3 z), .int .u64 (ww2 z), .int .u64 (ww1 z), .int .u64 (ww0 z)], [.int .u64 0, .int .u64 0, .int .u64 0, .int .u64 0, .int .u64 0, .int .u64 0, .int .u64 0, .int .u64 0, .int .u64 0, .int .u64 0, .int .u64 0, .int .u64 0]] := (by with_reducible exact (T0.alloc _).drew.step hB); have tltk1 := (T0.b 3 rfl).lt; have lBCk1 := BC.lt; replace BC := (BC.alloc _).drew.step hB; have lBPk1 := BP.lt; replace BP := (BP.alloc _).drew.step hB; have lBWk1 := BW.lt; replace BW := (BW.alloc _).drew.step hB; (have G0 := (Blk.new _ [.int .u64 0, .int .u64 0, .int .u64 0, .int .u64 0] _ rfl).drew.step hB; obtain ⟨j0c, j0f, j1c, j1f, j2c, j2f, j3c, j3f⟩ := G0.cf4; have jlt := G0.lt))); clear T0; have T0 := T1; clear T1; clear hB)
             | (go_at_call 47; refine (IB _).mono ?_; rintro e k2 ⟨rfl, hB⟩; (first | (have T1 : ArgsB w k2 [[.int .u64 (ww3 x), .int .u64 (ww2 x), .int .u64 (ww1 x), .int .u64 (ww0 x)], [.int .u64 (ww3 y), .int .u64 (ww2 y), .int .u64 (ww1 y), .int .u64 (ww0 y)], [.int .u64 (ww3 z), .int .u64 (ww2 z), .int .u64 (ww1 z), .int .u64 (ww0 z)], [.int .u64 0, .int .u64 0, .int .u64 0, .int .u64 0, .int .u64 0, .int .u64 0, .int .u64 0, .int .u64 0, .int .u64 0, .int .u64 0, .int .u64 0, .int .u64 0]] := (by with_reducible exact T0.step hB); have tltk2 := (T0.b 3 rfl).lt; have lBCk2 := BC.lt; replace BC := BC.step hB; have lBPk2 := BP.lt; replace BP := BP.step hB; have lBWk2 := BW.lt; replace BW := BW.step hB; (try (replace G0 := G0.step hB; obtain ⟨j0c, j0f, j1c, j1f, j2c, j2f, j3c, j3f⟩ := G0.cf4; have jlt := G0.lt))) | (have T1 : ArgsB w k2 [[.int .u64 (ww3 x), .int .u64 (ww2 x), .int .u64 (ww1 x), .int .u64 (ww0 x)], [.int .u64 (ww3 y), .int .u64 (ww2 y), .int .u64 (ww1 y), .int .u64 (ww0 y)], [.int .u64 (ww3 z), .int .u64 (ww2 z), .int .u64 (ww1 z), .int .u64 (ww0 z)], [.int .u64 0, .int .u64 0, .int .u64 0, .int .u64 0, .int .u64 0, .int .u64 0, .int .u64 0, .int .u64 0, .int .u64 0, .int .u64 0, .int .u64 0, .int .u64 0]] := (by with_reducible exact T0.drew.step hB); have tltk2 := (T0.b 3 rfl).lt; have lBCk2 := BC.lt; replace BC := BC.drew.step hB; have lBPk2 := BP.lt; replace BP := BP.drew.step hB; have lBWk2 := BW.lt; replace BW := BW.drew.step hB; (try (replace G0 := G0.drew.step hB; obtain ⟨j0c, j0f, j1c, j1f, j2c, j2f, j3c, j3f⟩ := G0.cf4; have jlt := G0.lt))) | (have T1 : ArgsB w k2 [[.int .u64 (ww3 x), .int .u64 (ww2 x), .int .u64 (ww1 x), .int .u64 (ww0 x)], [.int .u64 (ww3 y), .int .u64 (ww2 y), .int .u64 (ww1 y), .int .u64 (ww0 y)], [.int .u64 (ww3 z), .int .u64 (ww2 z), .int .u64 (ww1 z), .int .u64 (ww0 z)], [.int .u64 0, .int .u64 0, .int .u64 0, .int .u64 0, .int .u64 0, .int .u64 0, .int .u64 0, .int .u64 0, .int .u64 0, .int .u64 0, .int .u64 0, .int .u64 0]] := (by with_reducible exact (T0.alloc _).step hB); have tltk2 := (T0.b 3 rfl).lt; have lBCk2 := BC.lt; replace BC := (BC.alloc _).step hB; have lBPk2 := BP.lt; replace BP := (BP.alloc _).step hB; have lBWk2 := BW.lt; replace BW := (BW.alloc _).step hB; (have G0 := (Blk.new _ [.int .u64 0, .int .u64 0, .int .u64 0, .int .u64 0] _ rfl).step hB; obtain ⟨j0c, j0f, j1c, j1f, j2c, j2f, j3c, j3f⟩ := G0.cf4; have jlt := G0.lt)) | (have T1 : ArgsB w k2 [[.int .u64 (ww3 x), .int .u64 (ww2 x), .int .u64 (ww1 x), .int .u64 (ww0 x)], [.int .u64 (ww3 y), .int .u64 (ww2 y), .int .u64 (ww1 y), .int .u64 (ww0 y)], [.int .u64 (ww3 z), .int .u64 (ww2 z), .int .u64 (ww1 z), .int .u64 (ww0 z)], [.int .u64 0, .int .u64 0, .int .u64 0, .int .u64 0, .int .u64 0, .int .u64 0, .int .u64 0, .int .u64 0, .int .u64 0, .int .u64 0, .int .u64 0, .int .u64 0]] := (by with_reducible exact (T0.alloc _).drew.step hB); have tltk2 := (T0.b 3 rfl).lt; have lBCk2 := BC.lt; replace BC := (BC.alloc _).drew.step hB; have lBPk2 := BP.lt; replace BP := (BP.alloc _).drew.step hB; have lBWk2 := BW.lt; replace BW := (BW.alloc _).drew.step hB; (have G0 := (Blk.new _ [.int .u64 0, .int .u64 0, .int .u64 0, .int .u64 0] _ rfl).drew.step hB; obtain ⟨j0c, j0f, j1c, j1f, j2c, j2f, j3c, j3f⟩ := G0.cf4; have jlt := G0.lt))); clear T0; have T0 := T1; clear T1; clear hB)
             | (go_at_call 72; refine (SH _).mono ?_; rintro e k3 ⟨rfl, hB⟩; (first | (have T1 : ArgsB w k3 [[.int .u64 (ww3 x), .int .u64 (ww2 x), .int .u64 (ww1 x), .int .u64 (ww0 x)], [.int .u64 (ww3 y), .int .u64 (ww2 y), .int .u64 (ww1 y), .int .u64 (ww0 y)], [.int .u64 (ww3 z), .int .u64 (ww2 z), .int .u64 (ww1 z), .int .u64 (ww0 z)], [.int .u64 0, .int .u64 0, .int .u64 0, .int .u64 0, .int .u64 0, .int .u64 0, .int .u64 0, .int .u64 0, .int .u64 0, .int .u64 0, .int .u64 0, .int .u64 0]] := (by with_reducible exact T0.step hB); have tltk3 := (T0.b 3 rfl).lt; have lBCk3 := BC.lt; replace BC := BC.step hB; have lBPk3 := BP.lt; replace BP := BP.step hB; have lBWk3 := BW.lt; replace BW := BW.step hB; (try (replace G0 := G0.step hB; obtain ⟨j0c, j0f, j1c, j1f, j2c, j2f, j3c, j3f⟩ := G0.cf4; have jlt := G0.lt))) | (have T1 : ArgsB w k3 [[.int .u64 (ww3 x), .int .u64 (ww2 x), .int .u64 (ww1 x), .int .u64 (ww0 x)], [.int .u64 (ww3 y), .int .u64 (ww2 y), .int .u64 (ww1 y), .int .u64 (ww0 y)], [.int .u64 (ww3 z), .int .u64 (ww2 z), .int .u64 (ww1 z), .int .u64 (ww0 z)], [.int .u64 0, .int .u64 0, .int .u64 0, .int .u64 0, .int .u64 0, .int .u64 0, .int .u64 0, .int .u64 0, .int .u64 0, .int .u64 0, .int .u64 0, .int .u64 0]] := (by with_reducible exact T0.drew.step hB); have tltk3 := (T0.b 3 rfl).lt; have lBCk3 := BC.lt; replace BC := BC.drew.step hB; have lBPk3 := BP.lt; replace BP := BP.drew.step hB; have lBWk3 := BW.lt; replace BW := BW.drew.step hB; (try (replace G0 := G0.drew.step hB; obtain ⟨j0c, j0f, j1c, j1f, j2c, j2f, j3c, j3f⟩ := G0.cf4; have jlt := G0.lt))) | (have T1 : ArgsB w k3 [[.int .u64 (ww3 x), .int .u64 (ww2 x), .int .u64 (ww1 x), .int .u64 (ww0 x)], [.int .u64 (ww3 y), .int .u64 (ww2 y), .int .u64 (ww1 y), .int .u64 (ww0 y)], [.int .u64 (ww3 z), .int .u64 (ww2 z), .int .u64 (ww1 z), .int .u64 (ww0 z)], [.int .u64 0, .int .u64 0, .int .u64 0, .int .u64 0, .int .u64 0, .int .u64 0, .int .u64 0, .int .u64 0, .int .u64 0, .int .u64 0, .int .u64 0, .int .u64 0]] := (by with_reducible exact (T0.alloc _).step hB); have tltk3 := (T0.b 3 rfl).lt; have lBCk3 := BC.lt; replace BC := (BC.alloc _).step hB; have lBPk3 := BP.lt; replace BP := (BP.alloc _).step hB; have lBWk3 := BW.lt; replace BW := (BW.alloc _).step hB; (have G0 := (Blk.new _ [.int .u64 0, .int .u64 0, .int .u64 0, .int .u64 0] _ rfl).step hB; obtain ⟨j0c, j0f, j1c, j1f, j2c, j2f, j3c, j3f⟩ := G0.cf4; have jlt := G0.lt)) | (have T1 : ArgsB w k3 [[.int .u64 (ww3 x), .int .u64 (ww2 x), .int .u64 (ww1 x), .int .u64 (ww0 x)], [.int .u64 (ww3 y), .int .u64 (ww2 y), .int .u64 (ww1 y), .int .u64 (ww0 y)], [.int .u64 (ww3 z), .int .u64 (ww2 z), .int .u64 (ww1 z), .int .u64 (ww0 z)], [.int .u64 0, .int .u64 0, .int .u64 0, .int .u64 0, .int .u64 0, .int .u64 0, .int .u64 0, .int .u64 0, .int .u64 0, .int .u64 0, .int .u64 0, .int .u64 0]] := (by with_reducible exact (T0.alloc _).drew.step hB); have tltk3 := (T0.b 3 rfl).lt; have lBCk3 := BC.lt; replace BC := (BC.alloc _).drew.step hB; have lBPk3 := BP.lt; replace BP := (BP.alloc _).drew.step hB; have lBWk3 := BW.lt; replace BW := (BW.alloc _).drew.step hB; (have G0 := (Blk.new _ [.int .u64 0, .int .u64 0, .int .u64 0, .int .u64 0] _ rfl).drew.step hB; obtain ⟨j0c, j0f, j1c, j1f, j2c, j2f, j3c, j3f⟩ := G0.cf4; have jlt := G0.lt))); clear T0; have T0 := T1; clear T1; clear hB))
         all_goals go_wp2_with fail
         all_goals go_meet
         all_goals have hl := (T0.b 3 rfl).lt
         all_goals have hlC := BC.lt
         all_goals have hlP := BP.lt
         all_goals first | (with_reducible exact ⟨⟨_, rfl, by omega, Blk.new _ _ _ rfl⟩, rfl, T0.alloc _, BC.alloc _, BP.alloc _⟩) | (with_reducible exact ⟨⟨_, rfl, by omega, Blk.stored4g G0 _ _ _ _⟩, rfl, T0.set4g (by simp; omega) _ _ _ _, BC.set4 (by omega), BP.set4 (by omega)⟩)
       case rest =>
         clear T0 BC BP BW SH h7 hPw
         obtain ⟨⟨gQ, hp, hgQ, BQ⟩, ht, T0, BC, BP⟩ := hcut
         subst hp; subst ht
         by_cases hd : told sy = true
         · rw [hd]
           rw [if_pos hd] at hq
           subst hq
           have IP := isPart_det sy hd
           obtain ⟨q0, q1, q2, q3⟩ := BQ.cs4
           go_wp2_with fail
           refine (IP _).mono ?_
           rintro e k4 ⟨rfl, hB⟩
           replace T0 := T0.step hB; replace BC := BC.step hB; replace BP := BP.step hB; replace BQ := BQ.step hB
           clear hB IP q0 q1 q2 q3
           by_cases hs : small sy = true
           · rw [hs]
             obtain ⟨q0, q1, q2, q3⟩ := BQ.cs4
             have m0 := BP.c 4 rfl; have k0 := BP.f 4 rfl; have m1 := BP.c 5 rfl; have k1 := BP.f 5 rfl; have m2 := BP.c 6 rfl; have k2 := BP.f 6 rfl; have m3 := BP.c 7 rfl; have k3 := BP.f 7 rfl
             have hPl := BP.lt
             have BN : Blk ((((k4.setCell ⟨gP, 4, none⟩ (.int .u64 (ww3 sy))).setCell ⟨gP, 5, none⟩ (.int .u64 (ww2 sy))).setCell ⟨gP, 6, none⟩ (.int .u64 (ww1 sy))).setCell ⟨gP, 7, none⟩ (.int .u64 (ww0 sy))) gP [.int .u64 (ww3 sx), .int .u64 (ww2 sx), .int .u64 (ww1 sx), .int .u64 (ww0 sx), .int .u64 (ww3 sy), .int .u64 (ww2 sy), .int .u64 (ww1 sy), .int .u64 (ww0 sy), .int .u64 (ww3 z), .int .u64 (ww2 z), .int .u64 (ww1 z), .int .u64 (ww0 z)] := (((BP.setI 4 (by simp) (.int .u64 (ww3 sy))).setI 5 (by simp) (.int .u64 (ww2 sy))).setI 6 (by simp) (.int .u64 (ww1 sy))).setI 7 (by simp) (.int .u64 (ww0 sy))
             have BD : Blk ((((k4.setCell ⟨gP, 4, none⟩ (.int .u64 (ww3 sy))).setCell ⟨gP, 5, none⟩ (.int .u64 (ww2 sy))).setCell ⟨gP, 6, none⟩ (.int .u64 (ww1 sy))).setCell ⟨gP, 7, none⟩ (.int .u64 (ww0 sy))) gC [.int .u64 (lw0 g), .int .u64 (lw1 g), .int .u64 (lw2 g), .int .u64 (lw3 g), .int .u64 (lw4 g), .int .u64 (lw5 g), .int .u64 (lw6 g), .int .u64 (lw7 g)] := (((BC.setO (p := ⟨gP, 4, none⟩) (by show gC ≠ gP; omega) _).setO (p := ⟨gP, 5, none⟩) (by show gC ≠ gP; omega) _).setO (p := ⟨gP, 6, none⟩) (by show gC ≠ gP; omega) _).setO (p := ⟨gP, 7, none⟩) (by show gC ≠ gP; omega) _
             have TN : ArgsB w ((((k4.setCell ⟨gP, 4, none⟩ (.int .u64 (ww3 sy))).setCell ⟨gP, 5, none⟩ (.int .u64 (ww2 sy))).setCell ⟨gP, 6, none⟩ (.int .u64 (ww1 sy))).setCell ⟨gP, 7, none⟩ (.int .u64 (ww0 sy))) [[.int .u64 (ww3 x), .int .u64 (ww2 x), .int .u64 (ww1 x), .int .u64 (ww0 x)], [.int .u64 (ww3 y), .int .u64 (ww2 y), .int .u64 (ww1 y), .int .u64 (ww0 y)], [.int .u64 (ww3 z), .int .u64 (ww2 z), .int .u64 (ww1 z), .int .u64 (ww0 z)], [.int .u64 0, .int .u64 0, .int .u64 0, .int .u64 0, .int .u64 0, .int .u64 0, .int .u64 0, .int .u64 0, .int .u64 0, .int .u64 0, .int .u64 0, .int .u64 0]] := (((T0.set (p := ⟨gP, 4, none⟩) (by show w.heap.size + 4 ≤ gP; omega) _).set (p := ⟨gP, 5, none⟩) (by show w.heap.size + 4 ≤ gP; omega) _).set (p := ⟨gP, 6, none⟩) (by show w.heap.size + 4 ≤ gP; omega) _).set (p := ⟨gP, 7, none⟩) (by show w.heap.size + 4 ≤ gP; omega) _
             have HS : Hid (small sy = true) := hs
             clear BP BC T0 BQ hs hd
             go_wp2
             go_roundw
             case rel => exact Or.inr (Or.inr (Or.inl ⟨rfl, hs0, HS.out, TN, BD, BN⟩))
             case measure => simp [intOf]
           · replace hs := Bool.eq_false_iff.2 hs
             rw [hs]
             have HO : Hid (pmV x y z = .tuple #[.agg #[.int .u64 0, .int .u64 0, .int .u64 0, .int .u64 0, .int .u64 0, .int .u64 0, .int .u64 0, .int .u64 0, .int .u64 0, .int .u64 0, .int .u64 0, .int .u64 0], .bool false]) := by show _ = _; rw [HV.out]; unfold ptV; rw [hs]; simp
             clear BQ hs hd
             have o0 := (T0.b 3 rfl).c 0 rfl; have u0 := (T0.b 3 rfl).f 0 rfl; have o1 := (T0.b 3 rfl).c 1 rfl; have u1 := (T0.b 3 rfl).f 1 rfl; have o2 := (T0.b 3 rfl).c 2 rfl; have u2 := (T0.b 3 rfl).f 2 rfl; have o3 := (T0.b 3 rfl).c 3 rfl; have u3 := (T0.b 3 rfl).f 3 rfl; have o4 := (T0.b 3 rfl).c 4 rfl; have u4 := (T0.b 3 rfl).f 4 rfl; have o5 := (T0.b 3 rfl).c 5 rfl; have u5 := (T0.b 3 rfl).f 5 rfl; have o6 := (T0.b 3 rfl).c 6 rfl; have u6 := (T0.b 3 rfl).f 6 rfl; have o7 := (T0.b 3 rfl).c 7 rfl; have u7 := (T0.b 3 rfl).f 7 rfl; have o8 := (T0.b 3 rfl).c 8 rfl; have u8 := (T0.b 3 rfl).f 8 rfl; have o9 := (T0.b 3 rfl).c 9 rfl; have u9 := (T0.b 3 rfl).f 9 rfl; have o10 := (T0.b 3 rfl).c 10 rfl; have u10 := (T0.b 3 rfl).f 10 rfl; have o11 := (T0.b 3 rfl).c 11 rfl; have u11 := (T0.b 3 rfl).f 11 rfl; have olt := (T0.b 3 rfl).lt
             have HB := T0.below
             clear T0 BC BP
             go_wp2
             refine bodyPost_ret (v := .tuple #[.agg #[.int .u64 0, .int .u64 0, .int .u64 0, .int .u64 0, .int .u64 0, .int .u64 0, .int .u64 0, .int .u64 0, .int .u64 0, .int .u64 0, .int .u64 0, .int .u64 0], .bool false]) (by simp [results, Tryz.results41, go_sem, o0, o1, o2, o3, o4, o5, o6, o7, o8, o9, o10, o11]) rfl ?_
             refine ⟨by rw [HO.out], ?_⟩
             repeat' (refine Below.setCell ?_ (by simp; try omega) _)
             exact HB
         · replace hd := Bool.eq_false_iff.2 hd
           rw [hd]
           have hs : small sy = false := by
             rw [Bool.eq_false_iff]
             intro h
             rw [told_small h] at hd
             cases hd
           have HO : Hid (pmV x y z = .tuple #[.agg #[.int .u64 0, .int .u64 0, .int .u64 0, .int .u64 0, .int .u64 0, .int .u64 0, .int .u64 0, .int .u64 0, .int .u64 0, .int .u64 0, .int .u64 0, .int .u64 0], .bool false]) := by show _ = _; rw [HV.out]; unfold ptV; rw [hs]; simp
           clear BQ hs hd
           have o0 := (T0.b 3 rfl).c 0 rfl; have u0 := (T0.b 3 rfl).f 0 rfl; have o1 := (T0.b 3 rfl).c 1 rfl; have u1 := (T0.b 3 rfl).f 1 rfl; have o2 := (T0.b 3 rfl).c 2 rfl; have u2 := (T0.b 3 rfl).f 2 rfl; have o3 := (T0.b 3 rfl).c 3 rfl; have u3 := (T0.b 3 rfl).f 3 rfl; have o4 := (T0.b 3 rfl).c 4 rfl; have u4 := (T0.b 3 rfl).f 4 rfl; have o5 := (T0.b 3 rfl).c 5 rfl; have u5 := (T0.b 3 rfl).f 5 rfl; have o6 := (T0.b 3 rfl).c 6 rfl; have u6 := (T0.b 3 rfl).f 6 rfl; have o7 := (T0.b 3 rfl).c 7 rfl; have u7 := (T0.b 3 rfl).f 7 rfl; have o8 := (T0.b 3 rfl).c 8 rfl; have u8 := (T0.b 3 rfl).f 8 rfl; have o9 := (T0.b 3 rfl).c 9 rfl; have u9 := (T0.b 3 rfl).f 9 rfl; have o10 := (T0.b 3 rfl).c 10 rfl; have u10 := (T0.b 3 rfl).f 10 rfl; have o11 := (T0.b 3 rfl).c 11 rfl; have u11 := (T0.b 3 rfl).f 11 rfl; have olt := (T0.b 3 rfl).lt
           have HB := T0.below
           clear T0 BC BP
           go_wp2
           refine bodyPost_ret (v := .tuple #[.agg #[.int .u64 0, .int .u64 0, .int .u64 0, .int .u64 0, .int .u64 0, .int .u64 0, .int .u64 0, .int .u64 0, .int .u64 0, .int .u64 0, .int .u64 0, .int .u64 0], .bool false]) (by simp [results, Tryz.results41, go_sem, o0, o1, o2, o3, o4, o5, o6, o7, o8, o9, o10, o11]) rfl ?_
           refine ⟨by rw [HO.out], ?_⟩
           repeat' (refine Below.setCell ?_ (by simp; try omega) _)
           exact HB
     · have IX := ix3_2 (.int .u64 (ww3 x)) (.int .u64 (ww2 x)) (.int .u64 (ww1 x)) (.int .u64 (ww0 x)) (.int .u64 (ww3 y)) (.int .u64 (ww2 y)) (.int .u64 (ww1 y)) (.int .u64 (ww0 y)) (.int .u64 (ww3 z)) (.int .u64 (ww2 z)) (.int .u64 (ww1 z)) (.int .u64 (ww0 z))
       obtain ⟨q, hq⟩ : ∃ q : Int, (if told sz = true then sz else 0) = q := ⟨_, rfl⟩
       have TV : tellV sz = .tuple #[W4 q, .bool (told sz)] := by
         rw [← hq]
         unfold tellV
         by_cases hd : told sz = true
         · rw [if_pos hd, if_pos hd, hd]
         · rw [if_neg hd, if_neg hd, Bool.eq_false_iff.2 hd]
       have SH := S2
       rw [TV] at SH
       clear TV
       go_upto_region 8 with fail
       clear IX
       have BW := Blk.new wr [.int .u64 (ww3 z), .int .u64 (ww2 z), .int .u64 (ww1 z), .int .u64 (ww0 z)] 32 rfl
       replace T0 := T0.alloc (.cells #[.int .u64 (ww3 z), .int .u64 (ww2 z), .int .u64 (ww1 z), .int .u64 (ww0 z)] 32); replace BC := BC.alloc (.cells #[.int .u64 (ww3 z), .int .u64 (ww2 z), .int .u64 (ww1 z), .int .u64 (ww0 z)] 32); 
       have hPw := BP.lt
       replace BP := BP.alloc (.cells #[.int .u64 (ww3 z), .int .u64 (ww2 z), .int .u64 (ww1 z), .int .u64 (ww0 z)] 32)
       generalize wr.alloc (.cells #[.int .u64 (ww3 z), .int .u64 (ww2 z), .int .u64 (ww1 z), .int .u64 (ww0 z)] 32) = W7 at *
       generalize wr.heap.size = gW at *
       have h7 := (T0.b 3 rfl).lt
       go_cut [12, 13] (fun p t wx => (∃ g', p = .pointer (some ⟨g', 0, none⟩) ∧ gP + 1 ≤ g' ∧ Blk wx g' [.int .u64 (ww3 q), .int .u64 (ww2 q), .int .u64 (ww1 q), .int .u64 (ww0 q)]) ∧ t = .bool (told sz) ∧ ArgsB w wx [[.int .u64 (ww3 x), .int .u64 (ww2 x), .int .u64 (ww1 x), .int .u64 (ww0 x)], [.int .u64 (ww3 y), .int .u64 (ww2 y), .int .u64 (ww1 y), .int .u64 (ww0 y)], [.int .u64 (ww3 z), .int .u64 (ww2 z), .int .u64 (ww1 z), .int .u64 (ww0 z)], [.int .u64 0, .int .u64 0, .int .u64 0, .int .u64 0, .int .u64 0, .int .u64 0, .int .u64 0, .int .u64 0, .int .u64 0, .int .u64 0, .int .u64 0, .int .u64 0]] ∧ Blk wx gC [.int .u64 (lw0 g), .int .u64 (lw1 g), .int .u64 (lw2 g), .int .u64 (lw3 g), .int .u64 (lw4 g), .int .u64 (lw5 g), .int .u64 (lw6 g), .int .u64 (lw7 g)] ∧ Blk wx gP [.int .u64 (ww3 sx), .int .u64 (ww2 sx), .int .u64 (ww1 sx), .int .u64 (ww0 sx), .int .u64 (ww3 sy), .int .u64 (ww2 sy), .int .u64 (ww1 sy), .int .u64 (ww0 sy), .int .u64 (ww3 z), .int .u64 (ww2 z), .int .u64 (ww1 z), .int .u64 (ww0 z)])
       case first =>
         go_region_held3 (fun w' => w'.cell? ⟨gW, 0, none⟩ = some (.int .u64 (ww3 z)) ∧ w'.cell? ⟨gW, 1, none⟩ = some (.int .u64 (ww2 z)) ∧ w'.cell? ⟨gW, 2, none⟩ = some (.int .u64 (ww1 z)) ∧ w'.cell? ⟨gW, 3, none⟩ = some (.int .u64 (ww0 z)) ∧ w'.cell? ⟨gC, 0, none⟩ = some (.int .u64 (lw0 g)) ∧ w'.cell? ⟨gC, 1, none⟩ = some (.int .u64 (lw1 g)) ∧ w'.cell? ⟨gC, 2, none⟩ = some (.int .u64 (lw2 g)) ∧ w'.cell? ⟨gC, 3, none⟩ = some (.int .u64 (lw3 g)) ∧ w'.cell? ⟨gC, 4, none⟩ = some (.int .u64 (lw4 g)) ∧ w'.cell? ⟨gC, 5, none⟩ = some (.int .u64 (lw5 g)) ∧ w'.cell? ⟨gC, 6, none⟩ = some (.int .u64 (lw6 g)) ∧ w'.cell? ⟨gC, 7, none⟩ = some (.int .u64 (lw7 g)) ∧ w'.cell? ⟨w.heap.size + 2, 0, none⟩ = some (.int .u64 (ww3 z)) ∧ w'.cell? ⟨w.heap.size + 2, 1, none⟩ = some (.int .u64 (ww2 z)) ∧ w'.cell? ⟨w.heap.size + 2, 2, none⟩ = some (.int .u64 (ww1 z)) ∧ w'.cell? ⟨w.heap.size + 2, 3, none⟩ = some (.int .u64 (ww0 z))) ((refine pw_cells (x := x) (y := y) ?_ ?_ ?_ <;> repeat (first | (with_reducible exact T0) | (with_reducible exact BC) | (with_reducible exact BW) | (with_reducible refine ArgsB.drew ?_) | (with_reducible refine ArgsB.alloc ?_ _) | (with_reducible refine ArgsB.set4g ?_ (by simp; omega) _ _ _ _) | (with_reducible refine Blk.drew ?_) | (with_reducible refine Blk.alloc ?_ _) | (with_reducible refine Blk.set4 ?_ (by omega)))))
           (first
             | (go_at_call 58; refine (L2 _).mono ?_; rintro e k1 ⟨rfl, hB⟩; (first | (have T1 : ArgsB w k1 [[.int .u64 (ww3 x), .int .u64 (ww2 x), .int .u64 (ww1 x), .int .u64 (ww0 x)], [.int .u64 (ww3 y), .int .u64 (ww2 y), .int .u64 (ww1 y), .int .u64 (ww0 y)], [.int .u64 (ww3 z), .int .u64 (ww2 z), .int .u64 (ww1 z), .int .u64 (ww0 z)], [.int .u64 0, .int .u64 0, .int .u64 0, .int .u64 0, .int .u64 0, .int .u64 0, .int .u64 0, .int .u64 0, .int .u64 0, .int .u64 0, .int .u64 0, .int .u64 0]] := (by with_reducible exact T0.step hB); have tltk1 := (T0.b 3 rfl).lt; have lBCk1 := BC.lt; replace BC := BC.step hB; have lBPk1 := BP.lt; replace BP := BP.step hB; have lBWk1 := BW.lt; replace BW := BW.step hB; (try (replace G0 := G0.step hB; obtain ⟨j0c, j0f, j1c, j1f, j2c, j2f, j3c, j3f⟩ := G0.cf4; have jlt := G0.lt))) | (have T1 : ArgsB w k1 [[.int .u64 (ww3 x), .int .u64 (ww2 x), .int .u64 (ww1 x), .int .u64 (ww0 x)], [.int .u64 (ww3 y), .int .u64 (ww2 y), .int .u64 (ww1 y), .int .u64 (ww0 y)], [.int .u64 (ww3 z), .int .u64 (ww2 z), .int .u64 (ww1 z), .int .u64 (ww0 z)], [.int .u64 0, .int .u64 0, .int .u64 0, .int .u64 0, .int .u64 0, .int .u64 0, .int .u64 0, .int .u64 0, .int .u64 0, .int .u64 0, .int .u64 0, .int .u64 0]] := (by with_reducible exact T0.drew.step hB); have tltk1 := (T0.b 3 rfl).lt; have lBCk1 := BC.lt; replace BC := BC.drew.step hB; have lBPk1 := BP.lt; replace BP := BP.drew.step hB; have lBWk1 := BW.lt; replace BW := BW.drew.step hB; (try (replace G0 := G0.drew.step hB; obtain ⟨j0c, j0f, j1c, j1f, j2c, j2f, j3c, j3f⟩ := G0.cf4; have jlt := G0.lt))) | (have T1 : ArgsB w k1 [[.int .u64 (ww3 x), .int .u64 (ww2 x), .int .u64 (ww1 x), .int .u64 (ww0 x)], [.int .u64 (ww3 y), .int .u64 (ww2 y), .int .u64 (ww1 y), .int .u64 (ww0 y)], [.int .u64 (ww3 z), .int .u64 (ww2 z), .int .u64 (ww1 z), .int .u64 (ww0 z)], [.int .u64 0, .int .u64 0, .int .u64 0, .int .u64 0, .int .u64 0, .int .u64 0, .int .u64 0, .int .u64 0, .int .u64 0, .int .u64 0, .int .u64 0, .int .u64 0]] := (by with_reducible exact (T0.alloc _).step hB); have tltk1 := (T0.b 3 rfl).lt; have lBCk1 := BC.lt; replace BC := (BC.alloc _).step hB; have lBPk1 := BP.lt; replace BP := (BP.alloc _).step hB; have lBWk1 := BW.lt; replace BW := (BW.alloc _).step hB; (have G0 := (Blk.new _ [.int .u64 0, .int .u64 0, .int .u64 0, .int .u64 0] _ rfl).step hB; obtain ⟨j0c, j0f, j1c, j1f, j2c, j2f, j3c, j3f⟩ := G0.cf4; have jlt := G0.lt)) | (have T1 : ArgsB w k1 [[.int .u64 (ww3 x), .int .u64 (ww2 x), .int .u64 (ww1 x), .int .u64 (ww0 x)], [.int .u64 (ww3 y), .int .u64 (ww2 y), .int .u64 (ww1 y), .int .u64 (ww0 y)], [.int .u64 (ww3 z), .int .u64 (ww2 z), .int .u64 (ww1 z), .int .u64 (ww0 z)], [.int .u64 0, .int .u64 0, .int .u64 0, .int .u64 0, .int .u64 0, .int .u64 0, .int .u64 0, .int .u64 0, .int .u64 0, .int .u64 0, .int .u64 0, .int .u64 0]] := (by with_reducible exact (T0.alloc _).drew.step hB); have tltk1 := (T0.b 3 rfl).lt; have lBCk1 := BC.lt; replace BC := (BC.alloc _).drew.step hB; have lBPk1 := BP.lt; replace BP := (BP.alloc _).drew.step hB; have lBWk1 := BW.lt; replace BW := (BW.alloc _).drew.step hB; (have G0 := (Blk.new _ [.int .u64 0, .int .u64 0, .int .u64 0, .int .u64 0] _ rfl).drew.step hB; obtain ⟨j0c, j0f, j1c, j1f, j2c, j2f, j3c, j3f⟩ := G0.cf4; have jlt := G0.lt))); clear T0; have T0 := T1; clear T1; clear hB)
             | (go_at_call 47; refine (IB _).mono ?_; rintro e k2 ⟨rfl, hB⟩; (first | (have T1 : ArgsB w k2 [[.int .u64 (ww3 x), .int .u64 (ww2 x), .int .u64 (ww1 x), .int .u64 (ww0 x)], [.int .u64 (ww3 y), .int .u64 (ww2 y), .int .u64 (ww1 y), .int .u64 (ww0 y)], [.int .u64 (ww3 z), .int .u64 (ww2 z), .int .u64 (ww1 z), .int .u64 (ww0 z)], [.int .u64 0, .int .u64 0, .int .u64 0, .int .u64 0, .int .u64 0, .int .u64 0, .int .u64 0, .int .u64 0, .int .u64 0, .int .u64 0, .int .u64 0, .int .u64 0]] := (by with_reducible exact T0.step hB); have tltk2 := (T0.b 3 rfl).lt; have lBCk2 := BC.lt; replace BC := BC.step hB; have lBPk2 := BP.lt; replace BP := BP.step hB; have lBWk2 := BW.lt; replace BW := BW.step hB; (try (replace G0 := G0.step hB; obtain ⟨j0c, j0f, j1c, j1f, j2c, j2f, j3c, j3f⟩ := G0.cf4; have jlt := G0.lt))) | (have T1 : ArgsB w k2 [[.int .u64 (ww3 x), .int .u64 (ww2 x), .int .u64 (ww1 x), .int .u64 (ww0 x)], [.int .u64 (ww3 y), .int .u64 (ww2 y), .int .u64 (ww1 y), .int .u64 (ww0 y)], [.int .u64 (ww3 z), .int .u64 (ww2 z), .int .u64 (ww1 z), .int .u64 (ww0 z)], [.int .u64 0, .int .u64 0, .int .u64 0, .int .u64 0, .int .u64 0, .int .u64 0, .int .u64 0, .int .u64 0, .int .u64 0, .int .u64 0, .int .u64 0, .int .u64 0]] := (by with_reducible exact T0.drew.step hB); have tltk2 := (T0.b 3 rfl).lt; have lBCk2 := BC.lt; replace BC := BC.drew.step hB; have lBPk2 := BP.lt; replace BP := BP.drew.step hB; have lBWk2 := BW.lt; replace BW := BW.drew.step hB; (try (replace G0 := G0.drew.step hB; obtain ⟨j0c, j0f, j1c, j1f, j2c, j2f, j3c, j3f⟩ := G0.cf4; have jlt := G0.lt))) | (have T1 : ArgsB w k2 [[.int .u64 (ww3 x), .int .u64 (ww2 x), .int .u64 (ww1 x), .int .u64 (ww0 x)], [.int .u64 (ww3 y), .int .u64 (ww2 y), .int .u64 (ww1 y), .int .u64 (ww0 y)], [.int .u64 (ww3 z), .int .u64 (ww2 z), .int .u64 (ww1 z), .int .u64 (ww0 z)], [.int .u64 0, .int .u64 0, .int .u64 0, .int .u64 0, .int .u64 0, .int .u64 0, .int .u64 0, .int .u64 0, .int .u64 0, .int .u64 0, .int .u64 0, .int .u64 0]] := (by with_reducible exact (T0.alloc _).step hB); have tltk2 := (T0.b 3 rfl).lt; have lBCk2 := BC.lt; replace BC := (BC.alloc _).step hB; have lBPk2 := BP.lt; replace BP := (BP.alloc _).step hB; have lBWk2 := BW.lt; replace BW := (BW.alloc _).step hB; (have G0 := (Blk.new _ [.int .u64 0, .int .u64 0, .int .u64 0, .int .u64 0] _ rfl).step hB; obtain ⟨j0c, j0f, j1c, j1f, j2c, j2f, j3c, j3f⟩ := G0.cf4; have jlt := G0.lt)) | (have T1 : ArgsB w k2 [[.int .u64 (ww3 x), .int .u64 (ww2 x), .int .u64 (ww1 x), .int .u64 (ww0 x)], [.int .u64 (ww3 y), .int .u64 (ww2 y), .int .u64 (ww1 y), .int .u64 (ww0 y)], [.int .u64 (ww3 z), .int .u64 (ww2 z), .int .u64 (ww1 z), .int .u64 (ww0 z)], [.int .u64 0, .int .u64 0, .int .u64 0, .int .u64 0, .int .u64 0, .int .u64 0, .int .u64 0, .int .u64 0, .int .u64 0, .int .u64 0, .int .u64 0, .int .u64 0]] := (by with_reducible exact (T0.alloc _).drew.step hB); have tltk2 := (T0.b 3 rfl).lt; have lBCk2 := BC.lt; replace BC := (BC.alloc _).drew.step hB; have lBPk2 := BP.lt; replace BP := (BP.alloc _).drew.step hB; have lBWk2 := BW.lt; replace BW := (BW.alloc _).drew.step hB; (have G0 := (Blk.new _ [.int .u64 0, .int .u64 0, .int .u64 0, .int .u64 0] _ rfl).drew.step hB; obtain ⟨j0c, j0f, j1c, j1f, j2c, j2f, j3c, j3f⟩ := G0.cf4; have jlt := G0.lt))); clear T0; have T0 := T1; clear T1; clear hB)
             | (go_at_call 72; refine (SH _).mono ?_; rintro e k3 ⟨rfl, hB⟩; (first | (have T1 : ArgsB w k3 [[.int .u64 (ww3 x), .int .u64 (ww2 x), .int .u64 (ww1 x), .int .u64 (ww0 x)], [.int .u64 (ww3 y), .int .u64 (ww2 y), .int .u64 (ww1 y), .int .u64 (ww0 y)], [.int .u64 (ww3 z), .int .u64 (ww2 z), .int .u64 (ww1 z), .int .u64 (ww0 z)], [.int .u64 0, .int .u64 0, .int .u64 0, .int .u64 0, .int .u64 0, .int .u64 0, .int .u64 0, .int .u64 0, .int .u64 0, .int .u64 0, .int .u64 0, .int .u64 0]] := (by with_reducible exact T0.step hB); have tltk3 := (T0.b 3 rfl).lt; have lBCk3 := BC.lt; replace BC := BC.step hB; have lBPk3 := BP.lt; replace BP := BP.step hB; have lBWk3 := BW.lt; replace BW := BW.step hB; (try (replace G0 := G0.step hB; obtain ⟨j0c, j0f, j1c, j1f, j2c, j2f, j3c, j3f⟩ := G0.cf4; have jlt := G0.lt))) | (have T1 : ArgsB w k3 [[.int .u64 (ww3 x), .int .u64 (ww2 x), .int .u64 (ww1 x), .int .u64 (ww0 x)], [.int .u64 (ww3 y), .int .u64 (ww2 y), .int .u64 (ww1 y), .int .u64 (ww0 y)], [.int .u64 (ww3 z), .int .u64 (ww2 z), .int .u64 (ww1 z), .int .u64 (ww0 z)], [.int .u64 0, .int .u64 0, .int .u64 0, .int .u64 0, .int .u64 0, .int .u64 0, .int .u64 0, .int .u64 0, .int .u64 0, .int .u64 0, .int .u64 0, .int .u64 0]] := (by with_reducible exact T0.drew.step hB); have tltk3 := (T0.b 3 rfl).lt; have lBCk3 := BC.lt; replace BC := BC.drew.step hB; have lBPk3 := BP.lt; replace BP := BP.drew.step hB; have lBWk3 := BW.lt; replace BW := BW.drew.step hB; (try (replace G0 := G0.drew.step hB; obtain ⟨j0c, j0f, j1c, j1f, j2c, j2f, j3c, j3f⟩ := G0.cf4; have jlt := G0.lt))) | (have T1 : ArgsB w k3 [[.int .u64 (ww3 x), .int .u64 (ww2 x), .int .u64 (ww1 x), .int .u64 (ww0 x)], [.int .u64 (ww3 y), .int .u64 (ww2 y), .int .u64 (ww1 y), .int .u64 (ww0 y)], [.int .u64 (ww3 z), .int .u64 (ww2 z), .int .u64 (ww1 z), .int .u64 (ww0 z)], [.int .u64 0, .int .u64 0, .int .u64 0, .int .u64 0, .int .u64 0, .int .u64 0, .int .u64 0, .int .u64 0, .int .u64 0, .int .u64 0, .int .u64 0, .int .u64 0]] := (by with_reducible exact (T0.alloc _).step hB); have tltk3 := (T0.b 3 rfl).lt; have lBCk3 := BC.lt; replace BC := (BC.alloc _).step hB; have lBPk3 := BP.lt; replace BP := (BP.alloc _).step hB; have lBWk3 := BW.lt; replace BW := (BW.alloc _).step hB; (have G0 := (Blk.new _ [.int .u64 0, .int .u64 0, .int .u64 0, .int .u64 0] _ rfl).step hB; obtain ⟨j0c, j0f, j1c, j1f, j2c, j2f, j3c, j3f⟩ := G0.cf4; have jlt := G0.lt)) | (have T1 : ArgsB w k3 [[.int .u64 (ww3 x), .int .u64 (ww2 x), .int .u64 (ww1 x), .int .u64 (ww0 x)], [.int .u64 (ww3 y), .int .u64 (ww2 y), .int .u64 (ww1 y), .int .u64 (ww0 y)], [.int .u64 (ww3 z), .int .u64 (ww2 z), .int .u64 (ww1 z), .int .u64 (ww0 z)], [.int .u64 0, .int .u64 0, .int .u64 0, .int .u64 0, .int .u64 0, .int .u64 0, .int .u64 0, .int .u64 0, .int .u64 0, .int .u64 0, .int .u64 0, .int .u64 0]] := (by with_reducible exact (T0.alloc _).drew.step hB); have tltk3 := (T0.b 3 rfl).lt; have lBCk3 := BC.lt; replace BC := (BC.alloc _).drew.step hB; have lBPk3 := BP.lt; replace BP := (BP.alloc _).drew.step hB; have lBWk3 := BW.lt; replace BW := (BW.alloc _).drew.step hB; (have G0 := (Blk.new _ [.int .u64 0, .int .u64 0, .int .u64 0, .int .u64 0] _ rfl).drew.step hB; obtain ⟨j0c, j0f, j1c, j1f, j2c, j2f, j3c, j3f⟩ := G0.cf4; have jlt := G0.lt))); clear T0; have T0 := T1; clear T1; clear hB))
         all_goals go_wp2_with fail
         all_goals go_meet
         all_goals have hl := (T0.b 3 rfl).lt
         all_goals have hlC := BC.lt
         all_goals have hlP := BP.lt
         all_goals first | (with_reducible exact ⟨⟨_, rfl, by omega, Blk.new _ _ _ rfl⟩, rfl, T0.alloc _, BC.alloc _, BP.alloc _⟩) | (with_reducible exact ⟨⟨_, rfl, by omega, Blk.stored4g G0 _ _ _ _⟩, rfl, T0.set4g (by simp; omega) _ _ _ _, BC.set4 (by omega), BP.set4 (by omega)⟩)
       case rest =>
         clear T0 BC BP BW SH h7 hPw
         obtain ⟨⟨gQ, hp, hgQ, BQ⟩, ht, T0, BC, BP⟩ := hcut
         subst hp; subst ht
         by_cases hd : told sz = true
         · rw [hd]
           rw [if_pos hd] at hq
           subst hq
           have IP := isPart_det sz hd
           obtain ⟨q0, q1, q2, q3⟩ := BQ.cs4
           go_wp2_with fail
           refine (IP _).mono ?_
           rintro e k4 ⟨rfl, hB⟩
           replace T0 := T0.step hB; replace BC := BC.step hB; replace BP := BP.step hB; replace BQ := BQ.step hB
           clear hB IP q0 q1 q2 q3
           by_cases hs : small sz = true
           · rw [hs]
             obtain ⟨q0, q1, q2, q3⟩ := BQ.cs4
             have m0 := BP.c 8 rfl; have k0 := BP.f 8 rfl; have m1 := BP.c 9 rfl; have k1 := BP.f 9 rfl; have m2 := BP.c 10 rfl; have k2 := BP.f 10 rfl; have m3 := BP.c 11 rfl; have k3 := BP.f 11 rfl
             have hPl := BP.lt
             have BN : Blk ((((k4.setCell ⟨gP, 8, none⟩ (.int .u64 (ww3 sz))).setCell ⟨gP, 9, none⟩ (.int .u64 (ww2 sz))).setCell ⟨gP, 10, none⟩ (.int .u64 (ww1 sz))).setCell ⟨gP, 11, none⟩ (.int .u64 (ww0 sz))) gP [.int .u64 (ww3 sx), .int .u64 (ww2 sx), .int .u64 (ww1 sx), .int .u64 (ww0 sx), .int .u64 (ww3 sy), .int .u64 (ww2 sy), .int .u64 (ww1 sy), .int .u64 (ww0 sy), .int .u64 (ww3 sz), .int .u64 (ww2 sz), .int .u64 (ww1 sz), .int .u64 (ww0 sz)] := (((BP.setI 8 (by simp) (.int .u64 (ww3 sz))).setI 9 (by simp) (.int .u64 (ww2 sz))).setI 10 (by simp) (.int .u64 (ww1 sz))).setI 11 (by simp) (.int .u64 (ww0 sz))
             have BD : Blk ((((k4.setCell ⟨gP, 8, none⟩ (.int .u64 (ww3 sz))).setCell ⟨gP, 9, none⟩ (.int .u64 (ww2 sz))).setCell ⟨gP, 10, none⟩ (.int .u64 (ww1 sz))).setCell ⟨gP, 11, none⟩ (.int .u64 (ww0 sz))) gC [.int .u64 (lw0 g), .int .u64 (lw1 g), .int .u64 (lw2 g), .int .u64 (lw3 g), .int .u64 (lw4 g), .int .u64 (lw5 g), .int .u64 (lw6 g), .int .u64 (lw7 g)] := (((BC.setO (p := ⟨gP, 8, none⟩) (by show gC ≠ gP; omega) _).setO (p := ⟨gP, 9, none⟩) (by show gC ≠ gP; omega) _).setO (p := ⟨gP, 10, none⟩) (by show gC ≠ gP; omega) _).setO (p := ⟨gP, 11, none⟩) (by show gC ≠ gP; omega) _
             have TN : ArgsB w ((((k4.setCell ⟨gP, 8, none⟩ (.int .u64 (ww3 sz))).setCell ⟨gP, 9, none⟩ (.int .u64 (ww2 sz))).setCell ⟨gP, 10, none⟩ (.int .u64 (ww1 sz))).setCell ⟨gP, 11, none⟩ (.int .u64 (ww0 sz))) [[.int .u64 (ww3 x), .int .u64 (ww2 x), .int .u64 (ww1 x), .int .u64 (ww0 x)], [.int .u64 (ww3 y), .int .u64 (ww2 y), .int .u64 (ww1 y), .int .u64 (ww0 y)], [.int .u64 (ww3 z), .int .u64 (ww2 z), .int .u64 (ww1 z), .int .u64 (ww0 z)], [.int .u64 0, .int .u64 0, .int .u64 0, .int .u64 0, .int .u64 0, .int .u64 0, .int .u64 0, .int .u64 0, .int .u64 0, .int .u64 0, .int .u64 0, .int .u64 0]] := (((T0.set (p := ⟨gP, 8, none⟩) (by show w.heap.size + 4 ≤ gP; omega) _).set (p := ⟨gP, 9, none⟩) (by show w.heap.size + 4 ≤ gP; omega) _).set (p := ⟨gP, 10, none⟩) (by show w.heap.size + 4 ≤ gP; omega) _).set (p := ⟨gP, 11, none⟩) (by show w.heap.size + 4 ≤ gP; omega) _
             have HS : Hid (small sz = true) := hs
             clear BP BC T0 BQ hs hd
             go_wp2
             go_roundw
             case rel => exact Or.inr (Or.inr (Or.inr (⟨rfl, hs0, hs1, HS.out, TN, BD, BN⟩)))
             case measure => simp [intOf]
           · replace hs := Bool.eq_false_iff.2 hs
             rw [hs]
             have HO : Hid (pmV x y z = .tuple #[.agg #[.int .u64 0, .int .u64 0, .int .u64 0, .int .u64 0, .int .u64 0, .int .u64 0, .int .u64 0, .int .u64 0, .int .u64 0, .int .u64 0, .int .u64 0, .int .u64 0], .bool false]) := by show _ = _; rw [HV.out]; unfold ptV; rw [hs]; simp
             clear BQ hs hd
             have o0 := (T0.b 3 rfl).c 0 rfl; have u0 := (T0.b 3 rfl).f 0 rfl; have o1 := (T0.b 3 rfl).c 1 rfl; have u1 := (T0.b 3 rfl).f 1 rfl; have o2 := (T0.b 3 rfl).c 2 rfl; have u2 := (T0.b 3 rfl).f 2 rfl; have o3 := (T0.b 3 rfl).c 3 rfl; have u3 := (T0.b 3 rfl).f 3 rfl; have o4 := (T0.b 3 rfl).c 4 rfl; have u4 := (T0.b 3 rfl).f 4 rfl; have o5 := (T0.b 3 rfl).c 5 rfl; have u5 := (T0.b 3 rfl).f 5 rfl; have o6 := (T0.b 3 rfl).c 6 rfl; have u6 := (T0.b 3 rfl).f 6 rfl; have o7 := (T0.b 3 rfl).c 7 rfl; have u7 := (T0.b 3 rfl).f 7 rfl; have o8 := (T0.b 3 rfl).c 8 rfl; have u8 := (T0.b 3 rfl).f 8 rfl; have o9 := (T0.b 3 rfl).c 9 rfl; have u9 := (T0.b 3 rfl).f 9 rfl; have o10 := (T0.b 3 rfl).c 10 rfl; have u10 := (T0.b 3 rfl).f 10 rfl; have o11 := (T0.b 3 rfl).c 11 rfl; have u11 := (T0.b 3 rfl).f 11 rfl; have olt := (T0.b 3 rfl).lt
             have HB := T0.below
             clear T0 BC BP
             go_wp2
             refine bodyPost_ret (v := .tuple #[.agg #[.int .u64 0, .int .u64 0, .int .u64 0, .int .u64 0, .int .u64 0, .int .u64 0, .int .u64 0, .int .u64 0, .int .u64 0, .int .u64 0, .int .u64 0, .int .u64 0], .bool false]) (by simp [results, Tryz.results41, go_sem, o0, o1, o2, o3, o4, o5, o6, o7, o8, o9, o10, o11]) rfl ?_
             refine ⟨by rw [HO.out], ?_⟩
             repeat' (refine Below.setCell ?_ (by simp; try omega) _)
             exact HB
         · replace hd := Bool.eq_false_iff.2 hd
           rw [hd]
           have hs : small sz = false := by
             rw [Bool.eq_false_iff]
             intro h
             rw [told_small h] at hd
             cases hd
           have HO : Hid (pmV x y z = .tuple #[.agg #[.int .u64 0, .int .u64 0, .int .u64 0, .int .u64 0, .int .u64 0, .int .u64 0, .int .u64 0, .int .u64 0, .int .u64 0, .int .u64 0, .int .u64 0, .int .u64 0], .bool false]) := by show _ = _; rw [HV.out]; unfold ptV; rw [hs]; simp
           clear BQ hs hd
           have o0 := (T0.b 3 rfl).c 0 rfl; have u0 := (T0.b 3 rfl).f 0 rfl; have o1 := (T0.b 3 rfl).c 1 rfl; have u1 := (T0.b 3 rfl).f 1 rfl; have o2 := (T0.b 3 rfl).c 2 rfl; have u2 := (T0.b 3 rfl).f 2 rfl; have o3 := (T0.b 3 rfl).c 3 rfl; have u3 := (T0.b 3 rfl).f 3 rfl; have o4 := (T0.b 3 rfl).c 4 rfl; have u4 := (T0.b 3 rfl).f 4 rfl; have o5 := (T0.b 3 rfl).c 5 rfl; have u5 := (T0.b 3 rfl).f 5 rfl; have o6 := (T0.b 3 rfl).c 6 rfl; have u6 := (T0.b 3 rfl).f 6 rfl; have o7 := (T0.b 3 rfl).c 7 rfl; have u7 := (T0.b 3 rfl).f 7 rfl; have o8 := (T0.b 3 rfl).c 8 rfl; have u8 := (T0.b 3 rfl).f 8 rfl; have o9 := (T0.b 3 rfl).c 9 rfl; have u9 := (T0.b 3 rfl).f 9 rfl; have o10 := (T0.b 3 rfl).c 10 rfl; have u10 := (T0.b 3 rfl).f 10 rfl; have o11 := (T0.b 3 rfl).c 11 rfl; have u11 := (T0.b 3 rfl).f 11 rfl; have olt := (T0.b 3 rfl).lt
           have HB := T0.below
           clear T0 BC BP
           go_wp2
           refine bodyPost_ret (v := .tuple #[.agg #[.int .u64 0, .int .u64 0, .int .u64 0, .int .u64 0, .int .u64 0, .int .u64 0, .int .u64 0, .int .u64 0, .int .u64 0, .int .u64 0, .int .u64 0, .int .u64 0], .bool false]) (by simp [results, Tryz.results41, go_sem, o0, o1, o2, o3, o4, o5, o6, o7, o8, o9, o10, o11]) rfl ?_
           refine ⟨by rw [HO.out], ?_⟩
           repeat' (refine Below.setCell ?_ (by simp; try omega) _)
           exact HB
     · have HO : Hid (pmV x y z = .tuple #[PV sx sy sz, .bool true]) := by show _ = _; rw [HV.out]; unfold ptV; rw [hs0, hs1, hs2]; rfl
       obtain ⟨m0, m1, m2, m3, m4, m5, m6, m7, m8, m9, m10, m11⟩ := BP.cs12
       have o0 := (T0.b 3 rfl).c 0 rfl; have u0 := (T0.b 3 rfl).f 0 rfl; have o1 := (T0.b 3 rfl).c 1 rfl; have u1 := (T0.b 3 rfl).f 1 rfl; have o2 := (T0.b 3 rfl).c 2 rfl; have u2 := (T0.b 3 rfl).f 2 rfl; have o3 := (T0.b 3 rfl).c 3 rfl; have u3 := (T0.b 3 rfl).f 3 rfl; have o4 := (T0.b 3 rfl).c 4 rfl; have u4 := (T0.b 3 rfl).f 4 rfl; have o5 := (T0.b 3 rfl).c 5 rfl; have u5 := (T0.b 3 rfl).f 5 rfl; have o6 := (T0.b 3 rfl).c 6 rfl; have u6 := (T0.b 3 rfl).f 6 rfl; have o7 := (T0.b 3 rfl).c 7 rfl; have u7 := (T0.b 3 rfl).f 7 rfl; have o8 := (T0.b 3 rfl).c 8 rfl; have u8 := (T0.b 3 rfl).f 8 rfl; have o9 := (T0.b 3 rfl).c 9 rfl; have u9 := (T0.b 3 rfl).f 9 rfl; have o10 := (T0.b 3 rfl).c 10 rfl; have u10 := (T0.b 3 rfl).f 10 rfl; have o11 := (T0.b 3 rfl).c 11 rfl; have u11 := (T0.b 3 rfl).f 11 rfl; have olt := (T0.b 3 rfl).lt
       have HB := T0.below
       clear T0 BC BP
       go_wp2
       refine bodyPost_ret (v := .tuple #[PV sx sy sz, .bool true]) (by simp [results, Tryz.results41, go_sem, o0, o1, o2, o3, o4, o5, o6, o7, o8, o9, o10, o11]) rfl ?_
       refine ⟨by rw [HO.out], ?_⟩
       repeat' (refine Below.setCell ?_ (by simp; try omega) _)
       exact HB
def midV (x y z u v t : Int) : Value := if ptB x y z && ptB u v t then pmV (x * t + u * z) (y * t + v * z) (2 * (z * t)) else .tuple #[.agg #[.int .u64 0, .int .u64 0, .int .u64 0, .int .u64 0, .int .u64 0, .int .u64 0, .int .u64 0, .int .u64 0, .int .u64 0, .int .u64 0, .int .u64 0, .int .u64 0], .bool false]
theorem implMiddle_det (x y z u v t : Int) (hx : told x = true) (hy : told y = true) (hz : told z = true) (hu : told u = true) (hv : told v = true) (ht : told t = true) (w : World) : Calls Tryz.prog 12 #[PV x y z, PV u v t] w (VP (midV x y z u v t) w) := by
 have T0 : ArgsB w (((w.alloc (.cells #[.int .u64 (ww3 x), .int .u64 (ww2 x), .int .u64 (ww1 x), .int .u64 (ww0 x), .int .u64 (ww3 y), .int .u64 (ww2 y), .int .u64 (ww1 y), .int .u64 (ww0 y), .int .u64 (ww3 z), .int .u64 (ww2 z), .int .u64 (ww1 z), .int .u64 (ww0 z)] 40)).alloc (.cells #[.int .u64 (ww3 u), .int .u64 (ww2 u), .int .u64 (ww1 u), .int .u64 (ww0 u), .int .u64 (ww3 v), .int .u64 (ww2 v), .int .u64 (ww1 v), .int .u64 (ww0 v), .int .u64 (ww3 t), .int .u64 (ww2 t), .int .u64 (ww1 t), .int .u64 (ww0 t)] 40)).alloc (.cells #[.int .u64 0, .int .u64 0, .int .u64 0, .int .u64 0, .int .u64 0, .int .u64 0, .int .u64 0, .int .u64 0, .int .u64 0, .int .u64 0, .int .u64 0, .int .u64 0] 40)) [[.int .u64 (ww3 x), .int .u64 (ww2 x), .int .u64 (ww1 x), .int .u64 (ww0 x), .int .u64 (ww3 y), .int .u64 (ww2 y), .int .u64 (ww1 y), .int .u64 (ww0 y), .int .u64 (ww3 z), .int .u64 (ww2 z), .int .u64 (ww1 z), .int .u64 (ww0 z)], [.int .u64 (ww3 u), .int .u64 (ww2 u), .int .u64 (ww1 u), .int .u64 (ww0 u), .int .u64 (ww3 v), .int .u64 (ww2 v), .int .u64 (ww1 v), .int .u64 (ww0 v), .int .u64 (ww3 t), .int .u64 (ww2 t), .int .u64 (ww1 t), .int .u64 (ww0 t)], [.int .u64 0, .int .u64 0, .int .u64 0, .int .u64 0, .int .u64 0, .int .u64 0, .int .u64 0, .int .u64 0, .int .u64 0, .int .u64 0, .int .u64 0, .int .u64 0]] := ar3 _ _ _ _ _ _ w
 have R1 := pright_det x y z hx hy hz
 have R2 := pright_det u v t hu hv ht
 clear hx hy hz hu hv ht
 go_enter Tryz.func12, Tryz.ntmps12
 go_wp2_with fail
 generalize (((w.alloc (.cells #[.int .u64 (ww3 x), .int .u64 (ww2 x), .int .u64 (ww1 x), .int .u64 (ww0 x), .int .u64 (ww3 y), .int .u64 (ww2 y), .int .u64 (ww1 y), .int .u64 (ww0 y), .int .u64 (ww3 z), .int .u64 (ww2 z), .int .u64 (ww1 z), .int .u64 (ww0 z)] 40)).alloc (.cells #[.int .u64 (ww3 u), .int .u64 (ww2 u), .int .u64 (ww1 u), .int .u64 (ww0 u), .int .u64 (ww3 v), .int .u64 (ww2 v), .int .u64 (ww1 v), .int .u64 (ww0 v), .int .u64 (ww3 t), .int .u64 (ww2 t), .int .u64 (ww1 t), .int .u64 (ww0 t)] 40)).alloc (.cells #[.int .u64 0, .int .u64 0, .int .u64 0, .int .u64 0, .int .u64 0, .int .u64 0, .int .u64 0, .int .u64 0, .int .u64 0, .int .u64 0, .int .u64 0, .int .u64 0] 40)) = WW at *
 refine (R1 _).mono ?_
 rintro e w1 ⟨rfl, hB⟩
 replace T0 := T0.step hB
 clear hB
 by_cases h1 : ptB x y z = true
 · rw [h1]
   have X0 : Blk _ w.heap.size _ := T0.b 0 rfl; have Y0 : Blk _ (w.heap.size + 1) _ := T0.b 1 rfl; obtain ⟨p0, p1, p2, p3, p4, p5, p6, p7, p8, p9, p10, p11⟩ := X0.cs12; obtain ⟨q0, q1, q2, q3, q4, q5, q6, q7, q8, q9, q10, q11⟩ := Y0.cs12; clear X0 Y0
   go_wp2_with fail
   refine (R2 _).mono ?_
   rintro e w2 ⟨rfl, hB⟩
   replace T0 := T0.step hB
   clear hB p0 q0 p1 q1 p2 q2 p3 q3 p4 q4 p5 q5 p6 q6 p7 q7 p8 q8 p9 q9 p10 q10 p11 q11
   by_cases h2 : ptB u v t = true
   · rw [h2]
     obtain ⟨-, sx, sy, sz⟩ := ptB_small h1
     obtain ⟨-, su, sv, st⟩ := ptB_small h2
     have HV : Hid (midV x y z u v t = pmV (x * t + z * u) (y * t + z * v) (z * t + z * t)) := by
       show _ = _
       unfold midV
       rw [h1, h2, if_pos (show (true && true) = true from rfl), Int.mul_comm u z, Int.mul_comm v z, Int.two_mul]
     have m1 := sm_prod sx st; have m2 := sm_prod sz su; have m3 := sm_prod sy st; have m4 := sm_prod sz sv; have m5 := sm_prod sz st
     have tx := told_small sx; have ty := told_small sy; have tz := told_small sz; have tu := told_small su; have tv := told_small sv; have tt := told_small st
     have J1 := joint_det x z u t tx tz tu tt (lr_abs (by omega)) (lr_abs (by omega)) (told_of (by omega))
     have J2 := joint_det y z v t ty tz tv tt (lr_abs (by omega)) (lr_abs (by omega)) (told_of (by omega))
     have J3 := joint_det z z t t tz tz tt tt (lr_abs (by omega)) (lr_abs (by omega)) (told_of (by omega))
     have PM := implPointMake_det (x * t + z * u) (y * t + z * v) (z * t + z * t) (told_of (by omega)) (told_of (by omega)) (told_of (by omega))
     obtain ⟨r0, r1, r2, r3, r4, r5, r6, r7, r8, r9, r10, r11, f, hf⟩ := pmV_ex (x * t + z * u) (y * t + z * v) (z * t + z * t)
     rw [hf] at PM
     have HO : Hid (midV x y z u v t = .tuple #[.agg #[.int .u64 r0, .int .u64 r1, .int .u64 r2, .int .u64 r3, .int .u64 r4, .int .u64 r5, .int .u64 r6, .int .u64 r7, .int .u64 r8, .int .u64 r9, .int .u64 r10, .int .u64 r11], .bool f]) := HV.out.trans hf
     clear hf HV h1 h2 R1 R2 sx sy sz su sv st m1 m2 m3 m4 m5 tx ty tz tu tv tt
     generalize x * t + z * u = X at *
     generalize y * t + z * v = Y at *
     generalize z * t + z * t = Z at *
     have X0 : Blk _ w.heap.size _ := T0.b 0 rfl; have Y0 : Blk _ (w.heap.size + 1) _ := T0.b 1 rfl; obtain ⟨p0, p1, p2, p3, p4, p5, p6, p7, p8, p9, p10, p11⟩ := X0.cs12; obtain ⟨q0, q1, q2, q3, q4, q5, q6, q7, q8, q9, q10, q11⟩ := Y0.cs12; clear X0 Y0
     go_wp2_with fail
     refine (J1 _).mono ?_
     rintro e w3 ⟨rfl, hB⟩
     replace T0 := (T0.step hB).alloc (.cells #[.int .u64 (ww3 X), .int .u64 (ww2 X), .int .u64 (ww1 X), .int .u64 (ww0 X)] 32)
     have BX := Blk.new w3 [.int .u64 (ww3 X), .int .u64 (ww2 X), .int .u64 (ww1 X), .int .u64 (ww0 X)] 32 rfl
     clear hB p0 q0 p1 q1 p2 q2 p3 q3 p4 q4 p5 q5 p6 q6 p7 q7 p8 q8 p9 q9 p10 q10 p11 q11 J1
     have X0 : Blk _ w.heap.size _ := T0.b 0 rfl; have Y0 : Blk _ (w.heap.size + 1) _ := T0.b 1 rfl; obtain ⟨p0, p1, p2, p3, p4, p5, p6, p7, p8, p9, p10, p11⟩ := X0.cs12; obtain ⟨q0, q1, q2, q3, q4, q5, q6, q7, q8, q9, q10, q11⟩ := Y0.cs12; clear X0 Y0
     go_wp2_with fail
     generalize w3.heap.size = gX at *
     refine (J2 _).mono ?_
     rintro e w4 ⟨rfl, hB⟩
     replace T0 := (T0.step hB).alloc (.cells #[.int .u64 (ww3 Y), .int .u64 (ww2 Y), .int .u64 (ww1 Y), .int .u64 (ww0 Y)] 32)
     replace BX := (BX.step hB).alloc (.cells #[.int .u64 (ww3 Y), .int .u64 (ww2 Y), .int .u64 (ww1 Y), .int .u64 (ww0 Y)] 32)
     have BY := Blk.new w4 [.int .u64 (ww3 Y), .int .u64 (ww2 Y), .int .u64 (ww1 Y), .int .u64 (ww0 Y)] 32 rfl
     clear hB p0 q0 p1 q1 p2 q2 p3 q3 p4 q4 p5 q5 p6 q6 p7 q7 p8 q8 p9 q9 p10 q10 p11 q11 J2
     have X0 : Blk _ w.heap.size _ := T0.b 0 rfl; have Y0 : Blk _ (w.heap.size + 1) _ := T0.b 1 rfl; obtain ⟨p0, p1, p2, p3, p4, p5, p6, p7, p8, p9, p10, p11⟩ := X0.cs12; obtain ⟨q0, q1, q2, q3, q4, q5, q6, q7, q8, q9, q10, q11⟩ := Y0.cs12; clear X0 Y0
     go_wp2_with fail
     generalize w4.heap.size = gY at *
     refine (J3 _).mono ?_
     rintro e w5 ⟨rfl, hB⟩
     replace T0 := (T0.step hB).alloc (.cells #[.int .u64 (ww3 Z), .int .u64 (ww2 Z), .int .u64 (ww1 Z), .int .u64 (ww0 Z)] 32)
     replace BX := (BX.step hB).alloc (.cells #[.int .u64 (ww3 Z), .int .u64 (ww2 Z), .int .u64 (ww1 Z), .int .u64 (ww0 Z)] 32)
     replace BY := (BY.step hB).alloc (.cells #[.int .u64 (ww3 Z), .int .u64 (ww2 Z), .int .u64 (ww1 Z), .int .u64 (ww0 Z)] 32)
     clear hB p0 q0 p1 q1 p2 q2 p3 q3 p4 q4 p5 q5 p6 q6 p7 q7 p8 q8 p9 q9 p10 q10 p11 q11 J3
     obtain ⟨bx0, bx1, bx2, bx3⟩ := BX.cs4; obtain ⟨by0, by1, by2, by3⟩ := BY.cs4
     go_wp2_with fail
     refine (PM _).mono ?_
     rintro e w6 ⟨rfl, hB⟩
     replace T0 := T0.step hB
     have o0 := (T0.b 2 rfl).c 0 rfl; have u0 := (T0.b 2 rfl).f 0 rfl; have o1 := (T0.b 2 rfl).c 1 rfl; have u1 := (T0.b 2 rfl).f 1 rfl; have o2 := (T0.b 2 rfl).c 2 rfl; have u2 := (T0.b 2 rfl).f 2 rfl; have o3 := (T0.b 2 rfl).c 3 rfl; have u3 := (T0.b 2 rfl).f 3 rfl; have o4 := (T0.b 2 rfl).c 4 rfl; have u4 := (T0.b 2 rfl).f 4 rfl; have o5 := (T0.b 2 rfl).c 5 rfl; have u5 := (T0.b 2 rfl).f 5 rfl; have o6 := (T0.b 2 rfl).c 6 rfl; have u6 := (T0.b 2 rfl).f 6 rfl; have o7 := (T0.b 2 rfl).c 7 rfl; have u7 := (T0.b 2 rfl).f 7 rfl; have o8 := (T0.b 2 rfl).c 8 rfl; have u8 := (T0.b 2 rfl).f 8 rfl; have o9 := (T0.b 2 rfl).c 9 rfl; have u9 := (T0.b 2 rfl).f 9 rfl; have o10 := (T0.b 2 rfl).c 10 rfl; have u10 := (T0.b 2 rfl).f 10 rfl; have o11 := (T0.b 2 rfl).c 11 rfl; have u11 := (T0.b 2 rfl).f 11 rfl; have olt := (T0.b 2 rfl).lt
     have HB := T0.below
     clear hB T0 BX BY bx0 by0 bx1 by1 bx2 by2 bx3 by3 PM
     go_wp2
     refine bodyPost_ret (v := .tuple #[.agg #[.int .u64 r0, .int .u64 r1, .int .u64 r2, .int .u64 r3, .int .u64 r4, .int .u64 r5, .int .u64 r6, .int .u64 r7, .int .u64 r8, .int .u64 r9, .int .u64 r10, .int .u64 r11], .bool f]) (by simp [results, Tryz.results12, go_sem, o0, o1, o2, o3, o4, o5, o6, o7, o8, o9, o10, o11]) rfl ?_
     refine ⟨by rw [HO.out], ?_⟩
     repeat' (refine Below.setCell ?_ (by simp; try omega) _)
     exact HB
   · replace h2 := Bool.eq_false_iff.2 h2
     rw [h2]
     have HO : Hid (midV x y z u v t = .tuple #[.agg #[.int .u64 0, .int .u64 0, .int .u64 0, .int .u64 0, .int .u64 0, .int .u64 0, .int .u64 0, .int .u64 0, .int .u64 0, .int .u64 0, .int .u64 0, .int .u64 0], .bool false]) := by show _ = _; unfold midV; rw [h2]; simp
     have o0 := (T0.b 2 rfl).c 0 rfl; have u0 := (T0.b 2 rfl).f 0 rfl; have o1 := (T0.b 2 rfl).c 1 rfl; have u1 := (T0.b 2 rfl).f 1 rfl; have o2 := (T0.b 2 rfl).c 2 rfl; have u2 := (T0.b 2 rfl).f 2 rfl; have o3 := (T0.b 2 rfl).c 3 rfl; have u3 := (T0.b 2 rfl).f 3 rfl; have o4 := (T0.b 2 rfl).c 4 rfl; have u4 := (T0.b 2 rfl).f 4 rfl; have o5 := (T0.b 2 rfl).c 5 rfl; have u5 := (T0.b 2 rfl).f 5 rfl; have o6 := (T0.b 2 rfl).c 6 rfl; have u6 := (T0.b 2 rfl).f 6 rfl; have o7 := (T0.b 2 rfl).c 7 rfl; have u7 := (T0.b 2 rfl).f 7 rfl; have o8 := (T0.b 2 rfl).c 8 rfl; have u8 := (T0.b 2 rfl).f 8 rfl; have o9 := (T0.b 2 rfl).c 9 rfl; have u9 := (T0.b 2 rfl).f 9 rfl; have o10 := (T0.b 2 rfl).c 10 rfl; have u10 := (T0.b 2 rfl).f 10 rfl; have o11 := (T0.b 2 rfl).c 11 rfl; have u11 := (T0.b 2 rfl).f 11 rfl; have olt := (T0.b 2 rfl).lt
     have HB := T0.below
     clear T0
     go_wp2
     refine bodyPost_ret (v := .tuple #[.agg #[.int .u64 0, .int .u64 0, .int .u64 0, .int .u64 0, .int .u64 0, .int .u64 0, .int .u64 0, .int .u64 0, .int .u64 0, .int .u64 0, .int .u64 0, .int .u64 0], .bool false]) (by simp [results, Tryz.results12, go_sem, o0, o1, o2, o3, o4, o5, o6, o7, o8, o9, o10, o11]) rfl ?_
     refine ⟨by rw [HO.out], ?_⟩
     repeat' (refine Below.setCell ?_ (by simp; try omega) _)
     exact HB
 · replace h1 := Bool.eq_false_iff.2 h1
   rw [h1]
   have HO : Hid (midV x y z u v t = .tuple #[.agg #[.int .u64 0, .int .u64 0, .int .u64 0, .int .u64 0, .int .u64 0, .int .u64 0, .int .u64 0, .int .u64 0, .int .u64 0, .int .u64 0, .int .u64 0, .int .u64 0], .bool false]) := by show _ = _; unfold midV; rw [h1]; simp
   have o0 := (T0.b 2 rfl).c 0 rfl; have u0 := (T0.b 2 rfl).f 0 rfl; have o1 := (T0.b 2 rfl).c 1 rfl; have u1 := (T0.b 2 rfl).f 1 rfl; have o2 := (T0.b 2 rfl).c 2 rfl; have u2 := (T0.b 2 rfl).f 2 rfl; have o3 := (T0.b 2 rfl).c 3 rfl; have u3 := (T0.b 2 rfl).f 3 rfl; have o4 := (T0.b 2 rfl).c 4 rfl; have u4 := (T0.b 2 rfl).f 4 rfl; have o5 := (T0.b 2 rfl).c 5 rfl; have u5 := (T0.b 2 rfl).f 5 rfl; have o6 := (T0.b 2 rfl).c 6 rfl; have u6 := (T0.b 2 rfl).f 6 rfl; have o7 := (T0.b 2 rfl).c 7 rfl; have u7 := (T0.b 2 rfl).f 7 rfl; have o8 := (T0.b 2 rfl).c 8 rfl; have u8 := (T0.b 2 rfl).f 8 rfl; have o9 := (T0.b 2 rfl).c 9 rfl; have u9 := (T0.b 2 rfl).f 9 rfl; have o10 := (T0.b 2 rfl).c 10 rfl; have u10 := (T0.b 2 rfl).f 10 rfl; have o11 := (T0.b 2 rfl).c 11 rfl; have u11 := (T0.b 2 rfl).f 11 rfl; have olt := (T0.b 2 rfl).lt
   have HB := T0.below
   clear T0
   go_wp2
   refine bodyPost_ret (v := .tuple #[.agg #[.int .u64 0, .int .u64 0, .int .u64 0, .int .u64 0, .int .u64 0, .int .u64 0, .int .u64 0, .int .u64 0, .int .u64 0, .int .u64 0, .int .u64 0, .int .u64 0], .bool false]) (by simp [results, Tryz.results12, go_sem, o0, o1, o2, o3, o4, o5, o6, o7, o8, o9, o10, o11]) rfl ?_
   refine ⟨by rw [HO.out], ?_⟩
   repeat' (refine Below.setCell ?_ (by simp; try omega) _)
   exact HB
def I64 (x : Int) : Prop := -9223372036854775808 ≤ x ∧ x ≤ 9223372036854775807
def IsI (v : Value) : Prop := ∃ x : Int, v = .int .i64 x ∧ I64 x
def IsSg (v : Value) : Prop := ∃ a b c d : Int, v = .agg #[.int .i64 a, .int .i64 b, .int .i64 c, .int .i64 d] ∧ I64 a ∧ I64 b ∧ I64 c ∧ I64 d
theorem off_any (g : Nat) (ao : Option Addr) (n cap : Nat) (cs : List Int) (w : World) (R : Rdr w g ao n cap cs) :
   Calls Tryz.prog 25 #[.pointer (some ⟨g, 0, none⟩), .int .i64 (-1000000), .int .i64 1000000] w (RdP g ao n cap cs IsI w) := by
 go_enter Tryz.func25, Tryz.ntmps25
 go_wp2_with fail
 refine (once_any 24 (by decide) (by decide) g ao n cap cs _ R).mono ?_
 rintro e w1 ⟨_, rfl, ⟨b, rfl⟩, R1, K⟩
 clear R
 cases b
 · go_wp2_with fail
   refine (near_pm g ao n cap cs _ R1).mono ?_
   rintro e w2 ⟨_, rfl, ⟨x, rfl, x0, x1⟩, R2, K2⟩
   replace K := K.trans K2
   clear R1 K2
   go_wp2
   go_ret
   exact ⟨_, rfl, ⟨x, rfl, by constructor <;> omega⟩, R2, K⟩
 · have G := Blk.new w1 [.int .i64 (-1000001), .int .i64 1000001, .int .i64 (-9223372036854775808), .int .i64 9223372036854775807] 2 rfl
   rw [show ([.int .i64 (-1000001), .int .i64 1000001, .int .i64 (-9223372036854775808), .int .i64 9223372036854775807] : List Value).toArray = #[.int .i64 (-1000001), .int .i64 1000001, .int .i64 (-9223372036854775808), .int .i64 9223372036854775807] from rfl] at G
   have hgl := R1.lt
   have hgn : w1.heap.size ≠ g := by omega
   have R := R1.alloc (.cells #[.int .i64 (-1000001), .int .i64 1000001, .int .i64 (-9223372036854775808), .int .i64 9223372036854775807] 2)
   replace K := K.alloc (.cells #[.int .i64 (-1000001), .int .i64 1000001, .int .i64 (-9223372036854775808), .int .i64 9223372036854775807] 2)
   clear R1
   go_wp2_with fail
   refine (below_any 4 (by decide) (by decide) g ao n cap cs _ R).mono ?_
   rintro e w6 ⟨_, rfl, ⟨j, rfl, j0, j1⟩, R6, K6⟩
   replace G := G.kept K6 hgn
   replace K := K.trans K6
   obtain ⟨k, rfl⟩ : ∃ k : Nat, j = k := ⟨j.toNat, by omega⟩
   obtain ⟨u, hu, hus⟩ : ∃ u : Int, w6.cell? ⟨w1.heap.size, k, none⟩ = some (.int .i64 u) ∧ I64 u := by
     rcases (by omega : k = 0 ∨ k = 1 ∨ k = 2 ∨ k = 3) with rfl | rfl | rfl | rfl
     · exact ⟨_, G.c 0 rfl, by constructor <;> decide⟩
     · exact ⟨_, G.c 1 rfl, by constructor <;> decide⟩
     · exact ⟨_, G.c 2 rfl, by constructor <;> decide⟩
     · exact ⟨_, G.c 3 rfl, by constructor <;> decide⟩
   clear G R K6
   go_wp2
   go_ret
   exact ⟨_, rfl, ⟨u, rfl, hus⟩, R6, K⟩
theorem segOf_ex (x y u v : Int) (hx : I64 x) (hy : I64 y) (hu : I64 u) (hv : I64 v) : ∃ a b c d k, I64 a ∧ I64 b ∧ I64 c ∧ I64 d ∧ ∀ w, Calls Tryz.prog 50 #[.agg #[.int .i64 x, .int .i64 y], .agg #[.int .i64 u, .int .i64 v]] w (VP (.tuple #[.agg #[.int .i64 a, .int .i64 b, .int .i64 c, .int .i64 d], .bool k]) w) := by
 have hz : I64 0 := by constructor <;> decide
 refine ⟨_, _, _, _, _, ?_, ?_, ?_, ?_, fun w => specSegOf_any x y u v _ _ _ _ _ _ rfl rfl rfl rfl rfl rfl w⟩
 all_goals
   generalize lessI u v x y = l
   generalize segOk _ _ _ _ = k
   cases k <;> cases l <;> first | exact hz | exact hx | exact hy | exact hu | exact hv
end Go.Proofs.YtpnnpkchogooaaaGreat
