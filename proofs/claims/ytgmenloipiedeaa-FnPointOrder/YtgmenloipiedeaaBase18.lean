/- Part 18 of the walks that the proof leans on. -/
import Derived.Test.YtgmenloipiedeaaBase12
import Derived.Test.YtgmenloipiedeaaBase17
/- The turn of three points: both sides. -/
namespace Go.Proofs.Ytgmenloipiedeaa
open Go.RowKit
/-- The turn of three points; of points that are not right, 0. -/
def oriI (x y z u v t a b c : Int) : Int := if ptB x y z && ptB u v t && ptB a b c then turnI x y z u v t a b c else 0
theorem turn_same (x y z u v t a b c : Int) : turnJ x y z u v t a b c = turnI x y z u v t a b c := by
  unfold turnJ turnI
  congr 1
  grind
set_option maxRecDepth 100000 in
set_option maxHeartbeats 4000000 in
theorem implOrient_det (x y z u v t a b c : Int) (hx : told x = true) (hy : told y = true) (hz : told z = true) (hu : told u = true) (hv : told v = true) (ht : told t = true) (ha : told a = true) (hb : told b = true) (hc : told c = true) (w : World) : Calls Try.prog 8 #[PV x y z, PV u v t, PV a b c] w (VP (.int .i64 (oriI x y z u v t a b c)) w) := by
  have T0 : ArgsB w (((w.alloc (.cells #[.int .u64 (ww3 x), .int .u64 (ww2 x), .int .u64 (ww1 x), .int .u64 (ww0 x), .int .u64 (ww3 y), .int .u64 (ww2 y), .int .u64 (ww1 y), .int .u64 (ww0 y), .int .u64 (ww3 z), .int .u64 (ww2 z), .int .u64 (ww1 z), .int .u64 (ww0 z)] 28)).alloc (.cells #[.int .u64 (ww3 u), .int .u64 (ww2 u), .int .u64 (ww1 u), .int .u64 (ww0 u), .int .u64 (ww3 v), .int .u64 (ww2 v), .int .u64 (ww1 v), .int .u64 (ww0 v), .int .u64 (ww3 t), .int .u64 (ww2 t), .int .u64 (ww1 t), .int .u64 (ww0 t)] 28)).alloc (.cells #[.int .u64 (ww3 a), .int .u64 (ww2 a), .int .u64 (ww1 a), .int .u64 (ww0 a), .int .u64 (ww3 b), .int .u64 (ww2 b), .int .u64 (ww1 b), .int .u64 (ww0 b), .int .u64 (ww3 c), .int .u64 (ww2 c), .int .u64 (ww1 c), .int .u64 (ww0 c)] 28)) [[.int .u64 (ww3 x), .int .u64 (ww2 x), .int .u64 (ww1 x), .int .u64 (ww0 x), .int .u64 (ww3 y), .int .u64 (ww2 y), .int .u64 (ww1 y), .int .u64 (ww0 y), .int .u64 (ww3 z), .int .u64 (ww2 z), .int .u64 (ww1 z), .int .u64 (ww0 z)], [.int .u64 (ww3 u), .int .u64 (ww2 u), .int .u64 (ww1 u), .int .u64 (ww0 u), .int .u64 (ww3 v), .int .u64 (ww2 v), .int .u64 (ww1 v), .int .u64 (ww0 v), .int .u64 (ww3 t), .int .u64 (ww2 t), .int .u64 (ww1 t), .int .u64 (ww0 t)], [.int .u64 (ww3 a), .int .u64 (ww2 a), .int .u64 (ww1 a), .int .u64 (ww0 a), .int .u64 (ww3 b), .int .u64 (ww2 b), .int .u64 (ww1 b), .int .u64 (ww0 b), .int .u64 (ww3 c), .int .u64 (ww2 c), .int .u64 (ww1 c), .int .u64 (ww0 c)]] := ar3 _ _ _ _ _ _ w
  have R1 := pright_det x y z hx hy hz
  have R2 := pright_det u v t hu hv ht
  have R3 := pright_det a b c ha hb hc
  clear hx hy hz hu hv ht ha hb hc
  go_enter Try.func8, Try.ntmps8
  go_wp2_with fail
  generalize (((w.alloc (.cells #[.int .u64 (ww3 x), .int .u64 (ww2 x), .int .u64 (ww1 x), .int .u64 (ww0 x), .int .u64 (ww3 y), .int .u64 (ww2 y), .int .u64 (ww1 y), .int .u64 (ww0 y), .int .u64 (ww3 z), .int .u64 (ww2 z), .int .u64 (ww1 z), .int .u64 (ww0 z)] 28)).alloc (.cells #[.int .u64 (ww3 u), .int .u64 (ww2 u), .int .u64 (ww1 u), .int .u64 (ww0 u), .int .u64 (ww3 v), .int .u64 (ww2 v), .int .u64 (ww1 v), .int .u64 (ww0 v), .int .u64 (ww3 t), .int .u64 (ww2 t), .int .u64 (ww1 t), .int .u64 (ww0 t)] 28)).alloc (.cells #[.int .u64 (ww3 a), .int .u64 (ww2 a), .int .u64 (ww1 a), .int .u64 (ww0 a), .int .u64 (ww3 b), .int .u64 (ww2 b), .int .u64 (ww1 b), .int .u64 (ww0 b), .int .u64 (ww3 c), .int .u64 (ww2 c), .int .u64 (ww1 c), .int .u64 (ww0 c)] 28)) = W at *
  refine (R1 _).mono ?_
  rintro e w1 ⟨rfl, hB⟩
  replace T0 := T0.step hB
  clear hB
  by_cases h1 : ptB x y z = true
  · rw [h1]
    have X0 : Blk _ w.heap.size _ := T0.b 0 rfl; have Y0 : Blk _ (w.heap.size + 1) _ := T0.b 1 rfl; have Z0 : Blk _ (w.heap.size + 1 + 1) _ := T0.b 2 rfl; have p0 := X0.c 0 rfl; have q0 := Y0.c 0 rfl; have r0 := Z0.c 0 rfl; have p1 := X0.c 1 rfl; have q1 := Y0.c 1 rfl; have r1 := Z0.c 1 rfl; have p2 := X0.c 2 rfl; have q2 := Y0.c 2 rfl; have r2 := Z0.c 2 rfl; have p3 := X0.c 3 rfl; have q3 := Y0.c 3 rfl; have r3 := Z0.c 3 rfl; have p4 := X0.c 4 rfl; have q4 := Y0.c 4 rfl; have r4 := Z0.c 4 rfl; have p5 := X0.c 5 rfl; have q5 := Y0.c 5 rfl; have r5 := Z0.c 5 rfl; have p6 := X0.c 6 rfl; have q6 := Y0.c 6 rfl; have r6 := Z0.c 6 rfl; have p7 := X0.c 7 rfl; have q7 := Y0.c 7 rfl; have r7 := Z0.c 7 rfl; have p8 := X0.c 8 rfl; have q8 := Y0.c 8 rfl; have r8 := Z0.c 8 rfl; have p9 := X0.c 9 rfl; have q9 := Y0.c 9 rfl; have r9 := Z0.c 9 rfl; have p10 := X0.c 10 rfl; have q10 := Y0.c 10 rfl; have r10 := Z0.c 10 rfl; have p11 := X0.c 11 rfl; have q11 := Y0.c 11 rfl; have r11 := Z0.c 11 rfl; clear X0 Y0 Z0
    go_wp2_with fail
    refine (R2 _).mono ?_
    rintro e w2 ⟨rfl, hB⟩
    replace T0 := T0.step hB
    clear hB p0 q0 r0 p1 q1 r1 p2 q2 r2 p3 q3 r3 p4 q4 r4 p5 q5 r5 p6 q6 r6 p7 q7 r7 p8 q8 r8 p9 q9 r9 p10 q10 r10 p11 q11 r11
    by_cases h2 : ptB u v t = true
    · rw [h2]
      have X0 : Blk _ w.heap.size _ := T0.b 0 rfl; have Y0 : Blk _ (w.heap.size + 1) _ := T0.b 1 rfl; have Z0 : Blk _ (w.heap.size + 1 + 1) _ := T0.b 2 rfl; have p0 := X0.c 0 rfl; have q0 := Y0.c 0 rfl; have r0 := Z0.c 0 rfl; have p1 := X0.c 1 rfl; have q1 := Y0.c 1 rfl; have r1 := Z0.c 1 rfl; have p2 := X0.c 2 rfl; have q2 := Y0.c 2 rfl; have r2 := Z0.c 2 rfl; have p3 := X0.c 3 rfl; have q3 := Y0.c 3 rfl; have r3 := Z0.c 3 rfl; have p4 := X0.c 4 rfl; have q4 := Y0.c 4 rfl; have r4 := Z0.c 4 rfl; have p5 := X0.c 5 rfl; have q5 := Y0.c 5 rfl; have r5 := Z0.c 5 rfl; have p6 := X0.c 6 rfl; have q6 := Y0.c 6 rfl; have r6 := Z0.c 6 rfl; have p7 := X0.c 7 rfl; have q7 := Y0.c 7 rfl; have r7 := Z0.c 7 rfl; have p8 := X0.c 8 rfl; have q8 := Y0.c 8 rfl; have r8 := Z0.c 8 rfl; have p9 := X0.c 9 rfl; have q9 := Y0.c 9 rfl; have r9 := Z0.c 9 rfl; have p10 := X0.c 10 rfl; have q10 := Y0.c 10 rfl; have r10 := Z0.c 10 rfl; have p11 := X0.c 11 rfl; have q11 := Y0.c 11 rfl; have r11 := Z0.c 11 rfl; clear X0 Y0 Z0
      go_wp2_with fail
      refine (R3 _).mono ?_
      rintro e w3 ⟨rfl, hB⟩
      replace T0 := T0.step hB
      clear hB p0 q0 r0 p1 q1 r1 p2 q2 r2 p3 q3 r3 p4 q4 r4 p5 q5 r5 p6 q6 r6 p7 q7 r7 p8 q8 r8 p9 q9 r9 p10 q10 r10 p11 q11 r11
      by_cases h3 : ptB a b c = true
      · rw [h3]
        have HO : Hid (oriI x y z u v t a b c = turnI x y z u v t a b c) := by show _ = _; unfold oriI; rw [h1, h2, h3]; rfl
        obtain ⟨-, sx, sy, sz⟩ := ptB_small h1
        obtain ⟨-, su, sv, st⟩ := ptB_small h2
        obtain ⟨-, sa, sb, sc⟩ := ptB_small h3
        have C := turn_det x y z u v t a b c sx sy sz su sv st sa sb sc
        rw [turn_same] at C
        clear h1 h2 h3 R1 R2 R3 sx sy sz su sv st sa sb sc
        generalize turnI x y z u v t a b c = o at *
        have X0 : Blk _ w.heap.size _ := T0.b 0 rfl; have Y0 : Blk _ (w.heap.size + 1) _ := T0.b 1 rfl; have Z0 : Blk _ (w.heap.size + 1 + 1) _ := T0.b 2 rfl; have p0 := X0.c 0 rfl; have q0 := Y0.c 0 rfl; have r0 := Z0.c 0 rfl; have p1 := X0.c 1 rfl; have q1 := Y0.c 1 rfl; have r1 := Z0.c 1 rfl; have p2 := X0.c 2 rfl; have q2 := Y0.c 2 rfl; have r2 := Z0.c 2 rfl; have p3 := X0.c 3 rfl; have q3 := Y0.c 3 rfl; have r3 := Z0.c 3 rfl; have p4 := X0.c 4 rfl; have q4 := Y0.c 4 rfl; have r4 := Z0.c 4 rfl; have p5 := X0.c 5 rfl; have q5 := Y0.c 5 rfl; have r5 := Z0.c 5 rfl; have p6 := X0.c 6 rfl; have q6 := Y0.c 6 rfl; have r6 := Z0.c 6 rfl; have p7 := X0.c 7 rfl; have q7 := Y0.c 7 rfl; have r7 := Z0.c 7 rfl; have p8 := X0.c 8 rfl; have q8 := Y0.c 8 rfl; have r8 := Z0.c 8 rfl; have p9 := X0.c 9 rfl; have q9 := Y0.c 9 rfl; have r9 := Z0.c 9 rfl; have p10 := X0.c 10 rfl; have q10 := Y0.c 10 rfl; have r10 := Z0.c 10 rfl; have p11 := X0.c 11 rfl; have q11 := Y0.c 11 rfl; have r11 := Z0.c 11 rfl; clear X0 Y0 Z0
        go_wp2_with fail
        refine (C _).mono ?_
        rintro e w4 ⟨rfl, hB⟩
        have HB := (T0.step hB).below
        clear hB T0 C p0 q0 r0 p1 q1 r1 p2 q2 r2 p3 q3 r3 p4 q4 r4 p5 q5 r5 p6 q6 r6 p7 q7 r7 p8 q8 r8 p9 q9 r9 p10 q10 r10 p11 q11 r11
        go_wp2
        go_ret
        exact ⟨by rw [HO.out]; rfl, HB⟩
      · replace h3 := Bool.eq_false_iff.2 h3
        rw [h3]
        have HO : Hid (oriI x y z u v t a b c = 0) := by show _ = _; unfold oriI; rw [h3]; simp
        have HB := T0.below
        clear T0 h1 h2 h3 R1 R2 R3
        go_wp2
        go_ret
        exact ⟨by rw [HO.out]; rfl, HB⟩
    · replace h2 := Bool.eq_false_iff.2 h2
      rw [h2]
      have HO : Hid (oriI x y z u v t a b c = 0) := by show _ = _; unfold oriI; rw [h2]; simp
      have HB := T0.below
      clear T0 h1 h2 R1 R2 R3
      go_wp2
      go_ret
      exact ⟨by rw [HO.out]; rfl, HB⟩
  · replace h1 := Bool.eq_false_iff.2 h1
    rw [h1]
    have HO : Hid (oriI x y z u v t a b c = 0) := by show _ = _; unfold oriI; rw [h1]; simp
    have HB := T0.below
    clear T0 h1 R1 R2 R3
    go_wp2
    go_ret
    exact ⟨by rw [HO.out]; rfl, HB⟩
theorem o3p_cells {x y z u v t a b c : Int} {w W : World} (T0 : ArgsB w W [[.int .u64 (ww3 x), .int .u64 (ww2 x), .int .u64 (ww1 x), .int .u64 (ww0 x), .int .u64 (ww3 y), .int .u64 (ww2 y), .int .u64 (ww1 y), .int .u64 (ww0 y), .int .u64 (ww3 z), .int .u64 (ww2 z), .int .u64 (ww1 z), .int .u64 (ww0 z)], [.int .u64 (ww3 u), .int .u64 (ww2 u), .int .u64 (ww1 u), .int .u64 (ww0 u), .int .u64 (ww3 v), .int .u64 (ww2 v), .int .u64 (ww1 v), .int .u64 (ww0 v), .int .u64 (ww3 t), .int .u64 (ww2 t), .int .u64 (ww1 t), .int .u64 (ww0 t)], [.int .u64 (ww3 a), .int .u64 (ww2 a), .int .u64 (ww1 a), .int .u64 (ww0 a), .int .u64 (ww3 b), .int .u64 (ww2 b), .int .u64 (ww1 b), .int .u64 (ww0 b), .int .u64 (ww3 c), .int .u64 (ww2 c), .int .u64 (ww1 c), .int .u64 (ww0 c)]]) : (fun w' => w'.cell? ⟨w.heap.size, 0, none⟩ = some (.int .u64 (ww3 x)) ∧ w'.cell? ⟨w.heap.size, 1, none⟩ = some (.int .u64 (ww2 x)) ∧ w'.cell? ⟨w.heap.size, 2, none⟩ = some (.int .u64 (ww1 x)) ∧ w'.cell? ⟨w.heap.size, 3, none⟩ = some (.int .u64 (ww0 x)) ∧ w'.cell? ⟨w.heap.size, 4, none⟩ = some (.int .u64 (ww3 y)) ∧ w'.cell? ⟨w.heap.size, 5, none⟩ = some (.int .u64 (ww2 y)) ∧ w'.cell? ⟨w.heap.size, 6, none⟩ = some (.int .u64 (ww1 y)) ∧ w'.cell? ⟨w.heap.size, 7, none⟩ = some (.int .u64 (ww0 y)) ∧ w'.cell? ⟨w.heap.size, 8, none⟩ = some (.int .u64 (ww3 z)) ∧ w'.cell? ⟨w.heap.size, 9, none⟩ = some (.int .u64 (ww2 z)) ∧ w'.cell? ⟨w.heap.size, 10, none⟩ = some (.int .u64 (ww1 z)) ∧ w'.cell? ⟨w.heap.size, 11, none⟩ = some (.int .u64 (ww0 z)) ∧ w'.cell? ⟨w.heap.size + 1, 0, none⟩ = some (.int .u64 (ww3 u)) ∧ w'.cell? ⟨w.heap.size + 1, 1, none⟩ = some (.int .u64 (ww2 u)) ∧ w'.cell? ⟨w.heap.size + 1, 2, none⟩ = some (.int .u64 (ww1 u)) ∧ w'.cell? ⟨w.heap.size + 1, 3, none⟩ = some (.int .u64 (ww0 u)) ∧ w'.cell? ⟨w.heap.size + 1, 4, none⟩ = some (.int .u64 (ww3 v)) ∧ w'.cell? ⟨w.heap.size + 1, 5, none⟩ = some (.int .u64 (ww2 v)) ∧ w'.cell? ⟨w.heap.size + 1, 6, none⟩ = some (.int .u64 (ww1 v)) ∧ w'.cell? ⟨w.heap.size + 1, 7, none⟩ = some (.int .u64 (ww0 v)) ∧ w'.cell? ⟨w.heap.size + 1, 8, none⟩ = some (.int .u64 (ww3 t)) ∧ w'.cell? ⟨w.heap.size + 1, 9, none⟩ = some (.int .u64 (ww2 t)) ∧ w'.cell? ⟨w.heap.size + 1, 10, none⟩ = some (.int .u64 (ww1 t)) ∧ w'.cell? ⟨w.heap.size + 1, 11, none⟩ = some (.int .u64 (ww0 t)) ∧ w'.cell? ⟨w.heap.size + 2, 0, none⟩ = some (.int .u64 (ww3 a)) ∧ w'.cell? ⟨w.heap.size + 2, 1, none⟩ = some (.int .u64 (ww2 a)) ∧ w'.cell? ⟨w.heap.size + 2, 2, none⟩ = some (.int .u64 (ww1 a)) ∧ w'.cell? ⟨w.heap.size + 2, 3, none⟩ = some (.int .u64 (ww0 a)) ∧ w'.cell? ⟨w.heap.size + 2, 4, none⟩ = some (.int .u64 (ww3 b)) ∧ w'.cell? ⟨w.heap.size + 2, 5, none⟩ = some (.int .u64 (ww2 b)) ∧ w'.cell? ⟨w.heap.size + 2, 6, none⟩ = some (.int .u64 (ww1 b)) ∧ w'.cell? ⟨w.heap.size + 2, 7, none⟩ = some (.int .u64 (ww0 b)) ∧ w'.cell? ⟨w.heap.size + 2, 8, none⟩ = some (.int .u64 (ww3 c)) ∧ w'.cell? ⟨w.heap.size + 2, 9, none⟩ = some (.int .u64 (ww2 c)) ∧ w'.cell? ⟨w.heap.size + 2, 10, none⟩ = some (.int .u64 (ww1 c)) ∧ w'.cell? ⟨w.heap.size + 2, 11, none⟩ = some (.int .u64 (ww0 c))) W := ⟨(T0.b 0 rfl).c 0 rfl, (T0.b 0 rfl).c 1 rfl, (T0.b 0 rfl).c 2 rfl, (T0.b 0 rfl).c 3 rfl, (T0.b 0 rfl).c 4 rfl, (T0.b 0 rfl).c 5 rfl, (T0.b 0 rfl).c 6 rfl, (T0.b 0 rfl).c 7 rfl, (T0.b 0 rfl).c 8 rfl, (T0.b 0 rfl).c 9 rfl, (T0.b 0 rfl).c 10 rfl, (T0.b 0 rfl).c 11 rfl, (T0.b 1 rfl).c 0 rfl, (T0.b 1 rfl).c 1 rfl, (T0.b 1 rfl).c 2 rfl, (T0.b 1 rfl).c 3 rfl, (T0.b 1 rfl).c 4 rfl, (T0.b 1 rfl).c 5 rfl, (T0.b 1 rfl).c 6 rfl, (T0.b 1 rfl).c 7 rfl, (T0.b 1 rfl).c 8 rfl, (T0.b 1 rfl).c 9 rfl, (T0.b 1 rfl).c 10 rfl, (T0.b 1 rfl).c 11 rfl, (T0.b 2 rfl).c 0 rfl, (T0.b 2 rfl).c 1 rfl, (T0.b 2 rfl).c 2 rfl, (T0.b 2 rfl).c 3 rfl, (T0.b 2 rfl).c 4 rfl, (T0.b 2 rfl).c 5 rfl, (T0.b 2 rfl).c 6 rfl, (T0.b 2 rfl).c 7 rfl, (T0.b 2 rfl).c 8 rfl, (T0.b 2 rfl).c 9 rfl, (T0.b 2 rfl).c 10 rfl, (T0.b 2 rfl).c 11 rfl⟩
set_option maxRecDepth 100000 in
set_option maxHeartbeats 4000000 in
theorem specOrient_det (x y z u v t a b c : Int) (hx : told x = true) (hy : told y = true) (hz : told z = true) (hu : told u = true) (hv : told v = true) (ht : told t = true) (ha : told a = true) (hb : told b = true) (hc : told c = true) (w : World) : Calls Try.prog 9 #[PV x y z, PV u v t, PV a b c] w (VP (.int .i64 (oriI x y z u v t a b c)) w) := by
  have T0 : ArgsB w (((w.alloc (.cells #[.int .u64 (ww3 x), .int .u64 (ww2 x), .int .u64 (ww1 x), .int .u64 (ww0 x), .int .u64 (ww3 y), .int .u64 (ww2 y), .int .u64 (ww1 y), .int .u64 (ww0 y), .int .u64 (ww3 z), .int .u64 (ww2 z), .int .u64 (ww1 z), .int .u64 (ww0 z)] 28)).alloc (.cells #[.int .u64 (ww3 u), .int .u64 (ww2 u), .int .u64 (ww1 u), .int .u64 (ww0 u), .int .u64 (ww3 v), .int .u64 (ww2 v), .int .u64 (ww1 v), .int .u64 (ww0 v), .int .u64 (ww3 t), .int .u64 (ww2 t), .int .u64 (ww1 t), .int .u64 (ww0 t)] 28)).alloc (.cells #[.int .u64 (ww3 a), .int .u64 (ww2 a), .int .u64 (ww1 a), .int .u64 (ww0 a), .int .u64 (ww3 b), .int .u64 (ww2 b), .int .u64 (ww1 b), .int .u64 (ww0 b), .int .u64 (ww3 c), .int .u64 (ww2 c), .int .u64 (ww1 c), .int .u64 (ww0 c)] 28)) [[.int .u64 (ww3 x), .int .u64 (ww2 x), .int .u64 (ww1 x), .int .u64 (ww0 x), .int .u64 (ww3 y), .int .u64 (ww2 y), .int .u64 (ww1 y), .int .u64 (ww0 y), .int .u64 (ww3 z), .int .u64 (ww2 z), .int .u64 (ww1 z), .int .u64 (ww0 z)], [.int .u64 (ww3 u), .int .u64 (ww2 u), .int .u64 (ww1 u), .int .u64 (ww0 u), .int .u64 (ww3 v), .int .u64 (ww2 v), .int .u64 (ww1 v), .int .u64 (ww0 v), .int .u64 (ww3 t), .int .u64 (ww2 t), .int .u64 (ww1 t), .int .u64 (ww0 t)], [.int .u64 (ww3 a), .int .u64 (ww2 a), .int .u64 (ww1 a), .int .u64 (ww0 a), .int .u64 (ww3 b), .int .u64 (ww2 b), .int .u64 (ww1 b), .int .u64 (ww0 b), .int .u64 (ww3 c), .int .u64 (ww2 c), .int .u64 (ww1 c), .int .u64 (ww0 c)]] := ar3 _ _ _ _ _ _ w
  have R1 := specPointOk_det x y z hx hy hz
  have R2 := specPointOk_det u v t hu hv ht
  have R3 := specPointOk_det a b c ha hb hc
  have F1 := l3Of_det x y z hx hy hz
  have F2 := l3Of_det u v t hu hv ht
  have F3 := l3Of_det a b c ha hb hc
  clear hx hy hz hu hv ht ha hb hc
  go_enter Try.func9, Try.ntmps9
  go_wp2_with fail
  generalize (((w.alloc (.cells #[.int .u64 (ww3 x), .int .u64 (ww2 x), .int .u64 (ww1 x), .int .u64 (ww0 x), .int .u64 (ww3 y), .int .u64 (ww2 y), .int .u64 (ww1 y), .int .u64 (ww0 y), .int .u64 (ww3 z), .int .u64 (ww2 z), .int .u64 (ww1 z), .int .u64 (ww0 z)] 28)).alloc (.cells #[.int .u64 (ww3 u), .int .u64 (ww2 u), .int .u64 (ww1 u), .int .u64 (ww0 u), .int .u64 (ww3 v), .int .u64 (ww2 v), .int .u64 (ww1 v), .int .u64 (ww0 v), .int .u64 (ww3 t), .int .u64 (ww2 t), .int .u64 (ww1 t), .int .u64 (ww0 t)] 28)).alloc (.cells #[.int .u64 (ww3 a), .int .u64 (ww2 a), .int .u64 (ww1 a), .int .u64 (ww0 a), .int .u64 (ww3 b), .int .u64 (ww2 b), .int .u64 (ww1 b), .int .u64 (ww0 b), .int .u64 (ww3 c), .int .u64 (ww2 c), .int .u64 (ww1 c), .int .u64 (ww0 c)] 28)) = W at *
  refine (R1 _).mono ?_
  rintro e w1 ⟨rfl, hB⟩
  replace T0 := T0.step hB
  clear hB
  by_cases h1 : ptB x y z = true
  · rw [h1]
    have X0 : Blk _ w.heap.size _ := T0.b 0 rfl; have Y0 : Blk _ (w.heap.size + 1) _ := T0.b 1 rfl; have Z0 : Blk _ (w.heap.size + 1 + 1) _ := T0.b 2 rfl; have p0 := X0.c 0 rfl; have q0 := Y0.c 0 rfl; have r0 := Z0.c 0 rfl; have p1 := X0.c 1 rfl; have q1 := Y0.c 1 rfl; have r1 := Z0.c 1 rfl; have p2 := X0.c 2 rfl; have q2 := Y0.c 2 rfl; have r2 := Z0.c 2 rfl; have p3 := X0.c 3 rfl; have q3 := Y0.c 3 rfl; have r3 := Z0.c 3 rfl; have p4 := X0.c 4 rfl; have q4 := Y0.c 4 rfl; have r4 := Z0.c 4 rfl; have p5 := X0.c 5 rfl; have q5 := Y0.c 5 rfl; have r5 := Z0.c 5 rfl; have p6 := X0.c 6 rfl; have q6 := Y0.c 6 rfl; have r6 := Z0.c 6 rfl; have p7 := X0.c 7 rfl; have q7 := Y0.c 7 rfl; have r7 := Z0.c 7 rfl; have p8 := X0.c 8 rfl; have q8 := Y0.c 8 rfl; have r8 := Z0.c 8 rfl; have p9 := X0.c 9 rfl; have q9 := Y0.c 9 rfl; have r9 := Z0.c 9 rfl; have p10 := X0.c 10 rfl; have q10 := Y0.c 10 rfl; have r10 := Z0.c 10 rfl; have p11 := X0.c 11 rfl; have q11 := Y0.c 11 rfl; have r11 := Z0.c 11 rfl; clear X0 Y0 Z0
    go_wp2_with fail
    refine (R2 _).mono ?_
    rintro e w2 ⟨rfl, hB⟩
    replace T0 := T0.step hB
    clear hB p0 q0 r0 p1 q1 r1 p2 q2 r2 p3 q3 r3 p4 q4 r4 p5 q5 r5 p6 q6 r6 p7 q7 r7 p8 q8 r8 p9 q9 r9 p10 q10 r10 p11 q11 r11
    by_cases h2 : ptB u v t = true
    · rw [h2]
      have X0 : Blk _ w.heap.size _ := T0.b 0 rfl; have Y0 : Blk _ (w.heap.size + 1) _ := T0.b 1 rfl; have Z0 : Blk _ (w.heap.size + 1 + 1) _ := T0.b 2 rfl; have p0 := X0.c 0 rfl; have q0 := Y0.c 0 rfl; have r0 := Z0.c 0 rfl; have p1 := X0.c 1 rfl; have q1 := Y0.c 1 rfl; have r1 := Z0.c 1 rfl; have p2 := X0.c 2 rfl; have q2 := Y0.c 2 rfl; have r2 := Z0.c 2 rfl; have p3 := X0.c 3 rfl; have q3 := Y0.c 3 rfl; have r3 := Z0.c 3 rfl; have p4 := X0.c 4 rfl; have q4 := Y0.c 4 rfl; have r4 := Z0.c 4 rfl; have p5 := X0.c 5 rfl; have q5 := Y0.c 5 rfl; have r5 := Z0.c 5 rfl; have p6 := X0.c 6 rfl; have q6 := Y0.c 6 rfl; have r6 := Z0.c 6 rfl; have p7 := X0.c 7 rfl; have q7 := Y0.c 7 rfl; have r7 := Z0.c 7 rfl; have p8 := X0.c 8 rfl; have q8 := Y0.c 8 rfl; have r8 := Z0.c 8 rfl; have p9 := X0.c 9 rfl; have q9 := Y0.c 9 rfl; have r9 := Z0.c 9 rfl; have p10 := X0.c 10 rfl; have q10 := Y0.c 10 rfl; have r10 := Z0.c 10 rfl; have p11 := X0.c 11 rfl; have q11 := Y0.c 11 rfl; have r11 := Z0.c 11 rfl; clear X0 Y0 Z0
      go_wp2_with fail
      refine (R3 _).mono ?_
      rintro e w3 ⟨rfl, hB⟩
      replace T0 := T0.step hB
      clear hB p0 q0 r0 p1 q1 r1 p2 q2 r2 p3 q3 r3 p4 q4 r4 p5 q5 r5 p6 q6 r6 p7 q7 r7 p8 q8 r8 p9 q9 r9 p10 q10 r10 p11 q11 r11
      by_cases h3 : ptB a b c = true
      · rw [h3]
        have HO : Hid (oriI x y z u v t a b c = turnI x y z u v t a b c) := by show _ = _; unfold oriI; rw [h1, h2, h3]; rfl
        clear h1 h2 h3 R1 R2 R3
        have tok1 : True := trivial
        have tok2 : True := trivial
        go_upto_region 3 with fail
        go_region_held3 (fun w' => w'.cell? ⟨w.heap.size, 0, none⟩ = some (.int .u64 (ww3 x)) ∧ w'.cell? ⟨w.heap.size, 1, none⟩ = some (.int .u64 (ww2 x)) ∧ w'.cell? ⟨w.heap.size, 2, none⟩ = some (.int .u64 (ww1 x)) ∧ w'.cell? ⟨w.heap.size, 3, none⟩ = some (.int .u64 (ww0 x)) ∧ w'.cell? ⟨w.heap.size, 4, none⟩ = some (.int .u64 (ww3 y)) ∧ w'.cell? ⟨w.heap.size, 5, none⟩ = some (.int .u64 (ww2 y)) ∧ w'.cell? ⟨w.heap.size, 6, none⟩ = some (.int .u64 (ww1 y)) ∧ w'.cell? ⟨w.heap.size, 7, none⟩ = some (.int .u64 (ww0 y)) ∧ w'.cell? ⟨w.heap.size, 8, none⟩ = some (.int .u64 (ww3 z)) ∧ w'.cell? ⟨w.heap.size, 9, none⟩ = some (.int .u64 (ww2 z)) ∧ w'.cell? ⟨w.heap.size, 10, none⟩ = some (.int .u64 (ww1 z)) ∧ w'.cell? ⟨w.heap.size, 11, none⟩ = some (.int .u64 (ww0 z)) ∧ w'.cell? ⟨w.heap.size + 1, 0, none⟩ = some (.int .u64 (ww3 u)) ∧ w'.cell? ⟨w.heap.size + 1, 1, none⟩ = some (.int .u64 (ww2 u)) ∧ w'.cell? ⟨w.heap.size + 1, 2, none⟩ = some (.int .u64 (ww1 u)) ∧ w'.cell? ⟨w.heap.size + 1, 3, none⟩ = some (.int .u64 (ww0 u)) ∧ w'.cell? ⟨w.heap.size + 1, 4, none⟩ = some (.int .u64 (ww3 v)) ∧ w'.cell? ⟨w.heap.size + 1, 5, none⟩ = some (.int .u64 (ww2 v)) ∧ w'.cell? ⟨w.heap.size + 1, 6, none⟩ = some (.int .u64 (ww1 v)) ∧ w'.cell? ⟨w.heap.size + 1, 7, none⟩ = some (.int .u64 (ww0 v)) ∧ w'.cell? ⟨w.heap.size + 1, 8, none⟩ = some (.int .u64 (ww3 t)) ∧ w'.cell? ⟨w.heap.size + 1, 9, none⟩ = some (.int .u64 (ww2 t)) ∧ w'.cell? ⟨w.heap.size + 1, 10, none⟩ = some (.int .u64 (ww1 t)) ∧ w'.cell? ⟨w.heap.size + 1, 11, none⟩ = some (.int .u64 (ww0 t)) ∧ w'.cell? ⟨w.heap.size + 2, 0, none⟩ = some (.int .u64 (ww3 a)) ∧ w'.cell? ⟨w.heap.size + 2, 1, none⟩ = some (.int .u64 (ww2 a)) ∧ w'.cell? ⟨w.heap.size + 2, 2, none⟩ = some (.int .u64 (ww1 a)) ∧ w'.cell? ⟨w.heap.size + 2, 3, none⟩ = some (.int .u64 (ww0 a)) ∧ w'.cell? ⟨w.heap.size + 2, 4, none⟩ = some (.int .u64 (ww3 b)) ∧ w'.cell? ⟨w.heap.size + 2, 5, none⟩ = some (.int .u64 (ww2 b)) ∧ w'.cell? ⟨w.heap.size + 2, 6, none⟩ = some (.int .u64 (ww1 b)) ∧ w'.cell? ⟨w.heap.size + 2, 7, none⟩ = some (.int .u64 (ww0 b)) ∧ w'.cell? ⟨w.heap.size + 2, 8, none⟩ = some (.int .u64 (ww3 c)) ∧ w'.cell? ⟨w.heap.size + 2, 9, none⟩ = some (.int .u64 (ww2 c)) ∧ w'.cell? ⟨w.heap.size + 2, 10, none⟩ = some (.int .u64 (ww1 c)) ∧ w'.cell? ⟨w.heap.size + 2, 11, none⟩ = some (.int .u64 (ww0 c))) (first | (with_reducible exact o3p_cells T0) | (with_reducible exact o3p_cells T0.drew))
          (first
            | (go_at_call 29; have _t := tok1; refine (F1 _).mono ?_; rintro e v1 ⟨ps1, po1, pn1, pc1, pd1, ps2, po2, pn2, pc2, pd2, ps3, po3, pn3, pc3, pd3, rfl, Np1, Np2, Np3, hB⟩; (first | (have T1 := T0.step hB) | (have T1 := T0.drew.step hB)); clear T0; have T0 := T1; clear T1; clear hB tok1 _t)
            | (go_at_call 29; have _t := tok2; refine (F2 _).mono ?_; rintro e v2 ⟨qs1, qo1, qn1, qc1, qd1, qs2, qo2, qn2, qc2, qd2, qs3, qo3, qn3, qc3, qd3, rfl, Nq1, Nq2, Nq3, hB⟩; (first | (have T1 := T0.step hB) | (have T1 := T0.drew.step hB)); clear T0; have T0 := T1; clear T1; replace Np1 := Np1.below hB; replace Np2 := Np2.below hB; replace Np3 := Np3.below hB; clear hB tok2 _t)
            | (go_at_call 29; refine (F3 _).mono ?_; rintro e v3 ⟨rs1, ro1, rn1, rc1, rd1, rs2, ro2, rn2, rc2, rd2, rs3, ro3, rn3, rc3, rd3, rfl, Nr1, Nr2, Nr3, hB⟩; (first | (have T1 := T0.step hB) | (have T1 := T0.drew.step hB)); clear T0; have T0 := T1; clear T1; replace Np1 := Np1.below hB; replace Np2 := Np2.below hB; replace Np3 := Np3.below hB; replace Nq1 := Nq1.below hB; replace Nq2 := Nq2.below hB; replace Nq3 := Nq3.below hB; clear hB)
            | (go_at_call 28; refine (l3Orient_any ps1 ps2 ps3 po1 po2 po3 pn1 pc1 pn2 pc2 pn3 pc3 qs1 qs2 qs3 qo1 qo2 qo3 qn1 qc1 qn2 qc2 qn3 qc3 rs1 rs2 rs3 ro1 ro2 ro3 rn1 rc1 rn2 rc2 rn3 rc3 pd1 pd2 pd3 qd1 qd2 qd3 rd1 rd2 rd3 x y z u v t a b c 8 (by omega) _ Np1 Np2 Np3 Nq1 Nq2 Nq3 Nr1 Nr2 Nr3).mono ?_; rintro e v4 ⟨rfl, hB⟩; (first | (have T1 := T0.step hB) | (have T1 := T0.drew.step hB)); clear T0; have T0 := T1; clear T1; clear hB))
        all_goals have HB := T0.below
        all_goals clear T0
        all_goals go_wp2
        all_goals go_ret
        all_goals exact ⟨by rw [HO.out]; rfl, by first | exact HB | exact HB.drew⟩
      · replace h3 := Bool.eq_false_iff.2 h3
        rw [h3]
        have HO : Hid (oriI x y z u v t a b c = 0) := by show _ = _; unfold oriI; rw [h3]; simp
        have HB := T0.below
        clear T0 h1 h2 h3 R1 R2 R3
        go_wp2
        go_ret
        exact ⟨by rw [HO.out]; rfl, HB⟩
    · replace h2 := Bool.eq_false_iff.2 h2
      rw [h2]
      have HO : Hid (oriI x y z u v t a b c = 0) := by show _ = _; unfold oriI; rw [h2]; simp
      have HB := T0.below
      clear T0 h1 h2 R1 R2 R3
      go_wp2
      go_ret
      exact ⟨by rw [HO.out]; rfl, HB⟩
  · replace h1 := Bool.eq_false_iff.2 h1
    rw [h1]
    have HO : Hid (oriI x y z u v t a b c = 0) := by show _ = _; unfold oriI; rw [h1]; simp
    have HB := T0.below
    clear T0 h1 R1 R2 R3
    go_wp2
    go_ret
    exact ⟨by rw [HO.out]; rfl, HB⟩
end Go.Proofs.Ytgmenloipiedeaa
