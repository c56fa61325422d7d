/- The square of the distance of two points: the program's walk. -/
import Derived.Test.YtckbhihdhcgaeaaPtU
import Derived.Test.YtckbhihdhcgaeaaBase9
namespace Go.Proofs.Ytckbhihdhcgaeaa
open Go.RowKit
theorem lowest_det (x y : Int) (hx : LR x) (hy : LR y) (hx' : -6703903964971298549787012499102923063739682910296196688861780721860882015036773488400937149083451713845015929093243025426876941405973284973216824503042048 < x) (hy' : -6703903964971298549787012499102923063739682910296196688861780721860882015036773488400937149083451713845015929093243025426876941405973284973216824503042048 < y) (w : World) : Calls Try.prog 88 #[.agg #[.int .u64 (lw0 x), .int .u64 (lw1 x), .int .u64 (lw2 x), .int .u64 (lw3 x), .int .u64 (lw4 x), .int .u64 (lw5 x), .int .u64 (lw6 x), .int .u64 (lw7 x), .int .u64 (lw0 y), .int .u64 (lw1 y), .int .u64 (lw2 y), .int .u64 (lw3 y), .int .u64 (lw4 y), .int .u64 (lw5 y), .int .u64 (lw6 y), .int .u64 (lw7 y)]] w (VP (ratV x y) w) := by
  have h := lowest_any (lw0 x) (lw1 x) (lw2 x) (lw3 x) (lw4 x) (lw5 x) (lw6 x) (lw7 x) (lw0 y) (lw1 y) (lw2 y) (lw3 y) (lw4 y) (lw5 y) (lw6 y) (lw7 y) (lw_words x) (lw_words y) (by rw [lw_sl hx]; exact hx') (by rw [lw_sl hy]; exact hy') w
  rw [lw_sl hx, lw_sl hy] at h
  exact h
/-- The square of the distance as a fraction in lowest terms, and true; of points that are not right: zeros, and false. -/
def distV (x y z u v t : Int) : Value := if ptB x y z && ptB u v t then ratV ((x * t - z * u) * (x * t - z * u) + (y * t - z * v) * (y * t - z * v)) (z * t * (z * t)) else .tuple #[.agg #[.int .u64 0, .int .u64 0, .int .u64 0, .int .u64 0, .int .u64 0, .int .u64 0, .int .u64 0, .int .u64 0], .bool false]
theorem distV_ex (x y z u v t : Int) : ∃ z0 z1 z2 z3 z4 z5 z6 z7 f, distV x y z u v t = .tuple #[.agg #[.int .u64 z0, .int .u64 z1, .int .u64 z2, .int .u64 z3, .int .u64 z4, .int .u64 z5, .int .u64 z6, .int .u64 z7], .bool f] := by
  unfold distV
  split
  · exact ratV_ex _ _
  · exact ⟨0, 0, 0, 0, 0, 0, 0, 0, false, rfl⟩
theorem dt_cells {X Y W' : Int} {W : World} {gX gY gW : Nat} (BX : Blk W gX [.int .u64 (ww3 X), .int .u64 (ww2 X), .int .u64 (ww1 X), .int .u64 (ww0 X)]) (BY : Blk W gY [.int .u64 (ww3 Y), .int .u64 (ww2 Y), .int .u64 (ww1 Y), .int .u64 (ww0 Y)]) (BW : Blk W gW [.int .u64 (ww3 W'), .int .u64 (ww2 W'), .int .u64 (ww1 W'), .int .u64 (ww0 W')]) : (fun w' => w'.cell? ⟨gX, 0, none⟩ = some (.int .u64 (ww3 X)) ∧ w'.cell? ⟨gX, 1, none⟩ = some (.int .u64 (ww2 X)) ∧ w'.cell? ⟨gX, 2, none⟩ = some (.int .u64 (ww1 X)) ∧ w'.cell? ⟨gX, 3, none⟩ = some (.int .u64 (ww0 X)) ∧ w'.cell? ⟨gY, 0, none⟩ = some (.int .u64 (ww3 Y)) ∧ w'.cell? ⟨gY, 1, none⟩ = some (.int .u64 (ww2 Y)) ∧ w'.cell? ⟨gY, 2, none⟩ = some (.int .u64 (ww1 Y)) ∧ w'.cell? ⟨gY, 3, none⟩ = some (.int .u64 (ww0 Y)) ∧ w'.cell? ⟨gW, 0, none⟩ = some (.int .u64 (ww3 W')) ∧ w'.cell? ⟨gW, 1, none⟩ = some (.int .u64 (ww2 W')) ∧ w'.cell? ⟨gW, 2, none⟩ = some (.int .u64 (ww1 W')) ∧ w'.cell? ⟨gW, 3, none⟩ = some (.int .u64 (ww0 W'))) W := ⟨BX.c 0 rfl, BX.c 1 rfl, BX.c 2 rfl, BX.c 3 rfl, BY.c 0 rfl, BY.c 1 rfl, BY.c 2 rfl, BY.c 3 rfl, BW.c 0 rfl, BW.c 1 rfl, BW.c 2 rfl, BW.c 3 rfl⟩
theorem dt_cells8 {X Y W' : Int} {W : World} {gX gY gW g : Nat} {v0 v1 v2 v3 v4 v5 v6 v7 : Value} (BX : Blk W gX [.int .u64 (ww3 X), .int .u64 (ww2 X), .int .u64 (ww1 X), .int .u64 (ww0 X)]) (BY : Blk W gY [.int .u64 (ww3 Y), .int .u64 (ww2 Y), .int .u64 (ww1 Y), .int .u64 (ww0 Y)]) (BW : Blk W gW [.int .u64 (ww3 W'), .int .u64 (ww2 W'), .int .u64 (ww1 W'), .int .u64 (ww0 W')]) (hX : gX ≠ g) (hY : gY ≠ g) (hW : gW ≠ g) : (fun w' => w'.cell? ⟨gX, 0, none⟩ = some (.int .u64 (ww3 X)) ∧ w'.cell? ⟨gX, 1, none⟩ = some (.int .u64 (ww2 X)) ∧ w'.cell? ⟨gX, 2, none⟩ = some (.int .u64 (ww1 X)) ∧ w'.cell? ⟨gX, 3, none⟩ = some (.int .u64 (ww0 X)) ∧ w'.cell? ⟨gY, 0, none⟩ = some (.int .u64 (ww3 Y)) ∧ w'.cell? ⟨gY, 1, none⟩ = some (.int .u64 (ww2 Y)) ∧ w'.cell? ⟨gY, 2, none⟩ = some (.int .u64 (ww1 Y)) ∧ w'.cell? ⟨gY, 3, none⟩ = some (.int .u64 (ww0 Y)) ∧ w'.cell? ⟨gW, 0, none⟩ = some (.int .u64 (ww3 W')) ∧ w'.cell? ⟨gW, 1, none⟩ = some (.int .u64 (ww2 W')) ∧ w'.cell? ⟨gW, 2, none⟩ = some (.int .u64 (ww1 W')) ∧ w'.cell? ⟨gW, 3, none⟩ = some (.int .u64 (ww0 W'))) ((((((((W.setCell ⟨g, 0, none⟩ v0).setCell ⟨g, 1, none⟩ v1).setCell ⟨g, 2, none⟩ v2).setCell ⟨g, 3, none⟩ v3).setCell ⟨g, 4, none⟩ v4).setCell ⟨g, 5, none⟩ v5).setCell ⟨g, 6, none⟩ v6).setCell ⟨g, 7, none⟩ v7) := ⟨(BX.set8 hX).c 0 rfl, (BX.set8 hX).c 1 rfl, (BX.set8 hX).c 2 rfl, (BX.set8 hX).c 3 rfl, (BY.set8 hY).c 0 rfl, (BY.set8 hY).c 1 rfl, (BY.set8 hY).c 2 rfl, (BY.set8 hY).c 3 rfl, (BW.set8 hW).c 0 rfl, (BW.set8 hW).c 1 rfl, (BW.set8 hW).c 2 rfl, (BW.set8 hW).c 3 rfl⟩
theorem sq_abs {a : Int} {m : Nat} (h : a.natAbs ≤ m) : (a * a).natAbs ≤ m * m := abs_mul h h
set_option maxRecDepth 100000 in
set_option maxHeartbeats 8000000 in
theorem implDist2_det (x y z u v t : Int) (hx : told x = true) (hy : told y = true) (hz : told z = true) (hu : told u = true) (hv : told v = true) (ht : told t = true) (w : World) : Calls Try.prog 31 #[PV x y z, PV u v t] w (VP (distV x y z u v t) w) := by
  have T0 : ArgsB w (((w.alloc (.cells #[.int .u64 (ww3 x), .int .u64 (ww2 x), .int .u64 (ww1 x), .int .u64 (ww0 x), .int .u64 (ww3 y), .int .u64 (ww2 y), .int .u64 (ww1 y), .int .u64 (ww0 y), .int .u64 (ww3 z), .int .u64 (ww2 z), .int .u64 (ww1 z), .int .u64 (ww0 z)] 30)).alloc (.cells #[.int .u64 (ww3 u), .int .u64 (ww2 u), .int .u64 (ww1 u), .int .u64 (ww0 u), .int .u64 (ww3 v), .int .u64 (ww2 v), .int .u64 (ww1 v), .int .u64 (ww0 v), .int .u64 (ww3 t), .int .u64 (ww2 t), .int .u64 (ww1 t), .int .u64 (ww0 t)] 30)).alloc (.cells #[.int .u64 0, .int .u64 0, .int .u64 0, .int .u64 0, .int .u64 0, .int .u64 0, .int .u64 0, .int .u64 0] 44)) [[.int .u64 (ww3 x), .int .u64 (ww2 x), .int .u64 (ww1 x), .int .u64 (ww0 x), .int .u64 (ww3 y), .int .u64 (ww2 y), .int .u64 (ww1 y), .int .u64 (ww0 y), .int .u64 (ww3 z), .int .u64 (ww2 z), .int .u64 (ww1 z), .int .u64 (ww0 z)], [.int .u64 (ww3 u), .int .u64 (ww2 u), .int .u64 (ww1 u), .int .u64 (ww0 u), .int .u64 (ww3 v), .int .u64 (ww2 v), .int .u64 (ww1 v), .int .u64 (ww0 v), .int .u64 (ww3 t), .int .u64 (ww2 t), .int .u64 (ww1 t), .int .u64 (ww0 t)], [.int .u64 0, .int .u64 0, .int .u64 0, .int .u64 0, .int .u64 0, .int .u64 0, .int .u64 0, .int .u64 0]] := ar3 _ _ _ _ _ _ w
  have R1 := pright_det x y z hx hy hz
  have R2 := pright_det u v t hu hv ht
  clear hx hy hz hu hv ht
  go_enter Try.func31, Try.ntmps31
  go_wp2_with fail
  generalize (((w.alloc (.cells #[.int .u64 (ww3 x), .int .u64 (ww2 x), .int .u64 (ww1 x), .int .u64 (ww0 x), .int .u64 (ww3 y), .int .u64 (ww2 y), .int .u64 (ww1 y), .int .u64 (ww0 y), .int .u64 (ww3 z), .int .u64 (ww2 z), .int .u64 (ww1 z), .int .u64 (ww0 z)] 30)).alloc (.cells #[.int .u64 (ww3 u), .int .u64 (ww2 u), .int .u64 (ww1 u), .int .u64 (ww0 u), .int .u64 (ww3 v), .int .u64 (ww2 v), .int .u64 (ww1 v), .int .u64 (ww0 v), .int .u64 (ww3 t), .int .u64 (ww2 t), .int .u64 (ww1 t), .int .u64 (ww0 t)] 30)).alloc (.cells #[.int .u64 0, .int .u64 0, .int .u64 0, .int .u64 0, .int .u64 0, .int .u64 0, .int .u64 0, .int .u64 0] 44)) = WW at *
  refine (R1 _).mono ?_
  rintro e w1 ⟨rfl, hB⟩
  replace T0 := T0.step hB
  clear hB
  by_cases h1 : ptB x y z = true
  · rw [h1]
    have X0 : Blk _ w.heap.size _ := T0.b 0 rfl; have Y0 : Blk _ (w.heap.size + 1) _ := T0.b 1 rfl; have p0 := X0.c 0 rfl; have q0 := Y0.c 0 rfl; have p1 := X0.c 1 rfl; have q1 := Y0.c 1 rfl; have p2 := X0.c 2 rfl; have q2 := Y0.c 2 rfl; have p3 := X0.c 3 rfl; have q3 := Y0.c 3 rfl; have p4 := X0.c 4 rfl; have q4 := Y0.c 4 rfl; have p5 := X0.c 5 rfl; have q5 := Y0.c 5 rfl; have p6 := X0.c 6 rfl; have q6 := Y0.c 6 rfl; have p7 := X0.c 7 rfl; have q7 := Y0.c 7 rfl; have p8 := X0.c 8 rfl; have q8 := Y0.c 8 rfl; have p9 := X0.c 9 rfl; have q9 := Y0.c 9 rfl; have p10 := X0.c 10 rfl; have q10 := Y0.c 10 rfl; have p11 := X0.c 11 rfl; have q11 := Y0.c 11 rfl; clear X0 Y0
    go_wp2_with fail
    refine (R2 _).mono ?_
    rintro e w2 ⟨rfl, hB⟩
    replace T0 := T0.step hB
    clear hB p0 q0 p1 q1 p2 q2 p3 q3 p4 q4 p5 q5 p6 q6 p7 q7 p8 q8 p9 q9 p10 q10 p11 q11
    by_cases h2 : ptB u v t = true
    · rw [h2]
      obtain ⟨-, sx, sy, sz⟩ := ptB_small h1
      obtain ⟨-, su, sv, st⟩ := ptB_small h2
      have HO : Hid (distV x y z u v t = ratV ((x * t - z * u) * (x * t - z * u) + (y * t - z * v) * (y * t - z * v)) (z * t * (z * t))) := by show _ = _; unfold distV; rw [h1, h2]; rfl
      have C1 := minor_sm x z u t sx sz su st
      have C2 := minor_sm y z v t sy sz sv st
      have m1 := minor_abs sx sz su st
      have m2 := minor_abs sy sz sv st
      have m3 := sm_prod sz st
      have C3 := times_det z t (told_small sz) (told_small st)
      have C4 := toldI_det (z * t) (told_of (by omega))
      clear h1 h2 R1 R2 sx sy sz su sv st
      generalize x * t - z * u = X at *
      generalize y * t - z * v = Y at *
      generalize z * t = W at *
      have n1 := sq_abs m1
      have n2 := sq_abs m2
      have n3 := sq_abs m3
      have D1 := times_det X X (told_of (by omega)) (told_of (by omega))
      have D2 := times_det Y Y (told_of (by omega)) (told_of (by omega))
      have D3 := times_det W W (told_of (by omega)) (told_of (by omega))
      clear m1 m2 m3
      generalize X * X = XX at *
      generalize Y * Y = YY at *
      generalize W * W = WX at *
      have D4 := plus_det XX YY (lr_abs (by omega)) (lr_abs (by omega)) (lr_abs (by omega))
      have D5 := lowest_det (XX + YY) WX (lr_abs (by omega)) (lr_abs (by omega)) (by omega) (by omega)
      clear n1 n2 n3
      obtain ⟨z0, z1, z2, z3, z4, z5, z6, z7, f, hf⟩ := ratV_ex (XX + YY) WX
      rw [hf] at D5 HO
      clear hf
      generalize XX + YY = AA at *
      have X0 : Blk _ w.heap.size _ := T0.b 0 rfl; have Y0 : Blk _ (w.heap.size + 1) _ := T0.b 1 rfl; have p0 := X0.c 0 rfl; have q0 := Y0.c 0 rfl; have p1 := X0.c 1 rfl; have q1 := Y0.c 1 rfl; have p2 := X0.c 2 rfl; have q2 := Y0.c 2 rfl; have p3 := X0.c 3 rfl; have q3 := Y0.c 3 rfl; have p4 := X0.c 4 rfl; have q4 := Y0.c 4 rfl; have p5 := X0.c 5 rfl; have q5 := Y0.c 5 rfl; have p6 := X0.c 6 rfl; have q6 := Y0.c 6 rfl; have p7 := X0.c 7 rfl; have q7 := Y0.c 7 rfl; have p8 := X0.c 8 rfl; have q8 := Y0.c 8 rfl; have p9 := X0.c 9 rfl; have q9 := Y0.c 9 rfl; have p10 := X0.c 10 rfl; have q10 := Y0.c 10 rfl; have p11 := X0.c 11 rfl; have q11 := Y0.c 11 rfl; clear X0 Y0
      go_wp2_with fail
      refine (C1 _).mono ?_
      rintro e w3 ⟨rfl, hB⟩
      have hgX : w.heap.size + 2 < w3.heap.size := ((T0.step hB).b 2 rfl).lt
      replace T0 := (T0.step hB).alloc (.cells #[.int .u64 (ww3 X), .int .u64 (ww2 X), .int .u64 (ww1 X), .int .u64 (ww0 X)] 28)
      have BX := Blk.new w3 [.int .u64 (ww3 X), .int .u64 (ww2 X), .int .u64 (ww1 X), .int .u64 (ww0 X)] 28 rfl
      clear hB p0 q0 p1 q1 p2 q2 p3 q3 p4 q4 p5 q5 p6 q6 p7 q7 p8 q8 p9 q9 p10 q10 p11 q11 C1
      have X0 : Blk _ w.heap.size _ := T0.b 0 rfl; have Y0 : Blk _ (w.heap.size + 1) _ := T0.b 1 rfl; have p0 := X0.c 0 rfl; have q0 := Y0.c 0 rfl; have p1 := X0.c 1 rfl; have q1 := Y0.c 1 rfl; have p2 := X0.c 2 rfl; have q2 := Y0.c 2 rfl; have p3 := X0.c 3 rfl; have q3 := Y0.c 3 rfl; have p4 := X0.c 4 rfl; have q4 := Y0.c 4 rfl; have p5 := X0.c 5 rfl; have q5 := Y0.c 5 rfl; have p6 := X0.c 6 rfl; have q6 := Y0.c 6 rfl; have p7 := X0.c 7 rfl; have q7 := Y0.c 7 rfl; have p8 := X0.c 8 rfl; have q8 := Y0.c 8 rfl; have p9 := X0.c 9 rfl; have q9 := Y0.c 9 rfl; have p10 := X0.c 10 rfl; have q10 := Y0.c 10 rfl; have p11 := X0.c 11 rfl; have q11 := Y0.c 11 rfl; clear X0 Y0
      go_wp2_with fail
      generalize w3.heap.size = gX at *
      refine (C2 _).mono ?_
      rintro e w4 ⟨rfl, hB⟩
      have hgY : w.heap.size + 2 < w4.heap.size := ((T0.step hB).b 2 rfl).lt
      replace T0 := (T0.step hB).alloc (.cells #[.int .u64 (ww3 Y), .int .u64 (ww2 Y), .int .u64 (ww1 Y), .int .u64 (ww0 Y)] 28)
      replace BX := (BX.step hB).alloc (.cells #[.int .u64 (ww3 Y), .int .u64 (ww2 Y), .int .u64 (ww1 Y), .int .u64 (ww0 Y)] 28)
      have BY := Blk.new w4 [.int .u64 (ww3 Y), .int .u64 (ww2 Y), .int .u64 (ww1 Y), .int .u64 (ww0 Y)] 28 rfl
      clear hB p0 q0 p1 q1 p2 q2 p3 q3 p4 q4 p5 q5 p6 q6 p7 q7 p8 q8 p9 q9 p10 q10 p11 q11 C2
      have X0 : Blk _ w.heap.size _ := T0.b 0 rfl; have Y0 : Blk _ (w.heap.size + 1) _ := T0.b 1 rfl; have p0 := X0.c 0 rfl; have q0 := Y0.c 0 rfl; have p1 := X0.c 1 rfl; have q1 := Y0.c 1 rfl; have p2 := X0.c 2 rfl; have q2 := Y0.c 2 rfl; have p3 := X0.c 3 rfl; have q3 := Y0.c 3 rfl; have p4 := X0.c 4 rfl; have q4 := Y0.c 4 rfl; have p5 := X0.c 5 rfl; have q5 := Y0.c 5 rfl; have p6 := X0.c 6 rfl; have q6 := Y0.c 6 rfl; have p7 := X0.c 7 rfl; have q7 := Y0.c 7 rfl; have p8 := X0.c 8 rfl; have q8 := Y0.c 8 rfl; have p9 := X0.c 9 rfl; have q9 := Y0.c 9 rfl; have p10 := X0.c 10 rfl; have q10 := Y0.c 10 rfl; have p11 := X0.c 11 rfl; have q11 := Y0.c 11 rfl; clear X0 Y0
      go_wp2_with fail
      generalize w4.heap.size = gY at *
      refine (C3 _).mono ?_
      rintro e w5 ⟨rfl, hB⟩
      replace T0 := T0.step hB
      replace BX := BX.step hB
      replace BY := BY.step hB
      clear hB p0 q0 p1 q1 p2 q2 p3 q3 p4 q4 p5 q5 p6 q6 p7 q7 p8 q8 p9 q9 p10 q10 p11 q11 C3
      go_wp2_with fail
      refine (C4 _).mono ?_
      rintro e w6 ⟨rfl, hB⟩
      have hgW : w.heap.size + 2 < w6.heap.size := ((T0.step hB).b 2 rfl).lt
      replace T0 := (T0.step hB).alloc (.cells #[.int .u64 (ww3 W), .int .u64 (ww2 W), .int .u64 (ww1 W), .int .u64 (ww0 W)] 28)
      replace BX := (BX.step hB).alloc (.cells #[.int .u64 (ww3 W), .int .u64 (ww2 W), .int .u64 (ww1 W), .int .u64 (ww0 W)] 28)
      replace BY := (BY.step hB).alloc (.cells #[.int .u64 (ww3 W), .int .u64 (ww2 W), .int .u64 (ww1 W), .int .u64 (ww0 W)] 28)
      have BW := Blk.new w6 [.int .u64 (ww3 W), .int .u64 (ww2 W), .int .u64 (ww1 W), .int .u64 (ww0 W)] 28 rfl
      clear hB C4
      have tok1 : True := trivial
      have tok2 : True := trivial
      go_upto_region 6 with fail
      generalize w6.alloc (.cells #[.int .u64 (ww3 W), .int .u64 (ww2 W), .int .u64 (ww1 W), .int .u64 (ww0 W)] 28) = W6 at *
      generalize w6.heap.size = gW at *
      go_region_held3 (fun w' => w'.cell? ⟨gX, 0, none⟩ = some (.int .u64 (ww3 X)) ∧ w'.cell? ⟨gX, 1, none⟩ = some (.int .u64 (ww2 X)) ∧ w'.cell? ⟨gX, 2, none⟩ = some (.int .u64 (ww1 X)) ∧ w'.cell? ⟨gX, 3, none⟩ = some (.int .u64 (ww0 X)) ∧ w'.cell? ⟨gY, 0, none⟩ = some (.int .u64 (ww3 Y)) ∧ w'.cell? ⟨gY, 1, none⟩ = some (.int .u64 (ww2 Y)) ∧ w'.cell? ⟨gY, 2, none⟩ = some (.int .u64 (ww1 Y)) ∧ w'.cell? ⟨gY, 3, none⟩ = some (.int .u64 (ww0 Y)) ∧ w'.cell? ⟨gW, 0, none⟩ = some (.int .u64 (ww3 W)) ∧ w'.cell? ⟨gW, 1, none⟩ = some (.int .u64 (ww2 W)) ∧ w'.cell? ⟨gW, 2, none⟩ = some (.int .u64 (ww1 W)) ∧ w'.cell? ⟨gW, 3, none⟩ = some (.int .u64 (ww0 W))) (first | (with_reducible exact dt_cells BX BY BW) | (with_reducible exact dt_cells BX.drew BY.drew BW.drew) | (with_reducible exact dt_cells8 BX BY BW (by omega) (by omega) (by omega)))
        (first
          | (go_at_call 86; have _t := tok1; refine (D1 _).mono ?_; rintro e k1 ⟨rfl, hB⟩; (first | (replace BX := BX.step hB; replace BY := BY.step hB; replace BW := BW.step hB; replace T0 := T0.step hB) | (replace BX := BX.drew.step hB; replace BY := BY.drew.step hB; replace BW := BW.drew.step hB; replace T0 := T0.drew.step hB)); clear hB; clear tok1 _t)
          | (go_at_call 86; have _t := tok2; refine (D2 _).mono ?_; rintro e k2 ⟨rfl, hB⟩; (first | (replace BX := BX.step hB; replace BY := BY.step hB; replace BW := BW.step hB; replace T0 := T0.step hB) | (replace BX := BX.drew.step hB; replace BY := BY.drew.step hB; replace BW := BW.drew.step hB; replace T0 := T0.drew.step hB)); clear hB; clear tok2 _t)
          | (go_at_call 86; refine (D3 _).mono ?_; rintro e k3 ⟨rfl, hB⟩; (first | (replace BX := BX.step hB; replace BY := BY.step hB; replace BW := BW.step hB; replace T0 := T0.step hB) | (replace BX := BX.drew.step hB; replace BY := BY.drew.step hB; replace BW := BW.drew.step hB; replace T0 := T0.drew.step hB)); clear hB)
          | (go_at_call 87; refine (D4 _).mono ?_; rintro e k4 ⟨rfl, hB⟩; (first | (replace BX := BX.step hB; replace BY := BY.step hB; replace BW := BW.step hB; replace T0 := T0.step hB) | (replace BX := BX.drew.step hB; replace BY := BY.drew.step hB; replace BW := BW.drew.step hB; replace T0 := T0.drew.step hB)); clear hB)
          | (go_at_call 88; refine (D5 _).mono ?_; rintro e k5 ⟨rfl, hB⟩; (first | (replace BX := BX.step hB; replace BY := BY.step hB; replace BW := BW.step hB; replace T0 := T0.step hB) | (replace BX := BX.drew.step hB; replace BY := BY.drew.step hB; replace BW := BW.drew.step hB; replace T0 := T0.drew.step hB)); clear hB; have o0 := (T0.b 2 rfl).c 0 rfl; have r0 := (T0.b 2 rfl).f 0 rfl; have o1 := (T0.b 2 rfl).c 1 rfl; have r1 := (T0.b 2 rfl).f 1 rfl; have o2 := (T0.b 2 rfl).c 2 rfl; have r2 := (T0.b 2 rfl).f 2 rfl; have o3 := (T0.b 2 rfl).c 3 rfl; have r3 := (T0.b 2 rfl).f 3 rfl; have o4 := (T0.b 2 rfl).c 4 rfl; have r4 := (T0.b 2 rfl).f 4 rfl; have o5 := (T0.b 2 rfl).c 5 rfl; have r5 := (T0.b 2 rfl).f 5 rfl; have o6 := (T0.b 2 rfl).c 6 rfl; have r6 := (T0.b 2 rfl).f 6 rfl; have o7 := (T0.b 2 rfl).c 7 rfl; have r7 := (T0.b 2 rfl).f 7 rfl; have olt := (T0.b 2 rfl).lt))
      all_goals have HB := T0.below
      all_goals clear BX BY BW T0
      all_goals go_wp2
      all_goals refine bodyPost_ret (v := .tuple #[.agg #[.int .u64 z0, .int .u64 z1, .int .u64 z2, .int .u64 z3, .int .u64 z4, .int .u64 z5, .int .u64 z6, .int .u64 z7], .bool f]) (by simp [results, Try.results31, go_sem, o0, o1, o2, o3, o4, o5, o6, o7]) rfl ?_
      all_goals refine ⟨by rw [HO.out], ?_⟩
      all_goals repeat' (refine Below.setCell ?_ (by simp; try omega) _)
      all_goals first | exact HB | exact HB.drew
    · replace h2 := Bool.eq_false_iff.2 h2
      rw [h2]
      have HO : Hid (distV x y z u v t = .tuple #[.agg #[.int .u64 0, .int .u64 0, .int .u64 0, .int .u64 0, .int .u64 0, .int .u64 0, .int .u64 0, .int .u64 0], .bool false]) := by show _ = _; unfold distV; rw [h2]; simp
      have o0 := (T0.b 2 rfl).c 0 rfl; have r0 := (T0.b 2 rfl).f 0 rfl; have o1 := (T0.b 2 rfl).c 1 rfl; have r1 := (T0.b 2 rfl).f 1 rfl; have o2 := (T0.b 2 rfl).c 2 rfl; have r2 := (T0.b 2 rfl).f 2 rfl; have o3 := (T0.b 2 rfl).c 3 rfl; have r3 := (T0.b 2 rfl).f 3 rfl; have o4 := (T0.b 2 rfl).c 4 rfl; have r4 := (T0.b 2 rfl).f 4 rfl; have o5 := (T0.b 2 rfl).c 5 rfl; have r5 := (T0.b 2 rfl).f 5 rfl; have o6 := (T0.b 2 rfl).c 6 rfl; have r6 := (T0.b 2 rfl).f 6 rfl; have o7 := (T0.b 2 rfl).c 7 rfl; have r7 := (T0.b 2 rfl).f 7 rfl; have olt := (T0.b 2 rfl).lt
      have HB := T0.below
      clear T0 h1 h2 R1 R2
      go_wp2
      refine bodyPost_ret (v := .tuple #[.agg #[.int .u64 0, .int .u64 0, .int .u64 0, .int .u64 0, .int .u64 0, .int .u64 0, .int .u64 0, .int .u64 0], .bool false]) (by simp [results, Try.results31, go_sem, o0, o1, o2, o3, o4, o5, o6, o7]) rfl ?_
      refine ⟨by rw [HO.out], ?_⟩
      repeat' (refine Below.setCell ?_ (by simp; try omega) _)
      exact HB
  · replace h1 := Bool.eq_false_iff.2 h1
    rw [h1]
    have HO : Hid (distV x y z u v t = .tuple #[.agg #[.int .u64 0, .int .u64 0, .int .u64 0, .int .u64 0, .int .u64 0, .int .u64 0, .int .u64 0, .int .u64 0], .bool false]) := by show _ = _; unfold distV; rw [h1]; simp
    have o0 := (T0.b 2 rfl).c 0 rfl; have r0 := (T0.b 2 rfl).f 0 rfl; have o1 := (T0.b 2 rfl).c 1 rfl; have r1 := (T0.b 2 rfl).f 1 rfl; have o2 := (T0.b 2 rfl).c 2 rfl; have r2 := (T0.b 2 rfl).f 2 rfl; have o3 := (T0.b 2 rfl).c 3 rfl; have r3 := (T0.b 2 rfl).f 3 rfl; have o4 := (T0.b 2 rfl).c 4 rfl; have r4 := (T0.b 2 rfl).f 4 rfl; have o5 := (T0.b 2 rfl).c 5 rfl; have r5 := (T0.b 2 rfl).f 5 rfl; have o6 := (T0.b 2 rfl).c 6 rfl; have r6 := (T0.b 2 rfl).f 6 rfl; have o7 := (T0.b 2 rfl).c 7 rfl; have r7 := (T0.b 2 rfl).f 7 rfl; have olt := (T0.b 2 rfl).lt
    have HB := T0.below
    clear T0 h1 R1 R2
    go_wp2
    refine bodyPost_ret (v := .tuple #[.agg #[.int .u64 0, .int .u64 0, .int .u64 0, .int .u64 0, .int .u64 0, .int .u64 0, .int .u64 0, .int .u64 0], .bool false]) (by simp [results, Try.results31, go_sem, o0, o1, o2, o3, o4, o5, o6, o7]) rfl ?_
    refine ⟨by rw [HO.out], ?_⟩
    repeat' (refine Below.setCell ?_ (by simp; try omega) _)
    exact HB
end Go.Proofs.Ytckbhihdhcgaeaa
