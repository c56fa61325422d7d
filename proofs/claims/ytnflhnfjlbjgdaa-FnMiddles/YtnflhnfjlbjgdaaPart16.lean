/- Part 16 of the walks that the proof leans on. -/
import Derived.Test.YtnflhnfjlbjgdaaPart9
import Derived.Test.YtnflhnfjlbjgdaaPart15
/- Fractions of two numbers: the program's, the model's; and when two fractions are one. -/
namespace Go.Proofs.Ytnflhnfjlbjgdaa
open Go.RowKit
theorem ratV_ex (x y : Int) : ∃ z0 z1 z2 z3 z4 z5 z6 z7 : Int, ∃ t : Bool, ratV x y = .tuple #[.agg #[.int .u64 z0, .int .u64 z1, .int .u64 z2, .int .u64 z3, .int .u64 z4, .int .u64 z5, .int .u64 z6, .int .u64 z7], .bool t] := by
  unfold ratV
  split
  · exact ⟨_, _, _, _, _, _, _, _, _, rfl⟩
  · exact ⟨_, _, _, _, _, _, _, _, _, rfl⟩
end Go.Proofs.Ytnflhnfjlbjgdaa

/- The square of the distance of two points: the program's walk. -/
namespace Go.Proofs.Ytnflhnfjlbjgdaa
open Go.RowKit
theorem lowest_det (x y : Int) (hx : LR x) (hy : LR y) (hx' : -6703903964971298549787012499102923063739682910296196688861780721860882015036773488400937149083451713845015929093243025426876941405973284973216824503042048 < x) (hy' : -6703903964971298549787012499102923063739682910296196688861780721860882015036773488400937149083451713845015929093243025426876941405973284973216824503042048 < y) (w : World) : Calls Try.prog 41 #[.agg #[.int .u64 (lw0 x), .int .u64 (lw1 x), .int .u64 (lw2 x), .int .u64 (lw3 x), .int .u64 (lw4 x), .int .u64 (lw5 x), .int .u64 (lw6 x), .int .u64 (lw7 x), .int .u64 (lw0 y), .int .u64 (lw1 y), .int .u64 (lw2 y), .int .u64 (lw3 y), .int .u64 (lw4 y), .int .u64 (lw5 y), .int .u64 (lw6 y), .int .u64 (lw7 y)]] w (VP (ratV x y) w) := by
  have h := lowest_any (lw0 x) (lw1 x) (lw2 x) (lw3 x) (lw4 x) (lw5 x) (lw6 x) (lw7 x) (lw0 y) (lw1 y) (lw2 y) (lw3 y) (lw4 y) (lw5 y) (lw6 y) (lw7 y) (lw_words x) (lw_words y) (by rw [lw_sl hx]; exact hx') (by rw [lw_sl hy]; exact hy') w
  rw [lw_sl hx, lw_sl hy] at h
  exact h
/-- The square of the distance as a fraction in lowest terms, and true; of points that are not right: zeros, and false. -/
def distV (x y z u v t : Int) : Value := if ptB x y z && ptB u v t then ratV ((x * t - z * u) * (x * t - z * u) + (y * t - z * v) * (y * t - z * v)) (z * t * (z * t)) else .tuple #[.agg #[.int .u64 0, .int .u64 0, .int .u64 0, .int .u64 0, .int .u64 0, .int .u64 0, .int .u64 0, .int .u64 0], .bool false]
theorem dt_cells {X Y W' : Int} {W : World} {gX gY gW : Nat} (BX : Blk W gX [.int .u64 (ww3 X), .int .u64 (ww2 X), .int .u64 (ww1 X), .int .u64 (ww0 X)]) (BY : Blk W gY [.int .u64 (ww3 Y), .int .u64 (ww2 Y), .int .u64 (ww1 Y), .int .u64 (ww0 Y)]) (BW : Blk W gW [.int .u64 (ww3 W'), .int .u64 (ww2 W'), .int .u64 (ww1 W'), .int .u64 (ww0 W')]) : (fun w' => w'.cell? ⟨gX, 0, none⟩ = some (.int .u64 (ww3 X)) ∧ w'.cell? ⟨gX, 1, none⟩ = some (.int .u64 (ww2 X)) ∧ w'.cell? ⟨gX, 2, none⟩ = some (.int .u64 (ww1 X)) ∧ w'.cell? ⟨gX, 3, none⟩ = some (.int .u64 (ww0 X)) ∧ w'.cell? ⟨gY, 0, none⟩ = some (.int .u64 (ww3 Y)) ∧ w'.cell? ⟨gY, 1, none⟩ = some (.int .u64 (ww2 Y)) ∧ w'.cell? ⟨gY, 2, none⟩ = some (.int .u64 (ww1 Y)) ∧ w'.cell? ⟨gY, 3, none⟩ = some (.int .u64 (ww0 Y)) ∧ w'.cell? ⟨gW, 0, none⟩ = some (.int .u64 (ww3 W')) ∧ w'.cell? ⟨gW, 1, none⟩ = some (.int .u64 (ww2 W')) ∧ w'.cell? ⟨gW, 2, none⟩ = some (.int .u64 (ww1 W')) ∧ w'.cell? ⟨gW, 3, none⟩ = some (.int .u64 (ww0 W'))) W := ⟨BX.c 0 rfl, BX.c 1 rfl, BX.c 2 rfl, BX.c 3 rfl, BY.c 0 rfl, BY.c 1 rfl, BY.c 2 rfl, BY.c 3 rfl, BW.c 0 rfl, BW.c 1 rfl, BW.c 2 rfl, BW.c 3 rfl⟩
theorem dt_cells8 {X Y W' : Int} {W : World} {gX gY gW g : Nat} {v0 v1 v2 v3 v4 v5 v6 v7 : Value} (BX : Blk W gX [.int .u64 (ww3 X), .int .u64 (ww2 X), .int .u64 (ww1 X), .int .u64 (ww0 X)]) (BY : Blk W gY [.int .u64 (ww3 Y), .int .u64 (ww2 Y), .int .u64 (ww1 Y), .int .u64 (ww0 Y)]) (BW : Blk W gW [.int .u64 (ww3 W'), .int .u64 (ww2 W'), .int .u64 (ww1 W'), .int .u64 (ww0 W')]) (hX : gX ≠ g) (hY : gY ≠ g) (hW : gW ≠ g) : (fun w' => w'.cell? ⟨gX, 0, none⟩ = some (.int .u64 (ww3 X)) ∧ w'.cell? ⟨gX, 1, none⟩ = some (.int .u64 (ww2 X)) ∧ w'.cell? ⟨gX, 2, none⟩ = some (.int .u64 (ww1 X)) ∧ w'.cell? ⟨gX, 3, none⟩ = some (.int .u64 (ww0 X)) ∧ w'.cell? ⟨gY, 0, none⟩ = some (.int .u64 (ww3 Y)) ∧ w'.cell? ⟨gY, 1, none⟩ = some (.int .u64 (ww2 Y)) ∧ w'.cell? ⟨gY, 2, none⟩ = some (.int .u64 (ww1 Y)) ∧ w'.cell? ⟨gY, 3, none⟩ = some (.int .u64 (ww0 Y)) ∧ w'.cell? ⟨gW, 0, none⟩ = some (.int .u64 (ww3 W')) ∧ w'.cell? ⟨gW, 1, none⟩ = some (.int .u64 (ww2 W')) ∧ w'.cell? ⟨gW, 2, none⟩ = some (.int .u64 (ww1 W')) ∧ w'.cell? ⟨gW, 3, none⟩ = some (.int .u64 (ww0 W'))) ((((((((W.setCell ⟨g, 0, none⟩ v0).setCell ⟨g, 1, none⟩ v1).setCell ⟨g, 2, none⟩ v2).setCell ⟨g, 3, none⟩ v3).setCell ⟨g, 4, none⟩ v4).setCell ⟨g, 5, none⟩ v5).setCell ⟨g, 6, none⟩ v6).setCell ⟨g, 7, none⟩ v7) := ⟨(BX.set8 hX).c 0 rfl, (BX.set8 hX).c 1 rfl, (BX.set8 hX).c 2 rfl, (BX.set8 hX).c 3 rfl, (BY.set8 hY).c 0 rfl, (BY.set8 hY).c 1 rfl, (BY.set8 hY).c 2 rfl, (BY.set8 hY).c 3 rfl, (BW.set8 hW).c 0 rfl, (BW.set8 hW).c 1 rfl, (BW.set8 hW).c 2 rfl, (BW.set8 hW).c 3 rfl⟩
theorem sq_abs {a : Int} {m : Nat} (h : a.natAbs ≤ m) : (a * a).natAbs ≤ m * m := abs_mul h h
set_option maxRecDepth 100000 in
set_option maxHeartbeats 8000000 in
theorem implDist2_det (x y z u v t : Int) (hx : told x = true) (hy : told y = true) (hz : told z = true) (hu : told u = true) (hv : told v = true) (ht : told t = true) (w : World) : Calls Try.prog 14 #[PV x y z, PV u v t] w (VP (distV x y z u v t) w) := by
  have T0 : ArgsB w (((w.alloc (.cells #[.int .u64 (ww3 x), .int .u64 (ww2 x), .int .u64 (ww1 x), .int .u64 (ww0 x), .int .u64 (ww3 y), .int .u64 (ww2 y), .int .u64 (ww1 y), .int .u64 (ww0 y), .int .u64 (ww3 z), .int .u64 (ww2 z), .int .u64 (ww1 z), .int .u64 (ww0 z)] 28)).alloc (.cells #[.int .u64 (ww3 u), .int .u64 (ww2 u), .int .u64 (ww1 u), .int .u64 (ww0 u), .int .u64 (ww3 v), .int .u64 (ww2 v), .int .u64 (ww1 v), .int .u64 (ww0 v), .int .u64 (ww3 t), .int .u64 (ww2 t), .int .u64 (ww1 t), .int .u64 (ww0 t)] 28)).alloc (.cells #[.int .u64 0, .int .u64 0, .int .u64 0, .int .u64 0, .int .u64 0, .int .u64 0, .int .u64 0, .int .u64 0] 38)) [[.int .u64 (ww3 x), .int .u64 (ww2 x), .int .u64 (ww1 x), .int .u64 (ww0 x), .int .u64 (ww3 y), .int .u64 (ww2 y), .int .u64 (ww1 y), .int .u64 (ww0 y), .int .u64 (ww3 z), .int .u64 (ww2 z), .int .u64 (ww1 z), .int .u64 (ww0 z)], [.int .u64 (ww3 u), .int .u64 (ww2 u), .int .u64 (ww1 u), .int .u64 (ww0 u), .int .u64 (ww3 v), .int .u64 (ww2 v), .int .u64 (ww1 v), .int .u64 (ww0 v), .int .u64 (ww3 t), .int .u64 (ww2 t), .int .u64 (ww1 t), .int .u64 (ww0 t)], [.int .u64 0, .int .u64 0, .int .u64 0, .int .u64 0, .int .u64 0, .int .u64 0, .int .u64 0, .int .u64 0]] := ar3 _ _ _ _ _ _ w
  have R1 := pright_det x y z hx hy hz
  have R2 := pright_det u v t hu hv ht
  clear hx hy hz hu hv ht
  go_enter Try.func14, Try.ntmps14
  go_wp2_with fail
  generalize (((w.alloc (.cells #[.int .u64 (ww3 x), .int .u64 (ww2 x), .int .u64 (ww1 x), .int .u64 (ww0 x), .int .u64 (ww3 y), .int .u64 (ww2 y), .int .u64 (ww1 y), .int .u64 (ww0 y), .int .u64 (ww3 z), .int .u64 (ww2 z), .int .u64 (ww1 z), .int .u64 (ww0 z)] 28)).alloc (.cells #[.int .u64 (ww3 u), .int .u64 (ww2 u), .int .u64 (ww1 u), .int .u64 (ww0 u), .int .u64 (ww3 v), .int .u64 (ww2 v), .int .u64 (ww1 v), .int .u64 (ww0 v), .int .u64 (ww3 t), .int .u64 (ww2 t), .int .u64 (ww1 t), .int .u64 (ww0 t)] 28)).alloc (.cells #[.int .u64 0, .int .u64 0, .int .u64 0, .int .u64 0, .int .u64 0, .int .u64 0, .int .u64 0, .int .u64 0] 38)) = WW at *
  refine (R1 _).mono ?_
  rintro e w1 ⟨rfl, hB⟩
  replace T0 := T0.step hB
  clear hB
  by_cases h1 : ptB x y z = true
  · rw [h1]
    have X0 : Blk _ w.heap.size _ := T0.b 0 rfl; have Y0 : Blk _ (w.heap.size + 1) _ := T0.b 1 rfl; have p0 := X0.c 0 rfl; have q0 := Y0.c 0 rfl; have p1 := X0.c 1 rfl; have q1 := Y0.c 1 rfl; have p2 := X0.c 2 rfl; have q2 := Y0.c 2 rfl; have p3 := X0.c 3 rfl; have q3 := Y0.c 3 rfl; have p4 := X0.c 4 rfl; have q4 := Y0.c 4 rfl; have p5 := X0.c 5 rfl; have q5 := Y0.c 5 rfl; have p6 := X0.c 6 rfl; have q6 := Y0.c 6 rfl; have p7 := X0.c 7 rfl; have q7 := Y0.c 7 rfl; have p8 := X0.c 8 rfl; have q8 := Y0.c 8 rfl; have p9 := X0.c 9 rfl; have q9 := Y0.c 9 rfl; have p10 := X0.c 10 rfl; have q10 := Y0.c 10 rfl; have p11 := X0.c 11 rfl; have q11 := Y0.c 11 rfl; clear X0 Y0
    go_wp2_with fail
    refine (R2 _).mono ?_
    rintro e w2 ⟨rfl, hB⟩
    replace T0 := T0.step hB
    clear hB p0 q0 p1 q1 p2 q2 p3 q3 p4 q4 p5 q5 p6 q6 p7 q7 p8 q8 p9 q9 p10 q10 p11 q11
    by_cases h2 : ptB u v t = true
    · rw [h2]
      obtain ⟨-, sx, sy, sz⟩ := ptB_small h1
      obtain ⟨-, su, sv, st⟩ := ptB_small h2
      have HO : Hid (distV x y z u v t = ratV ((x * t - z * u) * (x * t - z * u) + (y * t - z * v) * (y * t - z * v)) (z * t * (z * t))) := by show _ = _; unfold distV; rw [h1, h2]; rfl
      have C1 := minor_sm x z u t sx sz su st
      have C2 := minor_sm y z v t sy sz sv st
      have m1 := minor_abs sx sz su st
      have m2 := minor_abs sy sz sv st
      have m3 := sm_prod sz st
      have C3 := times_det z t (told_small sz) (told_small st)
      have C4 := toldI_det (z * t) (told_of (by omega))
      clear h1 h2 R1 R2 sx sy sz su sv st
      generalize x * t - z * u = X at *
      generalize y * t - z * v = Y at *
      generalize z * t = W at *
      have n1 := sq_abs m1
      have n2 := sq_abs m2
      have n3 := sq_abs m3
      have D1 := times_det X X (told_of (by omega)) (told_of (by omega))
      have D2 := times_det Y Y (told_of (by omega)) (told_of (by omega))
      have D3 := times_det W W (told_of (by omega)) (told_of (by omega))
      clear m1 m2 m3
      generalize X * X = XX at *
      generalize Y * Y = YY at *
      generalize W * W = WX at *
      have D4 := plus_det XX YY (lr_abs (by omega)) (lr_abs (by omega)) (lr_abs (by omega))
      have D5 := lowest_det (XX + YY) WX (lr_abs (by omega)) (lr_abs (by omega)) (by omega) (by omega)
      clear n1 n2 n3
      obtain ⟨z0, z1, z2, z3, z4, z5, z6, z7, f, hf⟩ := ratV_ex (XX + YY) WX
      rw [hf] at D5 HO
      clear hf
      generalize XX + YY = AA at *
      have X0 : Blk _ w.heap.size _ := T0.b 0 rfl; have Y0 : Blk _ (w.heap.size + 1) _ := T0.b 1 rfl; have p0 := X0.c 0 rfl; have q0 := Y0.c 0 rfl; have p1 := X0.c 1 rfl; have q1 := Y0.c 1 rfl; have p2 := X0.c 2 rfl; have q2 := Y0.c 2 rfl; have p3 := X0.c 3 rfl; have q3 := Y0.c 3 rfl; have p4 := X0.c 4 rfl; have q4 := Y0.c 4 rfl; have p5 := X0.c 5 rfl; have q5 := Y0.c 5 rfl; have p6 := X0.c 6 rfl; have q6 := Y0.c 6 rfl; have p7 := X0.c 7 rfl; have q7 := Y0.c 7 rfl; have p8 := X0.c 8 rfl; have q8 := Y0.c 8 rfl; have p9 := X0.c 9 rfl; have q9 := Y0.c 9 rfl; have p10 := X0.c 10 rfl; have q10 := Y0.c 10 rfl; have p11 := X0.c 11 rfl; have q11 := Y0.c 11 rfl; clear X0 Y0
      go_wp2_with fail
      refine (C1 _).mono ?_
      rintro e w3 ⟨rfl, hB⟩
      have hgX : w.heap.size + 2 < w3.heap.size := ((T0.step hB).b 2 rfl).lt
      replace T0 := (T0.step hB).alloc (.cells #[.int .u64 (ww3 X), .int .u64 (ww2 X), .int .u64 (ww1 X), .int .u64 (ww0 X)] 26)
      have BX := Blk.new w3 [.int .u64 (ww3 X), .int .u64 (ww2 X), .int .u64 (ww1 X), .int .u64 (ww0 X)] 26 rfl
      clear hB p0 q0 p1 q1 p2 q2 p3 q3 p4 q4 p5 q5 p6 q6 p7 q7 p8 q8 p9 q9 p10 q10 p11 q11 C1
      have X0 : Blk _ w.heap.size _ := T0.b 0 rfl; have Y0 : Blk _ (w.heap.size + 1) _ := T0.b 1 rfl; have p0 := X0.c 0 rfl; have q0 := Y0.c 0 rfl; have p1 := X0.c 1 rfl; have q1 := Y0.c 1 rfl; have p2 := X0.c 2 rfl; have q2 := Y0.c 2 rfl; have p3 := X0.c 3 rfl; have q3 := Y0.c 3 rfl; have p4 := X0.c 4 rfl; have q4 := Y0.c 4 rfl; have p5 := X0.c 5 rfl; have q5 := Y0.c 5 rfl; have p6 := X0.c 6 rfl; have q6 := Y0.c 6 rfl; have p7 := X0.c 7 rfl; have q7 := Y0.c 7 rfl; have p8 := X0.c 8 rfl; have q8 := Y0.c 8 rfl; have p9 := X0.c 9 rfl; have q9 := Y0.c 9 rfl; have p10 := X0.c 10 rfl; have q10 := Y0.c 10 rfl; have p11 := X0.c 11 rfl; have q11 := Y0.c 11 rfl; clear X0 Y0
      go_wp2_with fail
      generalize w3.heap.size = gX at *
      refine (C2 _).mono ?_
      rintro e w4 ⟨rfl, hB⟩
      have hgY : w.heap.size + 2 < w4.heap.size := ((T0.step hB).b 2 rfl).lt
      replace T0 := (T0.step hB).alloc (.cells #[.int .u64 (ww3 Y), .int .u64 (ww2 Y), .int .u64 (ww1 Y), .int .u64 (ww0 Y)] 26)
      replace BX := (BX.step hB).alloc (.cells #[.int .u64 (ww3 Y), .int .u64 (ww2 Y), .int .u64 (ww1 Y), .int .u64 (ww0 Y)] 26)
      have BY := Blk.new w4 [.int .u64 (ww3 Y), .int .u64 (ww2 Y), .int .u64 (ww1 Y), .int .u64 (ww0 Y)] 26 rfl
      clear hB p0 q0 p1 q1 p2 q2 p3 q3 p4 q4 p5 q5 p6 q6 p7 q7 p8 q8 p9 q9 p10 q10 p11 q11 C2
      have X0 : Blk _ w.heap.size _ := T0.b 0 rfl; have Y0 : Blk _ (w.heap.size + 1) _ := T0.b 1 rfl; have p0 := X0.c 0 rfl; have q0 := Y0.c 0 rfl; have p1 := X0.c 1 rfl; have q1 := Y0.c 1 rfl; have p2 := X0.c 2 rfl; have q2 := Y0.c 2 rfl; have p3 := X0.c 3 rfl; have q3 := Y0.c 3 rfl; have p4 := X0.c 4 rfl; have q4 := Y0.c 4 rfl; have p5 := X0.c 5 rfl; have q5 := Y0.c 5 rfl; have p6 := X0.c 6 rfl; have q6 := Y0.c 6 rfl; have p7 := X0.c 7 rfl; have q7 := Y0.c 7 rfl; have p8 := X0.c 8 rfl; have q8 := Y0.c 8 rfl; have p9 := X0.c 9 rfl; have q9 := Y0.c 9 rfl; have p10 := X0.c 10 rfl; have q10 := Y0.c 10 rfl; have p11 := X0.c 11 rfl; have q11 := Y0.c 11 rfl; clear X0 Y0
      go_wp2_with fail
      generalize w4.heap.size = gY at *
      refine (C3 _).mono ?_
      rintro e w5 ⟨rfl, hB⟩
      replace T0 := T0.step hB
      replace BX := BX.step hB
      replace BY := BY.step hB
      clear hB p0 q0 p1 q1 p2 q2 p3 q3 p4 q4 p5 q5 p6 q6 p7 q7 p8 q8 p9 q9 p10 q10 p11 q11 C3
      go_wp2_with fail
      refine (C4 _).mono ?_
      rintro e w6 ⟨rfl, hB⟩
      have hgW : w.heap.size + 2 < w6.heap.size := ((T0.step hB).b 2 rfl).lt
      replace T0 := (T0.step hB).alloc (.cells #[.int .u64 (ww3 W), .int .u64 (ww2 W), .int .u64 (ww1 W), .int .u64 (ww0 W)] 26)
      replace BX := (BX.step hB).alloc (.cells #[.int .u64 (ww3 W), .int .u64 (ww2 W), .int .u64 (ww1 W), .int .u64 (ww0 W)] 26)
      replace BY := (BY.step hB).alloc (.cells #[.int .u64 (ww3 W), .int .u64 (ww2 W), .int .u64 (ww1 W), .int .u64 (ww0 W)] 26)
      have BW := Blk.new w6 [.int .u64 (ww3 W), .int .u64 (ww2 W), .int .u64 (ww1 W), .int .u64 (ww0 W)] 26 rfl
      clear hB C4
      have tok1 : True := trivial
      have tok2 : True := trivial
      go_upto_region 6 with fail
      generalize w6.alloc (.cells #[.int .u64 (ww3 W), .int .u64 (ww2 W), .int .u64 (ww1 W), .int .u64 (ww0 W)] 26) = W6 at *
      generalize w6.heap.size = gW at *
      go_region_held3 (fun w' => w'.cell? ⟨gX, 0, none⟩ = some (.int .u64 (ww3 X)) ∧ w'.cell? ⟨gX, 1, none⟩ = some (.int .u64 (ww2 X)) ∧ w'.cell? ⟨gX, 2, none⟩ = some (.int .u64 (ww1 X)) ∧ w'.cell? ⟨gX, 3, none⟩ = some (.int .u64 (ww0 X)) ∧ w'.cell? ⟨gY, 0, none⟩ = some (.int .u64 (ww3 Y)) ∧ w'.cell? ⟨gY, 1, none⟩ = some (.int .u64 (ww2 Y)) ∧ w'.cell? ⟨gY, 2, none⟩ = some (.int .u64 (ww1 Y)) ∧ w'.cell? ⟨gY, 3, none⟩ = some (.int .u64 (ww0 Y)) ∧ w'.cell? ⟨gW, 0, none⟩ = some (.int .u64 (ww3 W)) ∧ w'.cell? ⟨gW, 1, none⟩ = some (.int .u64 (ww2 W)) ∧ w'.cell? ⟨gW, 2, none⟩ = some (.int .u64 (ww1 W)) ∧ w'.cell? ⟨gW, 3, none⟩ = some (.int .u64 (ww0 W))) (first | (with_reducible exact dt_cells BX BY BW) | (with_reducible exact dt_cells BX.drew BY.drew BW.drew) | (with_reducible exact dt_cells8 BX BY BW (by omega) (by omega) (by omega)))
        (first
          | (go_at_call 39; have _t := tok1; refine (D1 _).mono ?_; rintro e k1 ⟨rfl, hB⟩; (first | (replace BX := BX.step hB; replace BY := BY.step hB; replace BW := BW.step hB; replace T0 := T0.step hB) | (replace BX := BX.drew.step hB; replace BY := BY.drew.step hB; replace BW := BW.drew.step hB; replace T0 := T0.drew.step hB)); clear hB; clear tok1 _t)
          | (go_at_call 39; have _t := tok2; refine (D2 _).mono ?_; rintro e k2 ⟨rfl, hB⟩; (first | (replace BX := BX.step hB; replace BY := BY.step hB; replace BW := BW.step hB; replace T0 := T0.step hB) | (replace BX := BX.drew.step hB; replace BY := BY.drew.step hB; replace BW := BW.drew.step hB; replace T0 := T0.drew.step hB)); clear hB; clear tok2 _t)
          | (go_at_call 39; refine (D3 _).mono ?_; rintro e k3 ⟨rfl, hB⟩; (first | (replace BX := BX.step hB; replace BY := BY.step hB; replace BW := BW.step hB; replace T0 := T0.step hB) | (replace BX := BX.drew.step hB; replace BY := BY.drew.step hB; replace BW := BW.drew.step hB; replace T0 := T0.drew.step hB)); clear hB)
          | (go_at_call 40; refine (D4 _).mono ?_; rintro e k4 ⟨rfl, hB⟩; (first | (replace BX := BX.step hB; replace BY := BY.step hB; replace BW := BW.step hB; replace T0 := T0.step hB) | (replace BX := BX.drew.step hB; replace BY := BY.drew.step hB; replace BW := BW.drew.step hB; replace T0 := T0.drew.step hB)); clear hB)
          | (go_at_call 41; refine (D5 _).mono ?_; rintro e k5 ⟨rfl, hB⟩; (first | (replace BX := BX.step hB; replace BY := BY.step hB; replace BW := BW.step hB; replace T0 := T0.step hB) | (replace BX := BX.drew.step hB; replace BY := BY.drew.step hB; replace BW := BW.drew.step hB; replace T0 := T0.drew.step hB)); clear hB; have o0 := (T0.b 2 rfl).c 0 rfl; have r0 := (T0.b 2 rfl).f 0 rfl; have o1 := (T0.b 2 rfl).c 1 rfl; have r1 := (T0.b 2 rfl).f 1 rfl; have o2 := (T0.b 2 rfl).c 2 rfl; have r2 := (T0.b 2 rfl).f 2 rfl; have o3 := (T0.b 2 rfl).c 3 rfl; have r3 := (T0.b 2 rfl).f 3 rfl; have o4 := (T0.b 2 rfl).c 4 rfl; have r4 := (T0.b 2 rfl).f 4 rfl; have o5 := (T0.b 2 rfl).c 5 rfl; have r5 := (T0.b 2 rfl).f 5 rfl; have o6 := (T0.b 2 rfl).c 6 rfl; have r6 := (T0.b 2 rfl).f 6 rfl; have o7 := (T0.b 2 rfl).c 7 rfl; have r7 := (T0.b 2 rfl).f 7 rfl; have olt := (T0.b 2 rfl).lt))
      all_goals have HB := T0.below
      all_goals clear BX BY BW T0
      all_goals go_wp2
      all_goals refine bodyPost_ret (v := .tuple #[.agg #[.int .u64 z0, .int .u64 z1, .int .u64 z2, .int .u64 z3, .int .u64 z4, .int .u64 z5, .int .u64 z6, .int .u64 z7], .bool f]) (by simp [results, Try.results14, go_sem, o0, o1, o2, o3, o4, o5, o6, o7]) rfl ?_
      all_goals refine ⟨by rw [HO.out], ?_⟩
      all_goals repeat' (refine Below.setCell ?_ (by simp; try omega) _)
      all_goals first | exact HB | exact HB.drew
    · replace h2 := Bool.eq_false_iff.2 h2
      rw [h2]
      have HO : Hid (distV x y z u v t = .tuple #[.agg #[.int .u64 0, .int .u64 0, .int .u64 0, .int .u64 0, .int .u64 0, .int .u64 0, .int .u64 0, .int .u64 0], .bool false]) := by show _ = _; unfold distV; rw [h2]; simp
      have o0 := (T0.b 2 rfl).c 0 rfl; have r0 := (T0.b 2 rfl).f 0 rfl; have o1 := (T0.b 2 rfl).c 1 rfl; have r1 := (T0.b 2 rfl).f 1 rfl; have o2 := (T0.b 2 rfl).c 2 rfl; have r2 := (T0.b 2 rfl).f 2 rfl; have o3 := (T0.b 2 rfl).c 3 rfl; have r3 := (T0.b 2 rfl).f 3 rfl; have o4 := (T0.b 2 rfl).c 4 rfl; have r4 := (T0.b 2 rfl).f 4 rfl; have o5 := (T0.b 2 rfl).c 5 rfl; have r5 := (T0.b 2 rfl).f 5 rfl; have o6 := (T0.b 2 rfl).c 6 rfl; have r6 := (T0.b 2 rfl).f 6 rfl; have o7 := (T0.b 2 rfl).c 7 rfl; have r7 := (T0.b 2 rfl).f 7 rfl; have olt := (T0.b 2 rfl).lt
      have HB := T0.below
      clear T0 h1 h2 R1 R2
      go_wp2
      refine bodyPost_ret (v := .tuple #[.agg #[.int .u64 0, .int .u64 0, .int .u64 0, .int .u64 0, .int .u64 0, .int .u64 0, .int .u64 0, .int .u64 0], .bool false]) (by simp [results, Try.results14, go_sem, o0, o1, o2, o3, o4, o5, o6, o7]) rfl ?_
      refine ⟨by rw [HO.out], ?_⟩
      repeat' (refine Below.setCell ?_ (by simp; try omega) _)
      exact HB
  · replace h1 := Bool.eq_false_iff.2 h1
    rw [h1]
    have HO : Hid (distV x y z u v t = .tuple #[.agg #[.int .u64 0, .int .u64 0, .int .u64 0, .int .u64 0, .int .u64 0, .int .u64 0, .int .u64 0, .int .u64 0], .bool false]) := by show _ = _; unfold distV; rw [h1]; simp
    have o0 := (T0.b 2 rfl).c 0 rfl; have r0 := (T0.b 2 rfl).f 0 rfl; have o1 := (T0.b 2 rfl).c 1 rfl; have r1 := (T0.b 2 rfl).f 1 rfl; have o2 := (T0.b 2 rfl).c 2 rfl; have r2 := (T0.b 2 rfl).f 2 rfl; have o3 := (T0.b 2 rfl).c 3 rfl; have r3 := (T0.b 2 rfl).f 3 rfl; have o4 := (T0.b 2 rfl).c 4 rfl; have r4 := (T0.b 2 rfl).f 4 rfl; have o5 := (T0.b 2 rfl).c 5 rfl; have r5 := (T0.b 2 rfl).f 5 rfl; have o6 := (T0.b 2 rfl).c 6 rfl; have r6 := (T0.b 2 rfl).f 6 rfl; have o7 := (T0.b 2 rfl).c 7 rfl; have r7 := (T0.b 2 rfl).f 7 rfl; have olt := (T0.b 2 rfl).lt
    have HB := T0.below
    clear T0 h1 R1 R2
    go_wp2
    refine bodyPost_ret (v := .tuple #[.agg #[.int .u64 0, .int .u64 0, .int .u64 0, .int .u64 0, .int .u64 0, .int .u64 0, .int .u64 0, .int .u64 0], .bool false]) (by simp [results, Try.results14, go_sem, o0, o1, o2, o3, o4, o5, o6, o7]) rfl ?_
    refine ⟨by rw [HO.out], ?_⟩
    repeat' (refine Below.setCell ?_ (by simp; try omega) _)
    exact HB
end Go.Proofs.Ytnflhnfjlbjgdaa

/- Fractions with both parts multiplied; distances to the middle: the reckoning. -/
namespace Go.Proofs.Ytnflhnfjlbjgdaa
open Go.RowKit
theorem neg_scale {n k : Int} (hk : 0 < k) : n * k < 0 ↔ n < 0 := by
  constructor
  · intro h
    apply Decidable.byContradiction
    intro h'
    have := Int.mul_nonneg (a := n) (b := k) (by omega) (by omega)
    omega
  · intro h
    exact Int.mul_neg_of_neg_of_pos h hk
theorem shareZ_scale {n g k : Int} {s : Bool} (hk : 0 < k) : shareZ (n * k) (g * k) s = shareZ n g s := by
  have ek : (k.natAbs : Int) = k := by omega
  have e : (((n * k).natAbs : Nat) : Int) / (g * k) = (n.natAbs : Int) / g := by
    rw [Int.natAbs_mul, Int.natCast_mul, ek]
    exact Int.mul_ediv_mul_of_pos_left _ _ hk
  unfold shareZ
  rw [e]
  simp only [neg_scale hk]
theorem ratV_scale {n d k : Int} (hk : 0 < k) : ratV (n * k) (d * k) = ratV n d := by
  have ek : (k.natAbs : Int) = k := by omega
  have eg : (Int.gcd (n * k) (d * k) : Int) = Int.gcd n d * k := by rw [Int.gcd_mul_right, Int.natCast_mul, ek]
  have h1 : lowN (n * k) (d * k) = lowN n d := by
    unfold lowN
    rw [eg, shareZ_scale hk]
    simp only [neg_scale hk]
  have h2 : lowD (n * k) (d * k) = lowD n d := by
    unfold lowD
    rw [eg, shareZ_scale hk]
    simp only [neg_scale hk]
  have h3 : d * k ≠ 0 ↔ d ≠ 0 := by
    constructor
    · intro h h'
      exact h (by rw [h']; simp)
    · intro h
      exact Int.mul_ne_zero h (by omega)
  unfold ratV
  simp only [h1, h2, h3]
theorem ratV_both {n d n' d' k k' : Int} (hk : 0 < k) (hk' : 0 < k') (hn : n * k = n' * k') (hd : d * k = d' * k') : ratV n d = ratV n' d' := by
  rw [← ratV_scale (n := n) (d := d) hk, ← ratV_scale (n := n') (d := d') hk', hn, hd]
/-- The two distances to the middle, by the distance of the two points. -/
theorem mid_dist {x y z u v t a b c g : Int} (h1 : ptB x y z = true) (h2 : ptB u v t = true) (h3 : ptB a b c = true) (hg : 0 < g) (e1 : x * t + u * z = a * g) (e2 : y * t + v * z = b * g) (e3 : 2 * (z * t) = c * g) :
    distV x y z a b c = ratV ((x * t - z * u) * (x * t - z * u) + (y * t - z * v) * (y * t - z * v)) (2 * (z * t) * (2 * (z * t))) ∧ distV a b c u v t = ratV ((x * t - z * u) * (x * t - z * u) + (y * t - z * v) * (y * t - z * v)) (2 * (z * t) * (2 * (z * t))) := by
  obtain ⟨pz, -⟩ := ptB_gcd h1
  obtain ⟨pt, -⟩ := ptB_gcd h2
  have gg := Int.mul_pos hg hg
  have zz := Int.mul_pos pz pz
  have tt := Int.mul_pos pt pt
  constructor
  · unfold distV
    rw [h1, h3, if_pos (show (true && true) = true from rfl)]
    refine ratV_both gg zz ?_ ?_
    · have a1 : (x * c - z * a) * g = z * (x * t - z * u) := by
        have : (x * c - z * a) * g = x * (c * g) - z * (a * g) := by grind
        rw [this, ← e1, ← e3]; grind
      have a2 : (y * c - z * b) * g = z * (y * t - z * v) := by
        have : (y * c - z * b) * g = y * (c * g) - z * (b * g) := by grind
        rw [this, ← e2, ← e3]; grind
      have : ((x * c - z * a) * (x * c - z * a) + (y * c - z * b) * (y * c - z * b)) * (g * g) = ((x * c - z * a) * g) * ((x * c - z * a) * g) + ((y * c - z * b) * g) * ((y * c - z * b) * g) := by grind
      rw [this, a1, a2]; grind
    · have : z * c * (z * c) * (g * g) = (z * (c * g)) * (z * (c * g)) := by grind
      rw [this, ← e3]; grind
  · unfold distV
    rw [h2, h3, if_pos (show (true && true) = true from rfl)]
    refine ratV_both gg tt ?_ ?_
    · have a1 : (a * t - c * u) * g = t * (x * t - z * u) := by
        have : (a * t - c * u) * g = (a * g) * t - (c * g) * u := by grind
        rw [this, ← e1, ← e3]; grind
      have a2 : (b * t - c * v) * g = t * (y * t - z * v) := by
        have : (b * t - c * v) * g = (b * g) * t - (c * g) * v := by grind
        rw [this, ← e2, ← e3]; grind
      have : ((a * t - c * u) * (a * t - c * u) + (b * t - c * v) * (b * t - c * v)) * (g * g) = ((a * t - c * u) * g) * ((a * t - c * u) * g) + ((b * t - c * v) * g) * ((b * t - c * v) * g) := by grind
      rw [this, a1, a2]; grind
    · have : c * t * (c * t) * (g * g) = (c * g) * t * ((c * g) * t) := by grind
      rw [this, ← e3]; grind
end Go.Proofs.Ytnflhnfjlbjgdaa

/- What lies between two points: the program's walks. -/
namespace Go.Proofs.Ytnflhnfjlbjgdaa
open Go.RowKit
theorem b3_cells {x y z u v t a b c : Int} {w W : World} (T0 : ArgsB w W [[.int .u64 (ww3 x), .int .u64 (ww2 x), .int .u64 (ww1 x), .int .u64 (ww0 x), .int .u64 (ww3 y), .int .u64 (ww2 y), .int .u64 (ww1 y), .int .u64 (ww0 y), .int .u64 (ww3 z), .int .u64 (ww2 z), .int .u64 (ww1 z), .int .u64 (ww0 z)], [.int .u64 (ww3 u), .int .u64 (ww2 u), .int .u64 (ww1 u), .int .u64 (ww0 u), .int .u64 (ww3 v), .int .u64 (ww2 v), .int .u64 (ww1 v), .int .u64 (ww0 v), .int .u64 (ww3 t), .int .u64 (ww2 t), .int .u64 (ww1 t), .int .u64 (ww0 t)], [.int .u64 (ww3 a), .int .u64 (ww2 a), .int .u64 (ww1 a), .int .u64 (ww0 a), .int .u64 (ww3 b), .int .u64 (ww2 b), .int .u64 (ww1 b), .int .u64 (ww0 b), .int .u64 (ww3 c), .int .u64 (ww2 c), .int .u64 (ww1 c), .int .u64 (ww0 c)]]) : (fun w' => w'.cell? ⟨w.heap.size, 0, none⟩ = some (.int .u64 (ww3 x)) ∧ w'.cell? ⟨w.heap.size, 1, none⟩ = some (.int .u64 (ww2 x)) ∧ w'.cell? ⟨w.heap.size, 2, none⟩ = some (.int .u64 (ww1 x)) ∧ w'.cell? ⟨w.heap.size, 3, none⟩ = some (.int .u64 (ww0 x)) ∧ w'.cell? ⟨w.heap.size, 4, none⟩ = some (.int .u64 (ww3 y)) ∧ w'.cell? ⟨w.heap.size, 5, none⟩ = some (.int .u64 (ww2 y)) ∧ w'.cell? ⟨w.heap.size, 6, none⟩ = some (.int .u64 (ww1 y)) ∧ w'.cell? ⟨w.heap.size, 7, none⟩ = some (.int .u64 (ww0 y)) ∧ w'.cell? ⟨w.heap.size, 8, none⟩ = some (.int .u64 (ww3 z)) ∧ w'.cell? ⟨w.heap.size, 9, none⟩ = some (.int .u64 (ww2 z)) ∧ w'.cell? ⟨w.heap.size, 10, none⟩ = some (.int .u64 (ww1 z)) ∧ w'.cell? ⟨w.heap.size, 11, none⟩ = some (.int .u64 (ww0 z)) ∧ w'.cell? ⟨w.heap.size + 1, 0, none⟩ = some (.int .u64 (ww3 u)) ∧ w'.cell? ⟨w.heap.size + 1, 1, none⟩ = some (.int .u64 (ww2 u)) ∧ w'.cell? ⟨w.heap.size + 1, 2, none⟩ = some (.int .u64 (ww1 u)) ∧ w'.cell? ⟨w.heap.size + 1, 3, none⟩ = some (.int .u64 (ww0 u)) ∧ w'.cell? ⟨w.heap.size + 1, 4, none⟩ = some (.int .u64 (ww3 v)) ∧ w'.cell? ⟨w.heap.size + 1, 5, none⟩ = some (.int .u64 (ww2 v)) ∧ w'.cell? ⟨w.heap.size + 1, 6, none⟩ = some (.int .u64 (ww1 v)) ∧ w'.cell? ⟨w.heap.size + 1, 7, none⟩ = some (.int .u64 (ww0 v)) ∧ w'.cell? ⟨w.heap.size + 1, 8, none⟩ = some (.int .u64 (ww3 t)) ∧ w'.cell? ⟨w.heap.size + 1, 9, none⟩ = some (.int .u64 (ww2 t)) ∧ w'.cell? ⟨w.heap.size + 1, 10, none⟩ = some (.int .u64 (ww1 t)) ∧ w'.cell? ⟨w.heap.size + 1, 11, none⟩ = some (.int .u64 (ww0 t)) ∧ w'.cell? ⟨w.heap.size + 2, 0, none⟩ = some (.int .u64 (ww3 a)) ∧ w'.cell? ⟨w.heap.size + 2, 1, none⟩ = some (.int .u64 (ww2 a)) ∧ w'.cell? ⟨w.heap.size + 2, 2, none⟩ = some (.int .u64 (ww1 a)) ∧ w'.cell? ⟨w.heap.size + 2, 3, none⟩ = some (.int .u64 (ww0 a)) ∧ w'.cell? ⟨w.heap.size + 2, 4, none⟩ = some (.int .u64 (ww3 b)) ∧ w'.cell? ⟨w.heap.size + 2, 5, none⟩ = some (.int .u64 (ww2 b)) ∧ w'.cell? ⟨w.heap.size + 2, 6, none⟩ = some (.int .u64 (ww1 b)) ∧ w'.cell? ⟨w.heap.size + 2, 7, none⟩ = some (.int .u64 (ww0 b)) ∧ w'.cell? ⟨w.heap.size + 2, 8, none⟩ = some (.int .u64 (ww3 c)) ∧ w'.cell? ⟨w.heap.size + 2, 9, none⟩ = some (.int .u64 (ww2 c)) ∧ w'.cell? ⟨w.heap.size + 2, 10, none⟩ = some (.int .u64 (ww1 c)) ∧ w'.cell? ⟨w.heap.size + 2, 11, none⟩ = some (.int .u64 (ww0 c))) W := ⟨(T0.b 0 rfl).c 0 rfl, (T0.b 0 rfl).c 1 rfl, (T0.b 0 rfl).c 2 rfl, (T0.b 0 rfl).c 3 rfl, (T0.b 0 rfl).c 4 rfl, (T0.b 0 rfl).c 5 rfl, (T0.b 0 rfl).c 6 rfl, (T0.b 0 rfl).c 7 rfl, (T0.b 0 rfl).c 8 rfl, (T0.b 0 rfl).c 9 rfl, (T0.b 0 rfl).c 10 rfl, (T0.b 0 rfl).c 11 rfl, (T0.b 1 rfl).c 0 rfl, (T0.b 1 rfl).c 1 rfl, (T0.b 1 rfl).c 2 rfl, (T0.b 1 rfl).c 3 rfl, (T0.b 1 rfl).c 4 rfl, (T0.b 1 rfl).c 5 rfl, (T0.b 1 rfl).c 6 rfl, (T0.b 1 rfl).c 7 rfl, (T0.b 1 rfl).c 8 rfl, (T0.b 1 rfl).c 9 rfl, (T0.b 1 rfl).c 10 rfl, (T0.b 1 rfl).c 11 rfl, (T0.b 2 rfl).c 0 rfl, (T0.b 2 rfl).c 1 rfl, (T0.b 2 rfl).c 2 rfl, (T0.b 2 rfl).c 3 rfl, (T0.b 2 rfl).c 4 rfl, (T0.b 2 rfl).c 5 rfl, (T0.b 2 rfl).c 6 rfl, (T0.b 2 rfl).c 7 rfl, (T0.b 2 rfl).c 8 rfl, (T0.b 2 rfl).c 9 rfl, (T0.b 2 rfl).c 10 rfl, (T0.b 2 rfl).c 11 rfl⟩
set_option maxRecDepth 100000 in
set_option maxHeartbeats 8000000 in
theorem lies_det (x y z u v t a b c : Int) (sx : small x = true) (sy : small y = true) (sz : small z = true) (su : small u = true) (sv : small v = true) (st : small t = true) (sa : small a = true) (sb : small b = true) (sc : small c = true) (hz : 0 < z) (ht : 0 < t) (hc : 0 < c) (w : World) : Calls Try.prog 36 #[PV x y z, PV u v t, PV a b c] w (VP (.bool (btwS x y z u v t a b c)) w) := by
  have T0 : ArgsB w (((w.alloc (.cells #[.int .u64 (ww3 x), .int .u64 (ww2 x), .int .u64 (ww1 x), .int .u64 (ww0 x), .int .u64 (ww3 y), .int .u64 (ww2 y), .int .u64 (ww1 y), .int .u64 (ww0 y), .int .u64 (ww3 z), .int .u64 (ww2 z), .int .u64 (ww1 z), .int .u64 (ww0 z)] 28)).alloc (.cells #[.int .u64 (ww3 u), .int .u64 (ww2 u), .int .u64 (ww1 u), .int .u64 (ww0 u), .int .u64 (ww3 v), .int .u64 (ww2 v), .int .u64 (ww1 v), .int .u64 (ww0 v), .int .u64 (ww3 t), .int .u64 (ww2 t), .int .u64 (ww1 t), .int .u64 (ww0 t)] 28)).alloc (.cells #[.int .u64 (ww3 a), .int .u64 (ww2 a), .int .u64 (ww1 a), .int .u64 (ww0 a), .int .u64 (ww3 b), .int .u64 (ww2 b), .int .u64 (ww1 b), .int .u64 (ww0 b), .int .u64 (ww3 c), .int .u64 (ww2 c), .int .u64 (ww1 c), .int .u64 (ww0 c)] 28)) [[.int .u64 (ww3 x), .int .u64 (ww2 x), .int .u64 (ww1 x), .int .u64 (ww0 x), .int .u64 (ww3 y), .int .u64 (ww2 y), .int .u64 (ww1 y), .int .u64 (ww0 y), .int .u64 (ww3 z), .int .u64 (ww2 z), .int .u64 (ww1 z), .int .u64 (ww0 z)], [.int .u64 (ww3 u), .int .u64 (ww2 u), .int .u64 (ww1 u), .int .u64 (ww0 u), .int .u64 (ww3 v), .int .u64 (ww2 v), .int .u64 (ww1 v), .int .u64 (ww0 v), .int .u64 (ww3 t), .int .u64 (ww2 t), .int .u64 (ww1 t), .int .u64 (ww0 t)], [.int .u64 (ww3 a), .int .u64 (ww2 a), .int .u64 (ww1 a), .int .u64 (ww0 a), .int .u64 (ww3 b), .int .u64 (ww2 b), .int .u64 (ww1 b), .int .u64 (ww0 b), .int .u64 (ww3 c), .int .u64 (ww2 c), .int .u64 (ww1 c), .int .u64 (ww0 c)]] := ar3 _ _ _ _ _ _ w
  have C1 := turn_det x y z u v t a b c sx sy sz su sv st sa sb sc
  rw [turn_same] at C1
  have C2 := order_det x y z a b c sx sy sz sa sb sc
  have C3 := order_det a b c u v t sa sb sc su sv st
  have hw : IntKind.i64.wrap (ordI x y z a b c * ordI a b c u v t) = ordI x y z a b c * ordI a b c u v t := by
    rcases ord_in x y z a b c with h | h | h <;> rcases ord_in a b c u v t with k | k | k <;> rw [h, k] <;> decide
  have HO : Hid ((decide (turnI x y z u v t a b c = 0) && decide (0 ≤ ordI x y z a b c * ordI a b c u v t)) = btwS x y z u v t a b c) := btw_same x y z u v t a b c hz ht hc
  clear sx sy sz su sv st sa sb sc hz ht hc
  generalize btwS x y z u v t a b c = R at *
  generalize turnI x y z u v t a b c = o1 at *
  generalize ordI x y z a b c = o2 at *
  generalize ordI a b c u v t = o3 at *
  go_enter Try.func36, Try.ntmps36
  go_upto_region 1 with fail
  generalize (((w.alloc (.cells #[.int .u64 (ww3 x), .int .u64 (ww2 x), .int .u64 (ww1 x), .int .u64 (ww0 x), .int .u64 (ww3 y), .int .u64 (ww2 y), .int .u64 (ww1 y), .int .u64 (ww0 y), .int .u64 (ww3 z), .int .u64 (ww2 z), .int .u64 (ww1 z), .int .u64 (ww0 z)] 28)).alloc (.cells #[.int .u64 (ww3 u), .int .u64 (ww2 u), .int .u64 (ww1 u), .int .u64 (ww0 u), .int .u64 (ww3 v), .int .u64 (ww2 v), .int .u64 (ww1 v), .int .u64 (ww0 v), .int .u64 (ww3 t), .int .u64 (ww2 t), .int .u64 (ww1 t), .int .u64 (ww0 t)] 28)).alloc (.cells #[.int .u64 (ww3 a), .int .u64 (ww2 a), .int .u64 (ww1 a), .int .u64 (ww0 a), .int .u64 (ww3 b), .int .u64 (ww2 b), .int .u64 (ww1 b), .int .u64 (ww0 b), .int .u64 (ww3 c), .int .u64 (ww2 c), .int .u64 (ww1 c), .int .u64 (ww0 c)] 28)) = W at *
  by_cases h : o1 = 0
  · subst h
    have HR : Hid (decide (0 ≤ o2 * o3) = R) := by show _ = _; rw [← HO.out]; simp
    clear HO
    have tok1 : True := trivial
    go_region_held3 (fun w' => w'.cell? ⟨w.heap.size, 0, none⟩ = some (.int .u64 (ww3 x)) ∧ w'.cell? ⟨w.heap.size, 1, none⟩ = some (.int .u64 (ww2 x)) ∧ w'.cell? ⟨w.heap.size, 2, none⟩ = some (.int .u64 (ww1 x)) ∧ w'.cell? ⟨w.heap.size, 3, none⟩ = some (.int .u64 (ww0 x)) ∧ w'.cell? ⟨w.heap.size, 4, none⟩ = some (.int .u64 (ww3 y)) ∧ w'.cell? ⟨w.heap.size, 5, none⟩ = some (.int .u64 (ww2 y)) ∧ w'.cell? ⟨w.heap.size, 6, none⟩ = some (.int .u64 (ww1 y)) ∧ w'.cell? ⟨w.heap.size, 7, none⟩ = some (.int .u64 (ww0 y)) ∧ w'.cell? ⟨w.heap.size, 8, none⟩ = some (.int .u64 (ww3 z)) ∧ w'.cell? ⟨w.heap.size, 9, none⟩ = some (.int .u64 (ww2 z)) ∧ w'.cell? ⟨w.heap.size, 10, none⟩ = some (.int .u64 (ww1 z)) ∧ w'.cell? ⟨w.heap.size, 11, none⟩ = some (.int .u64 (ww0 z)) ∧ w'.cell? ⟨w.heap.size + 1, 0, none⟩ = some (.int .u64 (ww3 u)) ∧ w'.cell? ⟨w.heap.size + 1, 1, none⟩ = some (.int .u64 (ww2 u)) ∧ w'.cell? ⟨w.heap.size + 1, 2, none⟩ = some (.int .u64 (ww1 u)) ∧ w'.cell? ⟨w.heap.size + 1, 3, none⟩ = some (.int .u64 (ww0 u)) ∧ w'.cell? ⟨w.heap.size + 1, 4, none⟩ = some (.int .u64 (ww3 v)) ∧ w'.cell? ⟨w.heap.size + 1, 5, none⟩ = some (.int .u64 (ww2 v)) ∧ w'.cell? ⟨w.heap.size + 1, 6, none⟩ = some (.int .u64 (ww1 v)) ∧ w'.cell? ⟨w.heap.size + 1, 7, none⟩ = some (.int .u64 (ww0 v)) ∧ w'.cell? ⟨w.heap.size + 1, 8, none⟩ = some (.int .u64 (ww3 t)) ∧ w'.cell? ⟨w.heap.size + 1, 9, none⟩ = some (.int .u64 (ww2 t)) ∧ w'.cell? ⟨w.heap.size + 1, 10, none⟩ = some (.int .u64 (ww1 t)) ∧ w'.cell? ⟨w.heap.size + 1, 11, none⟩ = some (.int .u64 (ww0 t)) ∧ w'.cell? ⟨w.heap.size + 2, 0, none⟩ = some (.int .u64 (ww3 a)) ∧ w'.cell? ⟨w.heap.size + 2, 1, none⟩ = some (.int .u64 (ww2 a)) ∧ w'.cell? ⟨w.heap.size + 2, 2, none⟩ = some (.int .u64 (ww1 a)) ∧ w'.cell? ⟨w.heap.size + 2, 3, none⟩ = some (.int .u64 (ww0 a)) ∧ w'.cell? ⟨w.heap.size + 2, 4, none⟩ = some (.int .u64 (ww3 b)) ∧ w'.cell? ⟨w.heap.size + 2, 5, none⟩ = some (.int .u64 (ww2 b)) ∧ w'.cell? ⟨w.heap.size + 2, 6, none⟩ = some (.int .u64 (ww1 b)) ∧ w'.cell? ⟨w.heap.size + 2, 7, none⟩ = some (.int .u64 (ww0 b)) ∧ w'.cell? ⟨w.heap.size + 2, 8, none⟩ = some (.int .u64 (ww3 c)) ∧ w'.cell? ⟨w.heap.size + 2, 9, none⟩ = some (.int .u64 (ww2 c)) ∧ w'.cell? ⟨w.heap.size + 2, 10, none⟩ = some (.int .u64 (ww1 c)) ∧ w'.cell? ⟨w.heap.size + 2, 11, none⟩ = some (.int .u64 (ww0 c))) (first | (with_reducible exact b3_cells T0) | (with_reducible exact b3_cells T0.drew))
      (first
        | (go_at_call 26; refine (C1 _).mono ?_; rintro e v1 ⟨rfl, hB⟩; (first | (have T1 := T0.step hB) | (have T1 := T0.drew.step hB)); clear T0; have T0 := T1; clear T1; clear hB)
        | (go_at_call 44; have _t := tok1; refine (C2 _).mono ?_; rintro e v2 ⟨rfl, hB⟩; (first | (have T1 := T0.step hB) | (have T1 := T0.drew.step hB)); clear T0; have T0 := T1; clear T1; clear hB; clear tok1 _t)
        | (go_at_call 44; refine (C3 _).mono ?_; rintro e v3 ⟨rfl, hB⟩; (first | (have T1 := T0.step hB) | (have T1 := T0.drew.step hB)); clear T0; have T0 := T1; clear T1; clear hB))
    all_goals have HB := T0.below
    all_goals clear T0
    all_goals go_wp2
    all_goals go_ret
    all_goals exact ⟨by rw [← HR.out]; simp, by first | exact HB | exact HB.drew⟩
  · have ho : (o1 == 0) = false := beq_eq_false_iff_ne.2 h
    have HR : Hid (R = false) := by show _ = _; rw [← HO.out]; simp [h]
    clear HO h hw
    refine wp_region_held_drew (S := (fun w' => w'.cell? ⟨w.heap.size, 0, none⟩ = some (.int .u64 (ww3 x)) ∧ w'.cell? ⟨w.heap.size, 1, none⟩ = some (.int .u64 (ww2 x)) ∧ w'.cell? ⟨w.heap.size, 2, none⟩ = some (.int .u64 (ww1 x)) ∧ w'.cell? ⟨w.heap.size, 3, none⟩ = some (.int .u64 (ww0 x)) ∧ w'.cell? ⟨w.heap.size, 4, none⟩ = some (.int .u64 (ww3 y)) ∧ w'.cell? ⟨w.heap.size, 5, none⟩ = some (.int .u64 (ww2 y)) ∧ w'.cell? ⟨w.heap.size, 6, none⟩ = some (.int .u64 (ww1 y)) ∧ w'.cell? ⟨w.heap.size, 7, none⟩ = some (.int .u64 (ww0 y)) ∧ w'.cell? ⟨w.heap.size, 8, none⟩ = some (.int .u64 (ww3 z)) ∧ w'.cell? ⟨w.heap.size, 9, none⟩ = some (.int .u64 (ww2 z)) ∧ w'.cell? ⟨w.heap.size, 10, none⟩ = some (.int .u64 (ww1 z)) ∧ w'.cell? ⟨w.heap.size, 11, none⟩ = some (.int .u64 (ww0 z)) ∧ w'.cell? ⟨w.heap.size + 1, 0, none⟩ = some (.int .u64 (ww3 u)) ∧ w'.cell? ⟨w.heap.size + 1, 1, none⟩ = some (.int .u64 (ww2 u)) ∧ w'.cell? ⟨w.heap.size + 1, 2, none⟩ = some (.int .u64 (ww1 u)) ∧ w'.cell? ⟨w.heap.size + 1, 3, none⟩ = some (.int .u64 (ww0 u)) ∧ w'.cell? ⟨w.heap.size + 1, 4, none⟩ = some (.int .u64 (ww3 v)) ∧ w'.cell? ⟨w.heap.size + 1, 5, none⟩ = some (.int .u64 (ww2 v)) ∧ w'.cell? ⟨w.heap.size + 1, 6, none⟩ = some (.int .u64 (ww1 v)) ∧ w'.cell? ⟨w.heap.size + 1, 7, none⟩ = some (.int .u64 (ww0 v)) ∧ w'.cell? ⟨w.heap.size + 1, 8, none⟩ = some (.int .u64 (ww3 t)) ∧ w'.cell? ⟨w.heap.size + 1, 9, none⟩ = some (.int .u64 (ww2 t)) ∧ w'.cell? ⟨w.heap.size + 1, 10, none⟩ = some (.int .u64 (ww1 t)) ∧ w'.cell? ⟨w.heap.size + 1, 11, none⟩ = some (.int .u64 (ww0 t)) ∧ w'.cell? ⟨w.heap.size + 2, 0, none⟩ = some (.int .u64 (ww3 a)) ∧ w'.cell? ⟨w.heap.size + 2, 1, none⟩ = some (.int .u64 (ww2 a)) ∧ w'.cell? ⟨w.heap.size + 2, 2, none⟩ = some (.int .u64 (ww1 a)) ∧ w'.cell? ⟨w.heap.size + 2, 3, none⟩ = some (.int .u64 (ww0 a)) ∧ w'.cell? ⟨w.heap.size + 2, 4, none⟩ = some (.int .u64 (ww3 b)) ∧ w'.cell? ⟨w.heap.size + 2, 5, none⟩ = some (.int .u64 (ww2 b)) ∧ w'.cell? ⟨w.heap.size + 2, 6, none⟩ = some (.int .u64 (ww1 b)) ∧ w'.cell? ⟨w.heap.size + 2, 7, none⟩ = some (.int .u64 (ww0 b)) ∧ w'.cell? ⟨w.heap.size + 2, 8, none⟩ = some (.int .u64 (ww3 c)) ∧ w'.cell? ⟨w.heap.size + 2, 9, none⟩ = some (.int .u64 (ww2 c)) ∧ w'.cell? ⟨w.heap.size + 2, 10, none⟩ = some (.int .u64 (ww1 c)) ∧ w'.cell? ⟨w.heap.size + 2, 11, none⟩ = some (.int .u64 (ww0 c)))) (by kernel_rfl) (b3_cells T0.drew) (fun hHeld => ?_)
    refine wpAnyH_take (i := 0) (v := PV x y z) rfl (by kernel_rfl) (by kernel_rfl) (by kernel_rfl) (fun _ _ _ h => h) (Or.inl ⟨by kernel_rfl, ?_⟩) (by assumption) ?_
    · intro w hSw
      (try dsimp only at hSw)
      go_simp
    refine wpAnyH_take (i := 1) (v := PV u v t) rfl (by kernel_rfl) (by kernel_rfl) (by kernel_rfl) (fun _ _ _ h => h) (Or.inl ⟨by kernel_rfl, ?_⟩) (by assumption) ?_
    · intro w hSw
      (try dsimp only at hSw)
      go_simp
    refine wpAnyH_take (i := 2) (v := PV a b c) rfl (by kernel_rfl) (by kernel_rfl) (by kernel_rfl) (fun _ _ _ h => h) (Or.inl ⟨by kernel_rfl, ?_⟩) (by assumption) ?_
    · intro w hSw
      (try dsimp only at hSw)
      go_simp
    refine wpAnyH_ready (rs := [3]) (by kernel_rfl) (by simp) ?_
    refine AllReadyH.cons rfl (fun K hK => ?_) AllReadyH.nil
    go_simp
    go_wp2_with (go_at_call 26; refine (C1 _).mono ?_; rintro e v1 ⟨rfl, hB⟩; (first | (have T1 := T0.step hB) | (have T1 := T0.drew.step hB)); clear T0; have T0 := T1; clear T1; clear hB)
    clear hHeld
    refine hK.out _ _ (b3_cells T0) (fun hHeld => ?_)
    clear hK
    refine wpAnyH_take (i := 4) (v := .bool false) rfl (by kernel_rfl) (by kernel_rfl) (by kernel_rfl) (fun _ _ _ h => h) (Or.inl ⟨by kernel_rfl, ?_⟩) (by assumption) ?_
    · intro w hSw
      (try dsimp only at hSw)
      go_simp
    refine wpAnyH_take (i := 5) (v := .bool false) rfl (by kernel_rfl) (by kernel_rfl) (by kernel_rfl) (fun _ _ _ h => h) (Or.inl ⟨by kernel_rfl, ?_⟩) (by assumption) ?_
    · intro w hSw
      (try dsimp only at hSw)
      go_simp
    refine wpAnyH_take (i := 6) (v := undef) rfl (by kernel_rfl) (by kernel_rfl) (by kernel_rfl) (fun _ _ _ h => h) (Or.inr ⟨by kernel_rfl, rfl⟩) (by assumption) ?_
    refine wpAnyH_take (i := 7) (v := undef) rfl (by kernel_rfl) (by kernel_rfl) (by kernel_rfl) (fun _ _ _ h => h) (Or.inr ⟨by kernel_rfl, rfl⟩) (by assumption) ?_
    refine wpAnyH_take (i := 8) (v := undef) rfl (by kernel_rfl) (by kernel_rfl) (by kernel_rfl) (fun _ _ _ h => h) (Or.inr ⟨by kernel_rfl, rfl⟩) (by assumption) ?_
    refine wpAnyH_take (i := 9) (v := undef) rfl (by kernel_rfl) (by kernel_rfl) (by kernel_rfl) (fun _ _ _ h => h) (Or.inr ⟨by kernel_rfl, rfl⟩) (by assumption) ?_
    refine wpAnyH_take (i := 10) (v := undef) rfl (by kernel_rfl) (by kernel_rfl) (by kernel_rfl) (fun _ _ _ h => h) (Or.inr ⟨by kernel_rfl, rfl⟩) (by assumption) ?_
    refine wpAnyH_take (i := 11) (v := undef) rfl (by kernel_rfl) (by kernel_rfl) (by kernel_rfl) (fun _ _ _ h => h) (Or.inr ⟨by kernel_rfl, rfl⟩) (by assumption) ?_
    refine wpAnyH_take (i := 12) (v := undef) rfl (by kernel_rfl) (by kernel_rfl) (by kernel_rfl) (fun _ _ _ h => h) (Or.inr ⟨by kernel_rfl, rfl⟩) (by assumption) ?_
    refine wpAnyH_take (i := 13) (v := undef) rfl (by kernel_rfl) (by kernel_rfl) (by kernel_rfl) (fun _ _ _ h => h) (Or.inr ⟨by kernel_rfl, rfl⟩) (by assumption) ?_
    refine wpAnyH_ready (rs := [14]) (by kernel_rfl) (by simp) ?_
    refine AllReadyH.cons rfl (fun K hK => ?_) AllReadyH.nil
    go_simp
    refine hK.out _ _ (by assumption) (fun _ => ?_)
    clear hK
    refine wpAnyH_ready (rs := [15]) (by kernel_rfl) (by simp) ?_
    refine AllReadyH.cons rfl (fun K hK => ?_) AllReadyH.nil
    go_simp
    refine hK.out _ _ (by assumption) (fun _ => ?_)
    clear hK
    refine wpAnyH_done (by kernel_rfl) ?_ _
    have HB := T0.below
    clear T0
    go_wp2
    go_ret
    exact ⟨by rw [HR.out]; rfl, by first | exact HB | exact HB.drew⟩
end Go.Proofs.Ytnflhnfjlbjgdaa

/- What lies between two points: the model's walk, and both sides. -/
namespace Go.Proofs.Ytnflhnfjlbjgdaa
open Go.RowKit
end Go.Proofs.Ytnflhnfjlbjgdaa

/- What lies between two points: both sides. -/
namespace Go.Proofs.Ytnflhnfjlbjgdaa
open Go.RowKit
/-- Whether the third point lies between the two; of points that are not right, no. -/
def btwV (x y z u v t a b c : Int) : Bool := ptB x y z && ptB u v t && ptB a b c && btwS x y z u v t a b c
set_option maxRecDepth 100000 in
set_option maxHeartbeats 4000000 in
theorem implBetween_det (x y z u v t a b c : Int) (hx : told x = true) (hy : told y = true) (hz : told z = true) (hu : told u = true) (hv : told v = true) (ht : told t = true) (ha : told a = true) (hb : told b = true) (hc : told c = true) (w : World) : Calls Try.prog 13 #[PV x y z, PV u v t, PV a b c] w (VP (.bool (btwV x y z u v t a b c)) w) := by
  have T0 : ArgsB w (((w.alloc (.cells #[.int .u64 (ww3 x), .int .u64 (ww2 x), .int .u64 (ww1 x), .int .u64 (ww0 x), .int .u64 (ww3 y), .int .u64 (ww2 y), .int .u64 (ww1 y), .int .u64 (ww0 y), .int .u64 (ww3 z), .int .u64 (ww2 z), .int .u64 (ww1 z), .int .u64 (ww0 z)] 28)).alloc (.cells #[.int .u64 (ww3 u), .int .u64 (ww2 u), .int .u64 (ww1 u), .int .u64 (ww0 u), .int .u64 (ww3 v), .int .u64 (ww2 v), .int .u64 (ww1 v), .int .u64 (ww0 v), .int .u64 (ww3 t), .int .u64 (ww2 t), .int .u64 (ww1 t), .int .u64 (ww0 t)] 28)).alloc (.cells #[.int .u64 (ww3 a), .int .u64 (ww2 a), .int .u64 (ww1 a), .int .u64 (ww0 a), .int .u64 (ww3 b), .int .u64 (ww2 b), .int .u64 (ww1 b), .int .u64 (ww0 b), .int .u64 (ww3 c), .int .u64 (ww2 c), .int .u64 (ww1 c), .int .u64 (ww0 c)] 28)) [[.int .u64 (ww3 x), .int .u64 (ww2 x), .int .u64 (ww1 x), .int .u64 (ww0 x), .int .u64 (ww3 y), .int .u64 (ww2 y), .int .u64 (ww1 y), .int .u64 (ww0 y), .int .u64 (ww3 z), .int .u64 (ww2 z), .int .u64 (ww1 z), .int .u64 (ww0 z)], [.int .u64 (ww3 u), .int .u64 (ww2 u), .int .u64 (ww1 u), .int .u64 (ww0 u), .int .u64 (ww3 v), .int .u64 (ww2 v), .int .u64 (ww1 v), .int .u64 (ww0 v), .int .u64 (ww3 t), .int .u64 (ww2 t), .int .u64 (ww1 t), .int .u64 (ww0 t)], [.int .u64 (ww3 a), .int .u64 (ww2 a), .int .u64 (ww1 a), .int .u64 (ww0 a), .int .u64 (ww3 b), .int .u64 (ww2 b), .int .u64 (ww1 b), .int .u64 (ww0 b), .int .u64 (ww3 c), .int .u64 (ww2 c), .int .u64 (ww1 c), .int .u64 (ww0 c)]] := ar3 _ _ _ _ _ _ w
  have R1 := pright_det x y z hx hy hz
  have R2 := pright_det u v t hu hv ht
  have R3 := pright_det a b c ha hb hc
  clear hx hy hz hu hv ht ha hb hc
  go_enter Try.func13, Try.ntmps13
  go_wp2_with fail
  generalize (((w.alloc (.cells #[.int .u64 (ww3 x), .int .u64 (ww2 x), .int .u64 (ww1 x), .int .u64 (ww0 x), .int .u64 (ww3 y), .int .u64 (ww2 y), .int .u64 (ww1 y), .int .u64 (ww0 y), .int .u64 (ww3 z), .int .u64 (ww2 z), .int .u64 (ww1 z), .int .u64 (ww0 z)] 28)).alloc (.cells #[.int .u64 (ww3 u), .int .u64 (ww2 u), .int .u64 (ww1 u), .int .u64 (ww0 u), .int .u64 (ww3 v), .int .u64 (ww2 v), .int .u64 (ww1 v), .int .u64 (ww0 v), .int .u64 (ww3 t), .int .u64 (ww2 t), .int .u64 (ww1 t), .int .u64 (ww0 t)] 28)).alloc (.cells #[.int .u64 (ww3 a), .int .u64 (ww2 a), .int .u64 (ww1 a), .int .u64 (ww0 a), .int .u64 (ww3 b), .int .u64 (ww2 b), .int .u64 (ww1 b), .int .u64 (ww0 b), .int .u64 (ww3 c), .int .u64 (ww2 c), .int .u64 (ww1 c), .int .u64 (ww0 c)] 28)) = W at *
  refine (R1 _).mono ?_
  rintro e w1 ⟨rfl, hB⟩
  replace T0 := T0.step hB
  clear hB
  by_cases h1 : ptB x y z = true
  · rw [h1]
    have X0 : Blk _ w.heap.size _ := T0.b 0 rfl; have Y0 : Blk _ (w.heap.size + 1) _ := T0.b 1 rfl; have Z0 : Blk _ (w.heap.size + 1 + 1) _ := T0.b 2 rfl; have p0 := X0.c 0 rfl; have q0 := Y0.c 0 rfl; have r0 := Z0.c 0 rfl; have p1 := X0.c 1 rfl; have q1 := Y0.c 1 rfl; have r1 := Z0.c 1 rfl; have p2 := X0.c 2 rfl; have q2 := Y0.c 2 rfl; have r2 := Z0.c 2 rfl; have p3 := X0.c 3 rfl; have q3 := Y0.c 3 rfl; have r3 := Z0.c 3 rfl; have p4 := X0.c 4 rfl; have q4 := Y0.c 4 rfl; have r4 := Z0.c 4 rfl; have p5 := X0.c 5 rfl; have q5 := Y0.c 5 rfl; have r5 := Z0.c 5 rfl; have p6 := X0.c 6 rfl; have q6 := Y0.c 6 rfl; have r6 := Z0.c 6 rfl; have p7 := X0.c 7 rfl; have q7 := Y0.c 7 rfl; have r7 := Z0.c 7 rfl; have p8 := X0.c 8 rfl; have q8 := Y0.c 8 rfl; have r8 := Z0.c 8 rfl; have p9 := X0.c 9 rfl; have q9 := Y0.c 9 rfl; have r9 := Z0.c 9 rfl; have p10 := X0.c 10 rfl; have q10 := Y0.c 10 rfl; have r10 := Z0.c 10 rfl; have p11 := X0.c 11 rfl; have q11 := Y0.c 11 rfl; have r11 := Z0.c 11 rfl; clear X0 Y0 Z0
    go_wp2_with fail
    refine (R2 _).mono ?_
    rintro e w2 ⟨rfl, hB⟩
    replace T0 := T0.step hB
    clear hB p0 q0 r0 p1 q1 r1 p2 q2 r2 p3 q3 r3 p4 q4 r4 p5 q5 r5 p6 q6 r6 p7 q7 r7 p8 q8 r8 p9 q9 r9 p10 q10 r10 p11 q11 r11
    by_cases h2 : ptB u v t = true
    · rw [h2]
      have X0 : Blk _ w.heap.size _ := T0.b 0 rfl; have Y0 : Blk _ (w.heap.size + 1) _ := T0.b 1 rfl; have Z0 : Blk _ (w.heap.size + 1 + 1) _ := T0.b 2 rfl; have p0 := X0.c 0 rfl; have q0 := Y0.c 0 rfl; have r0 := Z0.c 0 rfl; have p1 := X0.c 1 rfl; have q1 := Y0.c 1 rfl; have r1 := Z0.c 1 rfl; have p2 := X0.c 2 rfl; have q2 := Y0.c 2 rfl; have r2 := Z0.c 2 rfl; have p3 := X0.c 3 rfl; have q3 := Y0.c 3 rfl; have r3 := Z0.c 3 rfl; have p4 := X0.c 4 rfl; have q4 := Y0.c 4 rfl; have r4 := Z0.c 4 rfl; have p5 := X0.c 5 rfl; have q5 := Y0.c 5 rfl; have r5 := Z0.c 5 rfl; have p6 := X0.c 6 rfl; have q6 := Y0.c 6 rfl; have r6 := Z0.c 6 rfl; have p7 := X0.c 7 rfl; have q7 := Y0.c 7 rfl; have r7 := Z0.c 7 rfl; have p8 := X0.c 8 rfl; have q8 := Y0.c 8 rfl; have r8 := Z0.c 8 rfl; have p9 := X0.c 9 rfl; have q9 := Y0.c 9 rfl; have r9 := Z0.c 9 rfl; have p10 := X0.c 10 rfl; have q10 := Y0.c 10 rfl; have r10 := Z0.c 10 rfl; have p11 := X0.c 11 rfl; have q11 := Y0.c 11 rfl; have r11 := Z0.c 11 rfl; clear X0 Y0 Z0
      go_wp2_with fail
      refine (R3 _).mono ?_
      rintro e w3 ⟨rfl, hB⟩
      replace T0 := T0.step hB
      clear hB p0 q0 r0 p1 q1 r1 p2 q2 r2 p3 q3 r3 p4 q4 r4 p5 q5 r5 p6 q6 r6 p7 q7 r7 p8 q8 r8 p9 q9 r9 p10 q10 r10 p11 q11 r11
      by_cases h3 : ptB a b c = true
      · rw [h3]
        have HO : Hid (btwV x y z u v t a b c = btwS x y z u v t a b c) := by show _ = _; unfold btwV; rw [h1, h2, h3]; rfl
        obtain ⟨pz, sx, sy, sz⟩ := ptB_small h1
        obtain ⟨pt, su, sv, st⟩ := ptB_small h2
        obtain ⟨pc, sa, sb, sc⟩ := ptB_small h3
        have C := lies_det x y z u v t a b c sx sy sz su sv st sa sb sc pz pt pc
        clear h1 h2 h3 R1 R2 R3 pz pt pc sx sy sz su sv st sa sb sc
        generalize btwS x y z u v t a b c = o at *
        have X0 : Blk _ w.heap.size _ := T0.b 0 rfl; have Y0 : Blk _ (w.heap.size + 1) _ := T0.b 1 rfl; have Z0 : Blk _ (w.heap.size + 1 + 1) _ := T0.b 2 rfl; have p0 := X0.c 0 rfl; have q0 := Y0.c 0 rfl; have r0 := Z0.c 0 rfl; have p1 := X0.c 1 rfl; have q1 := Y0.c 1 rfl; have r1 := Z0.c 1 rfl; have p2 := X0.c 2 rfl; have q2 := Y0.c 2 rfl; have r2 := Z0.c 2 rfl; have p3 := X0.c 3 rfl; have q3 := Y0.c 3 rfl; have r3 := Z0.c 3 rfl; have p4 := X0.c 4 rfl; have q4 := Y0.c 4 rfl; have r4 := Z0.c 4 rfl; have p5 := X0.c 5 rfl; have q5 := Y0.c 5 rfl; have r5 := Z0.c 5 rfl; have p6 := X0.c 6 rfl; have q6 := Y0.c 6 rfl; have r6 := Z0.c 6 rfl; have p7 := X0.c 7 rfl; have q7 := Y0.c 7 rfl; have r7 := Z0.c 7 rfl; have p8 := X0.c 8 rfl; have q8 := Y0.c 8 rfl; have r8 := Z0.c 8 rfl; have p9 := X0.c 9 rfl; have q9 := Y0.c 9 rfl; have r9 := Z0.c 9 rfl; have p10 := X0.c 10 rfl; have q10 := Y0.c 10 rfl; have r10 := Z0.c 10 rfl; have p11 := X0.c 11 rfl; have q11 := Y0.c 11 rfl; have r11 := Z0.c 11 rfl; clear X0 Y0 Z0
        go_wp2_with fail
        refine (C _).mono ?_
        rintro e w4 ⟨rfl, hB⟩
        have HB := (T0.step hB).below
        clear hB T0 C p0 q0 r0 p1 q1 r1 p2 q2 r2 p3 q3 r3 p4 q4 r4 p5 q5 r5 p6 q6 r6 p7 q7 r7 p8 q8 r8 p9 q9 r9 p10 q10 r10 p11 q11 r11
        go_wp2
        go_ret
        exact ⟨by rw [HO.out]; rfl, HB⟩
      · replace h3 := Bool.eq_false_iff.2 h3
        rw [h3]
        have HO : Hid (btwV x y z u v t a b c = false) := by show _ = _; unfold btwV; rw [h3]; simp
        have HB := T0.below
        clear T0 h1 h2 h3 R1 R2 R3
        go_wp2
        go_ret
        exact ⟨by rw [HO.out]; rfl, HB⟩
    · replace h2 := Bool.eq_false_iff.2 h2
      rw [h2]
      have HO : Hid (btwV x y z u v t a b c = false) := by show _ = _; unfold btwV; rw [h2]; simp
      have HB := T0.below
      clear T0 h1 h2 R1 R2 R3
      go_wp2
      go_ret
      exact ⟨by rw [HO.out]; rfl, HB⟩
  · replace h1 := Bool.eq_false_iff.2 h1
    rw [h1]
    have HO : Hid (btwV x y z u v t a b c = false) := by show _ = _; unfold btwV; rw [h1]; simp
    have HB := T0.below
    clear T0 h1 R1 R2 R3
    go_wp2
    go_ret
    exact ⟨by rw [HO.out]; rfl, HB⟩
end Go.Proofs.Ytnflhnfjlbjgdaa

/- What lies between, of the middle: the reckoning. -/
namespace Go.Proofs.Ytnflhnfjlbjgdaa
open Go.RowKit
theorem turn_pqp (x y z u v t : Int) : turnI x y z u v t x y z = 0 := by
  unfold turnI
  rw [show x * (v * z - t * y) - y * (u * z - t * x) + z * (u * y - v * x) = 0 by grind]
  decide
theorem turn_qpp (x y z u v t : Int) : turnI u v t x y z x y z = 0 := by
  unfold turnI
  rw [show u * (y * z - z * y) - v * (x * z - z * x) + t * (x * y - y * x) = 0 by grind]
  decide
theorem ord_self (x y z : Int) : ordI x y z x y z = 0 := by
  unfold ordI
  rw [if_pos (cmpI_zero.2 rfl)]
  exact cmpI_zero.2 rfl
theorem turn_pmq {x y z u v t a b c : Int} (h : turnI x y z u v t a b c = 0) : turnI x y z a b c u v t = 0 := by
  unfold turnI at *
  rw [cmpI_zero] at *
  have e : x * (b * t - c * v) - y * (a * t - c * u) + z * (a * v - b * u) = -(x * (v * c - t * b) - y * (u * c - t * a) + z * (u * b - v * a)) := by grind
  rw [e, h]
  rfl
theorem mid_between {x y z u v t a b c g : Int} (h1 : ptB x y z = true) (h2 : ptB u v t = true) (h3 : ptB a b c = true) (hg : 0 < g) (e1 : x * t + u * z = a * g) (e2 : y * t + v * z = b * g) (e3 : 2 * (z * t) = c * g) :
    btwV x y z u v t a b c = true ∧ btwV x y z u v t x y z = true ∧ oriI x y z u v t a b c = 0 ∧ btwV x y z a b c u v t = (decide (x = u) && decide (y = v) && decide (z = t)) := by
  obtain ⟨pz, -⟩ := ptB_gcd h1
  obtain ⟨pt, -⟩ := ptB_gcd h2
  obtain ⟨o1, o2, o3⟩ := mid_ord pz pt hg e1 e2 e3
  have o4 := ord_turned x y z a b c
  have o5 := ord_turned a b c u v t
  have o6 := ord_turned x y z u v t
  have o7 := ord_self x y z
  have t1 := (turn_swap x y z u v t a b c).2 o3
  have t2 := turn_pqp x y z u v t
  have t3 := turn_qpp x y z u v t
  have t4 := turn_pmq o3
  have t5 := (turn_swap x y z a b c u v t).2 t4
  have hz : (decide (x = u) && decide (y = v) && decide (z = t)) = decide (ordI x y z u v t = 0) := by
    rw [Bool.eq_iff_iff]
    simp
    rw [ord_zero h1 h2]
    constructor
    · rintro ⟨⟨a1, a2⟩, a3⟩; exact ⟨a1, a2, a3⟩
    · rintro ⟨a1, a2, a3⟩; exact ⟨⟨a1, a2⟩, a3⟩
  rw [hz]
  unfold btwV oriI
  rw [h1, h2, h3]
  unfold btwS
  rw [o1, o2] at *
  generalize ordI x y z u v t = o at *
  refine ⟨?_, ?_, ?_, ?_⟩
  · by_cases h : 0 < o
    · rw [if_pos h, o4, o5, t1]; simp; omega
    · rw [if_neg h, o3]; simp; omega
  · by_cases h : 0 < o
    · rw [if_pos h, o6, o7, t3]; simp; omega
    · rw [if_neg h, o7, t2]; simp; omega
  · rw [o3]; rfl
  · by_cases h : 0 < o
    · rw [if_pos h]
      have n1 : decide (o ≤ 0) = false := by simp; omega
      have n2 : decide (o = 0) = false := by simp; omega
      rw [n1, n2]; rfl
    · rw [if_neg h, o5, t4]
      have n1 : decide (o ≤ 0) = true := by simp; omega
      have n2 : decide (-o ≤ 0) = decide (o = 0) := by rw [decide_eq_decide]; omega
      rw [n1, n2]; simp
end Go.Proofs.Ytnflhnfjlbjgdaa

/- The program's sums, products and quotients of fractions. -/
namespace Go.Proofs.Ytnflhnfjlbjgdaa
open Go.RowKit
/-- A fraction of two longs. -/
def FracP (n d : Int) (w : World) (e : Ending) (w' : World) : Prop :=
  ∃ x0 x1 x2 x3 x4 x5 x6 x7 y0 y1 y2 y3 y4 y5 y6 y7 : Int, e = .returned (.agg #[.int .u64 x0, .int .u64 x1, .int .u64 x2, .int .u64 x3, .int .u64 x4, .int .u64 x5, .int .u64 x6, .int .u64 x7, .int .u64 y0, .int .u64 y1, .int .u64 y2, .int .u64 y3, .int .u64 y4, .int .u64 y5, .int .u64 y6, .int .u64 y7]) ∧ Words [x0, x1, x2, x3, x4, x5, x6, x7] ∧ Words [y0, y1, y2, y3, y4, y5, y6, y7] ∧ sl x0 x1 x2 x3 x4 x5 x6 x7 = n ∧ sl y0 y1 y2 y3 y4 y5 y6 y7 = d ∧ Below w.heap.size w w'
theorem rs_args (a3 a2 a1 a0 b3 b2 b1 b0 c3 c2 c1 c0 d3 d2 d1 d0 : Int) (T : TypeId) (zs : List Value) (w : World) : ArgsB w (((w.alloc (.cells #[.int .u64 a3, .int .u64 a2, .int .u64 a1, .int .u64 a0, .int .u64 b3, .int .u64 b2, .int .u64 b1, .int .u64 b0] 38)).alloc (.cells #[.int .u64 c3, .int .u64 c2, .int .u64 c1, .int .u64 c0, .int .u64 d3, .int .u64 d2, .int .u64 d1, .int .u64 d0] 38)).alloc (.cells zs.toArray T)) [[.int .u64 a3, .int .u64 a2, .int .u64 a1, .int .u64 a0, .int .u64 b3, .int .u64 b2, .int .u64 b1, .int .u64 b0], [.int .u64 c3, .int .u64 c2, .int .u64 c1, .int .u64 c0, .int .u64 d3, .int .u64 d2, .int .u64 d1, .int .u64 d0]] := by
  refine ⟨(((Below.refl _ _).alloc (Nat.le_refl _) _).alloc (by simp) _).alloc (by simp; omega) _, fun j vs hj => ?_⟩
  match j, hj with
  | 0, hj => cases hj; exact ((Blk.new w [.int .u64 a3, .int .u64 a2, .int .u64 a1, .int .u64 a0, .int .u64 b3, .int .u64 b2, .int .u64 b1, .int .u64 b0] 38 rfl).alloc _).alloc _
  | 1, hj => cases hj; exact (Blk.new (w.alloc (.cells #[.int .u64 a3, .int .u64 a2, .int .u64 a1, .int .u64 a0, .int .u64 b3, .int .u64 b2, .int .u64 b1, .int .u64 b0] 38)) [.int .u64 c3, .int .u64 c2, .int .u64 c1, .int .u64 c0, .int .u64 d3, .int .u64 d2, .int .u64 d1, .int .u64 d0] 38 (by simp)).alloc _
  | j + 2, hj => simp at hj
theorem Blk.stored16 {W : World} {g : Nat} {z0 z1 z2 z3 z4 z5 z6 z7 z8 z9 z10 z11 z12 z13 z14 z15 : Value} (G : Blk W g [z0, z1, z2, z3, z4, z5, z6, z7, z8, z9, z10, z11, z12, z13, z14, z15]) (v0 v1 v2 v3 v4 v5 v6 v7 v8 v9 v10 v11 v12 v13 v14 v15 : Value) : Blk ((((((((((((((((W.setCell ⟨g, 0, none⟩ v0).setCell ⟨g, 1, none⟩ v1).setCell ⟨g, 2, none⟩ v2).setCell ⟨g, 3, none⟩ v3).setCell ⟨g, 4, none⟩ v4).setCell ⟨g, 5, none⟩ v5).setCell ⟨g, 6, none⟩ v6).setCell ⟨g, 7, none⟩ v7).setCell ⟨g, 8, none⟩ v8).setCell ⟨g, 9, none⟩ v9).setCell ⟨g, 10, none⟩ v10).setCell ⟨g, 11, none⟩ v11).setCell ⟨g, 12, none⟩ v12).setCell ⟨g, 13, none⟩ v13).setCell ⟨g, 14, none⟩ v14).setCell ⟨g, 15, none⟩ v15) g [v0, v1, v2, v3, v4, v5, v6, v7, v8, v9, v10, v11, v12, v13, v14, v15] :=
  ((((((((((((((((G.setI 0 (by simp) v0).setI 1 (by simp) v1).setI 2 (by simp) v2).setI 3 (by simp) v3).setI 4 (by simp) v4).setI 5 (by simp) v5).setI 6 (by simp) v6).setI 7 (by simp) v7).setI 8 (by simp) v8).setI 9 (by simp) v9).setI 10 (by simp) v10).setI 11 (by simp) v11).setI 12 (by simp) v12).setI 13 (by simp) v13).setI 14 (by simp) v14).setI 15 (by simp) v15)
theorem below_set16 {B g : Nat} {w W : World} {v0 v1 v2 v3 v4 v5 v6 v7 v8 v9 v10 v11 v12 v13 v14 v15 : Value} (hg : B ≤ g) (h : Below B w W) : Below B w ((((((((((((((((W.setCell ⟨g, 0, none⟩ v0).setCell ⟨g, 1, none⟩ v1).setCell ⟨g, 2, none⟩ v2).setCell ⟨g, 3, none⟩ v3).setCell ⟨g, 4, none⟩ v4).setCell ⟨g, 5, none⟩ v5).setCell ⟨g, 6, none⟩ v6).setCell ⟨g, 7, none⟩ v7).setCell ⟨g, 8, none⟩ v8).setCell ⟨g, 9, none⟩ v9).setCell ⟨g, 10, none⟩ v10).setCell ⟨g, 11, none⟩ v11).setCell ⟨g, 12, none⟩ v12).setCell ⟨g, 13, none⟩ v13).setCell ⟨g, 14, none⟩ v14).setCell ⟨g, 15, none⟩ v15) := ((((((((((((((((h.setCell (by exact hg) _).setCell (by exact hg) _).setCell (by exact hg) _).setCell (by exact hg) _).setCell (by exact hg) _).setCell (by exact hg) _).setCell (by exact hg) _).setCell (by exact hg) _).setCell (by exact hg) _).setCell (by exact hg) _).setCell (by exact hg) _).setCell (by exact hg) _).setCell (by exact hg) _).setCell (by exact hg) _).setCell (by exact hg) _).setCell (by exact hg) _)
theorem long_ex (z : Int) (h0 : -6703903964971298549787012499102923063739682910296196688861780721860882015036773488400937149083451713845015929093243025426876941405973284973216824503042048 ≤ z) (h1 : z < 6703903964971298549787012499102923063739682910296196688861780721860882015036773488400937149083451713845015929093243025426876941405973284973216824503042048) : ∃ m0 m1 m2 m3 m4 m5 m6 m7 : Int, Words [m0, m1, m2, m3, m4, m5, m6, m7] ∧ sl m0 m1 m2 m3 m4 m5 m6 m7 = z := by
  by_cases hz : 0 ≤ z
  · obtain ⟨m0, m1, m2, m3, m4, m5, m6, m7, wm, hv⟩ := words8_ex z hz (by omega)
    refine ⟨m0, m1, m2, m3, m4, m5, m6, m7, wm, ?_⟩
    obtain ⟨u1, u2, u3⟩ := sl_top wm
    unfold sl
    rw [if_pos (u1.2 (by omega)), hv]
    omega
  · obtain ⟨m0, m1, m2, m3, m4, m5, m6, m7, wm, hv⟩ := words8_ex (z + 13407807929942597099574024998205846127479365820592393377723561443721764030073546976801874298166903427690031858186486050853753882811946569946433649006084096) (by omega) (by omega)
    refine ⟨m0, m1, m2, m3, m4, m5, m6, m7, wm, ?_⟩
    obtain ⟨u1, u2, u3⟩ := sl_top wm
    unfold sl
    rw [if_neg (by rw [u1]; omega), hv]
    omega
theorem times_VP {z : Int} {m0 m1 m2 m3 m4 m5 m6 m7 : Int} (wm : Words [m0, m1, m2, m3, m4, m5, m6, m7]) (hm : sl m0 m1 m2 m3 m4 m5 m6 m7 = z) {w w' : World} {e : Ending} (h : TimesP z w e w') : VP (L8 m0 m1 m2 m3 m4 m5 m6 m7) w e w' := by
  obtain ⟨z0, z1, z2, z3, z4, z5, z6, z7, rfl, wz, hz, hB⟩ := h
  have e := sl_inj wz wm (hz.trans hm.symm)
  simp only [List.cons.injEq] at e
  obtain ⟨rfl, rfl, rfl, rfl, rfl, rfl, rfl, rfl, -⟩ := e
  exact ⟨rfl, hB⟩
theorem sw_prod {a3 a2 a1 a0 b3 b2 b1 b0 : Int} (h3 : Word a3) (h2 : Word a2) (h1 : Word a1) (h0 : Word a0) (k3 : Word b3) (k2 : Word b2) (k1 : Word b1) (k0 : Word b0) : -3351951982485649274893506249551461531869841455148098344430890360930441007518386744200468574541725856922507964546621512713438470702986642486608412251521024 ≤ (sw a3 a2 a1 a0) * (sw b3 b2 b1 b0) ∧ (sw a3 a2 a1 a0) * (sw b3 b2 b1 b0) ≤ 3351951982485649274893506249551461531869841455148098344430890360930441007518386744200468574541725856922507964546621512713438470702986642486608412251521024 := by
  have s1 := sw_size h3 h2 h1 h0
  have s2 := sw_size k3 k2 k1 k0
  generalize (sw a3 a2 a1 a0) = x at *
  generalize (sw b3 b2 b1 b0) = y at *
  have e : (x * y).natAbs = x.natAbs * y.natAbs := Int.natAbs_mul x y
  have e2 : ((x.natAbs * y.natAbs : Nat) : Int) ≤ 57896044618658097711785492504343953926634992332820282019728792003956564819968 * 57896044618658097711785492504343953926634992332820282019728792003956564819968 := by
    rw [Int.natCast_mul]
    exact Int.mul_le_mul s1 s2 (by omega) (by omega)
  omega
set_option maxRecDepth 100000 in
set_option maxHeartbeats 2000000 in
theorem timesR_any (a3 a2 a1 a0 b3 b2 b1 b0 c3 c2 c1 c0 d3 d2 d1 d0 : Int) (ha3 : Word a3) (ha2 : Word a2) (ha1 : Word a1) (ha0 : Word a0) (hb3 : Word b3) (hb2 : Word b2) (hb1 : Word b1) (hb0 : Word b0) (hc3 : Word c3) (hc2 : Word c2) (hc1 : Word c1) (hc0 : Word c0) (hd3 : Word d3) (hd2 : Word d2) (hd1 : Word d1) (hd0 : Word d0) (w : World) : Calls Try.prog 43 #[Rt a3 a2 a1 a0 b3 b2 b1 b0, Rt c3 c2 c1 c0 d3 d2 d1 d0] w (FracP ((sw a3 a2 a1 a0) * (sw c3 c2 c1 c0)) ((sw b3 b2 b1 b0) * (sw d3 d2 d1 d0)) w) := by
  have T0 := rs_args a3 a2 a1 a0 b3 b2 b1 b0 c3 c2 c1 c0 d3 d2 d1 d0 71 [.int .u64 0, .int .u64 0, .int .u64 0, .int .u64 0, .int .u64 0, .int .u64 0, .int .u64 0, .int .u64 0, .int .u64 0, .int .u64 0, .int .u64 0, .int .u64 0, .int .u64 0, .int .u64 0, .int .u64 0, .int .u64 0] w
  have R0 : Blk (((w.alloc (.cells #[.int .u64 a3, .int .u64 a2, .int .u64 a1, .int .u64 a0, .int .u64 b3, .int .u64 b2, .int .u64 b1, .int .u64 b0] 38)).alloc (.cells #[.int .u64 c3, .int .u64 c2, .int .u64 c1, .int .u64 c0, .int .u64 d3, .int .u64 d2, .int .u64 d1, .int .u64 d0] 38)).alloc (.cells #[.int .u64 0, .int .u64 0, .int .u64 0, .int .u64 0, .int .u64 0, .int .u64 0, .int .u64 0, .int .u64 0, .int .u64 0, .int .u64 0, .int .u64 0, .int .u64 0, .int .u64 0, .int .u64 0, .int .u64 0, .int .u64 0] 71)) (w.heap.size + 1 + 1) [.int .u64 0, .int .u64 0, .int .u64 0, .int .u64 0, .int .u64 0, .int .u64 0, .int .u64 0, .int .u64 0, .int .u64 0, .int .u64 0, .int .u64 0, .int .u64 0, .int .u64 0, .int .u64 0, .int .u64 0, .int .u64 0] := Blk.new _ [.int .u64 0, .int .u64 0, .int .u64 0, .int .u64 0, .int .u64 0, .int .u64 0, .int .u64 0, .int .u64 0, .int .u64 0, .int .u64 0, .int .u64 0, .int .u64 0, .int .u64 0, .int .u64 0, .int .u64 0, .int .u64 0] _ (by simp)
  obtain ⟨m0, m1, m2, m3, m4, m5, m6, m7, wm, hm⟩ := long_ex ((sw a3 a2 a1 a0) * (sw c3 c2 c1 c0)) (by have := sw_prod ha3 ha2 ha1 ha0 hc3 hc2 hc1 hc0; omega) (by have := sw_prod ha3 ha2 ha1 ha0 hc3 hc2 hc1 hc0; omega)
  obtain ⟨n0, n1, n2, n3, n4, n5, n6, n7, wn, hn⟩ := long_ex ((sw b3 b2 b1 b0) * (sw d3 d2 d1 d0)) (by have := sw_prod hb3 hb2 hb1 hb0 hd3 hd2 hd1 hd0; omega) (by have := sw_prod hb3 hb2 hb1 hb0 hd3 hd2 hd1 hd0; omega)
  have C1 := fun w => (times_any a3 a2 a1 a0 c3 c2 c1 c0 ha3 ha2 ha1 ha0 hc3 hc2 hc1 hc0 w).mono fun _ _ => times_VP wm hm
  have C2 := fun w => (times_any b3 b2 b1 b0 d3 d2 d1 d0 hb3 hb2 hb1 hb0 hd3 hd2 hd1 hd0 w).mono fun _ _ => times_VP wn hn
  have tok1 : True := trivial
  go_enter Try.func43, Try.ntmps43
  go_upto_region 1 with fail
  generalize (((w.alloc (.cells #[.int .u64 a3, .int .u64 a2, .int .u64 a1, .int .u64 a0, .int .u64 b3, .int .u64 b2, .int .u64 b1, .int .u64 b0] 38)).alloc (.cells #[.int .u64 c3, .int .u64 c2, .int .u64 c1, .int .u64 c0, .int .u64 d3, .int .u64 d2, .int .u64 d1, .int .u64 d0] 38)).alloc (.cells #[.int .u64 0, .int .u64 0, .int .u64 0, .int .u64 0, .int .u64 0, .int .u64 0, .int .u64 0, .int .u64 0, .int .u64 0, .int .u64 0, .int .u64 0, .int .u64 0, .int .u64 0, .int .u64 0, .int .u64 0, .int .u64 0] 71)) = W at *
  have hlw := (T0.b 1 rfl).lt
  have hlr := R0.lt
  go_region_held3 (fun w' => w'.cell? ⟨w.heap.size, 0, none⟩ = some (.int .u64 a3) ∧ w'.cell? ⟨w.heap.size, 1, none⟩ = some (.int .u64 a2) ∧ w'.cell? ⟨w.heap.size, 2, none⟩ = some (.int .u64 a1) ∧ w'.cell? ⟨w.heap.size, 3, none⟩ = some (.int .u64 a0) ∧ w'.cell? ⟨w.heap.size, 4, none⟩ = some (.int .u64 b3) ∧ w'.cell? ⟨w.heap.size, 5, none⟩ = some (.int .u64 b2) ∧ w'.cell? ⟨w.heap.size, 6, none⟩ = some (.int .u64 b1) ∧ w'.cell? ⟨w.heap.size, 7, none⟩ = some (.int .u64 b0) ∧ w'.cell? ⟨w.heap.size + 1, 0, none⟩ = some (.int .u64 c3) ∧ w'.cell? ⟨w.heap.size + 1, 1, none⟩ = some (.int .u64 c2) ∧ w'.cell? ⟨w.heap.size + 1, 2, none⟩ = some (.int .u64 c1) ∧ w'.cell? ⟨w.heap.size + 1, 3, none⟩ = some (.int .u64 c0) ∧ w'.cell? ⟨w.heap.size + 1, 4, none⟩ = some (.int .u64 d3) ∧ w'.cell? ⟨w.heap.size + 1, 5, none⟩ = some (.int .u64 d2) ∧ w'.cell? ⟨w.heap.size + 1, 6, none⟩ = some (.int .u64 d1) ∧ w'.cell? ⟨w.heap.size + 1, 7, none⟩ = some (.int .u64 d0)) ((refine rc_cells ?_ <;> repeat (first | (with_reducible exact T0) | (with_reducible refine ArgsB.drew ?_) | (with_reducible refine ArgsB.set ?_ (by simp <;> omega) _))))
    (first
        | (go_at_call 39; have _t := tok1; refine (C1 _).mono ?_; rintro e w1 ⟨rfl, hB⟩; (first | (have T1 : ArgsB w w1 [[.int .u64 a3, .int .u64 a2, .int .u64 a1, .int .u64 a0, .int .u64 b3, .int .u64 b2, .int .u64 b1, .int .u64 b0], [.int .u64 c3, .int .u64 c2, .int .u64 c1, .int .u64 c0, .int .u64 d3, .int .u64 d2, .int .u64 d1, .int .u64 d0]] := (by with_reducible exact T0.step hB); have tltw1 := (T0.b 1 rfl).lt; have lR0w1 := R0.lt; replace R0 := R0.step hB; skip) | (have T1 : ArgsB w w1 [[.int .u64 a3, .int .u64 a2, .int .u64 a1, .int .u64 a0, .int .u64 b3, .int .u64 b2, .int .u64 b1, .int .u64 b0], [.int .u64 c3, .int .u64 c2, .int .u64 c1, .int .u64 c0, .int .u64 d3, .int .u64 d2, .int .u64 d1, .int .u64 d0]] := (by with_reducible exact T0.drew.step hB); have tltw1 := (T0.b 1 rfl).lt; have lR0w1 := R0.lt; replace R0 := R0.drew.step hB; skip)); clear T0; have T0 := T1; clear T1; clear hB tok1 _t)
        | (go_at_call 39; refine (C2 _).mono ?_; rintro e w2 ⟨rfl, hB⟩; (first | (have T1 : ArgsB w w2 [[.int .u64 a3, .int .u64 a2, .int .u64 a1, .int .u64 a0, .int .u64 b3, .int .u64 b2, .int .u64 b1, .int .u64 b0], [.int .u64 c3, .int .u64 c2, .int .u64 c1, .int .u64 c0, .int .u64 d3, .int .u64 d2, .int .u64 d1, .int .u64 d0]] := (by with_reducible exact T0.step hB); have tltw2 := (T0.b 1 rfl).lt; have lR0w2 := R0.lt; replace R0 := R0.step hB; skip) | (have T1 : ArgsB w w2 [[.int .u64 a3, .int .u64 a2, .int .u64 a1, .int .u64 a0, .int .u64 b3, .int .u64 b2, .int .u64 b1, .int .u64 b0], [.int .u64 c3, .int .u64 c2, .int .u64 c1, .int .u64 c0, .int .u64 d3, .int .u64 d2, .int .u64 d1, .int .u64 d0]] := (by with_reducible exact T0.drew.step hB); have tltw2 := (T0.b 1 rfl).lt; have lR0w2 := R0.lt; replace R0 := R0.drew.step hB; skip)); clear T0; have T0 := T1; clear T1; have o0c := R0.c 0 rfl; have o0f := R0.f 0 rfl; have o1c := R0.c 1 rfl; have o1f := R0.f 1 rfl; have o2c := R0.c 2 rfl; have o2f := R0.f 2 rfl; have o3c := R0.c 3 rfl; have o3f := R0.f 3 rfl; have o4c := R0.c 4 rfl; have o4f := R0.f 4 rfl; have o5c := R0.c 5 rfl; have o5f := R0.f 5 rfl; have o6c := R0.c 6 rfl; have o6f := R0.f 6 rfl; have o7c := R0.c 7 rfl; have o7f := R0.f 7 rfl; have o8c := R0.c 8 rfl; have o8f := R0.f 8 rfl; have o9c := R0.c 9 rfl; have o9f := R0.f 9 rfl; have o10c := R0.c 10 rfl; have o10f := R0.f 10 rfl; have o11c := R0.c 11 rfl; have o11f := R0.f 11 rfl; have o12c := R0.c 12 rfl; have o12f := R0.f 12 rfl; have o13c := R0.c 13 rfl; have o13f := R0.f 13 rfl; have o14c := R0.c 14 rfl; have o14f := R0.f 14 rfl; have o15c := R0.c 15 rfl; have o15f := R0.f 15 rfl; have olt := R0.lt; clear hB ))
  all_goals have R1 := R0.stored16 (.int .u64 m0) (.int .u64 m1) (.int .u64 m2) (.int .u64 m3) (.int .u64 m4) (.int .u64 m5) (.int .u64 m6) (.int .u64 m7) (.int .u64 n0) (.int .u64 n1) (.int .u64 n2) (.int .u64 n3) (.int .u64 n4) (.int .u64 n5) (.int .u64 n6) (.int .u64 n7)
  all_goals have HB : Below w.heap.size w ((((((((((((((((w2.setCell ⟨w.heap.size + 1 + 1, 0, none⟩ (.int .u64 m0)).setCell ⟨w.heap.size + 1 + 1, 1, none⟩ (.int .u64 m1)).setCell ⟨w.heap.size + 1 + 1, 2, none⟩ (.int .u64 m2)).setCell ⟨w.heap.size + 1 + 1, 3, none⟩ (.int .u64 m3)).setCell ⟨w.heap.size + 1 + 1, 4, none⟩ (.int .u64 m4)).setCell ⟨w.heap.size + 1 + 1, 5, none⟩ (.int .u64 m5)).setCell ⟨w.heap.size + 1 + 1, 6, none⟩ (.int .u64 m6)).setCell ⟨w.heap.size + 1 + 1, 7, none⟩ (.int .u64 m7)).setCell ⟨w.heap.size + 1 + 1, 8, none⟩ (.int .u64 n0)).setCell ⟨w.heap.size + 1 + 1, 9, none⟩ (.int .u64 n1)).setCell ⟨w.heap.size + 1 + 1, 10, none⟩ (.int .u64 n2)).setCell ⟨w.heap.size + 1 + 1, 11, none⟩ (.int .u64 n3)).setCell ⟨w.heap.size + 1 + 1, 12, none⟩ (.int .u64 n4)).setCell ⟨w.heap.size + 1 + 1, 13, none⟩ (.int .u64 n5)).setCell ⟨w.heap.size + 1 + 1, 14, none⟩ (.int .u64 n6)).setCell ⟨w.heap.size + 1 + 1, 15, none⟩ (.int .u64 n7)) := below_set16 (by omega) T0.below
  all_goals clear T0 R0 o0c o0f o1c o1f o2c o2f o3c o3f o4c o4f o5c o5f o6c o6f o7c o7f o8c o8f o9c o9f o10c o10f o11c o11f o12c o12f o13c o13f o14c o14f o15c o15f olt
  all_goals generalize ((((((((((((((((w2.setCell ⟨w.heap.size + 1 + 1, 0, none⟩ (.int .u64 m0)).setCell ⟨w.heap.size + 1 + 1, 1, none⟩ (.int .u64 m1)).setCell ⟨w.heap.size + 1 + 1, 2, none⟩ (.int .u64 m2)).setCell ⟨w.heap.size + 1 + 1, 3, none⟩ (.int .u64 m3)).setCell ⟨w.heap.size + 1 + 1, 4, none⟩ (.int .u64 m4)).setCell ⟨w.heap.size + 1 + 1, 5, none⟩ (.int .u64 m5)).setCell ⟨w.heap.size + 1 + 1, 6, none⟩ (.int .u64 m6)).setCell ⟨w.heap.size + 1 + 1, 7, none⟩ (.int .u64 m7)).setCell ⟨w.heap.size + 1 + 1, 8, none⟩ (.int .u64 n0)).setCell ⟨w.heap.size + 1 + 1, 9, none⟩ (.int .u64 n1)).setCell ⟨w.heap.size + 1 + 1, 10, none⟩ (.int .u64 n2)).setCell ⟨w.heap.size + 1 + 1, 11, none⟩ (.int .u64 n3)).setCell ⟨w.heap.size + 1 + 1, 12, none⟩ (.int .u64 n4)).setCell ⟨w.heap.size + 1 + 1, 13, none⟩ (.int .u64 n5)).setCell ⟨w.heap.size + 1 + 1, 14, none⟩ (.int .u64 n6)).setCell ⟨w.heap.size + 1 + 1, 15, none⟩ (.int .u64 n7)) = W5 at *
  all_goals (have o0c := R1.c 0 rfl; have o1c := R1.c 1 rfl; have o2c := R1.c 2 rfl; have o3c := R1.c 3 rfl; have o4c := R1.c 4 rfl; have o5c := R1.c 5 rfl; have o6c := R1.c 6 rfl; have o7c := R1.c 7 rfl; have o8c := R1.c 8 rfl; have o9c := R1.c 9 rfl; have o10c := R1.c 10 rfl; have o11c := R1.c 11 rfl; have o12c := R1.c 12 rfl; have o13c := R1.c 13 rfl; have o14c := R1.c 14 rfl; have o15c := R1.c 15 rfl)
  all_goals go_wp2
  all_goals refine bodyPost_ret (v := .agg #[.int .u64 m0, .int .u64 m1, .int .u64 m2, .int .u64 m3, .int .u64 m4, .int .u64 m5, .int .u64 m6, .int .u64 m7, .int .u64 n0, .int .u64 n1, .int .u64 n2, .int .u64 n3, .int .u64 n4, .int .u64 n5, .int .u64 n6, .int .u64 n7]) (by simp [results, Try.results43, go_sem, o0c, o1c, o2c, o3c, o4c, o5c, o6c, o7c, o8c, o9c, o10c, o11c, o12c, o13c, o14c, o15c]) rfl ?_
  all_goals exact ⟨m0, m1, m2, m3, m4, m5, m6, m7, n0, n1, n2, n3, n4, n5, n6, n7, rfl, wm, wn, hm, hn, HB⟩
end Go.Proofs.Ytnflhnfjlbjgdaa

/- The program's laws of two fractions, as far as they are told. -/
namespace Go.Proofs.Ytnflhnfjlbjgdaa
open Go.RowKit
/-- What is told of two right fractions. -/
def rat2V (x y u v n d : Int) : Value := if rightB x y = true ∧ rightB u v = true then ratV n d else .tuple #[.agg #[.int .u64 0, .int .u64 0, .int .u64 0, .int .u64 0, .int .u64 0, .int .u64 0, .int .u64 0, .int .u64 0], .bool false]
theorem rat2V_no1 {x y u v n d : Int} (h : rightB x y = false) : rat2V x y u v n d = .tuple #[.agg #[.int .u64 0, .int .u64 0, .int .u64 0, .int .u64 0, .int .u64 0, .int .u64 0, .int .u64 0, .int .u64 0], .bool false] := by unfold rat2V; rw [if_neg (by rw [h]; rintro ⟨h', -⟩; cases h')]
theorem rat2V_no2 {x y u v n d : Int} (h : rightB u v = false) : rat2V x y u v n d = .tuple #[.agg #[.int .u64 0, .int .u64 0, .int .u64 0, .int .u64 0, .int .u64 0, .int .u64 0, .int .u64 0, .int .u64 0], .bool false] := by unfold rat2V; rw [if_neg (by rw [h]; rintro ⟨-, h'⟩; cases h')]
theorem rat2V_yes {x y u v n d : Int} (h : rightB x y = true) (h' : rightB u v = true) : rat2V x y u v n d = ratV n d := by unfold rat2V; rw [if_pos ⟨h, h'⟩]
set_option maxRecDepth 100000 in
set_option maxHeartbeats 2000000 in
theorem implRatioMul_any (a3 a2 a1 a0 b3 b2 b1 b0 c3 c2 c1 c0 d3 d2 d1 d0 : Int) (ha3 : Word a3) (ha2 : Word a2) (ha1 : Word a1) (ha0 : Word a0) (hb3 : Word b3) (hb2 : Word b2) (hb1 : Word b1) (hb0 : Word b0) (hc3 : Word c3) (hc2 : Word c2) (hc1 : Word c1) (hc0 : Word c0) (hd3 : Word d3) (hd2 : Word d2) (hd1 : Word d1) (hd0 : Word d0) (w : World) : Calls Try.prog 15 #[Rt a3 a2 a1 a0 b3 b2 b1 b0, Rt c3 c2 c1 c0 d3 d2 d1 d0] w (VP (rat2V (sw a3 a2 a1 a0) (sw b3 b2 b1 b0) (sw c3 c2 c1 c0) (sw d3 d2 d1 d0) ((sw a3 a2 a1 a0) * (sw c3 c2 c1 c0)) ((sw b3 b2 b1 b0) * (sw d3 d2 d1 d0))) w) := by
  have T0 := rs_args a3 a2 a1 a0 b3 b2 b1 b0 c3 c2 c1 c0 d3 d2 d1 d0 38 [.int .u64 0, .int .u64 0, .int .u64 0, .int .u64 0, .int .u64 0, .int .u64 0, .int .u64 0, .int .u64 0] w
  have R0 : Blk (((w.alloc (.cells #[.int .u64 a3, .int .u64 a2, .int .u64 a1, .int .u64 a0, .int .u64 b3, .int .u64 b2, .int .u64 b1, .int .u64 b0] 38)).alloc (.cells #[.int .u64 c3, .int .u64 c2, .int .u64 c1, .int .u64 c0, .int .u64 d3, .int .u64 d2, .int .u64 d1, .int .u64 d0] 38)).alloc (.cells #[.int .u64 0, .int .u64 0, .int .u64 0, .int .u64 0, .int .u64 0, .int .u64 0, .int .u64 0, .int .u64 0] 38)) (w.heap.size + 1 + 1) [.int .u64 0, .int .u64 0, .int .u64 0, .int .u64 0, .int .u64 0, .int .u64 0, .int .u64 0, .int .u64 0] := Blk.new _ [.int .u64 0, .int .u64 0, .int .u64 0, .int .u64 0, .int .u64 0, .int .u64 0, .int .u64 0, .int .u64 0] _ (by simp)
  have RA := right_any a3 a2 a1 a0 b3 b2 b1 b0 ha3 ha2 ha1 ha0 hb3 hb2 hb1 hb0
  have RB := right_any c3 c2 c1 c0 d3 d2 d1 d0 hc3 hc2 hc1 hc0 hd3 hd2 hd1 hd0
  have ba := sw_bound ha3 ha2 ha1 ha0; have bb := sw_bound hb3 hb2 hb1 hb0; have bc := sw_bound hc3 hc2 hc1 hc0; have bd := sw_bound hd3 hd2 hd1 hd0
  obtain ⟨ra, hra⟩ : ∃ b, rightB (sw a3 a2 a1 a0) (sw b3 b2 b1 b0) = b := ⟨_, rfl⟩
  obtain ⟨rb, hrb⟩ : ∃ b, rightB (sw c3 c2 c1 c0) (sw d3 d2 d1 d0) = b := ⟨_, rfl⟩
  rw [hra] at RA
  rw [hrb] at RB
  go_enter Try.func15, Try.ntmps15
  go_wp2_with fail
  generalize (((w.alloc (.cells #[.int .u64 a3, .int .u64 a2, .int .u64 a1, .int .u64 a0, .int .u64 b3, .int .u64 b2, .int .u64 b1, .int .u64 b0] 38)).alloc (.cells #[.int .u64 c3, .int .u64 c2, .int .u64 c1, .int .u64 c0, .int .u64 d3, .int .u64 d2, .int .u64 d1, .int .u64 d0] 38)).alloc (.cells #[.int .u64 0, .int .u64 0, .int .u64 0, .int .u64 0, .int .u64 0, .int .u64 0, .int .u64 0, .int .u64 0] 38)) = W at *
  refine (RA _).mono ?_
  rintro e w1 ⟨rfl, hB⟩
  replace T0 := T0.step hB; replace R0 := R0.step hB
  clear hB RA
  cases ra
  · have HV : Hid (rat2V (sw a3 a2 a1 a0) (sw b3 b2 b1 b0) (sw c3 c2 c1 c0) (sw d3 d2 d1 d0) ((sw a3 a2 a1 a0) * (sw c3 c2 c1 c0)) ((sw b3 b2 b1 b0) * (sw d3 d2 d1 d0)) = .tuple #[.agg #[.int .u64 0, .int .u64 0, .int .u64 0, .int .u64 0, .int .u64 0, .int .u64 0, .int .u64 0, .int .u64 0], .bool false]) := rat2V_no1 hra
    clear RB
    have HB := T0.below
    have o0c := R0.c 0 rfl; have o0f := R0.f 0 rfl; have o1c := R0.c 1 rfl; have o1f := R0.f 1 rfl; have o2c := R0.c 2 rfl; have o2f := R0.f 2 rfl; have o3c := R0.c 3 rfl; have o3f := R0.f 3 rfl; have o4c := R0.c 4 rfl; have o4f := R0.f 4 rfl; have o5c := R0.c 5 rfl; have o5f := R0.f 5 rfl; have o6c := R0.c 6 rfl; have o6f := R0.f 6 rfl; have o7c := R0.c 7 rfl; have o7f := R0.f 7 rfl
    go_wp2
    refine bodyPost_ret (v := .tuple #[.agg #[.int .u64 0, .int .u64 0, .int .u64 0, .int .u64 0, .int .u64 0, .int .u64 0, .int .u64 0, .int .u64 0], .bool false]) (by simp [results, Try.results15, go_sem, o0c, o1c, o2c, o3c, o4c, o5c, o6c, o7c]) rfl ?_
    refine ⟨by rw [HV.out], ?_⟩
    repeat' (refine Below.setCell ?_ (by simp; try omega) _)
    exact HB
  · have x0c := (T0.b 0 rfl).c 0 rfl; have x1c := (T0.b 0 rfl).c 1 rfl; have x2c := (T0.b 0 rfl).c 2 rfl; have x3c := (T0.b 0 rfl).c 3 rfl; have x4c := (T0.b 0 rfl).c 4 rfl; have x5c := (T0.b 0 rfl).c 5 rfl; have x6c := (T0.b 0 rfl).c 6 rfl; have x7c := (T0.b 0 rfl).c 7 rfl; have y0c := (T0.b 1 rfl).c 0 rfl; have y1c := (T0.b 1 rfl).c 1 rfl; have y2c := (T0.b 1 rfl).c 2 rfl; have y3c := (T0.b 1 rfl).c 3 rfl; have y4c := (T0.b 1 rfl).c 4 rfl; have y5c := (T0.b 1 rfl).c 5 rfl; have y6c := (T0.b 1 rfl).c 6 rfl; have y7c := (T0.b 1 rfl).c 7 rfl; simp only [Nat.add_zero] at x0c x1c x2c x3c x4c x5c x6c x7c
    go_wp2_with fail
    refine (RB _).mono ?_
    rintro e w2 ⟨rfl, hB⟩
    replace T0 := T0.step hB; replace R0 := R0.step hB
    clear hB RB x0c x1c x2c x3c x4c x5c x6c x7c y0c y1c y2c y3c y4c y5c y6c y7c
    cases rb
    · have HV : Hid (rat2V (sw a3 a2 a1 a0) (sw b3 b2 b1 b0) (sw c3 c2 c1 c0) (sw d3 d2 d1 d0) ((sw a3 a2 a1 a0) * (sw c3 c2 c1 c0)) ((sw b3 b2 b1 b0) * (sw d3 d2 d1 d0)) = .tuple #[.agg #[.int .u64 0, .int .u64 0, .int .u64 0, .int .u64 0, .int .u64 0, .int .u64 0, .int .u64 0, .int .u64 0], .bool false]) := rat2V_no2 hrb
      have HB := T0.below
      have o0c := R0.c 0 rfl; have o0f := R0.f 0 rfl; have o1c := R0.c 1 rfl; have o1f := R0.f 1 rfl; have o2c := R0.c 2 rfl; have o2f := R0.f 2 rfl; have o3c := R0.c 3 rfl; have o3f := R0.f 3 rfl; have o4c := R0.c 4 rfl; have o4f := R0.f 4 rfl; have o5c := R0.c 5 rfl; have o5f := R0.f 5 rfl; have o6c := R0.c 6 rfl; have o6f := R0.f 6 rfl; have o7c := R0.c 7 rfl; have o7f := R0.f 7 rfl
      go_wp2
      refine bodyPost_ret (v := .tuple #[.agg #[.int .u64 0, .int .u64 0, .int .u64 0, .int .u64 0, .int .u64 0, .int .u64 0, .int .u64 0, .int .u64 0], .bool false]) (by simp [results, Try.results15, go_sem, o0c, o1c, o2c, o3c, o4c, o5c, o6c, o7c]) rfl ?_
      refine ⟨by rw [HV.out], ?_⟩
      repeat' (refine Below.setCell ?_ (by simp; try omega) _)
      exact HB
    · have py := rightB_pos hra
      have pv := rightB_pos hrb
      have p1 := prod_bound ba.1 ba.2 pv bd.2
      have p2 := prod_bound bc.1 bc.2 py bb.2
      have p3 := prod_bound bb.1 bb.2 pv bd.2
      have p4 := sw_prod ha3 ha2 ha1 ha0 hc3 hc2 hc1 hc0
      obtain ⟨z0, z1, z2, z3, z4, z5, z6, z7, t, hz⟩ := ratV_ex ((sw a3 a2 a1 a0) * (sw c3 c2 c1 c0)) ((sw b3 b2 b1 b0) * (sw d3 d2 d1 d0))
      have HV : Hid (rat2V (sw a3 a2 a1 a0) (sw b3 b2 b1 b0) (sw c3 c2 c1 c0) (sw d3 d2 d1 d0) ((sw a3 a2 a1 a0) * (sw c3 c2 c1 c0)) ((sw b3 b2 b1 b0) * (sw d3 d2 d1 d0)) = .tuple #[.agg #[.int .u64 z0, .int .u64 z1, .int .u64 z2, .int .u64 z3, .int .u64 z4, .int .u64 z5, .int .u64 z6, .int .u64 z7], .bool t]) := (rat2V_yes hra hrb).trans hz
      have PL := timesR_any a3 a2 a1 a0 b3 b2 b1 b0 c3 c2 c1 c0 d3 d2 d1 d0 ha3 ha2 ha1 ha0 hb3 hb2 hb1 hb0 hc3 hc2 hc1 hc0 hd3 hd2 hd1 hd0
      have x0c := (T0.b 0 rfl).c 0 rfl; have x1c := (T0.b 0 rfl).c 1 rfl; have x2c := (T0.b 0 rfl).c 2 rfl; have x3c := (T0.b 0 rfl).c 3 rfl; have x4c := (T0.b 0 rfl).c 4 rfl; have x5c := (T0.b 0 rfl).c 5 rfl; have x6c := (T0.b 0 rfl).c 6 rfl; have x7c := (T0.b 0 rfl).c 7 rfl; have y0c := (T0.b 1 rfl).c 0 rfl; have y1c := (T0.b 1 rfl).c 1 rfl; have y2c := (T0.b 1 rfl).c 2 rfl; have y3c := (T0.b 1 rfl).c 3 rfl; have y4c := (T0.b 1 rfl).c 4 rfl; have y5c := (T0.b 1 rfl).c 5 rfl; have y6c := (T0.b 1 rfl).c 6 rfl; have y7c := (T0.b 1 rfl).c 7 rfl; simp only [Nat.add_zero] at x0c x1c x2c x3c x4c x5c x6c x7c
      go_wp2_with fail
      refine (PL _).mono ?_
      rintro e w3 ⟨m0, m1, m2, m3, m4, m5, m6, m7, n0, n1, n2, n3, n4, n5, n6, n7, rfl, wm, wn, hm, hn, hB⟩
      replace T0 := T0.step hB; replace R0 := R0.step hB
      clear hB PL x0c x1c x2c x3c x4c x5c x6c x7c y0c y1c y2c y3c y4c y5c y6c y7c
      have LW := lowest_any m0 m1 m2 m3 m4 m5 m6 m7 n0 n1 n2 n3 n4 n5 n6 n7 wm wn (by rw [hm]; omega) (by rw [hn]; omega)
      rw [hm, hn, hz] at LW
      clear hm hn hz wm wn hra hrb p1 p2 p3 p4
      go_wp2_with fail
      refine (LW _).mono ?_
      rintro e w4 ⟨rfl, hB⟩
      replace T0 := T0.step hB; replace R0 := R0.step hB
      clear hB LW
      have HB := T0.below
      have o0c := R0.c 0 rfl; have o0f := R0.f 0 rfl; have o1c := R0.c 1 rfl; have o1f := R0.f 1 rfl; have o2c := R0.c 2 rfl; have o2f := R0.f 2 rfl; have o3c := R0.c 3 rfl; have o3f := R0.f 3 rfl; have o4c := R0.c 4 rfl; have o4f := R0.f 4 rfl; have o5c := R0.c 5 rfl; have o5f := R0.f 5 rfl; have o6c := R0.c 6 rfl; have o6f := R0.f 6 rfl; have o7c := R0.c 7 rfl; have o7f := R0.f 7 rfl
      go_wp2
      refine bodyPost_ret (v := .tuple #[.agg #[.int .u64 z0, .int .u64 z1, .int .u64 z2, .int .u64 z3, .int .u64 z4, .int .u64 z5, .int .u64 z6, .int .u64 z7], .bool t]) (by simp [results, Try.results15, go_sem, o0c, o1c, o2c, o3c, o4c, o5c, o6c, o7c]) rfl ?_
      refine ⟨by rw [HV.out], ?_⟩
      repeat' (refine Below.setCell ?_ (by simp; try omega) _)
      exact HB
end Go.Proofs.Ytnflhnfjlbjgdaa

/- Four times a fraction; fractions by their own words. -/
namespace Go.Proofs.Ytnflhnfjlbjgdaa
open Go.RowKit
abbrev RV (n d : Int) : Value := .agg #[.int .u64 (ww3 n), .int .u64 (ww2 n), .int .u64 (ww1 n), .int .u64 (ww0 n), .int .u64 (ww3 d), .int .u64 (ww2 d), .int .u64 (ww1 d), .int .u64 (ww0 d)]
theorem RV0 : RV 0 0 = .agg #[.int .u64 0, .int .u64 0, .int .u64 0, .int .u64 0, .int .u64 0, .int .u64 0, .int .u64 0, .int .u64 0] := by
  have h3 : ww3 0 = 0 := by decide
  have h2 : ww2 0 = 0 := by decide
  have h1 : ww1 0 = 0 := by decide
  have h0 : ww0 0 = 0 := by decide
  show Value.agg #[.int .u64 (ww3 0), .int .u64 (ww2 0), .int .u64 (ww1 0), .int .u64 (ww0 0), .int .u64 (ww3 0), .int .u64 (ww2 0), .int .u64 (ww1 0), .int .u64 (ww0 0)] = _
  rw [h3, h2, h1, h0]
theorem ratV_rv (n d : Int) : ∃ N D t, ratV n d = .tuple #[RV N D, .bool t] ∧ told N = true ∧ told D = true ∧ (t = true → d ≠ 0 ∧ N = lowN n d ∧ D = lowD n d) := by
  unfold ratV
  split
  · rename_i h
    exact ⟨lowN n d, lowD n d, true, rfl, h.2.1, h.2.2, fun _ => ⟨h.1, rfl, rfl⟩⟩
  · exact ⟨0, 0, false, by rw [RV0], by decide, by decide, fun h => by cases h⟩
theorem rat2V_rv (x y u v n d : Int) : ∃ N D t, rat2V x y u v n d = .tuple #[RV N D, .bool t] ∧ told N = true ∧ told D = true := by
  unfold rat2V
  split
  · obtain ⟨N, D, t, h, a, b, -⟩ := ratV_rv n d
    exact ⟨N, D, t, h, a, b⟩
  · exact ⟨0, 0, false, by rw [RV0], by decide, by decide⟩
theorem implRatioMul_det (n d m e : Int) (hn : told n = true) (hd : told d = true) (hm : told m = true) (he : told e = true) (w : World) : Calls Try.prog 15 #[RV n d, RV m e] w (VP (rat2V n d m e (n * m) (d * e)) w) := by
  obtain ⟨a3, a2, a1, a0⟩ := ww_words n
  obtain ⟨b3, b2, b1, b0⟩ := ww_words d
  obtain ⟨c3, c2, c1, c0⟩ := ww_words m
  obtain ⟨d3, d2, d1, d0⟩ := ww_words e
  have h := implRatioMul_any (ww3 n) (ww2 n) (ww1 n) (ww0 n) (ww3 d) (ww2 d) (ww1 d) (ww0 d) (ww3 m) (ww2 m) (ww1 m) (ww0 m) (ww3 e) (ww2 e) (ww1 e) (ww0 e) a3 a2 a1 a0 b3 b2 b1 b0 c3 c2 c1 c0 d3 d2 d1 d0 w
  rw [ww_sw hn, ww_sw hd, ww_sw hm, ww_sw he] at h
  exact h
theorem low_parts {n d : Int} (hd : 0 < d) : ∃ g, 0 < g ∧ n = lowN n d * g ∧ d = lowD n d * g ∧ rightB (lowN n d) (lowD n d) = true := by
  have g0 : 0 < Int.gcd n d := Int.gcd_pos_of_ne_zero_right _ (by omega)
  obtain ⟨e1, e2, -, -⟩ := low_make (x := n) (y := d) (X := n) (Y := d) (g := (Int.gcd n d : Int)) (by rw [if_neg (by omega)]) (by rw [if_neg (by omega)]) rfl (by omega)
  have hg : (0 : Int) < Int.gcd n d := by omega
  have m1 : n = lowN n d * (Int.gcd n d : Int) := by rw [← e1]; exact (Int.ediv_mul_cancel (Int.gcd_dvd_left _ _)).symm
  have m2 : d = lowD n d * (Int.gcd n d : Int) := by rw [← e2]; exact (Int.ediv_mul_cancel (Int.gcd_dvd_right _ _)).symm
  refine ⟨Int.gcd n d, hg, m1, m2, ?_⟩
  have p : 0 < lowD n d := by
    apply Decidable.byContradiction
    intro h
    have := Int.mul_nonneg (a := -lowD n d) (b := (Int.gcd n d : Int)) (by omega) (by omega)
    have e : -lowD n d * (Int.gcd n d : Int) = -(lowD n d * (Int.gcd n d : Int)) := by grind
    omega
  have q : Int.gcd (lowN n d) (lowD n d) = 1 := by
    have en : (((Int.gcd n d : Int).natAbs : Nat) : Int) = (Int.gcd n d : Int) := by omega
    have h : (Int.gcd (lowN n d * (Int.gcd n d : Int)) (lowD n d * (Int.gcd n d : Int)) : Int) = Int.gcd (lowN n d) (lowD n d) * (Int.gcd n d : Int) := by rw [Int.gcd_mul_right, Int.natCast_mul, en]
    rw [← m1, ← m2] at h
    have h2 : (Int.gcd (lowN n d) (lowD n d) : Int) * (Int.gcd n d : Int) = 1 * (Int.gcd n d : Int) := by omega
    have := Int.eq_of_mul_eq_mul_right (by omega) h2
    omega
  unfold rightB
  exact decide_eq_true ⟨p, q⟩
theorem mul_four {s k : Int} (hk : 0 < k) : rat2V (lowN s (2 * k * (2 * k))) (lowD s (2 * k * (2 * k))) 4 1 (lowN s (2 * k * (2 * k)) * 4) (lowD s (2 * k * (2 * k)) * 1) = ratV s (k * k) := by
  have kk := Int.mul_pos hk hk
  have e4 : 2 * k * (2 * k) = k * k * 4 := by grind
  obtain ⟨g, hg, h1, h2, h3⟩ := low_parts (n := s) (d := 2 * k * (2 * k)) (by omega)
  unfold rat2V
  rw [if_pos ⟨h3, by decide⟩]
  refine ratV_both hg (show (0 : Int) < 4 by decide) ?_ ?_
  · have : lowN s (2 * k * (2 * k)) * 4 * g = (lowN s (2 * k * (2 * k)) * g) * 4 := by grind
    rw [this, ← h1]
  · have : lowD s (2 * k * (2 * k)) * 1 * g = lowD s (2 * k * (2 * k)) * g := by grind
    rw [this, ← h2, e4]
theorem eqRV (n d : Int) (hn : told n = true) (hd : told d = true) (w : World) : (Op.equalIn 10000 38 (RV n d) (RV n d)).run Try.prog w = .ok true w := by
  have E1 := eqWW n n hn hn
  have E2 := eqWW d d hd hd
  have u3 := Try.underlying26
  have a3 := Try.isAgg26
  have z3 := Try.sizeOf26
  rw [show (10000 : Nat) = 9999 + 1 from rfl, Op.equalIn]
  simp only [Sem.run_bind, run_underlying Try.underlying38, Result.andThen_ok]
  go_simp
end Go.Proofs.Ytnflhnfjlbjgdaa
