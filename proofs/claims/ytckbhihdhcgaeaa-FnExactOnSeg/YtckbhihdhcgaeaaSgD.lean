/- Whether a point lies on a segment: both sides. -/
import Derived.Test.YtckbhihdhcgaeaaSgC
import Derived.Test.YtckbhihdhcgaeaaPtZ
namespace Go.Proofs.Ytckbhihdhcgaeaa
open Go.RowKit
/-- Whether a point lies on a segment; no where one of them is not right. -/
def onI (a b c d x y z : Int) : Bool := segOk a b c d && ptB x y z && btwS a b 1 c d 1 x y z
set_option maxRecDepth 100000 in
set_option maxHeartbeats 2000000 in
theorem implOnSeg_det (a b c d x y z : Int) (ia : -9223372036854775808 ≤ a ∧ a ≤ 9223372036854775807) (ib : -9223372036854775808 ≤ b ∧ b ≤ 9223372036854775807) (ic : -9223372036854775808 ≤ c ∧ c ≤ 9223372036854775807) (id : -9223372036854775808 ≤ d ∧ d ≤ 9223372036854775807) (hx : told x = true) (hy : told y = true) (hz : told z = true) (w : World) : Calls Try.prog 39 #[Sg a b c d, PV x y z] w (VP (.bool (onI a b c d x y z)) w) := by
  have T0 : ArgsB w ((w.alloc (.cells #[.int .i64 a, .int .i64 b, .int .i64 c, .int .i64 d] 56)).alloc (.cells #[.int .u64 (ww3 x), .int .u64 (ww2 x), .int .u64 (ww1 x), .int .u64 (ww0 x), .int .u64 (ww3 y), .int .u64 (ww2 y), .int .u64 (ww1 y), .int .u64 (ww0 y), .int .u64 (ww3 z), .int .u64 (ww2 z), .int .u64 (ww1 z), .int .u64 (ww0 z)] 30)) [[.int .i64 a, .int .i64 b, .int .i64 c, .int .i64 d], [.int .u64 (ww3 x), .int .u64 (ww2 x), .int .u64 (ww1 x), .int .u64 (ww0 x), .int .u64 (ww3 y), .int .u64 (ww2 y), .int .u64 (ww1 y), .int .u64 (ww0 y), .int .u64 (ww3 z), .int .u64 (ww2 z), .int .u64 (ww1 z), .int .u64 (ww0 z)]] := ar2 _ _ _ _ w
  have SO := fun w => implSegOk_any a b c d _ rfl w
  have EN := fun w => ends_det a b c d (by omega) (by omega) (by omega) (by omega) (by omega) (by omega) (by omega) (by omega) w
  have OR := fun w => implBetween_det a b 1 c d 1 x y z (told_small (small_int (by omega) (by omega))) (told_small (small_int (by omega) (by omega))) (by decide) (told_small (small_int (by omega) (by omega))) (told_small (small_int (by omega) (by omega))) (by decide) hx hy hz w
  clear ia ib ic id hx hy hz
  go_enter Try.func39, Try.ntmps39
  go_wp2_with fail
  generalize ((w.alloc (.cells #[.int .i64 a, .int .i64 b, .int .i64 c, .int .i64 d] 56)).alloc (.cells #[.int .u64 (ww3 x), .int .u64 (ww2 x), .int .u64 (ww1 x), .int .u64 (ww0 x), .int .u64 (ww3 y), .int .u64 (ww2 y), .int .u64 (ww1 y), .int .u64 (ww0 y), .int .u64 (ww3 z), .int .u64 (ww2 z), .int .u64 (ww1 z), .int .u64 (ww0 z)] 30)) = W at *
  refine (EN _).mono ?_
  rintro e w1 ⟨rfl, hB⟩
  replace T0 := ((T0.step hB).alloc (.cells #[.int .u64 (ww3 a), .int .u64 (ww2 a), .int .u64 (ww1 a), .int .u64 (ww0 a), .int .u64 (ww3 b), .int .u64 (ww2 b), .int .u64 (ww1 b), .int .u64 (ww0 b), .int .u64 (ww3 1), .int .u64 (ww2 1), .int .u64 (ww1 1), .int .u64 (ww0 1)] 30)).alloc (.cells #[.int .u64 (ww3 c), .int .u64 (ww2 c), .int .u64 (ww1 c), .int .u64 (ww0 c), .int .u64 (ww3 d), .int .u64 (ww2 d), .int .u64 (ww1 d), .int .u64 (ww0 d), .int .u64 (ww3 1), .int .u64 (ww2 1), .int .u64 (ww1 1), .int .u64 (ww0 1)] 30)
  clear hB EN
  have Y1 : Blk _ w.heap.size _ := T0.b 0 rfl; have g0 := Y1.c 0 rfl; have g1 := Y1.c 1 rfl; have g2 := Y1.c 2 rfl; have g3 := Y1.c 3 rfl; clear Y1
  by_cases hs : segOk a b c d = true
  · obtain ⟨i1, i2, i3, i4⟩ := in6_seg hs
    have HO : Hid (onI a b c d x y z = btwV a b 1 c d 1 x y z) := by show _ = _; unfold onI btwV; rw [hs, ptB_spot i1 i2, ptB_spot i3 i4]; rfl
    rw [hs] at SO
    clear hs i1 i2 i3 i4
    generalize btwV a b 1 c d 1 x y z = o at *
    go_wp2_with fail
    refine (SO _).mono ?_
    rintro e w2 ⟨rfl, hB⟩
    have X1 := ((Blk.new w1 [.int .u64 (ww3 a), .int .u64 (ww2 a), .int .u64 (ww1 a), .int .u64 (ww0 a), .int .u64 (ww3 b), .int .u64 (ww2 b), .int .u64 (ww1 b), .int .u64 (ww0 b), .int .u64 (ww3 1), .int .u64 (ww2 1), .int .u64 (ww1 1), .int .u64 (ww0 1)] _ rfl).alloc _).step hB
    have X2 := (Blk.new (w1.alloc (.cells #[.int .u64 (ww3 a), .int .u64 (ww2 a), .int .u64 (ww1 a), .int .u64 (ww0 a), .int .u64 (ww3 b), .int .u64 (ww2 b), .int .u64 (ww1 b), .int .u64 (ww0 b), .int .u64 (ww3 1), .int .u64 (ww2 1), .int .u64 (ww1 1), .int .u64 (ww0 1)] 30)) [.int .u64 (ww3 c), .int .u64 (ww2 c), .int .u64 (ww1 c), .int .u64 (ww0 c), .int .u64 (ww3 d), .int .u64 (ww2 d), .int .u64 (ww1 d), .int .u64 (ww0 d), .int .u64 (ww3 1), .int .u64 (ww2 1), .int .u64 (ww1 1), .int .u64 (ww0 1)] _ (g := w1.heap.size + 1) (by simp)).step hB
    have k0 := X1.c 0 rfl; have l0 := X2.c 0 rfl; have k1 := X1.c 1 rfl; have l1 := X2.c 1 rfl; have k2 := X1.c 2 rfl; have l2 := X2.c 2 rfl; have k3 := X1.c 3 rfl; have l3 := X2.c 3 rfl; have k4 := X1.c 4 rfl; have l4 := X2.c 4 rfl; have k5 := X1.c 5 rfl; have l5 := X2.c 5 rfl; have k6 := X1.c 6 rfl; have l6 := X2.c 6 rfl; have k7 := X1.c 7 rfl; have l7 := X2.c 7 rfl; have k8 := X1.c 8 rfl; have l8 := X2.c 8 rfl; have k9 := X1.c 9 rfl; have l9 := X2.c 9 rfl; have k10 := X1.c 10 rfl; have l10 := X2.c 10 rfl; have k11 := X1.c 11 rfl; have l11 := X2.c 11 rfl
    replace T0 := T0.step hB
    clear hB SO g0 g1 g2 g3 X1 X2
    have Y0 : Blk _ (w.heap.size + 1) _ := T0.b 1 rfl; have q0 := Y0.c 0 rfl; have q1 := Y0.c 1 rfl; have q2 := Y0.c 2 rfl; have q3 := Y0.c 3 rfl; have q4 := Y0.c 4 rfl; have q5 := Y0.c 5 rfl; have q6 := Y0.c 6 rfl; have q7 := Y0.c 7 rfl; have q8 := Y0.c 8 rfl; have q9 := Y0.c 9 rfl; have q10 := Y0.c 10 rfl; have q11 := Y0.c 11 rfl; have ql := Y0.lt; clear Y0
    go_wp2_with fail
    refine (OR _).mono ?_
    rintro e w3 ⟨rfl, hB⟩
    have HB := (T0.step hB).below
    clear hB T0 OR q0 q1 q2 q3 q4 q5 q6 q7 q8 q9 q10 q11 ql
    go_wp2
    go_ret
    exact ⟨by rw [HO.out]; rfl, HB⟩
  · replace hs := Bool.eq_false_iff.2 hs
    have HO : Hid (onI a b c d x y z = false) := by show _ = _; unfold onI; rw [hs]; rfl
    rw [hs] at SO
    clear hs OR
    go_wp2_with fail
    refine (SO _).mono ?_
    rintro e w2 ⟨rfl, hB⟩
    have HB := (T0.step hB).below
    clear hB SO T0 g0 g1 g2 g3
    go_wp2
    go_ret
    exact ⟨by rw [HO.out]; rfl, HB⟩
theorem on_cells {a b c d : Int} {rs1 rs2 rs3 : Bool} {ro1 ro2 ro3 : Option Addr} {rn1 rc1 rn2 rc2 rn3 rc3 : Nat} {w W : World} (T0 : ArgsB w W [[.int .i64 a, .int .i64 b, .int .i64 c, .int .i64 d], [.bool rs1, .slice ro1 rn1 rc1, .bool rs2, .slice ro2 rn2 rc2, .bool rs3, .slice ro3 rn3 rc3]]) : (fun w' => w'.cell? ⟨w.heap.size, 0, none⟩ = some (.int .i64 a) ∧ w'.cell? ⟨w.heap.size, 1, none⟩ = some (.int .i64 b) ∧ w'.cell? ⟨w.heap.size, 2, none⟩ = some (.int .i64 c) ∧ w'.cell? ⟨w.heap.size, 3, none⟩ = some (.int .i64 d) ∧ w'.cell? ⟨w.heap.size + 1, 0, none⟩ = some (.bool rs1) ∧ w'.cell? ⟨w.heap.size + 1, 1, none⟩ = some (.slice ro1 rn1 rc1) ∧ w'.cell? ⟨w.heap.size + 1, 2, none⟩ = some (.bool rs2) ∧ w'.cell? ⟨w.heap.size + 1, 3, none⟩ = some (.slice ro2 rn2 rc2) ∧ w'.cell? ⟨w.heap.size + 1, 4, none⟩ = some (.bool rs3) ∧ w'.cell? ⟨w.heap.size + 1, 5, none⟩ = some (.slice ro3 rn3 rc3)) W := ⟨(T0.b 0 rfl).c 0 rfl, (T0.b 0 rfl).c 1 rfl, (T0.b 0 rfl).c 2 rfl, (T0.b 0 rfl).c 3 rfl, (T0.b 1 rfl).c 0 rfl, (T0.b 1 rfl).c 1 rfl, (T0.b 1 rfl).c 2 rfl, (T0.b 1 rfl).c 3 rfl, (T0.b 1 rfl).c 4 rfl, (T0.b 1 rfl).c 5 rfl⟩
set_option maxRecDepth 100000 in
set_option maxHeartbeats 2000000 in
theorem l4On_any (rs1 rs2 rs3 : Bool) (ro1 ro2 ro3 : Option Addr) (rn1 rc1 rn2 rc2 rn3 rc3 : Nat) (rd1 rd2 rd3 : List Int) (a b c d x y z : Int) (ha : -1000000 ≤ a ∧ a ≤ 1000000) (hb : -1000000 ≤ b ∧ b ≤ 1000000) (hc : -1000000 ≤ c ∧ c ≤ 1000000) (hd : -1000000 ≤ d ∧ d ≤ 1000000) (w : World) (Nr1 : IsNum w rs1 ro1 rn1 rc1 rd1 x 8) (Nr2 : IsNum w rs2 ro2 rn2 rc2 rd2 y 8) (Nr3 : IsNum w rs3 ro3 rn3 rc3 rd3 z 8) : Calls Try.prog 94 #[Sg a b c d, .agg #[.bool rs1, .slice ro1 rn1 rc1, .bool rs2, .slice ro2 rn2 rc2, .bool rs3, .slice ro3 rn3 rc3]] w (VP (.bool (btwS a b 1 c d 1 x y z)) w) := by
  have T0 : ArgsB w ((w.alloc (.cells #[.int .i64 a, .int .i64 b, .int .i64 c, .int .i64 d] 56)).alloc (.cells #[.bool rs1, .slice ro1 rn1 rc1, .bool rs2, .slice ro2 rn2 rc2, .bool rs3, .slice ro3 rn3 rc3] 84)) [[.int .i64 a, .int .i64 b, .int .i64 c, .int .i64 d], [.bool rs1, .slice ro1 rn1 rc1, .bool rs2, .slice ro2 rn2 rc2, .bool rs3, .slice ro3 rn3 rc3]] := ar2 _ _ _ _ w
  have F1 := l3Spot_det a b ha hb
  have F2 := l3Spot_det c d hc hd
  have hBw : Below w.heap.size w ((w.alloc (.cells #[.int .i64 a, .int .i64 b, .int .i64 c, .int .i64 d] 56)).alloc (.cells #[.bool rs1, .slice ro1 rn1 rc1, .bool rs2, .slice ro2 rn2 rc2, .bool rs3, .slice ro3 rn3 rc3] 84)) := T0.below
  replace Nr1 := (Nr1.below hBw).drew; replace Nr2 := (Nr2.below hBw).drew; replace Nr3 := (Nr3.below hBw).drew
  clear ha hb hc hd hBw
  have tok1 : True := trivial
  go_enter Try.func94, Try.ntmps94
  go_upto_region 1 with fail
  generalize ((w.alloc (.cells #[.int .i64 a, .int .i64 b, .int .i64 c, .int .i64 d] 56)).alloc (.cells #[.bool rs1, .slice ro1 rn1 rc1, .bool rs2, .slice ro2 rn2 rc2, .bool rs3, .slice ro3 rn3 rc3] 84)) = W at *
  go_region_held3 (fun w' => w'.cell? ⟨w.heap.size, 0, none⟩ = some (.int .i64 a) ∧ w'.cell? ⟨w.heap.size, 1, none⟩ = some (.int .i64 b) ∧ w'.cell? ⟨w.heap.size, 2, none⟩ = some (.int .i64 c) ∧ w'.cell? ⟨w.heap.size, 3, none⟩ = some (.int .i64 d) ∧ w'.cell? ⟨w.heap.size + 1, 0, none⟩ = some (.bool rs1) ∧ w'.cell? ⟨w.heap.size + 1, 1, none⟩ = some (.slice ro1 rn1 rc1) ∧ w'.cell? ⟨w.heap.size + 1, 2, none⟩ = some (.bool rs2) ∧ w'.cell? ⟨w.heap.size + 1, 3, none⟩ = some (.slice ro2 rn2 rc2) ∧ w'.cell? ⟨w.heap.size + 1, 4, none⟩ = some (.bool rs3) ∧ w'.cell? ⟨w.heap.size + 1, 5, none⟩ = some (.slice ro3 rn3 rc3)) (first | (with_reducible exact on_cells T0) | (with_reducible exact on_cells T0.drew))
    (first
      | (go_at_call 91; have _t := tok1; refine (F1 _).mono ?_; rintro e v1 ⟨ps1, po1, pn1, pc1, pd1, ps2, po2, pn2, pc2, pd2, ps3, po3, pn3, pc3, pd3, rfl, Np1, Np2, Np3, hB⟩; (first | (have T1 := T0.step hB) | (have T1 := T0.drew.step hB)); clear T0; have T0 := T1; clear T1; replace Nr1 := Nr1.below hB; replace Nr2 := Nr2.below hB; replace Nr3 := Nr3.below hB; clear hB tok1 _t)
      | (go_at_call 91; refine (F2 _).mono ?_; rintro e v2 ⟨qs1, qo1, qn1, qc1, qd1, qs2, qo2, qn2, qc2, qd2, qs3, qo3, qn3, qc3, qd3, rfl, Nq1, Nq2, Nq3, hB⟩; (first | (have T1 := T0.step hB) | (have T1 := T0.drew.step hB)); clear T0; have T0 := T1; clear T1; replace Nr1 := Nr1.below hB; replace Nr2 := Nr2.below hB; replace Nr3 := Nr3.below hB; replace Np1 := Np1.below hB; replace Np2 := Np2.below hB; replace Np3 := Np3.below hB; clear hB)
      | (go_at_call 77; refine (l3Between_any ps1 ps2 ps3 po1 po2 po3 pn1 pc1 pn2 pc2 pn3 pc3 qs1 qs2 qs3 qo1 qo2 qo3 qn1 qc1 qn2 qc2 qn3 qc3 rs1 rs2 rs3 ro1 ro2 ro3 rn1 rc1 rn2 rc2 rn3 rc3 pd1 pd2 pd3 qd1 qd2 qd3 rd1 rd2 rd3 a b 1 c d 1 x y z 8 (by omega) _ Np1 Np2 Np3 Nq1 Nq2 Nq3 Nr1 Nr2 Nr3).mono ?_; rintro e v4 ⟨rfl, hB⟩; (first | (have T1 := T0.step hB) | (have T1 := T0.drew.step hB)); clear T0; have T0 := T1; clear T1; clear hB))
  all_goals have HB := T0.below
  all_goals clear T0
  all_goals go_wp2
  all_goals go_ret
  all_goals exact ⟨rfl, by first | exact HB | exact HB.drew⟩
set_option maxRecDepth 100000 in
set_option maxHeartbeats 8000000 in
theorem specOnSeg_det (a b c d x y z : Int) (_ia : -9223372036854775808 ≤ a ∧ a ≤ 9223372036854775807) (_ib : -9223372036854775808 ≤ b ∧ b ≤ 9223372036854775807) (_ic : -9223372036854775808 ≤ c ∧ c ≤ 9223372036854775807) (_id : -9223372036854775808 ≤ d ∧ d ≤ 9223372036854775807) (hx : told x = true) (hy : told y = true) (hz : told z = true) (w : World) : Calls Try.prog 38 #[Sg a b c d, PV x y z] w (VP (.bool (onI a b c d x y z)) w) := by
  have T0 : ArgsB w ((w.alloc (.cells #[.int .i64 a, .int .i64 b, .int .i64 c, .int .i64 d] 56)).alloc (.cells #[.int .u64 (ww3 x), .int .u64 (ww2 x), .int .u64 (ww1 x), .int .u64 (ww0 x), .int .u64 (ww3 y), .int .u64 (ww2 y), .int .u64 (ww1 y), .int .u64 (ww0 y), .int .u64 (ww3 z), .int .u64 (ww2 z), .int .u64 (ww1 z), .int .u64 (ww0 z)] 30)) [[.int .i64 a, .int .i64 b, .int .i64 c, .int .i64 d], [.int .u64 (ww3 x), .int .u64 (ww2 x), .int .u64 (ww1 x), .int .u64 (ww0 x), .int .u64 (ww3 y), .int .u64 (ww2 y), .int .u64 (ww1 y), .int .u64 (ww0 y), .int .u64 (ww3 z), .int .u64 (ww2 z), .int .u64 (ww1 z), .int .u64 (ww0 z)]] := ar2 _ _ _ _ w
  have SO := fun w => specSegOk_any a b c d _ rfl w
  have PO := specPointOk_det x y z hx hy hz
  have F3 := l3Of_det x y z hx hy hz
  clear hx hy hz
  go_enter Try.func38, Try.ntmps38
  go_upto_region 1 with fail
  generalize ((w.alloc (.cells #[.int .i64 a, .int .i64 b, .int .i64 c, .int .i64 d] 56)).alloc (.cells #[.int .u64 (ww3 x), .int .u64 (ww2 x), .int .u64 (ww1 x), .int .u64 (ww0 x), .int .u64 (ww3 y), .int .u64 (ww2 y), .int .u64 (ww1 y), .int .u64 (ww0 y), .int .u64 (ww3 z), .int .u64 (ww2 z), .int .u64 (ww1 z), .int .u64 (ww0 z)] 30)) = W at *
  by_cases h1 : segOk a b c d = true
  · by_cases h2 : ptB x y z = true
    · have HO : Hid (onI a b c d x y z = btwS a b 1 c d 1 x y z) := by show _ = _; unfold onI; rw [h1, h2]; rfl
      obtain ⟨i1, i2, i3, i4⟩ := in6_seg h1
      go_region_held3 (fun w' => w'.cell? ⟨w.heap.size, 0, none⟩ = some (.int .i64 a) ∧ w'.cell? ⟨w.heap.size, 1, none⟩ = some (.int .i64 b) ∧ w'.cell? ⟨w.heap.size, 2, none⟩ = some (.int .i64 c) ∧ w'.cell? ⟨w.heap.size, 3, none⟩ = some (.int .i64 d) ∧ w'.cell? ⟨w.heap.size + 1, 0, none⟩ = some (.int .u64 (ww3 x)) ∧ w'.cell? ⟨w.heap.size + 1, 1, none⟩ = some (.int .u64 (ww2 x)) ∧ w'.cell? ⟨w.heap.size + 1, 2, none⟩ = some (.int .u64 (ww1 x)) ∧ w'.cell? ⟨w.heap.size + 1, 3, none⟩ = some (.int .u64 (ww0 x)) ∧ w'.cell? ⟨w.heap.size + 1, 4, none⟩ = some (.int .u64 (ww3 y)) ∧ w'.cell? ⟨w.heap.size + 1, 5, none⟩ = some (.int .u64 (ww2 y)) ∧ w'.cell? ⟨w.heap.size + 1, 6, none⟩ = some (.int .u64 (ww1 y)) ∧ w'.cell? ⟨w.heap.size + 1, 7, none⟩ = some (.int .u64 (ww0 y)) ∧ w'.cell? ⟨w.heap.size + 1, 8, none⟩ = some (.int .u64 (ww3 z)) ∧ w'.cell? ⟨w.heap.size + 1, 9, none⟩ = some (.int .u64 (ww2 z)) ∧ w'.cell? ⟨w.heap.size + 1, 10, none⟩ = some (.int .u64 (ww1 z)) ∧ w'.cell? ⟨w.heap.size + 1, 11, none⟩ = some (.int .u64 (ww0 z))) (first | (with_reducible exact sgd_cells T0) | (with_reducible exact sgd_cells T0.drew))
        (first
          | (go_at_call 90; refine (SO _).mono ?_; rintro e k1 ⟨rfl, hB⟩; rw [h1]; (first | (have T1 := T0.step hB) | (have T1 := T0.drew.step hB)); clear T0; have T0 := T1; clear T1; clear hB)
          | (go_at_call 17; refine (PO _).mono ?_; rintro e k2 ⟨rfl, hB⟩; rw [h2]; (first | (have T1 := T0.step hB) | (have T1 := T0.drew.step hB)); clear T0; have T0 := T1; clear T1; clear hB)
          | (go_at_call 57; refine (F3 _).mono ?_; rintro e v3 ⟨rs1, ro1, rn1, rc1, rd1, rs2, ro2, rn2, rc2, rd2, rs3, ro3, rn3, rc3, rd3, rfl, Nr1, Nr2, Nr3, hB⟩; (first | (have T1 := T0.step hB) | (have T1 := T0.drew.step hB)); clear T0; have T0 := T1; clear T1; clear hB)
          | (go_at_call 94; refine (l4On_any rs1 rs2 rs3 ro1 ro2 ro3 rn1 rc1 rn2 rc2 rn3 rc3 rd1 rd2 rd3 a b c d x y z i1 i2 i3 i4 _ Nr1 Nr2 Nr3).mono ?_; rintro e v4 ⟨rfl, hB⟩; (first | (have T1 := T0.step hB) | (have T1 := T0.drew.step hB)); clear T0; have T0 := T1; clear T1; clear hB))
      all_goals have HB := T0.below
      all_goals clear T0
      all_goals go_wp2
      all_goals go_ret
      all_goals exact ⟨by rw [HO.out]; simp, by first | exact HB | exact HB.drew⟩
    · replace h2 := Bool.eq_false_iff.2 h2
      have HO : Hid (onI a b c d x y z = false) := by show _ = _; unfold onI; rw [h2]; simp
      have Y1 : Blk _ w.heap.size _ := T0.b 0 rfl; have g0 := Y1.c 0 rfl; have g1 := Y1.c 1 rfl; have g2 := Y1.c 2 rfl; have g3 := Y1.c 3 rfl; clear Y1
      have Y0 : Blk _ (w.heap.size + 1) _ := T0.b 1 rfl; have q0 := Y0.c 0 rfl; have q1 := Y0.c 1 rfl; have q2 := Y0.c 2 rfl; have q3 := Y0.c 3 rfl; have q4 := Y0.c 4 rfl; have q5 := Y0.c 5 rfl; have q6 := Y0.c 6 rfl; have q7 := Y0.c 7 rfl; have q8 := Y0.c 8 rfl; have q9 := Y0.c 9 rfl; have q10 := Y0.c 10 rfl; have q11 := Y0.c 11 rfl; have ql := Y0.lt; clear Y0
      refine wp_region_any (by kernel_rfl) ?_
      try (change wpAny _ _ _ _ _ _ _ (World.drew _))
      refine wpAny_ready (rs := [0]) (by kernel_rfl) (by simp) ?_
      refine AllReady.cons rfl (fun K hK => ?_) AllReady.nil
      go_simp
      refine hK _ _ ?_
      clear hK K
      refine wpAny_ready (rs := [1]) (by kernel_rfl) (by simp) ?_
      refine AllReady.cons rfl (fun K hK => ?_) AllReady.nil
      go_simp
      go_wp2_with (go_at_call 90; refine (SO _).mono ?_; rintro e k1 ⟨rfl, hB⟩; rw [h1]; (first | (have T1 := T0.step hB) | (have T1 := T0.drew.step hB)); clear T0; have T0 := T1; clear T1; clear hB; clear g0 g1 g2 g3 q0 q1 q2 q3 q4 q5 q6 q7 q8 q9 q10 q11 ql; have Y1 : Blk _ w.heap.size _ := T0.b 0 rfl; have g0 := Y1.c 0 rfl; have g1 := Y1.c 1 rfl; have g2 := Y1.c 2 rfl; have g3 := Y1.c 3 rfl; clear Y1; have Y0 : Blk _ (w.heap.size + 1) _ := T0.b 1 rfl; have q0 := Y0.c 0 rfl; have q1 := Y0.c 1 rfl; have q2 := Y0.c 2 rfl; have q3 := Y0.c 3 rfl; have q4 := Y0.c 4 rfl; have q5 := Y0.c 5 rfl; have q6 := Y0.c 6 rfl; have q7 := Y0.c 7 rfl; have q8 := Y0.c 8 rfl; have q9 := Y0.c 9 rfl; have q10 := Y0.c 10 rfl; have q11 := Y0.c 11 rfl; have ql := Y0.lt; clear Y0)
      (try (refine hK _ _ ?_; clear hK K))
      refine wpAny_ready (rs := [2]) (by kernel_rfl) (by simp) ?_
      refine AllReady.cons rfl (fun K hK => ?_) AllReady.nil
      go_simp
      refine hK _ _ ?_
      clear hK K
      refine wpAny_ready (rs := [3]) (by kernel_rfl) (by simp) ?_
      refine AllReady.cons rfl (fun K hK => ?_) AllReady.nil
      go_simp
      refine hK _ _ ?_
      clear hK K
      refine wpAny_ready (rs := [4]) (by kernel_rfl) (by simp) ?_
      refine AllReady.cons rfl (fun K hK => ?_) AllReady.nil
      go_simp
      go_wp2_with (go_at_call 17; refine (PO _).mono ?_; rintro e k2 ⟨rfl, hB⟩; rw [h2]; (first | (have T1 := T0.step hB) | (have T1 := T0.drew.step hB)); clear T0; have T0 := T1; clear T1; clear hB; clear g0 g1 g2 g3 q0 q1 q2 q3 q4 q5 q6 q7 q8 q9 q10 q11 ql)
      (try (refine hK _ _ ?_; clear hK K))
      refine wpAny_ready (rs := [5]) (by kernel_rfl) (by simp) ?_
      refine AllReady.cons rfl (fun K hK => ?_) AllReady.nil
      go_simp
      refine hK _ _ ?_
      clear hK K
      refine wpAny_ready (rs := [6]) (by kernel_rfl) (by simp) ?_
      refine AllReady.cons rfl (fun K hK => ?_) AllReady.nil
      go_simp
      refine hK _ _ ?_
      clear hK K
      refine wpAny_take (i := 7) (v := undef) rfl (by kernel_rfl) (by kernel_rfl) (by kernel_rfl) (fun _ _ _ h => h) (Or.inr ⟨by kernel_rfl, rfl⟩) ?_
      refine wpAny_take (i := 8) (v := undef) rfl (by kernel_rfl) (by kernel_rfl) (by kernel_rfl) (fun _ _ _ h => h) (Or.inr ⟨by kernel_rfl, rfl⟩) ?_
      refine wpAny_take (i := 9) (v := undef) rfl (by kernel_rfl) (by kernel_rfl) (by kernel_rfl) (fun _ _ _ h => h) (Or.inr ⟨by kernel_rfl, rfl⟩) ?_
      refine wpAny_take (i := 10) (v := undef) rfl (by kernel_rfl) (by kernel_rfl) (by kernel_rfl) (fun _ _ _ h => h) (Or.inr ⟨by kernel_rfl, rfl⟩) ?_
      refine wpAny_ready (rs := [11]) (by kernel_rfl) (by simp) ?_
      refine AllReady.cons rfl (fun K hK => ?_) AllReady.nil
      go_simp
      refine hK _ _ ?_
      clear hK K
      refine wpAny_ready (rs := [12]) (by kernel_rfl) (by simp) ?_
      refine AllReady.cons rfl (fun K hK => ?_) AllReady.nil
      go_simp
      refine hK _ _ ?_
      clear hK K
      refine wpAny_done (by kernel_rfl) ?_ _
      have HB := T0.below
      clear T0
      go_wp2
      go_ret
      exact ⟨by rw [HO.out]; rfl, by first | exact HB | exact HB.drew⟩
  · replace h1 := Bool.eq_false_iff.2 h1
    have HO : Hid (onI a b c d x y z = false) := by show _ = _; unfold onI; rw [h1]; simp
    have Y1 : Blk _ w.heap.size _ := T0.b 0 rfl; have g0 := Y1.c 0 rfl; have g1 := Y1.c 1 rfl; have g2 := Y1.c 2 rfl; have g3 := Y1.c 3 rfl; clear Y1
    have Y0 : Blk _ (w.heap.size + 1) _ := T0.b 1 rfl; have q0 := Y0.c 0 rfl; have q1 := Y0.c 1 rfl; have q2 := Y0.c 2 rfl; have q3 := Y0.c 3 rfl; have q4 := Y0.c 4 rfl; have q5 := Y0.c 5 rfl; have q6 := Y0.c 6 rfl; have q7 := Y0.c 7 rfl; have q8 := Y0.c 8 rfl; have q9 := Y0.c 9 rfl; have q10 := Y0.c 10 rfl; have q11 := Y0.c 11 rfl; have ql := Y0.lt; clear Y0
    refine wp_region_any (by kernel_rfl) ?_
    try (change wpAny _ _ _ _ _ _ _ (World.drew _))
    refine wpAny_ready (rs := [0]) (by kernel_rfl) (by simp) ?_
    refine AllReady.cons rfl (fun K hK => ?_) AllReady.nil
    go_simp
    refine hK _ _ ?_
    clear hK K
    refine wpAny_ready (rs := [1]) (by kernel_rfl) (by simp) ?_
    refine AllReady.cons rfl (fun K hK => ?_) AllReady.nil
    go_simp
    go_wp2_with (go_at_call 90; refine (SO _).mono ?_; rintro e k1 ⟨rfl, hB⟩; rw [h1]; (first | (have T1 := T0.step hB) | (have T1 := T0.drew.step hB)); clear T0; have T0 := T1; clear T1; clear hB; clear g0 g1 g2 g3 q0 q1 q2 q3 q4 q5 q6 q7 q8 q9 q10 q11 ql)
    (try (refine hK _ _ ?_; clear hK K))
    refine wpAny_ready (rs := [2]) (by kernel_rfl) (by simp) ?_
    refine AllReady.cons rfl (fun K hK => ?_) AllReady.nil
    go_simp
    refine hK _ _ ?_
    clear hK K
    refine wpAny_take (i := 3) (v := undef) rfl (by kernel_rfl) (by kernel_rfl) (by kernel_rfl) (fun _ _ _ h => h) (Or.inr ⟨by kernel_rfl, rfl⟩) ?_
    refine wpAny_take (i := 4) (v := undef) rfl (by kernel_rfl) (by kernel_rfl) (by kernel_rfl) (fun _ _ _ h => h) (Or.inr ⟨by kernel_rfl, rfl⟩) ?_
    refine wpAny_ready (rs := [5]) (by kernel_rfl) (by simp) ?_
    refine AllReady.cons rfl (fun K hK => ?_) AllReady.nil
    go_simp
    refine hK _ _ ?_
    clear hK K
    refine wpAny_ready (rs := [6]) (by kernel_rfl) (by simp) ?_
    refine AllReady.cons rfl (fun K hK => ?_) AllReady.nil
    go_simp
    refine hK _ _ ?_
    clear hK K
    refine wpAny_take (i := 7) (v := undef) rfl (by kernel_rfl) (by kernel_rfl) (by kernel_rfl) (fun _ _ _ h => h) (Or.inr ⟨by kernel_rfl, rfl⟩) ?_
    refine wpAny_take (i := 8) (v := undef) rfl (by kernel_rfl) (by kernel_rfl) (by kernel_rfl) (fun _ _ _ h => h) (Or.inr ⟨by kernel_rfl, rfl⟩) ?_
    refine wpAny_take (i := 9) (v := undef) rfl (by kernel_rfl) (by kernel_rfl) (by kernel_rfl) (fun _ _ _ h => h) (Or.inr ⟨by kernel_rfl, rfl⟩) ?_
    refine wpAny_take (i := 10) (v := undef) rfl (by kernel_rfl) (by kernel_rfl) (by kernel_rfl) (fun _ _ _ h => h) (Or.inr ⟨by kernel_rfl, rfl⟩) ?_
    refine wpAny_ready (rs := [11]) (by kernel_rfl) (by simp) ?_
    refine AllReady.cons rfl (fun K hK => ?_) AllReady.nil
    go_simp
    refine hK _ _ ?_
    clear hK K
    refine wpAny_ready (rs := [12]) (by kernel_rfl) (by simp) ?_
    refine AllReady.cons rfl (fun K hK => ?_) AllReady.nil
    go_simp
    refine hK _ _ ?_
    clear hK K
    refine wpAny_done (by kernel_rfl) ?_ _
    have HB := T0.below
    clear T0
    go_wp2
    go_ret
    exact ⟨by rw [HO.out]; rfl, by first | exact HB | exact HB.drew⟩
end Go.Proofs.Ytckbhihdhcgaeaa
