/- On which side of a segment a point lies: both sides. -/
import Derived.Test.YtckbhihdhcgaeaaSgB
import Derived.Test.YtckbhihdhcgaeaaPtV
namespace Go.Proofs.Ytckbhihdhcgaeaa
open Go.RowKit
theorem in6_seg {a b c d : Int} (h : segOk a b c d = true) : (-1000000 ≤ a ∧ a ≤ 1000000) ∧ (-1000000 ≤ b ∧ b ≤ 1000000) ∧ (-1000000 ≤ c ∧ c ≤ 1000000) ∧ (-1000000 ≤ d ∧ d ≤ 1000000) := by
  unfold segOk spotOk at h
  simp at h
  omega
theorem ptB_spot {a b : Int} (ha : -1000000 ≤ a ∧ a ≤ 1000000) (hb : -1000000 ≤ b ∧ b ≤ 1000000) : ptB a b 1 = true := by
  unfold ptB
  have h1 : small 1 = true := by decide
  rw [small_int (x := a) (by omega) (by omega), small_int (x := b) (by omega) (by omega), h1]
  simp
theorem told6 {a : Int} (ha : -1000000 ≤ a ∧ a ≤ 1000000) : told a = true := told_small (small_int (by omega) (by omega))
/-- The side of a segment on which a point lies; 0 where one of them is not right. -/
def sideI (a b c d x y z : Int) : Int := if segOk a b c d && ptB x y z then turnI a b 1 c d 1 x y z else 0
theorem l3Spot_det (a b : Int) (ha : -1000000 ≤ a ∧ a ≤ 1000000) (hb : -1000000 ≤ b ∧ b ≤ 1000000) (w : World) : Calls Try.prog 91 #[Sp a b] w (L3P 8 a b 1 w) := by
  refine (l3Spot_any a b (by omega) (by omega) (by omega) (by omega) w).mono ?_
  rintro e w' ⟨s1, o1, n1, c1, d1, s2, o2, n2, c2, d2, s3, o3, n3, c3, d3, rfl, N1, N2, N3, hB⟩
  exact ⟨s1, o1, n1, c1, d1, s2, o2, n2, c2, d2, s3, o3, n3, c3, d3, rfl, num_more N1 (by omega), num_more N2 (by omega), num_more N3 (by omega), hB⟩
set_option maxRecDepth 100000 in
set_option maxHeartbeats 2000000 in
theorem implSideOf_det (a b c d x y z : Int) (hx : told x = true) (hy : told y = true) (hz : told z = true) (w : World) : Calls Try.prog 37 #[Sg a b c d, PV x y z] w (VP (.int .i64 (sideI a b c d x y z)) w) := by
  have T0 : ArgsB w ((w.alloc (.cells #[.int .i64 a, .int .i64 b, .int .i64 c, .int .i64 d] 56)).alloc (.cells #[.int .u64 (ww3 x), .int .u64 (ww2 x), .int .u64 (ww1 x), .int .u64 (ww0 x), .int .u64 (ww3 y), .int .u64 (ww2 y), .int .u64 (ww1 y), .int .u64 (ww0 y), .int .u64 (ww3 z), .int .u64 (ww2 z), .int .u64 (ww1 z), .int .u64 (ww0 z)] 30)) [[.int .i64 a, .int .i64 b, .int .i64 c, .int .i64 d], [.int .u64 (ww3 x), .int .u64 (ww2 x), .int .u64 (ww1 x), .int .u64 (ww0 x), .int .u64 (ww3 y), .int .u64 (ww2 y), .int .u64 (ww1 y), .int .u64 (ww0 y), .int .u64 (ww3 z), .int .u64 (ww2 z), .int .u64 (ww1 z), .int .u64 (ww0 z)]] := ar2 _ _ _ _ w
  have SO := fun w => implSegOk_any a b c d _ rfl w
  by_cases hs : segOk a b c d = true
  · obtain ⟨i1, i2, i3, i4⟩ := in6_seg hs
    have EN := fun w => ends_det a b c d (by omega) (by omega) (by omega) (by omega) (by omega) (by omega) (by omega) (by omega) w
    have OR := fun w => implOrient_det a b 1 c d 1 x y z (told6 i1) (told6 i2) (by decide) (told6 i3) (told6 i4) (by decide) hx hy hz w
    have HO : Hid (sideI a b c d x y z = oriI a b 1 c d 1 x y z) := by show _ = _; unfold sideI oriI; rw [hs, ptB_spot i1 i2, ptB_spot i3 i4]; rfl
    rw [hs] at SO
    clear hs i1 i2 i3 i4 hx hy hz
    generalize oriI a b 1 c d 1 x y z = o at *
    go_enter Try.func37, Try.ntmps37
    go_wp2_with fail
    generalize ((w.alloc (.cells #[.int .i64 a, .int .i64 b, .int .i64 c, .int .i64 d] 56)).alloc (.cells #[.int .u64 (ww3 x), .int .u64 (ww2 x), .int .u64 (ww1 x), .int .u64 (ww0 x), .int .u64 (ww3 y), .int .u64 (ww2 y), .int .u64 (ww1 y), .int .u64 (ww0 y), .int .u64 (ww3 z), .int .u64 (ww2 z), .int .u64 (ww1 z), .int .u64 (ww0 z)] 30)) = W at *
    refine (SO _).mono ?_
    rintro e w1 ⟨rfl, hB⟩
    replace T0 := T0.step hB
    clear hB SO
    have Y1 : Blk _ w.heap.size _ := T0.b 0 rfl; have g0 := Y1.c 0 rfl; have g1 := Y1.c 1 rfl; have g2 := Y1.c 2 rfl; have g3 := Y1.c 3 rfl; clear Y1
    go_wp2_with fail
    refine (EN _).mono ?_
    rintro e w2 ⟨rfl, hB⟩
    replace T0 := ((T0.step hB).alloc (.cells #[.int .u64 (ww3 a), .int .u64 (ww2 a), .int .u64 (ww1 a), .int .u64 (ww0 a), .int .u64 (ww3 b), .int .u64 (ww2 b), .int .u64 (ww1 b), .int .u64 (ww0 b), .int .u64 (ww3 1), .int .u64 (ww2 1), .int .u64 (ww1 1), .int .u64 (ww0 1)] 30)).alloc (.cells #[.int .u64 (ww3 c), .int .u64 (ww2 c), .int .u64 (ww1 c), .int .u64 (ww0 c), .int .u64 (ww3 d), .int .u64 (ww2 d), .int .u64 (ww1 d), .int .u64 (ww0 d), .int .u64 (ww3 1), .int .u64 (ww2 1), .int .u64 (ww1 1), .int .u64 (ww0 1)] 30)
    clear hB EN g0 g1 g2 g3
    have Y0 : Blk _ (w.heap.size + 1) _ := T0.b 1 rfl; have q0 := Y0.c 0 rfl; have q1 := Y0.c 1 rfl; have q2 := Y0.c 2 rfl; have q3 := Y0.c 3 rfl; have q4 := Y0.c 4 rfl; have q5 := Y0.c 5 rfl; have q6 := Y0.c 6 rfl; have q7 := Y0.c 7 rfl; have q8 := Y0.c 8 rfl; have q9 := Y0.c 9 rfl; have q10 := Y0.c 10 rfl; have q11 := Y0.c 11 rfl; have ql := Y0.lt; clear Y0
    go_wp2_with fail
    refine (OR _).mono ?_
    rintro e w3 ⟨rfl, hB⟩
    have HB := (T0.step hB).below
    clear hB T0 OR q0 q1 q2 q3 q4 q5 q6 q7 q8 q9 q10 q11 ql
    go_wp2
    go_ret
    exact ⟨by rw [HO.out]; rfl, HB⟩
  · replace hs := Bool.eq_false_iff.2 hs
    have HO : Hid (sideI a b c d x y z = 0) := by show _ = _; unfold sideI; rw [hs]; rfl
    rw [hs] at SO
    clear hs hx hy hz
    go_enter Try.func37, Try.ntmps37
    go_wp2_with fail
    generalize ((w.alloc (.cells #[.int .i64 a, .int .i64 b, .int .i64 c, .int .i64 d] 56)).alloc (.cells #[.int .u64 (ww3 x), .int .u64 (ww2 x), .int .u64 (ww1 x), .int .u64 (ww0 x), .int .u64 (ww3 y), .int .u64 (ww2 y), .int .u64 (ww1 y), .int .u64 (ww0 y), .int .u64 (ww3 z), .int .u64 (ww2 z), .int .u64 (ww1 z), .int .u64 (ww0 z)] 30)) = W at *
    refine (SO _).mono ?_
    rintro e w1 ⟨rfl, hB⟩
    have HB := (T0.step hB).below
    clear hB SO T0
    go_wp2
    go_ret
    exact ⟨by rw [HO.out]; rfl, HB⟩
theorem sgd_cells {a b c d x y z : Int} {w W : World} (T0 : ArgsB w W [[.int .i64 a, .int .i64 b, .int .i64 c, .int .i64 d], [.int .u64 (ww3 x), .int .u64 (ww2 x), .int .u64 (ww1 x), .int .u64 (ww0 x), .int .u64 (ww3 y), .int .u64 (ww2 y), .int .u64 (ww1 y), .int .u64 (ww0 y), .int .u64 (ww3 z), .int .u64 (ww2 z), .int .u64 (ww1 z), .int .u64 (ww0 z)]]) : (fun w' => w'.cell? ⟨w.heap.size, 0, none⟩ = some (.int .i64 a) ∧ w'.cell? ⟨w.heap.size, 1, none⟩ = some (.int .i64 b) ∧ w'.cell? ⟨w.heap.size, 2, none⟩ = some (.int .i64 c) ∧ w'.cell? ⟨w.heap.size, 3, none⟩ = some (.int .i64 d) ∧ w'.cell? ⟨w.heap.size + 1, 0, none⟩ = some (.int .u64 (ww3 x)) ∧ w'.cell? ⟨w.heap.size + 1, 1, none⟩ = some (.int .u64 (ww2 x)) ∧ w'.cell? ⟨w.heap.size + 1, 2, none⟩ = some (.int .u64 (ww1 x)) ∧ w'.cell? ⟨w.heap.size + 1, 3, none⟩ = some (.int .u64 (ww0 x)) ∧ w'.cell? ⟨w.heap.size + 1, 4, none⟩ = some (.int .u64 (ww3 y)) ∧ w'.cell? ⟨w.heap.size + 1, 5, none⟩ = some (.int .u64 (ww2 y)) ∧ w'.cell? ⟨w.heap.size + 1, 6, none⟩ = some (.int .u64 (ww1 y)) ∧ w'.cell? ⟨w.heap.size + 1, 7, none⟩ = some (.int .u64 (ww0 y)) ∧ w'.cell? ⟨w.heap.size + 1, 8, none⟩ = some (.int .u64 (ww3 z)) ∧ w'.cell? ⟨w.heap.size + 1, 9, none⟩ = some (.int .u64 (ww2 z)) ∧ w'.cell? ⟨w.heap.size + 1, 10, none⟩ = some (.int .u64 (ww1 z)) ∧ w'.cell? ⟨w.heap.size + 1, 11, none⟩ = some (.int .u64 (ww0 z))) W := ⟨(T0.b 0 rfl).c 0 rfl, (T0.b 0 rfl).c 1 rfl, (T0.b 0 rfl).c 2 rfl, (T0.b 0 rfl).c 3 rfl, (T0.b 1 rfl).c 0 rfl, (T0.b 1 rfl).c 1 rfl, (T0.b 1 rfl).c 2 rfl, (T0.b 1 rfl).c 3 rfl, (T0.b 1 rfl).c 4 rfl, (T0.b 1 rfl).c 5 rfl, (T0.b 1 rfl).c 6 rfl, (T0.b 1 rfl).c 7 rfl, (T0.b 1 rfl).c 8 rfl, (T0.b 1 rfl).c 9 rfl, (T0.b 1 rfl).c 10 rfl, (T0.b 1 rfl).c 11 rfl⟩
set_option maxRecDepth 100000 in
set_option maxHeartbeats 2000000 in
theorem specSideOf_det (a b c d x y z : Int) (hx : told x = true) (hy : told y = true) (hz : told z = true) (w : World) : Calls Try.prog 35 #[Sg a b c d, PV x y z] w (VP (.int .i64 (sideI a b c d x y z)) w) := by
  have T0 : ArgsB w ((w.alloc (.cells #[.int .i64 a, .int .i64 b, .int .i64 c, .int .i64 d] 56)).alloc (.cells #[.int .u64 (ww3 x), .int .u64 (ww2 x), .int .u64 (ww1 x), .int .u64 (ww0 x), .int .u64 (ww3 y), .int .u64 (ww2 y), .int .u64 (ww1 y), .int .u64 (ww0 y), .int .u64 (ww3 z), .int .u64 (ww2 z), .int .u64 (ww1 z), .int .u64 (ww0 z)] 30)) [[.int .i64 a, .int .i64 b, .int .i64 c, .int .i64 d], [.int .u64 (ww3 x), .int .u64 (ww2 x), .int .u64 (ww1 x), .int .u64 (ww0 x), .int .u64 (ww3 y), .int .u64 (ww2 y), .int .u64 (ww1 y), .int .u64 (ww0 y), .int .u64 (ww3 z), .int .u64 (ww2 z), .int .u64 (ww1 z), .int .u64 (ww0 z)]] := ar2 _ _ _ _ w
  have SO := fun w => specSegOk_any a b c d _ rfl w
  have PO := specPointOk_det x y z hx hy hz
  have F3 := l3Of_det x y z hx hy hz
  clear hx hy hz
  by_cases hs : segOk a b c d = true
  · obtain ⟨i1, i2, i3, i4⟩ := in6_seg hs
    have F1 := l3Spot_det a b i1 i2
    have F2 := l3Spot_det c d i3 i4
    by_cases hp : ptB x y z = true
    · have HO : Hid (sideI a b c d x y z = turnI a b 1 c d 1 x y z) := by show _ = _; unfold sideI; rw [hs, hp]; rfl
      rw [hs] at SO
      rw [hp] at PO
      clear hs hp i1 i2 i3 i4
      have tok1 : True := trivial
      go_enter Try.func35, Try.ntmps35
      go_wp2_with fail
      generalize ((w.alloc (.cells #[.int .i64 a, .int .i64 b, .int .i64 c, .int .i64 d] 56)).alloc (.cells #[.int .u64 (ww3 x), .int .u64 (ww2 x), .int .u64 (ww1 x), .int .u64 (ww0 x), .int .u64 (ww3 y), .int .u64 (ww2 y), .int .u64 (ww1 y), .int .u64 (ww0 y), .int .u64 (ww3 z), .int .u64 (ww2 z), .int .u64 (ww1 z), .int .u64 (ww0 z)] 30)) = W at *
      refine (SO _).mono ?_
      rintro e w1 ⟨rfl, hB⟩
      replace T0 := T0.step hB
      clear hB SO
      have Y0 : Blk _ (w.heap.size + 1) _ := T0.b 1 rfl; have q0 := Y0.c 0 rfl; have q1 := Y0.c 1 rfl; have q2 := Y0.c 2 rfl; have q3 := Y0.c 3 rfl; have q4 := Y0.c 4 rfl; have q5 := Y0.c 5 rfl; have q6 := Y0.c 6 rfl; have q7 := Y0.c 7 rfl; have q8 := Y0.c 8 rfl; have q9 := Y0.c 9 rfl; have q10 := Y0.c 10 rfl; have q11 := Y0.c 11 rfl; have ql := Y0.lt; clear Y0
      go_wp2_with fail
      refine (PO _).mono ?_
      rintro e w2 ⟨rfl, hB⟩
      replace T0 := T0.step hB
      clear hB PO q0 q1 q2 q3 q4 q5 q6 q7 q8 q9 q10 q11 ql
      go_upto_region 3 with fail
      go_region_held3 (fun w' => w'.cell? ⟨w.heap.size, 0, none⟩ = some (.int .i64 a) ∧ w'.cell? ⟨w.heap.size, 1, none⟩ = some (.int .i64 b) ∧ w'.cell? ⟨w.heap.size, 2, none⟩ = some (.int .i64 c) ∧ w'.cell? ⟨w.heap.size, 3, none⟩ = some (.int .i64 d) ∧ w'.cell? ⟨w.heap.size + 1, 0, none⟩ = some (.int .u64 (ww3 x)) ∧ w'.cell? ⟨w.heap.size + 1, 1, none⟩ = some (.int .u64 (ww2 x)) ∧ w'.cell? ⟨w.heap.size + 1, 2, none⟩ = some (.int .u64 (ww1 x)) ∧ w'.cell? ⟨w.heap.size + 1, 3, none⟩ = some (.int .u64 (ww0 x)) ∧ w'.cell? ⟨w.heap.size + 1, 4, none⟩ = some (.int .u64 (ww3 y)) ∧ w'.cell? ⟨w.heap.size + 1, 5, none⟩ = some (.int .u64 (ww2 y)) ∧ w'.cell? ⟨w.heap.size + 1, 6, none⟩ = some (.int .u64 (ww1 y)) ∧ w'.cell? ⟨w.heap.size + 1, 7, none⟩ = some (.int .u64 (ww0 y)) ∧ w'.cell? ⟨w.heap.size + 1, 8, none⟩ = some (.int .u64 (ww3 z)) ∧ w'.cell? ⟨w.heap.size + 1, 9, none⟩ = some (.int .u64 (ww2 z)) ∧ w'.cell? ⟨w.heap.size + 1, 10, none⟩ = some (.int .u64 (ww1 z)) ∧ w'.cell? ⟨w.heap.size + 1, 11, none⟩ = some (.int .u64 (ww0 z))) (first | (with_reducible exact sgd_cells T0) | (with_reducible exact sgd_cells T0.drew))
        (first
          | (go_at_call 91; have _t := tok1; refine (F1 _).mono ?_; rintro e v1 ⟨ps1, po1, pn1, pc1, pd1, ps2, po2, pn2, pc2, pd2, ps3, po3, pn3, pc3, pd3, rfl, Np1, Np2, Np3, hB⟩; (first | (have T1 := T0.step hB) | (have T1 := T0.drew.step hB)); clear T0; have T0 := T1; clear T1; clear hB tok1 _t)
          | (go_at_call 91; refine (F2 _).mono ?_; rintro e v2 ⟨qs1, qo1, qn1, qc1, qd1, qs2, qo2, qn2, qc2, qd2, qs3, qo3, qn3, qc3, qd3, rfl, Nq1, Nq2, Nq3, hB⟩; (first | (have T1 := T0.step hB) | (have T1 := T0.drew.step hB)); clear T0; have T0 := T1; clear T1; replace Np1 := Np1.below hB; replace Np2 := Np2.below hB; replace Np3 := Np3.below hB; clear hB)
          | (go_at_call 57; refine (F3 _).mono ?_; rintro e v3 ⟨rs1, ro1, rn1, rc1, rd1, rs2, ro2, rn2, rc2, rd2, rs3, ro3, rn3, rc3, rd3, rfl, Nr1, Nr2, Nr3, hB⟩; (first | (have T1 := T0.step hB) | (have T1 := T0.drew.step hB)); clear T0; have T0 := T1; clear T1; replace Np1 := Np1.below hB; replace Np2 := Np2.below hB; replace Np3 := Np3.below hB; replace Nq1 := Nq1.below hB; replace Nq2 := Nq2.below hB; replace Nq3 := Nq3.below hB; clear hB)
          | (go_at_call 75; refine (l3Orient_any ps1 ps2 ps3 po1 po2 po3 pn1 pc1 pn2 pc2 pn3 pc3 qs1 qs2 qs3 qo1 qo2 qo3 qn1 qc1 qn2 qc2 qn3 qc3 rs1 rs2 rs3 ro1 ro2 ro3 rn1 rc1 rn2 rc2 rn3 rc3 pd1 pd2 pd3 qd1 qd2 qd3 rd1 rd2 rd3 a b 1 c d 1 x y z 8 (by omega) _ Np1 Np2 Np3 Nq1 Nq2 Nq3 Nr1 Nr2 Nr3).mono ?_; rintro e v4 ⟨rfl, hB⟩; (first | (have T1 := T0.step hB) | (have T1 := T0.drew.step hB)); clear T0; have T0 := T1; clear T1; clear hB))
      all_goals have HB := T0.below
      all_goals clear T0
      all_goals go_wp2
      all_goals go_ret
      all_goals exact ⟨by rw [HO.out]; rfl, by first | exact HB | exact HB.drew⟩
    · replace hp := Bool.eq_false_iff.2 hp
      have HO : Hid (sideI a b c d x y z = 0) := by show _ = _; unfold sideI; rw [hs, hp]; rfl
      rw [hs] at SO
      rw [hp] at PO
      clear hs hp i1 i2 i3 i4 F1 F2 F3
      go_enter Try.func35, Try.ntmps35
      go_wp2_with fail
      generalize ((w.alloc (.cells #[.int .i64 a, .int .i64 b, .int .i64 c, .int .i64 d] 56)).alloc (.cells #[.int .u64 (ww3 x), .int .u64 (ww2 x), .int .u64 (ww1 x), .int .u64 (ww0 x), .int .u64 (ww3 y), .int .u64 (ww2 y), .int .u64 (ww1 y), .int .u64 (ww0 y), .int .u64 (ww3 z), .int .u64 (ww2 z), .int .u64 (ww1 z), .int .u64 (ww0 z)] 30)) = W at *
      refine (SO _).mono ?_
      rintro e w1 ⟨rfl, hB⟩
      replace T0 := T0.step hB
      clear hB SO
      have Y0 : Blk _ (w.heap.size + 1) _ := T0.b 1 rfl; have q0 := Y0.c 0 rfl; have q1 := Y0.c 1 rfl; have q2 := Y0.c 2 rfl; have q3 := Y0.c 3 rfl; have q4 := Y0.c 4 rfl; have q5 := Y0.c 5 rfl; have q6 := Y0.c 6 rfl; have q7 := Y0.c 7 rfl; have q8 := Y0.c 8 rfl; have q9 := Y0.c 9 rfl; have q10 := Y0.c 10 rfl; have q11 := Y0.c 11 rfl; have ql := Y0.lt; clear Y0
      go_wp2_with fail
      refine (PO _).mono ?_
      rintro e w2 ⟨rfl, hB⟩
      have HB := (T0.step hB).below
      clear hB PO T0 q0 q1 q2 q3 q4 q5 q6 q7 q8 q9 q10 q11 ql
      go_wp2
      go_ret
      exact ⟨by rw [HO.out]; rfl, HB⟩
  · replace hs := Bool.eq_false_iff.2 hs
    have HO : Hid (sideI a b c d x y z = 0) := by show _ = _; unfold sideI; rw [hs]; rfl
    rw [hs] at SO
    clear hs F3 PO
    go_enter Try.func35, Try.ntmps35
    go_wp2_with fail
    generalize ((w.alloc (.cells #[.int .i64 a, .int .i64 b, .int .i64 c, .int .i64 d] 56)).alloc (.cells #[.int .u64 (ww3 x), .int .u64 (ww2 x), .int .u64 (ww1 x), .int .u64 (ww0 x), .int .u64 (ww3 y), .int .u64 (ww2 y), .int .u64 (ww1 y), .int .u64 (ww0 y), .int .u64 (ww3 z), .int .u64 (ww2 z), .int .u64 (ww1 z), .int .u64 (ww0 z)] 30)) = W at *
    refine (SO _).mono ?_
    rintro e w1 ⟨rfl, hB⟩
    have HB := (T0.step hB).below
    clear hB SO T0
    go_wp2
    go_ret
    exact ⟨by rw [HO.out]; rfl, HB⟩
end Go.Proofs.Ytckbhihdhcgaeaa
