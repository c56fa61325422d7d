/- Part 11 of the walks that the proof leans on. -/
import Derived.Test.YtckbhihdhcgaeaaPart8
import Derived.Test.YtckbhihdhcgaeaaPart10
import Derived.Test.YtckbhihdhcgaeaaRows
import Derived.ProofKit
import Derived.Lib.SmallJoins
/- On which side of a segment a point lies: both sides. -/
namespace Go.Proofs.Ytckbhihdhcgaeaa
open Go.RowKit
theorem in6_seg {a b c d : Int} (h : segOk a b c d = true) : (-1000000 ≤ a ∧ a ≤ 1000000) ∧ (-1000000 ≤ b ∧ b ≤ 1000000) ∧ (-1000000 ≤ c ∧ c ≤ 1000000) ∧ (-1000000 ≤ d ∧ d ≤ 1000000) := by
  unfold segOk spotOk at h
  simp at h
  omega
theorem ptB_spot {a b : Int} (ha : -1000000 ≤ a ∧ a ≤ 1000000) (hb : -1000000 ≤ b ∧ b ≤ 1000000) : ptB a b 1 = true := by
  unfold ptB
  have h1 : small 1 = true := by decide
  rw [small_int (x := a) (by omega) (by omega), small_int (x := b) (by omega) (by omega), h1]
  simp
theorem told6 {a : Int} (ha : -1000000 ≤ a ∧ a ≤ 1000000) : told a = true := told_small (small_int (by omega) (by omega))
/-- The side of a segment on which a point lies; 0 where one of them is not right. -/
def sideI (a b c d x y z : Int) : Int := if segOk a b c d && ptB x y z then turnI a b 1 c d 1 x y z else 0
theorem l3Spot_det (a b : Int) (ha : -1000000 ≤ a ∧ a ≤ 1000000) (hb : -1000000 ≤ b ∧ b ≤ 1000000) (w : World) : Calls Try.prog 91 #[Sp a b] w (L3P 8 a b 1 w) := by
  refine (l3Spot_any a b (by omega) (by omega) (by omega) (by omega) w).mono ?_
  rintro e w' ⟨s1, o1, n1, c1, d1, s2, o2, n2, c2, d2, s3, o3, n3, c3, d3, rfl, N1, N2, N3, hB⟩
  exact ⟨s1, o1, n1, c1, d1, s2, o2, n2, c2, d2, s3, o3, n3, c3, d3, rfl, num_more N1 (by omega), num_more N2 (by omega), num_more N3 (by omega), hB⟩
set_option maxRecDepth 100000 in
set_option maxHeartbeats 2000000 in
theorem implSideOf_det (a b c d x y z : Int) (hx : told x = true) (hy : told y = true) (hz : told z = true) (w : World) : Calls Try.prog 37 #[Sg a b c d, PV x y z] w (VP (.int .i64 (sideI a b c d x y z)) w) := by
  have T0 : ArgsB w ((w.alloc (.cells #[.int .i64 a, .int .i64 b, .int .i64 c, .int .i64 d] 56)).alloc (.cells #[.int .u64 (ww3 x), .int .u64 (ww2 x), .int .u64 (ww1 x), .int .u64 (ww0 x), .int .u64 (ww3 y), .int .u64 (ww2 y), .int .u64 (ww1 y), .int .u64 (ww0 y), .int .u64 (ww3 z), .int .u64 (ww2 z), .int .u64 (ww1 z), .int .u64 (ww0 z)] 30)) [[.int .i64 a, .int .i64 b, .int .i64 c, .int .i64 d], [.int .u64 (ww3 x), .int .u64 (ww2 x), .int .u64 (ww1 x), .int .u64 (ww0 x), .int .u64 (ww3 y), .int .u64 (ww2 y), .int .u64 (ww1 y), .int .u64 (ww0 y), .int .u64 (ww3 z), .int .u64 (ww2 z), .int .u64 (ww1 z), .int .u64 (ww0 z)]] := ar2 _ _ _ _ w
  have SO := fun w => implSegOk_any a b c d _ rfl w
  by_cases hs : segOk a b c d = true
  · obtain ⟨i1, i2, i3, i4⟩ := in6_seg hs
    have EN := fun w => ends_det a b c d (by omega) (by omega) (by omega) (by omega) (by omega) (by omega) (by omega) (by omega) w
    have OR := fun w => implOrient_det a b 1 c d 1 x y z (told6 i1) (told6 i2) (by decide) (told6 i3) (told6 i4) (by decide) hx hy hz w
    have HO : Hid (sideI a b c d x y z = oriI a b 1 c d 1 x y z) := by show _ = _; unfold sideI oriI; rw [hs, ptB_spot i1 i2, ptB_spot i3 i4]; rfl
    rw [hs] at SO
    clear hs i1 i2 i3 i4 hx hy hz
    generalize oriI a b 1 c d 1 x y z = o at *
    go_enter Try.func37, Try.ntmps37
    go_wp2_with fail
    generalize ((w.alloc (.cells #[.int .i64 a, .int .i64 b, .int .i64 c, .int .i64 d] 56)).alloc (.cells #[.int .u64 (ww3 x), .int .u64 (ww2 x), .int .u64 (ww1 x), .int .u64 (ww0 x), .int .u64 (ww3 y), .int .u64 (ww2 y), .int .u64 (ww1 y), .int .u64 (ww0 y), .int .u64 (ww3 z), .int .u64 (ww2 z), .int .u64 (ww1 z), .int .u64 (ww0 z)] 30)) = W at *
    refine (SO _).mono ?_
    rintro e w1 ⟨rfl, hB⟩
    replace T0 := T0.step hB
    clear hB SO
    have Y1 : Blk _ w.heap.size _ := T0.b 0 rfl; have g0 := Y1.c 0 rfl; have g1 := Y1.c 1 rfl; have g2 := Y1.c 2 rfl; have g3 := Y1.c 3 rfl; clear Y1
    go_wp2_with fail
    refine (EN _).mono ?_
    rintro e w2 ⟨rfl, hB⟩
    replace T0 := ((T0.step hB).alloc (.cells #[.int .u64 (ww3 a), .int .u64 (ww2 a), .int .u64 (ww1 a), .int .u64 (ww0 a), .int .u64 (ww3 b), .int .u64 (ww2 b), .int .u64 (ww1 b), .int .u64 (ww0 b), .int .u64 (ww3 1), .int .u64 (ww2 1), .int .u64 (ww1 1), .int .u64 (ww0 1)] 30)).alloc (.cells #[.int .u64 (ww3 c), .int .u64 (ww2 c), .int .u64 (ww1 c), .int .u64 (ww0 c), .int .u64 (ww3 d), .int .u64 (ww2 d), .int .u64 (ww1 d), .int .u64 (ww0 d), .int .u64 (ww3 1), .int .u64 (ww2 1), .int .u64 (ww1 1), .int .u64 (ww0 1)] 30)
    clear hB EN g0 g1 g2 g3
    have Y0 : Blk _ (w.heap.size + 1) _ := T0.b 1 rfl; have q0 := Y0.c 0 rfl; have q1 := Y0.c 1 rfl; have q2 := Y0.c 2 rfl; have q3 := Y0.c 3 rfl; have q4 := Y0.c 4 rfl; have q5 := Y0.c 5 rfl; have q6 := Y0.c 6 rfl; have q7 := Y0.c 7 rfl; have q8 := Y0.c 8 rfl; have q9 := Y0.c 9 rfl; have q10 := Y0.c 10 rfl; have q11 := Y0.c 11 rfl; have ql := Y0.lt; clear Y0
    go_wp2_with fail
    refine (OR _).mono ?_
    rintro e w3 ⟨rfl, hB⟩
    have HB := (T0.step hB).below
    clear hB T0 OR q0 q1 q2 q3 q4 q5 q6 q7 q8 q9 q10 q11 ql
    go_wp2
    go_ret
    exact ⟨by rw [HO.out]; rfl, HB⟩
  · replace hs := Bool.eq_false_iff.2 hs
    have HO : Hid (sideI a b c d x y z = 0) := by show _ = _; unfold sideI; rw [hs]; rfl
    rw [hs] at SO
    clear hs hx hy hz
    go_enter Try.func37, Try.ntmps37
    go_wp2_with fail
    generalize ((w.alloc (.cells #[.int .i64 a, .int .i64 b, .int .i64 c, .int .i64 d] 56)).alloc (.cells #[.int .u64 (ww3 x), .int .u64 (ww2 x), .int .u64 (ww1 x), .int .u64 (ww0 x), .int .u64 (ww3 y), .int .u64 (ww2 y), .int .u64 (ww1 y), .int .u64 (ww0 y), .int .u64 (ww3 z), .int .u64 (ww2 z), .int .u64 (ww1 z), .int .u64 (ww0 z)] 30)) = W at *
    refine (SO _).mono ?_
    rintro e w1 ⟨rfl, hB⟩
    have HB := (T0.step hB).below
    clear hB SO T0
    go_wp2
    go_ret
    exact ⟨by rw [HO.out]; rfl, HB⟩
theorem sgd_cells {a b c d x y z : Int} {w W : World} (T0 : ArgsB w W [[.int .i64 a, .int .i64 b, .int .i64 c, .int .i64 d], [.int .u64 (ww3 x), .int .u64 (ww2 x), .int .u64 (ww1 x), .int .u64 (ww0 x), .int .u64 (ww3 y), .int .u64 (ww2 y), .int .u64 (ww1 y), .int .u64 (ww0 y), .int .u64 (ww3 z), .int .u64 (ww2 z), .int .u64 (ww1 z), .int .u64 (ww0 z)]]) : (fun w' => w'.cell? ⟨w.heap.size, 0, none⟩ = some (.int .i64 a) ∧ w'.cell? ⟨w.heap.size, 1, none⟩ = some (.int .i64 b) ∧ w'.cell? ⟨w.heap.size, 2, none⟩ = some (.int .i64 c) ∧ w'.cell? ⟨w.heap.size, 3, none⟩ = some (.int .i64 d) ∧ w'.cell? ⟨w.heap.size + 1, 0, none⟩ = some (.int .u64 (ww3 x)) ∧ w'.cell? ⟨w.heap.size + 1, 1, none⟩ = some (.int .u64 (ww2 x)) ∧ w'.cell? ⟨w.heap.size + 1, 2, none⟩ = some (.int .u64 (ww1 x)) ∧ w'.cell? ⟨w.heap.size + 1, 3, none⟩ = some (.int .u64 (ww0 x)) ∧ w'.cell? ⟨w.heap.size + 1, 4, none⟩ = some (.int .u64 (ww3 y)) ∧ w'.cell? ⟨w.heap.size + 1, 5, none⟩ = some (.int .u64 (ww2 y)) ∧ w'.cell? ⟨w.heap.size + 1, 6, none⟩ = some (.int .u64 (ww1 y)) ∧ w'.cell? ⟨w.heap.size + 1, 7, none⟩ = some (.int .u64 (ww0 y)) ∧ w'.cell? ⟨w.heap.size + 1, 8, none⟩ = some (.int .u64 (ww3 z)) ∧ w'.cell? ⟨w.heap.size + 1, 9, none⟩ = some (.int .u64 (ww2 z)) ∧ w'.cell? ⟨w.heap.size + 1, 10, none⟩ = some (.int .u64 (ww1 z)) ∧ w'.cell? ⟨w.heap.size + 1, 11, none⟩ = some (.int .u64 (ww0 z))) W := ⟨(T0.b 0 rfl).c 0 rfl, (T0.b 0 rfl).c 1 rfl, (T0.b 0 rfl).c 2 rfl, (T0.b 0 rfl).c 3 rfl, (T0.b 1 rfl).c 0 rfl, (T0.b 1 rfl).c 1 rfl, (T0.b 1 rfl).c 2 rfl, (T0.b 1 rfl).c 3 rfl, (T0.b 1 rfl).c 4 rfl, (T0.b 1 rfl).c 5 rfl, (T0.b 1 rfl).c 6 rfl, (T0.b 1 rfl).c 7 rfl, (T0.b 1 rfl).c 8 rfl, (T0.b 1 rfl).c 9 rfl, (T0.b 1 rfl).c 10 rfl, (T0.b 1 rfl).c 11 rfl⟩
set_option maxRecDepth 100000 in
set_option maxHeartbeats 2000000 in
theorem specSideOf_det (a b c d x y z : Int) (hx : told x = true) (hy : told y = true) (hz : told z = true) (w : World) : Calls Try.prog 35 #[Sg a b c d, PV x y z] w (VP (.int .i64 (sideI a b c d x y z)) w) := by
  have T0 : ArgsB w ((w.alloc (.cells #[.int .i64 a, .int .i64 b, .int .i64 c, .int .i64 d] 56)).alloc (.cells #[.int .u64 (ww3 x), .int .u64 (ww2 x), .int .u64 (ww1 x), .int .u64 (ww0 x), .int .u64 (ww3 y), .int .u64 (ww2 y), .int .u64 (ww1 y), .int .u64 (ww0 y), .int .u64 (ww3 z), .int .u64 (ww2 z), .int .u64 (ww1 z), .int .u64 (ww0 z)] 30)) [[.int .i64 a, .int .i64 b, .int .i64 c, .int .i64 d], [.int .u64 (ww3 x), .int .u64 (ww2 x), .int .u64 (ww1 x), .int .u64 (ww0 x), .int .u64 (ww3 y), .int .u64 (ww2 y), .int .u64 (ww1 y), .int .u64 (ww0 y), .int .u64 (ww3 z), .int .u64 (ww2 z), .int .u64 (ww1 z), .int .u64 (ww0 z)]] := ar2 _ _ _ _ w
  have SO := fun w => specSegOk_any a b c d _ rfl w
  have PO := specPointOk_det x y z hx hy hz
  have F3 := l3Of_det x y z hx hy hz
  clear hx hy hz
  by_cases hs : segOk a b c d = true
  · obtain ⟨i1, i2, i3, i4⟩ := in6_seg hs
    have F1 := l3Spot_det a b i1 i2
    have F2 := l3Spot_det c d i3 i4
    by_cases hp : ptB x y z = true
    · have HO : Hid (sideI a b c d x y z = turnI a b 1 c d 1 x y z) := by show _ = _; unfold sideI; rw [hs, hp]; rfl
      rw [hs] at SO
      rw [hp] at PO
      clear hs hp i1 i2 i3 i4
      have tok1 : True := trivial
      go_enter Try.func35, Try.ntmps35
      go_wp2_with fail
      generalize ((w.alloc (.cells #[.int .i64 a, .int .i64 b, .int .i64 c, .int .i64 d] 56)).alloc (.cells #[.int .u64 (ww3 x), .int .u64 (ww2 x), .int .u64 (ww1 x), .int .u64 (ww0 x), .int .u64 (ww3 y), .int .u64 (ww2 y), .int .u64 (ww1 y), .int .u64 (ww0 y), .int .u64 (ww3 z), .int .u64 (ww2 z), .int .u64 (ww1 z), .int .u64 (ww0 z)] 30)) = W at *
      refine (SO _).mono ?_
      rintro e w1 ⟨rfl, hB⟩
      replace T0 := T0.step hB
      clear hB SO
      have Y0 : Blk _ (w.heap.size + 1) _ := T0.b 1 rfl; have q0 := Y0.c 0 rfl; have q1 := Y0.c 1 rfl; have q2 := Y0.c 2 rfl; have q3 := Y0.c 3 rfl; have q4 := Y0.c 4 rfl; have q5 := Y0.c 5 rfl; have q6 := Y0.c 6 rfl; have q7 := Y0.c 7 rfl; have q8 := Y0.c 8 rfl; have q9 := Y0.c 9 rfl; have q10 := Y0.c 10 rfl; have q11 := Y0.c 11 rfl; have ql := Y0.lt; clear Y0
      go_wp2_with fail
      refine (PO _).mono ?_
      rintro e w2 ⟨rfl, hB⟩
      replace T0 := T0.step hB
      clear hB PO q0 q1 q2 q3 q4 q5 q6 q7 q8 q9 q10 q11 ql
      go_upto_region 3 with fail
      go_region_held3 (fun w' => w'.cell? ⟨w.heap.size, 0, none⟩ = some (.int .i64 a) ∧ w'.cell? ⟨w.heap.size, 1, none⟩ = some (.int .i64 b) ∧ w'.cell? ⟨w.heap.size, 2, none⟩ = some (.int .i64 c) ∧ w'.cell? ⟨w.heap.size, 3, none⟩ = some (.int .i64 d) ∧ w'.cell? ⟨w.heap.size + 1, 0, none⟩ = some (.int .u64 (ww3 x)) ∧ w'.cell? ⟨w.heap.size + 1, 1, none⟩ = some (.int .u64 (ww2 x)) ∧ w'.cell? ⟨w.heap.size + 1, 2, none⟩ = some (.int .u64 (ww1 x)) ∧ w'.cell? ⟨w.heap.size + 1, 3, none⟩ = some (.int .u64 (ww0 x)) ∧ w'.cell? ⟨w.heap.size + 1, 4, none⟩ = some (.int .u64 (ww3 y)) ∧ w'.cell? ⟨w.heap.size + 1, 5, none⟩ = some (.int .u64 (ww2 y)) ∧ w'.cell? ⟨w.heap.size + 1, 6, none⟩ = some (.int .u64 (ww1 y)) ∧ w'.cell? ⟨w.heap.size + 1, 7, none⟩ = some (.int .u64 (ww0 y)) ∧ w'.cell? ⟨w.heap.size + 1, 8, none⟩ = some (.int .u64 (ww3 z)) ∧ w'.cell? ⟨w.heap.size + 1, 9, none⟩ = some (.int .u64 (ww2 z)) ∧ w'.cell? ⟨w.heap.size + 1, 10, none⟩ = some (.int .u64 (ww1 z)) ∧ w'.cell? ⟨w.heap.size + 1, 11, none⟩ = some (.int .u64 (ww0 z))) (first | (with_reducible exact sgd_cells T0) | (with_reducible exact sgd_cells T0.drew))
        (first
          | (go_at_call 91; have _t := tok1; refine (F1 _).mono ?_; rintro e v1 ⟨ps1, po1, pn1, pc1, pd1, ps2, po2, pn2, pc2, pd2, ps3, po3, pn3, pc3, pd3, rfl, Np1, Np2, Np3, hB⟩; (first | (have T1 := T0.step hB) | (have T1 := T0.drew.step hB)); clear T0; have T0 := T1; clear T1; clear hB tok1 _t)
          | (go_at_call 91; refine (F2 _).mono ?_; rintro e v2 ⟨qs1, qo1, qn1, qc1, qd1, qs2, qo2, qn2, qc2, qd2, qs3, qo3, qn3, qc3, qd3, rfl, Nq1, Nq2, Nq3, hB⟩; (first | (have T1 := T0.step hB) | (have T1 := T0.drew.step hB)); clear T0; have T0 := T1; clear T1; replace Np1 := Np1.below hB; replace Np2 := Np2.below hB; replace Np3 := Np3.below hB; clear hB)
          | (go_at_call 57; refine (F3 _).mono ?_; rintro e v3 ⟨rs1, ro1, rn1, rc1, rd1, rs2, ro2, rn2, rc2, rd2, rs3, ro3, rn3, rc3, rd3, rfl, Nr1, Nr2, Nr3, hB⟩; (first | (have T1 := T0.step hB) | (have T1 := T0.drew.step hB)); clear T0; have T0 := T1; clear T1; replace Np1 := Np1.below hB; replace Np2 := Np2.below hB; replace Np3 := Np3.below hB; replace Nq1 := Nq1.below hB; replace Nq2 := Nq2.below hB; replace Nq3 := Nq3.below hB; clear hB)
          | (go_at_call 75; refine (l3Orient_any ps1 ps2 ps3 po1 po2 po3 pn1 pc1 pn2 pc2 pn3 pc3 qs1 qs2 qs3 qo1 qo2 qo3 qn1 qc1 qn2 qc2 qn3 qc3 rs1 rs2 rs3 ro1 ro2 ro3 rn1 rc1 rn2 rc2 rn3 rc3 pd1 pd2 pd3 qd1 qd2 qd3 rd1 rd2 rd3 a b 1 c d 1 x y z 8 (by omega) _ Np1 Np2 Np3 Nq1 Nq2 Nq3 Nr1 Nr2 Nr3).mono ?_; rintro e v4 ⟨rfl, hB⟩; (first | (have T1 := T0.step hB) | (have T1 := T0.drew.step hB)); clear T0; have T0 := T1; clear T1; clear hB))
      all_goals have HB := T0.below
      all_goals clear T0
      all_goals go_wp2
      all_goals go_ret
      all_goals exact ⟨by rw [HO.out]; rfl, by first | exact HB | exact HB.drew⟩
    · replace hp := Bool.eq_false_iff.2 hp
      have HO : Hid (sideI a b c d x y z = 0) := by show _ = _; unfold sideI; rw [hs, hp]; rfl
      rw [hs] at SO
      rw [hp] at PO
      clear hs hp i1 i2 i3 i4 F1 F2 F3
      go_enter Try.func35, Try.ntmps35
      go_wp2_with fail
      generalize ((w.alloc (.cells #[.int .i64 a, .int .i64 b, .int .i64 c, .int .i64 d] 56)).alloc (.cells #[.int .u64 (ww3 x), .int .u64 (ww2 x), .int .u64 (ww1 x), .int .u64 (ww0 x), .int .u64 (ww3 y), .int .u64 (ww2 y), .int .u64 (ww1 y), .int .u64 (ww0 y), .int .u64 (ww3 z), .int .u64 (ww2 z), .int .u64 (ww1 z), .int .u64 (ww0 z)] 30)) = W at *
      refine (SO _).mono ?_
      rintro e w1 ⟨rfl, hB⟩
      replace T0 := T0.step hB
      clear hB SO
      have Y0 : Blk _ (w.heap.size + 1) _ := T0.b 1 rfl; have q0 := Y0.c 0 rfl; have q1 := Y0.c 1 rfl; have q2 := Y0.c 2 rfl; have q3 := Y0.c 3 rfl; have q4 := Y0.c 4 rfl; have q5 := Y0.c 5 rfl; have q6 := Y0.c 6 rfl; have q7 := Y0.c 7 rfl; have q8 := Y0.c 8 rfl; have q9 := Y0.c 9 rfl; have q10 := Y0.c 10 rfl; have q11 := Y0.c 11 rfl; have ql := Y0.lt; clear Y0
      go_wp2_with fail
      refine (PO _).mono ?_
      rintro e w2 ⟨rfl, hB⟩
      have HB := (T0.step hB).below
      clear hB PO T0 q0 q1 q2 q3 q4 q5 q6 q7 q8 q9 q10 q11 ql
      go_wp2
      go_ret
      exact ⟨by rw [HO.out]; rfl, HB⟩
  · replace hs := Bool.eq_false_iff.2 hs
    have HO : Hid (sideI a b c d x y z = 0) := by show _ = _; unfold sideI; rw [hs]; rfl
    rw [hs] at SO
    clear hs F3 PO
    go_enter Try.func35, Try.ntmps35
    go_wp2_with fail
    generalize ((w.alloc (.cells #[.int .i64 a, .int .i64 b, .int .i64 c, .int .i64 d] 56)).alloc (.cells #[.int .u64 (ww3 x), .int .u64 (ww2 x), .int .u64 (ww1 x), .int .u64 (ww0 x), .int .u64 (ww3 y), .int .u64 (ww2 y), .int .u64 (ww1 y), .int .u64 (ww0 y), .int .u64 (ww3 z), .int .u64 (ww2 z), .int .u64 (ww1 z), .int .u64 (ww0 z)] 30)) = W at *
    refine (SO _).mono ?_
    rintro e w1 ⟨rfl, hB⟩
    have HB := (T0.step hB).below
    clear hB SO T0
    go_wp2
    go_ret
    exact ⟨by rw [HO.out]; rfl, HB⟩
end Go.Proofs.Ytckbhihdhcgaeaa

/- The law SideOf: both sides' answers. -/
namespace Go.Proofs.Ytckbhihdhcgaeaa
open Go.RowKit
theorem laSideOf_cells {a0 b0 c0 d0 x1 y1 z1 : Int} {w W : World} (T0 : ArgsB w W [[.int .i64 a0, .int .i64 b0, .int .i64 c0, .int .i64 d0], [.int .u64 (ww3 x1), .int .u64 (ww2 x1), .int .u64 (ww1 x1), .int .u64 (ww0 x1), .int .u64 (ww3 y1), .int .u64 (ww2 y1), .int .u64 (ww1 y1), .int .u64 (ww0 y1), .int .u64 (ww3 z1), .int .u64 (ww2 z1), .int .u64 (ww1 z1), .int .u64 (ww0 z1)]]) : (fun w' => w'.cell? ⟨w.heap.size, 0, none⟩ = some (.int .i64 a0) ∧ w'.cell? ⟨w.heap.size, 1, none⟩ = some (.int .i64 b0) ∧ w'.cell? ⟨w.heap.size, 2, none⟩ = some (.int .i64 c0) ∧ w'.cell? ⟨w.heap.size, 3, none⟩ = some (.int .i64 d0) ∧ w'.cell? ⟨w.heap.size + 1, 0, none⟩ = some (.int .u64 (ww3 x1)) ∧ w'.cell? ⟨w.heap.size + 1, 1, none⟩ = some (.int .u64 (ww2 x1)) ∧ w'.cell? ⟨w.heap.size + 1, 2, none⟩ = some (.int .u64 (ww1 x1)) ∧ w'.cell? ⟨w.heap.size + 1, 3, none⟩ = some (.int .u64 (ww0 x1)) ∧ w'.cell? ⟨w.heap.size + 1, 4, none⟩ = some (.int .u64 (ww3 y1)) ∧ w'.cell? ⟨w.heap.size + 1, 5, none⟩ = some (.int .u64 (ww2 y1)) ∧ w'.cell? ⟨w.heap.size + 1, 6, none⟩ = some (.int .u64 (ww1 y1)) ∧ w'.cell? ⟨w.heap.size + 1, 7, none⟩ = some (.int .u64 (ww0 y1)) ∧ w'.cell? ⟨w.heap.size + 1, 8, none⟩ = some (.int .u64 (ww3 z1)) ∧ w'.cell? ⟨w.heap.size + 1, 9, none⟩ = some (.int .u64 (ww2 z1)) ∧ w'.cell? ⟨w.heap.size + 1, 10, none⟩ = some (.int .u64 (ww1 z1)) ∧ w'.cell? ⟨w.heap.size + 1, 11, none⟩ = some (.int .u64 (ww0 z1))) W := ⟨(T0.b 0 rfl).c 0 rfl, (T0.b 0 rfl).c 1 rfl, (T0.b 0 rfl).c 2 rfl, (T0.b 0 rfl).c 3 rfl, (T0.b 1 rfl).c 0 rfl, (T0.b 1 rfl).c 1 rfl, (T0.b 1 rfl).c 2 rfl, (T0.b 1 rfl).c 3 rfl, (T0.b 1 rfl).c 4 rfl, (T0.b 1 rfl).c 5 rfl, (T0.b 1 rfl).c 6 rfl, (T0.b 1 rfl).c 7 rfl, (T0.b 1 rfl).c 8 rfl, (T0.b 1 rfl).c 9 rfl, (T0.b 1 rfl).c 10 rfl, (T0.b 1 rfl).c 11 rfl⟩
set_option maxRecDepth 100000 in
set_option maxHeartbeats 4000000 in
theorem lawSideOf_any (a0 b0 c0 d0 x1 y1 z1 : Int) (tx1 : told x1 = true) (ty1 : told y1 = true) (tz1 : told z1 = true) (w : World) : Calls Try.prog 10 #[Sg a0 b0 c0 d0, PV x1 y1 z1] w (BoolP true w) := by
  have T0 : ArgsB w ((w.alloc (.cells #[.int .i64 a0, .int .i64 b0, .int .i64 c0, .int .i64 d0] 52)).alloc (.cells #[.int .u64 (ww3 x1), .int .u64 (ww2 x1), .int .u64 (ww1 x1), .int .u64 (ww0 x1), .int .u64 (ww3 y1), .int .u64 (ww2 y1), .int .u64 (ww1 y1), .int .u64 (ww0 y1), .int .u64 (ww3 z1), .int .u64 (ww2 z1), .int .u64 (ww1 z1), .int .u64 (ww0 z1)] 26)) [[.int .i64 a0, .int .i64 b0, .int .i64 c0, .int .i64 d0], [.int .u64 (ww3 x1), .int .u64 (ww2 x1), .int .u64 (ww1 x1), .int .u64 (ww0 x1), .int .u64 (ww3 y1), .int .u64 (ww2 y1), .int .u64 (ww1 y1), .int .u64 (ww0 y1), .int .u64 (ww3 z1), .int .u64 (ww2 z1), .int .u64 (ww1 z1), .int .u64 (ww0 z1)]] := ar2 _ _ _ _ w
  obtain ⟨b, hb⟩ : ∃ b : Int, sideI a0 b0 c0 d0 x1 y1 z1 = b := ⟨_, rfl⟩
  have SP := specSideOf_det a0 b0 c0 d0 x1 y1 z1  tx1 ty1 tz1
  have IM := implSideOf_det a0 b0 c0 d0 x1 y1 z1  tx1 ty1 tz1
  rw [hb] at SP IM
  clear hb  tx1 ty1 tz1
  go_enter Try.func10, Try.ntmps10
  go_upto_region 1 with fail
  generalize ((w.alloc (.cells #[.int .i64 a0, .int .i64 b0, .int .i64 c0, .int .i64 d0] 52)).alloc (.cells #[.int .u64 (ww3 x1), .int .u64 (ww2 x1), .int .u64 (ww1 x1), .int .u64 (ww0 x1), .int .u64 (ww3 y1), .int .u64 (ww2 y1), .int .u64 (ww1 y1), .int .u64 (ww0 y1), .int .u64 (ww3 z1), .int .u64 (ww2 z1), .int .u64 (ww1 z1), .int .u64 (ww0 z1)] 26)) = W at *
  go_cut [5] (fun p wx => p = .int .i64 b ∧ ArgsB w wx [[.int .i64 a0, .int .i64 b0, .int .i64 c0, .int .i64 d0], [.int .u64 (ww3 x1), .int .u64 (ww2 x1), .int .u64 (ww1 x1), .int .u64 (ww0 x1), .int .u64 (ww3 y1), .int .u64 (ww2 y1), .int .u64 (ww1 y1), .int .u64 (ww0 y1), .int .u64 (ww3 z1), .int .u64 (ww2 z1), .int .u64 (ww1 z1), .int .u64 (ww0 z1)]])
  case first =>
    go_region_held3 (fun w' => w'.cell? ⟨w.heap.size, 0, none⟩ = some (.int .i64 a0) ∧ w'.cell? ⟨w.heap.size, 1, none⟩ = some (.int .i64 b0) ∧ w'.cell? ⟨w.heap.size, 2, none⟩ = some (.int .i64 c0) ∧ w'.cell? ⟨w.heap.size, 3, none⟩ = some (.int .i64 d0) ∧ w'.cell? ⟨w.heap.size + 1, 0, none⟩ = some (.int .u64 (ww3 x1)) ∧ w'.cell? ⟨w.heap.size + 1, 1, none⟩ = some (.int .u64 (ww2 x1)) ∧ w'.cell? ⟨w.heap.size + 1, 2, none⟩ = some (.int .u64 (ww1 x1)) ∧ w'.cell? ⟨w.heap.size + 1, 3, none⟩ = some (.int .u64 (ww0 x1)) ∧ w'.cell? ⟨w.heap.size + 1, 4, none⟩ = some (.int .u64 (ww3 y1)) ∧ w'.cell? ⟨w.heap.size + 1, 5, none⟩ = some (.int .u64 (ww2 y1)) ∧ w'.cell? ⟨w.heap.size + 1, 6, none⟩ = some (.int .u64 (ww1 y1)) ∧ w'.cell? ⟨w.heap.size + 1, 7, none⟩ = some (.int .u64 (ww0 y1)) ∧ w'.cell? ⟨w.heap.size + 1, 8, none⟩ = some (.int .u64 (ww3 z1)) ∧ w'.cell? ⟨w.heap.size + 1, 9, none⟩ = some (.int .u64 (ww2 z1)) ∧ w'.cell? ⟨w.heap.size + 1, 10, none⟩ = some (.int .u64 (ww1 z1)) ∧ w'.cell? ⟨w.heap.size + 1, 11, none⟩ = some (.int .u64 (ww0 z1))) (first | (with_reducible exact laSideOf_cells T0) | (with_reducible exact laSideOf_cells T0.drew))
      (first
        | (go_at_call 36; refine (toSeg_any a0 b0 c0 d0 _).mono ?_; rintro e v10 ⟨rfl, hB⟩; (first | (have T1 := T0.step hB) | (have T1 := T0.drew.step hB)); clear T0; have T0 := T1; clear T1; clear hB)
        | (go_at_call 18; refine (toPoint_det x1 y1 z1 _).mono ?_; rintro e v11 ⟨rfl, hB⟩; (first | (have T1 := T0.step hB) | (have T1 := T0.drew.step hB)); clear T0; have T0 := T1; clear T1; clear hB)
        | (go_at_call 35; refine (SP _).mono ?_; rintro e v12 ⟨rfl, hB⟩; (first | (have T1 := T0.step hB) | (have T1 := T0.drew.step hB)); clear T0; have T0 := T1; clear T1; clear hB))
    all_goals go_wp2_with fail
    all_goals go_meet
    all_goals first | exact ⟨rfl, T0⟩ | exact ⟨rfl, T0.drew⟩
  case rest =>
    clear T0 SP 
    obtain ⟨hp, T0⟩ := hcut
    subst hp
    go_upto_region 2 with fail
    go_cut [6] (fun p wx => p = .int .i64 b ∧ ArgsB w wx [[.int .i64 a0, .int .i64 b0, .int .i64 c0, .int .i64 d0], [.int .u64 (ww3 x1), .int .u64 (ww2 x1), .int .u64 (ww1 x1), .int .u64 (ww0 x1), .int .u64 (ww3 y1), .int .u64 (ww2 y1), .int .u64 (ww1 y1), .int .u64 (ww0 y1), .int .u64 (ww3 z1), .int .u64 (ww2 z1), .int .u64 (ww1 z1), .int .u64 (ww0 z1)]])
    case first =>
      go_region_held3 (fun w' => w'.cell? ⟨w.heap.size, 0, none⟩ = some (.int .i64 a0) ∧ w'.cell? ⟨w.heap.size, 1, none⟩ = some (.int .i64 b0) ∧ w'.cell? ⟨w.heap.size, 2, none⟩ = some (.int .i64 c0) ∧ w'.cell? ⟨w.heap.size, 3, none⟩ = some (.int .i64 d0) ∧ w'.cell? ⟨w.heap.size + 1, 0, none⟩ = some (.int .u64 (ww3 x1)) ∧ w'.cell? ⟨w.heap.size + 1, 1, none⟩ = some (.int .u64 (ww2 x1)) ∧ w'.cell? ⟨w.heap.size + 1, 2, none⟩ = some (.int .u64 (ww1 x1)) ∧ w'.cell? ⟨w.heap.size + 1, 3, none⟩ = some (.int .u64 (ww0 x1)) ∧ w'.cell? ⟨w.heap.size + 1, 4, none⟩ = some (.int .u64 (ww3 y1)) ∧ w'.cell? ⟨w.heap.size + 1, 5, none⟩ = some (.int .u64 (ww2 y1)) ∧ w'.cell? ⟨w.heap.size + 1, 6, none⟩ = some (.int .u64 (ww1 y1)) ∧ w'.cell? ⟨w.heap.size + 1, 7, none⟩ = some (.int .u64 (ww0 y1)) ∧ w'.cell? ⟨w.heap.size + 1, 8, none⟩ = some (.int .u64 (ww3 z1)) ∧ w'.cell? ⟨w.heap.size + 1, 9, none⟩ = some (.int .u64 (ww2 z1)) ∧ w'.cell? ⟨w.heap.size + 1, 10, none⟩ = some (.int .u64 (ww1 z1)) ∧ w'.cell? ⟨w.heap.size + 1, 11, none⟩ = some (.int .u64 (ww0 z1))) (first | (with_reducible exact laSideOf_cells T0) | (with_reducible exact laSideOf_cells T0.drew))
      (first
        | (go_at_call 36; refine (toSeg_any a0 b0 c0 d0 _).mono ?_; rintro e v20 ⟨rfl, hB⟩; (first | (have T1 := T0.step hB) | (have T1 := T0.drew.step hB)); clear T0; have T0 := T1; clear T1; clear hB)
        | (go_at_call 18; refine (toPoint_det x1 y1 z1 _).mono ?_; rintro e v21 ⟨rfl, hB⟩; (first | (have T1 := T0.step hB) | (have T1 := T0.drew.step hB)); clear T0; have T0 := T1; clear T1; clear hB)
        | (go_at_call 37; refine (IM _).mono ?_; rintro e v22 ⟨rfl, hB⟩; (first | (have T1 := T0.step hB) | (have T1 := T0.drew.step hB)); clear T0; have T0 := T1; clear T1; clear hB))
      all_goals go_wp2_with fail
      all_goals go_meet
      all_goals first | exact ⟨rfl, T0⟩ | exact ⟨rfl, T0.drew⟩
    case rest =>
      clear T0 IM 
      obtain ⟨hp, T0⟩ := hcut
      subst hp
      have HB := T0.below
      have hbb : (b == b) = true := by simp
      clear T0
      go_wp2
      go_ret
      exact ⟨rfl, HB⟩
end Go.Proofs.Ytckbhihdhcgaeaa

/- How spots and segments read as data, beside points: opened and shut. -/
namespace Go.Proofs.Ytckbhihdhcgaeaa
open Go.ChangeShapes Go.WideShapes Go.ChangeAt Go.RowKit Go.Joins
theorem Try.cellsSpot : Try.prog.cellsOf 50 = 2 := by kernel_rfl
theorem Try.cellsSeg : Try.prog.cellsOf 52 = 4 := by kernel_rfl
abbrev Wf (x : Int) : Prop := (Lit.int .i64 x).wf = true
abbrev SpD {H : Type} (x y : Int) : DataW H := .agg [.lit (.int .i64 x), .lit (.int .i64 y)]
theorem shut_spot {H : Type} {enc : TypeId × Value → H} {w : World} {base : Nat} {spare : TypeId → Bool} {held : Bool} {x y : Int} (wx : Wf x) (wy : Wf y) :
    DataW.Trod enc Try.prog w base spare held 50 (.agg #[.int .i64 x, .int .i64 y]) (SpD x y) [] :=
  shut_agg2 (y0 := (.lit (.int .i64 x), [])) (y1 := (.lit (.int .i64 y), [])) Try.underlying50 (by kernel_rfl) Try.cellsSpot
    ⟨1, by simp [DataW.trod, Try.underlying2, wx]⟩ ⟨1, by simp [DataW.trod, Try.underlying2, wy]⟩
theorem trod_spot {H : Type} {enc : TypeId × Value → H} {w : World} {base : Nat} {spare : TypeId → Bool} {held : Bool} {n : Nat} {c0 c1 : Value} {y : DataW H × List MemPlace} (h : DataW.trod enc Try.prog w base spare held n 50 [c0, c1] = some y) :
    ∃ a b : Int, c0 = .int .i64 a ∧ c1 = .int .i64 b ∧ y = (SpD a b, []) ∧ Wf a ∧ Wf b := by
  obtain ⟨y0, y1, m, hx, _, h0, h1⟩ := trod_struct2 Try.underlying50 h
  obtain ⟨a, e0, rfl, wa⟩ := DataW.trod_int Try.underlying2 h0
  obtain ⟨b, e1, rfl, wb⟩ := DataW.trod_int Try.underlying2 h1
  have k : Try.prog.cellsOf 2 = 1 := by kernel_rfl
  simp [k] at e0 e1
  exact ⟨a, b, e0, e1, hx, wa, wb⟩
set_option maxRecDepth 100000 in
theorem open_seg {H : Type} {enc : TypeId × Value → H} {w : World} {b0 : Nat} {v : Value} {d : DataW H} {p : List MemPlace} (hv : Value.okWide Try.prog w .any b0 52 v) (h : DataW.Trod enc Try.prog w 0 (fun _ => true) true 52 v d p) :
    ∃ a b c e : Int, v = .agg #[.int .i64 a, .int .i64 b, .int .i64 c, .int .i64 e] ∧ d = .agg [SpD a b, SpD c e] ∧ p = [] ∧ Wf a ∧ Wf b ∧ Wf c ∧ Wf e := by
  obtain ⟨cs, rfl, hsz⟩ := okWide_struct Try.underlying52 hv
  obtain ⟨c0, c1, c2, c3, rfl⟩ := array4 (hsz.trans Try.cellsSeg)
  obtain ⟨fuel, hf⟩ := h
  obtain ⟨y0, y1, n, hx, _, h0, h1⟩ := trod_struct2 Try.underlying52 hf
  simp [Value.cells, Try.cellsSpot] at h0 h1
  obtain ⟨a, b, rfl, rfl, rfl, wa, wb⟩ := trod_spot h0
  obtain ⟨c, e, rfl, rfl, rfl, wc, we⟩ := trod_spot h1
  simp only [Prod.mk.injEq] at hx
  exact ⟨a, b, c, e, rfl, hx.1, by simpa using hx.2, wa, wb, wc, we⟩
theorem shut_seg {H : Type} {enc : TypeId × Value → H} {w : World} {base : Nat} {spare : TypeId → Bool} {held : Bool} {a b c e : Int} (wa : Wf a) (wb : Wf b) (wc : Wf c) (we : Wf e) :
    DataW.Trod enc Try.prog w base spare held 52 (.agg #[.int .i64 a, .int .i64 b, .int .i64 c, .int .i64 e]) (.agg [SpD a b, SpD c e]) [] := by
  obtain ⟨n0, t0⟩ := shut_spot (enc := enc) (w := w) (base := base) (spare := spare) (held := held) wa wb
  obtain ⟨n1, t1⟩ := shut_spot (enc := enc) (w := w) (base := base) (spare := spare) (held := held) wc we
  have ts := trod_struct2_mk (enc := enc) (w := w) (base := base) (spare := spare) (held := held) (n := max n0 n1) (cs := [.int .i64 a, .int .i64 b, .int .i64 c, .int .i64 e]) Try.underlying52 (by simp [Try.cellsSeg])
    (by simpa [Value.cells, Try.cellsSpot] using DataW.trod_le (Nat.le_max_left n0 n1) t0) (by simpa [Value.cells, Try.cellsSpot] using DataW.trod_le (Nat.le_max_right n0 n1) t1)
  exact ⟨_, by simpa [Value.cells] using ts⟩
end Go.Proofs.Ytckbhihdhcgaeaa

/- What the row of a law asks of the program as a whole, each by itself. -/
namespace Go.Proofs.Ytckbhihdhcgaeaa
open Go.ChangeShapes Go.WideShapes Go.ChangeAt Go.RowKit Go.Joins
theorem jn_laid : laidOutB Try.pinned.checked.prog = true := by kernel_rfl
theorem jn_maps : mapsRowed Try.pinned.checked.prog = true := by kernel_rfl
theorem jn_enter : Try.pinned.checked.prog.mayEnter = true := by kernel_rfl
theorem jn_heard : Try.pinned.checked.prog.stopsHeard = true := by kernel_rfl
end Go.Proofs.Ytckbhihdhcgaeaa
