/- The walk of four words made from a number below 0. -/
import Derived.Test.YtinilehbhdpdkaaToWB
import Derived.Deep.RegionHeld3
namespace Go.Proofs.Ytinilehbhdpdkaa
open Go.RowKit
set_option maxRecDepth 100000 in
set_option maxHeartbeats 4000000 in
theorem toW_neg (ao : Option Addr) (n cap : Nat) (ds0 : List Int) (z : Int) (k : Nat) (w : World) (hz0 : z < 0) (h : IsNum w true ao n cap ds0 z k) (hk : k ≤ 1000000) :
    Calls Try.prog 23 #[.agg #[.bool true, .slice ao n cap]] w (TellP z w) := by
  have hm0 : n ≤ 1000000 := by have := h.le; omega
  go_enter Try.func23, Try.ntmps23
  go_wp2_with fail
  refine (left_any _ 1 1 255 [1] _ rfl (dig_cons.2 ⟨by omega, dig_nil⟩) (Rd.lit _ (by simp) rfl (by simp [maxLen])) (by omega) (by omega)).mono ?_
  rintro e wa ⟨ao1, n1, cap1, zs1, rfl, k1, k2, k3, k4, k5, k6, k7⟩
  have hRd0 : Rd wa ao ds0 := (((h.rd.below ((Below.refl _ _).alloc (Nat.le_refl _) _) (Nat.le_refl _)).below ((Below.refl _ _).alloc (Nat.le_refl _) _) (Nat.le_refl _)).below ((Below.refl _ _).alloc (Nat.le_refl _) _) (Nat.le_refl _)).below k7 (Nat.le_refl _)
  have hA : Below (w.heap.size + 2) ((w.alloc (Obj.cells #[Value.bool true, Value.slice ao n cap] 47)).alloc (Obj.cells #[Value.int IntKind.u64 0, Value.int IntKind.u64 0, Value.int IntKind.u64 0, Value.int IntKind.u64 0] 26)) wa :=
    ((Below.refl _ _).alloc (by simp) _).trans (k7.mono (by simp))
  rw [pw255] at k5
  have k3' : n1 ≤ 9 := k3
  clear k7 k3
  go_wp2_with fail
  refine (cmpAbs_any ao ao1 n n1 cap cap1 ds0 zs1 _ h.len k1 h.nrm k4 hRd0 k6 hm0 (by omega)).mono ?_
  rintro e wb ⟨rfl, hB⟩
  have hRd1 := hRd0.below hB (Nat.le_refl _)
  have hA1 := hA.trans (hB.mono (by have := hA.size; simp at this ⊢; omega))
  have hL0 := h.len
  have hD0 := h.nrm.1
  have hv0 := h.val
  have HV0 : Hid (val ds0 = (z.natAbs : Int)) := hv0
  rw [k5, hv0]
  clear k1 k2 k4 k5 k6 hRd0 hA hB h hv0
  by_cases hb5 : (z.natAbs : Int) ≤ 57896044618658097711785492504343953926634992332820282019728792003956564819968
  · have hcmp : ¬ 0 < cmpI (z.natAbs : Int) 57896044618658097711785492504343953926634992332820282019728792003956564819968 := by unfold cmpI; split <;> (try split) <;> omega
    generalize cmpI (z.natAbs : Int) 57896044618658097711785492504343953926634992332820282019728792003956564819968 = cc at hcmp ⊢
    have hmk := make8
    go_wp2_with fail
    refine (left_any _ 1 1 256 [1] _ rfl (dig_cons.2 ⟨by omega, dig_nil⟩) (Rd.lit _ (by simp) rfl (by simp [maxLen])) (by omega) (by omega)).mono ?_
    rintro e wc ⟨ao2, n2, cap2, zs2, rfl, k1, k2, k3, k4, k5, k6, k7⟩
    have hRd2 := (hRd1.below ((Below.refl _ _).alloc (Nat.le_refl _) _) (Nat.le_refl _)).below k7 (Nat.le_refl _)
    have hA2 := (hA1.alloc (by have := hA1.size; simp at this; omega) _).trans (k7.mono (by have := hA1.size; simp at this ⊢; omega))
    have k3' : n2 ≤ 10 := k3
    rw [pw256] at k5
    clear k7 k3
    go_wp2_with fail
    refine (subAbs_any ao2 ao n2 n cap2 cap zs2 ds0 _ k1 hL0 k4.1 hD0 k6 hRd2 (by omega) hm0 (by rw [k5, HV0.out]; omega)).mono ?_
    rintro e w1 ⟨ao3, cap3, ds, rfl, m1, m2, m3, m4, m5, m6⟩
    have hA3 := hA2.trans (m6.mono (by have := hA2.size; simp at this ⊢; omega))
    obtain ⟨c0, c1, c2, c3, f0, f1, f2, f3, hz, hB2⟩ := res4' (R := w.heap.size + 1) (by simp) (hA3.mono (by simp))
    have HB : Hid (Below w.heap.size w w1) := ((Below.refl _ _).alloc (Nat.le_refl _) _).trans (hB2.mono (by simp))
    have HL : Hid (ds.length = n2) := m1
    have HD : Hid (Dig ds) := m3
    have HR : Hid (Rd w1 ao3 ds) := m5
    rw [k5, HV0.out] at m4
    have HU : Hid (val ds < pw 8) := by show _ < _; rw [m4, pw8]; omega
    have HS : Hid (TellOk (val ds) z) := Or.inr ⟨hz0, by omega, by rw [m4]; omega⟩
    clear k1 k2 k4 k5 k6 hRd1 hRd2 hA1 hA2 hA3 hB2 m1 m2 m3 m4 m5 m6 hL0 hD0 HV0
    go_wp2_with fail
    go_loopw [6] (fun i wr => ∃ k : Nat, k ≤ 8 ∧ k ≤ n2 ∧ i = .int .i64 k ∧ ToI w1 wr w1.heap.size ds k) (fun i _ => 8 - (intOf i).toNat)
    case atStart => exact ⟨0, by omega, Nat.zero_le _, rfl, toI_start w1 ds⟩
    case round =>
      obtain ⟨k, hk8, hkn, rfl, hI⟩ := hrel
      by_cases h8 : k < 8
      · by_cases hn : k < n2
        · have hkx : k < ds.length := by have := HL.out; omega
          obtain ⟨b', off, rfl, hbl, hcx0⟩ := HR.out k hkx
          have hcx := (hI.below.cell (p := ⟨b', off + k, none⟩) hbl).trans hcx0
          clear hcx0
          obtain ⟨hx0, hx1⟩ := dig_at HD.out k hkx
          have hfr := hI.own.frozenAt k
          obtain ⟨v0, hc0⟩ := toI_cell hI k h8
          have R := toI_step hI h8 hkx
          clear hI
          have hbn : b' ≠ w1.heap.size := by omega
          go_wp2
          go_roundw
          case rel => exact ⟨k + 1, by omega, by omega, by go_num, R⟩
          case measure => simp [intOf]; omega
        · obtain rfl : k = n2 := by omega
          have HC := toI_cells hI (Or.inr HL.out)
          have HBB : Hid (Below w.heap.size w wr) := HB.out.trans (hI.below.mono HB.out.size)
          obtain ⟨g0, g1, g2, g3, q0, q1, q2, q3⟩ := toI_res hI hz c0 c1 c2 c3 f0 f1 f2 f3
          clear hI c0 c1 c2 c3 f0 f1 f2 f3
          have hne : w.heap.size + 1 ≠ w1.heap.size := by omega
          obtain ⟨y0, hy0⟩ : ∃ y, y = ds.getD 0 0 := ⟨_, rfl⟩
          obtain ⟨y1, hy1⟩ : ∃ y, y = ds.getD 1 0 := ⟨_, rfl⟩
          obtain ⟨y2, hy2⟩ : ∃ y, y = ds.getD 2 0 := ⟨_, rfl⟩
          obtain ⟨y3, hy3⟩ : ∃ y, y = ds.getD 3 0 := ⟨_, rfl⟩
          obtain ⟨y4, hy4⟩ : ∃ y, y = ds.getD 4 0 := ⟨_, rfl⟩
          obtain ⟨y5, hy5⟩ : ∃ y, y = ds.getD 5 0 := ⟨_, rfl⟩
          obtain ⟨y6, hy6⟩ : ∃ y, y = ds.getD 6 0 := ⟨_, rfl⟩
          obtain ⟨y7, hy7⟩ : ∃ y, y = ds.getD 7 0 := ⟨_, rfl⟩
          have e0 := HC 0 (by omega); have e1 := HC 1 (by omega); have e2 := HC 2 (by omega); have e3 := HC 3 (by omega); have e4 := HC 4 (by omega); have e5 := HC 5 (by omega); have e6 := HC 6 (by omega); have e7 := HC 7 (by omega)
          have b0 := dig_getD HD.out 0; have b1 := dig_getD HD.out 1; have b2 := dig_getD HD.out 2; have b3 := dig_getD HD.out 3; have b4 := dig_getD HD.out 4; have b5 := dig_getD HD.out 5; have b6 := dig_getD HD.out 6; have b7 := dig_getD HD.out 7
          have HW := uw_of_digits HD.out HU.out
          rw [← hy0] at e0 b0 HW; rw [← hy1] at e1 b1 HW; rw [← hy2] at e2 b2 HW; rw [← hy3] at e3 b3 HW; rw [← hy4] at e4 b4 HW; rw [← hy5] at e5 b5 HW; rw [← hy6] at e6 b6 HW; rw [← hy7] at e7 b7 HW
          have o0 := or_hi y0 y1 b0 b1; have o1 := or_hi y2 y3 b2 b3; have o2 := or_hi y4 y5 b4 b5; have o3 := or_hi y6 y7 b6 b7
          have d0 := word_of_digits b0 b1; have d1 := word_of_digits b2 b3; have d2 := word_of_digits b4 b5; have d3 := word_of_digits b6 b7
          obtain ⟨x0, hx0⟩ : ∃ x, x = y0 + y1 * 4294967296 := ⟨_, rfl⟩
          obtain ⟨x1, hx1⟩ : ∃ x, x = y2 + y3 * 4294967296 := ⟨_, rfl⟩
          obtain ⟨x2, hx2⟩ : ∃ x, x = y4 + y5 * 4294967296 := ⟨_, rfl⟩
          obtain ⟨x3, hx3⟩ : ∃ x, x = y6 + y7 * 4294967296 := ⟨_, rfl⟩
          rw [← hx0] at o0 d0 HW; rw [← hx1] at o1 d1 HW; rw [← hx2] at o2 d2 HW; rw [← hx3] at o3 d3 HW
          have HW2 : Hid (uw x3 x2 x1 x0 = val ds) := HW
          clear HC HW hx0 hx1 hx2 hx3 hy0 hy1 hy2 hy3 hy4 hy5 hy6 hy7 b0 b1 b2 b3 b4 b5 b6 b7
          go_wp2
          go_region_held3 (fun w' => w'.cell? ⟨w1.heap.size, 0, none⟩ = some (.int .u64 y0) ∧ w'.cell? ⟨w1.heap.size, 1, none⟩ = some (.int .u64 y1) ∧ w'.cell? ⟨w1.heap.size, 2, none⟩ = some (.int .u64 y2) ∧ w'.cell? ⟨w1.heap.size, 3, none⟩ = some (.int .u64 y3) ∧ w'.cell? ⟨w1.heap.size, 4, none⟩ = some (.int .u64 y4) ∧ w'.cell? ⟨w1.heap.size, 5, none⟩ = some (.int .u64 y5) ∧ w'.cell? ⟨w1.heap.size, 6, none⟩ = some (.int .u64 y6) ∧ w'.cell? ⟨w1.heap.size, 7, none⟩ = some (.int .u64 y7)) (first | exact ⟨e0, e1, e2, e3, e4, e5, e6, e7⟩ | exact keep8 hne e0 e1 e2 e3 e4 e5 e6 e7) (fail)
          all_goals go_wp2
          all_goals refine bodyPost_ret (v := .tuple #[.agg #[.int .u64 x3, .int .u64 x2, .int .u64 x1, .int .u64 x0], .bool true]) (by simp [results, Try.results23, go_sem, g0, g1, g2, g3]) rfl ?_
          all_goals exact tell_ok d3 d2 d1 d0 HW2.out HS.out (by first | exact (tell_below HBB.out (Nat.le_succ _)).drew | exact tell_below HBB.out (Nat.le_succ _))
      · obtain rfl : k = 8 := by omega
        have HC := toI_cells hI (Or.inl rfl)
        have HBB : Hid (Below w.heap.size w wr) := HB.out.trans (hI.below.mono HB.out.size)
        obtain ⟨g0, g1, g2, g3, q0, q1, q2, q3⟩ := toI_res hI hz c0 c1 c2 c3 f0 f1 f2 f3
        clear hI c0 c1 c2 c3 f0 f1 f2 f3
        have hne : w.heap.size + 1 ≠ w1.heap.size := by omega
        obtain ⟨y0, hy0⟩ : ∃ y, y = ds.getD 0 0 := ⟨_, rfl⟩
        obtain ⟨y1, hy1⟩ : ∃ y, y = ds.getD 1 0 := ⟨_, rfl⟩
        obtain ⟨y2, hy2⟩ : ∃ y, y = ds.getD 2 0 := ⟨_, rfl⟩
        obtain ⟨y3, hy3⟩ : ∃ y, y = ds.getD 3 0 := ⟨_, rfl⟩
        obtain ⟨y4, hy4⟩ : ∃ y, y = ds.getD 4 0 := ⟨_, rfl⟩
        obtain ⟨y5, hy5⟩ : ∃ y, y = ds.getD 5 0 := ⟨_, rfl⟩
        obtain ⟨y6, hy6⟩ : ∃ y, y = ds.getD 6 0 := ⟨_, rfl⟩
        obtain ⟨y7, hy7⟩ : ∃ y, y = ds.getD 7 0 := ⟨_, rfl⟩
        have e0 := HC 0 (by omega); have e1 := HC 1 (by omega); have e2 := HC 2 (by omega); have e3 := HC 3 (by omega); have e4 := HC 4 (by omega); have e5 := HC 5 (by omega); have e6 := HC 6 (by omega); have e7 := HC 7 (by omega)
        have b0 := dig_getD HD.out 0; have b1 := dig_getD HD.out 1; have b2 := dig_getD HD.out 2; have b3 := dig_getD HD.out 3; have b4 := dig_getD HD.out 4; have b5 := dig_getD HD.out 5; have b6 := dig_getD HD.out 6; have b7 := dig_getD HD.out 7
        have HW := uw_of_digits HD.out HU.out
        rw [← hy0] at e0 b0 HW; rw [← hy1] at e1 b1 HW; rw [← hy2] at e2 b2 HW; rw [← hy3] at e3 b3 HW; rw [← hy4] at e4 b4 HW; rw [← hy5] at e5 b5 HW; rw [← hy6] at e6 b6 HW; rw [← hy7] at e7 b7 HW
        have o0 := or_hi y0 y1 b0 b1; have o1 := or_hi y2 y3 b2 b3; have o2 := or_hi y4 y5 b4 b5; have o3 := or_hi y6 y7 b6 b7
        have d0 := word_of_digits b0 b1; have d1 := word_of_digits b2 b3; have d2 := word_of_digits b4 b5; have d3 := word_of_digits b6 b7
        obtain ⟨x0, hx0⟩ : ∃ x, x = y0 + y1 * 4294967296 := ⟨_, rfl⟩
        obtain ⟨x1, hx1⟩ : ∃ x, x = y2 + y3 * 4294967296 := ⟨_, rfl⟩
        obtain ⟨x2, hx2⟩ : ∃ x, x = y4 + y5 * 4294967296 := ⟨_, rfl⟩
        obtain ⟨x3, hx3⟩ : ∃ x, x = y6 + y7 * 4294967296 := ⟨_, rfl⟩
        rw [← hx0] at o0 d0 HW; rw [← hx1] at o1 d1 HW; rw [← hx2] at o2 d2 HW; rw [← hx3] at o3 d3 HW
        have HW2 : Hid (uw x3 x2 x1 x0 = val ds) := HW
        clear HC HW hx0 hx1 hx2 hx3 hy0 hy1 hy2 hy3 hy4 hy5 hy6 hy7 b0 b1 b2 b3 b4 b5 b6 b7
        go_wp2
        go_region_held3 (fun w' => w'.cell? ⟨w1.heap.size, 0, none⟩ = some (.int .u64 y0) ∧ w'.cell? ⟨w1.heap.size, 1, none⟩ = some (.int .u64 y1) ∧ w'.cell? ⟨w1.heap.size, 2, none⟩ = some (.int .u64 y2) ∧ w'.cell? ⟨w1.heap.size, 3, none⟩ = some (.int .u64 y3) ∧ w'.cell? ⟨w1.heap.size, 4, none⟩ = some (.int .u64 y4) ∧ w'.cell? ⟨w1.heap.size, 5, none⟩ = some (.int .u64 y5) ∧ w'.cell? ⟨w1.heap.size, 6, none⟩ = some (.int .u64 y6) ∧ w'.cell? ⟨w1.heap.size, 7, none⟩ = some (.int .u64 y7)) (first | exact ⟨e0, e1, e2, e3, e4, e5, e6, e7⟩ | exact keep8 hne e0 e1 e2 e3 e4 e5 e6 e7) (fail)
        all_goals go_wp2
        all_goals refine bodyPost_ret (v := .tuple #[.agg #[.int .u64 x3, .int .u64 x2, .int .u64 x1, .int .u64 x0], .bool true]) (by simp [results, Try.results23, go_sem, g0, g1, g2, g3]) rfl ?_
        all_goals exact tell_ok d3 d2 d1 d0 HW2.out HS.out (by first | exact (tell_below HBB.out (Nat.le_succ _)).drew | exact tell_below HBB.out (Nat.le_succ _))
  · have hcmp : 0 < cmpI (z.natAbs : Int) 57896044618658097711785492504343953926634992332820282019728792003956564819968 := by unfold cmpI; rw [if_neg (by omega), if_pos (by omega)]; omega
    generalize cmpI (z.natAbs : Int) 57896044618658097711785492504343953926634992332820282019728792003956564819968 = cc at hcmp ⊢
    have HT : Hid (told z = false) := by show _ = _; unfold told; rw [decide_eq_false_iff_not]; omega
    obtain ⟨c0, c1, c2, c3, f0, f1, f2, f3, hz, hB2⟩ := res4' (R := w.heap.size + 1) (by simp) (hA1.mono (by simp))
    have HB : Hid (Below w.heap.size w wb) := ((Below.refl _ _).alloc (Nat.le_refl _) _).trans (hB2.mono (by simp))
    clear hRd1 hA1 hB2 hL0 hD0 HV0
    go_wp2_with fail
    refine bodyPost_ret (v := .tuple #[.agg #[.int .u64 0, .int .u64 0, .int .u64 0, .int .u64 0], .bool false]) (by simp [results, Try.results23, go_sem, c0, c1, c2, c3]) rfl ?_
    exact ⟨tell_below HB.out (Nat.le_succ _), Or.inr ⟨HT.out, rfl⟩⟩
end Go.Proofs.Ytinilehbhdpdkaa
