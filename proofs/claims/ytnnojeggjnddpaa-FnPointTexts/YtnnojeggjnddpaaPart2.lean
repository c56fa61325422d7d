/- Part 2 of the walks that the proof leans on. -/
import Derived.Test.YtnnojeggjnddpaaPart1
import Derived.Deep.RegionHeld3
import Derived.Test.YtnnojeggjnddpaaRows
import Derived.WalkKit
import Derived.WalkSpells
import Derived.WalkLawsBesides
import Derived.Deep.DeepCutAuto
import Derived.Deep.QuietTactic
import Derived.BigQuiet
/- The walk of four words made from a number below 0. -/
namespace Go.Proofs.Ytnnojeggjnddpaa
open Go.RowKit
set_option maxRecDepth 100000 in
set_option maxHeartbeats 4000000 in
theorem toW_neg (ao : Option Addr) (n cap : Nat) (ds0 : List Int) (z : Int) (k : Nat) (w : World) (hz0 : z < 0) (h : IsNum w true ao n cap ds0 z k) (hk : k ≤ 1000000) :
    Calls Try.prog 48 #[.agg #[.bool true, .slice ao n cap]] w (TellP z w) := by
  have hm0 : n ≤ 1000000 := by have := h.le; omega
  go_enter Try.func48, Try.ntmps48
  go_wp2_with fail
  refine (left_any _ 1 1 255 [1] _ rfl (dig_cons.2 ⟨by omega, dig_nil⟩) (Rd.lit _ (by simp) rfl (by simp [maxLen])) (by omega) (by omega)).mono ?_
  rintro e wa ⟨ao1, n1, cap1, zs1, rfl, k1, k2, k3, k4, k5, k6, k7⟩
  have hRd0 : Rd wa ao ds0 := (((h.rd.below ((Below.refl _ _).alloc (Nat.le_refl _) _) (Nat.le_refl _)).below ((Below.refl _ _).alloc (Nat.le_refl _) _) (Nat.le_refl _)).below ((Below.refl _ _).alloc (Nat.le_refl _) _) (Nat.le_refl _)).below k7 (Nat.le_refl _)
  have hA : Below (w.heap.size + 2) ((w.alloc (Obj.cells #[Value.bool true, Value.slice ao n cap] 66)).alloc (Obj.cells #[Value.int IntKind.u64 0, Value.int IntKind.u64 0, Value.int IntKind.u64 0, Value.int IntKind.u64 0] 26)) wa :=
    ((Below.refl _ _).alloc (by simp) _).trans (k7.mono (by simp))
  rw [pw255] at k5
  have k3' : n1 ≤ 9 := k3
  clear k7 k3
  go_wp2_with fail
  refine (cmpAbs_any ao ao1 n n1 cap cap1 ds0 zs1 _ h.len k1 h.nrm k4 hRd0 k6 hm0 (by omega)).mono ?_
  rintro e wb ⟨rfl, hB⟩
  have hRd1 := hRd0.below hB (Nat.le_refl _)
  have hA1 := hA.trans (hB.mono (by have := hA.size; simp at this ⊢; omega))
  have hL0 := h.len
  have hD0 := h.nrm.1
  have hv0 := h.val
  have HV0 : Hid (val ds0 = (z.natAbs : Int)) := hv0
  rw [k5, hv0]
  clear k1 k2 k4 k5 k6 hRd0 hA hB h hv0
  by_cases hb5 : (z.natAbs : Int) ≤ 57896044618658097711785492504343953926634992332820282019728792003956564819968
  · have hcmp : ¬ 0 < cmpI (z.natAbs : Int) 57896044618658097711785492504343953926634992332820282019728792003956564819968 := by unfold cmpI; split <;> (try split) <;> omega
    generalize cmpI (z.natAbs : Int) 57896044618658097711785492504343953926634992332820282019728792003956564819968 = cc at hcmp ⊢
    have hmk := make8
    go_wp2_with fail
    refine (left_any _ 1 1 256 [1] _ rfl (dig_cons.2 ⟨by omega, dig_nil⟩) (Rd.lit _ (by simp) rfl (by simp [maxLen])) (by omega) (by omega)).mono ?_
    rintro e wc ⟨ao2, n2, cap2, zs2, rfl, k1, k2, k3, k4, k5, k6, k7⟩
    have hRd2 := (hRd1.below ((Below.refl _ _).alloc (Nat.le_refl _) _) (Nat.le_refl _)).below k7 (Nat.le_refl _)
    have hA2 := (hA1.alloc (by have := hA1.size; simp at this; omega) _).trans (k7.mono (by have := hA1.size; simp at this ⊢; omega))
    have k3' : n2 ≤ 10 := k3
    rw [pw256] at k5
    clear k7 k3
    go_wp2_with fail
    refine (subAbs_any ao2 ao n2 n cap2 cap zs2 ds0 _ k1 hL0 k4.1 hD0 k6 hRd2 (by omega) hm0 (by rw [k5, HV0.out]; omega)).mono ?_
    rintro e w1 ⟨ao3, cap3, ds, rfl, m1, m2, m3, m4, m5, m6⟩
    have hA3 := hA2.trans (m6.mono (by have := hA2.size; simp at this ⊢; omega))
    obtain ⟨c0, c1, c2, c3, f0, f1, f2, f3, hz, hB2⟩ := res4' (R := w.heap.size + 1) (by simp) (hA3.mono (by simp))
    have HB : Hid (Below w.heap.size w w1) := ((Below.refl _ _).alloc (Nat.le_refl _) _).trans (hB2.mono (by simp))
    have HL : Hid (ds.length = n2) := m1
    have HD : Hid (Dig ds) := m3
    have HR : Hid (Rd w1 ao3 ds) := m5
    rw [k5, HV0.out] at m4
    have HU : Hid (val ds < pw 8) := by show _ < _; rw [m4, pw8]; omega
    have HS : Hid (TellOk (val ds) z) := Or.inr ⟨hz0, by omega, by rw [m4]; omega⟩
    clear k1 k2 k4 k5 k6 hRd1 hRd2 hA1 hA2 hA3 hB2 m1 m2 m3 m4 m5 m6 hL0 hD0 HV0
    go_wp2_with fail
    go_loopw [6] (fun i wr => ∃ k : Nat, k ≤ 8 ∧ k ≤ n2 ∧ i = .int .i64 k ∧ ToI w1 wr w1.heap.size ds k) (fun i _ => 8 - (intOf i).toNat)
    case atStart => exact ⟨0, by omega, Nat.zero_le _, rfl, toI_start w1 ds⟩
    case round =>
      obtain ⟨k, hk8, hkn, rfl, hI⟩ := hrel
      by_cases h8 : k < 8
      · by_cases hn : k < n2
        · have hkx : k < ds.length := by have := HL.out; omega
          obtain ⟨b', off, rfl, hbl, hcx0⟩ := HR.out k hkx
          have hcx := (hI.below.cell (p := ⟨b', off + k, none⟩) hbl).trans hcx0
          clear hcx0
          obtain ⟨hx0, hx1⟩ := dig_at HD.out k hkx
          have hfr := hI.own.frozenAt k
          obtain ⟨v0, hc0⟩ := toI_cell hI k h8
          have R := toI_step hI h8 hkx
          clear hI
          have hbn : b' ≠ w1.heap.size := by omega
          go_wp2
          go_roundw
          case rel => exact ⟨k + 1, by omega, by omega, by go_num, R⟩
          case measure => simp [intOf]; omega
        · obtain rfl : k = n2 := by omega
          have HC := toI_cells hI (Or.inr HL.out)
          have HBB : Hid (Below w.heap.size w wr) := HB.out.trans (hI.below.mono HB.out.size)
          obtain ⟨g0, g1, g2, g3, q0, q1, q2, q3⟩ := toI_res hI hz c0 c1 c2 c3 f0 f1 f2 f3
          clear hI c0 c1 c2 c3 f0 f1 f2 f3
          have hne : w.heap.size + 1 ≠ w1.heap.size := by omega
          obtain ⟨y0, hy0⟩ : ∃ y, y = ds.getD 0 0 := ⟨_, rfl⟩
          obtain ⟨y1, hy1⟩ : ∃ y, y = ds.getD 1 0 := ⟨_, rfl⟩
          obtain ⟨y2, hy2⟩ : ∃ y, y = ds.getD 2 0 := ⟨_, rfl⟩
          obtain ⟨y3, hy3⟩ : ∃ y, y = ds.getD 3 0 := ⟨_, rfl⟩
          obtain ⟨y4, hy4⟩ : ∃ y, y = ds.getD 4 0 := ⟨_, rfl⟩
          obtain ⟨y5, hy5⟩ : ∃ y, y = ds.getD 5 0 := ⟨_, rfl⟩
          obtain ⟨y6, hy6⟩ : ∃ y, y = ds.getD 6 0 := ⟨_, rfl⟩
          obtain ⟨y7, hy7⟩ : ∃ y, y = ds.getD 7 0 := ⟨_, rfl⟩
          have e0 := HC 0 (by omega); have e1 := HC 1 (by omega); have e2 := HC 2 (by omega); have e3 := HC 3 (by omega); have e4 := HC 4 (by omega); have e5 := HC 5 (by omega); have e6 := HC 6 (by omega); have e7 := HC 7 (by omega)
          have b0 := dig_getD HD.out 0; have b1 := dig_getD HD.out 1; have b2 := dig_getD HD.out 2; have b3 := dig_getD HD.out 3; have b4 := dig_getD HD.out 4; have b5 := dig_getD HD.out 5; have b6 := dig_getD HD.out 6; have b7 := dig_getD HD.out 7
          have HW := uw_of_digits HD.out HU.out
          rw [← hy0] at e0 b0 HW; rw [← hy1] at e1 b1 HW; rw [← hy2] at e2 b2 HW; rw [← hy3] at e3 b3 HW; rw [← hy4] at e4 b4 HW; rw [← hy5] at e5 b5 HW; rw [← hy6] at e6 b6 HW; rw [← hy7] at e7 b7 HW
          have o0 := or_hi y0 y1 b0 b1; have o1 := or_hi y2 y3 b2 b3; have o2 := or_hi y4 y5 b4 b5; have o3 := or_hi y6 y7 b6 b7
          have d0 := word_of_digits b0 b1; have d1 := word_of_digits b2 b3; have d2 := word_of_digits b4 b5; have d3 := word_of_digits b6 b7
          obtain ⟨x0, hx0⟩ : ∃ x, x = y0 + y1 * 4294967296 := ⟨_, rfl⟩
          obtain ⟨x1, hx1⟩ : ∃ x, x = y2 + y3 * 4294967296 := ⟨_, rfl⟩
          obtain ⟨x2, hx2⟩ : ∃ x, x = y4 + y5 * 4294967296 := ⟨_, rfl⟩
          obtain ⟨x3, hx3⟩ : ∃ x, x = y6 + y7 * 4294967296 := ⟨_, rfl⟩
          rw [← hx0] at o0 d0 HW; rw [← hx1] at o1 d1 HW; rw [← hx2] at o2 d2 HW; rw [← hx3] at o3 d3 HW
          have HW2 : Hid (uw x3 x2 x1 x0 = val ds) := HW
          clear HC HW hx0 hx1 hx2 hx3 hy0 hy1 hy2 hy3 hy4 hy5 hy6 hy7 b0 b1 b2 b3 b4 b5 b6 b7
          go_wp2
          go_region_held3 (fun w' => w'.cell? ⟨w1.heap.size, 0, none⟩ = some (.int .u64 y0) ∧ w'.cell? ⟨w1.heap.size, 1, none⟩ = some (.int .u64 y1) ∧ w'.cell? ⟨w1.heap.size, 2, none⟩ = some (.int .u64 y2) ∧ w'.cell? ⟨w1.heap.size, 3, none⟩ = some (.int .u64 y3) ∧ w'.cell? ⟨w1.heap.size, 4, none⟩ = some (.int .u64 y4) ∧ w'.cell? ⟨w1.heap.size, 5, none⟩ = some (.int .u64 y5) ∧ w'.cell? ⟨w1.heap.size, 6, none⟩ = some (.int .u64 y6) ∧ w'.cell? ⟨w1.heap.size, 7, none⟩ = some (.int .u64 y7)) (first | exact ⟨e0, e1, e2, e3, e4, e5, e6, e7⟩ | exact keep8 hne e0 e1 e2 e3 e4 e5 e6 e7) (fail)
          all_goals go_wp2
          all_goals refine bodyPost_ret (v := .tuple #[.agg #[.int .u64 x3, .int .u64 x2, .int .u64 x1, .int .u64 x0], .bool true]) (by simp [results, Try.results48, go_sem, g0, g1, g2, g3]) rfl ?_
          all_goals exact tell_ok d3 d2 d1 d0 HW2.out HS.out (by first | exact (tell_below HBB.out (Nat.le_succ _)).drew | exact tell_below HBB.out (Nat.le_succ _))
      · obtain rfl : k = 8 := by omega
        have HC := toI_cells hI (Or.inl rfl)
        have HBB : Hid (Below w.heap.size w wr) := HB.out.trans (hI.below.mono HB.out.size)
        obtain ⟨g0, g1, g2, g3, q0, q1, q2, q3⟩ := toI_res hI hz c0 c1 c2 c3 f0 f1 f2 f3
        clear hI c0 c1 c2 c3 f0 f1 f2 f3
        have hne : w.heap.size + 1 ≠ w1.heap.size := by omega
        obtain ⟨y0, hy0⟩ : ∃ y, y = ds.getD 0 0 := ⟨_, rfl⟩
        obtain ⟨y1, hy1⟩ : ∃ y, y = ds.getD 1 0 := ⟨_, rfl⟩
        obtain ⟨y2, hy2⟩ : ∃ y, y = ds.getD 2 0 := ⟨_, rfl⟩
        obtain ⟨y3, hy3⟩ : ∃ y, y = ds.getD 3 0 := ⟨_, rfl⟩
        obtain ⟨y4, hy4⟩ : ∃ y, y = ds.getD 4 0 := ⟨_, rfl⟩
        obtain ⟨y5, hy5⟩ : ∃ y, y = ds.getD 5 0 := ⟨_, rfl⟩
        obtain ⟨y6, hy6⟩ : ∃ y, y = ds.getD 6 0 := ⟨_, rfl⟩
        obtain ⟨y7, hy7⟩ : ∃ y, y = ds.getD 7 0 := ⟨_, rfl⟩
        have e0 := HC 0 (by omega); have e1 := HC 1 (by omega); have e2 := HC 2 (by omega); have e3 := HC 3 (by omega); have e4 := HC 4 (by omega); have e5 := HC 5 (by omega); have e6 := HC 6 (by omega); have e7 := HC 7 (by omega)
        have b0 := dig_getD HD.out 0; have b1 := dig_getD HD.out 1; have b2 := dig_getD HD.out 2; have b3 := dig_getD HD.out 3; have b4 := dig_getD HD.out 4; have b5 := dig_getD HD.out 5; have b6 := dig_getD HD.out 6; have b7 := dig_getD HD.out 7
        have HW := uw_of_digits HD.out HU.out
        rw [← hy0] at e0 b0 HW; rw [← hy1] at e1 b1 HW; rw [← hy2] at e2 b2 HW; rw [← hy3] at e3 b3 HW; rw [← hy4] at e4 b4 HW; rw [← hy5] at e5 b5 HW; rw [← hy6] at e6 b6 HW; rw [← hy7] at e7 b7 HW
        have o0 := or_hi y0 y1 b0 b1; have o1 := or_hi y2 y3 b2 b3; have o2 := or_hi y4 y5 b4 b5; have o3 := or_hi y6 y7 b6 b7
        have d0 := word_of_digits b0 b1; have d1 := word_of_digits b2 b3; have d2 := word_of_digits b4 b5; have d3 := word_of_digits b6 b7
        obtain ⟨x0, hx0⟩ : ∃ x, x = y0 + y1 * 4294967296 := ⟨_, rfl⟩
        obtain ⟨x1, hx1⟩ : ∃ x, x = y2 + y3 * 4294967296 := ⟨_, rfl⟩
        obtain ⟨x2, hx2⟩ : ∃ x, x = y4 + y5 * 4294967296 := ⟨_, rfl⟩
        obtain ⟨x3, hx3⟩ : ∃ x, x = y6 + y7 * 4294967296 := ⟨_, rfl⟩
        rw [← hx0] at o0 d0 HW; rw [← hx1] at o1 d1 HW; rw [← hx2] at o2 d2 HW; rw [← hx3] at o3 d3 HW
        have HW2 : Hid (uw x3 x2 x1 x0 = val ds) := HW
        clear HC HW hx0 hx1 hx2 hx3 hy0 hy1 hy2 hy3 hy4 hy5 hy6 hy7 b0 b1 b2 b3 b4 b5 b6 b7
        go_wp2
        go_region_held3 (fun w' => w'.cell? ⟨w1.heap.size, 0, none⟩ = some (.int .u64 y0) ∧ w'.cell? ⟨w1.heap.size, 1, none⟩ = some (.int .u64 y1) ∧ w'.cell? ⟨w1.heap.size, 2, none⟩ = some (.int .u64 y2) ∧ w'.cell? ⟨w1.heap.size, 3, none⟩ = some (.int .u64 y3) ∧ w'.cell? ⟨w1.heap.size, 4, none⟩ = some (.int .u64 y4) ∧ w'.cell? ⟨w1.heap.size, 5, none⟩ = some (.int .u64 y5) ∧ w'.cell? ⟨w1.heap.size, 6, none⟩ = some (.int .u64 y6) ∧ w'.cell? ⟨w1.heap.size, 7, none⟩ = some (.int .u64 y7)) (first | exact ⟨e0, e1, e2, e3, e4, e5, e6, e7⟩ | exact keep8 hne e0 e1 e2 e3 e4 e5 e6 e7) (fail)
        all_goals go_wp2
        all_goals refine bodyPost_ret (v := .tuple #[.agg #[.int .u64 x3, .int .u64 x2, .int .u64 x1, .int .u64 x0], .bool true]) (by simp [results, Try.results48, go_sem, g0, g1, g2, g3]) rfl ?_
        all_goals exact tell_ok d3 d2 d1 d0 HW2.out HS.out (by first | exact (tell_below HBB.out (Nat.le_succ _)).drew | exact tell_below HBB.out (Nat.le_succ _))
  · have hcmp : 0 < cmpI (z.natAbs : Int) 57896044618658097711785492504343953926634992332820282019728792003956564819968 := by unfold cmpI; rw [if_neg (by omega), if_pos (by omega)]; omega
    generalize cmpI (z.natAbs : Int) 57896044618658097711785492504343953926634992332820282019728792003956564819968 = cc at hcmp ⊢
    have HT : Hid (told z = false) := by show _ = _; unfold told; rw [decide_eq_false_iff_not]; omega
    obtain ⟨c0, c1, c2, c3, f0, f1, f2, f3, hz, hB2⟩ := res4' (R := w.heap.size + 1) (by simp) (hA1.mono (by simp))
    have HB : Hid (Below w.heap.size w wb) := ((Below.refl _ _).alloc (Nat.le_refl _) _).trans (hB2.mono (by simp))
    clear hRd1 hA1 hB2 hL0 hD0 HV0
    go_wp2_with fail
    refine bodyPost_ret (v := .tuple #[.agg #[.int .u64 0, .int .u64 0, .int .u64 0, .int .u64 0], .bool false]) (by simp [results, Try.results48, go_sem, c0, c1, c2, c3]) rfl ?_
    exact ⟨tell_below HB.out (Nat.le_succ _), Or.inr ⟨HT.out, rfl⟩⟩
end Go.Proofs.Ytnnojeggjnddpaa

/- The walks of the sign of four words, by the model and by the program, and of the law over both. -/
namespace Go.Proofs.Ytnnojeggjnddpaa
open Go.RowKit
/-- Four words as a value. -/
def WideP (a3 a2 a1 a0 : Int) (w : World) (e : Ending) (w' : World) : Prop := e = .returned (.agg #[.int .u64 a3, .int .u64 a2, .int .u64 a1, .int .u64 a0]) ∧ Below w.heap.size w w'
def BoolP (b : Bool) (w : World) (e : Ending) (w' : World) : Prop := e = .returned (.bool b) ∧ Below w.heap.size w w'
set_option maxRecDepth 100000 in
set_option maxHeartbeats 400000 in
theorem isBelow_any (a3 a2 a1 a0 : Int) (h3 : Word a3) (b : Bool) (hb : (a3 / 9223372036854775808 == 1) = b) (w : World) :
    Calls Try.prog 46 #[.agg #[.int .u64 a3, .int .u64 a2, .int .u64 a1, .int .u64 a0]] w (BoolP b w) := by
  obtain ⟨l3, u3⟩ := h3
  go_enter Try.func46, Try.ntmps46
  go_wp2
  go_ret
  exact ⟨rfl, (Below.refl _ _).alloc (Nat.le_refl _) _⟩
set_option maxRecDepth 100000 in
set_option maxHeartbeats 400000 in
theorem implSign_any (a3 a2 a1 a0 : Int) (h3 : Word a3) (h2 : Word a2) (h1 : Word a1) (h0 : Word a0) (w : World) :
    Calls Try.prog 34 #[.agg #[.int .u64 a3, .int .u64 a2, .int .u64 a1, .int .u64 a0]] w (IntP (cmpI (sw a3 a2 a1 a0) 0) w) := by
  have hn := sw_neg h3 h2 h1 h0
  by_cases hp : 9223372036854775808 ≤ a3
  · have hb : (a3 / 9223372036854775808 == 1) = true := beq_iff_eq.2 (by have := h3.2; omega)
    go_enter Try.func34, Try.ntmps34
    go_wp2_with fail
    refine (isBelow_any a3 a2 a1 a0 h3 true hb _).mono ?_
    rintro e w1 ⟨rfl, hB⟩
    go_wp2
    go_ret
    exact ⟨ret_int (cmpI_lt (hn.2 hp)), ((Below.refl _ _).alloc (Nat.le_refl _) _).trans (hB.mono (by simp))⟩
  · have hb : (a3 / 9223372036854775808 == 1) = false := beq_eq_false_iff_ne.2 (by have := h3.1; omega)
    go_enter Try.func34, Try.ntmps34
    go_wp2_with fail
    refine (isBelow_any a3 a2 a1 a0 h3 false hb _).mono ?_
    rintro e w1 ⟨rfl, hB⟩
    have HS : Hid (sw a3 a2 a1 a0 = uw a3 a2 a1 a0) := by show _ = _; unfold sw; rw [if_pos (by omega)]
    obtain ⟨hc, _⟩ := bcell hB
    have HB : Hid (Below w.heap.size w w1) := ((Below.refl _ _).alloc (Nat.le_refl _) _).trans (hB.mono (by simp))
    obtain ⟨l3, u3⟩ := h3; obtain ⟨l2, u2⟩ := h2; obtain ⟨l1, u1⟩ := h1; obtain ⟨l0, u0⟩ := h0
    clear hB hn
    go_wp2
    all_goals go_ret
    all_goals (refine ⟨ret_int ?_, HB.out⟩; rw [HS.out]; first | exact cmpI_gt (by unfold uw; omega) | exact cmpI_eq (by unfold uw; omega))
end Go.Proofs.Ytnnojeggjnddpaa

/- The walks of a number of four words made from an integer, by the model and by the program, and of the law over both. -/
namespace Go.Proofs.Ytnnojeggjnddpaa
open Go.RowKit
theorem toW_any (s : Bool) (ao : Option Addr) (n cap : Nat) (ds : List Int) (z : Int) (k : Nat) (w : World) (h : IsNum w s ao n cap ds z k) (hk : k ≤ 1000000) :
    Calls Try.prog 48 #[.agg #[.bool s, .slice ao n cap]] w (TellP z w) := by
  by_cases hz : z < 0
  · have hs : s = true := by rw [h.neg]; simpa using hz
    subst hs
    exact toW_neg ao n cap ds z k w hz h hk
  · have hs : s = false := by rw [h.neg]; simpa using hz
    subst hs
    exact toW_pos ao n cap ds z k w (by omega) h hk
/-- Four words that stand for z. -/
def SwP (z : Int) (w : World) (e : Ending) (w' : World) : Prop :=
  ∃ a3 a2 a1 a0, e = .returned (.agg #[.int .u64 a3, .int .u64 a2, .int .u64 a1, .int .u64 a0]) ∧ Word a3 ∧ Word a2 ∧ Word a1 ∧ Word a0 ∧ sw a3 a2 a1 a0 = z ∧ Below w.heap.size w w'
set_option maxRecDepth 100000 in
set_option maxHeartbeats 1000000 in
theorem specOf_any (n : Int) (w : World) (h0 : -9223372036854775808 ≤ n) (h1 : n ≤ 9223372036854775807) :
    Calls Try.prog 60 #[.int .i64 n] w (SwP n w) := by
  have ht : told n = true := by unfold told; rw [decide_eq_true_iff]; omega
  go_enter Try.func60, Try.ntmps60
  go_wp2_with fail
  refine (int_any n _ h0 h1).mono ?_
  rintro e w1 ⟨s, ao, m, cap, ds, rfl, hN, hB⟩
  go_wp2_with fail
  refine (toW_any s ao m cap ds n 2 _ hN (by omega)).mono ?_
  rintro e w2 ⟨hB2, hT⟩
  rcases hT with ⟨_, a3, a2, a1, a0, rfl, g3, g2, g1, g0, hsw⟩ | ⟨hf, _⟩
  · have hB3 := hB.trans (hB2.mono hB.size)
    obtain ⟨c0, c1, c2, c3, f0, f1, f2, f3, hz, hB4⟩ := res4' (R := w.heap.size) rfl (hB3.mono (by simp))
    have HB : Hid (Below w.heap.size w w2) := hB4
    have HS : Hid (sw a3 a2 a1 a0 = n) := hsw
    clear hB hB2 hB3 hB4 hN hsw
    go_wp2
    refine bodyPost_ret (v := .agg #[.int .u64 a3, .int .u64 a2, .int .u64 a1, .int .u64 a0]) (by simp [results, Try.results60, go_sem, World.cell?_alloc_past, c0, c1, c2, c3, hz]) rfl ?_
    exact ⟨a3, a2, a1, a0, rfl, g3, g2, g1, g0, HS.out, (tell_below HB.out (Nat.le_refl _)).alloc (by simp; omega) _⟩
  · rw [ht] at hf; cases hf
set_option maxRecDepth 100000 in
set_option maxHeartbeats 1000000 in
theorem implOf_any (n : Int) (w : World) (h0 : -9223372036854775808 ≤ n) (h1 : n ≤ 9223372036854775807) :
    Calls Try.prog 95 #[.int .i64 n] w (SwP n w) := by
  by_cases hn : n < 0
  · have hd1 : IntKind.u64.wrap (n / 9223372036854775808) = 18446744073709551615 := by rw [IntKind.wrap_u64]; omega
    have hd2 : IntKind.u64.wrap n = n + 18446744073709551616 := by rw [IntKind.wrap_u64]; omega
    go_enter Try.func95, Try.ntmps95
    go_wp2
    refine bodyPost_ret (v := .agg #[.int .u64 18446744073709551615, .int .u64 18446744073709551615, .int .u64 18446744073709551615, .int .u64 (n + 18446744073709551616)]) (by simp [results, Try.results95, go_sem]) rfl ?_
    refine ⟨_, _, _, _, rfl, ⟨by decide, by decide⟩, ⟨by decide, by decide⟩, ⟨by decide, by decide⟩, ⟨by omega, by omega⟩, ?_, (Below.refl _ _).alloc (Nat.le_refl _) _⟩
    unfold sw uw; rw [if_neg (by decide)]; omega
  · have hd1 : n / 9223372036854775808 = 0 := by omega
    go_enter Try.func95, Try.ntmps95
    go_wp2
    refine bodyPost_ret (v := .agg #[.int .u64 0, .int .u64 0, .int .u64 0, .int .u64 n]) (by simp [results, Try.results95, go_sem]) rfl ?_
    refine ⟨_, _, _, _, rfl, ⟨by decide, by decide⟩, ⟨by decide, by decide⟩, ⟨by decide, by decide⟩, ⟨by omega, by omega⟩, ?_, (Below.refl _ _).alloc (Nat.le_refl _) _⟩
    unfold sw uw; rw [if_pos (by decide)]; omega
end Go.Proofs.Ytnnojeggjnddpaa

/- Blocks of cells in memory, and what leaves them as they are. -/
namespace Go.Proofs.Ytnnojeggjnddpaa
open Go.RowKit
/-- The block g has these values, and may be written. -/
def Blk (W : World) (g : Nat) (vs : List Value) : Prop := g < W.heap.size ∧ ∀ i v, vs[i]? = some v → W.cell? ⟨g, i, none⟩ = some v ∧ W.frozen? ⟨g, i, none⟩ = false
theorem Blk.lt {W : World} {g : Nat} {vs : List Value} (h : Blk W g vs) : g < W.heap.size := h.1
theorem Blk.c {W : World} {g : Nat} {vs : List Value} (h : Blk W g vs) (i : Nat) {v : Value} (hi : vs[i]? = some v) : W.cell? ⟨g, i, none⟩ = some v := (h.2 i v hi).1
theorem Blk.f {W : World} {g : Nat} {vs : List Value} (h : Blk W g vs) (i : Nat) {v : Value} (hi : vs[i]? = some v) : W.frozen? ⟨g, i, none⟩ = false := (h.2 i v hi).2
theorem Blk.cs2 {W : World} {g : Nat} {v0 v1 : Value} {vs : List Value} (h : Blk W g (v0 :: v1 :: vs)) : W.cell? ⟨g, 0, none⟩ = some v0 ∧ W.cell? ⟨g, 1, none⟩ = some v1 := ⟨h.c 0 rfl, h.c 1 rfl⟩
theorem Blk.cf2 {W : World} {g : Nat} {v0 v1 : Value} {vs : List Value} (h : Blk W g (v0 :: v1 :: vs)) : W.cell? ⟨g, 0, none⟩ = some v0 ∧ W.frozen? ⟨g, 0, none⟩ = false ∧ W.cell? ⟨g, 1, none⟩ = some v1 ∧ W.frozen? ⟨g, 1, none⟩ = false := ⟨h.c 0 rfl, h.f 0 rfl, h.c 1 rfl, h.f 1 rfl⟩
theorem Blk.cs4 {W : World} {g : Nat} {v0 v1 v2 v3 : Value} {vs : List Value} (h : Blk W g (v0 :: v1 :: v2 :: v3 :: vs)) : W.cell? ⟨g, 0, none⟩ = some v0 ∧ W.cell? ⟨g, 1, none⟩ = some v1 ∧ W.cell? ⟨g, 2, none⟩ = some v2 ∧ W.cell? ⟨g, 3, none⟩ = some v3 := ⟨h.c 0 rfl, h.c 1 rfl, h.c 2 rfl, h.c 3 rfl⟩
theorem Blk.cf4 {W : World} {g : Nat} {v0 v1 v2 v3 : Value} {vs : List Value} (h : Blk W g (v0 :: v1 :: v2 :: v3 :: vs)) : W.cell? ⟨g, 0, none⟩ = some v0 ∧ W.frozen? ⟨g, 0, none⟩ = false ∧ W.cell? ⟨g, 1, none⟩ = some v1 ∧ W.frozen? ⟨g, 1, none⟩ = false ∧ W.cell? ⟨g, 2, none⟩ = some v2 ∧ W.frozen? ⟨g, 2, none⟩ = false ∧ W.cell? ⟨g, 3, none⟩ = some v3 ∧ W.frozen? ⟨g, 3, none⟩ = false := ⟨h.c 0 rfl, h.f 0 rfl, h.c 1 rfl, h.f 1 rfl, h.c 2 rfl, h.f 2 rfl, h.c 3 rfl, h.f 3 rfl⟩
theorem Blk.cs6 {W : World} {g : Nat} {v0 v1 v2 v3 v4 v5 : Value} {vs : List Value} (h : Blk W g (v0 :: v1 :: v2 :: v3 :: v4 :: v5 :: vs)) : W.cell? ⟨g, 0, none⟩ = some v0 ∧ W.cell? ⟨g, 1, none⟩ = some v1 ∧ W.cell? ⟨g, 2, none⟩ = some v2 ∧ W.cell? ⟨g, 3, none⟩ = some v3 ∧ W.cell? ⟨g, 4, none⟩ = some v4 ∧ W.cell? ⟨g, 5, none⟩ = some v5 := ⟨h.c 0 rfl, h.c 1 rfl, h.c 2 rfl, h.c 3 rfl, h.c 4 rfl, h.c 5 rfl⟩
theorem Blk.cf6 {W : World} {g : Nat} {v0 v1 v2 v3 v4 v5 : Value} {vs : List Value} (h : Blk W g (v0 :: v1 :: v2 :: v3 :: v4 :: v5 :: vs)) : W.cell? ⟨g, 0, none⟩ = some v0 ∧ W.frozen? ⟨g, 0, none⟩ = false ∧ W.cell? ⟨g, 1, none⟩ = some v1 ∧ W.frozen? ⟨g, 1, none⟩ = false ∧ W.cell? ⟨g, 2, none⟩ = some v2 ∧ W.frozen? ⟨g, 2, none⟩ = false ∧ W.cell? ⟨g, 3, none⟩ = some v3 ∧ W.frozen? ⟨g, 3, none⟩ = false ∧ W.cell? ⟨g, 4, none⟩ = some v4 ∧ W.frozen? ⟨g, 4, none⟩ = false ∧ W.cell? ⟨g, 5, none⟩ = some v5 ∧ W.frozen? ⟨g, 5, none⟩ = false := ⟨h.c 0 rfl, h.f 0 rfl, h.c 1 rfl, h.f 1 rfl, h.c 2 rfl, h.f 2 rfl, h.c 3 rfl, h.f 3 rfl, h.c 4 rfl, h.f 4 rfl, h.c 5 rfl, h.f 5 rfl⟩
theorem Blk.cs8 {W : World} {g : Nat} {v0 v1 v2 v3 v4 v5 v6 v7 : Value} {vs : List Value} (h : Blk W g (v0 :: v1 :: v2 :: v3 :: v4 :: v5 :: v6 :: v7 :: vs)) : W.cell? ⟨g, 0, none⟩ = some v0 ∧ W.cell? ⟨g, 1, none⟩ = some v1 ∧ W.cell? ⟨g, 2, none⟩ = some v2 ∧ W.cell? ⟨g, 3, none⟩ = some v3 ∧ W.cell? ⟨g, 4, none⟩ = some v4 ∧ W.cell? ⟨g, 5, none⟩ = some v5 ∧ W.cell? ⟨g, 6, none⟩ = some v6 ∧ W.cell? ⟨g, 7, none⟩ = some v7 := ⟨h.c 0 rfl, h.c 1 rfl, h.c 2 rfl, h.c 3 rfl, h.c 4 rfl, h.c 5 rfl, h.c 6 rfl, h.c 7 rfl⟩
theorem Blk.cf8 {W : World} {g : Nat} {v0 v1 v2 v3 v4 v5 v6 v7 : Value} {vs : List Value} (h : Blk W g (v0 :: v1 :: v2 :: v3 :: v4 :: v5 :: v6 :: v7 :: vs)) : W.cell? ⟨g, 0, none⟩ = some v0 ∧ W.frozen? ⟨g, 0, none⟩ = false ∧ W.cell? ⟨g, 1, none⟩ = some v1 ∧ W.frozen? ⟨g, 1, none⟩ = false ∧ W.cell? ⟨g, 2, none⟩ = some v2 ∧ W.frozen? ⟨g, 2, none⟩ = false ∧ W.cell? ⟨g, 3, none⟩ = some v3 ∧ W.frozen? ⟨g, 3, none⟩ = false ∧ W.cell? ⟨g, 4, none⟩ = some v4 ∧ W.frozen? ⟨g, 4, none⟩ = false ∧ W.cell? ⟨g, 5, none⟩ = some v5 ∧ W.frozen? ⟨g, 5, none⟩ = false ∧ W.cell? ⟨g, 6, none⟩ = some v6 ∧ W.frozen? ⟨g, 6, none⟩ = false ∧ W.cell? ⟨g, 7, none⟩ = some v7 ∧ W.frozen? ⟨g, 7, none⟩ = false := ⟨h.c 0 rfl, h.f 0 rfl, h.c 1 rfl, h.f 1 rfl, h.c 2 rfl, h.f 2 rfl, h.c 3 rfl, h.f 3 rfl, h.c 4 rfl, h.f 4 rfl, h.c 5 rfl, h.f 5 rfl, h.c 6 rfl, h.f 6 rfl, h.c 7 rfl, h.f 7 rfl⟩
theorem Blk.cf9 {W : World} {g : Nat} {v0 v1 v2 v3 v4 v5 v6 v7 v8 : Value} {vs : List Value} (h : Blk W g (v0 :: v1 :: v2 :: v3 :: v4 :: v5 :: v6 :: v7 :: v8 :: vs)) : W.cell? ⟨g, 0, none⟩ = some v0 ∧ W.frozen? ⟨g, 0, none⟩ = false ∧ W.cell? ⟨g, 1, none⟩ = some v1 ∧ W.frozen? ⟨g, 1, none⟩ = false ∧ W.cell? ⟨g, 2, none⟩ = some v2 ∧ W.frozen? ⟨g, 2, none⟩ = false ∧ W.cell? ⟨g, 3, none⟩ = some v3 ∧ W.frozen? ⟨g, 3, none⟩ = false ∧ W.cell? ⟨g, 4, none⟩ = some v4 ∧ W.frozen? ⟨g, 4, none⟩ = false ∧ W.cell? ⟨g, 5, none⟩ = some v5 ∧ W.frozen? ⟨g, 5, none⟩ = false ∧ W.cell? ⟨g, 6, none⟩ = some v6 ∧ W.frozen? ⟨g, 6, none⟩ = false ∧ W.cell? ⟨g, 7, none⟩ = some v7 ∧ W.frozen? ⟨g, 7, none⟩ = false ∧ W.cell? ⟨g, 8, none⟩ = some v8 ∧ W.frozen? ⟨g, 8, none⟩ = false := ⟨h.c 0 rfl, h.f 0 rfl, h.c 1 rfl, h.f 1 rfl, h.c 2 rfl, h.f 2 rfl, h.c 3 rfl, h.f 3 rfl, h.c 4 rfl, h.f 4 rfl, h.c 5 rfl, h.f 5 rfl, h.c 6 rfl, h.f 6 rfl, h.c 7 rfl, h.f 7 rfl, h.c 8 rfl, h.f 8 rfl⟩
theorem Blk.cs12 {W : World} {g : Nat} {v0 v1 v2 v3 v4 v5 v6 v7 v8 v9 v10 v11 : Value} {vs : List Value} (h : Blk W g (v0 :: v1 :: v2 :: v3 :: v4 :: v5 :: v6 :: v7 :: v8 :: v9 :: v10 :: v11 :: vs)) : W.cell? ⟨g, 0, none⟩ = some v0 ∧ W.cell? ⟨g, 1, none⟩ = some v1 ∧ W.cell? ⟨g, 2, none⟩ = some v2 ∧ W.cell? ⟨g, 3, none⟩ = some v3 ∧ W.cell? ⟨g, 4, none⟩ = some v4 ∧ W.cell? ⟨g, 5, none⟩ = some v5 ∧ W.cell? ⟨g, 6, none⟩ = some v6 ∧ W.cell? ⟨g, 7, none⟩ = some v7 ∧ W.cell? ⟨g, 8, none⟩ = some v8 ∧ W.cell? ⟨g, 9, none⟩ = some v9 ∧ W.cell? ⟨g, 10, none⟩ = some v10 ∧ W.cell? ⟨g, 11, none⟩ = some v11 := ⟨h.c 0 rfl, h.c 1 rfl, h.c 2 rfl, h.c 3 rfl, h.c 4 rfl, h.c 5 rfl, h.c 6 rfl, h.c 7 rfl, h.c 8 rfl, h.c 9 rfl, h.c 10 rfl, h.c 11 rfl⟩
theorem Blk.below {W W' : World} {B g : Nat} {vs : List Value} (h : Blk W g vs) (hB : Below B W W') (hg : g < B) : Blk W' g vs :=
  ⟨Nat.lt_of_lt_of_le h.1 hB.size, fun i _ hi => ⟨(hB.cell (p := ⟨g, i, none⟩) hg).trans (h.c i hi), (hB.frozen (p := ⟨g, i, none⟩) hg).trans (h.f i hi)⟩⟩
theorem Blk.step {W W' : World} {g : Nat} {vs : List Value} (h : Blk W g vs) (hB : Below W.heap.size W W') : Blk W' g vs := h.below hB h.1
theorem Blk.alloc {W : World} {g : Nat} {vs : List Value} (h : Blk W g vs) (o : Obj) : Blk (W.alloc o) g vs := h.step ((Below.refl W.heap.size W).alloc (Nat.le_refl _) o)
theorem Blk.drew {W : World} {g : Nat} {vs : List Value} (h : Blk W g vs) : Blk W.drew g vs := h
theorem Blk.new (W : World) (vs : List Value) (t : TypeId) {g : Nat} (hg : g = W.heap.size) : Blk (W.alloc (.cells vs.toArray t)) g vs := by
  subst hg
  refine ⟨by simp, fun i v hi => ⟨?_, by simp [go_sem]⟩⟩
  simp [go_sem, hi]
theorem Blk.setO {W : World} {g : Nat} {vs : List Value} (h : Blk W g vs) {p : Addr} (hne : g ≠ p.block) (u : Value) : Blk (W.setCell p u) g vs := by
  have hh : (W.setCell p u).heap[g]? = W.heap[g]? := Below.heap_setCell _ _ _ _ hne
  refine ⟨by simpa [World.setCell] using h.1, fun i v hi => ⟨?_, ?_⟩⟩
  · have := h.c i hi
    unfold World.cell? at *
    simpa [hh] using this
  · have := h.f i hi
    unfold World.frozen? at *
    simpa [hh] using this
theorem Blk.setI {W : World} {g : Nat} {vs : List Value} (h : Blk W g vs) (j : Nat) (hj : j < vs.length) (u : Value) : Blk (W.setCell ⟨g, j, none⟩ u) g (vs.set j u) := by
  refine ⟨by simpa [World.setCell] using h.1, fun i v hi => ?_⟩
  by_cases e : i = j
  · subst e
    have hv : v = u := by simpa [hj] using hi.symm
    subst hv
    exact ⟨by simp [go_sem, h.c i (List.getElem?_eq_getElem hj)], by simp [go_sem, h.f i (List.getElem?_eq_getElem hj)]⟩
  · have hi' : vs[i]? = some v := by simpa [List.getElem?_set, Ne.symm e] using hi
    exact ⟨(World.cell?_setCell_other _ _ _ _ (by simp)).trans (h.c i hi'), by simp [go_sem, h.f i hi']⟩
/-- The arguments as they lie: block by block from the call's first on. -/
def ArgsB (w W : World) (vss : List (List Value)) : Prop := Below w.heap.size w W ∧ ∀ j vs, vss[j]? = some vs → Blk W (w.heap.size + j) vs
theorem ArgsB.below {w W : World} {vss : List (List Value)} (h : ArgsB w W vss) : Below w.heap.size w W := h.1
theorem ArgsB.b {w W : World} {vss : List (List Value)} (h : ArgsB w W vss) (j : Nat) {vs : List Value} (hj : vss[j]? = some vs) : Blk W (w.heap.size + j) vs := h.2 j vs hj
theorem ArgsB.step {w W W' : World} {vss : List (List Value)} (h : ArgsB w W vss) (hB : Below W.heap.size W W') : ArgsB w W' vss := ⟨h.1.trans (hB.mono h.1.size), fun j vs hj => (h.2 j vs hj).step hB⟩
theorem ArgsB.alloc {w W : World} {vss : List (List Value)} (h : ArgsB w W vss) (o : Obj) : ArgsB w (W.alloc o) vss := h.step ((Below.refl W.heap.size W).alloc (Nat.le_refl _) o)
theorem ArgsB.drew {w W : World} {vss : List (List Value)} (h : ArgsB w W vss) : ArgsB w W.drew vss := ⟨h.1.drew, h.2⟩
theorem ArgsB.set {w W : World} {vss : List (List Value)} (h : ArgsB w W vss) {p : Addr} (hp : w.heap.size + vss.length ≤ p.block) (u : Value) : ArgsB w (W.setCell p u) vss := by
  refine ⟨h.1.setCell (by omega) u, fun j vs hj => (h.2 j vs hj).setO ?_ u⟩
  have : j < vss.length := by
    apply Decidable.byContradiction
    intro hn
    rw [List.getElem?_eq_none (by omega)] at hj
    simp at hj
  omega
/-- What stands behind a law's call: the answer in a block of its own. -/
def CutB (w wx : World) (vss : List (List Value)) (rs : List Value) (p : Value) : Prop :=
  ∃ g, p = .pointer (some ⟨g, 0, none⟩) ∧ w.heap.size + vss.length ≤ g ∧ ArgsB w wx vss ∧ Blk wx g rs
theorem CutB.drew {w wx : World} {vss : List (List Value)} {rs : List Value} {p : Value} (h : CutB w wx vss rs p) : CutB w wx.drew vss rs p := by
  obtain ⟨g, e, l, A, B⟩ := h
  exact ⟨g, e, l, A.drew, B.drew⟩
theorem cutB_new {w wx : World} {vss : List (List Value)} {rs : List Value} {T : TypeId} (h : ArgsB w wx vss) (hl : w.heap.size + vss.length ≤ wx.heap.size) :
    CutB w (wx.alloc (.cells rs.toArray T)) vss rs (.pointer (some ⟨wx.heap.size, 0, none⟩)) := ⟨_, rfl, hl, h.alloc _, Blk.new _ _ _ rfl⟩
theorem Blk.set4 {wx : World} {vs : List Value} {v0 v1 v2 v3 : Value} {g g' : Nat} (G : Blk wx g' vs) (hg : g' ≠ g) :
    Blk ((((wx.setCell ⟨g, 0, none⟩ v0).setCell ⟨g, 1, none⟩ v1).setCell ⟨g, 2, none⟩ v2).setCell ⟨g, 3, none⟩ v3) g' vs :=
  (((G.setO (by exact hg) _).setO (by exact hg) _).setO (by exact hg) _).setO (by exact hg) _
end Go.Proofs.Ytnnojeggjnddpaa

/- Numbers drawn from a code: what the walks of the reader share, and its small ones. -/
namespace Go.Proofs.Ytnnojeggjnddpaa
open Go.RowKit
/-- No other block has turned than g. -/
structure Kept (g : Nat) (w w' : World) : Prop where
  os : w'.os = w.os
  tape : w'.tape = w.tape
  output : w'.output = w.output
  size : w.heap.size ≤ w'.heap.size
  block : ∀ k, k < w.heap.size → k ≠ g → w'.heap[k]? = w.heap[k]?
  other : ∀ j, j ≠ 1 → g < w.heap.size → w'.cell? ⟨g, j, none⟩ = w.cell? ⟨g, j, none⟩
theorem Kept.refl (g : Nat) (w : World) : Kept g w w := ⟨rfl, rfl, rfl, Nat.le_refl _, fun _ _ _ => rfl, fun _ _ _ => rfl⟩
theorem Kept.trans {g : Nat} {a b c : World} (h : Kept g a b) (k : Kept g b c) : Kept g a c :=
  ⟨k.os.trans h.os, k.tape.trans h.tape, k.output.trans h.output, Nat.le_trans h.size k.size, fun i hi hg => (k.block i (Nat.lt_of_lt_of_le hi h.size) hg).trans (h.block i hi hg), fun j hj hl => (k.other j hj (Nat.lt_of_lt_of_le hl h.size)).trans (h.other j hj hl)⟩
theorem Kept.of {g : Nat} {a b : World} (h : Below a.heap.size a b) : Kept g a b := ⟨h.os, h.tape, h.output, h.size, fun i hi _ => h.block i hi, fun j _ hl => h.cell (p := ⟨g, j, none⟩) hl⟩
theorem Kept.drew {g : Nat} {a b : World} (h : Kept g a b) : Kept g a b.drew := ⟨h.os, h.tape, h.output, h.size, h.block, h.other⟩
theorem Kept.drewN {g : Nat} {a b : World} (h : Kept g a b) (n : Nat) : Kept g a (b.drewN n) := ⟨h.os, h.tape, h.output, h.size, h.block, h.other⟩
theorem Kept.set {g : Nat} {a b : World} (h : Kept g a b) (u : Value) : Kept g a (b.setCell ⟨g, 1, none⟩ u) :=
  ⟨h.os, h.tape, h.output, by simpa [World.setCell] using h.size, fun k hk hg => (Below.heap_setCell _ _ _ _ hg).trans (h.block k hk hg), fun j hj hl => (World.cell?_setCell_other _ _ _ _ (by intro e; simp only [Addr.mk.injEq] at e; omega)).trans (h.other j hj hl)⟩
theorem Kept.alloc {g : Nat} {a b : World} (h : Kept g a b) (o : Obj) : Kept g a (b.alloc o) := h.trans (Kept.of ((Below.refl _ _).alloc (Nat.le_refl _) o))
theorem Kept.below {g B : Nat} {a b : World} (h : Kept g a b) (hB : B ≤ g) (hB' : B ≤ a.heap.size) : Below B a b := ⟨h.os, h.tape, h.output, h.size, fun k hk => h.block k (by omega) (by omega)⟩
theorem Blk.kept {W W' : World} {g h : Nat} {vs : List Value} (H : Blk W h vs) (k : Kept g W W') (hne : h ≠ g) : Blk W' h vs := by
  have e := k.block h H.lt hne
  refine ⟨Nat.lt_of_lt_of_le H.lt k.size, fun i v hi => ⟨?_, ?_⟩⟩
  · exact (World.cell?_of_block (w := W) e).trans (H.c i hi)
  · exact (World.frozen?_of_block (w := W) e).trans (H.f i hi)
/-- The reader lies in the block g, and what it reads lies ahead of it. -/
structure Rdr (w : World) (g : Nat) (ao : Option Addr) (n cap : Nat) (cs : List Int) : Prop where
  blk : ∃ p : Nat, p ≤ n ∧ Blk w g [.slice ao n cap, .int .i64 p]
  bytes : ∀ i, (h : i < cs.length) → ∃ b off, ao = some ⟨b, off, none⟩ ∧ b < g ∧ w.cell? ⟨b, off + i, none⟩ = some (.int .u8 cs[i])
  len : cs.length = n
  small : n ≤ 1048576
  byte : ∀ c ∈ cs, 0 ≤ c ∧ c < 256
theorem Rdr.lt {w : World} {g : Nat} {ao : Option Addr} {n cap : Nat} {cs : List Int} (h : Rdr w g ao n cap cs) : g < w.heap.size := by
  obtain ⟨p, _, B⟩ := h.blk
  exact B.lt
theorem Rdr.step {w w' : World} {g : Nat} {ao : Option Addr} {n cap : Nat} {cs : List Int} (h : Rdr w g ao n cap cs) (hB : Below w.heap.size w w') : Rdr w' g ao n cap cs := by
  obtain ⟨p, hp, B⟩ := h.blk
  refine ⟨⟨p, hp, B.step hB⟩, fun i hi => ?_, h.len, h.small, h.byte⟩
  obtain ⟨b, off, e, hb, hc⟩ := h.bytes i hi
  exact ⟨b, off, e, hb, (hB.cell (p := ⟨b, off + i, none⟩) (show b < w.heap.size by have := B.lt; omega)).trans hc⟩
theorem Rdr.alloc {w : World} {g : Nat} {ao : Option Addr} {n cap : Nat} {cs : List Int} (h : Rdr w g ao n cap cs) (o : Obj) : Rdr (w.alloc o) g ao n cap cs := h.step ((Below.refl _ _).alloc (Nat.le_refl _) o)
theorem Rdr.drew {w : World} {g : Nat} {ao : Option Addr} {n cap : Nat} {cs : List Int} (h : Rdr w g ao n cap cs) : Rdr w.drew g ao n cap cs := ⟨h.blk, h.bytes, h.len, h.small, h.byte⟩
theorem Rdr.drewN {w : World} {g : Nat} {ao : Option Addr} {n cap : Nat} {cs : List Int} (h : Rdr w g ao n cap cs) (k : Nat) : Rdr (w.drewN k) g ao n cap cs := ⟨h.blk, h.bytes, h.len, h.small, h.byte⟩
theorem Rdr.put {w : World} {g : Nat} {ao : Option Addr} {n cap : Nat} {cs : List Int} (h : Rdr w g ao n cap cs) (p : Nat) (hp : p ≤ n) : Rdr (w.setCell ⟨g, 1, none⟩ (.int .i64 p)) g ao n cap cs := by
  obtain ⟨q, hq, B⟩ := h.blk
  refine ⟨⟨p, hp, B.setI 1 (by simp) _⟩, fun i hi => ?_, h.len, h.small, h.byte⟩
  obtain ⟨b, off, e, hb, hc⟩ := h.bytes i hi
  exact ⟨b, off, e, hb, (World.cell?_setCell_other _ _ _ _ (by intro e; simp only [Addr.mk.injEq] at e; omega)).trans hc⟩
/-- What a call of the reader's leaves. -/
def RdP (g : Nat) (ao : Option Addr) (n cap : Nat) (cs : List Int) (Q : Value → Prop) (w : World) (e : Ending) (w' : World) : Prop := ∃ v, e = .returned v ∧ Q v ∧ Rdr w' g ao n cap cs ∧ Kept g w w'
def IsIn (a b : Int) (v : Value) : Prop := ∃ x : Int, v = .int .i64 x ∧ a ≤ x ∧ x < b
set_option maxRecDepth 100000 in
set_option maxHeartbeats 1000000 in
theorem next_any (g : Nat) (ao : Option Addr) (n cap : Nat) (cs : List Int) (w : World) (h : Rdr w g ao n cap cs) :
    Calls Try.prog 103 #[.pointer (some ⟨g, 0, none⟩)] w (RdP g ao n cap cs (IsIn 0 256) w) := by
  obtain ⟨p, hp, B⟩ := h.blk
  have b0 := B.c 0 rfl; have b1 := B.c 1 rfl; have f1 := B.f 1 rfl; have bl := B.lt
  by_cases hq : p < n
  · have hpl : p < cs.length := by rw [h.len]; exact hq
    obtain ⟨b, off, rfl, hb, hc⟩ := h.bytes p hpl
    obtain ⟨y0, y1⟩ := h.byte _ (List.getElem_mem hpl)
    have R := fun k => (h.drewN k).put (p + 1) (by omega)
    have hs := h.small
    generalize cs[p] = y at *
    have hne : g ≠ b := by omega
    have i1 : (p : Int) < n := by omega
    clear h B
    go_enter Try.func103, Try.ntmps103
    go_wp2
    go_quiet (fail)
    go_wp2
    go_quiet (fail)
    go_wp2
    go_ret
    exact ⟨_, rfl, ⟨y, rfl, y0, y1⟩, (R _).drewN _, (((Kept.refl _ _).drewN _).set _).drewN _⟩
  · obtain rfl : p = n := by omega
    have hs := h.small
    go_enter Try.func103, Try.ntmps103
    go_wp2
    go_quiet (fail)
    go_wp2
    go_ret
    exact ⟨_, rfl, ⟨0, rfl, by decide, by decide⟩, h.drewN _, (Kept.refl _ _).drewN _⟩
set_option maxRecDepth 100000 in
set_option maxHeartbeats 1000000 in
theorem below_any (m : Int) (h2 : 2 ≤ m) (h256 : m ≤ 256) (g : Nat) (ao : Option Addr) (n cap : Nat) (cs : List Int) (w : World) (h : Rdr w g ao n cap cs) :
    Calls Try.prog 68 #[.pointer (some ⟨g, 0, none⟩), .int .i64 m] w (RdP g ao n cap cs (IsIn 0 m) w) := by
  go_enter Try.func68, Try.ntmps68
  go_wp2_with fail
  all_goals first | (exfalso; omega) | skip
  refine (next_any g ao n cap cs _ h).mono ?_
  rintro e w1 ⟨_, rfl, ⟨x, rfl, x0, x1⟩, R, K⟩
  have hm : m ≠ 0 := by omega
  go_wp2
  go_ret
  exact ⟨_, rfl, ⟨x % m, rfl, Int.emod_nonneg _ hm, Int.emod_lt_of_pos _ (by omega)⟩, R, K⟩
theorem or_word {a b : Int} (ha : Word a) (hb : Word b) : Word (bits .or .u64 a b) := by
  obtain ⟨a0, a1⟩ := ha
  obtain ⟨b0, b1⟩ := hb
  obtain ⟨a, rfl⟩ := Int.eq_ofNat_of_zero_le a0
  obtain ⟨b, rfl⟩ := Int.eq_ofNat_of_zero_le b0
  rw [bits_or_u64_nat a b (by omega) (by omega)]
  have := Nat.or_lt_two_pow (n := 64) (x := a) (y := b) (by omega) (by omega)
  exact ⟨by omega, by omega⟩
def IsWord (v : Value) : Prop := ∃ x : Int, v = .int .u64 x ∧ Word x
def IsBool (v : Value) : Prop := ∃ b, v = .bool b
set_option maxRecDepth 100000 in
set_option maxHeartbeats 1000000 in
theorem once_any (m : Int) (h2 : 2 ≤ m) (h256 : m ≤ 256) (g : Nat) (ao : Option Addr) (n cap : Nat) (cs : List Int) (w : World) (h : Rdr w g ao n cap cs) :
    Calls Try.prog 100 #[.pointer (some ⟨g, 0, none⟩), .int .i64 m] w (RdP g ao n cap cs IsBool w) := by
  go_enter Try.func100, Try.ntmps100
  go_wp2_with fail
  refine (below_any m h2 h256 g ao n cap cs _ h).mono ?_
  rintro e w1 ⟨_, rfl, ⟨x, rfl, x0, x1⟩, R, K⟩
  go_wp2
  go_ret
  exact ⟨_, rfl, ⟨_, rfl⟩, R, K⟩
set_option maxRecDepth 100000 in
set_option maxHeartbeats 1000000 in
theorem word_any (g : Nat) (ao : Option Addr) (n cap : Nat) (cs : List Int) (w : World) (h : Rdr w g ao n cap cs) :
    Calls Try.prog 101 #[.pointer (some ⟨g, 0, none⟩)] w (RdP g ao n cap cs IsWord w) := by
  go_enter Try.func101, Try.ntmps101
  go_wp2
  go_loopw [3, 4] (fun o i wr => ∃ (k : Nat) (x : Int), k ≤ 8 ∧ i = .int .i64 k ∧ o = .int .u64 x ∧ Word x ∧ Rdr wr g ao n cap cs ∧ Kept g w wr) (fun _ i _ => 8 - (intOf i).toNat)
  case atStart => exact ⟨0, 0, by omega, rfl, rfl, ⟨by decide, by decide⟩, h, Kept.refl _ _⟩
  case round =>
    clear h
    obtain ⟨k, x, hk, rfl, rfl, hx, R, K⟩ := hrel
    by_cases hk8 : k < 8
    · have i1 : (k : Int) < 8 := by omega
      go_wp2_with fail
      refine (next_any g ao n cap cs _ R).mono ?_
      rintro e w1 ⟨_, rfl, ⟨y, rfl, y0, y1⟩, R1, K1⟩
      replace K := K.trans K1
      clear R K1
      have hy : IntKind.u64.wrap y = y := by rw [IntKind.wrap_u64]; omega
      have OW := or_word (a := IntKind.u64.wrap (x * 256)) (b := y) (by rw [IntKind.wrap_u64]; exact ⟨by omega, by omega⟩) ⟨y0, by omega⟩
      clear hx
      go_wp2
      go_roundw
      case rel => exact ⟨k + 1, _, by omega, by go_num, rfl, OW, R1, K⟩
      case measure => simp [intOf]; omega
    · obtain rfl : k = 8 := by omega
      go_wp2
      go_ret
      exact ⟨_, rfl, ⟨x, rfl, hx⟩, R, K⟩
theorem Rd.kept {w w' : World} {g : Nat} {ao bo : Option Addr} {n cap : Nat} {cs ds : List Int} (h : Rd w bo ds) (R : Rdr w g ao n cap cs) (K : Kept g w w') : Rd w' bo ds := by
  intro i hi
  obtain ⟨b, off, e, hb, hc⟩ := h i hi
  refine ⟨b, off, e, Nat.lt_of_lt_of_le hb K.size, ?_⟩
  by_cases hg : b = g
  · subst hg
    by_cases h1 : off + i = 1
    · exfalso
      obtain ⟨p, _, B⟩ := R.blk
      have := B.c 1 rfl
      rw [h1, this] at hc
      cases hc
    · exact (K.other _ h1 hb).trans hc
  · exact (World.cell?_of_block (w := w) (K.block b hb hg)).trans hc
theorem IsNum.kept {w w' : World} {g : Nat} {ao bo : Option Addr} {n cap m c : Nat} {cs ds : List Int} {s : Bool} {z : Int} {k : Nat} (h : IsNum w s bo m c ds z k) (R : Rdr w g ao n cap cs) (K : Kept g w w') : IsNum w' s bo m c ds z k :=
  ⟨h.neg, h.len, h.cap, h.rd.kept R K, h.nrm, h.val, h.le⟩
set_option maxRecDepth 100000 in
set_option maxHeartbeats 1000000 in
theorem near_any (g : Nat) (ao : Option Addr) (n cap : Nat) (cs : List Int) (w : World) (h : Rdr w g ao n cap cs) :
    Calls Try.prog 102 #[.pointer (some ⟨g, 0, none⟩), .int .i64 (-60), .int .i64 60] w (RdP g ao n cap cs (IsIn (-60) 61) w) := by
  go_enter Try.func102, Try.ntmps102
  go_wp2_with fail
  refine (below_any 8 (by decide) (by decide) g ao n cap cs _ h).mono ?_
  rintro e w1 ⟨_, rfl, ⟨x, rfl, x0, x1⟩, R, K⟩
  clear h
  by_cases h0 : x = 0
  · subst h0
    go_wp2
    go_ret
    exact ⟨_, rfl, ⟨_, rfl, by decide, by decide⟩, R, K⟩
  · by_cases h1 : x = 1
    · subst h1
      go_wp2
      go_ret
      exact ⟨_, rfl, ⟨_, rfl, by decide, by decide⟩, R, K⟩
    · have e0 : (x == 0) = false := by simpa using h0
      have e1 : (x == 1) = false := by simpa using h1
      go_wp2_with fail
      refine (word_any g ao n cap cs _ R).mono ?_
      rintro e w2 ⟨_, rfl, ⟨y, rfl, y0, y1⟩, R2, K2⟩
      replace K := K.trans K2
      clear R K2
      have hw : IntKind.u64.wrap 121 = 121 := by rw [IntKind.wrap_u64]; decide
      go_wp2
      go_ret
      exact ⟨_, rfl, ⟨_, rfl, by omega, by omega⟩, R2, K⟩
end Go.Proofs.Ytnnojeggjnddpaa

/- The walk of the sum of digits. -/
namespace Go.Proofs.Ytnnojeggjnddpaa
open Go.RowKit
structure AddI (w wr : World) (xs ys : List Int) (k c : Nat) (cv : Int) (zs : List Int) : Prop where
  len : zs.length = k
  dig : Dig zs
  eq : val zs + cv * pw k = val (xs.take k) + val (ys.take k)
  own : wr.ownsRow w.heap.size 112 1 (.slice (some ⟨w.heap.size, 0, none⟩) k c) k (zs.map (Value.int .u32))
  below : Below w.heap.size w wr
theorem add_eq (xs ys zs : List Int) (k : Nat) (hl : zs.length = k) (cv x : Int) (eq : val zs + cv * pw k = val (xs.take k) + val (ys.take k)) (hx : x = cv + xs.getD k 0 + ys.getD k 0) :
    val (zs ++ [x % 4294967296]) + x / 4294967296 * pw (k + 1) = val (xs.take (k + 1)) + val (ys.take (k + 1)) := by
  rw [val_snoc, hl, val_take_getD, val_take_getD, pw]
  have e1 : pw k * (x % 4294967296) + x / 4294967296 * (4294967296 * pw k) = pw k * x := by
    have : x = x % 4294967296 + 4294967296 * (x / 4294967296) := by omega
    generalize x / 4294967296 = q at *
    generalize x % 4294967296 = r at *
    subst this
    grind
  have e2 : pw k * x = cv * pw k + pw k * xs.getD k 0 + pw k * ys.getD k 0 := by rw [hx]; grind
  omega
theorem add_step {w wr w2 : World} {xs ys : List Int} {k c : Nat} {cv : Int} {zs : List Int} (hI : AddI w wr xs ys k c cv zs) (x : Int) (hx : x = cv + xs.getD k 0 + ys.getD k 0) {o : Obj}
    (hown : w2.ownsRow w.heap.size 112 1 (.slice (some ⟨w.heap.size, 0, none⟩) (k + 1) c) (k + 1) (zs.map (Value.int .u32) ++ [.int .u32 (x % 4294967296)]))
    (hgrow : (wr.alloc o).grownBy w2 (some w.heap.size)) : AddI w w2 xs ys (k + 1) c (x / 4294967296) (zs ++ [x % 4294967296]) := by
  refine ⟨by simp [hI.len], dig_append.2 ⟨hI.dig, dig_cons.2 ⟨⟨by omega, by omega⟩, dig_nil⟩⟩, add_eq xs ys zs k hI.len cv x hI.eq hx, by simpa using hown, ?_⟩
  have hs := hI.below.size
  refine (hI.below.alloc hs o).grown hgrow (by simp; omega) ?_
  intro j hj
  cases hj
  exact Nat.le_refl _
/-- A slice of at most so many digits that stand for the number z. -/
def DigleP (k : Nat) (z : Int) (w : World) (e : Ending) (w' : World) : Prop :=
  ∃ (ao : Option Addr) (n cap : Nat) (zs : List Int), e = .returned (.slice ao n cap) ∧ zs.length = n ∧ n ≤ cap ∧ n ≤ k ∧ Dig zs ∧ val zs = z ∧ Rd w' ao zs ∧ Below w.heap.size w w'
theorem add_done {w wr : World} {n : Nat} {xs ys : List Int} {zs : List Int} (hI : AddI w wr xs ys n (n + 1) 0 zs) (hx : xs.length = n) (hy : ys.length ≤ n) :
    DigleP (n + 1) (val xs + val ys) w (.returned (.slice (some ⟨w.heap.size, 0, none⟩) n (n + 1))) wr := by
  refine ⟨_, n, n + 1, zs, rfl, hI.len, by omega, by omega, hI.dig, ?_, Rd.own hI.own hI.len, hI.below⟩
  have := hI.eq
  rw [val_take_all xs n (by omega), val_take_all ys n hy] at this
  simpa using this
theorem add_done1 {w wr w2 : World} {n : Nat} {xs ys : List Int} {cv : Int} {zs : List Int} (hI : AddI w wr xs ys n (n + 1) cv zs) (h0 : 0 ≤ cv) (h1 : cv < 4294967296) (hx : xs.length = n) (hy : ys.length ≤ n) {o : Obj}
    (hown : w2.ownsRow w.heap.size 112 1 (.slice (some ⟨w.heap.size, 0, none⟩) (n + 1) (n + 1)) (n + 1) (zs.map (Value.int .u32) ++ [.int .u32 cv])) (hgrow : (wr.alloc o).grownBy w2 (some w.heap.size)) :
    DigleP (n + 1) (val xs + val ys) w (.returned (.slice (some ⟨w.heap.size, 0, none⟩) (n + 1) (n + 1))) w2 := by
  have hl : (zs ++ [cv]).length = n + 1 := by simp [hI.len]
  refine ⟨_, n + 1, n + 1, zs ++ [cv], rfl, hl, Nat.le_refl _, Nat.le_refl _, dig_append.2 ⟨hI.dig, dig_cons.2 ⟨⟨h0, h1⟩, dig_nil⟩⟩, ?_, Rd.own (by simpa using hown) hl, ?_⟩
  · have := hI.eq
    rw [val_take_all xs n (by omega), val_take_all ys n hy] at this
    rw [val_snoc, hI.len, Int.mul_comm, this]
  · have hs := hI.below.size
    refine (hI.below.alloc hs o).grown hgrow (by simp; omega) ?_
    intro j hj
    cases hj
    exact Nat.le_refl _
set_option maxRecDepth 100000 in
set_option maxHeartbeats 1000000 in
/-- The first one is not the shorter. -/
theorem addAbs_ge (ao bo : Option Addr) (n m ca cb : Nat) (xs ys : List Int) (w : World) (hx : xs.length = n) (hy : ys.length = m) (dx : Dig xs) (dy : Dig ys) (rx : Rd w ao xs) (ry : Rd w bo ys) (hm : n ≤ 1000000) (hnm : m ≤ n) :
    Calls Try.prog 111 #[.slice ao n ca, .slice bo m cb] w (DigleP (n + 1) (val xs + val ys) w) := by
  obtain ⟨i0, hi, hz0, hz1, hz2⟩ := info_parts Try.info88
  have HX : Hid (xs.length = n) := hx
  have HY : Hid (ys.length = m) := hy
  have HDX : Hid (Dig xs) := dx
  have HDY : Hid (Dig ys) := dy
  have HRX : Hid (Rd w ao xs) := rx
  have HRY : Hid (Rd w bo ys) := ry
  have hnm' : ¬ n < m := by omega
  clear rx ry dx dy hx hy
  go_enter Try.func111, Try.ntmps111
  go_wp2_with (at_make; refine wpList_make_own _ rfl _ _ 64 rfl w.heap.size 112 i0 (.int .u32 0) 1 Try.underlying64 hi hz0 hz1 _ _ _ (n + 1) rfl rfl (by omega) (by rw [hz2]; omega) (by unfold maxLen; omega) (Nat.le_refl _) ?_)
  intro w1 hown hgrow
  have HS : AddI w w1 xs ys 0 (n + 1) 0 [] := ⟨rfl, dig_nil, by simp [val], hown, (Below.refl _ _).grown hgrow (Nat.le_refl _) (by simp)⟩
  clear hown hgrow
  go_wp2
  go_loopw [5, 6, 7] (fun o c i wr => ∃ (k : Nat) (cv : Int) (zs : List Int), k ≤ n ∧ i = .int .i64 k ∧ 0 ≤ cv ∧ cv ≤ 1 ∧ c = .int .u64 cv ∧ o = .slice (some ⟨w.heap.size, 0, none⟩) k (n + 1) ∧ AddI w wr xs ys k (n + 1) cv zs) (fun _ _ i _ => n - (intOf i).toNat)
  case atStart => exact ⟨0, 0, [], Nat.zero_le _, rfl, by decide, by decide, rfl, rfl, HS⟩
  case round =>
    obtain ⟨k, cv, zs, hk, rfl, hc0, hc1, rfl, rfl, hI⟩ := hrel
    clear HS
    by_cases hkn : k < n
    · have hkx : k < xs.length := by have := HX.out; omega
      obtain ⟨b, off, rfl, hbl, hcx0⟩ := HRX.out k hkx
      have hcx := (hI.below.cell (p := ⟨b, off + k, none⟩) hbl).trans hcx0
      clear hcx0
      obtain ⟨hx0, hx1⟩ := dig_at HDX.out k hkx
      by_cases hkm : k < m
      · have hky : k < ys.length := by have := HY.out; omega
        obtain ⟨b', off', rfl, hbl', hcy0⟩ := HRY.out k hky
        have hcy := (hI.below.cell (p := ⟨b', off' + k, none⟩) hbl').trans hcy0
        clear hcy0
        obtain ⟨hy0, hy1⟩ := dig_at HDY.out k hky
        go_wp2_with (at_builtin; refine wpList_append_fits _ rfl _ _ 64 rfl w.heap.size 112 i0 1 Try.underlying64 hi hz1 w.heap.size k (n + 1) _ rfl (hI.own.alloc _) ⟨wr.heap.size, 0, none⟩ 1 1 [.int .u32 ((cv + xs[k] + ys[k]) % 4294967296)] rfl rfl (cell_one_new _ _ _) (one_cell _ _) (by omega) ?_)
        intro w2 hown2 hgrow2
        go_wp2
        go_roundw
        case rel => exact ⟨k + 1, (cv + xs[k] + ys[k]) / 4294967296, _, by omega, by go_num, by omega, by omega, rfl, rfl, add_step hI _ (by simp [List.getD, hkx, hky]) hown2 hgrow2⟩
        case measure => simp [intOf]; omega
      · have hky : ¬ k < ys.length := by have := HY.out; omega
        go_wp2_with (at_builtin; refine wpList_append_fits _ rfl _ _ 64 rfl w.heap.size 112 i0 1 Try.underlying64 hi hz1 w.heap.size k (n + 1) _ rfl (hI.own.alloc _) ⟨wr.heap.size, 0, none⟩ 1 1 [.int .u32 ((cv + xs[k]) % 4294967296)] rfl rfl (cell_one_new _ _ _) (one_cell _ _) (by omega) ?_)
        intro w2 hown2 hgrow2
        go_wp2
        go_roundw
        case rel => exact ⟨k + 1, (cv + xs[k]) / 4294967296, _, by omega, by go_num, by omega, by omega, rfl, rfl, add_step hI _ (by simp [List.getD, hkx, hky]) hown2 hgrow2⟩
        case measure => simp [intOf]; omega
    · obtain rfl : k = n := by omega
      by_cases hcp : 0 < cv
      · obtain rfl : cv = 1 := by omega
        go_wp2_with (at_builtin; refine wpList_append_fits _ rfl _ _ 64 rfl w.heap.size 112 i0 1 Try.underlying64 hi hz1 w.heap.size k (k + 1) _ rfl (hI.own.alloc _) ⟨wr.heap.size, 0, none⟩ 1 1 [.int .u32 1] rfl rfl (cell_one_new _ _ _) (one_cell _ _) (by omega) ?_)
        intro w2 hown2 hgrow2
        go_wp2
        go_ret
        exact add_done1 hI (by omega) (by omega) HX.out (by have := HY.out; omega) hown2 hgrow2
      · obtain rfl : cv = 0 := by omega
        go_wp2
        go_ret
        exact add_done hI HX.out (by have := HY.out; omega)
set_option maxRecDepth 100000 in
set_option maxHeartbeats 1000000 in
/-- The first one is the shorter. -/
theorem addAbs_lt (ao bo : Option Addr) (n m ca cb : Nat) (xs ys : List Int) (w : World) (hx : xs.length = n) (hy : ys.length = m) (dx : Dig xs) (dy : Dig ys) (rx : Rd w ao xs) (ry : Rd w bo ys) (hm : n ≤ 1000000) (hnm : m < n) :
    Calls Try.prog 111 #[.slice bo m cb, .slice ao n ca] w (DigleP (n + 1) (val xs + val ys) w) := by
  obtain ⟨i0, hi, hz0, hz1, hz2⟩ := info_parts Try.info88
  have HX : Hid (xs.length = n) := hx
  have HY : Hid (ys.length = m) := hy
  have HDX : Hid (Dig xs) := dx
  have HDY : Hid (Dig ys) := dy
  have HRX : Hid (Rd w ao xs) := rx
  have HRY : Hid (Rd w bo ys) := ry
  clear rx ry dx dy hx hy
  go_enter Try.func111, Try.ntmps111
  go_wp2_with (at_make; refine wpList_make_own _ rfl _ _ 64 rfl w.heap.size 112 i0 (.int .u32 0) 1 Try.underlying64 hi hz0 hz1 _ _ _ (n + 1) rfl rfl (by omega) (by rw [hz2]; omega) (by unfold maxLen; omega) (Nat.le_refl _) ?_)
  intro w1 hown hgrow
  have HS : AddI w w1 xs ys 0 (n + 1) 0 [] := ⟨rfl, dig_nil, by simp [val], hown, (Below.refl _ _).grown hgrow (Nat.le_refl _) (by simp)⟩
  clear hown hgrow
  go_wp2
  go_loopw [5, 6, 7] (fun o c i wr => ∃ (k : Nat) (cv : Int) (zs : List Int), k ≤ n ∧ i = .int .i64 k ∧ 0 ≤ cv ∧ cv ≤ 1 ∧ c = .int .u64 cv ∧ o = .slice (some ⟨w.heap.size, 0, none⟩) k (n + 1) ∧ AddI w wr xs ys k (n + 1) cv zs) (fun _ _ i _ => n - (intOf i).toNat)
  case atStart => exact ⟨0, 0, [], Nat.zero_le _, rfl, by decide, by decide, rfl, rfl, HS⟩
  case round =>
    obtain ⟨k, cv, zs, hk, rfl, hc0, hc1, rfl, rfl, hI⟩ := hrel
    clear HS
    by_cases hkn : k < n
    · have hkx : k < xs.length := by have := HX.out; omega
      obtain ⟨b, off, rfl, hbl, hcx0⟩ := HRX.out k hkx
      have hcx := (hI.below.cell (p := ⟨b, off + k, none⟩) hbl).trans hcx0
      clear hcx0
      obtain ⟨hx0, hx1⟩ := dig_at HDX.out k hkx
      by_cases hkm : k < m
      · have hky : k < ys.length := by have := HY.out; omega
        obtain ⟨b', off', rfl, hbl', hcy0⟩ := HRY.out k hky
        have hcy := (hI.below.cell (p := ⟨b', off' + k, none⟩) hbl').trans hcy0
        clear hcy0
        obtain ⟨hy0, hy1⟩ := dig_at HDY.out k hky
        go_wp2_with (at_builtin; refine wpList_append_fits _ rfl _ _ 64 rfl w.heap.size 112 i0 1 Try.underlying64 hi hz1 w.heap.size k (n + 1) _ rfl (hI.own.alloc _) ⟨wr.heap.size, 0, none⟩ 1 1 [.int .u32 ((cv + xs[k] + ys[k]) % 4294967296)] rfl rfl (cell_one_new _ _ _) (one_cell _ _) (by omega) ?_)
        intro w2 hown2 hgrow2
        go_wp2
        go_roundw
        case rel => exact ⟨k + 1, (cv + xs[k] + ys[k]) / 4294967296, _, by omega, by go_num, by omega, by omega, rfl, rfl, add_step hI _ (by simp [List.getD, hkx, hky]) hown2 hgrow2⟩
        case measure => simp [intOf]; omega
      · have hky : ¬ k < ys.length := by have := HY.out; omega
        go_wp2_with (at_builtin; refine wpList_append_fits _ rfl _ _ 64 rfl w.heap.size 112 i0 1 Try.underlying64 hi hz1 w.heap.size k (n + 1) _ rfl (hI.own.alloc _) ⟨wr.heap.size, 0, none⟩ 1 1 [.int .u32 ((cv + xs[k]) % 4294967296)] rfl rfl (cell_one_new _ _ _) (one_cell _ _) (by omega) ?_)
        intro w2 hown2 hgrow2
        go_wp2
        go_roundw
        case rel => exact ⟨k + 1, (cv + xs[k]) / 4294967296, _, by omega, by go_num, by omega, by omega, rfl, rfl, add_step hI _ (by simp [List.getD, hkx, hky]) hown2 hgrow2⟩
        case measure => simp [intOf]; omega
    · obtain rfl : k = n := by omega
      by_cases hcp : 0 < cv
      · obtain rfl : cv = 1 := by omega
        go_wp2_with (at_builtin; refine wpList_append_fits _ rfl _ _ 64 rfl w.heap.size 112 i0 1 Try.underlying64 hi hz1 w.heap.size k (k + 1) _ rfl (hI.own.alloc _) ⟨wr.heap.size, 0, none⟩ 1 1 [.int .u32 1] rfl rfl (cell_one_new _ _ _) (one_cell _ _) (by omega) ?_)
        intro w2 hown2 hgrow2
        go_wp2
        go_ret
        exact add_done1 hI (by omega) (by omega) HX.out (by have := HY.out; omega) hown2 hgrow2
      · obtain rfl : cv = 0 := by omega
        go_wp2
        go_ret
        exact add_done hI HX.out (by have := HY.out; omega)
theorem addAbs_any (ao bo : Option Addr) (n m ca cb k : Nat) (xs ys : List Int) (w : World) (hx : xs.length = n) (hy : ys.length = m) (dx : Dig xs) (dy : Dig ys) (rx : Rd w ao xs) (ry : Rd w bo ys) (h1 : n ≤ k) (h2 : m ≤ k) (hk : k ≤ 1000000) :
    Calls Try.prog 111 #[.slice ao n ca, .slice bo m cb] w (DigleP (k + 1) (val xs + val ys) w) := by
  by_cases hnm : m ≤ n
  · refine (addAbs_ge ao bo n m ca cb xs ys w hx hy dx dy rx ry (by omega) hnm).mono ?_
    rintro e w' ⟨a, l, c, zs, he, g1, g2, g3, g⟩
    exact ⟨a, l, c, zs, he, g1, g2, by omega, g⟩
  · refine (addAbs_lt bo ao m n cb ca ys xs w hy hx dy dx ry rx (by omega) (by omega)).mono ?_
    rintro e w' ⟨a, l, c, zs, he, g1, g2, g3, g4, g5, g6, g7⟩
    exact ⟨a, l, c, zs, he, g1, g2, by omega, g4, by rw [g5, Int.add_comm], g6, g7⟩
end Go.Proofs.Ytnnojeggjnddpaa

/- The walks of negation, sum, difference and comparison of numbers. -/
namespace Go.Proofs.Ytnnojeggjnddpaa
open Go.RowKit
/-- What is kept of two boxed numbers and of the result's cell. -/
structure Two (w W : World) (A0 A1 B0 B1 : Value) : Prop where
  a0 : W.cell? ⟨w.heap.size, 0, none⟩ = some A0
  a1 : W.cell? ⟨w.heap.size, 1, none⟩ = some A1
  b0 : W.cell? ⟨w.heap.size + 1, 0, none⟩ = some B0
  b1 : W.cell? ⟨w.heap.size + 1, 1, none⟩ = some B1
  r0 : W.cell? ⟨w.heap.size + 1 + 1, 0, none⟩ = some (.bool false)
  r1 : W.cell? ⟨w.heap.size + 1 + 1, 1, none⟩ = some (.slice none 0 0)
  f0 : W.frozen? ⟨w.heap.size + 1 + 1, 0, none⟩ = false
  f1 : W.frozen? ⟨w.heap.size + 1 + 1, 1, none⟩ = false
  sz : w.heap.size + 1 + 1 < W.heap.size
  below : Below w.heap.size w W
theorem two_start (w : World) (A0 A1 B0 B1 : Value) : Two w (((w.alloc (Obj.cells #[A0, A1] 66)).alloc (Obj.cells #[B0, B1] 66)).alloc (Obj.cells #[Value.bool false, Value.slice none 0 0] 66)) A0 A1 B0 B1 :=
  ⟨by simp [go_sem], by simp [go_sem], by simp [go_sem], by simp [go_sem], by simp [go_sem], by simp [go_sem], by simp [go_sem], by simp [go_sem], by simp, (((Below.refl _ _).alloc (Nat.le_refl _) _).alloc (by simp) _).alloc (by simp; omega) _⟩
theorem Two.step {w W W' : World} {A0 A1 B0 B1 : Value} (h : Two w W A0 A1 B0 B1) (hb : Below W.heap.size W W') : Two w W' A0 A1 B0 B1 := by
  have hs := h.sz
  have hc := fun b o (hl : b < W.heap.size) => hb.cell (p := ⟨b, o, none⟩) hl
  have hf := fun b o (hl : b < W.heap.size) => hb.frozen (p := ⟨b, o, none⟩) hl
  exact ⟨(hc _ _ (by omega)).trans h.a0, (hc _ _ (by omega)).trans h.a1, (hc _ _ (by omega)).trans h.b0, (hc _ _ (by omega)).trans h.b1, (hc _ _ hs).trans h.r0, (hc _ _ hs).trans h.r1, (hf _ _ hs).trans h.f0, (hf _ _ hs).trans h.f1,
    Nat.lt_of_lt_of_le hs hb.size, h.below.trans (hb.mono h.below.size)⟩
theorem Two.drew {w W : World} {A0 A1 B0 B1 : Value} (h : Two w W A0 A1 B0 B1) : Two w W.drew A0 A1 B0 B1 := ⟨h.a0, h.a1, h.b0, h.b1, h.r0, h.r1, h.f0, h.f1, h.sz, h.below.drew⟩
theorem two_keep {w W : World} {u v : Value} (a o : Nat) {c : Value} (ha : a ≠ w.heap.size + 1 + 1) (hc : W.cell? ⟨a, o, none⟩ = some c) :
    ((W.setCell ⟨w.heap.size + 1 + 1, 0, none⟩ u).setCell ⟨w.heap.size + 1 + 1, 1, none⟩ v).cell? ⟨a, o, none⟩ = some c := by
  have hn : ∀ j, (⟨w.heap.size + 1 + 1, j, none⟩ : Addr) ≠ ⟨a, o, none⟩ := by intro j e; simp only [Addr.mk.injEq] at e; exact ha e.1.symm
  rw [World.cell?_setCell_other _ _ _ _ (hn 1), World.cell?_setCell_other _ _ _ _ (hn 0)]
  exact hc
theorem abs_add {x y : Int} (h : decide (x < 0) = decide (y < 0)) : ((x.natAbs : Int) + y.natAbs) = ((x + y).natAbs : Int) := by
  have : (x < 0) ↔ (y < 0) := by simpa using h
  omega
theorem sign_add {x y : Int} {s : Bool} (h1 : s = decide (x < 0)) (h : decide (x < 0) = decide (y < 0)) : x + y ≠ 0 → s = decide (x + y < 0) := by
  intro hz
  rw [h1]
  have : (x < 0) ↔ (y < 0) := by simpa using h
  rw [decide_eq_decide]; omega
theorem abs_sub {x y : Int} {s t : Bool} (hs : s = decide (x < 0)) (ht : t = decide (y < 0)) (hne : s ≠ t) (h : (y.natAbs : Int) ≤ x.natAbs) : ((x.natAbs : Int) - y.natAbs) = ((x + y).natAbs : Int) ∧ (x + y ≠ 0 → s = decide (x + y < 0)) := by
  have : ¬ ((x < 0) ↔ (y < 0)) := by intro h'; apply hne; rw [hs, ht, decide_eq_decide]; exact h'
  constructor
  · omega
  · intro hz; rw [hs, decide_eq_decide]; omega
theorem num_ret' {w w3 : World} {s : Bool} {ao : Option Addr} {n cap : Nat} {ds : List Int} {z : Int} {k R : Nat} {b0 : Bool} {a0 : Option Addr} {n0 c0 : Nat} (hR : w.heap.size ≤ R) (h0 : w3.cell? ⟨R, 0, none⟩ = some (.bool b0)) (h1 : w3.cell? ⟨R, 1, none⟩ = some (.slice a0 n0 c0))
    (h : IsNum w3 s ao n cap ds z k) (hb : Below w.heap.size w w3) {w4 : World} (hw : w4 = ((w3.setCell ⟨R, 0, none⟩ (.bool s)).setCell ⟨R, 1, none⟩ (.slice ao n cap)).drew ∨ w4 = (w3.setCell ⟨R, 0, none⟩ (.bool s)).setCell ⟨R, 1, none⟩ (.slice ao n cap) := by first | exact Or.inl rfl | exact Or.inr rfl) :
    NumP k z w (.returned (.agg #[.bool s, .slice ao n cap])) w4 := by
  obtain ⟨s', ao', n', cap', ds', e, hN, hB⟩ := num_ret hR h0 h1 h hb
  rcases hw with rfl | rfl
  · exact ⟨s', ao', n', cap', ds', e, ⟨hN.neg, hN.len, hN.cap, hN.rd, hN.nrm, hN.val, hN.le⟩, hB.drew⟩
  · exact ⟨s', ao', n', cap', ds', e, hN, hB⟩
def Nn (z : Int) : Prop := 0 ≤ z
def Ng (z : Int) : Prop := z < 0
set_option maxRecDepth 100000 in
set_option maxHeartbeats 1000000 in
theorem add_same (s : Bool) (ao bo : Option Addr) (n m ca cb k : Nat) (xs ys : List Int) (x y : Int) (w : World) (hx : IsNum w s ao n ca xs x k) (hy : IsNum w s bo m cb ys y k) (hk : k ≤ 1000000) :
    Calls Try.prog 81 #[.agg #[.bool s, .slice ao n ca], .agg #[.bool s, .slice bo m cb]] w (NumP (k + 1) (x + y) w) := by
  have hss : (s == s) = true := by simp
  have hsg : decide (x < 0) = decide (y < 0) := hx.neg.symm.trans hy.neg
  have HV : Hid (val xs + val ys = ((x + y).natAbs : Int) ∧ (x + y ≠ 0 → s = decide (x + y < 0))) := ⟨by rw [hx.val, hy.val]; exact abs_add hsg, sign_add hx.neg hsg⟩
  have HX : Hid (xs.length = n) := hx.len
  have HY : Hid (ys.length = m) := hy.len
  have hnk := hx.le
  have hmk := hy.le
  have dx := hx.nrm.1
  have dy := hy.nrm.1
  have T0 := two_start w (.bool s) (.slice ao n ca) (.bool s) (.slice bo m cb)
  have rx := hx.rd.below T0.below (Nat.le_refl _)
  have ry := hy.rd.below T0.below (Nat.le_refl _)
  clear hsg hx hy
  go_enter Try.func81, Try.ntmps81
  go_wp2
  generalize ((w.alloc (Obj.cells #[Value.bool s, Value.slice ao n ca] 66)).alloc (Obj.cells #[Value.bool s, Value.slice bo m cb] 66)).alloc (Obj.cells #[Value.bool false, Value.slice none 0 0] 66) = W at *
  go_region_held3 (fun w' => w'.cell? ⟨w.heap.size, 0, none⟩ = some (.bool s) ∧ w'.cell? ⟨w.heap.size, 1, none⟩ = some (.slice ao n ca) ∧ w'.cell? ⟨w.heap.size + 1, 1, none⟩ = some (.slice bo m cb)) (first | exact ⟨two_keep _ _ (by omega) T2.a0, two_keep _ _ (by omega) T2.a1, two_keep _ _ (by omega) T2.b1⟩ | exact ⟨T2.a0, T2.a1, T2.b1⟩ | exact ⟨T1.a0, T1.a1, T1.b1⟩ | exact ⟨T0.a0, T0.a1, T0.b1⟩)
    (first
      | (go_at_call 111; refine (addAbs_any ao bo n m ca cb k xs ys _ HX.out HY.out dx dy (by exact rx) (by exact ry) hnk hmk hk).mono ?_; rintro e w1 ⟨ao1, n1, c1, zs, rfl, p1, p2, p3, p4, p5, p6, p7⟩; have T1 := T0.drew.step p7; clear p7)
      | (go_at_call 76; refine (trim_any s _ _ _ zs _ p1 p2 p4 p6 (by omega)).mono ?_; rintro e w2 ⟨neg', ao', n', cap', ds', rfl, k1, k2, k3, k4, k5, k6, k7, k8⟩; have T2 := T1.step k8; have HN := num_of (z := x + y) (k := k + 1) k1 k2 (by omega) k4 (k5.trans p5) (k6.trans (by rw [p5])) k7 HV.out.1 HV.out.2; have c0 := T2.r0; have c1 := T2.r1; have f0 := T2.f0; have f1 := T2.f1; clear k1 k2 k3 k4 k5 k6 k7 k8))
  all_goals go_wp2
  all_goals refine bodyPost_ret (v := .agg #[.bool neg', .slice ao' n' cap']) (by simp [results, Try.results81, go_sem, c0, c1]) rfl ?_
  all_goals exact num_ret' (by omega) c0 c1 HN T2.below
set_option maxRecDepth 100000 in
set_option maxHeartbeats 1000000 in
theorem add_ge (s t : Bool) (hst : s ≠ t) (ao bo : Option Addr) (n m ca cb k : Nat) (xs ys : List Int) (x y : Int) (w : World) (hx : IsNum w s ao n ca xs x k) (hy : IsNum w t bo m cb ys y k) (hk : k ≤ 1000000) (hle : val ys ≤ val xs) :
    Calls Try.prog 81 #[.agg #[.bool s, .slice ao n ca], .agg #[.bool t, .slice bo m cb]] w (NumP (k + 1) (x + y) w) := by
  have hss : (s == t) = false := by simpa using hst
  have HV : Hid (val xs - val ys = ((x + y).natAbs : Int) ∧ (x + y ≠ 0 → s = decide (x + y < 0))) := by have := hle; rw [hx.val, hy.val] at this ⊢; exact abs_sub hx.neg hy.neg hst this
  have HX : Hid (xs.length = n) := hx.len
  have HY : Hid (ys.length = m) := hy.len
  have hnk := hx.le
  have hmk := hy.le
  have NX := hx.nrm
  have NY := hy.nrm
  have HLE : Hid (val ys ≤ val xs) := hle
  have T0 := two_start w (.bool s) (.slice ao n ca) (.bool t) (.slice bo m cb)
  have rx := hx.rd.below T0.below (Nat.le_refl _)
  have ry := hy.rd.below T0.below (Nat.le_refl _)
  have hcc : Nn (cmpI (val xs) (val ys)) := by show 0 ≤ _; unfold cmpI; split <;> (try split) <;> omega
  clear hx hy hst hle
  go_enter Try.func81, Try.ntmps81
  go_wp2_with fail
  generalize ((w.alloc (Obj.cells #[Value.bool s, Value.slice ao n ca] 66)).alloc (Obj.cells #[Value.bool t, Value.slice bo m cb] 66)).alloc (Obj.cells #[Value.bool false, Value.slice none 0 0] 66) = W0 at *
  refine (cmpAbs_any ao bo n m ca cb xs ys _ HX.out HY.out NX NY rx ry (by omega) (by omega)).mono ?_
  rintro e W ⟨rfl, hB⟩
  have T := T0.step hB
  have rx := rx.below hB (Nat.le_refl _)
  have ry := ry.below hB (Nat.le_refl _)
  generalize cmpI (val xs) (val ys) = cc at *
  have hcc : 0 ≤ cc := hcc
  clear T0 hB
  have T0 := T
  clear T
  go_wp2
  go_region_held3 (fun w' => w'.cell? ⟨w.heap.size, 0, none⟩ = some (.bool s) ∧ w'.cell? ⟨w.heap.size, 1, none⟩ = some (.slice ao n ca) ∧ w'.cell? ⟨w.heap.size + 1, 1, none⟩ = some (.slice bo m cb)) (first | exact ⟨two_keep _ _ (by omega) T2.a0, two_keep _ _ (by omega) T2.a1, two_keep _ _ (by omega) T2.b1⟩ | exact ⟨T2.a0, T2.a1, T2.b1⟩ | exact ⟨T1.a0, T1.a1, T1.b1⟩ | exact ⟨T0.a0, T0.a1, T0.b1⟩)
    (first
      | (go_at_call 77; refine (subAbs_any ao bo n m ca cb xs ys _ HX.out HY.out NX.1 NY.1 (by exact rx) (by exact ry) (by omega) (by omega) HLE.out).mono ?_; rintro e w1 ⟨ao1, c1, zs, rfl, p1, p2, p4, p5, p6, p7⟩; have T1 := T0.drew.step p7; clear p7)
      | (go_at_call 76; refine (trim_any s _ _ _ zs _ p1 p2 p4 p6 (by omega)).mono ?_; rintro e w2 ⟨neg', ao', n', cap', ds', rfl, k1, k2, k3, k4, k5, k6, k7, k8⟩; have T2 := T1.step k8; have HN := num_of (z := x + y) (k := k + 1) k1 k2 (by omega) k4 (k5.trans p5) (k6.trans (by rw [p5])) k7 HV.out.1 HV.out.2; have c0 := T2.r0; have c1 := T2.r1; have f0 := T2.f0; have f1 := T2.f1; clear k1 k2 k3 k4 k5 k6 k7 k8))
  all_goals go_wp2
  all_goals refine bodyPost_ret (v := .agg #[.bool neg', .slice ao' n' cap']) (by simp [results, Try.results81, go_sem, c0, c1]) rfl ?_
  all_goals exact num_ret' (by omega) c0 c1 HN T2.below
set_option maxRecDepth 100000 in
set_option maxHeartbeats 1000000 in
theorem add_lt (s t : Bool) (hst : s ≠ t) (ao bo : Option Addr) (n m ca cb k : Nat) (xs ys : List Int) (x y : Int) (w : World) (hx : IsNum w s ao n ca xs x k) (hy : IsNum w t bo m cb ys y k) (hk : k ≤ 1000000) (hle : val xs < val ys) :
    Calls Try.prog 81 #[.agg #[.bool s, .slice ao n ca], .agg #[.bool t, .slice bo m cb]] w (NumP (k + 1) (x + y) w) := by
  have hss : (s == t) = false := by simpa using hst
  have HV : Hid (val ys - val xs = ((x + y).natAbs : Int) ∧ (x + y ≠ 0 → t = decide (x + y < 0))) := by have := hle; rw [hx.val, hy.val] at this ⊢; have h := abs_sub hy.neg hx.neg (fun e => hst e.symm) (by omega); rw [Int.add_comm y x] at h; exact h
  have HX : Hid (xs.length = n) := hx.len
  have HY : Hid (ys.length = m) := hy.len
  have hnk := hx.le
  have hmk := hy.le
  have NX := hx.nrm
  have NY := hy.nrm
  have HLE : Hid (val xs < val ys) := hle
  have T0 := two_start w (.bool s) (.slice ao n ca) (.bool t) (.slice bo m cb)
  have rx := hx.rd.below T0.below (Nat.le_refl _)
  have ry := hy.rd.below T0.below (Nat.le_refl _)
  have hcc : Ng (cmpI (val xs) (val ys)) := by show _ < 0; rw [cmpI_lt hle]; decide
  clear hx hy hst hle
  go_enter Try.func81, Try.ntmps81
  go_wp2_with fail
  generalize ((w.alloc (Obj.cells #[Value.bool s, Value.slice ao n ca] 66)).alloc (Obj.cells #[Value.bool t, Value.slice bo m cb] 66)).alloc (Obj.cells #[Value.bool false, Value.slice none 0 0] 66) = W0 at *
  refine (cmpAbs_any ao bo n m ca cb xs ys _ HX.out HY.out NX NY rx ry (by omega) (by omega)).mono ?_
  rintro e W ⟨rfl, hB⟩
  have T := T0.step hB
  have rx := rx.below hB (Nat.le_refl _)
  have ry := ry.below hB (Nat.le_refl _)
  generalize cmpI (val xs) (val ys) = cc at *
  have hcc : ¬ 0 ≤ cc := by have : cc < 0 := hcc; omega
  clear T0 hB
  have T0 := T
  clear T
  go_wp2
  go_region_held3 (fun w' => w'.cell? ⟨w.heap.size + 1, 0, none⟩ = some (.bool t) ∧ w'.cell? ⟨w.heap.size + 1, 1, none⟩ = some (.slice bo m cb) ∧ w'.cell? ⟨w.heap.size, 1, none⟩ = some (.slice ao n ca)) (first | exact ⟨two_keep _ _ (by omega) T2.b0, two_keep _ _ (by omega) T2.b1, two_keep _ _ (by omega) T2.a1⟩ | exact ⟨T2.b0, T2.b1, T2.a1⟩ | exact ⟨T1.b0, T1.b1, T1.a1⟩ | exact ⟨T0.b0, T0.b1, T0.a1⟩)
    (first
      | (go_at_call 77; refine (subAbs_any bo ao m n cb ca ys xs _ HY.out HX.out NY.1 NX.1 (by exact ry) (by exact rx) (by omega) (by omega) (Int.le_of_lt HLE.out)).mono ?_; rintro e w1 ⟨ao1, c1, zs, rfl, p1, p2, p4, p5, p6, p7⟩; have T1 := T0.drew.step p7; clear p7)
      | (go_at_call 76; refine (trim_any t _ _ _ zs _ p1 p2 p4 p6 (by omega)).mono ?_; rintro e w2 ⟨neg', ao', n', cap', ds', rfl, k1, k2, k3, k4, k5, k6, k7, k8⟩; have T2 := T1.step k8; have HN := num_of (z := x + y) (k := k + 1) k1 k2 (by omega) k4 (k5.trans p5) (k6.trans (by rw [p5])) k7 HV.out.1 HV.out.2; have c0 := T2.r0; have c1 := T2.r1; have f0 := T2.f0; have f1 := T2.f1; clear k1 k2 k3 k4 k5 k6 k7 k8))
  all_goals go_wp2
  all_goals refine bodyPost_ret (v := .agg #[.bool neg', .slice ao' n' cap']) (by simp [results, Try.results81, go_sem, c0, c1]) rfl ?_
  all_goals exact num_ret' (by omega) c0 c1 HN T2.below
theorem add_any (s t : Bool) (ao bo : Option Addr) (n m ca cb k : Nat) (xs ys : List Int) (x y : Int) (w : World) (hx : IsNum w s ao n ca xs x k) (hy : IsNum w t bo m cb ys y k) (hk : k ≤ 1000000) :
    Calls Try.prog 81 #[.agg #[.bool s, .slice ao n ca], .agg #[.bool t, .slice bo m cb]] w (NumP (k + 1) (x + y) w) := by
  by_cases hst : s = t
  · subst hst
    exact add_same s ao bo n m ca cb k xs ys x y w hx hy hk
  · by_cases hle : val ys ≤ val xs
    · exact add_ge s t hst ao bo n m ca cb k xs ys x y w hx hy hk hle
    · exact add_lt s t hst ao bo n m ca cb k xs ys x y w hx hy hk (by omega)
end Go.Proofs.Ytnnojeggjnddpaa

/- The walks of negation, difference and comparison of numbers. -/
namespace Go.Proofs.Ytnnojeggjnddpaa
open Go.RowKit
theorem IsNum.drew {w : World} {s : Bool} {ao : Option Addr} {n cap : Nat} {ds : List Int} {z : Int} {k : Nat} (h : IsNum w s ao n cap ds z k) : IsNum w.drew s ao n cap ds z k := ⟨h.neg, h.len, h.cap, h.rd, h.nrm, h.val, h.le⟩
theorem IsNum.negated {w : World} {s : Bool} {ao : Option Addr} {n cap : Nat} {ds : List Int} {z : Int} {k : Nat} (h : IsNum w s ao n cap ds z k) (hz : z ≠ 0) : IsNum w (!s) ao n cap ds (-z) k :=
  ⟨by rw [h.neg]; by_cases h' : z < 0 <;> simp [h'] <;> omega, h.len, h.cap, h.rd, h.nrm, by rw [h.val]; omega, h.le⟩
set_option maxRecDepth 100000 in
set_option maxHeartbeats 400000 in
theorem neg_any (s : Bool) (ao : Option Addr) (n cap : Nat) (ds : List Int) (z : Int) (k : Nat) (w : World) (h : IsNum w s ao n cap ds z k) :
    Calls Try.prog 83 #[.agg #[.bool s, .slice ao n cap]] w (NumP k (-z) w) := by
  have h1 := h.zero
  have hB : ∀ o o', Below w.heap.size w ((w.alloc o).alloc o') := fun o o' => ((Below.refl _ _).alloc (Nat.le_refl _) o).alloc (by simp) o'
  by_cases hz : z = 0
  · subst hz
    have hn := h1.2 rfl
    subst hn
    have HH : Hid (IsNum w s ao 0 cap ds 0 k) := h
    clear h1 h
    go_enter Try.func83, Try.ntmps83
    go_wp2
    refine bodyPost_ret (v := .agg #[.bool s, .slice ao 0 cap]) (by simp [results, Try.results83, go_sem]) rfl ?_
    exact ⟨s, ao, 0, cap, ds, rfl, by simpa using HH.out.below (hB _ _), hB _ _⟩
  · have hn : ((n : Int) == 0) = false := beq_eq_false_iff_ne.2 (by have := fun h => hz (h1.1 h); omega)
    have HH : Hid (IsNum w (!s) ao n cap ds (-z) k) := h.negated hz
    clear h1 h
    go_enter Try.func83, Try.ntmps83
    go_wp2
    refine bodyPost_ret (v := .agg #[.bool (!s), .slice ao n cap]) (by simp [results, Try.results83, go_sem]) rfl ?_
    exact ⟨!s, ao, n, cap, ds, rfl, HH.out.below (hB _ _), hB _ _⟩
set_option maxRecDepth 100000 in
set_option maxHeartbeats 1000000 in
theorem sub_any (s t : Bool) (ao bo : Option Addr) (n m ca cb k : Nat) (xs ys : List Int) (x y : Int) (w : World) (hx : IsNum w s ao n ca xs x k) (hy : IsNum w t bo m cb ys y k) (hk : k ≤ 1000000) :
    Calls Try.prog 93 #[.agg #[.bool s, .slice ao n ca], .agg #[.bool t, .slice bo m cb]] w (NumP (k + 1) (x - y) w) := by
  have T0 := two_start w (.bool s) (.slice ao n ca) (.bool t) (.slice bo m cb)
  have nx := (hx.below T0.below).drew
  have ny := (hy.below T0.below).drew
  clear hx hy
  go_enter Try.func93, Try.ntmps93
  go_wp2
  generalize ((w.alloc (Obj.cells #[Value.bool s, Value.slice ao n ca] 66)).alloc (Obj.cells #[Value.bool t, Value.slice bo m cb] 66)).alloc (Obj.cells #[Value.bool false, Value.slice none 0 0] 66) = W at *
  go_region_held3 (fun w' => w'.cell? ⟨w.heap.size, 0, none⟩ = some (.bool s) ∧ w'.cell? ⟨w.heap.size, 1, none⟩ = some (.slice ao n ca) ∧ w'.cell? ⟨w.heap.size + 1, 0, none⟩ = some (.bool t) ∧ w'.cell? ⟨w.heap.size + 1, 1, none⟩ = some (.slice bo m cb))
    (first | exact ⟨two_keep _ _ (by omega) T2.a0, two_keep _ _ (by omega) T2.a1, two_keep _ _ (by omega) T2.b0, two_keep _ _ (by omega) T2.b1⟩ | exact ⟨T2.a0, T2.a1, T2.b0, T2.b1⟩ | exact ⟨T1.a0, T1.a1, T1.b0, T1.b1⟩ | exact ⟨T0.a0, T0.a1, T0.b0, T0.b1⟩)
    (first
      | (go_at_call 83; refine (neg_any t bo m cb ys y k _ ny).mono ?_; rintro e w1 ⟨s1, ao1, n1, c1, ds1, rfl, hN1, hB1⟩; have T1 := T0.drew.step hB1; have nx1 := nx.below hB1; clear hB1)
      | (go_at_call 81; refine (add_any s s1 ao ao1 n n1 ca c1 k xs ds1 x (-y) _ nx1 hN1 hk).mono ?_; rintro e w2 ⟨s2, ao2, n2, c2, ds2, rfl, hN2, hB2⟩; have T2 := T1.step hB2; have c0 := T2.r0; have c1 := T2.r1; have f0 := T2.f0; have f1 := T2.f1; clear hB2))
  all_goals go_wp2
  all_goals refine bodyPost_ret (v := .agg #[.bool s2, .slice ao2 n2 c2]) (by simp [results, Try.results93, go_sem, c0, c1]) rfl ?_
  all_goals exact num_ret' (by omega) c0 c1 hN2 T2.below
set_option maxRecDepth 100000 in
set_option maxHeartbeats 400000 in
theorem cmp_any (s t : Bool) (ao bo : Option Addr) (n m ca cb k : Nat) (xs ys : List Int) (x y : Int) (w : World) (hx : IsNum w s ao n ca xs x k) (hy : IsNum w t bo m cb ys y k) (hk : k ≤ 1000000) :
    Calls Try.prog 56 #[.agg #[.bool s, .slice ao n ca], .agg #[.bool t, .slice bo m cb]] w (IntP (cmpI x y) w) := by
  have hB : ∀ o o', Below w.heap.size w ((w.alloc o).alloc o') := fun o o' => ((Below.refl _ _).alloc (Nat.le_refl _) o).alloc (by simp) o'
  go_enter Try.func56, Try.ntmps56
  go_wp2_with fail
  refine (sub_any s t ao bo n m ca cb k xs ys x y _ (hx.below (hB _ _)) (hy.below (hB _ _)) hk).mono ?_
  rintro e w1 ⟨s1, ao1, n1, c1, ds1, rfl, hN1, hB1⟩
  have hB2 := (hB _ _).trans (hB1.mono (by simp; omega))
  clear hB1
  go_wp2_with fail
  refine (sign_any s1 ao1 n1 c1 ds1 _ _ _ hN1).mono ?_
  rintro e w2 ⟨rfl, hB3⟩
  have hB4 := hB2.trans (hB3.mono hB2.size)
  clear hB2 hB3 hN1
  go_wp2
  go_ret
  exact ⟨ret_int (by unfold cmpI; by_cases h1 : x < y <;> by_cases h2 : y < x <;> simp [h1, h2] <;> omega), hB4⟩
end Go.Proofs.Ytnnojeggjnddpaa

/- The walk of the model's product of two numbers. -/
namespace Go.Proofs.Ytnnojeggjnddpaa
open Go.RowKit
theorem val_set (zs : List Int) (j : Nat) (h : j < zs.length) (u : Int) : val (zs.set j u) = val zs + pw j * (u - zs[j]) := by
  have e1 := val_split zs j h
  have e2 := val_split (zs.set j u) j (by simpa using h)
  rw [e2, e1]
  have t1 : (zs.set j u).take j = zs.take j := by rw [List.take_set_of_le (by omega)]
  have t2 : (zs.set j u).drop (j + 1) = zs.drop (j + 1) := by rw [List.drop_set_of_lt (by omega)]
  rw [t1, t2]
  simp only [List.getElem_set_self]
  grind
theorem dig_set {zs : List Int} (h : Dig zs) (j : Nat) {u : Int} (h0 : 0 ≤ u) (h1 : u < 4294967296) : Dig (zs.set j u) := by
  intro d hd
  rcases List.mem_or_eq_of_mem_set hd with h' | h'
  · exact h d h'
  · subst h'; exact ⟨h0, h1⟩
/-- Between the rounds of the outer loop. -/
structure MuI (W wr : World) (g nm : Nat) (xs ys zs : List Int) (i m : Nat) : Prop where
  len : zs.length = nm
  dig : Dig zs
  eq : val zs = val (xs.take i) * val ys
  zero : ∀ j, i + m ≤ j → (h : j < zs.length) → zs[j] = 0
  own : wr.ownsRow g 112 1 (.slice (some ⟨g, 0, none⟩) nm nm) nm (zs.map (Value.int .u32))
  below : Below g W wr
/-- Between the rounds of the inner loop. -/
structure MuJ (W wr : World) (g nm : Nat) (xs ys zs : List Int) (i m k : Nat) (x c : Int) : Prop where
  len : zs.length = nm
  dig : Dig zs
  eq : val zs + c * pw (i + k) = val (xs.take i) * val ys + x * (pw i * val (ys.take k))
  zero : ∀ j, i + m ≤ j → (h : j < zs.length) → zs[j] = 0
  own : wr.ownsRow g 112 1 (.slice (some ⟨g, 0, none⟩) nm nm) nm (zs.map (Value.int .u32))
  below : Below g W wr
theorem mu_in {W wr : World} {g nm : Nat} {xs ys zs : List Int} {i m : Nat} (h : MuI W wr g nm xs ys zs i m) (x : Int) : MuJ W wr g nm xs ys zs i m 0 x 0 :=
  ⟨h.len, h.dig, by simp [val, h.eq], h.zero, h.own, h.below⟩
theorem mu_cell {W wr : World} {g nm : Nat} {xs ys zs : List Int} {i m k : Nat} {x c : Int} (h : MuJ W wr g nm xs ys zs i m k x c) (j : Nat) (hj : j < zs.length) : wr.cell? ⟨g, j, none⟩ = some (.int .u32 zs[j]) ∧ wr.frozen? ⟨g, j, none⟩ = false := by
  refine ⟨?_, h.own.frozenAt j⟩
  rw [h.own.cellAt j (by rw [← h.len]; omega)]
  simp [hj]
theorem mu_step {W wr : World} {g nm : Nat} {xs ys zs : List Int} {i m k : Nat} {x c : Int} (h : MuJ W wr g nm xs ys zs i m k x c) (hk : k < ys.length) (hkm : k < m) (hj : i + k < zs.length) (t : Int) (ht : t = c + x * ys[k] + zs[i + k]) (nq : Nat) :
    MuJ W ((wr.setCell ⟨g, i + k, none⟩ (.int .u32 (t % 4294967296))).drewN nq) g nm xs ys (zs.set (i + k) (t % 4294967296)) i m (k + 1) x (t / 4294967296) := by
  obtain ⟨o1, o2⟩ := h.own.stored (i + k) (.int .u32 (t % 4294967296))
  refine ⟨by simpa using h.len, dig_set h.dig _ (by omega) (by omega), ?_, ?_, ?_, bdrew (h.below.setCell (Nat.le_refl _) _) _⟩
  · rw [val_set zs _ hj, show i + (k + 1) = (i + k) + 1 by omega, pw, val_take_succ ys k hk]
    have e := h.eq
    have e2 : t = t % 4294967296 + 4294967296 * (t / 4294967296) := by omega
    have e3 := pw_add i k
    generalize t / 4294967296 = q at *
    generalize t % 4294967296 = r at *
    generalize zs[i + k] = zk at *
    generalize ys[k] = yk at *
    generalize pw (i + k) = p at *
    subst e2
    grind
  · intro j hj1 hj2
    have hj3 : j < zs.length := by simpa using hj2
    rw [List.getElem_set_ne (by omega)]
    exact h.zero j hj1 hj3
  · have : (zs.map (Value.int .u32)).set (i + k) (.int .u32 (t % 4294967296)) = (zs.set (i + k) (t % 4294967296)).map (Value.int .u32) := by rw [List.map_set]
    rw [← this]; exact o1
theorem mu_out {W wr : World} {g nm : Nat} {xs ys zs : List Int} {i m : Nat} {c : Int} (hi : i < xs.length) (h : MuJ W wr g nm xs ys zs i m m xs[i] c) (hm : ys.length = m) (hj : i + m < zs.length) (h0 : 0 ≤ c) (h1 : c < 4294967296) :
    MuI W (wr.setCell ⟨g, i + m, none⟩ (.int .u32 c)) g nm xs ys (zs.set (i + m) c) (i + 1) m := by
  obtain ⟨o1, o2⟩ := h.own.stored (i + m) (.int .u32 c)
  refine ⟨by simpa using h.len, dig_set h.dig _ h0 h1, ?_, ?_, ?_, h.below.setCell (Nat.le_refl _) _⟩
  · rw [val_set zs _ hj, h.zero (i + m) (Nat.le_refl _) hj, val_take_succ xs i hi]
    have e := h.eq
    rw [val_take_all ys m (by omega)] at e
    generalize pw (i + m) = p at *
    grind
  · intro j hj1 hj2
    have hj3 : j < zs.length := by simpa using hj2
    rw [List.getElem_set_ne (by omega)]
    exact h.zero j (by omega) hj3
  · have : (zs.map (Value.int .u32)).set (i + m) (.int .u32 c) = (zs.set (i + m) c).map (Value.int .u32) := by rw [List.map_set]
    rw [← this]; exact o1
theorem mul_bound {x y : Int} (hx0 : 0 ≤ x) (hx1 : x < 4294967296) (hy0 : 0 ≤ y) (hy1 : y < 4294967296) : 0 ≤ x * y ∧ x * y ≤ 18446744065119617025 := by
  refine ⟨Int.mul_nonneg hx0 hy0, ?_⟩
  have h1 : x * y ≤ 4294967295 * y := Int.mul_le_mul_of_nonneg_right (by omega) hy0
  omega
theorem mul_sign {x y : Int} {s t : Bool} {xs ys : List Int} (hs : s = decide (x < 0)) (ht : t = decide (y < 0)) (hx : val xs = (x.natAbs : Int)) (hy : val ys = (y.natAbs : Int)) : (x * y ≠ 0 → (s != t) = decide (x * y < 0)) ∧ val xs * val ys = ((x * y).natAbs : Int) := by
  constructor
  · intro hz
    have hx0 : x ≠ 0 := by rintro rfl; simp at hz
    have hy0 : y ≠ 0 := by rintro rfl; simp at hz
    rw [hs, ht]
    by_cases p : x < 0 <;> by_cases q : y < 0
    · have := Int.mul_pos_of_neg_of_neg p q; simp [p, q]; omega
    · have := Int.mul_neg_of_neg_of_pos p (show 0 < y by omega); simp [p, q, this]
    · have := Int.mul_neg_of_pos_of_neg (show 0 < x by omega) q; simp [p, q, this]
    · have := Int.mul_pos (show 0 < x by omega) (show 0 < y by omega); simp [p, q]; omega
  · rw [hx, hy, Int.natAbs_mul]; simp
theorem mu_start {W w1 : World} {g nm : Nat} {xs ys : List Int} {m : Nat} (hg : g = W.heap.size) (hown : w1.ownsRow g 112 1 (.slice (some ⟨g, 0, none⟩) nm nm) nm (madeCells #[Value.int .u32 0] nm).toList) (hgrow : W.grownBy w1 none) : MuI W w1 g nm xs ys (List.replicate nm 0) 0 m := by
  subst hg
  refine ⟨by simp, fun d hd => by rw [List.eq_of_mem_replicate hd]; decide, by simp [val_zeros, val], fun j _ h => by simp, ?_, (Below.refl _ _).grown hgrow (Nat.le_refl _) (by simp)⟩
  rw [made_one] at hown
  simpa using hown
set_option maxRecDepth 100000 in
set_option maxHeartbeats 2000000 in
theorem mul_some (s t : Bool) (ao bo : Option Addr) (n m ca cb k : Nat) (xs ys : List Int) (x y : Int) (w : World) (hx : IsNum w s ao n ca xs x k) (hy : IsNum w t bo m cb ys y k) (hk : k ≤ 100000) (hx0 : x ≠ 0) (hy0 : y ≠ 0) :
    Calls Try.prog 82 #[.agg #[.bool s, .slice ao n ca], .agg #[.bool t, .slice bo m cb]] w (NumP (k + k) (x * y) w) := by
  obtain ⟨i0, hi, hz0, hz1, hz2⟩ := info_parts Try.info88
  have hn0 : ((n : Int) == 0) = false := beq_eq_false_iff_ne.2 (by intro h; exact hx0 (hx.zero.1 (by omega)))
  have hm0 : ((m : Int) == 0) = false := beq_eq_false_iff_ne.2 (by intro h; exact hy0 (hy.zero.1 (by omega)))
  have T0 := two_start w (.bool s) (.slice ao n ca) (.bool t) (.slice bo m cb)
  have HX : Hid (xs.length = n) := hx.len
  have HY : Hid (ys.length = m) := hy.len
  have HDX : Hid (Dig xs) := hx.nrm.1
  have HDY : Hid (Dig ys) := hy.nrm.1
  have hnk := hx.le
  have hmk := hy.le
  have HRX0 := hx.rd.below T0.below (Nat.le_refl _)
  have HRY0 := hy.rd.below T0.below (Nat.le_refl _)
  have HSG : Hid ((x * y ≠ 0 → (s != t) = decide (x * y < 0)) ∧ val xs * val ys = ((x * y).natAbs : Int)) := mul_sign hx.neg hy.neg hx.val hy.val
  clear hx hy
  go_enter Try.func82, Try.ntmps82
  go_upto_region 3 with fail
  generalize ((w.alloc (Obj.cells #[Value.bool s, Value.slice ao n ca] 66)).alloc (Obj.cells #[Value.bool t, Value.slice bo m cb] 66)).alloc (Obj.cells #[Value.bool false, Value.slice none 0 0] 66) = W at *
  have q0 := T0.a0; have q1 := T0.a1; have q2 := T0.b0; have q3 := T0.b1
  have HRX : Hid (Rd W ao xs) := HRX0
  have HRY : Hid (Rd W bo ys) := HRY0
  clear HRX0 HRY0
  go_wp2_with (at_make; refine wpList_make_full _ rfl _ _ 64 rfl W.heap.size 112 i0 (.int .u32 0) 1 Try.underlying64 hi hz0 hz1 _ _ _ _ (n + m) rfl rfl (by omega) (by omega) (by rw [hz2]; omega) (by unfold maxLen; omega) (Nat.le_refl _) ?_)
  intro w1 hown hgrow
  have HS : MuI W w1 W.heap.size (n + m) xs ys (List.replicate (n + m) 0) 0 m := mu_start rfl (by simpa using hown) hgrow
  clear hown hgrow q0 q1 q2 q3
  have hsz := T0.sz
  go_wp2
  go_loopw [6] (fun i wr => ∃ (c : Nat) (zs : List Int), c ≤ n ∧ i = .int .i64 c ∧ MuI W wr W.heap.size (n + m) xs ys zs c m) (fun i _ => n - (intOf i).toNat)
  case atStart => exact ⟨0, _, Nat.zero_le _, rfl, HS⟩
  case round =>
    obtain ⟨i, zs, hin, rfl, hI⟩ := hrel
    clear HS
    have T1 := T0.step hI.below
    have q1 := T1.a1; have q3 := T1.b1
    by_cases hi' : i < n
    · have hix : i < xs.length := by have := HX.out; omega
      obtain ⟨bx, ox, rfl, hbx, hcx0⟩ := HRX.out i hix
      obtain ⟨hx0', hx1'⟩ := dig_at HDX.out i hix
      have HJ := mu_in hI xs[i]
      clear hI
      go_wp2
      obtain ⟨wo, hwo⟩ : ∃ wo : World, wo = wr := ⟨_, rfl⟩
      subst hwo
      go_loopw [7, 8] (fun c k wr => ∃ (j : Nat) (cv : Int) (zs : List Int), j ≤ m ∧ k = .int .i64 j ∧ 0 ≤ cv ∧ cv < 4294967296 ∧ c = .int .u64 cv ∧ MuJ W wr W.heap.size (n + m) xs ys zs i m j xs[i] cv) (fun _ k _ => m - (intOf k).toNat)
      case atStart => exact ⟨0, 0, _, Nat.zero_le _, rfl, by decide, by decide, rfl, HJ⟩
      case round =>
        obtain ⟨j, cv, zs', hj, rfl, hc0, hc1, rfl, hJ⟩ := hrel
        clear HJ T1 q1 q3
        have T1 := T0.step hJ.below
        have q1 := T1.a1; have q3 := T1.b1
        have hlen := hJ.len
        by_cases hj' : j < m
        · have hjy : j < ys.length := by have := HY.out; omega
          obtain ⟨by', oy, rfl, hby, hcy0⟩ := HRY.out j hjy
          obtain ⟨hy0', hy1'⟩ := dig_at HDY.out j hjy
          have hcx := (hJ.below.cell (p := ⟨bx, ox + i, none⟩) hbx).trans hcx0
          have hcy := (hJ.below.cell (p := ⟨by', oy + j, none⟩) hby).trans hcy0
          have hij : i + j < zs'.length := by omega
          obtain ⟨hcz, hfz⟩ := mu_cell hJ (i + j) hij
          obtain ⟨hz0', hz1'⟩ := dig_at hJ.dig (i + j) hij
          obtain ⟨P, hP⟩ : ∃ P, xs[i] * ys[j] = P := ⟨_, rfl⟩
          obtain ⟨hP0, hP1⟩ := mul_bound hx0' hx1' hy0' hy1'
          rw [hP] at hP0 hP1
          have R := fun nq => mu_step hJ hjy hj' hij (cv + P + zs'[i + j]) (by rw [hP]) nq
          clear hJ hlen
          have hin' : (i : Int) < n := by omega
          have hjm' : (j : Int) < m := by omega
          have hijn : (i : Int) + j < n + m := by omega
          go_wp2
          go_quiet (fail)
          go_wp2
          go_roundw
          case rel => exact ⟨j + 1, (cv + P + zs'[i + j]) / 4294967296, _, by omega, by go_num, by omega, by omega, rfl, by first | exact R _ | exact mu_drew R⟩
          case measure => simp [intOf]; omega
        · obtain rfl : j = m := by omega
          have him : i + j < zs'.length := by omega
          obtain ⟨hcz, hfz⟩ := mu_cell hJ (i + j) him
          have R := mu_out hix hJ HY.out him hc0 hc1
          clear hJ hlen
          have hijn : (i : Int) + j < n + j := by omega
          go_wp2
          go_roundw
          case rel => exact ⟨i + 1, _, by omega, by go_num, R⟩
          case measure => simp [intOf]; omega
    · obtain rfl : i = n := by omega
      have q0 := T1.a0; have q2 := T1.b0
      have R1 := hI.dig
      have R2 := Rd.own hI.own hI.len
      have R3 := hI.len
      have HE : Hid (val zs = ((x * y).natAbs : Int)) := by show _ = _; rw [hI.eq, val_take_all xs i (by have := HX.out; omega)]; exact HSG.out.2
      clear hI
      obtain ⟨sg, hsg⟩ : ∃ b, (!(s == t)) = b := ⟨_, rfl⟩
      have HG : Hid (x * y ≠ 0 → sg = decide (x * y < 0)) := by rw [← hsg]; exact HSG.out.1
      go_wp2_with fail
      refine (trim_any sg _ _ _ zs _ R3 (Nat.le_refl _) R1 R2 (by omega)).mono ?_
      rintro e w3 ⟨neg', ao', n', cap', ds', rfl, k1, k2, k3, k4, k5, k6, k7, k8⟩
      have T2 := T1.step k8
      have HN := num_of (z := x * y) (k := k + k) k1 k2 (by omega) k4 (k5.trans HE.out) (k6.trans (by rw [HE.out])) k7 rfl HG.out
      have c0 := T2.r0; have c1 := T2.r1; have f0 := T2.f0; have f1 := T2.f1
      have HB := T2.below
      clear k1 k2 k3 k4 k5 k6 k7 k8 R1 R2 R3 T1 q0 q1 q2 q3 T2
      go_wp2
      refine bodyPost_ret (v := .agg #[.bool neg', .slice ao' n' cap']) (by simp [results, Try.results82, go_sem, c0, c1]) rfl ?_
      exact num_ret (by omega) c0 c1 HN HB
set_option maxRecDepth 100000 in
set_option maxHeartbeats 1000000 in
theorem mul_none (s t : Bool) (ao bo : Option Addr) (n m ca cb k : Nat) (xs ys : List Int) (x y : Int) (w : World) (hx : IsNum w s ao n ca xs x k) (hy : IsNum w t bo m cb ys y k) (h0 : x = 0 ∨ y = 0) :
    Calls Try.prog 82 #[.agg #[.bool s, .slice ao n ca], .agg #[.bool t, .slice bo m cb]] w (NumP (k + k) (x * y) w) := by
  have HP : ∀ o1 o2 o3, NumP (k + k) (x * y) w (.returned (.agg #[.bool false, .slice none 0 0])) (((w.alloc o1).alloc o2).alloc o3) := by
    intro o1 o2 o3
    have hz : x * y = 0 := by rcases h0 with rfl | rfl <;> simp
    rw [hz]
    exact ⟨false, none, 0, 0, [], rfl, ⟨by decide, rfl, Nat.le_refl _, Rd.nil _ _, nrm_nil, rfl, Nat.zero_le _⟩, (((Below.refl _ _).alloc (Nat.le_refl _) _).alloc (by simp) _).alloc (by simp; omega) _⟩
  by_cases hx0 : x = 0
  · have hn := hx.zero.2 hx0
    subst hn
    clear hx hy
    go_enter Try.func82, Try.ntmps82
    go_wp2
    refine bodyPost_ret (v := .agg #[.bool false, .slice none 0 0]) (by simp [results, Try.results82, go_sem]) rfl ?_
    exact HP _ _ _
  · have hm := hy.zero.2 (by omega)
    subst hm
    have hn0 : ((n : Int) == 0) = false := beq_eq_false_iff_ne.2 (by intro h; exact hx0 (hx.zero.1 (by omega)))
    clear hx hy
    go_enter Try.func82, Try.ntmps82
    go_wp2
    refine bodyPost_ret (v := .agg #[.bool false, .slice none 0 0]) (by simp [results, Try.results82, go_sem]) rfl ?_
    exact HP _ _ _
theorem mul_any (s t : Bool) (ao bo : Option Addr) (n m ca cb k : Nat) (xs ys : List Int) (x y : Int) (w : World) (hx : IsNum w s ao n ca xs x k) (hy : IsNum w t bo m cb ys y k) (hk : k ≤ 100000) :
    Calls Try.prog 82 #[.agg #[.bool s, .slice ao n ca], .agg #[.bool t, .slice bo m cb]] w (NumP (k + k) (x * y) w) := by
  by_cases hx0 : x = 0
  · exact mul_none s t ao bo n m ca cb k xs ys x y w hx hy (Or.inl hx0)
  · by_cases hy0 : y = 0
    · exact mul_none s t ao bo n m ca cb k xs ys x y w hx hy (Or.inr hy0)
    · exact mul_some s t ao bo n m ca cb k xs ys x y w hx hy hk hx0 hy0
end Go.Proofs.Ytnnojeggjnddpaa
