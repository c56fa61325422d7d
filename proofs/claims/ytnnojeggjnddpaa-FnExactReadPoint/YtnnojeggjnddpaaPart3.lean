/- Part 3 of the walks that the proof leans on. -/
import Derived.Test.YtnnojeggjnddpaaPart2
import Derived.Test.YtnnojeggjnddpaaPart1
import Derived.Deep.RegionHeld3
import Derived.Deep.RegionWith
import Derived.Deep.DeepCutAuto
import Derived.Deep.QuietTactic
import Derived.BigQuiet
import Derived.Laws.BytesArg
import Derived.Laws.BitsLemmas
/- The walks of negation, difference and comparison of numbers. -/
namespace Go.Proofs.Ytnnojeggjnddpaa
open Go.RowKit
theorem IsNum.drew {w : World} {s : Bool} {ao : Option Addr} {n cap : Nat} {ds : List Int} {z : Int} {k : Nat} (h : IsNum w s ao n cap ds z k) : IsNum w.drew s ao n cap ds z k := ⟨h.neg, h.len, h.cap, h.rd, h.nrm, h.val, h.le⟩
theorem IsNum.negated {w : World} {s : Bool} {ao : Option Addr} {n cap : Nat} {ds : List Int} {z : Int} {k : Nat} (h : IsNum w s ao n cap ds z k) (hz : z ≠ 0) : IsNum w (!s) ao n cap ds (-z) k :=
  ⟨by rw [h.neg]; by_cases h' : z < 0 <;> simp [h'] <;> omega, h.len, h.cap, h.rd, h.nrm, by rw [h.val]; omega, h.le⟩
set_option maxRecDepth 100000 in
set_option maxHeartbeats 400000 in
theorem neg_any (s : Bool) (ao : Option Addr) (n cap : Nat) (ds : List Int) (z : Int) (k : Nat) (w : World) (h : IsNum w s ao n cap ds z k) :
    Calls Try.prog 83 #[.agg #[.bool s, .slice ao n cap]] w (NumP k (-z) w) := by
  have h1 := h.zero
  have hB : ∀ o o', Below w.heap.size w ((w.alloc o).alloc o') := fun o o' => ((Below.refl _ _).alloc (Nat.le_refl _) o).alloc (by simp) o'
  by_cases hz : z = 0
  · subst hz
    have hn := h1.2 rfl
    subst hn
    have HH : Hid (IsNum w s ao 0 cap ds 0 k) := h
    clear h1 h
    go_enter Try.func83, Try.ntmps83
    go_wp2
    refine bodyPost_ret (v := .agg #[.bool s, .slice ao 0 cap]) (by simp [results, Try.results83, go_sem]) rfl ?_
    exact ⟨s, ao, 0, cap, ds, rfl, by simpa using HH.out.below (hB _ _), hB _ _⟩
  · have hn : ((n : Int) == 0) = false := beq_eq_false_iff_ne.2 (by have := fun h => hz (h1.1 h); omega)
    have HH : Hid (IsNum w (!s) ao n cap ds (-z) k) := h.negated hz
    clear h1 h
    go_enter Try.func83, Try.ntmps83
    go_wp2
    refine bodyPost_ret (v := .agg #[.bool (!s), .slice ao n cap]) (by simp [results, Try.results83, go_sem]) rfl ?_
    exact ⟨!s, ao, n, cap, ds, rfl, HH.out.below (hB _ _), hB _ _⟩
set_option maxRecDepth 100000 in
set_option maxHeartbeats 1000000 in
theorem sub_any (s t : Bool) (ao bo : Option Addr) (n m ca cb k : Nat) (xs ys : List Int) (x y : Int) (w : World) (hx : IsNum w s ao n ca xs x k) (hy : IsNum w t bo m cb ys y k) (hk : k ≤ 1000000) :
    Calls Try.prog 93 #[.agg #[.bool s, .slice ao n ca], .agg #[.bool t, .slice bo m cb]] w (NumP (k + 1) (x - y) w) := by
  have T0 := two_start w (.bool s) (.slice ao n ca) (.bool t) (.slice bo m cb)
  have nx := (hx.below T0.below).drew
  have ny := (hy.below T0.below).drew
  clear hx hy
  go_enter Try.func93, Try.ntmps93
  go_wp2
  generalize ((w.alloc (Obj.cells #[Value.bool s, Value.slice ao n ca] 66)).alloc (Obj.cells #[Value.bool t, Value.slice bo m cb] 66)).alloc (Obj.cells #[Value.bool false, Value.slice none 0 0] 66) = W at *
  go_region_held3 (fun w' => w'.cell? ⟨w.heap.size, 0, none⟩ = some (.bool s) ∧ w'.cell? ⟨w.heap.size, 1, none⟩ = some (.slice ao n ca) ∧ w'.cell? ⟨w.heap.size + 1, 0, none⟩ = some (.bool t) ∧ w'.cell? ⟨w.heap.size + 1, 1, none⟩ = some (.slice bo m cb))
    (first | exact ⟨two_keep _ _ (by omega) T2.a0, two_keep _ _ (by omega) T2.a1, two_keep _ _ (by omega) T2.b0, two_keep _ _ (by omega) T2.b1⟩ | exact ⟨T2.a0, T2.a1, T2.b0, T2.b1⟩ | exact ⟨T1.a0, T1.a1, T1.b0, T1.b1⟩ | exact ⟨T0.a0, T0.a1, T0.b0, T0.b1⟩)
    (first
      | (go_at_call 83; refine (neg_any t bo m cb ys y k _ ny).mono ?_; rintro e w1 ⟨s1, ao1, n1, c1, ds1, rfl, hN1, hB1⟩; have T1 := T0.drew.step hB1; have nx1 := nx.below hB1; clear hB1)
      | (go_at_call 81; refine (add_any s s1 ao ao1 n n1 ca c1 k xs ds1 x (-y) _ nx1 hN1 hk).mono ?_; rintro e w2 ⟨s2, ao2, n2, c2, ds2, rfl, hN2, hB2⟩; have T2 := T1.step hB2; have c0 := T2.r0; have c1 := T2.r1; have f0 := T2.f0; have f1 := T2.f1; clear hB2))
  all_goals go_wp2
  all_goals refine bodyPost_ret (v := .agg #[.bool s2, .slice ao2 n2 c2]) (by simp [results, Try.results93, go_sem, c0, c1]) rfl ?_
  all_goals exact num_ret' (by omega) c0 c1 hN2 T2.below
set_option maxRecDepth 100000 in
set_option maxHeartbeats 400000 in
theorem cmp_any (s t : Bool) (ao bo : Option Addr) (n m ca cb k : Nat) (xs ys : List Int) (x y : Int) (w : World) (hx : IsNum w s ao n ca xs x k) (hy : IsNum w t bo m cb ys y k) (hk : k ≤ 1000000) :
    Calls Try.prog 56 #[.agg #[.bool s, .slice ao n ca], .agg #[.bool t, .slice bo m cb]] w (IntP (cmpI x y) w) := by
  have hB : ∀ o o', Below w.heap.size w ((w.alloc o).alloc o') := fun o o' => ((Below.refl _ _).alloc (Nat.le_refl _) o).alloc (by simp) o'
  go_enter Try.func56, Try.ntmps56
  go_wp2_with fail
  refine (sub_any s t ao bo n m ca cb k xs ys x y _ (hx.below (hB _ _)) (hy.below (hB _ _)) hk).mono ?_
  rintro e w1 ⟨s1, ao1, n1, c1, ds1, rfl, hN1, hB1⟩
  have hB2 := (hB _ _).trans (hB1.mono (by simp; omega))
  clear hB1
  go_wp2_with fail
  refine (sign_any s1 ao1 n1 c1 ds1 _ _ _ hN1).mono ?_
  rintro e w2 ⟨rfl, hB3⟩
  have hB4 := hB2.trans (hB3.mono hB2.size)
  clear hB2 hB3 hN1
  go_wp2
  go_ret
  exact ⟨ret_int (by unfold cmpI; by_cases h1 : x < y <;> by_cases h2 : y < x <;> simp [h1, h2] <;> omega), hB4⟩
end Go.Proofs.Ytnnojeggjnddpaa

/- The walk of four words made from a number that is not below 0. -/
namespace Go.Proofs.Ytnnojeggjnddpaa
open Go.RowKit
set_option maxRecDepth 100000 in
set_option maxHeartbeats 4000000 in
theorem toW_pos (ao : Option Addr) (n cap : Nat) (ds : List Int) (z : Int) (k : Nat) (w : World) (hz0 : 0 ≤ z) (h : IsNum w false ao n cap ds z k) (hk : k ≤ 1000000) :
    Calls Try.prog 48 #[.agg #[.bool false, .slice ao n cap]] w (TellP z w) := by
  have HL : Hid (ds.length = n) := h.len
  have HD : Hid (Dig ds) := h.nrm.1
  have hm : n ≤ 1000000 := by have := h.le; omega
  go_enter Try.func48, Try.ntmps48
  go_wp2_with fail
  refine (bits_any ao n cap ds _ h.len h.nrm ((h.rd.below ((Below.refl _ _).alloc (Nat.le_refl _) _) (Nat.le_refl _)).below ((Below.refl _ _).alloc (Nat.le_refl _) _) (Nat.le_refl _)) (by have := h.le; omega)).mono ?_
  rintro e w1 ⟨b, rfl, hb, hB⟩
  have HR : Hid (Rd w1 ao ds) := ((h.rd.below ((Below.refl _ _).alloc (Nat.le_refl _) _) (Nat.le_refl _)).below ((Below.refl _ _).alloc (Nat.le_refl _) _) (Nat.le_refl _)).below hB (Nat.le_refl _)
  obtain ⟨c0, c1, c2, c3, f0, f1, f2, f3, hz, hB2⟩ := res4' (R := w.heap.size + 1) (by simp) (hB.mono (by simp))
  have HB : Hid (Below w.heap.size w w1) := ((Below.refl _ _).alloc (Nat.le_refl _) _).trans (hB2.mono (by simp))
  have hv := h.val
  have hbl := bits_le hb 255
  rw [two255, hv] at hbl
  clear hB hB2 h hb
  by_cases hb5 : b ≤ 255
  · have hmk := make8
    have HU : Hid (val ds < pw 8) := by show _ < _; have := hbl.1 hb5; rw [hv, pw8]; omega
    have HS : Hid (TellOk (val ds) z) := Or.inl ⟨hz0, by have := hbl.1 hb5; omega, by rw [hv]; omega⟩
    clear hv hbl
    go_wp2_with fail
    go_loopw [6] (fun i wr => ∃ k : Nat, k ≤ 8 ∧ k ≤ n ∧ i = .int .i64 k ∧ ToI w1 wr w1.heap.size ds k) (fun i _ => 8 - (intOf i).toNat)
    case atStart => exact ⟨0, by omega, Nat.zero_le _, rfl, toI_start w1 ds⟩
    case round =>
      obtain ⟨k, hk8, hkn, rfl, hI⟩ := hrel
      by_cases h8 : k < 8
      · by_cases hn : k < n
        · have hkx : k < ds.length := by have := HL.out; omega
          obtain ⟨b', off, rfl, hbl, hcx0⟩ := HR.out k hkx
          have hcx := (hI.below.cell (p := ⟨b', off + k, none⟩) hbl).trans hcx0
          clear hcx0
          obtain ⟨hx0, hx1⟩ := dig_at HD.out k hkx
          have hfr := hI.own.frozenAt k
          obtain ⟨v0, hc0⟩ := toI_cell hI k h8
          have R := toI_step hI h8 hkx
          clear hI
          have hbn : b' ≠ w1.heap.size := by omega
          go_wp2
          go_roundw
          case rel => exact ⟨k + 1, by omega, by omega, by go_num, R⟩
          case measure => simp [intOf]; omega
        · obtain rfl : k = n := by omega
          have HC := toI_cells hI (Or.inr HL.out)
          have HBB : Hid (Below w.heap.size w wr) := HB.out.trans (hI.below.mono HB.out.size)
          obtain ⟨g0, g1, g2, g3, q0, q1, q2, q3⟩ := toI_res hI hz c0 c1 c2 c3 f0 f1 f2 f3
          clear hI c0 c1 c2 c3 f0 f1 f2 f3
          have hne : w.heap.size + 1 ≠ w1.heap.size := by omega
          obtain ⟨y0, hy0⟩ : ∃ y, y = ds.getD 0 0 := ⟨_, rfl⟩
          obtain ⟨y1, hy1⟩ : ∃ y, y = ds.getD 1 0 := ⟨_, rfl⟩
          obtain ⟨y2, hy2⟩ : ∃ y, y = ds.getD 2 0 := ⟨_, rfl⟩
          obtain ⟨y3, hy3⟩ : ∃ y, y = ds.getD 3 0 := ⟨_, rfl⟩
          obtain ⟨y4, hy4⟩ : ∃ y, y = ds.getD 4 0 := ⟨_, rfl⟩
          obtain ⟨y5, hy5⟩ : ∃ y, y = ds.getD 5 0 := ⟨_, rfl⟩
          obtain ⟨y6, hy6⟩ : ∃ y, y = ds.getD 6 0 := ⟨_, rfl⟩
          obtain ⟨y7, hy7⟩ : ∃ y, y = ds.getD 7 0 := ⟨_, rfl⟩
          have e0 := HC 0 (by omega); have e1 := HC 1 (by omega); have e2 := HC 2 (by omega); have e3 := HC 3 (by omega); have e4 := HC 4 (by omega); have e5 := HC 5 (by omega); have e6 := HC 6 (by omega); have e7 := HC 7 (by omega)
          have b0 := dig_getD HD.out 0; have b1 := dig_getD HD.out 1; have b2 := dig_getD HD.out 2; have b3 := dig_getD HD.out 3; have b4 := dig_getD HD.out 4; have b5 := dig_getD HD.out 5; have b6 := dig_getD HD.out 6; have b7 := dig_getD HD.out 7
          have HW := uw_of_digits HD.out HU.out
          rw [← hy0] at e0 b0 HW; rw [← hy1] at e1 b1 HW; rw [← hy2] at e2 b2 HW; rw [← hy3] at e3 b3 HW; rw [← hy4] at e4 b4 HW; rw [← hy5] at e5 b5 HW; rw [← hy6] at e6 b6 HW; rw [← hy7] at e7 b7 HW
          have o0 := or_hi y0 y1 b0 b1; have o1 := or_hi y2 y3 b2 b3; have o2 := or_hi y4 y5 b4 b5; have o3 := or_hi y6 y7 b6 b7
          have d0 := word_of_digits b0 b1; have d1 := word_of_digits b2 b3; have d2 := word_of_digits b4 b5; have d3 := word_of_digits b6 b7
          obtain ⟨x0, hx0⟩ : ∃ x, x = y0 + y1 * 4294967296 := ⟨_, rfl⟩
          obtain ⟨x1, hx1⟩ : ∃ x, x = y2 + y3 * 4294967296 := ⟨_, rfl⟩
          obtain ⟨x2, hx2⟩ : ∃ x, x = y4 + y5 * 4294967296 := ⟨_, rfl⟩
          obtain ⟨x3, hx3⟩ : ∃ x, x = y6 + y7 * 4294967296 := ⟨_, rfl⟩
          rw [← hx0] at o0 d0 HW; rw [← hx1] at o1 d1 HW; rw [← hx2] at o2 d2 HW; rw [← hx3] at o3 d3 HW
          have HW2 : Hid (uw x3 x2 x1 x0 = val ds) := HW
          clear HC HW hx0 hx1 hx2 hx3 hy0 hy1 hy2 hy3 hy4 hy5 hy6 hy7 b0 b1 b2 b3 b4 b5 b6 b7
          go_wp2
          go_region_held3 (fun w' => w'.cell? ⟨w1.heap.size, 0, none⟩ = some (.int .u64 y0) ∧ w'.cell? ⟨w1.heap.size, 1, none⟩ = some (.int .u64 y1) ∧ w'.cell? ⟨w1.heap.size, 2, none⟩ = some (.int .u64 y2) ∧ w'.cell? ⟨w1.heap.size, 3, none⟩ = some (.int .u64 y3) ∧ w'.cell? ⟨w1.heap.size, 4, none⟩ = some (.int .u64 y4) ∧ w'.cell? ⟨w1.heap.size, 5, none⟩ = some (.int .u64 y5) ∧ w'.cell? ⟨w1.heap.size, 6, none⟩ = some (.int .u64 y6) ∧ w'.cell? ⟨w1.heap.size, 7, none⟩ = some (.int .u64 y7)) (first | exact ⟨e0, e1, e2, e3, e4, e5, e6, e7⟩ | exact keep8 hne e0 e1 e2 e3 e4 e5 e6 e7) (fail)
          all_goals go_wp2
          all_goals refine bodyPost_ret (v := .tuple #[.agg #[.int .u64 x3, .int .u64 x2, .int .u64 x1, .int .u64 x0], .bool true]) (by simp [results, Try.results48, go_sem, g0, g1, g2, g3]) rfl ?_
          all_goals exact tell_ok d3 d2 d1 d0 HW2.out HS.out (by first | exact (tell_below HBB.out (Nat.le_succ _)).drew | exact tell_below HBB.out (Nat.le_succ _))
      · obtain rfl : k = 8 := by omega
        have HC := toI_cells hI (Or.inl rfl)
        have HBB : Hid (Below w.heap.size w wr) := HB.out.trans (hI.below.mono HB.out.size)
        obtain ⟨g0, g1, g2, g3, q0, q1, q2, q3⟩ := toI_res hI hz c0 c1 c2 c3 f0 f1 f2 f3
        clear hI c0 c1 c2 c3 f0 f1 f2 f3
        have hne : w.heap.size + 1 ≠ w1.heap.size := by omega
        obtain ⟨y0, hy0⟩ : ∃ y, y = ds.getD 0 0 := ⟨_, rfl⟩
        obtain ⟨y1, hy1⟩ : ∃ y, y = ds.getD 1 0 := ⟨_, rfl⟩
        obtain ⟨y2, hy2⟩ : ∃ y, y = ds.getD 2 0 := ⟨_, rfl⟩
        obtain ⟨y3, hy3⟩ : ∃ y, y = ds.getD 3 0 := ⟨_, rfl⟩
        obtain ⟨y4, hy4⟩ : ∃ y, y = ds.getD 4 0 := ⟨_, rfl⟩
        obtain ⟨y5, hy5⟩ : ∃ y, y = ds.getD 5 0 := ⟨_, rfl⟩
        obtain ⟨y6, hy6⟩ : ∃ y, y = ds.getD 6 0 := ⟨_, rfl⟩
        obtain ⟨y7, hy7⟩ : ∃ y, y = ds.getD 7 0 := ⟨_, rfl⟩
        have e0 := HC 0 (by omega); have e1 := HC 1 (by omega); have e2 := HC 2 (by omega); have e3 := HC 3 (by omega); have e4 := HC 4 (by omega); have e5 := HC 5 (by omega); have e6 := HC 6 (by omega); have e7 := HC 7 (by omega)
        have b0 := dig_getD HD.out 0; have b1 := dig_getD HD.out 1; have b2 := dig_getD HD.out 2; have b3 := dig_getD HD.out 3; have b4 := dig_getD HD.out 4; have b5 := dig_getD HD.out 5; have b6 := dig_getD HD.out 6; have b7 := dig_getD HD.out 7
        have HW := uw_of_digits HD.out HU.out
        rw [← hy0] at e0 b0 HW; rw [← hy1] at e1 b1 HW; rw [← hy2] at e2 b2 HW; rw [← hy3] at e3 b3 HW; rw [← hy4] at e4 b4 HW; rw [← hy5] at e5 b5 HW; rw [← hy6] at e6 b6 HW; rw [← hy7] at e7 b7 HW
        have o0 := or_hi y0 y1 b0 b1; have o1 := or_hi y2 y3 b2 b3; have o2 := or_hi y4 y5 b4 b5; have o3 := or_hi y6 y7 b6 b7
        have d0 := word_of_digits b0 b1; have d1 := word_of_digits b2 b3; have d2 := word_of_digits b4 b5; have d3 := word_of_digits b6 b7
        obtain ⟨x0, hx0⟩ : ∃ x, x = y0 + y1 * 4294967296 := ⟨_, rfl⟩
        obtain ⟨x1, hx1⟩ : ∃ x, x = y2 + y3 * 4294967296 := ⟨_, rfl⟩
        obtain ⟨x2, hx2⟩ : ∃ x, x = y4 + y5 * 4294967296 := ⟨_, rfl⟩
        obtain ⟨x3, hx3⟩ : ∃ x, x = y6 + y7 * 4294967296 := ⟨_, rfl⟩
        rw [← hx0] at o0 d0 HW; rw [← hx1] at o1 d1 HW; rw [← hx2] at o2 d2 HW; rw [← hx3] at o3 d3 HW
        have HW2 : Hid (uw x3 x2 x1 x0 = val ds) := HW
        clear HC HW hx0 hx1 hx2 hx3 hy0 hy1 hy2 hy3 hy4 hy5 hy6 hy7 b0 b1 b2 b3 b4 b5 b6 b7
        go_wp2
        go_region_held3 (fun w' => w'.cell? ⟨w1.heap.size, 0, none⟩ = some (.int .u64 y0) ∧ w'.cell? ⟨w1.heap.size, 1, none⟩ = some (.int .u64 y1) ∧ w'.cell? ⟨w1.heap.size, 2, none⟩ = some (.int .u64 y2) ∧ w'.cell? ⟨w1.heap.size, 3, none⟩ = some (.int .u64 y3) ∧ w'.cell? ⟨w1.heap.size, 4, none⟩ = some (.int .u64 y4) ∧ w'.cell? ⟨w1.heap.size, 5, none⟩ = some (.int .u64 y5) ∧ w'.cell? ⟨w1.heap.size, 6, none⟩ = some (.int .u64 y6) ∧ w'.cell? ⟨w1.heap.size, 7, none⟩ = some (.int .u64 y7)) (first | exact ⟨e0, e1, e2, e3, e4, e5, e6, e7⟩ | exact keep8 hne e0 e1 e2 e3 e4 e5 e6 e7) (fail)
        all_goals go_wp2
        all_goals refine bodyPost_ret (v := .tuple #[.agg #[.int .u64 x3, .int .u64 x2, .int .u64 x1, .int .u64 x0], .bool true]) (by simp [results, Try.results48, go_sem, g0, g1, g2, g3]) rfl ?_
        all_goals exact tell_ok d3 d2 d1 d0 HW2.out HS.out (by first | exact (tell_below HBB.out (Nat.le_succ _)).drew | exact tell_below HBB.out (Nat.le_succ _))
  · have HT : Hid (told z = false) := by show _ = _; unfold told; rw [decide_eq_false_iff_not]; have := fun h => hb5 (hbl.2 h); omega
    clear hv hbl HR
    go_wp2_with fail
    refine bodyPost_ret (v := .tuple #[.agg #[.int .u64 0, .int .u64 0, .int .u64 0, .int .u64 0], .bool false]) (by simp [results, Try.results48, go_sem, c0, c1, c2, c3]) rfl ?_
    exact ⟨tell_below HB.out (Nat.le_succ _), Or.inr ⟨HT.out, rfl⟩⟩
end Go.Proofs.Ytnnojeggjnddpaa

/- The walk of four words made from a number below 0. -/
namespace Go.Proofs.Ytnnojeggjnddpaa
open Go.RowKit
set_option maxRecDepth 100000 in
set_option maxHeartbeats 4000000 in
theorem toW_neg (ao : Option Addr) (n cap : Nat) (ds0 : List Int) (z : Int) (k : Nat) (w : World) (hz0 : z < 0) (h : IsNum w true ao n cap ds0 z k) (hk : k ≤ 1000000) :
    Calls Try.prog 48 #[.agg #[.bool true, .slice ao n cap]] w (TellP z w) := by
  have hm0 : n ≤ 1000000 := by have := h.le; omega
  go_enter Try.func48, Try.ntmps48
  go_wp2_with fail
  refine (left_any _ 1 1 255 [1] _ rfl (dig_cons.2 ⟨by omega, dig_nil⟩) (Rd.lit _ (by simp) rfl (by simp [maxLen])) (by omega) (by omega)).mono ?_
  rintro e wa ⟨ao1, n1, cap1, zs1, rfl, k1, k2, k3, k4, k5, k6, k7⟩
  have hRd0 : Rd wa ao ds0 := (((h.rd.below ((Below.refl _ _).alloc (Nat.le_refl _) _) (Nat.le_refl _)).below ((Below.refl _ _).alloc (Nat.le_refl _) _) (Nat.le_refl _)).below ((Below.refl _ _).alloc (Nat.le_refl _) _) (Nat.le_refl _)).below k7 (Nat.le_refl _)
  have hA : Below (w.heap.size + 2) ((w.alloc (Obj.cells #[Value.bool true, Value.slice ao n cap] 66)).alloc (Obj.cells #[Value.int IntKind.u64 0, Value.int IntKind.u64 0, Value.int IntKind.u64 0, Value.int IntKind.u64 0] 26)) wa :=
    ((Below.refl _ _).alloc (by simp) _).trans (k7.mono (by simp))
  rw [pw255] at k5
  have k3' : n1 ≤ 9 := k3
  clear k7 k3
  go_wp2_with fail
  refine (cmpAbs_any ao ao1 n n1 cap cap1 ds0 zs1 _ h.len k1 h.nrm k4 hRd0 k6 hm0 (by omega)).mono ?_
  rintro e wb ⟨rfl, hB⟩
  have hRd1 := hRd0.below hB (Nat.le_refl _)
  have hA1 := hA.trans (hB.mono (by have := hA.size; simp at this ⊢; omega))
  have hL0 := h.len
  have hD0 := h.nrm.1
  have hv0 := h.val
  have HV0 : Hid (val ds0 = (z.natAbs : Int)) := hv0
  rw [k5, hv0]
  clear k1 k2 k4 k5 k6 hRd0 hA hB h hv0
  by_cases hb5 : (z.natAbs : Int) ≤ 57896044618658097711785492504343953926634992332820282019728792003956564819968
  · have hcmp : ¬ 0 < cmpI (z.natAbs : Int) 57896044618658097711785492504343953926634992332820282019728792003956564819968 := by unfold cmpI; split <;> (try split) <;> omega
    generalize cmpI (z.natAbs : Int) 57896044618658097711785492504343953926634992332820282019728792003956564819968 = cc at hcmp ⊢
    have hmk := make8
    go_wp2_with fail
    refine (left_any _ 1 1 256 [1] _ rfl (dig_cons.2 ⟨by omega, dig_nil⟩) (Rd.lit _ (by simp) rfl (by simp [maxLen])) (by omega) (by omega)).mono ?_
    rintro e wc ⟨ao2, n2, cap2, zs2, rfl, k1, k2, k3, k4, k5, k6, k7⟩
    have hRd2 := (hRd1.below ((Below.refl _ _).alloc (Nat.le_refl _) _) (Nat.le_refl _)).below k7 (Nat.le_refl _)
    have hA2 := (hA1.alloc (by have := hA1.size; simp at this; omega) _).trans (k7.mono (by have := hA1.size; simp at this ⊢; omega))
    have k3' : n2 ≤ 10 := k3
    rw [pw256] at k5
    clear k7 k3
    go_wp2_with fail
    refine (subAbs_any ao2 ao n2 n cap2 cap zs2 ds0 _ k1 hL0 k4.1 hD0 k6 hRd2 (by omega) hm0 (by rw [k5, HV0.out]; omega)).mono ?_
    rintro e w1 ⟨ao3, cap3, ds, rfl, m1, m2, m3, m4, m5, m6⟩
    have hA3 := hA2.trans (m6.mono (by have := hA2.size; simp at this ⊢; omega))
    obtain ⟨c0, c1, c2, c3, f0, f1, f2, f3, hz, hB2⟩ := res4' (R := w.heap.size + 1) (by simp) (hA3.mono (by simp))
    have HB : Hid (Below w.heap.size w w1) := ((Below.refl _ _).alloc (Nat.le_refl _) _).trans (hB2.mono (by simp))
    have HL : Hid (ds.length = n2) := m1
    have HD : Hid (Dig ds) := m3
    have HR : Hid (Rd w1 ao3 ds) := m5
    rw [k5, HV0.out] at m4
    have HU : Hid (val ds < pw 8) := by show _ < _; rw [m4, pw8]; omega
    have HS : Hid (TellOk (val ds) z) := Or.inr ⟨hz0, by omega, by rw [m4]; omega⟩
    clear k1 k2 k4 k5 k6 hRd1 hRd2 hA1 hA2 hA3 hB2 m1 m2 m3 m4 m5 m6 hL0 hD0 HV0
    go_wp2_with fail
    go_loopw [6] (fun i wr => ∃ k : Nat, k ≤ 8 ∧ k ≤ n2 ∧ i = .int .i64 k ∧ ToI w1 wr w1.heap.size ds k) (fun i _ => 8 - (intOf i).toNat)
    case atStart => exact ⟨0, by omega, Nat.zero_le _, rfl, toI_start w1 ds⟩
    case round =>
      obtain ⟨k, hk8, hkn, rfl, hI⟩ := hrel
      by_cases h8 : k < 8
      · by_cases hn : k < n2
        · have hkx : k < ds.length := by have := HL.out; omega
          obtain ⟨b', off, rfl, hbl, hcx0⟩ := HR.out k hkx
          have hcx := (hI.below.cell (p := ⟨b', off + k, none⟩) hbl).trans hcx0
          clear hcx0
          obtain ⟨hx0, hx1⟩ := dig_at HD.out k hkx
          have hfr := hI.own.frozenAt k
          obtain ⟨v0, hc0⟩ := toI_cell hI k h8
          have R := toI_step hI h8 hkx
          clear hI
          have hbn : b' ≠ w1.heap.size := by omega
          go_wp2
          go_roundw
          case rel => exact ⟨k + 1, by omega, by omega, by go_num, R⟩
          case measure => simp [intOf]; omega
        · obtain rfl : k = n2 := by omega
          have HC := toI_cells hI (Or.inr HL.out)
          have HBB : Hid (Below w.heap.size w wr) := HB.out.trans (hI.below.mono HB.out.size)
          obtain ⟨g0, g1, g2, g3, q0, q1, q2, q3⟩ := toI_res hI hz c0 c1 c2 c3 f0 f1 f2 f3
          clear hI c0 c1 c2 c3 f0 f1 f2 f3
          have hne : w.heap.size + 1 ≠ w1.heap.size := by omega
          obtain ⟨y0, hy0⟩ : ∃ y, y = ds.getD 0 0 := ⟨_, rfl⟩
          obtain ⟨y1, hy1⟩ : ∃ y, y = ds.getD 1 0 := ⟨_, rfl⟩
          obtain ⟨y2, hy2⟩ : ∃ y, y = ds.getD 2 0 := ⟨_, rfl⟩
          obtain ⟨y3, hy3⟩ : ∃ y, y = ds.getD 3 0 := ⟨_, rfl⟩
          obtain ⟨y4, hy4⟩ : ∃ y, y = ds.getD 4 0 := ⟨_, rfl⟩
          obtain ⟨y5, hy5⟩ : ∃ y, y = ds.getD 5 0 := ⟨_, rfl⟩
          obtain ⟨y6, hy6⟩ : ∃ y, y = ds.getD 6 0 := ⟨_, rfl⟩
          obtain ⟨y7, hy7⟩ : ∃ y, y = ds.getD 7 0 := ⟨_, rfl⟩
          have e0 := HC 0 (by omega); have e1 := HC 1 (by omega); have e2 := HC 2 (by omega); have e3 := HC 3 (by omega); have e4 := HC 4 (by omega); have e5 := HC 5 (by omega); have e6 := HC 6 (by omega); have e7 := HC 7 (by omega)
          have b0 := dig_getD HD.out 0; have b1 := dig_getD HD.out 1; have b2 := dig_getD HD.out 2; have b3 := dig_getD HD.out 3; have b4 := dig_getD HD.out 4; have b5 := dig_getD HD.out 5; have b6 := dig_getD HD.out 6; have b7 := dig_getD HD.out 7
          have HW := uw_of_digits HD.out HU.out
          rw [← hy0] at e0 b0 HW; rw [← hy1] at e1 b1 HW; rw [← hy2] at e2 b2 HW; rw [← hy3] at e3 b3 HW; rw [← hy4] at e4 b4 HW; rw [← hy5] at e5 b5 HW; rw [← hy6] at e6 b6 HW; rw [← hy7] at e7 b7 HW
          have o0 := or_hi y0 y1 b0 b1; have o1 := or_hi y2 y3 b2 b3; have o2 := or_hi y4 y5 b4 b5; have o3 := or_hi y6 y7 b6 b7
          have d0 := word_of_digits b0 b1; have d1 := word_of_digits b2 b3; have d2 := word_of_digits b4 b5; have d3 := word_of_digits b6 b7
          obtain ⟨x0, hx0⟩ : ∃ x, x = y0 + y1 * 4294967296 := ⟨_, rfl⟩
          obtain ⟨x1, hx1⟩ : ∃ x, x = y2 + y3 * 4294967296 := ⟨_, rfl⟩
          obtain ⟨x2, hx2⟩ : ∃ x, x = y4 + y5 * 4294967296 := ⟨_, rfl⟩
          obtain ⟨x3, hx3⟩ : ∃ x, x = y6 + y7 * 4294967296 := ⟨_, rfl⟩
          rw [← hx0] at o0 d0 HW; rw [← hx1] at o1 d1 HW; rw [← hx2] at o2 d2 HW; rw [← hx3] at o3 d3 HW
          have HW2 : Hid (uw x3 x2 x1 x0 = val ds) := HW
          clear HC HW hx0 hx1 hx2 hx3 hy0 hy1 hy2 hy3 hy4 hy5 hy6 hy7 b0 b1 b2 b3 b4 b5 b6 b7
          go_wp2
          go_region_held3 (fun w' => w'.cell? ⟨w1.heap.size, 0, none⟩ = some (.int .u64 y0) ∧ w'.cell? ⟨w1.heap.size, 1, none⟩ = some (.int .u64 y1) ∧ w'.cell? ⟨w1.heap.size, 2, none⟩ = some (.int .u64 y2) ∧ w'.cell? ⟨w1.heap.size, 3, none⟩ = some (.int .u64 y3) ∧ w'.cell? ⟨w1.heap.size, 4, none⟩ = some (.int .u64 y4) ∧ w'.cell? ⟨w1.heap.size, 5, none⟩ = some (.int .u64 y5) ∧ w'.cell? ⟨w1.heap.size, 6, none⟩ = some (.int .u64 y6) ∧ w'.cell? ⟨w1.heap.size, 7, none⟩ = some (.int .u64 y7)) (first | exact ⟨e0, e1, e2, e3, e4, e5, e6, e7⟩ | exact keep8 hne e0 e1 e2 e3 e4 e5 e6 e7) (fail)
          all_goals go_wp2
          all_goals refine bodyPost_ret (v := .tuple #[.agg #[.int .u64 x3, .int .u64 x2, .int .u64 x1, .int .u64 x0], .bool true]) (by simp [results, Try.results48, go_sem, g0, g1, g2, g3]) rfl ?_
          all_goals exact tell_ok d3 d2 d1 d0 HW2.out HS.out (by first | exact (tell_below HBB.out (Nat.le_succ _)).drew | exact tell_below HBB.out (Nat.le_succ _))
      · obtain rfl : k = 8 := by omega
        have HC := toI_cells hI (Or.inl rfl)
        have HBB : Hid (Below w.heap.size w wr) := HB.out.trans (hI.below.mono HB.out.size)
        obtain ⟨g0, g1, g2, g3, q0, q1, q2, q3⟩ := toI_res hI hz c0 c1 c2 c3 f0 f1 f2 f3
        clear hI c0 c1 c2 c3 f0 f1 f2 f3
        have hne : w.heap.size + 1 ≠ w1.heap.size := by omega
        obtain ⟨y0, hy0⟩ : ∃ y, y = ds.getD 0 0 := ⟨_, rfl⟩
        obtain ⟨y1, hy1⟩ : ∃ y, y = ds.getD 1 0 := ⟨_, rfl⟩
        obtain ⟨y2, hy2⟩ : ∃ y, y = ds.getD 2 0 := ⟨_, rfl⟩
        obtain ⟨y3, hy3⟩ : ∃ y, y = ds.getD 3 0 := ⟨_, rfl⟩
        obtain ⟨y4, hy4⟩ : ∃ y, y = ds.getD 4 0 := ⟨_, rfl⟩
        obtain ⟨y5, hy5⟩ : ∃ y, y = ds.getD 5 0 := ⟨_, rfl⟩
        obtain ⟨y6, hy6⟩ : ∃ y, y = ds.getD 6 0 := ⟨_, rfl⟩
        obtain ⟨y7, hy7⟩ : ∃ y, y = ds.getD 7 0 := ⟨_, rfl⟩
        have e0 := HC 0 (by omega); have e1 := HC 1 (by omega); have e2 := HC 2 (by omega); have e3 := HC 3 (by omega); have e4 := HC 4 (by omega); have e5 := HC 5 (by omega); have e6 := HC 6 (by omega); have e7 := HC 7 (by omega)
        have b0 := dig_getD HD.out 0; have b1 := dig_getD HD.out 1; have b2 := dig_getD HD.out 2; have b3 := dig_getD HD.out 3; have b4 := dig_getD HD.out 4; have b5 := dig_getD HD.out 5; have b6 := dig_getD HD.out 6; have b7 := dig_getD HD.out 7
        have HW := uw_of_digits HD.out HU.out
        rw [← hy0] at e0 b0 HW; rw [← hy1] at e1 b1 HW; rw [← hy2] at e2 b2 HW; rw [← hy3] at e3 b3 HW; rw [← hy4] at e4 b4 HW; rw [← hy5] at e5 b5 HW; rw [← hy6] at e6 b6 HW; rw [← hy7] at e7 b7 HW
        have o0 := or_hi y0 y1 b0 b1; have o1 := or_hi y2 y3 b2 b3; have o2 := or_hi y4 y5 b4 b5; have o3 := or_hi y6 y7 b6 b7
        have d0 := word_of_digits b0 b1; have d1 := word_of_digits b2 b3; have d2 := word_of_digits b4 b5; have d3 := word_of_digits b6 b7
        obtain ⟨x0, hx0⟩ : ∃ x, x = y0 + y1 * 4294967296 := ⟨_, rfl⟩
        obtain ⟨x1, hx1⟩ : ∃ x, x = y2 + y3 * 4294967296 := ⟨_, rfl⟩
        obtain ⟨x2, hx2⟩ : ∃ x, x = y4 + y5 * 4294967296 := ⟨_, rfl⟩
        obtain ⟨x3, hx3⟩ : ∃ x, x = y6 + y7 * 4294967296 := ⟨_, rfl⟩
        rw [← hx0] at o0 d0 HW; rw [← hx1] at o1 d1 HW; rw [← hx2] at o2 d2 HW; rw [← hx3] at o3 d3 HW
        have HW2 : Hid (uw x3 x2 x1 x0 = val ds) := HW
        clear HC HW hx0 hx1 hx2 hx3 hy0 hy1 hy2 hy3 hy4 hy5 hy6 hy7 b0 b1 b2 b3 b4 b5 b6 b7
        go_wp2
        go_region_held3 (fun w' => w'.cell? ⟨w1.heap.size, 0, none⟩ = some (.int .u64 y0) ∧ w'.cell? ⟨w1.heap.size, 1, none⟩ = some (.int .u64 y1) ∧ w'.cell? ⟨w1.heap.size, 2, none⟩ = some (.int .u64 y2) ∧ w'.cell? ⟨w1.heap.size, 3, none⟩ = some (.int .u64 y3) ∧ w'.cell? ⟨w1.heap.size, 4, none⟩ = some (.int .u64 y4) ∧ w'.cell? ⟨w1.heap.size, 5, none⟩ = some (.int .u64 y5) ∧ w'.cell? ⟨w1.heap.size, 6, none⟩ = some (.int .u64 y6) ∧ w'.cell? ⟨w1.heap.size, 7, none⟩ = some (.int .u64 y7)) (first | exact ⟨e0, e1, e2, e3, e4, e5, e6, e7⟩ | exact keep8 hne e0 e1 e2 e3 e4 e5 e6 e7) (fail)
        all_goals go_wp2
        all_goals refine bodyPost_ret (v := .tuple #[.agg #[.int .u64 x3, .int .u64 x2, .int .u64 x1, .int .u64 x0], .bool true]) (by simp [results, Try.results48, go_sem, g0, g1, g2, g3]) rfl ?_
        all_goals exact tell_ok d3 d2 d1 d0 HW2.out HS.out (by first | exact (tell_below HBB.out (Nat.le_succ _)).drew | exact tell_below HBB.out (Nat.le_succ _))
  · have hcmp : 0 < cmpI (z.natAbs : Int) 57896044618658097711785492504343953926634992332820282019728792003956564819968 := by unfold cmpI; rw [if_neg (by omega), if_pos (by omega)]; omega
    generalize cmpI (z.natAbs : Int) 57896044618658097711785492504343953926634992332820282019728792003956564819968 = cc at hcmp ⊢
    have HT : Hid (told z = false) := by show _ = _; unfold told; rw [decide_eq_false_iff_not]; omega
    obtain ⟨c0, c1, c2, c3, f0, f1, f2, f3, hz, hB2⟩ := res4' (R := w.heap.size + 1) (by simp) (hA1.mono (by simp))
    have HB : Hid (Below w.heap.size w wb) := ((Below.refl _ _).alloc (Nat.le_refl _) _).trans (hB2.mono (by simp))
    clear hRd1 hA1 hB2 hL0 hD0 HV0
    go_wp2_with fail
    refine bodyPost_ret (v := .tuple #[.agg #[.int .u64 0, .int .u64 0, .int .u64 0, .int .u64 0], .bool false]) (by simp [results, Try.results48, go_sem, c0, c1, c2, c3]) rfl ?_
    exact ⟨tell_below HB.out (Nat.le_succ _), Or.inr ⟨HT.out, rfl⟩⟩
end Go.Proofs.Ytnnojeggjnddpaa

/- The walks of the sign of four words, by the model and by the program, and of the law over both. -/
namespace Go.Proofs.Ytnnojeggjnddpaa
open Go.RowKit
/-- Four words as a value. -/
def WideP (a3 a2 a1 a0 : Int) (w : World) (e : Ending) (w' : World) : Prop := e = .returned (.agg #[.int .u64 a3, .int .u64 a2, .int .u64 a1, .int .u64 a0]) ∧ Below w.heap.size w w'
def BoolP (b : Bool) (w : World) (e : Ending) (w' : World) : Prop := e = .returned (.bool b) ∧ Below w.heap.size w w'
set_option maxRecDepth 100000 in
set_option maxHeartbeats 400000 in
theorem isBelow_any (a3 a2 a1 a0 : Int) (h3 : Word a3) (b : Bool) (hb : (a3 / 9223372036854775808 == 1) = b) (w : World) :
    Calls Try.prog 46 #[.agg #[.int .u64 a3, .int .u64 a2, .int .u64 a1, .int .u64 a0]] w (BoolP b w) := by
  obtain ⟨l3, u3⟩ := h3
  go_enter Try.func46, Try.ntmps46
  go_wp2
  go_ret
  exact ⟨rfl, (Below.refl _ _).alloc (Nat.le_refl _) _⟩
set_option maxRecDepth 100000 in
set_option maxHeartbeats 400000 in
theorem implSign_any (a3 a2 a1 a0 : Int) (h3 : Word a3) (h2 : Word a2) (h1 : Word a1) (h0 : Word a0) (w : World) :
    Calls Try.prog 34 #[.agg #[.int .u64 a3, .int .u64 a2, .int .u64 a1, .int .u64 a0]] w (IntP (cmpI (sw a3 a2 a1 a0) 0) w) := by
  have hn := sw_neg h3 h2 h1 h0
  by_cases hp : 9223372036854775808 ≤ a3
  · have hb : (a3 / 9223372036854775808 == 1) = true := beq_iff_eq.2 (by have := h3.2; omega)
    go_enter Try.func34, Try.ntmps34
    go_wp2_with fail
    refine (isBelow_any a3 a2 a1 a0 h3 true hb _).mono ?_
    rintro e w1 ⟨rfl, hB⟩
    go_wp2
    go_ret
    exact ⟨ret_int (cmpI_lt (hn.2 hp)), ((Below.refl _ _).alloc (Nat.le_refl _) _).trans (hB.mono (by simp))⟩
  · have hb : (a3 / 9223372036854775808 == 1) = false := beq_eq_false_iff_ne.2 (by have := h3.1; omega)
    go_enter Try.func34, Try.ntmps34
    go_wp2_with fail
    refine (isBelow_any a3 a2 a1 a0 h3 false hb _).mono ?_
    rintro e w1 ⟨rfl, hB⟩
    have HS : Hid (sw a3 a2 a1 a0 = uw a3 a2 a1 a0) := by show _ = _; unfold sw; rw [if_pos (by omega)]
    obtain ⟨hc, _⟩ := bcell hB
    have HB : Hid (Below w.heap.size w w1) := ((Below.refl _ _).alloc (Nat.le_refl _) _).trans (hB.mono (by simp))
    obtain ⟨l3, u3⟩ := h3; obtain ⟨l2, u2⟩ := h2; obtain ⟨l1, u1⟩ := h1; obtain ⟨l0, u0⟩ := h0
    clear hB hn
    go_wp2
    all_goals go_ret
    all_goals (refine ⟨ret_int ?_, HB.out⟩; rw [HS.out]; first | exact cmpI_gt (by unfold uw; omega) | exact cmpI_eq (by unfold uw; omega))
end Go.Proofs.Ytnnojeggjnddpaa

/- The walks of a number of four words made from an integer, by the model and by the program, and of the law over both. -/
namespace Go.Proofs.Ytnnojeggjnddpaa
open Go.RowKit
theorem toW_any (s : Bool) (ao : Option Addr) (n cap : Nat) (ds : List Int) (z : Int) (k : Nat) (w : World) (h : IsNum w s ao n cap ds z k) (hk : k ≤ 1000000) :
    Calls Try.prog 48 #[.agg #[.bool s, .slice ao n cap]] w (TellP z w) := by
  by_cases hz : z < 0
  · have hs : s = true := by rw [h.neg]; simpa using hz
    subst hs
    exact toW_neg ao n cap ds z k w hz h hk
  · have hs : s = false := by rw [h.neg]; simpa using hz
    subst hs
    exact toW_pos ao n cap ds z k w (by omega) h hk
/-- Four words that stand for z. -/
def SwP (z : Int) (w : World) (e : Ending) (w' : World) : Prop :=
  ∃ a3 a2 a1 a0, e = .returned (.agg #[.int .u64 a3, .int .u64 a2, .int .u64 a1, .int .u64 a0]) ∧ Word a3 ∧ Word a2 ∧ Word a1 ∧ Word a0 ∧ sw a3 a2 a1 a0 = z ∧ Below w.heap.size w w'
set_option maxRecDepth 100000 in
set_option maxHeartbeats 400000 in
theorem eqWide_same (a3 a2 a1 a0 : Int) (w : World) :
    Calls Try.prog 17 #[.agg #[.int .u64 a3, .int .u64 a2, .int .u64 a1, .int .u64 a0], .agg #[.int .u64 a3, .int .u64 a2, .int .u64 a1, .int .u64 a0]] w (BoolP true w) := by
  have h3 : (a3 != a3) = false := by simp
  have h2 : (a2 != a2) = false := by simp
  have h1 : (a1 != a1) = false := by simp
  have h0 : (a0 != a0) = false := by simp
  go_enter Try.func17, Try.ntmps17
  go_wp2
  go_ret
  exact ⟨rfl, ((Below.refl _ _).alloc (Nat.le_refl _) _).alloc (by simp) _⟩
set_option maxRecDepth 100000 in
set_option maxHeartbeats 1000000 in
theorem implOf_any (n : Int) (w : World) (h0 : -9223372036854775808 ≤ n) (h1 : n ≤ 9223372036854775807) :
    Calls Try.prog 95 #[.int .i64 n] w (SwP n w) := by
  by_cases hn : n < 0
  · have hd1 : IntKind.u64.wrap (n / 9223372036854775808) = 18446744073709551615 := by rw [IntKind.wrap_u64]; omega
    have hd2 : IntKind.u64.wrap n = n + 18446744073709551616 := by rw [IntKind.wrap_u64]; omega
    go_enter Try.func95, Try.ntmps95
    go_wp2
    refine bodyPost_ret (v := .agg #[.int .u64 18446744073709551615, .int .u64 18446744073709551615, .int .u64 18446744073709551615, .int .u64 (n + 18446744073709551616)]) (by simp [results, Try.results95, go_sem]) rfl ?_
    refine ⟨_, _, _, _, rfl, ⟨by decide, by decide⟩, ⟨by decide, by decide⟩, ⟨by decide, by decide⟩, ⟨by omega, by omega⟩, ?_, (Below.refl _ _).alloc (Nat.le_refl _) _⟩
    unfold sw uw; rw [if_neg (by decide)]; omega
  · have hd1 : n / 9223372036854775808 = 0 := by omega
    go_enter Try.func95, Try.ntmps95
    go_wp2
    refine bodyPost_ret (v := .agg #[.int .u64 0, .int .u64 0, .int .u64 0, .int .u64 n]) (by simp [results, Try.results95, go_sem]) rfl ?_
    refine ⟨_, _, _, _, rfl, ⟨by decide, by decide⟩, ⟨by decide, by decide⟩, ⟨by decide, by decide⟩, ⟨by omega, by omega⟩, ?_, (Below.refl _ _).alloc (Nat.le_refl _) _⟩
    unfold sw uw; rw [if_pos (by decide)]; omega
end Go.Proofs.Ytnnojeggjnddpaa

/- Four words in a block of memory, and what is kept of them. -/
namespace Go.Proofs.Ytnnojeggjnddpaa
open Go.RowKit
/-- Four words lie in the block g. -/
structure Wd (W : World) (g : Nat) (a3 a2 a1 a0 : Int) : Prop where
  c0 : W.cell? ⟨g, 0, none⟩ = some (.int .u64 a3)
  c1 : W.cell? ⟨g, 1, none⟩ = some (.int .u64 a2)
  c2 : W.cell? ⟨g, 2, none⟩ = some (.int .u64 a1)
  c3 : W.cell? ⟨g, 3, none⟩ = some (.int .u64 a0)
  f0 : W.frozen? ⟨g, 0, none⟩ = false
  f1 : W.frozen? ⟨g, 1, none⟩ = false
  f2 : W.frozen? ⟨g, 2, none⟩ = false
  f3 : W.frozen? ⟨g, 3, none⟩ = false
  lt : g < W.heap.size
theorem Wd.step {W W' : World} {g : Nat} {a3 a2 a1 a0 : Int} (h : Wd W g a3 a2 a1 a0) (hb : Below W.heap.size W W') : Wd W' g a3 a2 a1 a0 := by
  have hc := fun o => hb.cell (p := ⟨g, o, none⟩) h.lt
  have hf := fun o => hb.frozen (p := ⟨g, o, none⟩) h.lt
  exact ⟨(hc _).trans h.c0, (hc _).trans h.c1, (hc _).trans h.c2, (hc _).trans h.c3, (hf _).trans h.f0, (hf _).trans h.f1, (hf _).trans h.f2, (hf _).trans h.f3, Nat.lt_of_lt_of_le h.lt hb.size⟩
theorem Wd.drew {W : World} {g : Nat} {a3 a2 a1 a0 : Int} (h : Wd W g a3 a2 a1 a0) : Wd W.drew g a3 a2 a1 a0 := ⟨h.c0, h.c1, h.c2, h.c3, h.f0, h.f1, h.f2, h.f3, h.lt⟩
theorem Wd.alloc {W : World} {g : Nat} {a3 a2 a1 a0 : Int} (h : Wd W g a3 a2 a1 a0) (o : Obj) : Wd (W.alloc o) g a3 a2 a1 a0 := h.step ((Below.refl _ _).alloc (Nat.le_refl _) o)
theorem Wd.new (W : World) (a3 a2 a1 a0 : Int) (T : TypeId) {g : Nat} (hg : g = W.heap.size) : Wd (W.alloc (Obj.cells #[Value.int IntKind.u64 a3, Value.int IntKind.u64 a2, Value.int IntKind.u64 a1, Value.int IntKind.u64 a0] T)) g a3 a2 a1 a0 := by
  subst hg
  exact ⟨by simp [go_sem], by simp [go_sem], by simp [go_sem], by simp [go_sem], by simp [go_sem], by simp [go_sem], by simp [go_sem], by simp [go_sem], by simp⟩
theorem Wd.set {W : World} {g R : Nat} {a3 a2 a1 a0 : Int} (h : Wd W g a3 a2 a1 a0) (hne : g ≠ R) (u0 u1 u2 u3 : Value) : Wd ((((W.setCell ⟨R, 0, none⟩ u0).setCell ⟨R, 1, none⟩ u1).setCell ⟨R, 2, none⟩ u2).setCell ⟨R, 3, none⟩ u3) g a3 a2 a1 a0 := by
  have hn : ∀ o j, (⟨R, j, none⟩ : Addr) ≠ ⟨g, o, none⟩ := by intro o j e; simp only [Addr.mk.injEq] at e; exact hne e.1.symm
  have hc : ∀ o, ((((W.setCell ⟨R, 0, none⟩ u0).setCell ⟨R, 1, none⟩ u1).setCell ⟨R, 2, none⟩ u2).setCell ⟨R, 3, none⟩ u3).cell? ⟨g, o, none⟩ = W.cell? ⟨g, o, none⟩ := fun o => by
    rw [World.cell?_setCell_other _ _ _ _ (hn o 3), World.cell?_setCell_other _ _ _ _ (hn o 2), World.cell?_setCell_other _ _ _ _ (hn o 1), World.cell?_setCell_other _ _ _ _ (hn o 0)]
  have hf : ∀ o, ((((W.setCell ⟨R, 0, none⟩ u0).setCell ⟨R, 1, none⟩ u1).setCell ⟨R, 2, none⟩ u2).setCell ⟨R, 3, none⟩ u3).frozen? ⟨g, o, none⟩ = W.frozen? ⟨g, o, none⟩ := fun o => by simp [go_sem]
  exact ⟨(hc _).trans h.c0, (hc _).trans h.c1, (hc _).trans h.c2, (hc _).trans h.c3, (hf _).trans h.f0, (hf _).trans h.f1, (hf _).trans h.f2, (hf _).trans h.f3, by simpa [World.setCell] using h.lt⟩
/-- Two boxed numbers of four words, as a call that takes two finds them. -/
structure TwoW (w W : World) (a3 a2 a1 a0 b3 b2 b1 b0 : Int) : Prop where
  a : Wd W w.heap.size a3 a2 a1 a0
  b : Wd W (w.heap.size + 1) b3 b2 b1 b0
  below : Below w.heap.size w W
theorem TwoW.step {w W W' : World} {a3 a2 a1 a0 b3 b2 b1 b0 : Int} (h : TwoW w W a3 a2 a1 a0 b3 b2 b1 b0) (hb : Below W.heap.size W W') : TwoW w W' a3 a2 a1 a0 b3 b2 b1 b0 := ⟨h.a.step hb, h.b.step hb, h.below.trans (hb.mono h.below.size)⟩
theorem TwoW.drew {w W : World} {a3 a2 a1 a0 b3 b2 b1 b0 : Int} (h : TwoW w W a3 a2 a1 a0 b3 b2 b1 b0) : TwoW w W.drew a3 a2 a1 a0 b3 b2 b1 b0 := ⟨h.a.drew, h.b.drew, h.below.drew⟩
theorem TwoW.alloc {w W : World} {a3 a2 a1 a0 b3 b2 b1 b0 : Int} (h : TwoW w W a3 a2 a1 a0 b3 b2 b1 b0) (o : Obj) : TwoW w (W.alloc o) a3 a2 a1 a0 b3 b2 b1 b0 := h.step ((Below.refl _ _).alloc (Nat.le_refl _) o)
theorem TwoW.set {w W : World} {R : Nat} {a3 a2 a1 a0 b3 b2 b1 b0 : Int} (h : TwoW w W a3 a2 a1 a0 b3 b2 b1 b0) (hR : w.heap.size + 1 < R) (u0 u1 u2 u3 : Value) : TwoW w ((((W.setCell ⟨R, 0, none⟩ u0).setCell ⟨R, 1, none⟩ u1).setCell ⟨R, 2, none⟩ u2).setCell ⟨R, 3, none⟩ u3) a3 a2 a1 a0 b3 b2 b1 b0 :=
  ⟨h.a.set (by omega) _ _ _ _, h.b.set (by omega) _ _ _ _, tell_below h.below (by omega)⟩
/-- What a region that reads both holds on to. -/
def Cells8 (w W : World) (a3 a2 a1 a0 b3 b2 b1 b0 : Int) : Prop :=
  W.cell? ⟨w.heap.size, 0, none⟩ = some (.int .u64 a3) ∧ W.cell? ⟨w.heap.size, 1, none⟩ = some (.int .u64 a2) ∧ W.cell? ⟨w.heap.size, 2, none⟩ = some (.int .u64 a1) ∧ W.cell? ⟨w.heap.size, 3, none⟩ = some (.int .u64 a0) ∧
  W.cell? ⟨w.heap.size + 1, 0, none⟩ = some (.int .u64 b3) ∧ W.cell? ⟨w.heap.size + 1, 1, none⟩ = some (.int .u64 b2) ∧ W.cell? ⟨w.heap.size + 1, 2, none⟩ = some (.int .u64 b1) ∧ W.cell? ⟨w.heap.size + 1, 3, none⟩ = some (.int .u64 b0)
theorem TwoW.cells {w W : World} {a3 a2 a1 a0 b3 b2 b1 b0 : Int} (h : TwoW w W a3 a2 a1 a0 b3 b2 b1 b0) : Cells8 w W a3 a2 a1 a0 b3 b2 b1 b0 := ⟨h.a.c0, h.a.c1, h.a.c2, h.a.c3, h.b.c0, h.b.c1, h.b.c2, h.b.c3⟩
end Go.Proofs.Ytnnojeggjnddpaa

/- The walks of plus and minus of 4 words. -/
namespace Go.Proofs.Ytnnojeggjnddpaa
open Go.RowKit
/-- The difference of two rows of words, cut off. -/
def MinusP (xs ys : List Int) (w : World) (e : Ending) (w' : World) : Prop :=
  ∃ (zs : List Int) (c : Int), e = .returned (.agg (zs.map (Value.int .u64)).toArray) ∧ zs.length = xs.length ∧ Words zs ∧ 0 ≤ c ∧ c ≤ 1 ∧ val64 zs = val64 xs - val64 ys + c * pw64 xs.length ∧ Below w.heap.size w w'
theorem Row.drewd {w : World} {A off : Nat} {xs : List Int} (h : Row w A off xs) : Row w.drew A off xs := row_drew h
theorem row_other {w w' : World} {A B oa ob n : Nat} {xs : List Int} (h : Row w B ob xs) (hw : Wrote A oa n w w') (hne : B ≠ A) : Row w' B ob xs :=
  ⟨fun i hi => (hw.cellOther hne _).trans (h.cell i hi), fun i hi => (hw.frzOther hne _).trans (h.frz i hi), by rw [hw.size]; exact h.lt⟩
theorem list4 {l : List Int} (h : l.length = 4) : ∃ z0 z1 z2 z3, l = [z0, z1, z2, z3] := by
  match l, h with
  | [z0, z1, z2, z3], _ => exact ⟨z0, z1, z2, z3, rfl⟩
theorem row_of4 {w : World} {A : Nat} {x0 x1 x2 x3 : Int} (hl : A < w.heap.size) (h0 : w.cell? ⟨A, 0, none⟩ = some (.int .u64 x0)) (h1 : w.cell? ⟨A, 1, none⟩ = some (.int .u64 x1)) (h2 : w.cell? ⟨A, 2, none⟩ = some (.int .u64 x2)) (h3 : w.cell? ⟨A, 3, none⟩ = some (.int .u64 x3)) (f0 : w.frozen? ⟨A, 0, none⟩ = false) (f1 : w.frozen? ⟨A, 1, none⟩ = false) (f2 : w.frozen? ⟨A, 2, none⟩ = false) (f3 : w.frozen? ⟨A, 3, none⟩ = false) : Row w A 0 [x0, x1, x2, x3] := by
  refine ⟨fun i hi => ?_, fun i hi => ?_, hl⟩
  · simp only [Nat.zero_add]
    match i, hi with
    | 0, _ => exact h0
    | 1, _ => exact h1
    | 2, _ => exact h2
    | 3, _ => exact h3
  · simp only [Nat.zero_add]
    match i, hi with
    | 0, _ => exact f0
    | 1, _ => exact f1
    | 2, _ => exact f2
    | 3, _ => exact f3
theorem row_cells4 {w : World} {A : Nat} {x0 x1 x2 x3 : Int} (h : Row w A 0 [x0, x1, x2, x3]) : w.cell? ⟨A, 0, none⟩ = some (.int .u64 x0) ∧ w.cell? ⟨A, 1, none⟩ = some (.int .u64 x1) ∧ w.cell? ⟨A, 2, none⟩ = some (.int .u64 x2) ∧ w.cell? ⟨A, 3, none⟩ = some (.int .u64 x3) :=
  ⟨by simpa using h.cell 0 (by simp), by simpa using h.cell 1 (by simp), by simpa using h.cell 2 (by simp), by simpa using h.cell 3 (by simp)⟩
theorem row_frz4 {w : World} {A : Nat} {x0 x1 x2 x3 : Int} (h : Row w A 0 [x0, x1, x2, x3]) : w.frozen? ⟨A, 0, none⟩ = false ∧ w.frozen? ⟨A, 1, none⟩ = false ∧ w.frozen? ⟨A, 2, none⟩ = false ∧ w.frozen? ⟨A, 3, none⟩ = false :=
  ⟨by simpa using h.frz 0 (by simp), by simpa using h.frz 1 (by simp), by simpa using h.frz 2 (by simp), by simpa using h.frz 3 (by simp)⟩
theorem minus4_ret {w w1 : World} {xs ys : List Int} {e : Ending} {u0 u1 u2 u3 : Value} (h : MinusP xs ys w e w1) : MinusP xs ys w e ((((w1.setCell ⟨w.heap.size + 1 + 1, 0, none⟩ u0).setCell ⟨w.heap.size + 1 + 1, 1, none⟩ u1).setCell ⟨w.heap.size + 1 + 1, 2, none⟩ u2).setCell ⟨w.heap.size + 1 + 1, 3, none⟩ u3) := by
  obtain ⟨zs, c, h1, h2, h3, h4, h5, h6, h7⟩ := h
  exact ⟨zs, c, h1, h2, h3, h4, h5, h6, ((((h7.setCell (by show w.heap.size ≤ w.heap.size + 1 + 1; omega) _).setCell (by show w.heap.size ≤ w.heap.size + 1 + 1; omega) _).setCell (by show w.heap.size ≤ w.heap.size + 1 + 1; omega) _).setCell (by show w.heap.size ≤ w.heap.size + 1 + 1; omega) _)⟩
set_option maxRecDepth 100000 in
set_option maxHeartbeats 2000000 in
theorem minus4 (x0 x1 x2 x3 y0 y1 y2 y3 : Int) (wx : Words [x0, x1, x2, x3]) (wy : Words [y0, y1, y2, y3]) (w : World) :
    Calls Try.prog 80 #[.agg #[.int .u64 x0, .int .u64 x1, .int .u64 x2, .int .u64 x3], .agg #[.int .u64 y0, .int .u64 y1, .int .u64 y2, .int .u64 y3]] w (MinusP [x0, x1, x2, x3] [y0, y1, y2, y3] w) := by
  have rx : Row (((w.alloc (Obj.cells #[Value.int IntKind.u64 x0, Value.int IntKind.u64 x1, Value.int IntKind.u64 x2, Value.int IntKind.u64 x3] 70)).alloc (Obj.cells #[Value.int IntKind.u64 y0, Value.int IntKind.u64 y1, Value.int IntKind.u64 y2, Value.int IntKind.u64 y3] 70)).alloc (Obj.cells #[Value.int IntKind.u64 0, Value.int IntKind.u64 0, Value.int IntKind.u64 0, Value.int IntKind.u64 0] 70)) w.heap.size 0 [x0, x1, x2, x3] := row_of4 (by simp <;> omega) (by simp [go_sem]) (by simp [go_sem]) (by simp [go_sem]) (by simp [go_sem]) (by simp [go_sem]) (by simp [go_sem]) (by simp [go_sem]) (by simp [go_sem])
  have ry : Row (((w.alloc (Obj.cells #[Value.int IntKind.u64 x0, Value.int IntKind.u64 x1, Value.int IntKind.u64 x2, Value.int IntKind.u64 x3] 70)).alloc (Obj.cells #[Value.int IntKind.u64 y0, Value.int IntKind.u64 y1, Value.int IntKind.u64 y2, Value.int IntKind.u64 y3] 70)).alloc (Obj.cells #[Value.int IntKind.u64 0, Value.int IntKind.u64 0, Value.int IntKind.u64 0, Value.int IntKind.u64 0] 70)) (w.heap.size + 1) 0 [y0, y1, y2, y3] := row_of4 (by simp <;> omega) (by simp [go_sem]) (by simp [go_sem]) (by simp [go_sem]) (by simp [go_sem]) (by simp [go_sem]) (by simp [go_sem]) (by simp [go_sem]) (by simp [go_sem])
  have rr : Row (((w.alloc (Obj.cells #[Value.int IntKind.u64 x0, Value.int IntKind.u64 x1, Value.int IntKind.u64 x2, Value.int IntKind.u64 x3] 70)).alloc (Obj.cells #[Value.int IntKind.u64 y0, Value.int IntKind.u64 y1, Value.int IntKind.u64 y2, Value.int IntKind.u64 y3] 70)).alloc (Obj.cells #[Value.int IntKind.u64 0, Value.int IntKind.u64 0, Value.int IntKind.u64 0, Value.int IntKind.u64 0] 70)) (w.heap.size + 1 + 1) 0 [0, 0, 0, 0] := row_of4 (by simp <;> omega) (by simp [go_sem]) (by simp [go_sem]) (by simp [go_sem]) (by simp [go_sem]) (by simp [go_sem]) (by simp [go_sem]) (by simp [go_sem]) (by simp [go_sem])
  have hB : Below w.heap.size w (((w.alloc (Obj.cells #[Value.int IntKind.u64 x0, Value.int IntKind.u64 x1, Value.int IntKind.u64 x2, Value.int IntKind.u64 x3] 70)).alloc (Obj.cells #[Value.int IntKind.u64 y0, Value.int IntKind.u64 y1, Value.int IntKind.u64 y2, Value.int IntKind.u64 y3] 70)).alloc (Obj.cells #[Value.int IntKind.u64 0, Value.int IntKind.u64 0, Value.int IntKind.u64 0, Value.int IntKind.u64 0] 70)) := (((Below.refl _ _).alloc (Nat.le_refl _) _).alloc (by simp) _).alloc (by simp; omega) _
  go_enter Try.func80, Try.ntmps80
  go_wp2
  generalize ((w.alloc (Obj.cells #[Value.int IntKind.u64 x0, Value.int IntKind.u64 x1, Value.int IntKind.u64 x2, Value.int IntKind.u64 x3] 70)).alloc (Obj.cells #[Value.int IntKind.u64 y0, Value.int IntKind.u64 y1, Value.int IntKind.u64 y2, Value.int IntKind.u64 y3] 70)).alloc (Obj.cells #[Value.int IntKind.u64 0, Value.int IntKind.u64 0, Value.int IntKind.u64 0, Value.int IntKind.u64 0] 70) = W at *
  go_region_with ((go_at_call 110; refine (takeWords_any w.heap.size (w.heap.size + 1) 0 0 4 4 4 4 [x0, x1, x2, x3] [y0, y1, y2, y3] _ rfl rfl wx wy (row_drew rx) (row_drew ry) (by omega) (by omega)).mono ?_; rintro e w1 ⟨zs, c, rfl, h1, h2, h3, h4, h5, h6, h7⟩))
  obtain ⟨z0, z1, z2, z3, rfl⟩ := list4 h1
  have HP : Hid (MinusP [x0, x1, x2, x3] [y0, y1, y2, y3] w (.returned (.agg #[.int .u64 z0, .int .u64 z1, .int .u64 z2, .int .u64 z3])) w1) := ⟨[z0, z1, z2, z3], c, rfl, rfl, h2, h3, h4, h5, (hB.drew).trans (h7.below (Nat.le_refl _))⟩
  obtain ⟨c0, c1, c2, c3⟩ := row_cells4 h6
  have rr1 := row_other rr.drewd h7 (by omega)
  obtain ⟨g0, g1, g2, g3⟩ := row_cells4 rr1
  obtain ⟨f0, f1, f2, f3⟩ := row_frz4 rr1
  have hne : w.heap.size + 1 + 1 ≠ w.heap.size := by omega
  clear rx ry rr hB h2 h3 h4 h5 h6 h7 h1 rr1
  go_wp2
  refine bodyPost_ret (v := .agg #[.int .u64 z0, .int .u64 z1, .int .u64 z2, .int .u64 z3]) (by simp [results, Try.results80, go_sem, g0, g1, g2, g3]) rfl ?_
  exact minus4_ret HP.out
end Go.Proofs.Ytnnojeggjnddpaa

/- The walks of words made from four words and back. -/
namespace Go.Proofs.Ytnnojeggjnddpaa
open Go.RowKit
set_option maxRecDepth 100000 in
set_option maxHeartbeats 400000 in
theorem wordsOf_any (a3 a2 a1 a0 : Int) (w : World) :
    Calls Try.prog 70 #[.agg #[.int .u64 a3, .int .u64 a2, .int .u64 a1, .int .u64 a0]] w (WideP a0 a1 a2 a3 w) := by
  go_enter Try.func70, Try.ntmps70
  go_wp2
  refine bodyPost_ret (v := .agg #[.int .u64 a0, .int .u64 a1, .int .u64 a2, .int .u64 a3]) (by simp [results, Try.results70, go_sem]) rfl ?_
  exact ⟨rfl, ((Below.refl _ _).alloc (Nat.le_refl _) _).alloc (by simp) _⟩
theorem words4 {a0 a1 a2 a3 : Int} (h0 : Word a0) (h1 : Word a1) (h2 : Word a2) (h3 : Word a3) : Words [a0, a1, a2, a3] := by
  intro d hd
  simp only [List.mem_cons, List.not_mem_nil, or_false] at hd
  rcases hd with rfl | rfl | rfl | rfl
  · exact h0
  · exact h1
  · exact h2
  · exact h3
theorem words4_of {a0 a1 a2 a3 : Int} (h : Words [a0, a1, a2, a3]) : Word a0 ∧ Word a1 ∧ Word a2 ∧ Word a3 := ⟨h _ (by simp), h _ (by simp), h _ (by simp), h _ (by simp)⟩
theorem val64_4 (a0 a1 a2 a3 : Int) : val64 [a0, a1, a2, a3] = uw a3 a2 a1 a0 := by simp only [val64, uw]; omega
end Go.Proofs.Ytnnojeggjnddpaa

/- The walks of the program's sum and difference of four words. -/
namespace Go.Proofs.Ytnnojeggjnddpaa
open Go.RowKit
theorem Wd.stored {W : World} {g : Nat} {a3 a2 a1 a0 : Int} (h : Wd W g a3 a2 a1 a0) (z3 z2 z1 z0 : Int) : Wd ((((W.setCell ⟨g, 0, none⟩ (.int .u64 z3)).setCell ⟨g, 1, none⟩ (.int .u64 z2)).setCell ⟨g, 2, none⟩ (.int .u64 z1)).setCell ⟨g, 3, none⟩ (.int .u64 z0)) g z3 z2 z1 z0 := by
  have e0 := h.c0; have e1 := h.c1; have e2 := h.c2; have e3 := h.c3
  have p0 := h.f0; have p1 := h.f1; have p2 := h.f2; have p3 := h.f3
  exact ⟨by simp [go_sem, e0], by simp [go_sem, e1], by simp [go_sem, e2], by simp [go_sem, e3], by simp [go_sem, p0], by simp [go_sem, p1], by simp [go_sem, p2], by simp [go_sem, p3], by simpa [World.setCell] using h.lt⟩
end Go.Proofs.Ytnnojeggjnddpaa

/- The walk of the program's comparison of four words. -/
namespace Go.Proofs.Ytnnojeggjnddpaa
open Go.RowKit
theorem pw64_pos (n : Nat) : 0 < pw64 n := by
  induction n with
  | zero => simp [pw64]
  | succ n ih => simp only [pw64]; omega
theorem val64_lt {a : List Int} (h : Words a) : 0 ≤ val64 a ∧ val64 a < pw64 a.length := by
  induction a with
  | nil => simp [val64, pw64]
  | cons d t ih =>
    have h1 := h d (by simp)
    have h2 := ih (fun x hx => h x (by simp [hx]))
    unfold Word at h1
    simp only [val64, List.length_cons, pw64]; omega
theorem val64_append (a b : List Int) : val64 (a ++ b) = val64 a + pw64 a.length * val64 b := by
  induction a with
  | nil => simp [val64, pw64]
  | cons d t ih => simp only [List.cons_append, val64, List.length_cons, pw64, ih]; grind
theorem val64_split (a : List Int) (k : Nat) (h : k < a.length) : val64 a = val64 (a.take k) + pw64 k * (a[k] + 18446744073709551616 * val64 (a.drop (k + 1))) := by
  have h1 := val64_append (a.take k) (a.drop k)
  rw [List.take_append_drop, List.drop_eq_getElem_cons h] at h1
  simpa [val64, Nat.min_eq_left (Nat.le_of_lt h)] using h1
end Go.Proofs.Ytnnojeggjnddpaa

/- The walks of a number's size without its sign, of the count of its words and of its bits, and of the law over them. -/
namespace Go.Proofs.Ytnnojeggjnddpaa
open Go.RowKit
theorem wd0 : Word 0 := ⟨by decide, by decide⟩
/-- Four words that stand for a number without its sign, the lowest first. -/
def SizeP (z : Int) (w : World) (e : Ending) (w' : World) : Prop :=
  ∃ x3 x2 x1 x0, e = .returned (.agg #[.int .u64 x0, .int .u64 x1, .int .u64 x2, .int .u64 x3]) ∧ Word x3 ∧ Word x2 ∧ Word x1 ∧ Word x0 ∧ uw x3 x2 x1 x0 = (z.natAbs : Int) ∧ Below w.heap.size w w'
theorem sizeP_set {z : Int} {w W : World} {R : Nat} {e : Ending} {u0 u1 u2 u3 : Value} (hR : w.heap.size ≤ R) (h : SizeP z w e W) : SizeP z w e ((((W.setCell ⟨R, 0, none⟩ u0).setCell ⟨R, 1, none⟩ u1).setCell ⟨R, 2, none⟩ u2).setCell ⟨R, 3, none⟩ u3) := by
  obtain ⟨x3, x2, x1, x0, e1, h3, h2, h1, h0, hu, hB⟩ := h
  exact ⟨x3, x2, x1, x0, e1, h3, h2, h1, h0, hu, tell_below hB hR⟩
set_option maxRecDepth 100000 in
set_option maxHeartbeats 1000000 in
theorem sizeOf_any (a3 a2 a1 a0 : Int) (h3 : Word a3) (h2 : Word a2) (h1 : Word a1) (h0 : Word a0) (w : World) :
    Calls Try.prog 45 #[.agg #[.int .u64 a3, .int .u64 a2, .int .u64 a1, .int .u64 a0]] w (SizeP (sw a3 a2 a1 a0) w) := by
  have hn := sw_neg h3 h2 h1 h0
  have A0 : Wd ((w.alloc (Obj.cells #[Value.int IntKind.u64 a3, Value.int IntKind.u64 a2, Value.int IntKind.u64 a1, Value.int IntKind.u64 a0] 26)).alloc (Obj.cells #[Value.int IntKind.u64 0, Value.int IntKind.u64 0, Value.int IntKind.u64 0, Value.int IntKind.u64 0] 70)) w.heap.size a3 a2 a1 a0 := (Wd.new _ _ _ _ _ 26 rfl).alloc _
  have R0 : Wd ((w.alloc (Obj.cells #[Value.int IntKind.u64 a3, Value.int IntKind.u64 a2, Value.int IntKind.u64 a1, Value.int IntKind.u64 a0] 26)).alloc (Obj.cells #[Value.int IntKind.u64 0, Value.int IntKind.u64 0, Value.int IntKind.u64 0, Value.int IntKind.u64 0] 70)) (w.heap.size + 1) 0 0 0 0 := Wd.new _ 0 0 0 0 70 (by simp)
  have HB : Below w.heap.size w ((w.alloc (Obj.cells #[Value.int IntKind.u64 a3, Value.int IntKind.u64 a2, Value.int IntKind.u64 a1, Value.int IntKind.u64 a0] 26)).alloc (Obj.cells #[Value.int IntKind.u64 0, Value.int IntKind.u64 0, Value.int IntKind.u64 0, Value.int IntKind.u64 0] 70)) := ((Below.refl _ _).alloc (Nat.le_refl _) _).alloc (by simp) _
  by_cases hp : 9223372036854775808 ≤ a3
  · have hb : (a3 / 9223372036854775808 == 1) = true := beq_iff_eq.2 (by have := h3.2; omega)
    go_enter Try.func45, Try.ntmps45
    go_wp2_with fail
    refine (isBelow_any a3 a2 a1 a0 h3 true hb _).mono ?_
    rintro e w1 ⟨rfl, hB⟩
    replace A0 := A0.step hB
    replace R0 := R0.step hB
    replace HB := HB.trans (hB.mono HB.size)
    clear hB
    have i0 := A0.c0; have i1 := A0.c1; have i2 := A0.c2; have i3 := A0.c3
    go_wp2_with fail
    refine (wordsOf_any a3 a2 a1 a0 _).mono ?_
    rintro e w2 ⟨rfl, hB⟩
    replace R0 := R0.step hB
    replace HB := HB.trans (hB.mono HB.size)
    clear hB A0 i0 i1 i2 i3
    go_wp2_with fail
    refine (minus4 0 0 0 0 a0 a1 a2 a3 (words4 wd0 wd0 wd0 wd0) (words4 h0 h1 h2 h3) _).mono ?_
    rintro e w3 ⟨zs, c, rfl, g1, g2, g3, g4, g5, hB⟩
    obtain ⟨z0, z1, z2, z3, rfl⟩ := list4 g1
    obtain ⟨l0, l1, l2, l3⟩ := words4_of g2
    rw [val64_4, val64_4, val64_4, show [(0 : Int), 0, 0, 0].length = 4 from rfl] at g5
    replace R0 := R0.step hB
    replace HB := HB.trans (hB.mono HB.size)
    have HP : Hid (SizeP (sw a3 a2 a1 a0) w (.returned (.agg #[.int .u64 z0, .int .u64 z1, .int .u64 z2, .int .u64 z3])) w3) := by
      refine ⟨z3, z2, z1, z0, rfl, l3, l2, l1, l0, ?_, HB⟩
      have e1 : pw64 4 = 115792089237316195423570985008687907853269984665640564039457584007913129639936 := by decide
      rw [e1] at g5
      have e2 : sw a3 a2 a1 a0 = uw a3 a2 a1 a0 - 115792089237316195423570985008687907853269984665640564039457584007913129639936 := by unfold sw; rw [if_neg (by omega)]
      have e3 := uw_bound h3 h2 h1 h0
      have e4 := uw_bound l3 l2 l1 l0
      have e5 : uw 0 0 0 0 = 0 := by decide
      have e6 : uw a3 a2 a1 a0 ≠ 0 := by unfold uw; unfold Word at *; omega
      omega
    have r0 := R0.c0; have r1 := R0.c1; have r2 := R0.c2; have r3 := R0.c3; have f0 := R0.f0; have f1 := R0.f1; have f2 := R0.f2; have f3 := R0.f3
    clear hB g5 g1 g2 g3 g4 HB R0
    go_wp2
    refine bodyPost_ret (v := .agg #[.int .u64 z0, .int .u64 z1, .int .u64 z2, .int .u64 z3]) (by simp [results, Try.results45, go_sem, r0, r1, r2, r3]) rfl ?_
    exact sizeP_set (Nat.le_succ _) HP.out
  · have hb : (a3 / 9223372036854775808 == 1) = false := beq_eq_false_iff_ne.2 (by have := h3.1; omega)
    go_enter Try.func45, Try.ntmps45
    go_wp2_with fail
    refine (isBelow_any a3 a2 a1 a0 h3 false hb _).mono ?_
    rintro e w1 ⟨rfl, hB⟩
    replace A0 := A0.step hB
    replace R0 := R0.step hB
    replace HB := HB.trans (hB.mono HB.size)
    clear hB
    have i0 := A0.c0; have i1 := A0.c1; have i2 := A0.c2; have i3 := A0.c3
    go_wp2_with fail
    refine (wordsOf_any a3 a2 a1 a0 _).mono ?_
    rintro e w2 ⟨rfl, hB⟩
    replace R0 := R0.step hB
    replace HB := HB.trans (hB.mono HB.size)
    have HP : Hid (SizeP (sw a3 a2 a1 a0) w (.returned (.agg #[.int .u64 a0, .int .u64 a1, .int .u64 a2, .int .u64 a3])) w2) := by
      refine ⟨a3, a2, a1, a0, rfl, h3, h2, h1, h0, ?_, HB⟩
      have e2 : sw a3 a2 a1 a0 = uw a3 a2 a1 a0 := by unfold sw; rw [if_pos (by omega)]
      have e3 := uw_bound h3 h2 h1 h0
      omega
    have r0 := R0.c0; have r1 := R0.c1; have r2 := R0.c2; have r3 := R0.c3; have f0 := R0.f0; have f1 := R0.f1; have f2 := R0.f2; have f3 := R0.f3
    clear hB HB R0 A0 i0 i1 i2 i3
    go_wp2
    refine bodyPost_ret (v := .agg #[.int .u64 a0, .int .u64 a1, .int .u64 a2, .int .u64 a3]) (by simp [results, Try.results45, go_sem, r0, r1, r2, r3]) rfl ?_
    exact sizeP_set (Nat.le_succ _) HP.out
/-- How many words are left when those that are 0 at the high end are cut off. -/
def CountP (xs : List Int) (w : World) (e : Ending) (w' : World) : Prop :=
  ∃ n : Nat, e = .returned (.int .i64 n) ∧ n ≤ xs.length ∧ (∀ j, n ≤ j → (h : j < xs.length) → xs[j] = 0) ∧ (∀ m, n = m + 1 → (h : m < xs.length) → xs[m] ≠ 0) ∧ w' = w
theorem count_some (w : World) {xs : List Int} {m : Nat} (hm : m < xs.length) (h0 : xs[m] ≠ 0) (hz : ∀ j, m + 1 ≤ j → (h : j < xs.length) → xs[j] = 0) (v : Int) (hv : v = ((m + 1 : Nat) : Int)) : CountP xs w (.returned (.int .i64 v)) w :=
  ⟨m + 1, by rw [hv], hm, hz, fun i hi hl => by
    have : m = i := by omega
    subst this
    exact h0, rfl⟩
set_option maxRecDepth 100000 in
set_option maxHeartbeats 400000 in
theorem countWords_any (A off n cap : Nat) (xs : List Int) (w : World) (hn : xs.length = n) (hr : Row w A off xs) (hm : n ≤ 1000) :
    Calls Try.prog 72 #[.slice (some ⟨A, off, none⟩) n cap] w (CountP xs w) := by
  go_enter Try.func72, Try.ntmps72
  go_wp2
  go_loop [3] (fun i => ∃ k : Nat, k ≤ n ∧ i = .int .i64 k ∧ ∀ j, k ≤ j → (h : j < xs.length) → xs[j] = 0) (fun i => (intOf i).toNat)
  case atStart => exact ⟨n, Nat.le_refl _, rfl, fun j h1 h2 => by omega⟩
  case round =>
    obtain ⟨k, hk, rfl, hz⟩ := hrel
    have HN : Hid (xs.length = n) := hn
    have HZ : Hid (∀ j, k ≤ j → (h : j < xs.length) → xs[j] = 0) := hz
    have HR : Hid (Row w A off xs) := hr
    clear hz hr hn
    by_cases hk0 : 0 < k
    · obtain ⟨m, rfl⟩ : ∃ m, k = m + 1 := ⟨k - 1, by omega⟩
      have hml : m < xs.length := by have := HN.out; omega
      have hcell := HR.out.cell m hml
      go_wp2
      · go_round
        case rel =>
          have h0 : (xs[m] == 0) = true := by assumption
          exact ⟨m, by omega, by go_num, fun j h1 h2 => by
            by_cases e : j = m
            · subst e; simpa using h0
            · exact HZ.out j (by omega) h2⟩
        case measure => simp [intOf]
      · have h0 : (xs[m] == 0) = false := by assumption
        go_ret
        exact count_some w hml (by simpa using h0) HZ.out _ (by omega)
    · go_wp2
      go_ret
      exact ⟨k, rfl, by have := HN.out; omega, HZ.out, fun i hi => by omega, rfl⟩
/-- The bits of words by those of the highest one that is not 0. -/
theorem bits_words {xs : List Int} (hw : Words xs) (m : Nat) (hm : m < xs.length) (hz : ∀ j, m + 1 ≤ j → (h : j < xs.length) → xs[j] = 0) (h0 : xs[m] ≠ 0) {b : Nat} (hb : BitsOf xs[m] b) : BitsOf (val64 xs) (64 * m + b) := by
  have hd : val64 (xs.drop (m + 1)) = 0 := by
    have e : xs.drop (m + 1) = List.replicate (xs.length - (m + 1)) 0 := by
      apply List.ext_getElem
      · simp
      · intro i h1 h2
        simp only [List.getElem_drop, List.getElem_replicate]
        exact hz _ (by omega) _
    rw [e]
    generalize xs.length - (m + 1) = q
    induction q with
    | zero => rfl
    | succ q ih => simp [List.replicate_succ, val64, ih]
  have hl := val64_lt (a := xs.take m) (fun x hx => hw x (List.mem_of_mem_take hx))
  have e3 : (xs.take m).length = m := by simp; omega
  rw [e3] at hl
  rw [val64_split xs m hm, hd]
  simp only [Int.mul_zero, Int.add_zero]
  have hp : (2 : Int) ^ (64 * m) = pw64 m := by
    clear hd hl e3 hz h0 hb hm
    induction m with
    | zero => rfl
    | succ m ih => rw [show 64 * (m + 1) = 64 * m + 64 by omega, Int.pow_add, ih, pw64, show (2 : Int) ^ 64 = 18446744073709551616 by decide, Int.mul_comm]
  obtain ⟨g0, g1, g2⟩ := hb
  have p0 := pw64_pos m
  generalize xs[m] = t at *
  have ht : 0 < t := by omega
  refine ⟨by have := Int.mul_nonneg (Int.le_of_lt p0) g0; omega, ?_, Or.inr ?_⟩
  · rw [Int.pow_add, hp]
    have : pw64 m * (t + 1) ≤ pw64 m * 2 ^ b := Int.mul_le_mul_of_nonneg_left (by omega) (by omega)
    rw [Int.mul_add] at this
    omega
  · have hb0 : b ≠ 0 := by rintro rfl; simp at g1; omega
    rcases g2 with g2 | g2
    · exact absurd g2 hb0
    · rw [show 64 * m + b - 1 = 64 * m + (b - 1) by omega, Int.pow_add, hp]
      have : pw64 m * 2 ^ (b - 1) ≤ pw64 m * t := Int.mul_le_mul_of_nonneg_left g2 (by omega)
      omega
set_option maxRecDepth 100000 in
set_option maxHeartbeats 1000000 in
theorem implBits_any (a3 a2 a1 a0 : Int) (h3 : Word a3) (h2 : Word a2) (h1 : Word a1) (h0 : Word a0) (w : World) :
    Calls Try.prog 35 #[.agg #[.int .u64 a3, .int .u64 a2, .int .u64 a1, .int .u64 a0]] w (BitsP ((sw a3 a2 a1 a0).natAbs : Int) w) := by
  go_enter Try.func35, Try.ntmps35
  go_wp2_with fail
  refine (sizeOf_any a3 a2 a1 a0 h3 h2 h1 h0 _).mono ?_
  rintro e w1 ⟨x3, x2, x1, x0, rfl, l3, l2, l1, l0, hu, hB⟩
  have hB1 : Below w.heap.size w w1 := ((Below.refl _ _).alloc (Nat.le_refl _) _).trans (hB.mono (by simp))
  clear hB
  have HU : Hid (uw x3 x2 x1 x0 = ((sw a3 a2 a1 a0).natAbs : Int)) := hu
  clear hu
  have G0 := Wd.new w1 x0 x1 x2 x3 70 rfl
  have HR := row_of4 G0.lt G0.c0 G0.c1 G0.c2 G0.c3 G0.f0 G0.f1 G0.f2 G0.f3
  have hB2 := hB1.alloc hB1.size (Obj.cells #[Value.int IntKind.u64 x0, Value.int IntKind.u64 x1, Value.int IntKind.u64 x2, Value.int IntKind.u64 x3] 70)
  clear G0
  go_wp2_with fail
  refine (countWords_any w1.heap.size 0 4 4 [x0, x1, x2, x3] _ rfl HR (by omega)).mono ?_
  rintro e w2 ⟨n, rfl, hn, hz, hnz, rfl⟩
  have HW := words4 l0 l1 l2 l3
  have HV := val64_4 x0 x1 x2 x3
  generalize hxs : [x0, x1, x2, x3] = xs at *
  have hlx : xs.length = 4 := by rw [← hxs]; rfl
  rw [hlx] at hn
  by_cases hn0 : n = 0
  · subst hn0
    have hv0 : val64 xs = 0 := by
      rw [HV]
      have c0 := hz 0 (by omega) (by omega); have c1 := hz 1 (by omega) (by omega); have c2 := hz 2 (by omega) (by omega); have c3 := hz 3 (by omega) (by omega)
      subst hxs
      simp at c0 c1 c2 c3
      subst c0 c1 c2 c3
      decide
    have HE : Hid (((sw a3 a2 a1 a0).natAbs : Int) = 0) := by show _ = _; rw [← HU.out, ← HV, hv0]
    clear hz hnz HR HW HV hv0 hlx hxs
    go_wp2
    go_ret
    exact ⟨0, rfl, by rw [HE.out]; exact ⟨by decide, by decide, Or.inl rfl⟩, hB2⟩
  · obtain ⟨m, rfl⟩ : ∃ m, n = m + 1 := ⟨n - 1, by omega⟩
    have hml : m < xs.length := by omega
    have hnz' := hnz m rfl hml
    have hc := HR.cell m hml
    rw [Nat.zero_add] at hc
    have hwm := words_at HW m hml
    have HB := fun b hb => bits_words HW m hml hz hnz' (b := b) hb
    rw [HV, HU.out] at HB
    have HB' : Hid (∀ b : Nat, BitsOf xs[m] b → BitsOf ((sw a3 a2 a1 a0).natAbs : Int) (64 * m + b)) := HB
    have hm4 : (m : Int) < 4 := by omega
    have hmn : ((m : Int) + 1 == 0) = false := beq_eq_false_iff_ne.2 (by omega)
    clear hz hnz HR HW HV hxs HB hnz'
    go_wp2_with fail
    refine (len64_any xs[m] hwm _).mono ?_
    rintro e w3 ⟨b, rfl, hb, hB3⟩
    have hb64 : b ≤ 64 := (bits_le hb 64).2 (by rw [show (2 : Int) ^ 64 = 18446744073709551616 by decide]; exact hwm.2)
    have HH : Hid (BitsOf ((sw a3 a2 a1 a0).natAbs : Int) (64 * m + b)) := HB'.out b hb
    have hB4 := hB2.trans (hB3.mono hB2.size)
    clear hb hB3 hB2 HB'
    go_wp2
    go_ret
    exact ⟨64 * m + b, ret_int (by omega), HH.out, hB4⟩
end Go.Proofs.Ytnnojeggjnddpaa

/- Numbers in decimal: the digits of a number, the number of digits; the reckoning, of no program. -/
namespace Go.Proofs.Ytnnojeggjnddpaa
/-- A text of these bytes. -/
def strL (l : List Nat) : ByteArray := strOfNums (l.map fun (n : Nat) => (n : Int))
/-- The bytes of a text. -/
def btL (s : ByteArray) : List Nat := s.data.toList.map UInt8.toNat
theorem btL_len (s : ByteArray) : (btL s).length = s.size := by
  unfold btL
  rw [List.length_map]
  rfl
theorem strL_size (l : List Nat) : (strL l).size = l.length := by simp [strL, strOfNums_size]
theorem strL_btL (s : ByteArray) : strL (btL s) = s := by
  obtain ⟨⟨l⟩⟩ := s
  simp only [strL, btL, strOfNums, List.map_map]
  congr 2
  conv => rhs; rw [← List.map_id l]
  exact List.map_congr_left fun x _ => by simp
theorem btL_strL {l : List Nat} (h : ∀ b ∈ l, b < 256) : btL (strL l) = l := by
  unfold btL strL
  rw [strOfNums_data, List.map_map, List.map_map]
  conv => rhs; rw [← List.map_id l]
  exact List.map_congr_left fun x hx => by
    have := h x hx
    simp
    omega
theorem btL_lt (s : ByteArray) : ∀ b ∈ btL s, b < 256 := by
  intro b hb
  obtain ⟨x, _, rfl⟩ := List.mem_map.1 hb
  exact x.toNat_lt
theorem strL_append (a b : List Nat) : strL (a ++ b) = strL a ++ strL b := by
  apply ByteArray.ext
  simp [strL, strOfNums]
theorem btL_inj {a b : ByteArray} (h : btL a = btL b) : a = b := by rw [← strL_btL a, h, strL_btL]
theorem snocRec {P : List Nat → Prop} (h0 : P []) (h1 : ∀ l b, P l → P (l ++ [b])) (l : List Nat) : P l := by
  rw [← List.reverse_reverse l]
  induction l.reverse with
  | nil => exact h0
  | cons a t ih => rw [List.reverse_cons]; exact h1 _ _ ih
theorem head_app {a b : List Nat} (h : a ≠ []) : (a ++ b).head? = a.head? := by
  cases a with
  | nil => exact absurd rfl h
  | cons x t => rfl
/-- The digits of a number; 0 has none. -/
def dg (n : Nat) : List Nat := if n = 0 then [] else dg (n / 10) ++ [48 + n % 10]
termination_by n
decreasing_by omega
theorem dg_zero : dg 0 = [] := by rw [dg]; rfl
theorem dg_step {n : Nat} (h : 0 < n) : dg n = dg (n / 10) ++ [48 + n % 10] := by rw [dg, if_neg (by omega)]
theorem dg_ne {n : Nat} (h : 0 < n) : dg n ≠ [] := by rw [dg_step h]; simp
theorem dg_len (k : Nat) : ∀ n : Nat, n < 10 ^ k → (dg n).length ≤ k := by
  induction k with
  | zero => intro n h; obtain rfl : n = 0 := by simpa using h
            simp [dg_zero]
  | succ k ih =>
    intro n h
    rcases Nat.eq_zero_or_pos n with rfl | hp
    · simp [dg_zero]
    · rw [dg_step hp]
      have := ih (n / 10) (by rw [Nat.pow_succ] at h; omega)
      simp
      omega
/-- The digits of a number as they are written. -/
def dgs (n : Nat) : List Nat := dg (n / 10) ++ [48 + n % 10]
theorem dgs_pos {n : Nat} (h : 0 < n) : dgs n = dg n := by rw [dg_step h]; rfl
theorem dgs_zero : dgs 0 = [48] := by unfold dgs; rw [show 0 / 10 = 0 from rfl, dg_zero]; rfl
theorem dgs_len {k n : Nat} (hk : 0 < k) (h : n < 10 ^ k) : (dgs n).length ≤ k := by
  rcases Nat.eq_zero_or_pos n with rfl | hp
  · rw [dgs_zero]; exact hk
  · rw [dgs_pos hp]; exact dg_len k n h
/-- A number's text. -/
def txL (z : Int) : List Nat := (if z < 0 then [45] else []) ++ dgs z.natAbs
def txS (z : Int) : ByteArray := strL (txL z)
/-- A byte that is a digit. -/
def isD (b : Nat) : Prop := 48 ≤ b ∧ b ≤ 57
theorem dg_isD (n : Nat) : ∀ b ∈ dg n, isD b := by
  induction n using Nat.strongRecOn with
  | ind n ih =>
    rcases Nat.eq_zero_or_pos n with rfl | hp
    · simp [dg_zero]
    · rw [dg_step hp]
      intro b hb
      rcases List.mem_append.1 hb with h | h
      · exact ih (n / 10) (by omega) b h
      · rw [List.mem_singleton] at h; subst h; constructor <;> omega
theorem dgs_isD (n : Nat) : ∀ b ∈ dgs n, isD b := by
  intro b hb
  rcases List.mem_append.1 hb with h | h
  · exact dg_isD _ b h
  · rw [List.mem_singleton] at h; subst h; constructor <;> omega
theorem txL_lt (z : Int) : ∀ b ∈ txL z, b < 256 := by
  intro b hb
  rcases List.mem_append.1 hb with h | h
  · split at h
    · simp at h; omega
    · simp at h
  · have := dgs_isD _ b h; unfold isD at this; omega
/-- The number of these digits. -/
def rdN (l : List Nat) : Nat := l.foldl (fun n b => 10 * n + (b - 48)) 0
theorem rdN_nil : rdN [] = 0 := rfl
theorem rdN_snoc (l : List Nat) (b : Nat) : rdN (l ++ [b]) = 10 * rdN l + (b - 48) := by simp [rdN]
theorem rdN_take (l : List Nat) (k : Nat) (h : k < l.length) : rdN (l.take (k + 1)) = 10 * rdN (l.take k) + (l[k] - 48) := by
  rw [List.take_succ_eq_append_getElem h, rdN_snoc]
theorem rdN_lt (l : List Nat) (h : ∀ b ∈ l, isD b) : rdN l < 10 ^ l.length := by
  induction l using snocRec with
  | h0 => simp [rdN]
  | h1 l b ih =>
    rw [rdN_snoc]
    have h1 := ih fun x hx => h x (List.mem_append_left _ hx)
    have h2 := h b (by simp)
    unfold isD at h2
    simp [Nat.pow_succ]
    omega
theorem rdN_dg (n : Nat) : rdN (dg n) = n := by
  induction n using Nat.strongRecOn with
  | ind n ih =>
    rcases Nat.eq_zero_or_pos n with rfl | hp
    · simp [dg_zero, rdN]
    · rw [dg_step hp, rdN_snoc, ih (n / 10) (by omega)]
      omega
theorem rdN_dgs (n : Nat) : rdN (dgs n) = n := by unfold dgs; rw [rdN_snoc, rdN_dg]; omega
theorem dg_head (n : Nat) : (dg n).head? ≠ some 48 := by
  induction n using Nat.strongRecOn with
  | ind n ih =>
    rcases Nat.eq_zero_or_pos n with rfl | hp
    · simp [dg_zero]
    · rw [dg_step hp]
      by_cases h : n / 10 = 0
      · rw [h, dg_zero]; simp; omega
      · have := ih (n / 10) (by omega)
        have h2 := dg_ne (n := n / 10) (by omega)
        rw [head_app h2]
        exact this
theorem dg_rdN (l : List Nat) (h : ∀ b ∈ l, isD b) (h0 : l.head? ≠ some 48) : dg (rdN l) = l := by
  induction l using snocRec with
  | h0 => simp [rdN, dg_zero]
  | h1 l b ih =>
    have hb := h b (by simp)
    unfold isD at hb
    rw [rdN_snoc]
    rcases List.eq_nil_or_concat l with rfl | ⟨l', c, hl⟩
    · have h1 : b ≠ 48 := by simpa using h0
      rw [rdN_nil, dg_step (by omega), show (10 * 0 + (b - 48)) / 10 = 0 by omega, dg_zero]
      simp
      omega
    · have hne : l ≠ [] := by rw [hl]; simp
      have h1 : l.head? ≠ some 48 := by rw [head_app hne] at h0; exact h0
      have h2 := ih (fun x hx => h x (List.mem_append_left _ hx)) h1
      have h3 : 0 < rdN l := by
        rcases Nat.eq_zero_or_pos (rdN l) with h4 | h4
        · rw [h4, dg_zero] at h2; exact absurd h2.symm hne
        · exact h4
      rw [dg_step (by omega), show (10 * rdN l + (b - 48)) / 10 = rdN l by omega, h2, show 48 + (10 * rdN l + (b - 48)) % 10 = b by omega]
/-- That these bytes, with no sign, are a number in decimal. -/
def DecL (l : List Nat) : Prop := l ≠ [] ∧ (l.head? = some 48 → l = [48]) ∧ ∀ b ∈ l, isD b
theorem dgs_dec (n : Nat) : DecL (dgs n) := by
  refine ⟨by unfold dgs; simp, ?_, dgs_isD n⟩
  rcases Nat.eq_zero_or_pos n with rfl | hp
  · intro _; exact dgs_zero
  · intro h; rw [dgs_pos hp] at h; exact absurd h (dg_head n)
theorem dgs_rdN {l : List Nat} (h : DecL l) : dgs (rdN l) = l := by
  obtain ⟨h1, h2, h3⟩ := h
  by_cases h0 : l.head? = some 48
  · rw [h2 h0]; exact dgs_zero
  · have h4 := dg_rdN l h3 h0
    rcases Nat.eq_zero_or_pos (rdN l) with h5 | h5
    · rw [h5, dg_zero] at h4; exact absurd h4.symm h1
    · rw [dgs_pos h5, h4]
end Go.Proofs.Ytnnojeggjnddpaa

/- A tenth of a number of four words, and the rest. -/
namespace Go.Proofs.Ytnnojeggjnddpaa
open Go.RowKit
end Go.Proofs.Ytnnojeggjnddpaa

/- The words of a number, as its bits lie. -/
namespace Go.Proofs.Ytnnojeggjnddpaa
open Go.RowKit
/-- The words of a number, as its bits lie. -/
def ww0 (z : Int) : Int := z % 18446744073709551616
def ww1 (z : Int) : Int := z / 18446744073709551616 % 18446744073709551616
def ww2 (z : Int) : Int := z / 340282366920938463463374607431768211456 % 18446744073709551616
def ww3 (z : Int) : Int := z / 6277101735386680763835789423207666416102355444464034512896 % 18446744073709551616
theorem wd_of {a3 a2 a1 a0 z : Int} (h3 : Word a3) (h2 : Word a2) (h1 : Word a1) (h0 : Word a0) (h : sw a3 a2 a1 a0 = z) : a3 = ww3 z ∧ a2 = ww2 z ∧ a1 = ww1 z ∧ a0 = ww0 z := by
  unfold Word sw uw ww3 ww2 ww1 ww0 at *
  split at h <;> omega
abbrev W4 (z : Int) : Value := .agg #[.int .u64 (ww3 z), .int .u64 (ww2 z), .int .u64 (ww1 z), .int .u64 (ww0 z)]
def VP (v : Value) (w : World) (e : Ending) (w' : World) : Prop := e = .returned v ∧ Below w.heap.size w w'
end Go.Proofs.Ytnnojeggjnddpaa

/- Two rows of four values, and a flag, laid behind the arguments. -/
namespace Go.Proofs.Ytnnojeggjnddpaa
open Go.RowKit
theorem Blk.stored4g {W : World} {g : Nat} {z0 z1 z2 z3 : Value} (G : Blk W g [z0, z1, z2, z3]) (v0 v1 v2 v3 : Value) : Blk ((((W.setCell ⟨g, 0, none⟩ v0).setCell ⟨g, 1, none⟩ v1).setCell ⟨g, 2, none⟩ v2).setCell ⟨g, 3, none⟩ v3) g [v0, v1, v2, v3] :=
  (((G.setI 0 (by simp) v0).setI 1 (by simp) v1).setI 2 (by simp) v2).setI 3 (by simp) v3
def CutY (w wx : World) (vss : List (List Value)) (xs ys : List Value) (b : Bool) (p q r : Value) : Prop :=
  ∃ g g', p = (.pointer (some ⟨g, 0, none⟩)) ∧ q = (.pointer (some ⟨g', 0, none⟩)) ∧ r = .bool b ∧ g ≠ g' ∧ w.heap.size + vss.length ≤ g ∧ w.heap.size + vss.length ≤ g' ∧ ArgsB w wx vss ∧ Blk wx g xs ∧ Blk wx g' ys
theorem CutY.drew {w wx : World} {vss : List (List Value)} {xs ys : List Value} {b : Bool} {p q r : Value} (h : CutY w wx vss xs ys b p q r) : CutY w wx.drew vss xs ys b p q r := by
  obtain ⟨g, g', e, f, i, n, l, l', A, B, C⟩ := h
  exact ⟨g, g', e, f, i, n, l, l', A.drew, B.drew, C.drew⟩
end Go.Proofs.Ytnnojeggjnddpaa

/- The program's text of a number. -/
namespace Go.Proofs.Ytnnojeggjnddpaa
open Go.RowKit
/-- Bytes as they lie in a row. -/
def byV (l : List Nat) : List Value := l.map fun (n : Nat) => Value.int .u8 (n : Int)
theorem byV_set (k : Nat) (ts : List Nat) (b : Nat) : (byV (List.replicate (k + 1) 0 ++ ts)).set k (.int .u8 (b : Int)) = byV (List.replicate k 0 ++ b :: ts) := by
  unfold byV
  rw [show Value.int .u8 (b : Int) = (fun (n : Nat) => Value.int .u8 (n : Int)) b from rfl, ← List.map_set]
  congr 1
  rw [List.replicate_succ', List.append_assoc, List.set_append_right _ _ (by simp)]
  simp
theorem byV_len (l : List Nat) : (byV l).length = l.length := by simp [byV]
/-- What lies in memory while a text is written from its end on. -/
structure WtI (w wr : World) (g : Nat) (n : Nat) (a : List Value) (k : Nat) (zs : List Int) (d : Nat) (ts : List Nat) : Prop where
  below : Below w.heap.size w wr
  ba : Blk wr w.heap.size a
  bt : Blk wr (w.heap.size + 1) (byV (List.replicate k 0 ++ ts))
  bs : Blk wr g (zs.map (Value.int .u64))
  zl : zs.length = 4
  zw : Words zs
  gl : w.heap.size + 1 < g
  len : k + ts.length = 78
  d10 : d < 10
  eq : dgs n = dg (val64 zs).toNat ++ (48 + d) :: ts
theorem WtI.fit {w wr : World} {g n : Nat} {a : List Value} {k : Nat} {zs : List Int} {d : Nat} {ts : List Nat} (h : WtI w wr g n a k zs d ts) (hn : n < 10 ^ 77) : 2 ≤ k := by
  have h1 := dgs_len (k := 77) (by omega) hn
  rw [h.eq] at h1
  have := h.len
  simp at h1
  omega
theorem WtI.next {w wr w1 : World} {g n : Nat} {a : List Value} {k : Nat} {zs ys : List Int} {d e : Nat} {ts : List Nat} (h : WtI w wr g n a (k + 1) zs d ts) (hv : 0 < val64 zs) (hB : Below (wr.setCell ⟨w.heap.size + 1, k, none⟩ (.int .u8 (48 + (d : Int)))).heap.size (wr.setCell ⟨w.heap.size + 1, k, none⟩ (.int .u8 (48 + (d : Int)))) w1) {y0 y1 y2 y3 : Int} (hy : ys = [y0, y1, y2, y3]) (yw : Words ys) (yv : val64 ys = val64 zs / 10) (he : (e : Int) = val64 zs % 10) :
    WtI w ((((w1.setCell ⟨g, 0, none⟩ (.int .u64 y0)).setCell ⟨g, 1, none⟩ (.int .u64 y1)).setCell ⟨g, 2, none⟩ (.int .u64 y2)).setCell ⟨g, 3, none⟩ (.int .u64 y3)) g n a k ys e ((48 + d) :: ts) := by
  have hgl := h.gl
  have hsz := h.below.size
  have hg : w.heap.size ≤ g := by omega
  have B1 := (h.below.setCell (p := ⟨w.heap.size + 1, k, none⟩) (by show w.heap.size ≤ w.heap.size + 1; omega) (.int .u8 (48 + (d : Int))))
  have B2 := B1.trans (hB.mono B1.size)
  have BA := (h.ba.setO (p := ⟨w.heap.size + 1, k, none⟩) (by show w.heap.size ≠ w.heap.size + 1; omega) (.int .u8 (48 + (d : Int)))).step hB
  have BT0 := h.bt.setI k (by rw [byV_len]; simp; omega) (.int .u8 (48 + (d : Int)))
  rw [show 48 + (d : Int) = ((48 + d : Nat) : Int) by omega, byV_set, ← show 48 + (d : Int) = ((48 + d : Nat) : Int) by omega] at BT0
  have BT := BT0.step hB
  have BS := (h.bs.setO (p := ⟨w.heap.size + 1, k, none⟩) (by show g ≠ w.heap.size + 1; omega) (.int .u8 (48 + (d : Int)))).step hB
  obtain ⟨z0, z1, z2, z3, hz⟩ := list4 h.zl
  rw [hz] at BS
  refine ⟨(((B2.setCell (p := ⟨g, 0, none⟩) hg _).setCell (p := ⟨g, 1, none⟩) hg _).setCell (p := ⟨g, 2, none⟩) hg _).setCell (p := ⟨g, 3, none⟩) hg _, BA.set4 (by omega), BT.set4 (by omega), ?_, by rw [hy]; rfl, yw, hgl, by have := h.len; simp; omega, by omega, ?_⟩
  · rw [hy]
    exact Blk.stored4g BS _ _ _ _
  · rw [h.eq, dg_step (n := (val64 zs).toNat) (by omega), yv]
    rw [show (val64 zs).toNat / 10 = (val64 zs / 10).toNat by omega, show (val64 zs).toNat % 10 = e by omega, List.append_assoc]
    rfl
end Go.Proofs.Ytnnojeggjnddpaa

/- The walk of the model's product of two numbers. -/
namespace Go.Proofs.Ytnnojeggjnddpaa
open Go.RowKit
theorem val_set (zs : List Int) (j : Nat) (h : j < zs.length) (u : Int) : val (zs.set j u) = val zs + pw j * (u - zs[j]) := by
  have e1 := val_split zs j h
  have e2 := val_split (zs.set j u) j (by simpa using h)
  rw [e2, e1]
  have t1 : (zs.set j u).take j = zs.take j := by rw [List.take_set_of_le (by omega)]
  have t2 : (zs.set j u).drop (j + 1) = zs.drop (j + 1) := by rw [List.drop_set_of_lt (by omega)]
  rw [t1, t2]
  simp only [List.getElem_set_self]
  grind
theorem dig_set {zs : List Int} (h : Dig zs) (j : Nat) {u : Int} (h0 : 0 ≤ u) (h1 : u < 4294967296) : Dig (zs.set j u) := by
  intro d hd
  rcases List.mem_or_eq_of_mem_set hd with h' | h'
  · exact h d h'
  · subst h'; exact ⟨h0, h1⟩
/-- Between the rounds of the outer loop. -/
structure MuI (W wr : World) (g nm : Nat) (xs ys zs : List Int) (i m : Nat) : Prop where
  len : zs.length = nm
  dig : Dig zs
  eq : val zs = val (xs.take i) * val ys
  zero : ∀ j, i + m ≤ j → (h : j < zs.length) → zs[j] = 0
  own : wr.ownsRow g 112 1 (.slice (some ⟨g, 0, none⟩) nm nm) nm (zs.map (Value.int .u32))
  below : Below g W wr
/-- Between the rounds of the inner loop. -/
structure MuJ (W wr : World) (g nm : Nat) (xs ys zs : List Int) (i m k : Nat) (x c : Int) : Prop where
  len : zs.length = nm
  dig : Dig zs
  eq : val zs + c * pw (i + k) = val (xs.take i) * val ys + x * (pw i * val (ys.take k))
  zero : ∀ j, i + m ≤ j → (h : j < zs.length) → zs[j] = 0
  own : wr.ownsRow g 112 1 (.slice (some ⟨g, 0, none⟩) nm nm) nm (zs.map (Value.int .u32))
  below : Below g W wr
theorem mu_in {W wr : World} {g nm : Nat} {xs ys zs : List Int} {i m : Nat} (h : MuI W wr g nm xs ys zs i m) (x : Int) : MuJ W wr g nm xs ys zs i m 0 x 0 :=
  ⟨h.len, h.dig, by simp [val, h.eq], h.zero, h.own, h.below⟩
theorem mu_cell {W wr : World} {g nm : Nat} {xs ys zs : List Int} {i m k : Nat} {x c : Int} (h : MuJ W wr g nm xs ys zs i m k x c) (j : Nat) (hj : j < zs.length) : wr.cell? ⟨g, j, none⟩ = some (.int .u32 zs[j]) ∧ wr.frozen? ⟨g, j, none⟩ = false := by
  refine ⟨?_, h.own.frozenAt j⟩
  rw [h.own.cellAt j (by rw [← h.len]; omega)]
  simp [hj]
theorem mu_step {W wr : World} {g nm : Nat} {xs ys zs : List Int} {i m k : Nat} {x c : Int} (h : MuJ W wr g nm xs ys zs i m k x c) (hk : k < ys.length) (hkm : k < m) (hj : i + k < zs.length) (t : Int) (ht : t = c + x * ys[k] + zs[i + k]) (nq : Nat) :
    MuJ W ((wr.setCell ⟨g, i + k, none⟩ (.int .u32 (t % 4294967296))).drewN nq) g nm xs ys (zs.set (i + k) (t % 4294967296)) i m (k + 1) x (t / 4294967296) := by
  obtain ⟨o1, o2⟩ := h.own.stored (i + k) (.int .u32 (t % 4294967296))
  refine ⟨by simpa using h.len, dig_set h.dig _ (by omega) (by omega), ?_, ?_, ?_, bdrew (h.below.setCell (Nat.le_refl _) _) _⟩
  · rw [val_set zs _ hj, show i + (k + 1) = (i + k) + 1 by omega, pw, val_take_succ ys k hk]
    have e := h.eq
    have e2 : t = t % 4294967296 + 4294967296 * (t / 4294967296) := by omega
    have e3 := pw_add i k
    generalize t / 4294967296 = q at *
    generalize t % 4294967296 = r at *
    generalize zs[i + k] = zk at *
    generalize ys[k] = yk at *
    generalize pw (i + k) = p at *
    subst e2
    grind
  · intro j hj1 hj2
    have hj3 : j < zs.length := by simpa using hj2
    rw [List.getElem_set_ne (by omega)]
    exact h.zero j hj1 hj3
  · have : (zs.map (Value.int .u32)).set (i + k) (.int .u32 (t % 4294967296)) = (zs.set (i + k) (t % 4294967296)).map (Value.int .u32) := by rw [List.map_set]
    rw [← this]; exact o1
theorem mu_out {W wr : World} {g nm : Nat} {xs ys zs : List Int} {i m : Nat} {c : Int} (hi : i < xs.length) (h : MuJ W wr g nm xs ys zs i m m xs[i] c) (hm : ys.length = m) (hj : i + m < zs.length) (h0 : 0 ≤ c) (h1 : c < 4294967296) :
    MuI W (wr.setCell ⟨g, i + m, none⟩ (.int .u32 c)) g nm xs ys (zs.set (i + m) c) (i + 1) m := by
  obtain ⟨o1, o2⟩ := h.own.stored (i + m) (.int .u32 c)
  refine ⟨by simpa using h.len, dig_set h.dig _ h0 h1, ?_, ?_, ?_, h.below.setCell (Nat.le_refl _) _⟩
  · rw [val_set zs _ hj, h.zero (i + m) (Nat.le_refl _) hj, val_take_succ xs i hi]
    have e := h.eq
    rw [val_take_all ys m (by omega)] at e
    generalize pw (i + m) = p at *
    grind
  · intro j hj1 hj2
    have hj3 : j < zs.length := by simpa using hj2
    rw [List.getElem_set_ne (by omega)]
    exact h.zero j (by omega) hj3
  · have : (zs.map (Value.int .u32)).set (i + m) (.int .u32 c) = (zs.set (i + m) c).map (Value.int .u32) := by rw [List.map_set]
    rw [← this]; exact o1
theorem mul_bound {x y : Int} (hx0 : 0 ≤ x) (hx1 : x < 4294967296) (hy0 : 0 ≤ y) (hy1 : y < 4294967296) : 0 ≤ x * y ∧ x * y ≤ 18446744065119617025 := by
  refine ⟨Int.mul_nonneg hx0 hy0, ?_⟩
  have h1 : x * y ≤ 4294967295 * y := Int.mul_le_mul_of_nonneg_right (by omega) hy0
  omega
theorem mul_sign {x y : Int} {s t : Bool} {xs ys : List Int} (hs : s = decide (x < 0)) (ht : t = decide (y < 0)) (hx : val xs = (x.natAbs : Int)) (hy : val ys = (y.natAbs : Int)) : (x * y ≠ 0 → (s != t) = decide (x * y < 0)) ∧ val xs * val ys = ((x * y).natAbs : Int) := by
  constructor
  · intro hz
    have hx0 : x ≠ 0 := by rintro rfl; simp at hz
    have hy0 : y ≠ 0 := by rintro rfl; simp at hz
    rw [hs, ht]
    by_cases p : x < 0 <;> by_cases q : y < 0
    · have := Int.mul_pos_of_neg_of_neg p q; simp [p, q]; omega
    · have := Int.mul_neg_of_neg_of_pos p (show 0 < y by omega); simp [p, q, this]
    · have := Int.mul_neg_of_pos_of_neg (show 0 < x by omega) q; simp [p, q, this]
    · have := Int.mul_pos (show 0 < x by omega) (show 0 < y by omega); simp [p, q]; omega
  · rw [hx, hy, Int.natAbs_mul]; simp
theorem mu_start {W w1 : World} {g nm : Nat} {xs ys : List Int} {m : Nat} (hg : g = W.heap.size) (hown : w1.ownsRow g 112 1 (.slice (some ⟨g, 0, none⟩) nm nm) nm (madeCells #[Value.int .u32 0] nm).toList) (hgrow : W.grownBy w1 none) : MuI W w1 g nm xs ys (List.replicate nm 0) 0 m := by
  subst hg
  refine ⟨by simp, fun d hd => by rw [List.eq_of_mem_replicate hd]; decide, by simp [val_zeros, val], fun j _ h => by simp, ?_, (Below.refl _ _).grown hgrow (Nat.le_refl _) (by simp)⟩
  rw [made_one] at hown
  simpa using hown
set_option maxRecDepth 100000 in
set_option maxHeartbeats 2000000 in
theorem mul_some (s t : Bool) (ao bo : Option Addr) (n m ca cb k : Nat) (xs ys : List Int) (x y : Int) (w : World) (hx : IsNum w s ao n ca xs x k) (hy : IsNum w t bo m cb ys y k) (hk : k ≤ 100000) (hx0 : x ≠ 0) (hy0 : y ≠ 0) :
    Calls Try.prog 82 #[.agg #[.bool s, .slice ao n ca], .agg #[.bool t, .slice bo m cb]] w (NumP (k + k) (x * y) w) := by
  obtain ⟨i0, hi, hz0, hz1, hz2⟩ := info_parts Try.info88
  have hn0 : ((n : Int) == 0) = false := beq_eq_false_iff_ne.2 (by intro h; exact hx0 (hx.zero.1 (by omega)))
  have hm0 : ((m : Int) == 0) = false := beq_eq_false_iff_ne.2 (by intro h; exact hy0 (hy.zero.1 (by omega)))
  have T0 := two_start w (.bool s) (.slice ao n ca) (.bool t) (.slice bo m cb)
  have HX : Hid (xs.length = n) := hx.len
  have HY : Hid (ys.length = m) := hy.len
  have HDX : Hid (Dig xs) := hx.nrm.1
  have HDY : Hid (Dig ys) := hy.nrm.1
  have hnk := hx.le
  have hmk := hy.le
  have HRX0 := hx.rd.below T0.below (Nat.le_refl _)
  have HRY0 := hy.rd.below T0.below (Nat.le_refl _)
  have HSG : Hid ((x * y ≠ 0 → (s != t) = decide (x * y < 0)) ∧ val xs * val ys = ((x * y).natAbs : Int)) := mul_sign hx.neg hy.neg hx.val hy.val
  clear hx hy
  go_enter Try.func82, Try.ntmps82
  go_upto_region 3 with fail
  generalize ((w.alloc (Obj.cells #[Value.bool s, Value.slice ao n ca] 66)).alloc (Obj.cells #[Value.bool t, Value.slice bo m cb] 66)).alloc (Obj.cells #[Value.bool false, Value.slice none 0 0] 66) = W at *
  have q0 := T0.a0; have q1 := T0.a1; have q2 := T0.b0; have q3 := T0.b1
  have HRX : Hid (Rd W ao xs) := HRX0
  have HRY : Hid (Rd W bo ys) := HRY0
  clear HRX0 HRY0
  go_wp2_with (at_make; refine wpList_make_full _ rfl _ _ 64 rfl W.heap.size 112 i0 (.int .u32 0) 1 Try.underlying64 hi hz0 hz1 _ _ _ _ (n + m) rfl rfl (by omega) (by omega) (by rw [hz2]; omega) (by unfold maxLen; omega) (Nat.le_refl _) ?_)
  intro w1 hown hgrow
  have HS : MuI W w1 W.heap.size (n + m) xs ys (List.replicate (n + m) 0) 0 m := mu_start rfl (by simpa using hown) hgrow
  clear hown hgrow q0 q1 q2 q3
  have hsz := T0.sz
  go_wp2
  go_loopw [6] (fun i wr => ∃ (c : Nat) (zs : List Int), c ≤ n ∧ i = .int .i64 c ∧ MuI W wr W.heap.size (n + m) xs ys zs c m) (fun i _ => n - (intOf i).toNat)
  case atStart => exact ⟨0, _, Nat.zero_le _, rfl, HS⟩
  case round =>
    obtain ⟨i, zs, hin, rfl, hI⟩ := hrel
    clear HS
    have T1 := T0.step hI.below
    have q1 := T1.a1; have q3 := T1.b1
    by_cases hi' : i < n
    · have hix : i < xs.length := by have := HX.out; omega
      obtain ⟨bx, ox, rfl, hbx, hcx0⟩ := HRX.out i hix
      obtain ⟨hx0', hx1'⟩ := dig_at HDX.out i hix
      have HJ := mu_in hI xs[i]
      clear hI
      go_wp2
      obtain ⟨wo, hwo⟩ : ∃ wo : World, wo = wr := ⟨_, rfl⟩
      subst hwo
      go_loopw [7, 8] (fun c k wr => ∃ (j : Nat) (cv : Int) (zs : List Int), j ≤ m ∧ k = .int .i64 j ∧ 0 ≤ cv ∧ cv < 4294967296 ∧ c = .int .u64 cv ∧ MuJ W wr W.heap.size (n + m) xs ys zs i m j xs[i] cv) (fun _ k _ => m - (intOf k).toNat)
      case atStart => exact ⟨0, 0, _, Nat.zero_le _, rfl, by decide, by decide, rfl, HJ⟩
      case round =>
        obtain ⟨j, cv, zs', hj, rfl, hc0, hc1, rfl, hJ⟩ := hrel
        clear HJ T1 q1 q3
        have T1 := T0.step hJ.below
        have q1 := T1.a1; have q3 := T1.b1
        have hlen := hJ.len
        by_cases hj' : j < m
        · have hjy : j < ys.length := by have := HY.out; omega
          obtain ⟨by', oy, rfl, hby, hcy0⟩ := HRY.out j hjy
          obtain ⟨hy0', hy1'⟩ := dig_at HDY.out j hjy
          have hcx := (hJ.below.cell (p := ⟨bx, ox + i, none⟩) hbx).trans hcx0
          have hcy := (hJ.below.cell (p := ⟨by', oy + j, none⟩) hby).trans hcy0
          have hij : i + j < zs'.length := by omega
          obtain ⟨hcz, hfz⟩ := mu_cell hJ (i + j) hij
          obtain ⟨hz0', hz1'⟩ := dig_at hJ.dig (i + j) hij
          obtain ⟨P, hP⟩ : ∃ P, xs[i] * ys[j] = P := ⟨_, rfl⟩
          obtain ⟨hP0, hP1⟩ := mul_bound hx0' hx1' hy0' hy1'
          rw [hP] at hP0 hP1
          have R := fun nq => mu_step hJ hjy hj' hij (cv + P + zs'[i + j]) (by rw [hP]) nq
          clear hJ hlen
          have hin' : (i : Int) < n := by omega
          have hjm' : (j : Int) < m := by omega
          have hijn : (i : Int) + j < n + m := by omega
          go_wp2
          go_quiet (fail)
          go_wp2
          go_roundw
          case rel => exact ⟨j + 1, (cv + P + zs'[i + j]) / 4294967296, _, by omega, by go_num, by omega, by omega, rfl, by first | exact R _ | exact mu_drew R⟩
          case measure => simp [intOf]; omega
        · obtain rfl : j = m := by omega
          have him : i + j < zs'.length := by omega
          obtain ⟨hcz, hfz⟩ := mu_cell hJ (i + j) him
          have R := mu_out hix hJ HY.out him hc0 hc1
          clear hJ hlen
          have hijn : (i : Int) + j < n + j := by omega
          go_wp2
          go_roundw
          case rel => exact ⟨i + 1, _, by omega, by go_num, R⟩
          case measure => simp [intOf]; omega
    · obtain rfl : i = n := by omega
      have q0 := T1.a0; have q2 := T1.b0
      have R1 := hI.dig
      have R2 := Rd.own hI.own hI.len
      have R3 := hI.len
      have HE : Hid (val zs = ((x * y).natAbs : Int)) := by show _ = _; rw [hI.eq, val_take_all xs i (by have := HX.out; omega)]; exact HSG.out.2
      clear hI
      obtain ⟨sg, hsg⟩ : ∃ b, (!(s == t)) = b := ⟨_, rfl⟩
      have HG : Hid (x * y ≠ 0 → sg = decide (x * y < 0)) := by rw [← hsg]; exact HSG.out.1
      go_wp2_with fail
      refine (trim_any sg _ _ _ zs _ R3 (Nat.le_refl _) R1 R2 (by omega)).mono ?_
      rintro e w3 ⟨neg', ao', n', cap', ds', rfl, k1, k2, k3, k4, k5, k6, k7, k8⟩
      have T2 := T1.step k8
      have HN := num_of (z := x * y) (k := k + k) k1 k2 (by omega) k4 (k5.trans HE.out) (k6.trans (by rw [HE.out])) k7 rfl HG.out
      have c0 := T2.r0; have c1 := T2.r1; have f0 := T2.f0; have f1 := T2.f1
      have HB := T2.below
      clear k1 k2 k3 k4 k5 k6 k7 k8 R1 R2 R3 T1 q0 q1 q2 q3 T2
      go_wp2
      refine bodyPost_ret (v := .agg #[.bool neg', .slice ao' n' cap']) (by simp [results, Try.results82, go_sem, c0, c1]) rfl ?_
      exact num_ret (by omega) c0 c1 HN HB
set_option maxRecDepth 100000 in
set_option maxHeartbeats 1000000 in
theorem mul_none (s t : Bool) (ao bo : Option Addr) (n m ca cb k : Nat) (xs ys : List Int) (x y : Int) (w : World) (hx : IsNum w s ao n ca xs x k) (hy : IsNum w t bo m cb ys y k) (h0 : x = 0 ∨ y = 0) :
    Calls Try.prog 82 #[.agg #[.bool s, .slice ao n ca], .agg #[.bool t, .slice bo m cb]] w (NumP (k + k) (x * y) w) := by
  have HP : ∀ o1 o2 o3, NumP (k + k) (x * y) w (.returned (.agg #[.bool false, .slice none 0 0])) (((w.alloc o1).alloc o2).alloc o3) := by
    intro o1 o2 o3
    have hz : x * y = 0 := by rcases h0 with rfl | rfl <;> simp
    rw [hz]
    exact ⟨false, none, 0, 0, [], rfl, ⟨by decide, rfl, Nat.le_refl _, Rd.nil _ _, nrm_nil, rfl, Nat.zero_le _⟩, (((Below.refl _ _).alloc (Nat.le_refl _) _).alloc (by simp) _).alloc (by simp; omega) _⟩
  by_cases hx0 : x = 0
  · have hn := hx.zero.2 hx0
    subst hn
    clear hx hy
    go_enter Try.func82, Try.ntmps82
    go_wp2
    refine bodyPost_ret (v := .agg #[.bool false, .slice none 0 0]) (by simp [results, Try.results82, go_sem]) rfl ?_
    exact HP _ _ _
  · have hm := hy.zero.2 (by omega)
    subst hm
    have hn0 : ((n : Int) == 0) = false := beq_eq_false_iff_ne.2 (by intro h; exact hx0 (hx.zero.1 (by omega)))
    clear hx hy
    go_enter Try.func82, Try.ntmps82
    go_wp2
    refine bodyPost_ret (v := .agg #[.bool false, .slice none 0 0]) (by simp [results, Try.results82, go_sem]) rfl ?_
    exact HP _ _ _
theorem mul_any (s t : Bool) (ao bo : Option Addr) (n m ca cb k : Nat) (xs ys : List Int) (x y : Int) (w : World) (hx : IsNum w s ao n ca xs x k) (hy : IsNum w t bo m cb ys y k) (hk : k ≤ 100000) :
    Calls Try.prog 82 #[.agg #[.bool s, .slice ao n ca], .agg #[.bool t, .slice bo m cb]] w (NumP (k + k) (x * y) w) := by
  by_cases hx0 : x = 0
  · exact mul_none s t ao bo n m ca cb k xs ys x y w hx hy (Or.inl hx0)
  · by_cases hy0 : y = 0
    · exact mul_none s t ao bo n m ca cb k xs ys x y w hx hy (Or.inr hy0)
    · exact mul_some s t ao bo n m ca cb k xs ys x y w hx hy hk hx0 hy0
end Go.Proofs.Ytnnojeggjnddpaa
