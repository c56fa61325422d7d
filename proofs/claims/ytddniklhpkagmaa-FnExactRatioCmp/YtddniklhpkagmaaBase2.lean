/- Part 2 of the walks that the proof leans on. -/
import Derived.Test.YtddniklhpkagmaaBase1
import Derived.Deep.RegionHeld3
import Derived.Laws.Externs
import Derived.Shelf.Spec.BitsCarry
import Derived.BigRegion
import Derived.Deep.RegionWith
import Derived.Deep.DeepCutAuto
/- Plain arithmetic of numbers of four words: no program in sight. -/
namespace Go.Proofs.Ytddniklhpkagmaa
/-- A word of 64 bits. -/
def Word (x : Int) : Prop := 0 ≤ x ∧ x < 18446744073709551616
/-- Four words without a sign. -/
def uw (a3 a2 a1 a0 : Int) : Int := a0 + 18446744073709551616 * (a1 + 18446744073709551616 * (a2 + 18446744073709551616 * a3))
/-- Four words in two's complement. -/
def sw (a3 a2 a1 a0 : Int) : Int := if a3 < 9223372036854775808 then uw a3 a2 a1 a0 else uw a3 a2 a1 a0 - 115792089237316195423570985008687907853269984665640564039457584007913129639936
theorem uw_bound {a3 a2 a1 a0 : Int} (h3 : Word a3) (h2 : Word a2) (h1 : Word a1) (h0 : Word a0) : 0 ≤ uw a3 a2 a1 a0 ∧ uw a3 a2 a1 a0 < 115792089237316195423570985008687907853269984665640564039457584007913129639936 := by
  unfold Word at *; unfold uw; omega
theorem sw_bound {a3 a2 a1 a0 : Int} (h3 : Word a3) (h2 : Word a2) (h1 : Word a1) (h0 : Word a0) : -57896044618658097711785492504343953926634992332820282019728792003956564819968 ≤ sw a3 a2 a1 a0 ∧ sw a3 a2 a1 a0 < 57896044618658097711785492504343953926634992332820282019728792003956564819968 := by
  unfold Word at *; unfold sw uw; split <;> omega
theorem sw_neg {a3 a2 a1 a0 : Int} (h3 : Word a3) (h2 : Word a2) (h1 : Word a1) (h0 : Word a0) : sw a3 a2 a1 a0 < 0 ↔ 9223372036854775808 ≤ a3 := by
  unfold Word at *; unfold sw uw; split <;> omega
theorem sw_inj {a3 a2 a1 a0 b3 b2 b1 b0 : Int} (h3 : Word a3) (h2 : Word a2) (h1 : Word a1) (h0 : Word a0) (g3 : Word b3) (g2 : Word b2) (g1 : Word b1) (g0 : Word b0) (h : sw a3 a2 a1 a0 = sw b3 b2 b1 b0) : a3 = b3 ∧ a2 = b2 ∧ a1 = b1 ∧ a0 = b0 := by
  unfold Word at *
  unfold sw uw at h
  split at h <;> split at h <;> omega
theorem pw8 : pw 8 = 115792089237316195423570985008687907853269984665640564039457584007913129639936 := by decide
/-- The eight digits of four words. -/
def dw (a3 a2 a1 a0 : Int) : List Int := [a0 % 4294967296, a0 / 4294967296, a1 % 4294967296, a1 / 4294967296, a2 % 4294967296, a2 / 4294967296, a3 % 4294967296, a3 / 4294967296]
theorem dw_dig {a3 a2 a1 a0 : Int} (h3 : Word a3) (h2 : Word a2) (h1 : Word a1) (h0 : Word a0) : Dig (dw a3 a2 a1 a0) := by
  unfold Word at *
  unfold dw
  iterate 8 (refine dig_cons.2 ⟨by omega, ?_⟩)
  exact dig_nil
theorem dw_val (a3 a2 a1 a0 : Int) : val (dw a3 a2 a1 a0) = uw a3 a2 a1 a0 := by
  simp only [dw, val, uw]; omega
end Go.Proofs.Ytddniklhpkagmaa

/- The walk of a number made from four words. -/
namespace Go.Proofs.Ytddniklhpkagmaa
open Go.RowKit
/-- The two cells of a result, whatever its block is called. -/
theorem res2' {w w3 : World} {a b : Value} {T : TypeId} {R : Nat} (hR : R = w.heap.size) (h : Below (w.heap.size + 1) (w.alloc (.cells #[a, b] T)) w3) :
    w3.cell? ⟨R, 0, none⟩ = some a ∧ w3.cell? ⟨R, 1, none⟩ = some b ∧ w3.frozen? ⟨R, 0, none⟩ = false ∧ w3.frozen? ⟨R, 1, none⟩ = false ∧ R < w3.heap.size ∧ Below w.heap.size w w3 := by
  subst hR; exact res2 h
set_option maxRecDepth 100000 in
set_option maxHeartbeats 1000000 in
theorem from_pos (a3 a2 a1 a0 : Int) (h3 : Word a3) (h2 : Word a2) (h1 : Word a1) (h0 : Word a0) (hp : a3 < 9223372036854775808) (w : World) :
    Calls Try.prog 51 #[.agg #[.int .u64 a3, .int .u64 a2, .int .u64 a1, .int .u64 a0]] w (NumP 8 (sw a3 a2 a1 a0) w) := by
  have hb : (a3 / 9223372036854775808 == 1) = false := beq_eq_false_iff_ne.2 (by have := h3.1; omega)
  have HD := dw_dig h3 h2 h1 h0
  have HV : Hid (val (dw a3 a2 a1 a0) = ((sw a3 a2 a1 a0).natAbs : Int) ∧ ¬ sw a3 a2 a1 a0 < 0) := by
    have e1 := uw_bound h3 h2 h1 h0
    have e2 := dw_val a3 a2 a1 a0
    have e3 : sw a3 a2 a1 a0 = uw a3 a2 a1 a0 := by unfold sw; rw [if_pos hp]
    exact ⟨by rw [e2, e3]; omega, by omega⟩
  obtain ⟨l3, u3⟩ := h3; obtain ⟨l2, u2⟩ := h2; obtain ⟨l1, u1⟩ := h1; obtain ⟨l0, u0⟩ := h0
  go_enter Try.func51, Try.ntmps51
  go_wp2_with fail
  refine (trim_any false _ 8 8 (dw a3 a2 a1 a0) _ rfl (Nat.le_refl _) HD (Rd.lit _ (by simp) rfl (by simp [maxLen, dw])) (by omega)).mono ?_
  rintro e w3 ⟨neg', ao', n', cap', ds', rfl, k1, k2, k3, k4, k5, k6, k7, k8⟩
  obtain ⟨c0, c1, f0, f1, hz, hB⟩ := res2' (R := w.heap.size + 1) (by simp) (((Below.refl _ _).alloc (by simp) _).trans (k8.mono (by simp)))
  have HN := num_of (z := sw a3 a2 a1 a0) k1 k2 k3 k4 k5 k6 k7 HV.out.1 (by intro _; simp [HV.out.2])
  have HB : Hid (Below w.heap.size w w3) := ((Below.refl _ _).alloc (Nat.le_refl _) _).trans (hB.mono (by simp))
  clear k1 k2 k3 k4 k5 k6 k7 k8 hB HD
  go_wp2
  refine bodyPost_ret (v := .agg #[.bool neg', .slice ao' n' cap']) (by simp [results, Try.results51, go_sem, c0, c1]) rfl ?_
  exact num_ret (Nat.le_succ _) c0 c1 HN HB.out
set_option maxRecDepth 100000 in
set_option maxHeartbeats 1000000 in
theorem from_neg (a3 a2 a1 a0 : Int) (h3 : Word a3) (h2 : Word a2) (h1 : Word a1) (h0 : Word a0) (hp : 9223372036854775808 ≤ a3) (w : World) :
    Calls Try.prog 51 #[.agg #[.int .u64 a3, .int .u64 a2, .int .u64 a1, .int .u64 a0]] w (NumP 8 (sw a3 a2 a1 a0) w) := by
  have hb : (a3 / 9223372036854775808 == 1) = true := beq_iff_eq.2 (by have := h3.2; omega)
  have HD := dw_dig h3 h2 h1 h0
  have HV : Hid (val (dw a3 a2 a1 a0) ≤ pw 8 ∧ pw 8 - val (dw a3 a2 a1 a0) = ((sw a3 a2 a1 a0).natAbs : Int) ∧ sw a3 a2 a1 a0 < 0 ∧ ((sw a3 a2 a1 a0).natAbs : Int) < pw 8) := by
    have e1 := uw_bound h3 h2 h1 h0
    have e2 := dw_val a3 a2 a1 a0
    have e3 : sw a3 a2 a1 a0 = uw a3 a2 a1 a0 - 115792089237316195423570985008687907853269984665640564039457584007913129639936 := by unfold sw; rw [if_neg (by omega)]
    have e4 : uw a3 a2 a1 a0 ≠ 0 := by unfold uw; unfold Word at *; omega
    have e5 := pw8
    exact ⟨by omega, by omega, by omega, by omega⟩
  obtain ⟨l3, u3⟩ := h3; obtain ⟨l2, u2⟩ := h2; obtain ⟨l1, u1⟩ := h1; obtain ⟨l0, u0⟩ := h0
  go_enter Try.func51, Try.ntmps51
  go_wp2_with fail
  refine (left_any _ 1 1 256 [1] _ rfl (dig_cons.2 ⟨by omega, dig_nil⟩) (Rd.lit _ (by simp) rfl (by simp [maxLen])) (by omega) (by omega)).mono ?_
  rintro e w3 ⟨ao1, n1, cap1, zs1, rfl, k1, k2, k3, k4, k5, k6, k7⟩
  have hRd : Rd w3 (some ⟨w.heap.size + 1 + 1, 0, none⟩) (dw a3 a2 a1 a0) := ((Rd.lit _ (by simp) rfl (by simp [maxLen, dw])).below ((Below.refl _ _).alloc (Nat.le_refl _) _) (Nat.le_refl _)).below k7 (Nat.le_refl _)
  have hA : Below (w.heap.size + 2) ((w.alloc (Obj.cells #[Value.int IntKind.u64 a3, Value.int IntKind.u64 a2, Value.int IntKind.u64 a1, Value.int IntKind.u64 a0] 25)).alloc (Obj.cells #[Value.bool false, Value.slice none 0 0] 57)) w3 :=
    (((Below.refl _ _).alloc (by simp) _).alloc (by simp) _).trans (k7.mono (by simp))
  have hv1 : val zs1 = pw 8 := by rw [k5]; simp [val]
  have k3' : n1 ≤ 10 := k3
  clear k7 k5 k3
  have HV1 : Hid (val zs1 = pw 8) := hv1
  clear hv1
  go_wp2_with fail
  refine (subAbs_any ao1 _ n1 8 cap1 8 zs1 (dw a3 a2 a1 a0) _ k1 rfl k4.1 HD k6 hRd (by omega) (by omega) (by rw [HV1.out]; exact HV.out.1)).mono ?_
  rintro e w4 ⟨ao2, cap2, zs2, rfl, m1, m2, m3, m4, m5, m6⟩
  have hA2 := hA.trans (m6.mono (by have := hA.size; simp at this ⊢; omega))
  have HV2 : Hid (val zs2 = ((sw a3 a2 a1 a0).natAbs : Int)) := by show _ = _; rw [m4, HV1.out]; exact HV.out.2.1
  clear hA m6 m4 k1 k2 k4 k6 hRd HV1 HD
  go_wp2_with fail
  refine (trim_any true _ n1 _ zs2 _ m1 m2 m3 m5 (by omega)).mono ?_
  rintro e w5 ⟨neg', ao', n', cap', ds', rfl, k1, k2, k3, k4, k5, k6, k7, k8⟩
  have hA3 := hA2.trans (k8.mono (by have := hA2.size; simp at this ⊢; omega))
  obtain ⟨c0, c1, f0, f1, hz, hB⟩ := res2' (R := w.heap.size + 1) (by simp) (hA3.mono (by simp))
  have HN := (num_of (z := sw a3 a2 a1 a0) k1 k2 k3 k4 k5 k6 k7 HV2.out (by intro _; simp [HV.out.2.2.1])).tight 8 HV.out.2.2.2
  have HB : Hid (Below w.heap.size w w5) := ((Below.refl _ _).alloc (Nat.le_refl _) _).trans (hB.mono (by simp))
  clear k1 k2 k3 k4 k5 k6 k7 k8 hB hA2 hA3 m1 m2 m3 m5
  go_wp2
  refine bodyPost_ret (v := .agg #[.bool neg', .slice ao' n' cap']) (by simp [results, Try.results51, go_sem, c0, c1]) rfl ?_
  exact num_ret (Nat.le_succ _) c0 c1 HN HB.out
theorem from_any (a3 a2 a1 a0 : Int) (h3 : Word a3) (h2 : Word a2) (h1 : Word a1) (h0 : Word a0) (w : World) :
    Calls Try.prog 51 #[.agg #[.int .u64 a3, .int .u64 a2, .int .u64 a1, .int .u64 a0]] w (NumP 8 (sw a3 a2 a1 a0) w) := by
  by_cases hp : a3 < 9223372036854775808
  · exact from_pos a3 a2 a1 a0 h3 h2 h1 h0 hp w
  · exact from_neg a3 a2 a1 a0 h3 h2 h1 h0 (by omega) w
end Go.Proofs.Ytddniklhpkagmaa

/- Plain arithmetic: four words out of digits. No program in sight. -/
namespace Go.Proofs.Ytddniklhpkagmaa
theorem val_take_small {ys : List Int} (dy : Dig ys) (n : Nat) (h : val ys < pw n) : val (ys.take n) = val ys := by
  by_cases hn : ys.length ≤ n
  · exact val_take_all ys n hn
  · have e := val_append (ys.take n) (ys.drop n)
    rw [List.take_append_drop] at e
    have e1 : (ys.take n).length = n := by simp; omega
    rw [e1] at e
    have e2 := val_nonneg (dig_take dy n)
    have e3 := val_nonneg (dig_drop dy n)
    by_cases e4 : val (ys.drop n) = 0
    · rw [e4] at e; omega
    · exfalso
      have : pw n * 1 ≤ pw n * val (ys.drop n) := Int.mul_le_mul_of_nonneg_left (by omega) (by have := pw_pos n; omega)
      omega
theorem uw_of_digits {ds : List Int} (hd : Dig ds) (h : val ds < pw 8) :
    uw (ds.getD 6 0 + ds.getD 7 0 * 4294967296) (ds.getD 4 0 + ds.getD 5 0 * 4294967296) (ds.getD 2 0 + ds.getD 3 0 * 4294967296) (ds.getD 0 0 + ds.getD 1 0 * 4294967296) = val ds := by
  rw [← val_take_small hd 8 h]
  rw [val_take_getD ds 7, val_take_getD ds 6, val_take_getD ds 5, val_take_getD ds 4, val_take_getD ds 3, val_take_getD ds 2, val_take_getD ds 1, val_take_getD ds 0]
  simp only [List.take_zero, val, pw, uw]
  omega
theorem word_of_digits {x y : Int} (hx : 0 ≤ x ∧ x < 4294967296) (hy : 0 ≤ y ∧ y < 4294967296) : Word (x + y * 4294967296) := by
  unfold Word; omega
theorem sw_of_uw {a3 a2 a1 a0 z : Int} (h3 : Word a3) (h2 : Word a2) (h1 : Word a1) (h0 : Word a0) (hz : (0 ≤ z ∧ z < 57896044618658097711785492504343953926634992332820282019728792003956564819968 ∧ uw a3 a2 a1 a0 = z) ∨ (z < 0 ∧ -57896044618658097711785492504343953926634992332820282019728792003956564819968 ≤ z ∧ uw a3 a2 a1 a0 = 115792089237316195423570985008687907853269984665640564039457584007913129639936 + z)) : sw a3 a2 a1 a0 = z := by
  unfold Word at *; unfold sw
  unfold uw at *
  split <;> omega
/-- The words of a number that is told; zeros for any other one. -/
def told (z : Int) : Bool := decide (-57896044618658097711785492504343953926634992332820282019728792003956564819968 ≤ z ∧ z < 57896044618658097711785492504343953926634992332820282019728792003956564819968)
theorem pw255 : pw (255 / 32) * (2 ^ (255 % 32) * val [1]) = 57896044618658097711785492504343953926634992332820282019728792003956564819968 := by decide
theorem pw256 : pw (256 / 32) * (2 ^ (256 % 32) * val [1]) = 115792089237316195423570985008687907853269984665640564039457584007913129639936 := by decide
theorem two255 : (2 : Int) ^ 255 = 57896044618658097711785492504343953926634992332820282019728792003956564819968 := by decide
end Go.Proofs.Ytddniklhpkagmaa

/- The words that the walk of four words made from a number shares between its branches. -/
namespace Go.Proofs.Ytddniklhpkagmaa
open Go.RowKit
/-- Four words that stand for z, and true; or zeros and false. -/
def TellP (z : Int) (w : World) (e : Ending) (w' : World) : Prop :=
  Below w.heap.size w w' ∧ ((told z = true ∧ ∃ a3 a2 a1 a0, e = .returned (.tuple #[.agg #[.int .u64 a3, .int .u64 a2, .int .u64 a1, .int .u64 a0], .bool true]) ∧ Word a3 ∧ Word a2 ∧ Word a1 ∧ Word a0 ∧ sw a3 a2 a1 a0 = z) ∨
    (told z = false ∧ e = .returned (.tuple #[.agg #[.int .u64 0, .int .u64 0, .int .u64 0, .int .u64 0], .bool false])))
theorem make8 (w : World) : (Instr.makeSlice 112 (.int .i64 8) (.int .i64 8)).run Try.prog w = .ok (.slice (some ⟨w.heap.size, 0, none⟩) 8 8) (w.alloc (.cells #[.int .u64 0, .int .u64 0, .int .u64 0, .int .u64 0, .int .u64 0, .int .u64 0, .int .u64 0, .int .u64 0] 22)) := by kernel_rfl
/-- What lies in the eight words behind k rounds. -/
def eight (ds : List Int) (k : Nat) : List Value := (List.range 8).map fun i => .int .u64 (if i < k then ds.getD i 0 else 0)
structure ToI (w wr : World) (g : Nat) (ds : List Int) (k : Nat) : Prop where
  own : wr.ownsRow g 22 1 (.slice (some ⟨g, 0, none⟩) 8 8) 8 (eight ds k)
  below : Below g w wr
theorem res4' {w w3 : World} {a b c d : Value} {T : TypeId} {R : Nat} (hR : R = w.heap.size) (h : Below (w.heap.size + 1) (w.alloc (.cells #[a, b, c, d] T)) w3) :
    w3.cell? ⟨R, 0, none⟩ = some a ∧ w3.cell? ⟨R, 1, none⟩ = some b ∧ w3.cell? ⟨R, 2, none⟩ = some c ∧ w3.cell? ⟨R, 3, none⟩ = some d ∧ w3.frozen? ⟨R, 0, none⟩ = false ∧ w3.frozen? ⟨R, 1, none⟩ = false ∧ w3.frozen? ⟨R, 2, none⟩ = false ∧ w3.frozen? ⟨R, 3, none⟩ = false ∧ R < w3.heap.size ∧ Below w.heap.size w w3 := by
  subst hR
  have hc := fun j => h.cell (p := ⟨w.heap.size, j, none⟩) (Nat.lt_succ_self _)
  have hf := fun j => h.frozen (p := ⟨w.heap.size, j, none⟩) (Nat.lt_succ_self _)
  refine ⟨?_, ?_, ?_, ?_, ?_, ?_, ?_, ?_, ?_, ((Below.refl _ _).alloc (Nat.le_refl _) _).trans (h.mono (Nat.le_succ _))⟩
  · rw [hc 0]; simp [go_sem]
  · rw [hc 1]; simp [go_sem]
  · rw [hc 2]; simp [go_sem]
  · rw [hc 3]; simp [go_sem]
  · rw [hf 0]; simp [go_sem]
  · rw [hf 1]; simp [go_sem]
  · rw [hf 2]; simp [go_sem]
  · rw [hf 3]; simp [go_sem]
  · have := h.size; simp at this; omega
theorem toI_start (w1 : World) (ds : List Int) : ToI w1 (w1.alloc (.cells #[.int .u64 0, .int .u64 0, .int .u64 0, .int .u64 0, .int .u64 0, .int .u64 0, .int .u64 0, .int .u64 0] 22)) w1.heap.size ds 0 :=
  ⟨World.ownsRow_lit (base := w1.heap.size) (size := 1) w1 _ 8 (Nat.le_refl _) (by simp [maxLen]) rfl, (Below.refl _ _).alloc (Nat.le_refl _) _⟩
theorem eight_len (ds : List Int) (k : Nat) : (eight ds k).length = 8 := by simp [eight]
theorem eight_at (ds : List Int) (k i : Nat) (hi : i < 8) : (eight ds k)[i]? = some (.int .u64 (if i < k then ds.getD i 0 else 0)) := by simp [eight, hi]
theorem toI_cell {w wr : World} {g : Nat} {ds : List Int} {k : Nat} (h : ToI w wr g ds k) (i : Nat) (hi : i < 8) : ∃ v, wr.cell? ⟨g, i, none⟩ = some v :=
  ⟨_, (h.own.cellAt i (by omega)).trans (eight_at ds k i hi)⟩
theorem toI_step {w wr : World} {g : Nat} {ds : List Int} {k : Nat} (h : ToI w wr g ds k) (_hk : k < 8) (hd : k < ds.length) : ToI w (wr.setCell ⟨g, k, none⟩ (.int .u64 ds[k])) g ds (k + 1) := by
  obtain ⟨h1, h2⟩ := h.own.stored k (.int .u64 ds[k])
  refine ⟨?_, h.below.setCell (Nat.le_refl _) _⟩
  have e : (eight ds k).set k (.int .u64 ds[k]) = eight ds (k + 1) := by
    apply List.ext_getElem
    · simp [eight_len]
    · intro i i1 i2
      simp only [List.getElem_set, eight, List.getElem_map, List.getElem_range]
      by_cases hik : k = i
      · subst hik; simp [List.getD, hd]
      · simp only [hik, if_false]
        by_cases h' : i < k
        · simp [h', show i < k + 1 by omega]
        · simp [h', show ¬ i < k + 1 by omega]
  rw [← e]; exact h1
theorem toI_cells {w wr : World} {g : Nat} {ds : List Int} {k : Nat} (h : ToI w wr g ds k) (hk : k = 8 ∨ ds.length = k) : ∀ i, i < 8 → wr.cell? ⟨g, i, none⟩ = some (.int .u64 (ds.getD i 0)) := by
  intro i hi
  rw [h.own.cellAt i (by omega), eight_at ds k i hi]
  by_cases h' : i < k
  · simp [h']
  · rcases hk with rfl | rfl
    · omega
    · simp [h', List.getD]
theorem toI_res {w1 wr : World} {ds : List Int} {k R : Nat} {a b c d : Value} (h : ToI w1 wr w1.heap.size ds k) (hz : R < w1.heap.size) (c0 : w1.cell? ⟨R, 0, none⟩ = some a) (c1 : w1.cell? ⟨R, 1, none⟩ = some b) (c2 : w1.cell? ⟨R, 2, none⟩ = some c) (c3 : w1.cell? ⟨R, 3, none⟩ = some d)
    (f0 : w1.frozen? ⟨R, 0, none⟩ = false) (f1 : w1.frozen? ⟨R, 1, none⟩ = false) (f2 : w1.frozen? ⟨R, 2, none⟩ = false) (f3 : w1.frozen? ⟨R, 3, none⟩ = false) :
    wr.cell? ⟨R, 0, none⟩ = some a ∧ wr.cell? ⟨R, 1, none⟩ = some b ∧ wr.cell? ⟨R, 2, none⟩ = some c ∧ wr.cell? ⟨R, 3, none⟩ = some d ∧ wr.frozen? ⟨R, 0, none⟩ = false ∧ wr.frozen? ⟨R, 1, none⟩ = false ∧ wr.frozen? ⟨R, 2, none⟩ = false ∧ wr.frozen? ⟨R, 3, none⟩ = false :=
  ⟨(h.below.cell (p := ⟨R, 0, none⟩) hz).trans c0, (h.below.cell (p := ⟨R, 1, none⟩) hz).trans c1, (h.below.cell (p := ⟨R, 2, none⟩) hz).trans c2, (h.below.cell (p := ⟨R, 3, none⟩) hz).trans c3,
    (h.below.frozen (p := ⟨R, 0, none⟩) hz).trans f0, (h.below.frozen (p := ⟨R, 1, none⟩) hz).trans f1, (h.below.frozen (p := ⟨R, 2, none⟩) hz).trans f2, (h.below.frozen (p := ⟨R, 3, none⟩) hz).trans f3⟩
theorem keep8 {wr : World} {R g : Nat} {v0 v1 v2 v3 c0 c1 c2 c3 c4 c5 c6 c7 : Value} (hne : R ≠ g) (e0 : wr.cell? ⟨g, 0, none⟩ = some c0) (e1 : wr.cell? ⟨g, 1, none⟩ = some c1) (e2 : wr.cell? ⟨g, 2, none⟩ = some c2) (e3 : wr.cell? ⟨g, 3, none⟩ = some c3)
    (e4 : wr.cell? ⟨g, 4, none⟩ = some c4) (e5 : wr.cell? ⟨g, 5, none⟩ = some c5) (e6 : wr.cell? ⟨g, 6, none⟩ = some c6) (e7 : wr.cell? ⟨g, 7, none⟩ = some c7) {w2 : World} (hw : w2 = ((((wr.setCell ⟨R, 0, none⟩ v0).setCell ⟨R, 1, none⟩ v1).setCell ⟨R, 2, none⟩ v2).setCell ⟨R, 3, none⟩ v3).drew := by rfl) :
    w2.cell? ⟨g, 0, none⟩ = some c0 ∧ w2.cell? ⟨g, 1, none⟩ = some c1 ∧ w2.cell? ⟨g, 2, none⟩ = some c2 ∧ w2.cell? ⟨g, 3, none⟩ = some c3 ∧ w2.cell? ⟨g, 4, none⟩ = some c4 ∧ w2.cell? ⟨g, 5, none⟩ = some c5 ∧ w2.cell? ⟨g, 6, none⟩ = some c6 ∧ w2.cell? ⟨g, 7, none⟩ = some c7 := by
  subst hw
  have h : ∀ i c, wr.cell? ⟨g, i, none⟩ = some c → (((((wr.setCell ⟨R, 0, none⟩ v0).setCell ⟨R, 1, none⟩ v1).setCell ⟨R, 2, none⟩ v2).setCell ⟨R, 3, none⟩ v3).drew).cell? ⟨g, i, none⟩ = some c := by
    intro i c hc
    show (((((wr.setCell ⟨R, 0, none⟩ v0).setCell ⟨R, 1, none⟩ v1).setCell ⟨R, 2, none⟩ v2).setCell ⟨R, 3, none⟩ v3)).cell? ⟨g, i, none⟩ = some c
    have hn : ∀ j, (⟨R, j, none⟩ : Addr) ≠ ⟨g, i, none⟩ := by intro j e; simp only [Addr.mk.injEq] at e; exact hne e.1
    rw [World.cell?_setCell_other _ _ _ _ (hn 3), World.cell?_setCell_other _ _ _ _ (hn 2), World.cell?_setCell_other _ _ _ _ (hn 1), World.cell?_setCell_other _ _ _ _ (hn 0)]
    exact hc
  exact ⟨h _ _ e0, h _ _ e1, h _ _ e2, h _ _ e3, h _ _ e4, h _ _ e5, h _ _ e6, h _ _ e7⟩
theorem tell_below {w wr : World} {R : Nat} {v0 v1 v2 v3 : Value} (h : Below w.heap.size w wr) (hR : w.heap.size ≤ R) : Below w.heap.size w ((((wr.setCell ⟨R, 0, none⟩ v0).setCell ⟨R, 1, none⟩ v1).setCell ⟨R, 2, none⟩ v2).setCell ⟨R, 3, none⟩ v3) :=
  (((h.setCell hR _).setCell hR _).setCell hR _).setCell hR _
/-- What is asked of the number for its words to be told. -/
def TellOk (u z : Int) : Prop := (0 ≤ z ∧ z < 57896044618658097711785492504343953926634992332820282019728792003956564819968 ∧ u = z) ∨ (z < 0 ∧ -57896044618658097711785492504343953926634992332820282019728792003956564819968 ≤ z ∧ u = 115792089237316195423570985008687907853269984665640564039457584007913129639936 + z)
theorem tell_ok {w w' : World} {z u a3 a2 a1 a0 : Int} (h3 : Word a3) (h2 : Word a2) (h1 : Word a1) (h0 : Word a0) (hu : uw a3 a2 a1 a0 = u) (hz : TellOk u z) (hb : Below w.heap.size w w') :
    TellP z w (.returned (.tuple #[.agg #[.int .u64 a3, .int .u64 a2, .int .u64 a1, .int .u64 a0], .bool true])) w' := by
  refine ⟨hb, Or.inl ⟨?_, a3, a2, a1, a0, rfl, h3, h2, h1, h0, ?_⟩⟩
  · unfold told; rw [decide_eq_true_iff]; unfold TellOk at hz; omega
  · exact sw_of_uw h3 h2 h1 h0 (by rw [hu]; exact hz)
end Go.Proofs.Ytddniklhpkagmaa

/- The walk of four words made from a number that is not below 0. -/
namespace Go.Proofs.Ytddniklhpkagmaa
open Go.RowKit
set_option maxRecDepth 100000 in
set_option maxHeartbeats 4000000 in
theorem toW_pos (ao : Option Addr) (n cap : Nat) (ds : List Int) (z : Int) (k : Nat) (w : World) (hz0 : 0 ≤ z) (h : IsNum w false ao n cap ds z k) (hk : k ≤ 1000000) :
    Calls Try.prog 49 #[.agg #[.bool false, .slice ao n cap]] w (TellP z w) := by
  have HL : Hid (ds.length = n) := h.len
  have HD : Hid (Dig ds) := h.nrm.1
  have hm : n ≤ 1000000 := by have := h.le; omega
  go_enter Try.func49, Try.ntmps49
  go_wp2_with fail
  refine (bits_any ao n cap ds _ h.len h.nrm ((h.rd.below ((Below.refl _ _).alloc (Nat.le_refl _) _) (Nat.le_refl _)).below ((Below.refl _ _).alloc (Nat.le_refl _) _) (Nat.le_refl _)) (by have := h.le; omega)).mono ?_
  rintro e w1 ⟨b, rfl, hb, hB⟩
  have HR : Hid (Rd w1 ao ds) := ((h.rd.below ((Below.refl _ _).alloc (Nat.le_refl _) _) (Nat.le_refl _)).below ((Below.refl _ _).alloc (Nat.le_refl _) _) (Nat.le_refl _)).below hB (Nat.le_refl _)
  obtain ⟨c0, c1, c2, c3, f0, f1, f2, f3, hz, hB2⟩ := res4' (R := w.heap.size + 1) (by simp) (hB.mono (by simp))
  have HB : Hid (Below w.heap.size w w1) := ((Below.refl _ _).alloc (Nat.le_refl _) _).trans (hB2.mono (by simp))
  have hv := h.val
  have hbl := bits_le hb 255
  rw [two255, hv] at hbl
  clear hB hB2 h hb
  by_cases hb5 : b ≤ 255
  · have hmk := make8
    have HU : Hid (val ds < pw 8) := by show _ < _; have := hbl.1 hb5; rw [hv, pw8]; omega
    have HS : Hid (TellOk (val ds) z) := Or.inl ⟨hz0, by have := hbl.1 hb5; omega, by rw [hv]; omega⟩
    clear hv hbl
    go_wp2_with fail
    go_loopw [6] (fun i wr => ∃ k : Nat, k ≤ 8 ∧ k ≤ n ∧ i = .int .i64 k ∧ ToI w1 wr w1.heap.size ds k) (fun i _ => 8 - (intOf i).toNat)
    case atStart => exact ⟨0, by omega, Nat.zero_le _, rfl, toI_start w1 ds⟩
    case round =>
      obtain ⟨k, hk8, hkn, rfl, hI⟩ := hrel
      by_cases h8 : k < 8
      · by_cases hn : k < n
        · have hkx : k < ds.length := by have := HL.out; omega
          obtain ⟨b', off, rfl, hbl, hcx0⟩ := HR.out k hkx
          have hcx := (hI.below.cell (p := ⟨b', off + k, none⟩) hbl).trans hcx0
          clear hcx0
          obtain ⟨hx0, hx1⟩ := dig_at HD.out k hkx
          have hfr := hI.own.frozenAt k
          obtain ⟨v0, hc0⟩ := toI_cell hI k h8
          have R := toI_step hI h8 hkx
          clear hI
          have hbn : b' ≠ w1.heap.size := by omega
          go_wp2
          go_roundw
          case rel => exact ⟨k + 1, by omega, by omega, by go_num, R⟩
          case measure => simp [intOf]; omega
        · obtain rfl : k = n := by omega
          have HC := toI_cells hI (Or.inr HL.out)
          have HBB : Hid (Below w.heap.size w wr) := HB.out.trans (hI.below.mono HB.out.size)
          obtain ⟨g0, g1, g2, g3, q0, q1, q2, q3⟩ := toI_res hI hz c0 c1 c2 c3 f0 f1 f2 f3
          clear hI c0 c1 c2 c3 f0 f1 f2 f3
          have hne : w.heap.size + 1 ≠ w1.heap.size := by omega
          obtain ⟨y0, hy0⟩ : ∃ y, y = ds.getD 0 0 := ⟨_, rfl⟩
          obtain ⟨y1, hy1⟩ : ∃ y, y = ds.getD 1 0 := ⟨_, rfl⟩
          obtain ⟨y2, hy2⟩ : ∃ y, y = ds.getD 2 0 := ⟨_, rfl⟩
          obtain ⟨y3, hy3⟩ : ∃ y, y = ds.getD 3 0 := ⟨_, rfl⟩
          obtain ⟨y4, hy4⟩ : ∃ y, y = ds.getD 4 0 := ⟨_, rfl⟩
          obtain ⟨y5, hy5⟩ : ∃ y, y = ds.getD 5 0 := ⟨_, rfl⟩
          obtain ⟨y6, hy6⟩ : ∃ y, y = ds.getD 6 0 := ⟨_, rfl⟩
          obtain ⟨y7, hy7⟩ : ∃ y, y = ds.getD 7 0 := ⟨_, rfl⟩
          have e0 := HC 0 (by omega); have e1 := HC 1 (by omega); have e2 := HC 2 (by omega); have e3 := HC 3 (by omega); have e4 := HC 4 (by omega); have e5 := HC 5 (by omega); have e6 := HC 6 (by omega); have e7 := HC 7 (by omega)
          have b0 := dig_getD HD.out 0; have b1 := dig_getD HD.out 1; have b2 := dig_getD HD.out 2; have b3 := dig_getD HD.out 3; have b4 := dig_getD HD.out 4; have b5 := dig_getD HD.out 5; have b6 := dig_getD HD.out 6; have b7 := dig_getD HD.out 7
          have HW := uw_of_digits HD.out HU.out
          rw [← hy0] at e0 b0 HW; rw [← hy1] at e1 b1 HW; rw [← hy2] at e2 b2 HW; rw [← hy3] at e3 b3 HW; rw [← hy4] at e4 b4 HW; rw [← hy5] at e5 b5 HW; rw [← hy6] at e6 b6 HW; rw [← hy7] at e7 b7 HW
          have o0 := or_hi y0 y1 b0 b1; have o1 := or_hi y2 y3 b2 b3; have o2 := or_hi y4 y5 b4 b5; have o3 := or_hi y6 y7 b6 b7
          have d0 := word_of_digits b0 b1; have d1 := word_of_digits b2 b3; have d2 := word_of_digits b4 b5; have d3 := word_of_digits b6 b7
          obtain ⟨x0, hx0⟩ : ∃ x, x = y0 + y1 * 4294967296 := ⟨_, rfl⟩
          obtain ⟨x1, hx1⟩ : ∃ x, x = y2 + y3 * 4294967296 := ⟨_, rfl⟩
          obtain ⟨x2, hx2⟩ : ∃ x, x = y4 + y5 * 4294967296 := ⟨_, rfl⟩
          obtain ⟨x3, hx3⟩ : ∃ x, x = y6 + y7 * 4294967296 := ⟨_, rfl⟩
          rw [← hx0] at o0 d0 HW; rw [← hx1] at o1 d1 HW; rw [← hx2] at o2 d2 HW; rw [← hx3] at o3 d3 HW
          have HW2 : Hid (uw x3 x2 x1 x0 = val ds) := HW
          clear HC HW hx0 hx1 hx2 hx3 hy0 hy1 hy2 hy3 hy4 hy5 hy6 hy7 b0 b1 b2 b3 b4 b5 b6 b7
          go_wp2
          go_region_held3 (fun w' => w'.cell? ⟨w1.heap.size, 0, none⟩ = some (.int .u64 y0) ∧ w'.cell? ⟨w1.heap.size, 1, none⟩ = some (.int .u64 y1) ∧ w'.cell? ⟨w1.heap.size, 2, none⟩ = some (.int .u64 y2) ∧ w'.cell? ⟨w1.heap.size, 3, none⟩ = some (.int .u64 y3) ∧ w'.cell? ⟨w1.heap.size, 4, none⟩ = some (.int .u64 y4) ∧ w'.cell? ⟨w1.heap.size, 5, none⟩ = some (.int .u64 y5) ∧ w'.cell? ⟨w1.heap.size, 6, none⟩ = some (.int .u64 y6) ∧ w'.cell? ⟨w1.heap.size, 7, none⟩ = some (.int .u64 y7)) (first | exact ⟨e0, e1, e2, e3, e4, e5, e6, e7⟩ | exact keep8 hne e0 e1 e2 e3 e4 e5 e6 e7) (fail)
          all_goals go_wp2
          all_goals refine bodyPost_ret (v := .tuple #[.agg #[.int .u64 x3, .int .u64 x2, .int .u64 x1, .int .u64 x0], .bool true]) (by simp [results, Try.results49, go_sem, g0, g1, g2, g3]) rfl ?_
          all_goals exact tell_ok d3 d2 d1 d0 HW2.out HS.out (by first | exact (tell_below HBB.out (Nat.le_succ _)).drew | exact tell_below HBB.out (Nat.le_succ _))
      · obtain rfl : k = 8 := by omega
        have HC := toI_cells hI (Or.inl rfl)
        have HBB : Hid (Below w.heap.size w wr) := HB.out.trans (hI.below.mono HB.out.size)
        obtain ⟨g0, g1, g2, g3, q0, q1, q2, q3⟩ := toI_res hI hz c0 c1 c2 c3 f0 f1 f2 f3
        clear hI c0 c1 c2 c3 f0 f1 f2 f3
        have hne : w.heap.size + 1 ≠ w1.heap.size := by omega
        obtain ⟨y0, hy0⟩ : ∃ y, y = ds.getD 0 0 := ⟨_, rfl⟩
        obtain ⟨y1, hy1⟩ : ∃ y, y = ds.getD 1 0 := ⟨_, rfl⟩
        obtain ⟨y2, hy2⟩ : ∃ y, y = ds.getD 2 0 := ⟨_, rfl⟩
        obtain ⟨y3, hy3⟩ : ∃ y, y = ds.getD 3 0 := ⟨_, rfl⟩
        obtain ⟨y4, hy4⟩ : ∃ y, y = ds.getD 4 0 := ⟨_, rfl⟩
        obtain ⟨y5, hy5⟩ : ∃ y, y = ds.getD 5 0 := ⟨_, rfl⟩
        obtain ⟨y6, hy6⟩ : ∃ y, y = ds.getD 6 0 := ⟨_, rfl⟩
        obtain ⟨y7, hy7⟩ : ∃ y, y = ds.getD 7 0 := ⟨_, rfl⟩
        have e0 := HC 0 (by omega); have e1 := HC 1 (by omega); have e2 := HC 2 (by omega); have e3 := HC 3 (by omega); have e4 := HC 4 (by omega); have e5 := HC 5 (by omega); have e6 := HC 6 (by omega); have e7 := HC 7 (by omega)
        have b0 := dig_getD HD.out 0; have b1 := dig_getD HD.out 1; have b2 := dig_getD HD.out 2; have b3 := dig_getD HD.out 3; have b4 := dig_getD HD.out 4; have b5 := dig_getD HD.out 5; have b6 := dig_getD HD.out 6; have b7 := dig_getD HD.out 7
        have HW := uw_of_digits HD.out HU.out
        rw [← hy0] at e0 b0 HW; rw [← hy1] at e1 b1 HW; rw [← hy2] at e2 b2 HW; rw [← hy3] at e3 b3 HW; rw [← hy4] at e4 b4 HW; rw [← hy5] at e5 b5 HW; rw [← hy6] at e6 b6 HW; rw [← hy7] at e7 b7 HW
        have o0 := or_hi y0 y1 b0 b1; have o1 := or_hi y2 y3 b2 b3; have o2 := or_hi y4 y5 b4 b5; have o3 := or_hi y6 y7 b6 b7
        have d0 := word_of_digits b0 b1; have d1 := word_of_digits b2 b3; have d2 := word_of_digits b4 b5; have d3 := word_of_digits b6 b7
        obtain ⟨x0, hx0⟩ : ∃ x, x = y0 + y1 * 4294967296 := ⟨_, rfl⟩
        obtain ⟨x1, hx1⟩ : ∃ x, x = y2 + y3 * 4294967296 := ⟨_, rfl⟩
        obtain ⟨x2, hx2⟩ : ∃ x, x = y4 + y5 * 4294967296 := ⟨_, rfl⟩
        obtain ⟨x3, hx3⟩ : ∃ x, x = y6 + y7 * 4294967296 := ⟨_, rfl⟩
        rw [← hx0] at o0 d0 HW; rw [← hx1] at o1 d1 HW; rw [← hx2] at o2 d2 HW; rw [← hx3] at o3 d3 HW
        have HW2 : Hid (uw x3 x2 x1 x0 = val ds) := HW
        clear HC HW hx0 hx1 hx2 hx3 hy0 hy1 hy2 hy3 hy4 hy5 hy6 hy7 b0 b1 b2 b3 b4 b5 b6 b7
        go_wp2
        go_region_held3 (fun w' => w'.cell? ⟨w1.heap.size, 0, none⟩ = some (.int .u64 y0) ∧ w'.cell? ⟨w1.heap.size, 1, none⟩ = some (.int .u64 y1) ∧ w'.cell? ⟨w1.heap.size, 2, none⟩ = some (.int .u64 y2) ∧ w'.cell? ⟨w1.heap.size, 3, none⟩ = some (.int .u64 y3) ∧ w'.cell? ⟨w1.heap.size, 4, none⟩ = some (.int .u64 y4) ∧ w'.cell? ⟨w1.heap.size, 5, none⟩ = some (.int .u64 y5) ∧ w'.cell? ⟨w1.heap.size, 6, none⟩ = some (.int .u64 y6) ∧ w'.cell? ⟨w1.heap.size, 7, none⟩ = some (.int .u64 y7)) (first | exact ⟨e0, e1, e2, e3, e4, e5, e6, e7⟩ | exact keep8 hne e0 e1 e2 e3 e4 e5 e6 e7) (fail)
        all_goals go_wp2
        all_goals refine bodyPost_ret (v := .tuple #[.agg #[.int .u64 x3, .int .u64 x2, .int .u64 x1, .int .u64 x0], .bool true]) (by simp [results, Try.results49, go_sem, g0, g1, g2, g3]) rfl ?_
        all_goals exact tell_ok d3 d2 d1 d0 HW2.out HS.out (by first | exact (tell_below HBB.out (Nat.le_succ _)).drew | exact tell_below HBB.out (Nat.le_succ _))
  · have HT : Hid (told z = false) := by show _ = _; unfold told; rw [decide_eq_false_iff_not]; have := fun h => hb5 (hbl.2 h); omega
    clear hv hbl HR
    go_wp2_with fail
    refine bodyPost_ret (v := .tuple #[.agg #[.int .u64 0, .int .u64 0, .int .u64 0, .int .u64 0], .bool false]) (by simp [results, Try.results49, go_sem, c0, c1, c2, c3]) rfl ?_
    exact ⟨tell_below HB.out (Nat.le_succ _), Or.inr ⟨HT.out, rfl⟩⟩
end Go.Proofs.Ytddniklhpkagmaa

/- The walk of four words made from a number below 0. -/
namespace Go.Proofs.Ytddniklhpkagmaa
open Go.RowKit
set_option maxRecDepth 100000 in
set_option maxHeartbeats 4000000 in
theorem toW_neg (ao : Option Addr) (n cap : Nat) (ds0 : List Int) (z : Int) (k : Nat) (w : World) (hz0 : z < 0) (h : IsNum w true ao n cap ds0 z k) (hk : k ≤ 1000000) :
    Calls Try.prog 49 #[.agg #[.bool true, .slice ao n cap]] w (TellP z w) := by
  have hm0 : n ≤ 1000000 := by have := h.le; omega
  go_enter Try.func49, Try.ntmps49
  go_wp2_with fail
  refine (left_any _ 1 1 255 [1] _ rfl (dig_cons.2 ⟨by omega, dig_nil⟩) (Rd.lit _ (by simp) rfl (by simp [maxLen])) (by omega) (by omega)).mono ?_
  rintro e wa ⟨ao1, n1, cap1, zs1, rfl, k1, k2, k3, k4, k5, k6, k7⟩
  have hRd0 : Rd wa ao ds0 := (((h.rd.below ((Below.refl _ _).alloc (Nat.le_refl _) _) (Nat.le_refl _)).below ((Below.refl _ _).alloc (Nat.le_refl _) _) (Nat.le_refl _)).below ((Below.refl _ _).alloc (Nat.le_refl _) _) (Nat.le_refl _)).below k7 (Nat.le_refl _)
  have hA : Below (w.heap.size + 2) ((w.alloc (Obj.cells #[Value.bool true, Value.slice ao n cap] 57)).alloc (Obj.cells #[Value.int IntKind.u64 0, Value.int IntKind.u64 0, Value.int IntKind.u64 0, Value.int IntKind.u64 0] 25)) wa :=
    ((Below.refl _ _).alloc (by simp) _).trans (k7.mono (by simp))
  rw [pw255] at k5
  have k3' : n1 ≤ 9 := k3
  clear k7 k3
  go_wp2_with fail
  refine (cmpAbs_any ao ao1 n n1 cap cap1 ds0 zs1 _ h.len k1 h.nrm k4 hRd0 k6 hm0 (by omega)).mono ?_
  rintro e wb ⟨rfl, hB⟩
  have hRd1 := hRd0.below hB (Nat.le_refl _)
  have hA1 := hA.trans (hB.mono (by have := hA.size; simp at this ⊢; omega))
  have hL0 := h.len
  have hD0 := h.nrm.1
  have hv0 := h.val
  have HV0 : Hid (val ds0 = (z.natAbs : Int)) := hv0
  rw [k5, hv0]
  clear k1 k2 k4 k5 k6 hRd0 hA hB h hv0
  by_cases hb5 : (z.natAbs : Int) ≤ 57896044618658097711785492504343953926634992332820282019728792003956564819968
  · have hcmp : ¬ 0 < cmpI (z.natAbs : Int) 57896044618658097711785492504343953926634992332820282019728792003956564819968 := by unfold cmpI; split <;> (try split) <;> omega
    generalize cmpI (z.natAbs : Int) 57896044618658097711785492504343953926634992332820282019728792003956564819968 = cc at hcmp ⊢
    have hmk := make8
    go_wp2_with fail
    refine (left_any _ 1 1 256 [1] _ rfl (dig_cons.2 ⟨by omega, dig_nil⟩) (Rd.lit _ (by simp) rfl (by simp [maxLen])) (by omega) (by omega)).mono ?_
    rintro e wc ⟨ao2, n2, cap2, zs2, rfl, k1, k2, k3, k4, k5, k6, k7⟩
    have hRd2 := (hRd1.below ((Below.refl _ _).alloc (Nat.le_refl _) _) (Nat.le_refl _)).below k7 (Nat.le_refl _)
    have hA2 := (hA1.alloc (by have := hA1.size; simp at this; omega) _).trans (k7.mono (by have := hA1.size; simp at this ⊢; omega))
    have k3' : n2 ≤ 10 := k3
    rw [pw256] at k5
    clear k7 k3
    go_wp2_with fail
    refine (subAbs_any ao2 ao n2 n cap2 cap zs2 ds0 _ k1 hL0 k4.1 hD0 k6 hRd2 (by omega) hm0 (by rw [k5, HV0.out]; omega)).mono ?_
    rintro e w1 ⟨ao3, cap3, ds, rfl, m1, m2, m3, m4, m5, m6⟩
    have hA3 := hA2.trans (m6.mono (by have := hA2.size; simp at this ⊢; omega))
    obtain ⟨c0, c1, c2, c3, f0, f1, f2, f3, hz, hB2⟩ := res4' (R := w.heap.size + 1) (by simp) (hA3.mono (by simp))
    have HB : Hid (Below w.heap.size w w1) := ((Below.refl _ _).alloc (Nat.le_refl _) _).trans (hB2.mono (by simp))
    have HL : Hid (ds.length = n2) := m1
    have HD : Hid (Dig ds) := m3
    have HR : Hid (Rd w1 ao3 ds) := m5
    rw [k5, HV0.out] at m4
    have HU : Hid (val ds < pw 8) := by show _ < _; rw [m4, pw8]; omega
    have HS : Hid (TellOk (val ds) z) := Or.inr ⟨hz0, by omega, by rw [m4]; omega⟩
    clear k1 k2 k4 k5 k6 hRd1 hRd2 hA1 hA2 hA3 hB2 m1 m2 m3 m4 m5 m6 hL0 hD0 HV0
    go_wp2_with fail
    go_loopw [6] (fun i wr => ∃ k : Nat, k ≤ 8 ∧ k ≤ n2 ∧ i = .int .i64 k ∧ ToI w1 wr w1.heap.size ds k) (fun i _ => 8 - (intOf i).toNat)
    case atStart => exact ⟨0, by omega, Nat.zero_le _, rfl, toI_start w1 ds⟩
    case round =>
      obtain ⟨k, hk8, hkn, rfl, hI⟩ := hrel
      by_cases h8 : k < 8
      · by_cases hn : k < n2
        · have hkx : k < ds.length := by have := HL.out; omega
          obtain ⟨b', off, rfl, hbl, hcx0⟩ := HR.out k hkx
          have hcx := (hI.below.cell (p := ⟨b', off + k, none⟩) hbl).trans hcx0
          clear hcx0
          obtain ⟨hx0, hx1⟩ := dig_at HD.out k hkx
          have hfr := hI.own.frozenAt k
          obtain ⟨v0, hc0⟩ := toI_cell hI k h8
          have R := toI_step hI h8 hkx
          clear hI
          have hbn : b' ≠ w1.heap.size := by omega
          go_wp2
          go_roundw
          case rel => exact ⟨k + 1, by omega, by omega, by go_num, R⟩
          case measure => simp [intOf]; omega
        · obtain rfl : k = n2 := by omega
          have HC := toI_cells hI (Or.inr HL.out)
          have HBB : Hid (Below w.heap.size w wr) := HB.out.trans (hI.below.mono HB.out.size)
          obtain ⟨g0, g1, g2, g3, q0, q1, q2, q3⟩ := toI_res hI hz c0 c1 c2 c3 f0 f1 f2 f3
          clear hI c0 c1 c2 c3 f0 f1 f2 f3
          have hne : w.heap.size + 1 ≠ w1.heap.size := by omega
          obtain ⟨y0, hy0⟩ : ∃ y, y = ds.getD 0 0 := ⟨_, rfl⟩
          obtain ⟨y1, hy1⟩ : ∃ y, y = ds.getD 1 0 := ⟨_, rfl⟩
          obtain ⟨y2, hy2⟩ : ∃ y, y = ds.getD 2 0 := ⟨_, rfl⟩
          obtain ⟨y3, hy3⟩ : ∃ y, y = ds.getD 3 0 := ⟨_, rfl⟩
          obtain ⟨y4, hy4⟩ : ∃ y, y = ds.getD 4 0 := ⟨_, rfl⟩
          obtain ⟨y5, hy5⟩ : ∃ y, y = ds.getD 5 0 := ⟨_, rfl⟩
          obtain ⟨y6, hy6⟩ : ∃ y, y = ds.getD 6 0 := ⟨_, rfl⟩
          obtain ⟨y7, hy7⟩ : ∃ y, y = ds.getD 7 0 := ⟨_, rfl⟩
          have e0 := HC 0 (by omega); have e1 := HC 1 (by omega); have e2 := HC 2 (by omega); have e3 := HC 3 (by omega); have e4 := HC 4 (by omega); have e5 := HC 5 (by omega); have e6 := HC 6 (by omega); have e7 := HC 7 (by omega)
          have b0 := dig_getD HD.out 0; have b1 := dig_getD HD.out 1; have b2 := dig_getD HD.out 2; have b3 := dig_getD HD.out 3; have b4 := dig_getD HD.out 4; have b5 := dig_getD HD.out 5; have b6 := dig_getD HD.out 6; have b7 := dig_getD HD.out 7
          have HW := uw_of_digits HD.out HU.out
          rw [← hy0] at e0 b0 HW; rw [← hy1] at e1 b1 HW; rw [← hy2] at e2 b2 HW; rw [← hy3] at e3 b3 HW; rw [← hy4] at e4 b4 HW; rw [← hy5] at e5 b5 HW; rw [← hy6] at e6 b6 HW; rw [← hy7] at e7 b7 HW
          have o0 := or_hi y0 y1 b0 b1; have o1 := or_hi y2 y3 b2 b3; have o2 := or_hi y4 y5 b4 b5; have o3 := or_hi y6 y7 b6 b7
          have d0 := word_of_digits b0 b1; have d1 := word_of_digits b2 b3; have d2 := word_of_digits b4 b5; have d3 := word_of_digits b6 b7
          obtain ⟨x0, hx0⟩ : ∃ x, x = y0 + y1 * 4294967296 := ⟨_, rfl⟩
          obtain ⟨x1, hx1⟩ : ∃ x, x = y2 + y3 * 4294967296 := ⟨_, rfl⟩
          obtain ⟨x2, hx2⟩ : ∃ x, x = y4 + y5 * 4294967296 := ⟨_, rfl⟩
          obtain ⟨x3, hx3⟩ : ∃ x, x = y6 + y7 * 4294967296 := ⟨_, rfl⟩
          rw [← hx0] at o0 d0 HW; rw [← hx1] at o1 d1 HW; rw [← hx2] at o2 d2 HW; rw [← hx3] at o3 d3 HW
          have HW2 : Hid (uw x3 x2 x1 x0 = val ds) := HW
          clear HC HW hx0 hx1 hx2 hx3 hy0 hy1 hy2 hy3 hy4 hy5 hy6 hy7 b0 b1 b2 b3 b4 b5 b6 b7
          go_wp2
          go_region_held3 (fun w' => w'.cell? ⟨w1.heap.size, 0, none⟩ = some (.int .u64 y0) ∧ w'.cell? ⟨w1.heap.size, 1, none⟩ = some (.int .u64 y1) ∧ w'.cell? ⟨w1.heap.size, 2, none⟩ = some (.int .u64 y2) ∧ w'.cell? ⟨w1.heap.size, 3, none⟩ = some (.int .u64 y3) ∧ w'.cell? ⟨w1.heap.size, 4, none⟩ = some (.int .u64 y4) ∧ w'.cell? ⟨w1.heap.size, 5, none⟩ = some (.int .u64 y5) ∧ w'.cell? ⟨w1.heap.size, 6, none⟩ = some (.int .u64 y6) ∧ w'.cell? ⟨w1.heap.size, 7, none⟩ = some (.int .u64 y7)) (first | exact ⟨e0, e1, e2, e3, e4, e5, e6, e7⟩ | exact keep8 hne e0 e1 e2 e3 e4 e5 e6 e7) (fail)
          all_goals go_wp2
          all_goals refine bodyPost_ret (v := .tuple #[.agg #[.int .u64 x3, .int .u64 x2, .int .u64 x1, .int .u64 x0], .bool true]) (by simp [results, Try.results49, go_sem, g0, g1, g2, g3]) rfl ?_
          all_goals exact tell_ok d3 d2 d1 d0 HW2.out HS.out (by first | exact (tell_below HBB.out (Nat.le_succ _)).drew | exact tell_below HBB.out (Nat.le_succ _))
      · obtain rfl : k = 8 := by omega
        have HC := toI_cells hI (Or.inl rfl)
        have HBB : Hid (Below w.heap.size w wr) := HB.out.trans (hI.below.mono HB.out.size)
        obtain ⟨g0, g1, g2, g3, q0, q1, q2, q3⟩ := toI_res hI hz c0 c1 c2 c3 f0 f1 f2 f3
        clear hI c0 c1 c2 c3 f0 f1 f2 f3
        have hne : w.heap.size + 1 ≠ w1.heap.size := by omega
        obtain ⟨y0, hy0⟩ : ∃ y, y = ds.getD 0 0 := ⟨_, rfl⟩
        obtain ⟨y1, hy1⟩ : ∃ y, y = ds.getD 1 0 := ⟨_, rfl⟩
        obtain ⟨y2, hy2⟩ : ∃ y, y = ds.getD 2 0 := ⟨_, rfl⟩
        obtain ⟨y3, hy3⟩ : ∃ y, y = ds.getD 3 0 := ⟨_, rfl⟩
        obtain ⟨y4, hy4⟩ : ∃ y, y = ds.getD 4 0 := ⟨_, rfl⟩
        obtain ⟨y5, hy5⟩ : ∃ y, y = ds.getD 5 0 := ⟨_, rfl⟩
        obtain ⟨y6, hy6⟩ : ∃ y, y = ds.getD 6 0 := ⟨_, rfl⟩
        obtain ⟨y7, hy7⟩ : ∃ y, y = ds.getD 7 0 := ⟨_, rfl⟩
        have e0 := HC 0 (by omega); have e1 := HC 1 (by omega); have e2 := HC 2 (by omega); have e3 := HC 3 (by omega); have e4 := HC 4 (by omega); have e5 := HC 5 (by omega); have e6 := HC 6 (by omega); have e7 := HC 7 (by omega)
        have b0 := dig_getD HD.out 0; have b1 := dig_getD HD.out 1; have b2 := dig_getD HD.out 2; have b3 := dig_getD HD.out 3; have b4 := dig_getD HD.out 4; have b5 := dig_getD HD.out 5; have b6 := dig_getD HD.out 6; have b7 := dig_getD HD.out 7
        have HW := uw_of_digits HD.out HU.out
        rw [← hy0] at e0 b0 HW; rw [← hy1] at e1 b1 HW; rw [← hy2] at e2 b2 HW; rw [← hy3] at e3 b3 HW; rw [← hy4] at e4 b4 HW; rw [← hy5] at e5 b5 HW; rw [← hy6] at e6 b6 HW; rw [← hy7] at e7 b7 HW
        have o0 := or_hi y0 y1 b0 b1; have o1 := or_hi y2 y3 b2 b3; have o2 := or_hi y4 y5 b4 b5; have o3 := or_hi y6 y7 b6 b7
        have d0 := word_of_digits b0 b1; have d1 := word_of_digits b2 b3; have d2 := word_of_digits b4 b5; have d3 := word_of_digits b6 b7
        obtain ⟨x0, hx0⟩ : ∃ x, x = y0 + y1 * 4294967296 := ⟨_, rfl⟩
        obtain ⟨x1, hx1⟩ : ∃ x, x = y2 + y3 * 4294967296 := ⟨_, rfl⟩
        obtain ⟨x2, hx2⟩ : ∃ x, x = y4 + y5 * 4294967296 := ⟨_, rfl⟩
        obtain ⟨x3, hx3⟩ : ∃ x, x = y6 + y7 * 4294967296 := ⟨_, rfl⟩
        rw [← hx0] at o0 d0 HW; rw [← hx1] at o1 d1 HW; rw [← hx2] at o2 d2 HW; rw [← hx3] at o3 d3 HW
        have HW2 : Hid (uw x3 x2 x1 x0 = val ds) := HW
        clear HC HW hx0 hx1 hx2 hx3 hy0 hy1 hy2 hy3 hy4 hy5 hy6 hy7 b0 b1 b2 b3 b4 b5 b6 b7
        go_wp2
        go_region_held3 (fun w' => w'.cell? ⟨w1.heap.size, 0, none⟩ = some (.int .u64 y0) ∧ w'.cell? ⟨w1.heap.size, 1, none⟩ = some (.int .u64 y1) ∧ w'.cell? ⟨w1.heap.size, 2, none⟩ = some (.int .u64 y2) ∧ w'.cell? ⟨w1.heap.size, 3, none⟩ = some (.int .u64 y3) ∧ w'.cell? ⟨w1.heap.size, 4, none⟩ = some (.int .u64 y4) ∧ w'.cell? ⟨w1.heap.size, 5, none⟩ = some (.int .u64 y5) ∧ w'.cell? ⟨w1.heap.size, 6, none⟩ = some (.int .u64 y6) ∧ w'.cell? ⟨w1.heap.size, 7, none⟩ = some (.int .u64 y7)) (first | exact ⟨e0, e1, e2, e3, e4, e5, e6, e7⟩ | exact keep8 hne e0 e1 e2 e3 e4 e5 e6 e7) (fail)
        all_goals go_wp2
        all_goals refine bodyPost_ret (v := .tuple #[.agg #[.int .u64 x3, .int .u64 x2, .int .u64 x1, .int .u64 x0], .bool true]) (by simp [results, Try.results49, go_sem, g0, g1, g2, g3]) rfl ?_
        all_goals exact tell_ok d3 d2 d1 d0 HW2.out HS.out (by first | exact (tell_below HBB.out (Nat.le_succ _)).drew | exact tell_below HBB.out (Nat.le_succ _))
  · have hcmp : 0 < cmpI (z.natAbs : Int) 57896044618658097711785492504343953926634992332820282019728792003956564819968 := by unfold cmpI; rw [if_neg (by omega), if_pos (by omega)]; omega
    generalize cmpI (z.natAbs : Int) 57896044618658097711785492504343953926634992332820282019728792003956564819968 = cc at hcmp ⊢
    have HT : Hid (told z = false) := by show _ = _; unfold told; rw [decide_eq_false_iff_not]; omega
    obtain ⟨c0, c1, c2, c3, f0, f1, f2, f3, hz, hB2⟩ := res4' (R := w.heap.size + 1) (by simp) (hA1.mono (by simp))
    have HB : Hid (Below w.heap.size w wb) := ((Below.refl _ _).alloc (Nat.le_refl _) _).trans (hB2.mono (by simp))
    clear hRd1 hA1 hB2 hL0 hD0 HV0
    go_wp2_with fail
    refine bodyPost_ret (v := .tuple #[.agg #[.int .u64 0, .int .u64 0, .int .u64 0, .int .u64 0], .bool false]) (by simp [results, Try.results49, go_sem, c0, c1, c2, c3]) rfl ?_
    exact ⟨tell_below HB.out (Nat.le_succ _), Or.inr ⟨HT.out, rfl⟩⟩
end Go.Proofs.Ytddniklhpkagmaa

/- The walks of the sign of four words, by the model and by the program, and of the law over both. -/
namespace Go.Proofs.Ytddniklhpkagmaa
open Go.RowKit
/-- Four words as a value. -/
def WideP (a3 a2 a1 a0 : Int) (w : World) (e : Ending) (w' : World) : Prop := e = .returned (.agg #[.int .u64 a3, .int .u64 a2, .int .u64 a1, .int .u64 a0]) ∧ Below w.heap.size w w'
def BoolP (b : Bool) (w : World) (e : Ending) (w' : World) : Prop := e = .returned (.bool b) ∧ Below w.heap.size w w'
set_option maxRecDepth 100000 in
set_option maxHeartbeats 400000 in
theorem toWide_any (a3 a2 a1 a0 : Int) (w : World) :
    Calls Try.prog 18 #[.agg #[.int .u64 a3, .int .u64 a2, .int .u64 a1, .int .u64 a0]] w (WideP a3 a2 a1 a0 w) := by
  go_enter Try.func18, Try.ntmps18
  go_wp2
  refine bodyPost_ret (v := .agg #[.int .u64 a3, .int .u64 a2, .int .u64 a1, .int .u64 a0]) (by simp [results, Try.results18, go_sem]) rfl ?_
  exact ⟨rfl, (((Below.refl _ _).alloc (Nat.le_refl _) _).alloc (by simp) _).alloc (by simp; omega) _⟩
set_option maxRecDepth 100000 in
set_option maxHeartbeats 400000 in
theorem isBelow_any (a3 a2 a1 a0 : Int) (h3 : Word a3) (b : Bool) (hb : (a3 / 9223372036854775808 == 1) = b) (w : World) :
    Calls Try.prog 58 #[.agg #[.int .u64 a3, .int .u64 a2, .int .u64 a1, .int .u64 a0]] w (BoolP b w) := by
  obtain ⟨l3, u3⟩ := h3
  go_enter Try.func58, Try.ntmps58
  go_wp2
  go_ret
  exact ⟨rfl, (Below.refl _ _).alloc (Nat.le_refl _) _⟩
set_option maxRecDepth 100000 in
set_option maxHeartbeats 400000 in
theorem implSign_any (a3 a2 a1 a0 : Int) (h3 : Word a3) (h2 : Word a2) (h1 : Word a1) (h0 : Word a0) (w : World) :
    Calls Try.prog 115 #[.agg #[.int .u64 a3, .int .u64 a2, .int .u64 a1, .int .u64 a0]] w (IntP (cmpI (sw a3 a2 a1 a0) 0) w) := by
  have hn := sw_neg h3 h2 h1 h0
  by_cases hp : 9223372036854775808 ≤ a3
  · have hb : (a3 / 9223372036854775808 == 1) = true := beq_iff_eq.2 (by have := h3.2; omega)
    go_enter Try.func115, Try.ntmps115
    go_wp2_with fail
    refine (isBelow_any a3 a2 a1 a0 h3 true hb _).mono ?_
    rintro e w1 ⟨rfl, hB⟩
    go_wp2
    go_ret
    exact ⟨ret_int (cmpI_lt (hn.2 hp)), ((Below.refl _ _).alloc (Nat.le_refl _) _).trans (hB.mono (by simp))⟩
  · have hb : (a3 / 9223372036854775808 == 1) = false := beq_eq_false_iff_ne.2 (by have := h3.1; omega)
    go_enter Try.func115, Try.ntmps115
    go_wp2_with fail
    refine (isBelow_any a3 a2 a1 a0 h3 false hb _).mono ?_
    rintro e w1 ⟨rfl, hB⟩
    have HS : Hid (sw a3 a2 a1 a0 = uw a3 a2 a1 a0) := by show _ = _; unfold sw; rw [if_pos (by omega)]
    obtain ⟨hc, _⟩ := bcell hB
    have HB : Hid (Below w.heap.size w w1) := ((Below.refl _ _).alloc (Nat.le_refl _) _).trans (hB.mono (by simp))
    obtain ⟨l3, u3⟩ := h3; obtain ⟨l2, u2⟩ := h2; obtain ⟨l1, u1⟩ := h1; obtain ⟨l0, u0⟩ := h0
    clear hB hn
    go_wp2
    all_goals go_ret
    all_goals (refine ⟨ret_int ?_, HB.out⟩; rw [HS.out]; first | exact cmpI_gt (by unfold uw; omega) | exact cmpI_eq (by unfold uw; omega))
end Go.Proofs.Ytddniklhpkagmaa

/- The walks of a number of four words made from an integer, by the model and by the program, and of the law over both. -/
namespace Go.Proofs.Ytddniklhpkagmaa
open Go.RowKit
theorem toW_any (s : Bool) (ao : Option Addr) (n cap : Nat) (ds : List Int) (z : Int) (k : Nat) (w : World) (h : IsNum w s ao n cap ds z k) (hk : k ≤ 1000000) :
    Calls Try.prog 49 #[.agg #[.bool s, .slice ao n cap]] w (TellP z w) := by
  by_cases hz : z < 0
  · have hs : s = true := by rw [h.neg]; simpa using hz
    subst hs
    exact toW_neg ao n cap ds z k w hz h hk
  · have hs : s = false := by rw [h.neg]; simpa using hz
    subst hs
    exact toW_pos ao n cap ds z k w (by omega) h hk
/-- Four words that stand for z. -/
def SwP (z : Int) (w : World) (e : Ending) (w' : World) : Prop :=
  ∃ a3 a2 a1 a0, e = .returned (.agg #[.int .u64 a3, .int .u64 a2, .int .u64 a1, .int .u64 a0]) ∧ Word a3 ∧ Word a2 ∧ Word a1 ∧ Word a0 ∧ sw a3 a2 a1 a0 = z ∧ Below w.heap.size w w'
set_option maxRecDepth 100000 in
set_option maxHeartbeats 400000 in
theorem eqWide_same (a3 a2 a1 a0 : Int) (w : World) :
    Calls Try.prog 20 #[.agg #[.int .u64 a3, .int .u64 a2, .int .u64 a1, .int .u64 a0], .agg #[.int .u64 a3, .int .u64 a2, .int .u64 a1, .int .u64 a0]] w (BoolP true w) := by
  have h3 : (a3 != a3) = false := by simp
  have h2 : (a2 != a2) = false := by simp
  have h1 : (a1 != a1) = false := by simp
  have h0 : (a0 != a0) = false := by simp
  go_enter Try.func20, Try.ntmps20
  go_wp2
  go_ret
  exact ⟨rfl, ((Below.refl _ _).alloc (Nat.le_refl _) _).alloc (by simp) _⟩
set_option maxRecDepth 100000 in
set_option maxHeartbeats 1000000 in
theorem implOf_any (n : Int) (w : World) (h0 : -9223372036854775808 ≤ n) (h1 : n ≤ 9223372036854775807) :
    Calls Try.prog 116 #[.int .i64 n] w (SwP n w) := by
  by_cases hn : n < 0
  · have hd1 : IntKind.u64.wrap (n / 9223372036854775808) = 18446744073709551615 := by rw [IntKind.wrap_u64]; omega
    have hd2 : IntKind.u64.wrap n = n + 18446744073709551616 := by rw [IntKind.wrap_u64]; omega
    go_enter Try.func116, Try.ntmps116
    go_wp2
    refine bodyPost_ret (v := .agg #[.int .u64 18446744073709551615, .int .u64 18446744073709551615, .int .u64 18446744073709551615, .int .u64 (n + 18446744073709551616)]) (by simp [results, Try.results116, go_sem]) rfl ?_
    refine ⟨_, _, _, _, rfl, ⟨by decide, by decide⟩, ⟨by decide, by decide⟩, ⟨by decide, by decide⟩, ⟨by omega, by omega⟩, ?_, (Below.refl _ _).alloc (Nat.le_refl _) _⟩
    unfold sw uw; rw [if_neg (by decide)]; omega
  · have hd1 : n / 9223372036854775808 = 0 := by omega
    go_enter Try.func116, Try.ntmps116
    go_wp2
    refine bodyPost_ret (v := .agg #[.int .u64 0, .int .u64 0, .int .u64 0, .int .u64 n]) (by simp [results, Try.results116, go_sem]) rfl ?_
    refine ⟨_, _, _, _, rfl, ⟨by decide, by decide⟩, ⟨by decide, by decide⟩, ⟨by decide, by decide⟩, ⟨by omega, by omega⟩, ?_, (Below.refl _ _).alloc (Nat.le_refl _) _⟩
    unfold sw uw; rw [if_pos (by decide)]; omega
end Go.Proofs.Ytddniklhpkagmaa

/- Four words in a block of memory, and what is kept of them. -/
namespace Go.Proofs.Ytddniklhpkagmaa
open Go.RowKit
/-- Four words lie in the block g. -/
structure Wd (W : World) (g : Nat) (a3 a2 a1 a0 : Int) : Prop where
  c0 : W.cell? ⟨g, 0, none⟩ = some (.int .u64 a3)
  c1 : W.cell? ⟨g, 1, none⟩ = some (.int .u64 a2)
  c2 : W.cell? ⟨g, 2, none⟩ = some (.int .u64 a1)
  c3 : W.cell? ⟨g, 3, none⟩ = some (.int .u64 a0)
  f0 : W.frozen? ⟨g, 0, none⟩ = false
  f1 : W.frozen? ⟨g, 1, none⟩ = false
  f2 : W.frozen? ⟨g, 2, none⟩ = false
  f3 : W.frozen? ⟨g, 3, none⟩ = false
  lt : g < W.heap.size
theorem Wd.step {W W' : World} {g : Nat} {a3 a2 a1 a0 : Int} (h : Wd W g a3 a2 a1 a0) (hb : Below W.heap.size W W') : Wd W' g a3 a2 a1 a0 := by
  have hc := fun o => hb.cell (p := ⟨g, o, none⟩) h.lt
  have hf := fun o => hb.frozen (p := ⟨g, o, none⟩) h.lt
  exact ⟨(hc _).trans h.c0, (hc _).trans h.c1, (hc _).trans h.c2, (hc _).trans h.c3, (hf _).trans h.f0, (hf _).trans h.f1, (hf _).trans h.f2, (hf _).trans h.f3, Nat.lt_of_lt_of_le h.lt hb.size⟩
theorem Wd.drew {W : World} {g : Nat} {a3 a2 a1 a0 : Int} (h : Wd W g a3 a2 a1 a0) : Wd W.drew g a3 a2 a1 a0 := ⟨h.c0, h.c1, h.c2, h.c3, h.f0, h.f1, h.f2, h.f3, h.lt⟩
theorem Wd.alloc {W : World} {g : Nat} {a3 a2 a1 a0 : Int} (h : Wd W g a3 a2 a1 a0) (o : Obj) : Wd (W.alloc o) g a3 a2 a1 a0 := h.step ((Below.refl _ _).alloc (Nat.le_refl _) o)
theorem Wd.new (W : World) (a3 a2 a1 a0 : Int) (T : TypeId) {g : Nat} (hg : g = W.heap.size) : Wd (W.alloc (Obj.cells #[Value.int IntKind.u64 a3, Value.int IntKind.u64 a2, Value.int IntKind.u64 a1, Value.int IntKind.u64 a0] T)) g a3 a2 a1 a0 := by
  subst hg
  exact ⟨by simp [go_sem], by simp [go_sem], by simp [go_sem], by simp [go_sem], by simp [go_sem], by simp [go_sem], by simp [go_sem], by simp [go_sem], by simp⟩
theorem Wd.set {W : World} {g R : Nat} {a3 a2 a1 a0 : Int} (h : Wd W g a3 a2 a1 a0) (hne : g ≠ R) (u0 u1 u2 u3 : Value) : Wd ((((W.setCell ⟨R, 0, none⟩ u0).setCell ⟨R, 1, none⟩ u1).setCell ⟨R, 2, none⟩ u2).setCell ⟨R, 3, none⟩ u3) g a3 a2 a1 a0 := by
  have hn : ∀ o j, (⟨R, j, none⟩ : Addr) ≠ ⟨g, o, none⟩ := by intro o j e; simp only [Addr.mk.injEq] at e; exact hne e.1.symm
  have hc : ∀ o, ((((W.setCell ⟨R, 0, none⟩ u0).setCell ⟨R, 1, none⟩ u1).setCell ⟨R, 2, none⟩ u2).setCell ⟨R, 3, none⟩ u3).cell? ⟨g, o, none⟩ = W.cell? ⟨g, o, none⟩ := fun o => by
    rw [World.cell?_setCell_other _ _ _ _ (hn o 3), World.cell?_setCell_other _ _ _ _ (hn o 2), World.cell?_setCell_other _ _ _ _ (hn o 1), World.cell?_setCell_other _ _ _ _ (hn o 0)]
  have hf : ∀ o, ((((W.setCell ⟨R, 0, none⟩ u0).setCell ⟨R, 1, none⟩ u1).setCell ⟨R, 2, none⟩ u2).setCell ⟨R, 3, none⟩ u3).frozen? ⟨g, o, none⟩ = W.frozen? ⟨g, o, none⟩ := fun o => by simp [go_sem]
  exact ⟨(hc _).trans h.c0, (hc _).trans h.c1, (hc _).trans h.c2, (hc _).trans h.c3, (hf _).trans h.f0, (hf _).trans h.f1, (hf _).trans h.f2, (hf _).trans h.f3, by simpa [World.setCell] using h.lt⟩
/-- Two boxed numbers of four words, as a call that takes two finds them. -/
structure TwoW (w W : World) (a3 a2 a1 a0 b3 b2 b1 b0 : Int) : Prop where
  a : Wd W w.heap.size a3 a2 a1 a0
  b : Wd W (w.heap.size + 1) b3 b2 b1 b0
  below : Below w.heap.size w W
theorem TwoW.step {w W W' : World} {a3 a2 a1 a0 b3 b2 b1 b0 : Int} (h : TwoW w W a3 a2 a1 a0 b3 b2 b1 b0) (hb : Below W.heap.size W W') : TwoW w W' a3 a2 a1 a0 b3 b2 b1 b0 := ⟨h.a.step hb, h.b.step hb, h.below.trans (hb.mono h.below.size)⟩
theorem TwoW.drew {w W : World} {a3 a2 a1 a0 b3 b2 b1 b0 : Int} (h : TwoW w W a3 a2 a1 a0 b3 b2 b1 b0) : TwoW w W.drew a3 a2 a1 a0 b3 b2 b1 b0 := ⟨h.a.drew, h.b.drew, h.below.drew⟩
theorem TwoW.alloc {w W : World} {a3 a2 a1 a0 b3 b2 b1 b0 : Int} (h : TwoW w W a3 a2 a1 a0 b3 b2 b1 b0) (o : Obj) : TwoW w (W.alloc o) a3 a2 a1 a0 b3 b2 b1 b0 := h.step ((Below.refl _ _).alloc (Nat.le_refl _) o)
theorem TwoW.set {w W : World} {R : Nat} {a3 a2 a1 a0 b3 b2 b1 b0 : Int} (h : TwoW w W a3 a2 a1 a0 b3 b2 b1 b0) (hR : w.heap.size + 1 < R) (u0 u1 u2 u3 : Value) : TwoW w ((((W.setCell ⟨R, 0, none⟩ u0).setCell ⟨R, 1, none⟩ u1).setCell ⟨R, 2, none⟩ u2).setCell ⟨R, 3, none⟩ u3) a3 a2 a1 a0 b3 b2 b1 b0 :=
  ⟨h.a.set (by omega) _ _ _ _, h.b.set (by omega) _ _ _ _, tell_below h.below (by omega)⟩
/-- What a region that reads both holds on to. -/
def Cells8 (w W : World) (a3 a2 a1 a0 b3 b2 b1 b0 : Int) : Prop :=
  W.cell? ⟨w.heap.size, 0, none⟩ = some (.int .u64 a3) ∧ W.cell? ⟨w.heap.size, 1, none⟩ = some (.int .u64 a2) ∧ W.cell? ⟨w.heap.size, 2, none⟩ = some (.int .u64 a1) ∧ W.cell? ⟨w.heap.size, 3, none⟩ = some (.int .u64 a0) ∧
  W.cell? ⟨w.heap.size + 1, 0, none⟩ = some (.int .u64 b3) ∧ W.cell? ⟨w.heap.size + 1, 1, none⟩ = some (.int .u64 b2) ∧ W.cell? ⟨w.heap.size + 1, 2, none⟩ = some (.int .u64 b1) ∧ W.cell? ⟨w.heap.size + 1, 3, none⟩ = some (.int .u64 b0)
theorem TwoW.cells {w W : World} {a3 a2 a1 a0 b3 b2 b1 b0 : Int} (h : TwoW w W a3 a2 a1 a0 b3 b2 b1 b0) : Cells8 w W a3 a2 a1 a0 b3 b2 b1 b0 := ⟨h.a.c0, h.a.c1, h.a.c2, h.a.c3, h.b.c0, h.b.c1, h.b.c2, h.b.c3⟩
theorem twoW_start (w : World) (a3 a2 a1 a0 b3 b2 b1 b0 : Int) (T : TypeId) : TwoW w ((w.alloc (Obj.cells #[Value.int IntKind.u64 a3, Value.int IntKind.u64 a2, Value.int IntKind.u64 a1, Value.int IntKind.u64 a0] T)).alloc (Obj.cells #[Value.int IntKind.u64 b3, Value.int IntKind.u64 b2, Value.int IntKind.u64 b1, Value.int IntKind.u64 b0] T)) a3 a2 a1 a0 b3 b2 b1 b0 :=
  ⟨(Wd.new w _ _ _ _ T rfl).alloc _, Wd.new _ _ _ _ _ T (by simp), ((Below.refl _ _).alloc (Nat.le_refl _) _).alloc (by simp) _⟩
theorem tellP_set {z : Int} {w W : World} {R : Nat} {e : Ending} {u0 u1 u2 u3 : Value} (hR : w.heap.size ≤ R) (h : TellP z w e W) : TellP z w e ((((W.setCell ⟨R, 0, none⟩ u0).setCell ⟨R, 1, none⟩ u1).setCell ⟨R, 2, none⟩ u2).setCell ⟨R, 3, none⟩ u3) := ⟨tell_below h.1 hR, h.2⟩
theorem tellP_drew {z : Int} {w W : World} {e : Ending} (h : TellP z w e W) : TellP z w e W.drew := ⟨h.1.drew, h.2⟩
theorem tellP_from {z : Int} {w W W' : World} {e : Ending} (hB : Below w.heap.size w W) (h : TellP z W e W') : TellP z w e W' := ⟨hB.trans (h.1.mono hB.size), h.2⟩
/-- A tell's value: four words and a flag. -/
theorem tellP_shape {z : Int} {w W : World} {e : Ending} (h : TellP z w e W) : ∃ a3 a2 a1 a0 b, e = .returned (.tuple #[.agg #[.int .u64 a3, .int .u64 a2, .int .u64 a1, .int .u64 a0], .bool b]) := by
  rcases h.2 with ⟨_, a3, a2, a1, a0, e, _⟩ | ⟨_, e⟩
  · exact ⟨a3, a2, a1, a0, true, e⟩
  · exact ⟨0, 0, 0, 0, false, e⟩
/-- Two tells of one number are one. -/
theorem tellP_same {z : Int} {w W w' W' : World} {a3 a2 a1 a0 b3 b2 b1 b0 : Int} {p q : Bool} (h : TellP z w (.returned (.tuple #[.agg #[.int .u64 a3, .int .u64 a2, .int .u64 a1, .int .u64 a0], .bool p])) W) (h' : TellP z w' (.returned (.tuple #[.agg #[.int .u64 b3, .int .u64 b2, .int .u64 b1, .int .u64 b0], .bool q])) W') :
    a3 = b3 ∧ a2 = b2 ∧ a1 = b1 ∧ a0 = b0 ∧ p = q := by
  rcases h.2 with ⟨t, x3, x2, x1, x0, e, h3, h2, h1, h0, hs⟩ | ⟨t, e⟩
  · rcases h'.2 with ⟨t', y3, y2, y1, y0, e', g3, g2, g1, g0, hs'⟩ | ⟨t', _⟩
    · simp at e e'
      obtain ⟨⟨rfl, rfl, rfl, rfl⟩, rfl⟩ := e
      obtain ⟨⟨rfl, rfl, rfl, rfl⟩, rfl⟩ := e'
      obtain ⟨r3, r2, r1, r0⟩ := sw_inj h3 h2 h1 h0 g3 g2 g1 g0 (hs.trans hs'.symm)
      exact ⟨r3, r2, r1, r0, rfl⟩
    · rw [t] at t'; cases t'
  · rcases h'.2 with ⟨t', _⟩ | ⟨t', e'⟩
    · rw [t] at t'; cases t'
    · simp at e e'
      obtain ⟨⟨rfl, rfl, rfl, rfl⟩, rfl⟩ := e
      obtain ⟨⟨rfl, rfl, rfl, rfl⟩, rfl⟩ := e'
      exact ⟨rfl, rfl, rfl, rfl, rfl⟩
end Go.Proofs.Ytddniklhpkagmaa

/- Rows of words in memory, and the two sums with a carry: the words that the walks share. -/
namespace Go.Proofs.Ytddniklhpkagmaa
open Go.RowKit
theorem add64 (x y c : Int) (hx : Word x) (hy : Word y) (hc0 : 0 ≤ c) (hc : c ≤ 1) (w : World) : (callFunc 114 #[.int .u64 x, .int .u64 y, .int .u64 c]).run Try.prog w =
    .ok (.value (.tuple #[.int .u64 ((x + y + c) % 18446744073709551616), .int .u64 ((x + y + c) / 18446744073709551616)])) w := by
  obtain ⟨hx0, hx1⟩ := hx
  obtain ⟨hy0, hy1⟩ := hy
  obtain ⟨x, rfl⟩ := Int.eq_ofNat_of_zero_le hx0
  obtain ⟨y, rfl⟩ := Int.eq_ofNat_of_zero_le hy0
  obtain ⟨c, rfl⟩ := Int.eq_ofNat_of_zero_le hc0
  rw [run_callFunc_extern Try.func114 (by kernel_rfl) (by kernel_rfl) (by kernel_rfl) (e := add64Entry) (by kernel_rfl), run_add64 x y c (by omega) (by omega) (by omega) (by omega)]
  simp only [Result.andThen]
theorem sub64 (x y b : Int) (hx : Word x) (hy : Word y) (hb0 : 0 ≤ b) (hb : b ≤ 1) (w : World) : (callFunc 123 #[.int .u64 x, .int .u64 y, .int .u64 b]).run Try.prog w =
    .ok (.value (.tuple #[.int .u64 ((x - y - b) % 18446744073709551616), .int .u64 (if x < y + b then 1 else 0)])) w := by
  obtain ⟨hx0, hx1⟩ := hx
  obtain ⟨hy0, hy1⟩ := hy
  obtain ⟨x, rfl⟩ := Int.eq_ofNat_of_zero_le hx0
  obtain ⟨y, rfl⟩ := Int.eq_ofNat_of_zero_le hy0
  obtain ⟨b, rfl⟩ := Int.eq_ofNat_of_zero_le hb0
  have e1 : (((x + 18446744073709551616 - y - b) % 18446744073709551616 : Nat) : Int) = ((x : Int) - y - b) % 18446744073709551616 := by omega
  have e2 : ((if x < y + b then 1 else 0 : Nat) : Int) = if (x : Int) < y + b then 1 else 0 := by split <;> split <;> omega
  rw [← e1, ← e2]
  rw [run_callFunc_extern Try.func123 (by kernel_rfl) (by kernel_rfl) (by kernel_rfl) (e := sub64Entry) (by kernel_rfl), run_sub64 x y b (by omega)]
  rfl
/-- The number that words stand for, the lowest first. -/
def val64 : List Int → Int
  | [] => 0
  | d :: t => d + 18446744073709551616 * val64 t
def Words (ds : List Int) : Prop := ∀ d ∈ ds, Word d
def pw64 : Nat → Int
  | 0 => 1
  | n + 1 => 18446744073709551616 * pw64 n
theorem val64_snoc (a : List Int) (d : Int) : val64 (a ++ [d]) = val64 a + pw64 a.length * d := by
  induction a with
  | nil => simp [val64, pw64]
  | cons x t ih => simp only [List.cons_append, val64, List.length_cons, pw64, ih]; grind
theorem words_append {a b : List Int} : Words (a ++ b) ↔ Words a ∧ Words b := by
  constructor
  · intro h; exact ⟨fun x hx => h x (by simp [hx]), fun x hx => h x (by simp [hx])⟩
  · rintro ⟨h1, h2⟩ x hx
    rcases List.mem_append.1 hx with hx | hx
    · exact h1 x hx
    · exact h2 x hx
theorem words_at {a : List Int} (h : Words a) (n : Nat) (hn : n < a.length) : Word a[n] := h _ (List.getElem_mem hn)
theorem val64_take (a : List Int) (k : Nat) (h : k < a.length) : val64 (a.take (k + 1)) = val64 (a.take k) + pw64 k * a[k] := by
  rw [List.take_succ_eq_append_getElem h, val64_snoc]
  simp [Nat.min_eq_left (Nat.le_of_lt h)]
/-- Words that lie in a row of memory and may be written. -/
structure Row (w : World) (A off : Nat) (xs : List Int) : Prop where
  cell : ∀ i, (h : i < xs.length) → w.cell? ⟨A, off + i, none⟩ = some (.int .u64 xs[i])
  frz : ∀ i, i < xs.length → w.frozen? ⟨A, off + i, none⟩ = false
  lt : A < w.heap.size
/-- Behind it no other cell has turned than n cells of one block. -/
structure Wrote (A off n : Nat) (w w' : World) : Prop where
  os : w'.os = w.os
  tape : w'.tape = w.tape
  output : w'.output = w.output
  size : w'.heap.size = w.heap.size
  block : ∀ k, k ≠ A → w'.heap[k]? = w.heap[k]?
  cell : ∀ j, (j < off ∨ off + n ≤ j) → w'.cell? ⟨A, j, none⟩ = w.cell? ⟨A, j, none⟩
  frz : ∀ j, w'.frozen? ⟨A, j, none⟩ = w.frozen? ⟨A, j, none⟩
theorem Wrote.refl (A off n : Nat) (w : World) : Wrote A off n w w := ⟨rfl, rfl, rfl, rfl, fun _ _ => rfl, fun _ _ => rfl, fun _ => rfl⟩
theorem Wrote.drew {A off n : Nat} {w w' : World} (h : Wrote A off n w w') : Wrote A off n w w'.drew := ⟨h.os, h.tape, h.output, h.size, h.block, h.cell, h.frz⟩
theorem Wrote.set {A off n : Nat} {w w' : World} (h : Wrote A off n w w') (j : Nat) (hj : off ≤ j ∧ j < off + n) (u : Value) : Wrote A off n w (w'.setCell ⟨A, j, none⟩ u) := by
  refine ⟨h.os, h.tape, h.output, by simpa [World.setCell] using h.size, fun k hk => ?_, fun i hi => ?_, fun i => ?_⟩
  · rw [Below.heap_setCell _ _ _ _ hk]; exact h.block k hk
  · rw [World.cell?_setCell_other _ _ _ _ (by intro e; simp only [Addr.mk.injEq] at e; omega)]; exact h.cell i hi
  · rw [← h.frz i]; simp [go_sem]
theorem Wrote.cellOther {A off n : Nat} {w w' : World} (h : Wrote A off n w w') {b : Nat} (hb : b ≠ A) (o : Nat) : w'.cell? ⟨b, o, none⟩ = w.cell? ⟨b, o, none⟩ := World.cell?_of_block (w := w) (h.block b hb)
theorem Wrote.frzOther {A off n : Nat} {w w' : World} (h : Wrote A off n w w') {b : Nat} (hb : b ≠ A) (o : Nat) : w'.frozen? ⟨b, o, none⟩ = w.frozen? ⟨b, o, none⟩ := World.frozen?_of_block (w := w) (h.block b hb)
theorem Wrote.below {A off n : Nat} {w w' : World} (h : Wrote A off n w w') {B : Nat} (hB : B ≤ A) : Below B w w' := ⟨h.os, h.tape, h.output, by rw [h.size]; exact Nat.le_refl _, fun k hk => h.block k (by omega)⟩
end Go.Proofs.Ytddniklhpkagmaa

/- The walk of the sum of two rows of words. -/
namespace Go.Proofs.Ytddniklhpkagmaa
open Go.RowKit
structure AwI (w wr : World) (A oa n : Nat) (xs ys : List Int) (k : Nat) (c : Int) (zs : List Int) : Prop where
  len : zs.length = k
  wds : Words zs
  eq : val64 zs + c * pw64 k = val64 (xs.take k) + val64 (ys.take k)
  row : Row wr A oa (zs ++ xs.drop k)
  wrote : Wrote A oa n w wr
def AddWP (A oa n : Nat) (xs ys : List Int) (w : World) (e : Ending) (w' : World) : Prop :=
  ∃ (zs : List Int) (c : Int), e = .returned (.tuple #[]) ∧ zs.length = n ∧ Words zs ∧ 0 ≤ c ∧ c ≤ 1 ∧ val64 zs + c * pw64 n = val64 xs + val64 ys ∧ Row w' A oa zs ∧ Wrote A oa n w w'
theorem aw_cell {w wr : World} {A oa n : Nat} {xs ys : List Int} {k : Nat} {c : Int} {zs : List Int} (h : AwI w wr A oa n xs ys k c zs) (hk : k < xs.length) : wr.cell? ⟨A, oa + k, none⟩ = some (.int .u64 xs[k]) ∧ wr.frozen? ⟨A, oa + k, none⟩ = false := by
  have hl : k < (zs ++ xs.drop k).length := by simp [h.len]; omega
  refine ⟨?_, h.row.frz k hl⟩
  rw [h.row.cell k hl]
  have : (zs ++ xs.drop k)[k] = xs[k] := by have := h.len; rw [List.getElem_append_right (by omega)]; simp [h.len]
  rw [this]
theorem row_set {w : World} {A off : Nat} {zs t : List Int} {x : Int} (h : Row w A off (zs ++ x :: t)) (u : Int) : Row (w.setCell ⟨A, off + zs.length, none⟩ (.int .u64 u)) A off ((zs ++ [u]) ++ t) := by
  have hc := h.cell zs.length (by simp)
  refine ⟨fun i hi => ?_, fun i hi => ?_, by simpa [World.setCell] using h.lt⟩
  · by_cases he : i = zs.length
    · subst he
      rw [World.cell?_setCell_same _ _ _ hc]
      simp
    · rw [World.cell?_setCell_other _ _ _ _ (by intro e; simp only [Addr.mk.injEq] at e; omega), h.cell i (by simp at hi ⊢; omega)]
      congr 2
      simp only [List.append_assoc, List.cons_append, List.nil_append]
      rcases Nat.lt_or_ge i zs.length with h1 | h1
      · rw [List.getElem_append_left h1, List.getElem_append_left h1]
      · rw [List.getElem_append_right h1, List.getElem_append_right h1]
        obtain ⟨j, hj⟩ : ∃ j, i - zs.length = j + 1 := ⟨i - zs.length - 1, by omega⟩
        simp [hj]
  · have := h.frz i (by simp at hi ⊢; omega)
    rw [← this]; simp [go_sem]
theorem row_drew {w : World} {A off : Nat} {xs : List Int} (h : Row w A off xs) : Row w.drew A off xs := ⟨h.cell, h.frz, h.lt⟩
theorem aw_step {w wr : World} {A oa n : Nat} {xs ys : List Int} {k : Nat} {c : Int} {zs : List Int} (h : AwI w wr A oa n xs ys k c zs) (hk : k < xs.length) (hk' : k < ys.length) (hn : k < n) (u c' : Int) (hu : u = (xs[k] + ys[k] + c) % 18446744073709551616) (hc : c' = (xs[k] + ys[k] + c) / 18446744073709551616) :
    AwI w (wr.setCell ⟨A, oa + k, none⟩ (.int .u64 u)) A oa n xs ys (k + 1) c' (zs ++ [u]) := by
  refine ⟨by simp [h.len], words_append.2 ⟨h.wds, ?_⟩, ?_, ?_, h.wrote.set _ ⟨by omega, by omega⟩ _⟩
  · intro d hd; simp only [List.mem_singleton] at hd; subst hd; rw [hu]; exact ⟨by omega, by omega⟩
  · rw [val64_snoc, h.len, val64_take xs k hk, val64_take ys k hk', pw64]
    have e := h.eq
    have e1 : u + 18446744073709551616 * c' = xs[k] + ys[k] + c := by omega
    have e2 : pw64 k * u + c' * (18446744073709551616 * pw64 k) = pw64 k * (xs[k] + ys[k] + c) := by rw [← e1]; grind
    have e3 : pw64 k * (xs[k] + ys[k] + c) = pw64 k * xs[k] + pw64 k * ys[k] + c * pw64 k := by grind
    omega
  · have hr := h.row
    rw [List.drop_eq_getElem_cons hk] at hr
    have := row_set hr u
    rw [h.len] at this
    exact this
theorem aw_drew {w wr : World} {A oa n : Nat} {xs ys : List Int} {k : Nat} {c : Int} {zs : List Int} (h : AwI w wr A oa n xs ys k c zs) : AwI w wr.drew A oa n xs ys k c zs := ⟨h.len, h.wds, h.eq, row_drew h.row, h.wrote.drew⟩
theorem aw_done {w wr : World} {A oa n : Nat} {xs ys : List Int} {c : Int} {zs : List Int} (h : AwI w wr A oa n xs ys n c zs) (hx : xs.length = n) (hy : ys.length = n) (hc0 : 0 ≤ c) (hc1 : c ≤ 1) : AddWP A oa n xs ys w (.returned (.tuple #[])) wr := by
  refine ⟨zs, c, rfl, h.len, h.wds, hc0, hc1, ?_, ?_, h.wrote⟩
  · have := h.eq
    rwa [List.take_of_length_le (by omega), List.take_of_length_le (by omega)] at this
  · have := h.row
    rwa [List.drop_of_length_le (by omega), List.append_nil] at this
set_option maxRecDepth 100000 in
set_option maxHeartbeats 2000000 in
theorem addWords_any (A B oa ob n ca cc cb : Nat) (xs ys : List Int) (w : World) (hx : xs.length = n) (hy : ys.length = n) (wx : Words xs) (wy : Words ys) (rx : Row w A oa xs) (ry : Row w B ob ys) (hAB : B ≠ A) (hn : n ≤ 1000) :
    Calls Try.prog 105 #[.slice (some ⟨A, oa, none⟩) n ca, .slice (some ⟨A, oa, none⟩) n cc, .slice (some ⟨B, ob, none⟩) n cb] w (AddWP A oa n xs ys w) := by
  have HX : Hid (xs.length = n) := hx
  have HY : Hid (ys.length = n) := hy
  have HS : AwI w w A oa n xs ys 0 0 [] := ⟨rfl, by intro d hd; simp at hd, by simp [val64], by simpa using rx, Wrote.refl _ _ _ _⟩
  have HRY : Hid (Row w B ob ys) := ry
  have HWX : Hid (Words xs) := wx
  have HWY : Hid (Words ys) := wy
  clear hx hy wx wy rx ry
  go_enter Try.func105, Try.ntmps105
  go_wp2
  go_loopw [6, 10] (fun cr i wr => ∃ (k : Nat) (c : Int) (zs : List Int), k ≤ n ∧ i = .int .i64 k ∧ 0 ≤ c ∧ c ≤ 1 ∧ cr = .int .u64 c ∧ AwI w wr A oa n xs ys k c zs) (fun _ i _ => n - (intOf i).toNat)
  case atStart => exact ⟨0, 0, [], Nat.zero_le _, rfl, by decide, by decide, rfl, HS⟩
  case round =>
    obtain ⟨k, c, zs, hk, rfl, hc0, hc1, rfl, hI⟩ := hrel
    clear HS
    by_cases hkn : k < n
    · have hkx : k < xs.length := by have := HX.out; omega
      have hky : k < ys.length := by have := HY.out; omega
      obtain ⟨hcx, hfx⟩ := aw_cell hI hkx
      have hcy := (hI.wrote.cellOther hAB (ob + k)).trans (HRY.out.cell k hky)
      have vx := words_at HWX.out k hkx
      have vy := words_at HWY.out k hky
      obtain ⟨u, hu⟩ : ∃ u, u = (xs[k] + ys[k] + c) % 18446744073709551616 := ⟨_, rfl⟩
      obtain ⟨c', hc'⟩ : ∃ c', c' = (xs[k] + ys[k] + c) / 18446744073709551616 := ⟨_, rfl⟩
      have hadd := fun wx => add64 xs[k] ys[k] c vx vy hc0 hc1 wx
      rw [← hu, ← hc'] at hadd
      have R := aw_step hI hkx hky hkn u c' hu hc'
      have hb0 : 0 ≤ c' := by have := vx.1; have := vy.1; omega
      have hb1 : c' ≤ 1 := by have := vx.2; have := vy.2; omega
      clear hI vx vy hu hc'
      have hkn' : (k : Int) < n := by omega
      go_wp2
      go_region
      go_wp2
      go_roundw
      case rel => exact ⟨k + 1, c', _, by omega, by go_num, hb0, hb1, rfl, by first | exact R | exact aw_drew R⟩
      case measure => simp [intOf]; omega
    · obtain rfl : k = n := by omega
      have R := aw_done hI HX.out HY.out hc0 hc1
      clear hI
      go_wp2
      go_end0
      exact R
end Go.Proofs.Ytddniklhpkagmaa

/- The walk of the difference of two rows of words. -/
namespace Go.Proofs.Ytddniklhpkagmaa
open Go.RowKit
structure TwI (w wr : World) (A oa n : Nat) (xs ys : List Int) (k : Nat) (c : Int) (zs : List Int) : Prop where
  len : zs.length = k
  wds : Words zs
  eq : val64 zs = val64 (xs.take k) - val64 (ys.take k) + c * pw64 k
  row : Row wr A oa (zs ++ xs.drop k)
  wrote : Wrote A oa n w wr
def TakeWP (A oa n : Nat) (xs ys : List Int) (w : World) (e : Ending) (w' : World) : Prop :=
  ∃ (zs : List Int) (c : Int), e = .returned (.tuple #[]) ∧ zs.length = n ∧ Words zs ∧ 0 ≤ c ∧ c ≤ 1 ∧ val64 zs = val64 xs - val64 ys + c * pw64 n ∧ Row w' A oa zs ∧ Wrote A oa n w w'
theorem tw_cell {w wr : World} {A oa n : Nat} {xs ys : List Int} {k : Nat} {c : Int} {zs : List Int} (h : TwI w wr A oa n xs ys k c zs) (hk : k < xs.length) : wr.cell? ⟨A, oa + k, none⟩ = some (.int .u64 xs[k]) ∧ wr.frozen? ⟨A, oa + k, none⟩ = false := by
  have hl : k < (zs ++ xs.drop k).length := by simp [h.len]; omega
  refine ⟨?_, h.row.frz k hl⟩
  rw [h.row.cell k hl]
  have : (zs ++ xs.drop k)[k] = xs[k] := by have := h.len; rw [List.getElem_append_right (by omega)]; simp [h.len]
  rw [this]
theorem tw_step {w wr : World} {A oa n : Nat} {xs ys : List Int} {k : Nat} {c : Int} {zs : List Int} (h : TwI w wr A oa n xs ys k c zs) (hk : k < xs.length) (hk' : k < ys.length) (hn : k < n) (u c' : Int) (hu0 : Word u) (hu : u = xs[k] - ys[k] - c + c' * 18446744073709551616) :
    TwI w (wr.setCell ⟨A, oa + k, none⟩ (.int .u64 u)) A oa n xs ys (k + 1) c' (zs ++ [u]) := by
  refine ⟨by simp [h.len], words_append.2 ⟨h.wds, ?_⟩, ?_, ?_, h.wrote.set _ ⟨by omega, by omega⟩ _⟩
  · intro d hd; simp only [List.mem_singleton] at hd; subst hd; exact hu0
  · rw [val64_snoc, h.len, val64_take xs k hk, val64_take ys k hk', pw64, h.eq, hu]
    grind
  · have hr := h.row
    rw [List.drop_eq_getElem_cons hk] at hr
    have := row_set hr u
    rw [h.len] at this
    exact this
theorem tw_drew {w wr : World} {A oa n : Nat} {xs ys : List Int} {k : Nat} {c : Int} {zs : List Int} (h : TwI w wr A oa n xs ys k c zs) : TwI w wr.drew A oa n xs ys k c zs := ⟨h.len, h.wds, h.eq, row_drew h.row, h.wrote.drew⟩
theorem tw_done {w wr : World} {A oa n : Nat} {xs ys : List Int} {c : Int} {zs : List Int} (h : TwI w wr A oa n xs ys n c zs) (hx : xs.length = n) (hy : ys.length = n) (hc0 : 0 ≤ c) (hc1 : c ≤ 1) : TakeWP A oa n xs ys w (.returned (.tuple #[])) wr := by
  refine ⟨zs, c, rfl, h.len, h.wds, hc0, hc1, ?_, ?_, h.wrote⟩
  · have := h.eq
    rwa [List.take_of_length_le (by omega), List.take_of_length_le (by omega)] at this
  · have := h.row
    rwa [List.drop_of_length_le (by omega), List.append_nil] at this
theorem borrow (x y b : Int) (hx : Word x) (hy : Word y) (hb0 : 0 ≤ b) (hb1 : b ≤ 1) (u b' : Int) (hu : u = (x - y - b) % 18446744073709551616) (hb' : b' = if x < y + b then 1 else 0) : Word u ∧ u = x - y - b + b' * 18446744073709551616 ∧ 0 ≤ b' ∧ b' ≤ 1 := by
  unfold Word at *
  split at hb' <;> omega
set_option maxRecDepth 100000 in
set_option maxHeartbeats 2000000 in
theorem takeWords_any (A B oa ob n ca cc cb : Nat) (xs ys : List Int) (w : World) (hx : xs.length = n) (hy : ys.length = n) (wx : Words xs) (wy : Words ys) (rx : Row w A oa xs) (ry : Row w B ob ys) (hAB : B ≠ A) (hn : n ≤ 1000) :
    Calls Try.prog 106 #[.slice (some ⟨A, oa, none⟩) n ca, .slice (some ⟨A, oa, none⟩) n cc, .slice (some ⟨B, ob, none⟩) n cb] w (TakeWP A oa n xs ys w) := by
  have HX : Hid (xs.length = n) := hx
  have HY : Hid (ys.length = n) := hy
  have HS : TwI w w A oa n xs ys 0 0 [] := ⟨rfl, by intro d hd; simp at hd, by simp [val64], by simpa using rx, Wrote.refl _ _ _ _⟩
  have HRY : Hid (Row w B ob ys) := ry
  have HWX : Hid (Words xs) := wx
  have HWY : Hid (Words ys) := wy
  clear hx hy wx wy rx ry
  go_enter Try.func106, Try.ntmps106
  go_wp2
  go_loopw [6, 10] (fun cr i wr => ∃ (k : Nat) (c : Int) (zs : List Int), k ≤ n ∧ i = .int .i64 k ∧ 0 ≤ c ∧ c ≤ 1 ∧ cr = .int .u64 c ∧ TwI w wr A oa n xs ys k c zs) (fun _ i _ => n - (intOf i).toNat)
  case atStart => exact ⟨0, 0, [], Nat.zero_le _, rfl, by decide, by decide, rfl, HS⟩
  case round =>
    obtain ⟨k, c, zs, hk, rfl, hc0, hc1, rfl, hI⟩ := hrel
    clear HS
    by_cases hkn : k < n
    · have hkx : k < xs.length := by have := HX.out; omega
      have hky : k < ys.length := by have := HY.out; omega
      obtain ⟨hcx, hfx⟩ := tw_cell hI hkx
      have hcy := (hI.wrote.cellOther hAB (ob + k)).trans (HRY.out.cell k hky)
      have vx := words_at HWX.out k hkx
      have vy := words_at HWY.out k hky
      obtain ⟨u, hu⟩ : ∃ u, u = (xs[k] - ys[k] - c) % 18446744073709551616 := ⟨_, rfl⟩
      obtain ⟨c', hc'⟩ : ∃ c' : Int, c' = if xs[k] < ys[k] + c then 1 else 0 := ⟨_, rfl⟩
      have hadd := fun wx => sub64 xs[k] ys[k] c vx vy hc0 hc1 wx
      rw [← hu, ← hc'] at hadd
      obtain ⟨hw, hq, hb0, hb1⟩ := borrow _ _ _ vx vy hc0 hc1 u c' hu hc'
      have R := tw_step hI hkx hky hkn u c' hw hq
      clear hI vx vy hu hc' hw hq
      have hkn' : (k : Int) < n := by omega
      go_wp2
      go_region
      go_wp2
      go_roundw
      case rel => exact ⟨k + 1, c', _, by omega, by go_num, hb0, hb1, rfl, by first | exact R | exact tw_drew R⟩
      case measure => simp [intOf]; omega
    · obtain rfl : k = n := by omega
      have R := tw_done hI HX.out HY.out hc0 hc1
      clear hI
      go_wp2
      go_end0
      exact R
end Go.Proofs.Ytddniklhpkagmaa

/- The walks of plus and minus of 4 words. -/
namespace Go.Proofs.Ytddniklhpkagmaa
open Go.RowKit
/-- The sum of two rows of words, cut off. -/
def PlusP (xs ys : List Int) (w : World) (e : Ending) (w' : World) : Prop :=
  ∃ (zs : List Int) (c : Int), e = .returned (.agg (zs.map (Value.int .u64)).toArray) ∧ zs.length = xs.length ∧ Words zs ∧ 0 ≤ c ∧ c ≤ 1 ∧ val64 zs + c * pw64 xs.length = val64 xs + val64 ys ∧ Below w.heap.size w w'
/-- The difference of two rows of words, cut off. -/
def MinusP (xs ys : List Int) (w : World) (e : Ending) (w' : World) : Prop :=
  ∃ (zs : List Int) (c : Int), e = .returned (.agg (zs.map (Value.int .u64)).toArray) ∧ zs.length = xs.length ∧ Words zs ∧ 0 ≤ c ∧ c ≤ 1 ∧ val64 zs = val64 xs - val64 ys + c * pw64 xs.length ∧ Below w.heap.size w w'
theorem Row.drewd {w : World} {A off : Nat} {xs : List Int} (h : Row w A off xs) : Row w.drew A off xs := row_drew h
theorem row_other {w w' : World} {A B oa ob n : Nat} {xs : List Int} (h : Row w B ob xs) (hw : Wrote A oa n w w') (hne : B ≠ A) : Row w' B ob xs :=
  ⟨fun i hi => (hw.cellOther hne _).trans (h.cell i hi), fun i hi => (hw.frzOther hne _).trans (h.frz i hi), by rw [hw.size]; exact h.lt⟩
theorem list4 {l : List Int} (h : l.length = 4) : ∃ z0 z1 z2 z3, l = [z0, z1, z2, z3] := by
  match l, h with
  | [z0, z1, z2, z3], _ => exact ⟨z0, z1, z2, z3, rfl⟩
theorem row_of4 {w : World} {A : Nat} {x0 x1 x2 x3 : Int} (hl : A < w.heap.size) (h0 : w.cell? ⟨A, 0, none⟩ = some (.int .u64 x0)) (h1 : w.cell? ⟨A, 1, none⟩ = some (.int .u64 x1)) (h2 : w.cell? ⟨A, 2, none⟩ = some (.int .u64 x2)) (h3 : w.cell? ⟨A, 3, none⟩ = some (.int .u64 x3)) (f0 : w.frozen? ⟨A, 0, none⟩ = false) (f1 : w.frozen? ⟨A, 1, none⟩ = false) (f2 : w.frozen? ⟨A, 2, none⟩ = false) (f3 : w.frozen? ⟨A, 3, none⟩ = false) : Row w A 0 [x0, x1, x2, x3] := by
  refine ⟨fun i hi => ?_, fun i hi => ?_, hl⟩
  · simp only [Nat.zero_add]
    match i, hi with
    | 0, _ => exact h0
    | 1, _ => exact h1
    | 2, _ => exact h2
    | 3, _ => exact h3
  · simp only [Nat.zero_add]
    match i, hi with
    | 0, _ => exact f0
    | 1, _ => exact f1
    | 2, _ => exact f2
    | 3, _ => exact f3
theorem row_cells4 {w : World} {A : Nat} {x0 x1 x2 x3 : Int} (h : Row w A 0 [x0, x1, x2, x3]) : w.cell? ⟨A, 0, none⟩ = some (.int .u64 x0) ∧ w.cell? ⟨A, 1, none⟩ = some (.int .u64 x1) ∧ w.cell? ⟨A, 2, none⟩ = some (.int .u64 x2) ∧ w.cell? ⟨A, 3, none⟩ = some (.int .u64 x3) :=
  ⟨by simpa using h.cell 0 (by simp), by simpa using h.cell 1 (by simp), by simpa using h.cell 2 (by simp), by simpa using h.cell 3 (by simp)⟩
theorem row_frz4 {w : World} {A : Nat} {x0 x1 x2 x3 : Int} (h : Row w A 0 [x0, x1, x2, x3]) : w.frozen? ⟨A, 0, none⟩ = false ∧ w.frozen? ⟨A, 1, none⟩ = false ∧ w.frozen? ⟨A, 2, none⟩ = false ∧ w.frozen? ⟨A, 3, none⟩ = false :=
  ⟨by simpa using h.frz 0 (by simp), by simpa using h.frz 1 (by simp), by simpa using h.frz 2 (by simp), by simpa using h.frz 3 (by simp)⟩
theorem minus4_ret {w w1 : World} {xs ys : List Int} {e : Ending} {u0 u1 u2 u3 : Value} (h : MinusP xs ys w e w1) : MinusP xs ys w e ((((w1.setCell ⟨w.heap.size + 1 + 1, 0, none⟩ u0).setCell ⟨w.heap.size + 1 + 1, 1, none⟩ u1).setCell ⟨w.heap.size + 1 + 1, 2, none⟩ u2).setCell ⟨w.heap.size + 1 + 1, 3, none⟩ u3) := by
  obtain ⟨zs, c, h1, h2, h3, h4, h5, h6, h7⟩ := h
  exact ⟨zs, c, h1, h2, h3, h4, h5, h6, ((((h7.setCell (by show w.heap.size ≤ w.heap.size + 1 + 1; omega) _).setCell (by show w.heap.size ≤ w.heap.size + 1 + 1; omega) _).setCell (by show w.heap.size ≤ w.heap.size + 1 + 1; omega) _).setCell (by show w.heap.size ≤ w.heap.size + 1 + 1; omega) _)⟩
set_option maxRecDepth 100000 in
set_option maxHeartbeats 2000000 in
theorem minus4 (x0 x1 x2 x3 y0 y1 y2 y3 : Int) (wx : Words [x0, x1, x2, x3]) (wy : Words [y0, y1, y2, y3]) (w : World) :
    Calls Try.prog 109 #[.agg #[.int .u64 x0, .int .u64 x1, .int .u64 x2, .int .u64 x3], .agg #[.int .u64 y0, .int .u64 y1, .int .u64 y2, .int .u64 y3]] w (MinusP [x0, x1, x2, x3] [y0, y1, y2, y3] w) := by
  have rx : Row (((w.alloc (Obj.cells #[Value.int IntKind.u64 x0, Value.int IntKind.u64 x1, Value.int IntKind.u64 x2, Value.int IntKind.u64 x3] 77)).alloc (Obj.cells #[Value.int IntKind.u64 y0, Value.int IntKind.u64 y1, Value.int IntKind.u64 y2, Value.int IntKind.u64 y3] 77)).alloc (Obj.cells #[Value.int IntKind.u64 0, Value.int IntKind.u64 0, Value.int IntKind.u64 0, Value.int IntKind.u64 0] 77)) w.heap.size 0 [x0, x1, x2, x3] := row_of4 (by simp <;> omega) (by simp [go_sem]) (by simp [go_sem]) (by simp [go_sem]) (by simp [go_sem]) (by simp [go_sem]) (by simp [go_sem]) (by simp [go_sem]) (by simp [go_sem])
  have ry : Row (((w.alloc (Obj.cells #[Value.int IntKind.u64 x0, Value.int IntKind.u64 x1, Value.int IntKind.u64 x2, Value.int IntKind.u64 x3] 77)).alloc (Obj.cells #[Value.int IntKind.u64 y0, Value.int IntKind.u64 y1, Value.int IntKind.u64 y2, Value.int IntKind.u64 y3] 77)).alloc (Obj.cells #[Value.int IntKind.u64 0, Value.int IntKind.u64 0, Value.int IntKind.u64 0, Value.int IntKind.u64 0] 77)) (w.heap.size + 1) 0 [y0, y1, y2, y3] := row_of4 (by simp <;> omega) (by simp [go_sem]) (by simp [go_sem]) (by simp [go_sem]) (by simp [go_sem]) (by simp [go_sem]) (by simp [go_sem]) (by simp [go_sem]) (by simp [go_sem])
  have rr : Row (((w.alloc (Obj.cells #[Value.int IntKind.u64 x0, Value.int IntKind.u64 x1, Value.int IntKind.u64 x2, Value.int IntKind.u64 x3] 77)).alloc (Obj.cells #[Value.int IntKind.u64 y0, Value.int IntKind.u64 y1, Value.int IntKind.u64 y2, Value.int IntKind.u64 y3] 77)).alloc (Obj.cells #[Value.int IntKind.u64 0, Value.int IntKind.u64 0, Value.int IntKind.u64 0, Value.int IntKind.u64 0] 77)) (w.heap.size + 1 + 1) 0 [0, 0, 0, 0] := row_of4 (by simp <;> omega) (by simp [go_sem]) (by simp [go_sem]) (by simp [go_sem]) (by simp [go_sem]) (by simp [go_sem]) (by simp [go_sem]) (by simp [go_sem]) (by simp [go_sem])
  have hB : Below w.heap.size w (((w.alloc (Obj.cells #[Value.int IntKind.u64 x0, Value.int IntKind.u64 x1, Value.int IntKind.u64 x2, Value.int IntKind.u64 x3] 77)).alloc (Obj.cells #[Value.int IntKind.u64 y0, Value.int IntKind.u64 y1, Value.int IntKind.u64 y2, Value.int IntKind.u64 y3] 77)).alloc (Obj.cells #[Value.int IntKind.u64 0, Value.int IntKind.u64 0, Value.int IntKind.u64 0, Value.int IntKind.u64 0] 77)) := (((Below.refl _ _).alloc (Nat.le_refl _) _).alloc (by simp) _).alloc (by simp; omega) _
  go_enter Try.func109, Try.ntmps109
  go_wp2
  generalize ((w.alloc (Obj.cells #[Value.int IntKind.u64 x0, Value.int IntKind.u64 x1, Value.int IntKind.u64 x2, Value.int IntKind.u64 x3] 77)).alloc (Obj.cells #[Value.int IntKind.u64 y0, Value.int IntKind.u64 y1, Value.int IntKind.u64 y2, Value.int IntKind.u64 y3] 77)).alloc (Obj.cells #[Value.int IntKind.u64 0, Value.int IntKind.u64 0, Value.int IntKind.u64 0, Value.int IntKind.u64 0] 77) = W at *
  go_region_with ((go_at_call 106; refine (takeWords_any w.heap.size (w.heap.size + 1) 0 0 4 4 4 4 [x0, x1, x2, x3] [y0, y1, y2, y3] _ rfl rfl wx wy (row_drew rx) (row_drew ry) (by omega) (by omega)).mono ?_; rintro e w1 ⟨zs, c, rfl, h1, h2, h3, h4, h5, h6, h7⟩))
  obtain ⟨z0, z1, z2, z3, rfl⟩ := list4 h1
  have HP : Hid (MinusP [x0, x1, x2, x3] [y0, y1, y2, y3] w (.returned (.agg #[.int .u64 z0, .int .u64 z1, .int .u64 z2, .int .u64 z3])) w1) := ⟨[z0, z1, z2, z3], c, rfl, rfl, h2, h3, h4, h5, (hB.drew).trans (h7.below (Nat.le_refl _))⟩
  obtain ⟨c0, c1, c2, c3⟩ := row_cells4 h6
  have rr1 := row_other rr.drewd h7 (by omega)
  obtain ⟨g0, g1, g2, g3⟩ := row_cells4 rr1
  obtain ⟨f0, f1, f2, f3⟩ := row_frz4 rr1
  have hne : w.heap.size + 1 + 1 ≠ w.heap.size := by omega
  clear rx ry rr hB h2 h3 h4 h5 h6 h7 h1 rr1
  go_wp2
  refine bodyPost_ret (v := .agg #[.int .u64 z0, .int .u64 z1, .int .u64 z2, .int .u64 z3]) (by simp [results, Try.results109, go_sem, g0, g1, g2, g3]) rfl ?_
  exact minus4_ret HP.out
end Go.Proofs.Ytddniklhpkagmaa

/- The walks of words made from four words and back. -/
namespace Go.Proofs.Ytddniklhpkagmaa
open Go.RowKit
set_option maxRecDepth 100000 in
set_option maxHeartbeats 400000 in
theorem wordsOf_any (a3 a2 a1 a0 : Int) (w : World) :
    Calls Try.prog 110 #[.agg #[.int .u64 a3, .int .u64 a2, .int .u64 a1, .int .u64 a0]] w (WideP a0 a1 a2 a3 w) := by
  go_enter Try.func110, Try.ntmps110
  go_wp2
  refine bodyPost_ret (v := .agg #[.int .u64 a0, .int .u64 a1, .int .u64 a2, .int .u64 a3]) (by simp [results, Try.results110, go_sem]) rfl ?_
  exact ⟨rfl, ((Below.refl _ _).alloc (Nat.le_refl _) _).alloc (by simp) _⟩
theorem words4 {a0 a1 a2 a3 : Int} (h0 : Word a0) (h1 : Word a1) (h2 : Word a2) (h3 : Word a3) : Words [a0, a1, a2, a3] := by
  intro d hd
  simp only [List.mem_cons, List.not_mem_nil, or_false] at hd
  rcases hd with rfl | rfl | rfl | rfl
  · exact h0
  · exact h1
  · exact h2
  · exact h3
theorem words4_of {a0 a1 a2 a3 : Int} (h : Words [a0, a1, a2, a3]) : Word a0 ∧ Word a1 ∧ Word a2 ∧ Word a3 := ⟨h _ (by simp), h _ (by simp), h _ (by simp), h _ (by simp)⟩
theorem val64_4 (a0 a1 a2 a3 : Int) : val64 [a0, a1, a2, a3] = uw a3 a2 a1 a0 := by simp only [val64, uw]; omega
end Go.Proofs.Ytddniklhpkagmaa

/- The walks of the program's sum and difference of four words. -/
namespace Go.Proofs.Ytddniklhpkagmaa
open Go.RowKit
theorem Wd.stored {W : World} {g : Nat} {a3 a2 a1 a0 : Int} (h : Wd W g a3 a2 a1 a0) (z3 z2 z1 z0 : Int) : Wd ((((W.setCell ⟨g, 0, none⟩ (.int .u64 z3)).setCell ⟨g, 1, none⟩ (.int .u64 z2)).setCell ⟨g, 2, none⟩ (.int .u64 z1)).setCell ⟨g, 3, none⟩ (.int .u64 z0)) g z3 z2 z1 z0 := by
  have e0 := h.c0; have e1 := h.c1; have e2 := h.c2; have e3 := h.c3
  have p0 := h.f0; have p1 := h.f1; have p2 := h.f2; have p3 := h.f3
  exact ⟨by simp [go_sem, e0], by simp [go_sem, e1], by simp [go_sem, e2], by simp [go_sem, e3], by simp [go_sem, p0], by simp [go_sem, p1], by simp [go_sem, p2], by simp [go_sem, p3], by simpa [World.setCell] using h.lt⟩
theorem cells8x {w W : World} {a3 a2 a1 a0 b3 b2 b1 b0 : Int} (h : TwoW w W a3 a2 a1 a0 b3 b2 b1 b0) : W.cell? ⟨w.heap.size, 0, none⟩ = some (.int .u64 a3) ∧ W.cell? ⟨w.heap.size, 1, none⟩ = some (.int .u64 a2) ∧ W.cell? ⟨w.heap.size, 2, none⟩ = some (.int .u64 a1) ∧ W.cell? ⟨w.heap.size, 3, none⟩ = some (.int .u64 a0) ∧ W.cell? ⟨w.heap.size + 1, 0, none⟩ = some (.int .u64 b3) ∧ W.cell? ⟨w.heap.size + 1, 1, none⟩ = some (.int .u64 b2) ∧ W.cell? ⟨w.heap.size + 1, 2, none⟩ = some (.int .u64 b1) ∧ W.cell? ⟨w.heap.size + 1, 3, none⟩ = some (.int .u64 b0) := ⟨h.a.c0, h.a.c1, h.a.c2, h.a.c3, h.b.c0, h.b.c1, h.b.c2, h.b.c3⟩
end Go.Proofs.Ytddniklhpkagmaa
