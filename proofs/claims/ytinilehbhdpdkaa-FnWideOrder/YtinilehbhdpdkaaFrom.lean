/- The walk of a number made from four words. -/
import Derived.Test.YtinilehbhdpdkaaSmall
import Derived.Test.YtinilehbhdpdkaaWnum
namespace Go.Proofs.Ytinilehbhdpdkaa
open Go.RowKit
/-- The two cells of a result, whatever its block is called. -/
theorem res2' {w w3 : World} {a b : Value} {T : TypeId} {R : Nat} (hR : R = w.heap.size) (h : Below (w.heap.size + 1) (w.alloc (.cells #[a, b] T)) w3) :
    w3.cell? ⟨R, 0, none⟩ = some a ∧ w3.cell? ⟨R, 1, none⟩ = some b ∧ w3.frozen? ⟨R, 0, none⟩ = false ∧ w3.frozen? ⟨R, 1, none⟩ = false ∧ R < w3.heap.size ∧ Below w.heap.size w w3 := by
  subst hR; exact res2 h
set_option maxRecDepth 100000 in
set_option maxHeartbeats 1000000 in
theorem from_pos (a3 a2 a1 a0 : Int) (h3 : Word a3) (h2 : Word a2) (h1 : Word a1) (h0 : Word a0) (hp : a3 < 9223372036854775808) (w : World) :
    Calls Try.prog 25 #[.agg #[.int .u64 a3, .int .u64 a2, .int .u64 a1, .int .u64 a0]] w (NumP 8 (sw a3 a2 a1 a0) w) := by
  have hb : (a3 / 9223372036854775808 == 1) = false := beq_eq_false_iff_ne.2 (by have := h3.1; omega)
  have HD := dw_dig h3 h2 h1 h0
  have HV : Hid (val (dw a3 a2 a1 a0) = ((sw a3 a2 a1 a0).natAbs : Int) ∧ ¬ sw a3 a2 a1 a0 < 0) := by
    have e1 := uw_bound h3 h2 h1 h0
    have e2 := dw_val a3 a2 a1 a0
    have e3 : sw a3 a2 a1 a0 = uw a3 a2 a1 a0 := by unfold sw; rw [if_pos hp]
    exact ⟨by rw [e2, e3]; omega, by omega⟩
  obtain ⟨l3, u3⟩ := h3; obtain ⟨l2, u2⟩ := h2; obtain ⟨l1, u1⟩ := h1; obtain ⟨l0, u0⟩ := h0
  go_enter Try.func25, Try.ntmps25
  go_wp2_with fail
  refine (trim_any false _ 8 8 (dw a3 a2 a1 a0) _ rfl (Nat.le_refl _) HD (Rd.lit _ (by simp) rfl (by simp [maxLen, dw])) (by omega)).mono ?_
  rintro e w3 ⟨neg', ao', n', cap', ds', rfl, k1, k2, k3, k4, k5, k6, k7, k8⟩
  obtain ⟨c0, c1, f0, f1, hz, hB⟩ := res2' (R := w.heap.size + 1) (by simp) (((Below.refl _ _).alloc (by simp) _).trans (k8.mono (by simp)))
  have HN := num_of (z := sw a3 a2 a1 a0) k1 k2 k3 k4 k5 k6 k7 HV.out.1 (by intro _; simp [HV.out.2])
  have HB : Hid (Below w.heap.size w w3) := ((Below.refl _ _).alloc (Nat.le_refl _) _).trans (hB.mono (by simp))
  clear k1 k2 k3 k4 k5 k6 k7 k8 hB HD
  go_wp2
  refine bodyPost_ret (v := .agg #[.bool neg', .slice ao' n' cap']) (by simp [results, Try.results25, go_sem, c0, c1]) rfl ?_
  exact num_ret (Nat.le_succ _) c0 c1 HN HB.out
set_option maxRecDepth 100000 in
set_option maxHeartbeats 1000000 in
theorem from_neg (a3 a2 a1 a0 : Int) (h3 : Word a3) (h2 : Word a2) (h1 : Word a1) (h0 : Word a0) (hp : 9223372036854775808 ≤ a3) (w : World) :
    Calls Try.prog 25 #[.agg #[.int .u64 a3, .int .u64 a2, .int .u64 a1, .int .u64 a0]] w (NumP 8 (sw a3 a2 a1 a0) w) := by
  have hb : (a3 / 9223372036854775808 == 1) = true := beq_iff_eq.2 (by have := h3.2; omega)
  have HD := dw_dig h3 h2 h1 h0
  have HV : Hid (val (dw a3 a2 a1 a0) ≤ pw 8 ∧ pw 8 - val (dw a3 a2 a1 a0) = ((sw a3 a2 a1 a0).natAbs : Int) ∧ sw a3 a2 a1 a0 < 0 ∧ ((sw a3 a2 a1 a0).natAbs : Int) < pw 8) := by
    have e1 := uw_bound h3 h2 h1 h0
    have e2 := dw_val a3 a2 a1 a0
    have e3 : sw a3 a2 a1 a0 = uw a3 a2 a1 a0 - 115792089237316195423570985008687907853269984665640564039457584007913129639936 := by unfold sw; rw [if_neg (by omega)]
    have e4 : uw a3 a2 a1 a0 ≠ 0 := by unfold uw; unfold Word at *; omega
    have e5 := pw8
    exact ⟨by omega, by omega, by omega, by omega⟩
  obtain ⟨l3, u3⟩ := h3; obtain ⟨l2, u2⟩ := h2; obtain ⟨l1, u1⟩ := h1; obtain ⟨l0, u0⟩ := h0
  go_enter Try.func25, Try.ntmps25
  go_wp2_with fail
  refine (left_any _ 1 1 256 [1] _ rfl (dig_cons.2 ⟨by omega, dig_nil⟩) (Rd.lit _ (by simp) rfl (by simp [maxLen])) (by omega) (by omega)).mono ?_
  rintro e w3 ⟨ao1, n1, cap1, zs1, rfl, k1, k2, k3, k4, k5, k6, k7⟩
  have hRd : Rd w3 (some ⟨w.heap.size + 1 + 1, 0, none⟩) (dw a3 a2 a1 a0) := ((Rd.lit _ (by simp) rfl (by simp [maxLen, dw])).below ((Below.refl _ _).alloc (Nat.le_refl _) _) (Nat.le_refl _)).below k7 (Nat.le_refl _)
  have hA : Below (w.heap.size + 2) ((w.alloc (Obj.cells #[Value.int IntKind.u64 a3, Value.int IntKind.u64 a2, Value.int IntKind.u64 a1, Value.int IntKind.u64 a0] 26)).alloc (Obj.cells #[Value.bool false, Value.slice none 0 0] 47)) w3 :=
    (((Below.refl _ _).alloc (by simp) _).alloc (by simp) _).trans (k7.mono (by simp))
  have hv1 : val zs1 = pw 8 := by rw [k5]; simp [val]
  have k3' : n1 ≤ 10 := k3
  clear k7 k5 k3
  have HV1 : Hid (val zs1 = pw 8) := hv1
  clear hv1
  go_wp2_with fail
  refine (subAbs_any ao1 _ n1 8 cap1 8 zs1 (dw a3 a2 a1 a0) _ k1 rfl k4.1 HD k6 hRd (by omega) (by omega) (by rw [HV1.out]; exact HV.out.1)).mono ?_
  rintro e w4 ⟨ao2, cap2, zs2, rfl, m1, m2, m3, m4, m5, m6⟩
  have hA2 := hA.trans (m6.mono (by have := hA.size; simp at this ⊢; omega))
  have HV2 : Hid (val zs2 = ((sw a3 a2 a1 a0).natAbs : Int)) := by show _ = _; rw [m4, HV1.out]; exact HV.out.2.1
  clear hA m6 m4 k1 k2 k4 k6 hRd HV1 HD
  go_wp2_with fail
  refine (trim_any true _ n1 _ zs2 _ m1 m2 m3 m5 (by omega)).mono ?_
  rintro e w5 ⟨neg', ao', n', cap', ds', rfl, k1, k2, k3, k4, k5, k6, k7, k8⟩
  have hA3 := hA2.trans (k8.mono (by have := hA2.size; simp at this ⊢; omega))
  obtain ⟨c0, c1, f0, f1, hz, hB⟩ := res2' (R := w.heap.size + 1) (by simp) (hA3.mono (by simp))
  have HN := (num_of (z := sw a3 a2 a1 a0) k1 k2 k3 k4 k5 k6 k7 HV2.out (by intro _; simp [HV.out.2.2.1])).tight 8 HV.out.2.2.2
  have HB : Hid (Below w.heap.size w w5) := ((Below.refl _ _).alloc (Nat.le_refl _) _).trans (hB.mono (by simp))
  clear k1 k2 k3 k4 k5 k6 k7 k8 hB hA2 hA3 m1 m2 m3 m5
  go_wp2
  refine bodyPost_ret (v := .agg #[.bool neg', .slice ao' n' cap']) (by simp [results, Try.results25, go_sem, c0, c1]) rfl ?_
  exact num_ret (Nat.le_succ _) c0 c1 HN HB.out
theorem from_any (a3 a2 a1 a0 : Int) (h3 : Word a3) (h2 : Word a2) (h1 : Word a1) (h0 : Word a0) (w : World) :
    Calls Try.prog 25 #[.agg #[.int .u64 a3, .int .u64 a2, .int .u64 a1, .int .u64 a0]] w (NumP 8 (sw a3 a2 a1 a0) w) := by
  by_cases hp : a3 < 9223372036854775808
  · exact from_pos a3 a2 a1 a0 h3 h2 h1 h0 hp w
  · exact from_neg a3 a2 a1 a0 h3 h2 h1 h0 (by omega) w
end Go.Proofs.Ytinilehbhdpdkaa
