/- The walks of the sign of four words, by the model and by the program, and of the law over both. -/
import Derived.Test.YtinilehbhdpdkaaFrom
namespace Go.Proofs.Ytinilehbhdpdkaa
open Go.RowKit
/-- Four words as a value. -/
def WideP (a3 a2 a1 a0 : Int) (w : World) (e : Ending) (w' : World) : Prop := e = .returned (.agg #[.int .u64 a3, .int .u64 a2, .int .u64 a1, .int .u64 a0]) ∧ Below w.heap.size w w'
def BoolP (b : Bool) (w : World) (e : Ending) (w' : World) : Prop := e = .returned (.bool b) ∧ Below w.heap.size w w'
set_option maxRecDepth 100000 in
set_option maxHeartbeats 400000 in
theorem isBelow_any (a3 a2 a1 a0 : Int) (h3 : Word a3) (b : Bool) (hb : (a3 / 9223372036854775808 == 1) = b) (w : World) :
    Calls Try.prog 22 #[.agg #[.int .u64 a3, .int .u64 a2, .int .u64 a1, .int .u64 a0]] w (BoolP b w) := by
  obtain ⟨l3, u3⟩ := h3
  go_enter Try.func22, Try.ntmps22
  go_wp2
  go_ret
  exact ⟨rfl, (Below.refl _ _).alloc (Nat.le_refl _) _⟩
set_option maxRecDepth 100000 in
set_option maxHeartbeats 400000 in
theorem implSign_any (a3 a2 a1 a0 : Int) (h3 : Word a3) (h2 : Word a2) (h1 : Word a1) (h0 : Word a0) (w : World) :
    Calls Try.prog 16 #[.agg #[.int .u64 a3, .int .u64 a2, .int .u64 a1, .int .u64 a0]] w (IntP (cmpI (sw a3 a2 a1 a0) 0) w) := by
  have hn := sw_neg h3 h2 h1 h0
  by_cases hp : 9223372036854775808 ≤ a3
  · have hb : (a3 / 9223372036854775808 == 1) = true := beq_iff_eq.2 (by have := h3.2; omega)
    go_enter Try.func16, Try.ntmps16
    go_wp2_with fail
    refine (isBelow_any a3 a2 a1 a0 h3 true hb _).mono ?_
    rintro e w1 ⟨rfl, hB⟩
    go_wp2
    go_ret
    exact ⟨ret_int (cmpI_lt (hn.2 hp)), ((Below.refl _ _).alloc (Nat.le_refl _) _).trans (hB.mono (by simp))⟩
  · have hb : (a3 / 9223372036854775808 == 1) = false := beq_eq_false_iff_ne.2 (by have := h3.1; omega)
    go_enter Try.func16, Try.ntmps16
    go_wp2_with fail
    refine (isBelow_any a3 a2 a1 a0 h3 false hb _).mono ?_
    rintro e w1 ⟨rfl, hB⟩
    have HS : Hid (sw a3 a2 a1 a0 = uw a3 a2 a1 a0) := by show _ = _; unfold sw; rw [if_pos (by omega)]
    obtain ⟨hc, _⟩ := bcell hB
    have HB : Hid (Below w.heap.size w w1) := ((Below.refl _ _).alloc (Nat.le_refl _) _).trans (hB.mono (by simp))
    obtain ⟨l3, u3⟩ := h3; obtain ⟨l2, u2⟩ := h2; obtain ⟨l1, u1⟩ := h1; obtain ⟨l0, u0⟩ := h0
    clear hB hn
    go_wp2
    all_goals go_ret
    all_goals (refine ⟨ret_int ?_, HB.out⟩; rw [HS.out]; first | exact cmpI_gt (by unfold uw; omega) | exact cmpI_eq (by unfold uw; omega))
end Go.Proofs.Ytinilehbhdpdkaa
