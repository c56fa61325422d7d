/- A tree without items: both sides' walks. -/
import Derived.Test.YtofjlobbohfacaaWw
import Derived.Test.YtofjlobbohfacaaBlk
import Derived.Deep.RegionHeld3
import Derived.Deep.DeepCutAuto
import Derived.BigRegion
namespace Go.Proofs.Ytofjlobbohfacaa
open Go.RowKit
set_option maxRecDepth 100000 in
theorem rootBlock_any (w : World) : Calls Try.prog 44 #[] w (fun e w' => ∃ g, e = .returned (.pointer (some ⟨g, 0, none⟩)) ∧ w.heap.size ≤ g ∧ Blk w' g [.int .i64 (-1048576), .int .i64 (-1048576), .int .i64 2097152, .int .i64 0, .slice none 0 0, .slice none 0 0] ∧ Below w.heap.size w w') := by
  go_enter Try.func44, Try.ntmps44
  go_wp2
  go_ret
  exact ⟨_, rfl, Nat.le_refl _, Blk.new _ [.int .i64 (-1048576), .int .i64 (-1048576), .int .i64 2097152, .int .i64 0, .slice none 0 0, .slice none 0 0] _ rfl, (Below.refl _ _).alloc (Nat.le_refl _) _⟩
/-- Whether the limits are so. -/
def limB (m d : Int) : Bool := decide (1 ≤ m) && decide (m ≤ 8) && decide (0 ≤ d) && decide (d ≤ 8)
set_option maxRecDepth 100000 in
theorem rightLimits_any (m d : Int) (w : World) : Calls Try.prog 43 #[.int .i64 m, .int .i64 d] w (VP (.bool (limB m d)) w) := by
  by_cases h : 1 ≤ m ∧ m ≤ 8 ∧ 0 ≤ d ∧ d ≤ 8
  · obtain ⟨h1, h2, h3, h4⟩ := h
    have HO : Hid (limB m d = true) := by show _ = _; simp [limB]; omega
    go_enter Try.func43, Try.ntmps43
    go_wp2
    go_ret
    exact ⟨by rw [HO.out]; rfl, Below.refl _ _⟩
  · have HO : Hid (limB m d = false) := by show _ = _; rw [Bool.eq_false_iff]; intro hh; simp [limB] at hh; omega
    go_enter Try.func43, Try.ntmps43
    by_cases h0 : m < 1
    · clear h
      go_wp2
      go_ret
      exact ⟨by rw [HO.out]; rfl, Below.refl _ _⟩
    replace h0 := Int.not_lt.1 h0
    by_cases h1 : 8 < m
    · clear h
      go_wp2
      go_ret
      exact ⟨by rw [HO.out]; rfl, Below.refl _ _⟩
    replace h1 := Int.not_lt.1 h1
    by_cases h2 : d < 0
    · clear h
      go_wp2
      go_ret
      exact ⟨by rw [HO.out]; rfl, Below.refl _ _⟩
    replace h2 := Int.not_lt.1 h2
    have h3 : decide (d ≤ 8) = false := decide_eq_false (by omega)
    clear h
    go_wp2
    go_ret
    exact ⟨by rw [HO.out]; rfl, Below.refl _ _⟩
set_option maxRecDepth 100000 in
theorem l13Limits_any (m d : Int) (w : World) : Calls Try.prog 42 #[.int .i64 m, .int .i64 d] w (VP (.bool (limB m d)) w) := by
  by_cases h : 1 ≤ m ∧ m ≤ 8 ∧ 0 ≤ d ∧ d ≤ 8
  · obtain ⟨h1, h2, h3, h4⟩ := h
    have HO : Hid (limB m d = true) := by show _ = _; simp [limB]; omega
    go_enter Try.func42, Try.ntmps42
    go_wp2
    go_ret
    exact ⟨by rw [HO.out]; rfl, Below.refl _ _⟩
  · have HO : Hid (limB m d = false) := by show _ = _; rw [Bool.eq_false_iff]; intro hh; simp [limB] at hh; omega
    go_enter Try.func42, Try.ntmps42
    by_cases h0 : m < 1
    · clear h
      go_wp2
      go_ret
      exact ⟨by rw [HO.out]; rfl, Below.refl _ _⟩
    replace h0 := Int.not_lt.1 h0
    by_cases h1 : 8 < m
    · clear h
      go_wp2
      go_ret
      exact ⟨by rw [HO.out]; rfl, Below.refl _ _⟩
    replace h1 := Int.not_lt.1 h1
    by_cases h2 : d < 0
    · clear h
      go_wp2
      go_ret
      exact ⟨by rw [HO.out]; rfl, Below.refl _ _⟩
    replace h2 := Int.not_lt.1 h2
    have h3 : decide (d ≤ 8) = false := decide_eq_false (by omega)
    clear h
    go_wp2
    go_ret
    exact ⟨by rw [HO.out]; rfl, Below.refl _ _⟩
set_option maxRecDepth 100000 in
set_option maxHeartbeats 2000000 in
theorem row_leaf (g : Nat) (w : World) (B : Blk w g [.int .i64 (-1048576), .int .i64 (-1048576), .int .i64 2097152, .int .i64 0, .slice none 0 0, .slice none 0 0]) : Calls Try.prog 77 #[.pointer (some ⟨g, 0, none⟩)] w (fun e w' => ∃ h, e = .returned (.slice (some ⟨h, 0, none⟩) 1 1) ∧ w.heap.size ≤ h ∧ Blk w' h [.int .i64 (-1048576), .int .i64 (-1048576), .int .i64 2097152, .bool false, .slice none 0 0] ∧ Below w.heap.size w w') := by
  have b0 := B.c 0 rfl; have b1 := B.c 1 rfl; have b2 := B.c 2 rfl; have b3 := B.c 3 rfl; have b4 := B.c 4 rfl; have b5 := B.c 5 rfl; have bl := B.lt
  have HK : ∀ W, Below w.heap.size w W → (fun w' : World => w'.cell? ⟨g, 0, none⟩ = some (.int .i64 (-1048576)) ∧ w'.cell? ⟨g, 1, none⟩ = some (.int .i64 (-1048576)) ∧ w'.cell? ⟨g, 2, none⟩ = some (.int .i64 2097152) ∧ w'.cell? ⟨g, 3, none⟩ = some (.int .i64 0) ∧ w'.cell? ⟨g, 4, none⟩ = some (.slice none 0 0) ∧ w'.cell? ⟨g, 5, none⟩ = some (.slice none 0 0)) W := fun W h => ⟨(B.step h).c 0 rfl, (B.step h).c 1 rfl, (B.step h).c 2 rfl, (B.step h).c 3 rfl, (B.step h).c 4 rfl, (B.step h).c 5 rfl⟩
  have H0 : Below w.heap.size w w := Below.refl _ _
  go_enter Try.func77, Try.ntmps77
  go_upto_region 1 with fail
  go_region_held3 (fun w' : World => w'.cell? ⟨g, 0, none⟩ = some (.int .i64 (-1048576)) ∧ w'.cell? ⟨g, 1, none⟩ = some (.int .i64 (-1048576)) ∧ w'.cell? ⟨g, 2, none⟩ = some (.int .i64 2097152) ∧ w'.cell? ⟨g, 3, none⟩ = some (.int .i64 0) ∧ w'.cell? ⟨g, 4, none⟩ = some (.slice none 0 0) ∧ w'.cell? ⟨g, 5, none⟩ = some (.slice none 0 0)) (refine HK _ ?_ <;> repeat (first | (with_reducible exact H0) | (with_reducible refine Below.drew ?_) | (with_reducible refine Below.alloc ?_ (by simp) _))) (fail)
  all_goals have B' := (B.alloc (.cells #[.int .i64 (-1048576), .int .i64 (-1048576), .int .i64 2097152, .bool false, .slice none 0 0] 88)).drew
  all_goals have HB : Below w.heap.size w (w.alloc (.cells #[.int .i64 (-1048576), .int .i64 (-1048576), .int .i64 2097152, .bool false, .slice none 0 0] 88)).drew := ((Below.refl _ w).alloc (Nat.le_refl _) _).drew
  all_goals have C' := (Blk.new w [.int .i64 (-1048576), .int .i64 (-1048576), .int .i64 2097152, .bool false, .slice none 0 0] 88 rfl).drew
  all_goals clear b0 b1 b2 b3 b4 b5 HK H0 bl B
  all_goals generalize (w.alloc (.cells #[.int .i64 (-1048576), .int .i64 (-1048576), .int .i64 2097152, .bool false, .slice none 0 0] 88)).drew = W at *
  all_goals have b5 := B'.c 5 rfl
  all_goals go_wp2_with fail
  all_goals go_loopw [3, 36] (fun o i wr => o = .slice (some ⟨w.heap.size, 0, none⟩) 1 1 ∧ i = .int .i64 0 ∧ wr = W) (fun _ _ _ => 0)
  case atStart => exact ⟨rfl, rfl, rfl⟩
  case round =>
    obtain ⟨rfl, rfl, rfl⟩ := hrel
    go_wp2
    go_ret
    exact ⟨_, rfl, Nat.le_refl _, C', HB⟩
end Go.Proofs.Ytofjlobbohfacaa
