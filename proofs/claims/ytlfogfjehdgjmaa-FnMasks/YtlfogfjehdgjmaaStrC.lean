/- A matrix, turned: on both sides. -/
import Derived.Test.YtlfogfjehdgjmaaStrB
import Derived.Test.YtlfogfjehdgjmaaBase
import Derived.Laws.BytesArg
namespace Go.Proofs.Ytlfogfjehdgjmaa
open Go.RowKit
theorem Try.infoU8 : (Try.prog.info? 5).map (fun i => (i.zero, i.size, i.bytes)) = some (some (.int .u8 0), 1, 1) := by kernel_rfl
/-- The first bytes of a matrix that is turned, as numbers. -/
def trL (s : ByteArray) (c : Nat) : List Int := (List.range c).map fun j => ((bt s (3 * (j % 3) + j / 3) : Nat) : Int)
/-- A matrix, turned; nothing of what is none. -/
def trS (s : ByteArray) : ByteArray := if nine matL s then strOfNums (trL s 9) else .empty
theorem trS_no {s : ByteArray} (h : nine matL s = false) : trS s = .empty := by unfold trS; rw [h]; rfl
theorem trS_yes {s : ByteArray} (h : nine matL s = true) : trS s = strOfNums (trL s 9) := by unfold trS; rw [h]; rfl
theorem trL_len (s : ByteArray) (c : Nat) : (trL s c).length = c := by simp [trL]
theorem trL_succ (s : ByteArray) (c : Nat) : trL s (c + 1) = trL s c ++ [((bt s (3 * (c % 3) + c / 3) : Nat) : Int)] := by simp [trL, List.range_succ]
set_option maxRecDepth 100000 in
set_option maxHeartbeats 2000000 in
theorem implTransposed_any (s : ByteArray) (w : World) : Calls Try.prog 16 #[.string s] w (VP (.string (trS s)) w) := by
  have C := isMatrix_any s
  cases h9 : nine matL s
  · have HO : Hid (trS s = .empty) := trS_no h9
    rw [h9] at C
    clear h9
    go_enter Try.func16, Try.ntmps16
    go_wp2_with fail
    refine (C _).mono ?_
    rintro e w1 ⟨rfl, hB⟩
    go_wp2
    go_ret
    exact ⟨by rw [HO.out]; rfl, hB⟩
  · have HO : Hid (trS s = strOfNums (trL s 9)) := trS_yes h9
    rw [h9] at C
    obtain ⟨i0, hi, hz0, hz1, hz2⟩ := info_parts Try.infoU8
    have s9 := nine_size h9
    clear h9
    go_enter Try.func16, Try.ntmps16
    go_wp2_with fail
    refine (C _).mono ?_
    rintro e w1 ⟨rfl, hB⟩
    clear C
    go_wp2_with fail
    go_loopw [3, 8] (fun v i wr => ∃ c : Nat, c ≤ 9 ∧ i = .int .i64 c ∧ wr.ownsRow w.heap.size 5 1 v c ((trL s c).map (Value.int .u8)) ∧ Below w.heap.size w wr) (fun _ i _ => 9 - (intOf i).toNat)
    case atStart => exact ⟨0, by omega, rfl, World.ownsRow_nil _ _ _ _, hB⟩
    case round =>
      obtain ⟨c, hc, rfl, hown, HB⟩ := hrel
      clear hB
      have HBB : Hid (Below w.heap.size w wr) := HB
      have hsz := HB.size
      clear HB
      by_cases hcn : c < 9
      · have hcI : (c : Int) < 9 := by omega
        have hks : c % 3 * 3 + c / 3 < s.size := by omega
        have hbt := bt_at hks
        go_wp2_with (at_builtin; refine wpList_append_own _ rfl _ _ 22 rfl w.heap.size 5 i0 (.int .u8 0) 1 1 Try.underlying22 hi hz0 hz1 hz2 rfl (by decide) _ _ _ rfl (hown.alloc _) ⟨wr.heap.size, 0, none⟩ 1 1 [.int .u8 (bt s (c % 3 * 3 + c / 3))] rfl rfl (cell_one_new _ _ _) (one_cell _ _) (by unfold maxLen; omega) (by omega) (by simp; omega) ?_)
        intro v' w2 hown2 hgrow2 hnn
        have R1 : w2.ownsRow w.heap.size 5 1 v' (c + 1) ((trL s (c + 1)).map (Value.int .u8)) := by
          rw [trL_succ, List.map_append]
          simpa [Nat.mul_comm] using hown2
        have R2 : Below w.heap.size w w2 := (HBB.out.alloc hsz _).grown hgrow2 (by simp; omega) (fun j hj => (hown.lt j hj).1)
        clear hown2 hgrow2 hnn hown HBB
        go_wp2
        go_roundw
        case rel => exact ⟨c + 1, by omega, by go_num, R1, R2⟩
        case measure => simp [intOf]; omega
      · obtain rfl : c = 9 := by omega
        obtain ⟨g, cap, rfl⟩ : ∃ g cap, u3 = .slice (some ⟨g, 0, none⟩) 9 cap := by
          rcases hown.2 with ⟨_, h'⟩ | ⟨g, cap, _, h', _⟩
          · cases h'
          · exact ⟨g, cap, h'⟩
        have hcell : ∀ i, i < 9 → wr.cell? ⟨g, 0 + i, none⟩ = some (.int .u8 ((trL s 9).getD i 0)) := fun i hi => by
          rw [Nat.zero_add, hown.cellAt i (by omega)]
          have := trL_len s 9
          simp [List.getD_eq_getElem?_getD, show i < (trL s 9).length by omega]
        have CV := run_convert_bytes_arg (P := Try.prog) wr 22 5 Try.underlying22 Try.underlying5 g 0 9 cap (trL s 9) (trL_len s 9) hcell 9 Try.underlying9
        clear hcell hown
        go_wp2
        go_ret
        exact ⟨by rw [HO.out]; rfl, HBB.out⟩
set_option maxRecDepth 100000 in
set_option maxHeartbeats 2000000 in
theorem specTransposed_any (s : ByteArray) (w : World) : Calls Try.prog 17 #[.string s] w (VP (.string (trS s)) w) := by
  have C := specMatrix_any s
  cases h9 : nine matL s
  · have HO : Hid (trS s = .empty) := trS_no h9
    rw [h9] at C
    clear h9
    go_enter Try.func17, Try.ntmps17
    go_wp2_with fail
    refine (C _).mono ?_
    rintro e w1 ⟨rfl, hB⟩
    go_wp2
    go_ret
    exact ⟨by rw [HO.out]; rfl, hB⟩
  · have HO : Hid (trS s = strOfNums (trL s 9)) := trS_yes h9
    rw [h9] at C
    obtain ⟨i0, hi, hz0, hz1, hz2⟩ := info_parts Try.infoU8
    have s9 := nine_size h9
    clear h9
    go_enter Try.func17, Try.ntmps17
    go_wp2_with fail
    refine (C _).mono ?_
    rintro e w1 ⟨rfl, hB⟩
    clear C
    go_wp2_with fail
    go_loopw [3, 4] (fun v i wr => ∃ c : Nat, c ≤ 9 ∧ i = .int .i64 c ∧ wr.ownsRow w.heap.size 5 1 v c ((trL s c).map (Value.int .u8)) ∧ Below w.heap.size w wr) (fun _ i _ => 9 - (intOf i).toNat)
    case atStart => exact ⟨0, by omega, rfl, (World.ownsRow_made w1 #[] 0 hB.size (by decide) rfl), hB.alloc hB.size _⟩
    case round =>
      obtain ⟨c, hc, rfl, hown, HB⟩ := hrel
      clear hB
      have HBB : Hid (Below w.heap.size w wr) := HB
      have hsz := HB.size
      clear HB
      by_cases hcn : c < 9
      · have hcI : (c : Int) < 9 := by omega
        have hks : 3 * (c % 3) + c / 3 < s.size := by omega
        have hbt := bt_at hks
        go_wp2_with (at_builtin; refine wpList_append_own _ rfl _ _ 22 rfl w.heap.size 5 i0 (.int .u8 0) 1 1 Try.underlying22 hi hz0 hz1 hz2 rfl (by decide) _ _ _ rfl (hown.alloc _) ⟨wr.heap.size, 0, none⟩ 1 1 [.int .u8 (bt s (3 * (c % 3) + c / 3))] rfl rfl (cell_one_new _ _ _) (one_cell _ _) (by unfold maxLen; omega) (by omega) (by simp; omega) ?_)
        intro v' w2 hown2 hgrow2 hnn
        have R1 : w2.ownsRow w.heap.size 5 1 v' (c + 1) ((trL s (c + 1)).map (Value.int .u8)) := by
          rw [trL_succ, List.map_append]
          simpa [Nat.mul_comm] using hown2
        have R2 : Below w.heap.size w w2 := (HBB.out.alloc hsz _).grown hgrow2 (by simp; omega) (fun j hj => (hown.lt j hj).1)
        clear hown2 hgrow2 hnn hown HBB
        go_wp2
        go_roundw
        case rel => exact ⟨c + 1, by omega, by go_num, R1, R2⟩
        case measure => simp [intOf]; omega
      · obtain rfl : c = 9 := by omega
        obtain ⟨g, cap, rfl⟩ : ∃ g cap, u3 = .slice (some ⟨g, 0, none⟩) 9 cap := by
          rcases hown.2 with ⟨_, h'⟩ | ⟨g, cap, _, h', _⟩
          · cases h'
          · exact ⟨g, cap, h'⟩
        have hcell : ∀ i, i < 9 → wr.cell? ⟨g, 0 + i, none⟩ = some (.int .u8 ((trL s 9).getD i 0)) := fun i hi => by
          rw [Nat.zero_add, hown.cellAt i (by omega)]
          have := trL_len s 9
          simp [List.getD_eq_getElem?_getD, show i < (trL s 9).length by omega]
        have CV := run_convert_bytes_arg (P := Try.prog) wr 22 5 Try.underlying22 Try.underlying5 g 0 9 cap (trL s 9) (trL_len s 9) hcell 9 Try.underlying9
        clear hcell hown
        go_wp2
        go_ret
        exact ⟨by rw [HO.out]; rfl, HBB.out⟩
end Go.Proofs.Ytlfogfjehdgjmaa
