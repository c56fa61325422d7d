/- The law OverAt: both sides' answers. -/
import Derived.Test.YtckbhihdhcgaeaaSgF
import Derived.Test.YtckbhihdhcgaeaaBase11
namespace Go.Proofs.Ytckbhihdhcgaeaa
open Go.RowKit
theorem laOverAt_cells {a0 b0 c0 d0 x1 y1 z1 : Int} {w W : World} (T0 : ArgsB w W [[.int .i64 a0, .int .i64 b0, .int .i64 c0, .int .i64 d0], [.int .u64 (ww3 x1), .int .u64 (ww2 x1), .int .u64 (ww1 x1), .int .u64 (ww0 x1), .int .u64 (ww3 y1), .int .u64 (ww2 y1), .int .u64 (ww1 y1), .int .u64 (ww0 y1), .int .u64 (ww3 z1), .int .u64 (ww2 z1), .int .u64 (ww1 z1), .int .u64 (ww0 z1)]]) : (fun w' => w'.cell? ⟨w.heap.size, 0, none⟩ = some (.int .i64 a0) ∧ w'.cell? ⟨w.heap.size, 1, none⟩ = some (.int .i64 b0) ∧ w'.cell? ⟨w.heap.size, 2, none⟩ = some (.int .i64 c0) ∧ w'.cell? ⟨w.heap.size, 3, none⟩ = some (.int .i64 d0) ∧ w'.cell? ⟨w.heap.size + 1, 0, none⟩ = some (.int .u64 (ww3 x1)) ∧ w'.cell? ⟨w.heap.size + 1, 1, none⟩ = some (.int .u64 (ww2 x1)) ∧ w'.cell? ⟨w.heap.size + 1, 2, none⟩ = some (.int .u64 (ww1 x1)) ∧ w'.cell? ⟨w.heap.size + 1, 3, none⟩ = some (.int .u64 (ww0 x1)) ∧ w'.cell? ⟨w.heap.size + 1, 4, none⟩ = some (.int .u64 (ww3 y1)) ∧ w'.cell? ⟨w.heap.size + 1, 5, none⟩ = some (.int .u64 (ww2 y1)) ∧ w'.cell? ⟨w.heap.size + 1, 6, none⟩ = some (.int .u64 (ww1 y1)) ∧ w'.cell? ⟨w.heap.size + 1, 7, none⟩ = some (.int .u64 (ww0 y1)) ∧ w'.cell? ⟨w.heap.size + 1, 8, none⟩ = some (.int .u64 (ww3 z1)) ∧ w'.cell? ⟨w.heap.size + 1, 9, none⟩ = some (.int .u64 (ww2 z1)) ∧ w'.cell? ⟨w.heap.size + 1, 10, none⟩ = some (.int .u64 (ww1 z1)) ∧ w'.cell? ⟨w.heap.size + 1, 11, none⟩ = some (.int .u64 (ww0 z1))) W := ⟨(T0.b 0 rfl).c 0 rfl, (T0.b 0 rfl).c 1 rfl, (T0.b 0 rfl).c 2 rfl, (T0.b 0 rfl).c 3 rfl, (T0.b 1 rfl).c 0 rfl, (T0.b 1 rfl).c 1 rfl, (T0.b 1 rfl).c 2 rfl, (T0.b 1 rfl).c 3 rfl, (T0.b 1 rfl).c 4 rfl, (T0.b 1 rfl).c 5 rfl, (T0.b 1 rfl).c 6 rfl, (T0.b 1 rfl).c 7 rfl, (T0.b 1 rfl).c 8 rfl, (T0.b 1 rfl).c 9 rfl, (T0.b 1 rfl).c 10 rfl, (T0.b 1 rfl).c 11 rfl⟩
set_option maxRecDepth 100000 in
set_option maxHeartbeats 4000000 in
theorem lawOverAt_any (a0 b0 c0 d0 x1 y1 z1 : Int) (tx1 : told x1 = true) (ty1 : told y1 = true) (tz1 : told z1 = true) (w : World) : Calls Try.prog 14 #[Sg a0 b0 c0 d0, PV x1 y1 z1] w (BoolP true w) := by
  have T0 : ArgsB w ((w.alloc (.cells #[.int .i64 a0, .int .i64 b0, .int .i64 c0, .int .i64 d0] 52)).alloc (.cells #[.int .u64 (ww3 x1), .int .u64 (ww2 x1), .int .u64 (ww1 x1), .int .u64 (ww0 x1), .int .u64 (ww3 y1), .int .u64 (ww2 y1), .int .u64 (ww1 y1), .int .u64 (ww0 y1), .int .u64 (ww3 z1), .int .u64 (ww2 z1), .int .u64 (ww1 z1), .int .u64 (ww0 z1)] 26)) [[.int .i64 a0, .int .i64 b0, .int .i64 c0, .int .i64 d0], [.int .u64 (ww3 x1), .int .u64 (ww2 x1), .int .u64 (ww1 x1), .int .u64 (ww0 x1), .int .u64 (ww3 y1), .int .u64 (ww2 y1), .int .u64 (ww1 y1), .int .u64 (ww0 y1), .int .u64 (ww3 z1), .int .u64 (ww2 z1), .int .u64 (ww1 z1), .int .u64 (ww0 z1)]] := ar2 _ _ _ _ w
  obtain ⟨b, hb⟩ : ∃ b : Int, overI a0 b0 c0 d0 x1 y1 z1 = b := ⟨_, rfl⟩
  have SP := specOverAt_det a0 b0 c0 d0 x1 y1 z1  tx1 ty1 tz1
  have IM := implOverAt_det a0 b0 c0 d0 x1 y1 z1  tx1 ty1 tz1
  rw [hb] at SP IM
  clear hb  tx1 ty1 tz1
  go_enter Try.func14, Try.ntmps14
  go_upto_region 1 with fail
  generalize ((w.alloc (.cells #[.int .i64 a0, .int .i64 b0, .int .i64 c0, .int .i64 d0] 52)).alloc (.cells #[.int .u64 (ww3 x1), .int .u64 (ww2 x1), .int .u64 (ww1 x1), .int .u64 (ww0 x1), .int .u64 (ww3 y1), .int .u64 (ww2 y1), .int .u64 (ww1 y1), .int .u64 (ww0 y1), .int .u64 (ww3 z1), .int .u64 (ww2 z1), .int .u64 (ww1 z1), .int .u64 (ww0 z1)] 26)) = W at *
  go_cut [5] (fun p wx => p = .int .i64 b ∧ ArgsB w wx [[.int .i64 a0, .int .i64 b0, .int .i64 c0, .int .i64 d0], [.int .u64 (ww3 x1), .int .u64 (ww2 x1), .int .u64 (ww1 x1), .int .u64 (ww0 x1), .int .u64 (ww3 y1), .int .u64 (ww2 y1), .int .u64 (ww1 y1), .int .u64 (ww0 y1), .int .u64 (ww3 z1), .int .u64 (ww2 z1), .int .u64 (ww1 z1), .int .u64 (ww0 z1)]])
  case first =>
    go_region_held3 (fun w' => w'.cell? ⟨w.heap.size, 0, none⟩ = some (.int .i64 a0) ∧ w'.cell? ⟨w.heap.size, 1, none⟩ = some (.int .i64 b0) ∧ w'.cell? ⟨w.heap.size, 2, none⟩ = some (.int .i64 c0) ∧ w'.cell? ⟨w.heap.size, 3, none⟩ = some (.int .i64 d0) ∧ w'.cell? ⟨w.heap.size + 1, 0, none⟩ = some (.int .u64 (ww3 x1)) ∧ w'.cell? ⟨w.heap.size + 1, 1, none⟩ = some (.int .u64 (ww2 x1)) ∧ w'.cell? ⟨w.heap.size + 1, 2, none⟩ = some (.int .u64 (ww1 x1)) ∧ w'.cell? ⟨w.heap.size + 1, 3, none⟩ = some (.int .u64 (ww0 x1)) ∧ w'.cell? ⟨w.heap.size + 1, 4, none⟩ = some (.int .u64 (ww3 y1)) ∧ w'.cell? ⟨w.heap.size + 1, 5, none⟩ = some (.int .u64 (ww2 y1)) ∧ w'.cell? ⟨w.heap.size + 1, 6, none⟩ = some (.int .u64 (ww1 y1)) ∧ w'.cell? ⟨w.heap.size + 1, 7, none⟩ = some (.int .u64 (ww0 y1)) ∧ w'.cell? ⟨w.heap.size + 1, 8, none⟩ = some (.int .u64 (ww3 z1)) ∧ w'.cell? ⟨w.heap.size + 1, 9, none⟩ = some (.int .u64 (ww2 z1)) ∧ w'.cell? ⟨w.heap.size + 1, 10, none⟩ = some (.int .u64 (ww1 z1)) ∧ w'.cell? ⟨w.heap.size + 1, 11, none⟩ = some (.int .u64 (ww0 z1))) (first | (with_reducible exact laOverAt_cells T0) | (with_reducible exact laOverAt_cells T0.drew))
      (first
        | (go_at_call 36; refine (toSeg_any a0 b0 c0 d0 _).mono ?_; rintro e v10 ⟨rfl, hB⟩; (first | (have T1 := T0.step hB) | (have T1 := T0.drew.step hB)); clear T0; have T0 := T1; clear T1; clear hB)
        | (go_at_call 18; refine (toPoint_det x1 y1 z1 _).mono ?_; rintro e v11 ⟨rfl, hB⟩; (first | (have T1 := T0.step hB) | (have T1 := T0.drew.step hB)); clear T0; have T0 := T1; clear T1; clear hB)
        | (go_at_call 45; refine (SP _).mono ?_; rintro e v12 ⟨rfl, hB⟩; (first | (have T1 := T0.step hB) | (have T1 := T0.drew.step hB)); clear T0; have T0 := T1; clear T1; clear hB))
    all_goals go_wp2_with fail
    all_goals go_meet
    all_goals first | exact ⟨rfl, T0⟩ | exact ⟨rfl, T0.drew⟩
  case rest =>
    clear T0 SP 
    obtain ⟨hp, T0⟩ := hcut
    subst hp
    go_upto_region 2 with fail
    go_cut [6] (fun p wx => p = .int .i64 b ∧ ArgsB w wx [[.int .i64 a0, .int .i64 b0, .int .i64 c0, .int .i64 d0], [.int .u64 (ww3 x1), .int .u64 (ww2 x1), .int .u64 (ww1 x1), .int .u64 (ww0 x1), .int .u64 (ww3 y1), .int .u64 (ww2 y1), .int .u64 (ww1 y1), .int .u64 (ww0 y1), .int .u64 (ww3 z1), .int .u64 (ww2 z1), .int .u64 (ww1 z1), .int .u64 (ww0 z1)]])
    case first =>
      go_region_held3 (fun w' => w'.cell? ⟨w.heap.size, 0, none⟩ = some (.int .i64 a0) ∧ w'.cell? ⟨w.heap.size, 1, none⟩ = some (.int .i64 b0) ∧ w'.cell? ⟨w.heap.size, 2, none⟩ = some (.int .i64 c0) ∧ w'.cell? ⟨w.heap.size, 3, none⟩ = some (.int .i64 d0) ∧ w'.cell? ⟨w.heap.size + 1, 0, none⟩ = some (.int .u64 (ww3 x1)) ∧ w'.cell? ⟨w.heap.size + 1, 1, none⟩ = some (.int .u64 (ww2 x1)) ∧ w'.cell? ⟨w.heap.size + 1, 2, none⟩ = some (.int .u64 (ww1 x1)) ∧ w'.cell? ⟨w.heap.size + 1, 3, none⟩ = some (.int .u64 (ww0 x1)) ∧ w'.cell? ⟨w.heap.size + 1, 4, none⟩ = some (.int .u64 (ww3 y1)) ∧ w'.cell? ⟨w.heap.size + 1, 5, none⟩ = some (.int .u64 (ww2 y1)) ∧ w'.cell? ⟨w.heap.size + 1, 6, none⟩ = some (.int .u64 (ww1 y1)) ∧ w'.cell? ⟨w.heap.size + 1, 7, none⟩ = some (.int .u64 (ww0 y1)) ∧ w'.cell? ⟨w.heap.size + 1, 8, none⟩ = some (.int .u64 (ww3 z1)) ∧ w'.cell? ⟨w.heap.size + 1, 9, none⟩ = some (.int .u64 (ww2 z1)) ∧ w'.cell? ⟨w.heap.size + 1, 10, none⟩ = some (.int .u64 (ww1 z1)) ∧ w'.cell? ⟨w.heap.size + 1, 11, none⟩ = some (.int .u64 (ww0 z1))) (first | (with_reducible exact laOverAt_cells T0) | (with_reducible exact laOverAt_cells T0.drew))
      (first
        | (go_at_call 36; refine (toSeg_any a0 b0 c0 d0 _).mono ?_; rintro e v20 ⟨rfl, hB⟩; (first | (have T1 := T0.step hB) | (have T1 := T0.drew.step hB)); clear T0; have T0 := T1; clear T1; clear hB)
        | (go_at_call 18; refine (toPoint_det x1 y1 z1 _).mono ?_; rintro e v21 ⟨rfl, hB⟩; (first | (have T1 := T0.step hB) | (have T1 := T0.drew.step hB)); clear T0; have T0 := T1; clear T1; clear hB)
        | (go_at_call 46; refine (IM _).mono ?_; rintro e v22 ⟨rfl, hB⟩; (first | (have T1 := T0.step hB) | (have T1 := T0.drew.step hB)); clear T0; have T0 := T1; clear T1; clear hB))
      all_goals go_wp2_with fail
      all_goals go_meet
      all_goals first | exact ⟨rfl, T0⟩ | exact ⟨rfl, T0.drew⟩
    case rest =>
      clear T0 IM 
      obtain ⟨hp, T0⟩ := hcut
      subst hp
      have HB := T0.below
      have hbb : (b == b) = true := by simp
      clear T0
      go_wp2
      go_ret
      exact ⟨rfl, HB⟩
end Go.Proofs.Ytckbhihdhcgaeaa
