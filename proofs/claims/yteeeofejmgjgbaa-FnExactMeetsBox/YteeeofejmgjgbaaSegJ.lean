/- The law on a segment and a box: the walk. -/
import Derived.Test.YteeeofejmgjgbaaSegI
namespace Go.Proofs.Yteeeofejmgjgbaa
open Go.RowKit
set_option maxRecDepth 100000 in
theorem lawMeetsBox0_cells {a b c d x y u v : Int} {w W : World} (h : ArgsB w W [[.int .i64 a, .int .i64 b, .int .i64 c, .int .i64 d], [.int .i64 x, .int .i64 y], [.int .i64 u, .int .i64 v]]) : (fun w' => w'.cell? ⟨w.heap.size, 0, none⟩ = some (.int .i64 a) ∧ w'.cell? ⟨w.heap.size, 1, none⟩ = some (.int .i64 b) ∧ w'.cell? ⟨w.heap.size, 2, none⟩ = some (.int .i64 c) ∧ w'.cell? ⟨w.heap.size, 3, none⟩ = some (.int .i64 d) ∧ w'.cell? ⟨w.heap.size + 1, 0, none⟩ = some (.int .i64 x) ∧ w'.cell? ⟨w.heap.size + 1, 1, none⟩ = some (.int .i64 y) ∧ w'.cell? ⟨w.heap.size + 1 + 1, 0, none⟩ = some (.int .i64 u) ∧ w'.cell? ⟨w.heap.size + 1 + 1, 1, none⟩ = some (.int .i64 v)) W :=
  ⟨(h.b 0 rfl).c 0 rfl, (h.b 0 rfl).c 1 rfl, (h.b 0 rfl).c 2 rfl, (h.b 0 rfl).c 3 rfl, (h.b 1 rfl).c 0 rfl, (h.b 1 rfl).c 1 rfl, (h.b 2 rfl).c 0 rfl, (h.b 2 rfl).c 1 rfl⟩
theorem lawMeetsBox0_start (a b c d x y u v : Int) (w : World) : ArgsB w (((w.alloc (.cells #[.int .i64 a, .int .i64 b, .int .i64 c, .int .i64 d] 25)).alloc (.cells #[.int .i64 x, .int .i64 y] 23)).alloc (.cells #[.int .i64 u, .int .i64 v] 23)) [[.int .i64 a, .int .i64 b, .int .i64 c, .int .i64 d], [.int .i64 x, .int .i64 y], [.int .i64 u, .int .i64 v]] := by
  refine ⟨?_, fun j vs hj => ?_⟩
  · exact (((Below.refl _ _).alloc (Nat.le_refl _) _).alloc (by simp) _).alloc (by simp; omega) _
  · match j, hj with
    | 0, hj => cases hj; exact (((Blk.new w [.int .i64 a, .int .i64 b, .int .i64 c, .int .i64 d] 25 (g := w.heap.size + 0) (by simp)).alloc _).alloc _)
    | 1, hj => cases hj; exact ((Blk.new (w.alloc (.cells #[.int .i64 a, .int .i64 b, .int .i64 c, .int .i64 d] 25)) [.int .i64 x, .int .i64 y] 23 (g := w.heap.size + 1) (by simp)).alloc _)
    | 2, hj => cases hj; exact (Blk.new ((w.alloc (.cells #[.int .i64 a, .int .i64 b, .int .i64 c, .int .i64 d] 25)).alloc (.cells #[.int .i64 x, .int .i64 y] 23)) [.int .i64 u, .int .i64 v] 23 (g := w.heap.size + 2) (by simp))
    | j + 3, hj => simp at hj
set_option maxRecDepth 100000 in
set_option maxHeartbeats 4000000 in
theorem lawMeetsBox0 (a b c d x y u v : Int) (z : Bool) (hz : meetsB a b c d x y u v = z) (w : World) :
    Calls Try.prog 3 #[.agg #[.int .i64 a, .int .i64 b, .int .i64 c, .int .i64 d], .agg #[.int .i64 x, .int .i64 y], .agg #[.int .i64 u, .int .i64 v]] w (BoolP true w) := by
  have T0 := lawMeetsBox0_start a b c d x y u v w
  have toka1 : True := trivial
  have tokb1 : True := trivial
  go_enter Try.func3, Try.ntmps3
  go_upto_region 1 with fail
  generalize (((w.alloc (.cells #[.int .i64 a, .int .i64 b, .int .i64 c, .int .i64 d] 25)).alloc (.cells #[.int .i64 x, .int .i64 y] 23)).alloc (.cells #[.int .i64 u, .int .i64 v] 23)) = W at *
  go_cut [7] (fun q wx => ArgsB w wx [[.int .i64 a, .int .i64 b, .int .i64 c, .int .i64 d], [.int .i64 x, .int .i64 y], [.int .i64 u, .int .i64 v]] ∧ q = .bool z)
  case first =>
    go_region_held3 (fun w' => w'.cell? ⟨w.heap.size, 0, none⟩ = some (.int .i64 a) ∧ w'.cell? ⟨w.heap.size, 1, none⟩ = some (.int .i64 b) ∧ w'.cell? ⟨w.heap.size, 2, none⟩ = some (.int .i64 c) ∧ w'.cell? ⟨w.heap.size, 3, none⟩ = some (.int .i64 d) ∧ w'.cell? ⟨w.heap.size + 1, 0, none⟩ = some (.int .i64 x) ∧ w'.cell? ⟨w.heap.size + 1, 1, none⟩ = some (.int .i64 y) ∧ w'.cell? ⟨w.heap.size + 1 + 1, 0, none⟩ = some (.int .i64 u) ∧ w'.cell? ⟨w.heap.size + 1 + 1, 1, none⟩ = some (.int .i64 v)) (first | (with_reducible exact lawMeetsBox0_cells T0) | (with_reducible exact lawMeetsBox0_cells T0.drew))
      (first
        | (go_at_call 5; refine (toSeg_any a b c d _).mono ?_; rintro e w1 ⟨rfl, hB⟩; (first | (have T1 := T0.step hB) | (have T1 := T0.drew.step hB)); clear T0; have T0 := T1; clear T1; clear hB)
        | (go_at_call 6; have _t := toka1; refine (toSpot_any x y _).mono ?_; rintro e w2 ⟨rfl, hB⟩; (first | (have T1 := T0.step hB) | (have T1 := T0.drew.step hB)); clear T0; have T0 := T1; clear T1; clear toka1 _t hB)
        | (go_at_call 6; refine (toSpot_any u v _).mono ?_; rintro e w3 ⟨rfl, hB⟩; (first | (have T1 := T0.step hB) | (have T1 := T0.drew.step hB)); clear T0; have T0 := T1; clear T1; clear hB)
        | (go_at_call 4; refine (specMeetsBox_any a b c d x y u v z hz _).mono ?_; rintro e w9 ⟨rfl, hB⟩; (first | (have T1 := T0.step hB) | (have T1 := T0.drew.step hB)); clear T0; have T0 := T1; clear T1; clear hB))
    all_goals go_wp2_with fail
    all_goals go_meet
    all_goals first | exact ⟨T0, rfl⟩ | exact ⟨T0.drew, rfl⟩
  case rest =>
    clear T0 toka1
    obtain ⟨T0, hq⟩ := hcut
    subst hq
    go_upto_region 2 with fail
    go_cut [8] (fun q wx => ArgsB w wx [[.int .i64 a, .int .i64 b, .int .i64 c, .int .i64 d], [.int .i64 x, .int .i64 y], [.int .i64 u, .int .i64 v]] ∧ q = .bool z)
    case first =>
      go_region_held3 (fun w' => w'.cell? ⟨w.heap.size, 0, none⟩ = some (.int .i64 a) ∧ w'.cell? ⟨w.heap.size, 1, none⟩ = some (.int .i64 b) ∧ w'.cell? ⟨w.heap.size, 2, none⟩ = some (.int .i64 c) ∧ w'.cell? ⟨w.heap.size, 3, none⟩ = some (.int .i64 d) ∧ w'.cell? ⟨w.heap.size + 1, 0, none⟩ = some (.int .i64 x) ∧ w'.cell? ⟨w.heap.size + 1, 1, none⟩ = some (.int .i64 y) ∧ w'.cell? ⟨w.heap.size + 1 + 1, 0, none⟩ = some (.int .i64 u) ∧ w'.cell? ⟨w.heap.size + 1 + 1, 1, none⟩ = some (.int .i64 v)) (first | (with_reducible exact lawMeetsBox0_cells T0) | (with_reducible exact lawMeetsBox0_cells T0.drew))
        (first
          | (go_at_call 5; refine (toSeg_any a b c d _).mono ?_; rintro e w1 ⟨rfl, hB⟩; (first | (have T1 := T0.step hB) | (have T1 := T0.drew.step hB)); clear T0; have T0 := T1; clear T1; clear hB)
          | (go_at_call 6; have _t := tokb1; refine (toSpot_any x y _).mono ?_; rintro e w2 ⟨rfl, hB⟩; (first | (have T1 := T0.step hB) | (have T1 := T0.drew.step hB)); clear T0; have T0 := T1; clear T1; clear tokb1 _t hB)
          | (go_at_call 6; refine (toSpot_any u v _).mono ?_; rintro e w3 ⟨rfl, hB⟩; (first | (have T1 := T0.step hB) | (have T1 := T0.drew.step hB)); clear T0; have T0 := T1; clear T1; clear hB)
          | (go_at_call 7; refine (implMeetsBox_any a b c d x y u v z hz _).mono ?_; rintro e w9 ⟨rfl, hB⟩; (first | (have T1 := T0.step hB) | (have T1 := T0.drew.step hB)); clear T0; have T0 := T1; clear T1; clear hB))
      all_goals go_wp2_with fail
      all_goals go_meet
      all_goals first | exact ⟨T0, rfl⟩ | exact ⟨T0.drew, rfl⟩
    case rest =>
      clear T0 tokb1
      obtain ⟨T0, hq⟩ := hcut
      subst hq
      have HB := T0.below
      clear T0
      go_wp2
      all_goals go_ret
      all_goals exact ⟨rfl, HB⟩
theorem lawMeetsBox_any (a b c d x y u v : Int) (w : World) : Calls Try.prog 3 #[Sg a b c d, Sp x y, Sp u v] w (BoolP true w) :=
  lawMeetsBox0 a b c d x y u v _ rfl w
end Go.Proofs.Yteeeofejmgjgbaa
