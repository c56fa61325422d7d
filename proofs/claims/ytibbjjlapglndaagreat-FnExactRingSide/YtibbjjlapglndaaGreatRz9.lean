/- Part 9 of the walks that the proof leans on. -/
import Derived.Test.YtibbjjlapglndaaGreatRz8
import Derived.Test.YtibbjjlapglndaaGreatRz7
import Derived.Deep.RegionHeld3
import Derived.Deep.RegionWith
/- A spot as a point: the walks of the model's point, of the program's, and of the law. -/
namespace Go.Proofs.YtibbjjlapglndaaGreat
open Go.RowKit
theorem small_int {x : Int} (h0 : -9223372036854775808 ≤ x) (h1 : x ≤ 9223372036854775807) : small x = true := by
  unfold small
  apply decide_eq_true
  omega
theorem ip_cells {x y : Int} {w W : World} (h : ArgsB w W [[.int .i64 x, .int .i64 y], [.int .u64 0, .int .u64 0, .int .u64 0, .int .u64 0, .int .u64 0, .int .u64 0, .int .u64 0, .int .u64 0, .int .u64 0, .int .u64 0, .int .u64 0, .int .u64 0]]) : (fun w' => w'.cell? ⟨w.heap.size, 0, none⟩ = some (.int .i64 x) ∧ w'.cell? ⟨w.heap.size, 1, none⟩ = some (.int .i64 y)) W := ⟨(h.b 0 rfl).c 0 rfl, (h.b 0 rfl).c 1 rfl⟩
theorem ip_cells12 {x y : Int} {w W : World} {v0 v1 v2 v3 v4 v5 v6 v7 v8 v9 v10 v11 : Value} (h : ArgsB w W [[.int .i64 x, .int .i64 y], [.int .u64 0, .int .u64 0, .int .u64 0, .int .u64 0, .int .u64 0, .int .u64 0, .int .u64 0, .int .u64 0, .int .u64 0, .int .u64 0, .int .u64 0, .int .u64 0]]) : (fun w' => w'.cell? ⟨w.heap.size, 0, none⟩ = some (.int .i64 x) ∧ w'.cell? ⟨w.heap.size, 1, none⟩ = some (.int .i64 y)) ((((((((((((W.setCell ⟨w.heap.size + 1, 0, none⟩ v0).setCell ⟨w.heap.size + 1, 1, none⟩ v1).setCell ⟨w.heap.size + 1, 2, none⟩ v2).setCell ⟨w.heap.size + 1, 3, none⟩ v3).setCell ⟨w.heap.size + 1, 4, none⟩ v4).setCell ⟨w.heap.size + 1, 5, none⟩ v5).setCell ⟨w.heap.size + 1, 6, none⟩ v6).setCell ⟨w.heap.size + 1, 7, none⟩ v7).setCell ⟨w.heap.size + 1, 8, none⟩ v8).setCell ⟨w.heap.size + 1, 9, none⟩ v9).setCell ⟨w.heap.size + 1, 10, none⟩ v10).setCell ⟨w.heap.size + 1, 11, none⟩ v11) := by
  have a : Blk _ (w.heap.size + 0) _ := (((((((((((((h.b 0 rfl).setO (p := ⟨w.heap.size + 1, 0, none⟩) (by show w.heap.size + 0 ≠ w.heap.size + 1; omega) v0).setO (p := ⟨w.heap.size + 1, 1, none⟩) (by show w.heap.size + 0 ≠ w.heap.size + 1; omega) v1).setO (p := ⟨w.heap.size + 1, 2, none⟩) (by show w.heap.size + 0 ≠ w.heap.size + 1; omega) v2).setO (p := ⟨w.heap.size + 1, 3, none⟩) (by show w.heap.size + 0 ≠ w.heap.size + 1; omega) v3).setO (p := ⟨w.heap.size + 1, 4, none⟩) (by show w.heap.size + 0 ≠ w.heap.size + 1; omega) v4).setO (p := ⟨w.heap.size + 1, 5, none⟩) (by show w.heap.size + 0 ≠ w.heap.size + 1; omega) v5).setO (p := ⟨w.heap.size + 1, 6, none⟩) (by show w.heap.size + 0 ≠ w.heap.size + 1; omega) v6).setO (p := ⟨w.heap.size + 1, 7, none⟩) (by show w.heap.size + 0 ≠ w.heap.size + 1; omega) v7).setO (p := ⟨w.heap.size + 1, 8, none⟩) (by show w.heap.size + 0 ≠ w.heap.size + 1; omega) v8).setO (p := ⟨w.heap.size + 1, 9, none⟩) (by show w.heap.size + 0 ≠ w.heap.size + 1; omega) v9).setO (p := ⟨w.heap.size + 1, 10, none⟩) (by show w.heap.size + 0 ≠ w.heap.size + 1; omega) v10).setO (p := ⟨w.heap.size + 1, 11, none⟩) (by show w.heap.size + 0 ≠ w.heap.size + 1; omega) v11)
  exact ⟨a.c 0 rfl, a.c 1 rfl⟩
theorem ip_start (x y : Int) (w : World) : ArgsB w ((w.alloc (.cells #[.int .i64 x, .int .i64 y] 81)).alloc (.cells #[.int .u64 0, .int .u64 0, .int .u64 0, .int .u64 0, .int .u64 0, .int .u64 0, .int .u64 0, .int .u64 0, .int .u64 0, .int .u64 0, .int .u64 0, .int .u64 0] 38)) [[.int .i64 x, .int .i64 y], [.int .u64 0, .int .u64 0, .int .u64 0, .int .u64 0, .int .u64 0, .int .u64 0, .int .u64 0, .int .u64 0, .int .u64 0, .int .u64 0, .int .u64 0, .int .u64 0]] := by
  refine ⟨((Below.refl _ _).alloc (Nat.le_refl _) _).alloc (by simp) _, fun j vs hj => ?_⟩
  match j, hj with
  | 0, hj => cases hj; exact (Blk.new w [.int .i64 x, .int .i64 y] 81 rfl).alloc _
  | 1, hj => cases hj; exact Blk.new (w.alloc (.cells #[.int .i64 x, .int .i64 y] 81)) [.int .u64 0, .int .u64 0, .int .u64 0, .int .u64 0, .int .u64 0, .int .u64 0, .int .u64 0, .int .u64 0, .int .u64 0, .int .u64 0, .int .u64 0, .int .u64 0] 38 (by simp)
  | j + 2, hj => simp at hj
set_option maxRecDepth 100000 in
set_option maxHeartbeats 2000000 in
theorem implPointOf_any (x y : Int) (hx0 : -9223372036854775808 ≤ x) (hx1 : x ≤ 9223372036854775807) (hy0 : -9223372036854775808 ≤ y) (hy1 : y ≤ 9223372036854775807) (w : World) :
    Calls Tryz.prog 68 #[.agg #[.int .i64 x, .int .i64 y]] w (VP (.agg #[.int .u64 (ww3 x), .int .u64 (ww2 x), .int .u64 (ww1 x), .int .u64 (ww0 x), .int .u64 (ww3 y), .int .u64 (ww2 y), .int .u64 (ww1 y), .int .u64 (ww0 y), .int .u64 (ww3 1), .int .u64 (ww2 1), .int .u64 (ww1 1), .int .u64 (ww0 1)]) w) := by
  have T0 := ip_start x y w
  have tok1 : True := trivial
  have tok2 : True := trivial
  go_enter Tryz.func68, Tryz.ntmps68
  go_upto_region 1 with fail
  generalize ((w.alloc (.cells #[.int .i64 x, .int .i64 y] 81)).alloc (.cells #[.int .u64 0, .int .u64 0, .int .u64 0, .int .u64 0, .int .u64 0, .int .u64 0, .int .u64 0, .int .u64 0, .int .u64 0, .int .u64 0, .int .u64 0, .int .u64 0] 38)) = W at *
  go_region_held3 (fun w' => w'.cell? ⟨w.heap.size, 0, none⟩ = some (.int .i64 x) ∧ w'.cell? ⟨w.heap.size, 1, none⟩ = some (.int .i64 y)) (first | (with_reducible exact ip_cells T0) | (with_reducible exact ip_cells T0.drew) | (with_reducible exact ip_cells12 T0))
    (first
      | (go_at_call 102; have _t := tok1; refine (implOf_det x _ hx0 hx1).mono ?_; rintro e w1 ⟨rfl, hB⟩; (first | (have T1 := T0.step hB) | (have T1 := T0.drew.step hB)); clear T0; have T0 := T1; clear T1; clear tok1 _t hB)
      | (go_at_call 102; have _t := tok2; refine (implOf_det y _ hy0 hy1).mono ?_; rintro e w2 ⟨rfl, hB⟩; (first | (have T1 := T0.step hB) | (have T1 := T0.drew.step hB)); clear T0; have T0 := T1; clear T1; clear tok2 _t hB)
      | (go_at_call 102; refine (implOf_det 1 _ (by decide) (by decide)).mono ?_; rintro e w3 ⟨rfl, hB⟩; (first | (have T1 := T0.step hB) | (have T1 := T0.drew.step hB)); clear T0; have T0 := T1; clear T1; have tc0 := (T0.b 1 rfl).c 0 rfl; have tf0 := (T0.b 1 rfl).f 0 rfl; have tc1 := (T0.b 1 rfl).c 1 rfl; have tf1 := (T0.b 1 rfl).f 1 rfl; have tc2 := (T0.b 1 rfl).c 2 rfl; have tf2 := (T0.b 1 rfl).f 2 rfl; have tc3 := (T0.b 1 rfl).c 3 rfl; have tf3 := (T0.b 1 rfl).f 3 rfl; have tc4 := (T0.b 1 rfl).c 4 rfl; have tf4 := (T0.b 1 rfl).f 4 rfl; have tc5 := (T0.b 1 rfl).c 5 rfl; have tf5 := (T0.b 1 rfl).f 5 rfl; have tc6 := (T0.b 1 rfl).c 6 rfl; have tf6 := (T0.b 1 rfl).f 6 rfl; have tc7 := (T0.b 1 rfl).c 7 rfl; have tf7 := (T0.b 1 rfl).f 7 rfl; have tc8 := (T0.b 1 rfl).c 8 rfl; have tf8 := (T0.b 1 rfl).f 8 rfl; have tc9 := (T0.b 1 rfl).c 9 rfl; have tf9 := (T0.b 1 rfl).f 9 rfl; have tc10 := (T0.b 1 rfl).c 10 rfl; have tf10 := (T0.b 1 rfl).f 10 rfl; have tc11 := (T0.b 1 rfl).c 11 rfl; have tf11 := (T0.b 1 rfl).f 11 rfl; have tl := (T0.b 1 rfl).lt; clear hB))
  all_goals have F : Blk (((((((((((((w3.setCell ⟨w.heap.size + 1, 0, none⟩ (.int .u64 (ww3 x))).setCell ⟨w.heap.size + 1, 1, none⟩ (.int .u64 (ww2 x))).setCell ⟨w.heap.size + 1, 2, none⟩ (.int .u64 (ww1 x))).setCell ⟨w.heap.size + 1, 3, none⟩ (.int .u64 (ww0 x))).setCell ⟨w.heap.size + 1, 4, none⟩ (.int .u64 (ww3 y))).setCell ⟨w.heap.size + 1, 5, none⟩ (.int .u64 (ww2 y))).setCell ⟨w.heap.size + 1, 6, none⟩ (.int .u64 (ww1 y))).setCell ⟨w.heap.size + 1, 7, none⟩ (.int .u64 (ww0 y))).setCell ⟨w.heap.size + 1, 8, none⟩ (.int .u64 (ww3 1))).setCell ⟨w.heap.size + 1, 9, none⟩ (.int .u64 (ww2 1))).setCell ⟨w.heap.size + 1, 10, none⟩ (.int .u64 (ww1 1))).setCell ⟨w.heap.size + 1, 11, none⟩ (.int .u64 (ww0 1)))) (w.heap.size + 1) [.int .u64 (ww3 x), .int .u64 (ww2 x), .int .u64 (ww1 x), .int .u64 (ww0 x), .int .u64 (ww3 y), .int .u64 (ww2 y), .int .u64 (ww1 y), .int .u64 (ww0 y), .int .u64 (ww3 1), .int .u64 (ww2 1), .int .u64 (ww1 1), .int .u64 (ww0 1)] := ((((((((((((((T0.b 1 rfl).setI 0 (by simp) (.int .u64 (ww3 x))).setI 1 (by simp) (.int .u64 (ww2 x))).setI 2 (by simp) (.int .u64 (ww1 x))).setI 3 (by simp) (.int .u64 (ww0 x))).setI 4 (by simp) (.int .u64 (ww3 y))).setI 5 (by simp) (.int .u64 (ww2 y))).setI 6 (by simp) (.int .u64 (ww1 y))).setI 7 (by simp) (.int .u64 (ww0 y))).setI 8 (by simp) (.int .u64 (ww3 1))).setI 9 (by simp) (.int .u64 (ww2 1))).setI 10 (by simp) (.int .u64 (ww1 1))).setI 11 (by simp) (.int .u64 (ww0 1))))
  all_goals have HBF : Below w.heap.size w (((((((((((((w3.setCell ⟨w.heap.size + 1, 0, none⟩ (.int .u64 (ww3 x))).setCell ⟨w.heap.size + 1, 1, none⟩ (.int .u64 (ww2 x))).setCell ⟨w.heap.size + 1, 2, none⟩ (.int .u64 (ww1 x))).setCell ⟨w.heap.size + 1, 3, none⟩ (.int .u64 (ww0 x))).setCell ⟨w.heap.size + 1, 4, none⟩ (.int .u64 (ww3 y))).setCell ⟨w.heap.size + 1, 5, none⟩ (.int .u64 (ww2 y))).setCell ⟨w.heap.size + 1, 6, none⟩ (.int .u64 (ww1 y))).setCell ⟨w.heap.size + 1, 7, none⟩ (.int .u64 (ww0 y))).setCell ⟨w.heap.size + 1, 8, none⟩ (.int .u64 (ww3 1))).setCell ⟨w.heap.size + 1, 9, none⟩ (.int .u64 (ww2 1))).setCell ⟨w.heap.size + 1, 10, none⟩ (.int .u64 (ww1 1))).setCell ⟨w.heap.size + 1, 11, none⟩ (.int .u64 (ww0 1)))) := (((((((((((((T0.below.setCell (p := ⟨w.heap.size + 1, 0, none⟩) (by simp) (.int .u64 (ww3 x))).setCell (p := ⟨w.heap.size + 1, 1, none⟩) (by simp) (.int .u64 (ww2 x))).setCell (p := ⟨w.heap.size + 1, 2, none⟩) (by simp) (.int .u64 (ww1 x))).setCell (p := ⟨w.heap.size + 1, 3, none⟩) (by simp) (.int .u64 (ww0 x))).setCell (p := ⟨w.heap.size + 1, 4, none⟩) (by simp) (.int .u64 (ww3 y))).setCell (p := ⟨w.heap.size + 1, 5, none⟩) (by simp) (.int .u64 (ww2 y))).setCell (p := ⟨w.heap.size + 1, 6, none⟩) (by simp) (.int .u64 (ww1 y))).setCell (p := ⟨w.heap.size + 1, 7, none⟩) (by simp) (.int .u64 (ww0 y))).setCell (p := ⟨w.heap.size + 1, 8, none⟩) (by simp) (.int .u64 (ww3 1))).setCell (p := ⟨w.heap.size + 1, 9, none⟩) (by simp) (.int .u64 (ww2 1))).setCell (p := ⟨w.heap.size + 1, 10, none⟩) (by simp) (.int .u64 (ww1 1))).setCell (p := ⟨w.heap.size + 1, 11, none⟩) (by simp) (.int .u64 (ww0 1))))
  all_goals clear T0
  all_goals go_wp2
  all_goals generalize (((((((((((((w3.setCell ⟨w.heap.size + 1, 0, none⟩ (.int .u64 (ww3 x))).setCell ⟨w.heap.size + 1, 1, none⟩ (.int .u64 (ww2 x))).setCell ⟨w.heap.size + 1, 2, none⟩ (.int .u64 (ww1 x))).setCell ⟨w.heap.size + 1, 3, none⟩ (.int .u64 (ww0 x))).setCell ⟨w.heap.size + 1, 4, none⟩ (.int .u64 (ww3 y))).setCell ⟨w.heap.size + 1, 5, none⟩ (.int .u64 (ww2 y))).setCell ⟨w.heap.size + 1, 6, none⟩ (.int .u64 (ww1 y))).setCell ⟨w.heap.size + 1, 7, none⟩ (.int .u64 (ww0 y))).setCell ⟨w.heap.size + 1, 8, none⟩ (.int .u64 (ww3 1))).setCell ⟨w.heap.size + 1, 9, none⟩ (.int .u64 (ww2 1))).setCell ⟨w.heap.size + 1, 10, none⟩ (.int .u64 (ww1 1))).setCell ⟨w.heap.size + 1, 11, none⟩ (.int .u64 (ww0 1)))) = WF at *
  all_goals (have u0 := F.c 0 rfl; have u1 := F.c 1 rfl; have u2 := F.c 2 rfl; have u3 := F.c 3 rfl; have u4 := F.c 4 rfl; have u5 := F.c 5 rfl; have u6 := F.c 6 rfl; have u7 := F.c 7 rfl; have u8 := F.c 8 rfl; have u9 := F.c 9 rfl; have u10 := F.c 10 rfl; have u11 := F.c 11 rfl)
  all_goals refine bodyPost_ret (v := .agg #[.int .u64 (ww3 x), .int .u64 (ww2 x), .int .u64 (ww1 x), .int .u64 (ww0 x), .int .u64 (ww3 y), .int .u64 (ww2 y), .int .u64 (ww1 y), .int .u64 (ww0 y), .int .u64 (ww3 1), .int .u64 (ww2 1), .int .u64 (ww1 1), .int .u64 (ww0 1)]) (by simp [results, Tryz.results68, go_sem, u0, u1, u2, u3, u4, u5, u6, u7, u8, u9, u10, u11]) rfl ?_
  all_goals exact ⟨rfl, HBF⟩
end Go.Proofs.YtibbjjlapglndaaGreat

/- Spots and segments beside points: the walks of their rightness, by the model and by the program. -/
namespace Go.Proofs.YtibbjjlapglndaaGreat
open Go.RowKit
abbrev Sp (x y : Int) : Value := .agg #[.int .i64 x, .int .i64 y]
def spotOk (x y : Int) : Bool := decide (-1000000 ≤ x ∧ x ≤ 1000000 ∧ -1000000 ≤ y ∧ y ≤ 1000000)
theorem l1In_any (x a b : Int) (c : Bool) (hc : decide (a ≤ x ∧ x ≤ b) = c) (w : World) : Calls Tryz.prog 48 #[.int .i64 x, .int .i64 a, .int .i64 b] w (BoolP c w) := by
  go_enter Tryz.func48, Tryz.ntmps48
  go_wp2
  all_goals go_ret
  all_goals exact ⟨ret_bool (by subst hc; simp; try omega), Below.refl _ _⟩
theorem implSpotOk_any (x y : Int) (c : Bool) (hc : spotOk x y = c) (w : World) : Calls Tryz.prog 117 #[Sp x y] w (BoolP c w) := by
  go_enter Tryz.func117, Tryz.ntmps117
  go_wp2
  all_goals go_ret
  all_goals exact ⟨ret_bool (by subst hc; unfold spotOk; simp [*]; try omega), (Below.refl _ _).alloc (Nat.le_refl _) _⟩
theorem specSpotOk_any (x y : Int) (c : Bool) (hc : spotOk x y = c) (w : World) : Calls Tryz.prog 77 #[Sp x y] w (BoolP c w) := by
  by_cases hx : -1000000 ≤ x ∧ x ≤ 1000000
  · go_enter Tryz.func77, Tryz.ntmps77
    go_wp2_with fail
    refine (l1In_any _ _ _ true (by simpa using hx) _).mono ?_
    rintro e w1 ⟨rfl, hB⟩
    obtain ⟨hq, _⟩ := bcell hB
    have HB : Below w.heap.size w w1 := ((Below.refl _ _).alloc (Nat.le_refl _) _).trans (hB.mono (by simp))
    clear hB
    go_wp2_with fail
    refine (l1In_any _ _ _ c (by subst hc; unfold spotOk; simp [hx]) _).mono ?_
    rintro e w2 ⟨rfl, hB⟩
    go_wp2
    go_ret
    exact ⟨rfl, HB.trans (hB.mono HB.size)⟩
  · go_enter Tryz.func77, Tryz.ntmps77
    go_wp2_with fail
    refine (l1In_any _ _ _ false (by simpa using hx) _).mono ?_
    rintro e w1 ⟨rfl, hB⟩
    have HB : Below w.heap.size w w1 := ((Below.refl _ _).alloc (Nat.le_refl _) _).trans (hB.mono (by simp))
    clear hB
    go_wp2
    go_ret
    exact ⟨ret_bool (by subst hc; unfold spotOk; simp; omega), HB⟩
def lessI (x y u v : Int) : Bool := decide (x < u ∨ x = u ∧ y < v)
theorem l4Less_any (x y u v : Int) (c : Bool) (hc : lessI x y u v = c) (w : World) : Calls Tryz.prog 82 #[Sp x y, Sp u v] w (BoolP c w) := by
  go_enter Tryz.func82, Tryz.ntmps82
  go_wp2
  all_goals go_ret
  all_goals exact ⟨ret_bool (by subst hc; unfold lessI; simp [*]; try omega), ((Below.refl _ _).alloc (Nat.le_refl _) _).alloc (by simp) _⟩
theorem isAhead_any (x y u v : Int) (c : Bool) (hc : lessI x y u v = c) (w : World) : Calls Tryz.prog 127 #[Sp x y, Sp u v] w (BoolP c w) := by
  go_enter Tryz.func127, Tryz.ntmps127
  go_wp2
  all_goals go_ret
  all_goals exact ⟨ret_bool (by subst hc; unfold lessI; simp [*]; try omega), ((Below.refl _ _).alloc (Nat.le_refl _) _).alloc (by simp) _⟩
abbrev Sg (a b c d : Int) : Value := .agg #[.int .i64 a, .int .i64 b, .int .i64 c, .int .i64 d]
/-- Four cells of a block, to be written. -/
structure Quad (W : World) (g : Nat) (v0 v1 v2 v3 : Value) : Prop where
  c0 : W.cell? ⟨g, 0, none⟩ = some v0
  c1 : W.cell? ⟨g, 1, none⟩ = some v1
  c2 : W.cell? ⟨g, 2, none⟩ = some v2
  c3 : W.cell? ⟨g, 3, none⟩ = some v3
  f0 : W.frozen? ⟨g, 0, none⟩ = false
  f1 : W.frozen? ⟨g, 1, none⟩ = false
  f2 : W.frozen? ⟨g, 2, none⟩ = false
  f3 : W.frozen? ⟨g, 3, none⟩ = false
  lt : g < W.heap.size
theorem Quad.below {W W' : World} {B g : Nat} {v0 v1 v2 v3 : Value} (h : Quad W g v0 v1 v2 v3) (hB : Below B W W') (hg : g < B) : Quad W' g v0 v1 v2 v3 :=
  ⟨(hB.cell (p := ⟨g, 0, none⟩) hg).trans h.c0, (hB.cell (p := ⟨g, 1, none⟩) hg).trans h.c1, (hB.cell (p := ⟨g, 2, none⟩) hg).trans h.c2, (hB.cell (p := ⟨g, 3, none⟩) hg).trans h.c3,
   (hB.frozen (p := ⟨g, 0, none⟩) hg).trans h.f0, (hB.frozen (p := ⟨g, 1, none⟩) hg).trans h.f1, (hB.frozen (p := ⟨g, 2, none⟩) hg).trans h.f2, (hB.frozen (p := ⟨g, 3, none⟩) hg).trans h.f3, Nat.lt_of_lt_of_le h.lt hB.size⟩
theorem Quad.alloc {W : World} {g : Nat} {v0 v1 v2 v3 : Value} (h : Quad W g v0 v1 v2 v3) (o : Obj) : Quad (W.alloc o) g v0 v1 v2 v3 := h.below ((Below.refl W.heap.size W).alloc (Nat.le_refl _) o) h.lt
theorem Quad.new (W : World) (v0 v1 v2 v3 : Value) (t : TypeId) {g : Nat} (hg : g = W.heap.size) : Quad (W.alloc (.cells #[v0, v1, v2, v3] t)) g v0 v1 v2 v3 := by
  subst hg
  constructor <;> simp [go_sem]
def segOk (a b c d : Int) : Bool := spotOk a b && spotOk c d && lessI a b c d
set_option maxRecDepth 100000 in
theorem implSegOk_any (a b c d : Int) (z : Bool) (hz : segOk a b c d = z) (w : World) : Calls Tryz.prog 128 #[Sg a b c d] w (BoolP z w) := by
  have HB0 : Below w.heap.size w (w.alloc (.cells #[.int .i64 a, .int .i64 b, .int .i64 c, .int .i64 d] 83)) := (Below.refl _ _).alloc (Nat.le_refl _) _
  by_cases hx : spotOk a b = true
  · by_cases hy : spotOk c d = true
    · go_enter Tryz.func128, Tryz.ntmps128
      go_wp2_with fail
      refine (implSpotOk_any _ _ true hx _).mono ?_
      rintro e w1 ⟨rfl, hB⟩
      have HB : Below w.heap.size w w1 := HB0.trans (hB.mono (by simp))
      have q0 : Quad w1 w.heap.size _ _ _ _ := (Quad.new w (.int .i64 a) (.int .i64 b) (.int .i64 c) (.int .i64 d) _ rfl).below hB (by simp)
      obtain ⟨q00, q01, q02, q03, -, -, -, -, q08⟩ := id q0
      clear hB
      go_wp2_with fail
      refine (implSpotOk_any _ _ true hy _).mono ?_
      rintro e w2 ⟨rfl, hB⟩
      have HB2 : Below w.heap.size w w2 := HB.trans (hB.mono HB.size)
      have q2 := q0.below hB q0.lt
      clear q00 q01 q02 q03 q08
      obtain ⟨q00, q01, q02, q03, -, -, -, -, q08⟩ := q2
      clear hB HB
      go_wp2_with fail
      refine (isAhead_any _ _ _ _ z (by rw [← hz]; simp [segOk, hx, hy]) _).mono ?_
      rintro e w3 ⟨rfl, hB⟩
      go_wp2
      go_ret
      exact ⟨rfl, HB2.trans (hB.mono HB2.size)⟩
    · have hy := Bool.eq_false_iff.2 hy
      go_enter Tryz.func128, Tryz.ntmps128
      go_wp2_with fail
      refine (implSpotOk_any _ _ true hx _).mono ?_
      rintro e w1 ⟨rfl, hB⟩
      have HB : Below w.heap.size w w1 := HB0.trans (hB.mono (by simp))
      have q0 : Quad w1 w.heap.size _ _ _ _ := (Quad.new w (.int .i64 a) (.int .i64 b) (.int .i64 c) (.int .i64 d) _ rfl).below hB (by simp)
      obtain ⟨q00, q01, q02, q03, -, -, -, -, q08⟩ := id q0
      clear hB
      go_wp2_with fail
      refine (implSpotOk_any _ _ false hy _).mono ?_
      rintro e w2 ⟨rfl, hB⟩
      have HB2 : Below w.heap.size w w2 := HB.trans (hB.mono HB.size)
      clear hB HB
      go_wp2
      go_ret
      exact ⟨ret_bool (by rw [← hz]; simp [segOk, hx, hy]), HB2⟩
  · have hx := Bool.eq_false_iff.2 hx
    go_enter Tryz.func128, Tryz.ntmps128
    go_wp2_with fail
    refine (implSpotOk_any _ _ false hx _).mono ?_
    rintro e w1 ⟨rfl, hB⟩
    have HB : Below w.heap.size w w1 := HB0.trans (hB.mono (by simp))
    clear hB
    go_wp2
    go_ret
    exact ⟨ret_bool (by rw [← hz]; simp [segOk, hx]), HB⟩
end Go.Proofs.YtibbjjlapglndaaGreat

/- The ends of a segment as points: the program's walk. -/
namespace Go.Proofs.YtibbjjlapglndaaGreat
open Go.RowKit
theorem Blk.set12 {W : World} {vs : List Value} {v0 v1 v2 v3 v4 v5 v6 v7 v8 v9 v10 v11 : Value} {g g' : Nat} (G : Blk W g' vs) (hg : g' ≠ g) : Blk ((((((((((((W.setCell ⟨g, 0, none⟩ v0).setCell ⟨g, 1, none⟩ v1).setCell ⟨g, 2, none⟩ v2).setCell ⟨g, 3, none⟩ v3).setCell ⟨g, 4, none⟩ v4).setCell ⟨g, 5, none⟩ v5).setCell ⟨g, 6, none⟩ v6).setCell ⟨g, 7, none⟩ v7).setCell ⟨g, 8, none⟩ v8).setCell ⟨g, 9, none⟩ v9).setCell ⟨g, 10, none⟩ v10).setCell ⟨g, 11, none⟩ v11) g' vs :=
  (((((((((((G.setO hg v0).setO hg v1).setO hg v2).setO hg v3).setO hg v4).setO hg v5).setO hg v6).setO hg v7).setO hg v8).setO hg v9).setO hg v10).setO hg v11
theorem Blk.stored12 {W : World} {g : Nat} {z0 z1 z2 z3 z4 z5 z6 z7 z8 z9 z10 z11 : Value} (G : Blk W g [z0, z1, z2, z3, z4, z5, z6, z7, z8, z9, z10, z11]) (v0 v1 v2 v3 v4 v5 v6 v7 v8 v9 v10 v11 : Value) : Blk ((((((((((((W.setCell ⟨g, 0, none⟩ v0).setCell ⟨g, 1, none⟩ v1).setCell ⟨g, 2, none⟩ v2).setCell ⟨g, 3, none⟩ v3).setCell ⟨g, 4, none⟩ v4).setCell ⟨g, 5, none⟩ v5).setCell ⟨g, 6, none⟩ v6).setCell ⟨g, 7, none⟩ v7).setCell ⟨g, 8, none⟩ v8).setCell ⟨g, 9, none⟩ v9).setCell ⟨g, 10, none⟩ v10).setCell ⟨g, 11, none⟩ v11) g [v0, v1, v2, v3, v4, v5, v6, v7, v8, v9, v10, v11] :=
  (((((((((((G.setI 0 (by simp) v0).setI 1 (by simp) v1).setI 2 (by simp) v2).setI 3 (by simp) v3).setI 4 (by simp) v4).setI 5 (by simp) v5).setI 6 (by simp) v6).setI 7 (by simp) v7).setI 8 (by simp) v8).setI 9 (by simp) v9).setI 10 (by simp) v10).setI 11 (by simp) v11
theorem Below.set12 {B g : Nat} {w W : World} {v0 v1 v2 v3 v4 v5 v6 v7 v8 v9 v10 v11 : Value} (hg : B ≤ g) (h : Below B w W) : Below B w ((((((((((((W.setCell ⟨g, 0, none⟩ v0).setCell ⟨g, 1, none⟩ v1).setCell ⟨g, 2, none⟩ v2).setCell ⟨g, 3, none⟩ v3).setCell ⟨g, 4, none⟩ v4).setCell ⟨g, 5, none⟩ v5).setCell ⟨g, 6, none⟩ v6).setCell ⟨g, 7, none⟩ v7).setCell ⟨g, 8, none⟩ v8).setCell ⟨g, 9, none⟩ v9).setCell ⟨g, 10, none⟩ v10).setCell ⟨g, 11, none⟩ v11) :=
  (((((((((((h.setCell (p := ⟨g, 0, none⟩) hg _).setCell (p := ⟨g, 1, none⟩) hg _).setCell (p := ⟨g, 2, none⟩) hg _).setCell (p := ⟨g, 3, none⟩) hg _).setCell (p := ⟨g, 4, none⟩) hg _).setCell (p := ⟨g, 5, none⟩) hg _).setCell (p := ⟨g, 6, none⟩) hg _).setCell (p := ⟨g, 7, none⟩) hg _).setCell (p := ⟨g, 8, none⟩) hg _).setCell (p := ⟨g, 9, none⟩) hg _).setCell (p := ⟨g, 10, none⟩) hg _).setCell (p := ⟨g, 11, none⟩) hg _
theorem en_cells {a b c d : Int} {w W : World} (T0 : ArgsB w W [[.int .i64 a, .int .i64 b, .int .i64 c, .int .i64 d], [.int .u64 0, .int .u64 0, .int .u64 0, .int .u64 0, .int .u64 0, .int .u64 0, .int .u64 0, .int .u64 0, .int .u64 0, .int .u64 0, .int .u64 0, .int .u64 0], [.int .u64 0, .int .u64 0, .int .u64 0, .int .u64 0, .int .u64 0, .int .u64 0, .int .u64 0, .int .u64 0, .int .u64 0, .int .u64 0, .int .u64 0, .int .u64 0]]) : (fun w' => w'.cell? ⟨w.heap.size, 0, none⟩ = some (.int .i64 a) ∧ w'.cell? ⟨w.heap.size, 1, none⟩ = some (.int .i64 b) ∧ w'.cell? ⟨w.heap.size, 2, none⟩ = some (.int .i64 c) ∧ w'.cell? ⟨w.heap.size, 3, none⟩ = some (.int .i64 d)) W := ⟨(T0.b 0 rfl).c 0 rfl, (T0.b 0 rfl).c 1 rfl, (T0.b 0 rfl).c 2 rfl, (T0.b 0 rfl).c 3 rfl⟩
theorem en_cells1 {a b c d : Int} {w W : World} {v0 v1 v2 v3 v4 v5 v6 v7 v8 v9 v10 v11 : Value} (T0 : ArgsB w W [[.int .i64 a, .int .i64 b, .int .i64 c, .int .i64 d], [.int .u64 0, .int .u64 0, .int .u64 0, .int .u64 0, .int .u64 0, .int .u64 0, .int .u64 0, .int .u64 0, .int .u64 0, .int .u64 0, .int .u64 0, .int .u64 0], [.int .u64 0, .int .u64 0, .int .u64 0, .int .u64 0, .int .u64 0, .int .u64 0, .int .u64 0, .int .u64 0, .int .u64 0, .int .u64 0, .int .u64 0, .int .u64 0]]) : (fun w' => w'.cell? ⟨w.heap.size, 0, none⟩ = some (.int .i64 a) ∧ w'.cell? ⟨w.heap.size, 1, none⟩ = some (.int .i64 b) ∧ w'.cell? ⟨w.heap.size, 2, none⟩ = some (.int .i64 c) ∧ w'.cell? ⟨w.heap.size, 3, none⟩ = some (.int .i64 d)) ((((((((((((W.setCell ⟨(w.heap.size + 1), 0, none⟩ v0).setCell ⟨(w.heap.size + 1), 1, none⟩ v1).setCell ⟨(w.heap.size + 1), 2, none⟩ v2).setCell ⟨(w.heap.size + 1), 3, none⟩ v3).setCell ⟨(w.heap.size + 1), 4, none⟩ v4).setCell ⟨(w.heap.size + 1), 5, none⟩ v5).setCell ⟨(w.heap.size + 1), 6, none⟩ v6).setCell ⟨(w.heap.size + 1), 7, none⟩ v7).setCell ⟨(w.heap.size + 1), 8, none⟩ v8).setCell ⟨(w.heap.size + 1), 9, none⟩ v9).setCell ⟨(w.heap.size + 1), 10, none⟩ v10).setCell ⟨(w.heap.size + 1), 11, none⟩ v11) := by
  have h : Blk ((((((((((((W.setCell ⟨(w.heap.size + 1), 0, none⟩ v0).setCell ⟨(w.heap.size + 1), 1, none⟩ v1).setCell ⟨(w.heap.size + 1), 2, none⟩ v2).setCell ⟨(w.heap.size + 1), 3, none⟩ v3).setCell ⟨(w.heap.size + 1), 4, none⟩ v4).setCell ⟨(w.heap.size + 1), 5, none⟩ v5).setCell ⟨(w.heap.size + 1), 6, none⟩ v6).setCell ⟨(w.heap.size + 1), 7, none⟩ v7).setCell ⟨(w.heap.size + 1), 8, none⟩ v8).setCell ⟨(w.heap.size + 1), 9, none⟩ v9).setCell ⟨(w.heap.size + 1), 10, none⟩ v10).setCell ⟨(w.heap.size + 1), 11, none⟩ v11) (w.heap.size + 0) _ := (T0.b 0 rfl).set12 (by omega)
  exact ⟨h.c 0 rfl, h.c 1 rfl, h.c 2 rfl, h.c 3 rfl⟩
theorem en_cells2 {a b c d : Int} {w W : World} {v0 v1 v2 v3 v4 v5 v6 v7 v8 v9 v10 v11 : Value} (T0 : ArgsB w W [[.int .i64 a, .int .i64 b, .int .i64 c, .int .i64 d], [.int .u64 0, .int .u64 0, .int .u64 0, .int .u64 0, .int .u64 0, .int .u64 0, .int .u64 0, .int .u64 0, .int .u64 0, .int .u64 0, .int .u64 0, .int .u64 0], [.int .u64 0, .int .u64 0, .int .u64 0, .int .u64 0, .int .u64 0, .int .u64 0, .int .u64 0, .int .u64 0, .int .u64 0, .int .u64 0, .int .u64 0, .int .u64 0]]) : (fun w' => w'.cell? ⟨w.heap.size, 0, none⟩ = some (.int .i64 a) ∧ w'.cell? ⟨w.heap.size, 1, none⟩ = some (.int .i64 b) ∧ w'.cell? ⟨w.heap.size, 2, none⟩ = some (.int .i64 c) ∧ w'.cell? ⟨w.heap.size, 3, none⟩ = some (.int .i64 d)) ((((((((((((W.setCell ⟨(w.heap.size + 1 + 1), 0, none⟩ v0).setCell ⟨(w.heap.size + 1 + 1), 1, none⟩ v1).setCell ⟨(w.heap.size + 1 + 1), 2, none⟩ v2).setCell ⟨(w.heap.size + 1 + 1), 3, none⟩ v3).setCell ⟨(w.heap.size + 1 + 1), 4, none⟩ v4).setCell ⟨(w.heap.size + 1 + 1), 5, none⟩ v5).setCell ⟨(w.heap.size + 1 + 1), 6, none⟩ v6).setCell ⟨(w.heap.size + 1 + 1), 7, none⟩ v7).setCell ⟨(w.heap.size + 1 + 1), 8, none⟩ v8).setCell ⟨(w.heap.size + 1 + 1), 9, none⟩ v9).setCell ⟨(w.heap.size + 1 + 1), 10, none⟩ v10).setCell ⟨(w.heap.size + 1 + 1), 11, none⟩ v11) := by
  have h : Blk ((((((((((((W.setCell ⟨(w.heap.size + 1 + 1), 0, none⟩ v0).setCell ⟨(w.heap.size + 1 + 1), 1, none⟩ v1).setCell ⟨(w.heap.size + 1 + 1), 2, none⟩ v2).setCell ⟨(w.heap.size + 1 + 1), 3, none⟩ v3).setCell ⟨(w.heap.size + 1 + 1), 4, none⟩ v4).setCell ⟨(w.heap.size + 1 + 1), 5, none⟩ v5).setCell ⟨(w.heap.size + 1 + 1), 6, none⟩ v6).setCell ⟨(w.heap.size + 1 + 1), 7, none⟩ v7).setCell ⟨(w.heap.size + 1 + 1), 8, none⟩ v8).setCell ⟨(w.heap.size + 1 + 1), 9, none⟩ v9).setCell ⟨(w.heap.size + 1 + 1), 10, none⟩ v10).setCell ⟨(w.heap.size + 1 + 1), 11, none⟩ v11) (w.heap.size + 0) _ := (T0.b 0 rfl).set12 (by omega)
  exact ⟨h.c 0 rfl, h.c 1 rfl, h.c 2 rfl, h.c 3 rfl⟩
theorem en_cells12 {a b c d : Int} {w W : World} {u0 u1 u2 u3 u4 u5 u6 u7 u8 u9 u10 u11 v0 v1 v2 v3 v4 v5 v6 v7 v8 v9 v10 v11 : Value} (T0 : ArgsB w W [[.int .i64 a, .int .i64 b, .int .i64 c, .int .i64 d], [.int .u64 0, .int .u64 0, .int .u64 0, .int .u64 0, .int .u64 0, .int .u64 0, .int .u64 0, .int .u64 0, .int .u64 0, .int .u64 0, .int .u64 0, .int .u64 0], [.int .u64 0, .int .u64 0, .int .u64 0, .int .u64 0, .int .u64 0, .int .u64 0, .int .u64 0, .int .u64 0, .int .u64 0, .int .u64 0, .int .u64 0, .int .u64 0]]) : (fun w' => w'.cell? ⟨w.heap.size, 0, none⟩ = some (.int .i64 a) ∧ w'.cell? ⟨w.heap.size, 1, none⟩ = some (.int .i64 b) ∧ w'.cell? ⟨w.heap.size, 2, none⟩ = some (.int .i64 c) ∧ w'.cell? ⟨w.heap.size, 3, none⟩ = some (.int .i64 d)) ((((((((((((((((((((((((W.setCell ⟨(w.heap.size + 1), 0, none⟩ u0).setCell ⟨(w.heap.size + 1), 1, none⟩ u1).setCell ⟨(w.heap.size + 1), 2, none⟩ u2).setCell ⟨(w.heap.size + 1), 3, none⟩ u3).setCell ⟨(w.heap.size + 1), 4, none⟩ u4).setCell ⟨(w.heap.size + 1), 5, none⟩ u5).setCell ⟨(w.heap.size + 1), 6, none⟩ u6).setCell ⟨(w.heap.size + 1), 7, none⟩ u7).setCell ⟨(w.heap.size + 1), 8, none⟩ u8).setCell ⟨(w.heap.size + 1), 9, none⟩ u9).setCell ⟨(w.heap.size + 1), 10, none⟩ u10).setCell ⟨(w.heap.size + 1), 11, none⟩ u11).setCell ⟨(w.heap.size + 1 + 1), 0, none⟩ v0).setCell ⟨(w.heap.size + 1 + 1), 1, none⟩ v1).setCell ⟨(w.heap.size + 1 + 1), 2, none⟩ v2).setCell ⟨(w.heap.size + 1 + 1), 3, none⟩ v3).setCell ⟨(w.heap.size + 1 + 1), 4, none⟩ v4).setCell ⟨(w.heap.size + 1 + 1), 5, none⟩ v5).setCell ⟨(w.heap.size + 1 + 1), 6, none⟩ v6).setCell ⟨(w.heap.size + 1 + 1), 7, none⟩ v7).setCell ⟨(w.heap.size + 1 + 1), 8, none⟩ v8).setCell ⟨(w.heap.size + 1 + 1), 9, none⟩ v9).setCell ⟨(w.heap.size + 1 + 1), 10, none⟩ v10).setCell ⟨(w.heap.size + 1 + 1), 11, none⟩ v11) := by
  have h : Blk ((((((((((((((((((((((((W.setCell ⟨(w.heap.size + 1), 0, none⟩ u0).setCell ⟨(w.heap.size + 1), 1, none⟩ u1).setCell ⟨(w.heap.size + 1), 2, none⟩ u2).setCell ⟨(w.heap.size + 1), 3, none⟩ u3).setCell ⟨(w.heap.size + 1), 4, none⟩ u4).setCell ⟨(w.heap.size + 1), 5, none⟩ u5).setCell ⟨(w.heap.size + 1), 6, none⟩ u6).setCell ⟨(w.heap.size + 1), 7, none⟩ u7).setCell ⟨(w.heap.size + 1), 8, none⟩ u8).setCell ⟨(w.heap.size + 1), 9, none⟩ u9).setCell ⟨(w.heap.size + 1), 10, none⟩ u10).setCell ⟨(w.heap.size + 1), 11, none⟩ u11).setCell ⟨(w.heap.size + 1 + 1), 0, none⟩ v0).setCell ⟨(w.heap.size + 1 + 1), 1, none⟩ v1).setCell ⟨(w.heap.size + 1 + 1), 2, none⟩ v2).setCell ⟨(w.heap.size + 1 + 1), 3, none⟩ v3).setCell ⟨(w.heap.size + 1 + 1), 4, none⟩ v4).setCell ⟨(w.heap.size + 1 + 1), 5, none⟩ v5).setCell ⟨(w.heap.size + 1 + 1), 6, none⟩ v6).setCell ⟨(w.heap.size + 1 + 1), 7, none⟩ v7).setCell ⟨(w.heap.size + 1 + 1), 8, none⟩ v8).setCell ⟨(w.heap.size + 1 + 1), 9, none⟩ v9).setCell ⟨(w.heap.size + 1 + 1), 10, none⟩ v10).setCell ⟨(w.heap.size + 1 + 1), 11, none⟩ v11) (w.heap.size + 0) _ := ((T0.b 0 rfl).set12 (by omega)).set12 (by omega)
  exact ⟨h.c 0 rfl, h.c 1 rfl, h.c 2 rfl, h.c 3 rfl⟩
theorem en_cells21 {a b c d : Int} {w W : World} {u0 u1 u2 u3 u4 u5 u6 u7 u8 u9 u10 u11 v0 v1 v2 v3 v4 v5 v6 v7 v8 v9 v10 v11 : Value} (T0 : ArgsB w W [[.int .i64 a, .int .i64 b, .int .i64 c, .int .i64 d], [.int .u64 0, .int .u64 0, .int .u64 0, .int .u64 0, .int .u64 0, .int .u64 0, .int .u64 0, .int .u64 0, .int .u64 0, .int .u64 0, .int .u64 0, .int .u64 0], [.int .u64 0, .int .u64 0, .int .u64 0, .int .u64 0, .int .u64 0, .int .u64 0, .int .u64 0, .int .u64 0, .int .u64 0, .int .u64 0, .int .u64 0, .int .u64 0]]) : (fun w' => w'.cell? ⟨w.heap.size, 0, none⟩ = some (.int .i64 a) ∧ w'.cell? ⟨w.heap.size, 1, none⟩ = some (.int .i64 b) ∧ w'.cell? ⟨w.heap.size, 2, none⟩ = some (.int .i64 c) ∧ w'.cell? ⟨w.heap.size, 3, none⟩ = some (.int .i64 d)) ((((((((((((((((((((((((W.setCell ⟨(w.heap.size + 1 + 1), 0, none⟩ u0).setCell ⟨(w.heap.size + 1 + 1), 1, none⟩ u1).setCell ⟨(w.heap.size + 1 + 1), 2, none⟩ u2).setCell ⟨(w.heap.size + 1 + 1), 3, none⟩ u3).setCell ⟨(w.heap.size + 1 + 1), 4, none⟩ u4).setCell ⟨(w.heap.size + 1 + 1), 5, none⟩ u5).setCell ⟨(w.heap.size + 1 + 1), 6, none⟩ u6).setCell ⟨(w.heap.size + 1 + 1), 7, none⟩ u7).setCell ⟨(w.heap.size + 1 + 1), 8, none⟩ u8).setCell ⟨(w.heap.size + 1 + 1), 9, none⟩ u9).setCell ⟨(w.heap.size + 1 + 1), 10, none⟩ u10).setCell ⟨(w.heap.size + 1 + 1), 11, none⟩ u11).setCell ⟨(w.heap.size + 1), 0, none⟩ v0).setCell ⟨(w.heap.size + 1), 1, none⟩ v1).setCell ⟨(w.heap.size + 1), 2, none⟩ v2).setCell ⟨(w.heap.size + 1), 3, none⟩ v3).setCell ⟨(w.heap.size + 1), 4, none⟩ v4).setCell ⟨(w.heap.size + 1), 5, none⟩ v5).setCell ⟨(w.heap.size + 1), 6, none⟩ v6).setCell ⟨(w.heap.size + 1), 7, none⟩ v7).setCell ⟨(w.heap.size + 1), 8, none⟩ v8).setCell ⟨(w.heap.size + 1), 9, none⟩ v9).setCell ⟨(w.heap.size + 1), 10, none⟩ v10).setCell ⟨(w.heap.size + 1), 11, none⟩ v11) := by
  have h : Blk ((((((((((((((((((((((((W.setCell ⟨(w.heap.size + 1 + 1), 0, none⟩ u0).setCell ⟨(w.heap.size + 1 + 1), 1, none⟩ u1).setCell ⟨(w.heap.size + 1 + 1), 2, none⟩ u2).setCell ⟨(w.heap.size + 1 + 1), 3, none⟩ u3).setCell ⟨(w.heap.size + 1 + 1), 4, none⟩ u4).setCell ⟨(w.heap.size + 1 + 1), 5, none⟩ u5).setCell ⟨(w.heap.size + 1 + 1), 6, none⟩ u6).setCell ⟨(w.heap.size + 1 + 1), 7, none⟩ u7).setCell ⟨(w.heap.size + 1 + 1), 8, none⟩ u8).setCell ⟨(w.heap.size + 1 + 1), 9, none⟩ u9).setCell ⟨(w.heap.size + 1 + 1), 10, none⟩ u10).setCell ⟨(w.heap.size + 1 + 1), 11, none⟩ u11).setCell ⟨(w.heap.size + 1), 0, none⟩ v0).setCell ⟨(w.heap.size + 1), 1, none⟩ v1).setCell ⟨(w.heap.size + 1), 2, none⟩ v2).setCell ⟨(w.heap.size + 1), 3, none⟩ v3).setCell ⟨(w.heap.size + 1), 4, none⟩ v4).setCell ⟨(w.heap.size + 1), 5, none⟩ v5).setCell ⟨(w.heap.size + 1), 6, none⟩ v6).setCell ⟨(w.heap.size + 1), 7, none⟩ v7).setCell ⟨(w.heap.size + 1), 8, none⟩ v8).setCell ⟨(w.heap.size + 1), 9, none⟩ v9).setCell ⟨(w.heap.size + 1), 10, none⟩ v10).setCell ⟨(w.heap.size + 1), 11, none⟩ v11) (w.heap.size + 0) _ := ((T0.b 0 rfl).set12 (by omega)).set12 (by omega)
  exact ⟨h.c 0 rfl, h.c 1 rfl, h.c 2 rfl, h.c 3 rfl⟩
set_option maxRecDepth 100000 in
set_option maxHeartbeats 4000000 in
theorem ends_det (a b c d : Int) (ha0 : -9223372036854775808 ≤ a) (ha1 : a ≤ 9223372036854775807) (hb0 : -9223372036854775808 ≤ b) (hb1 : b ≤ 9223372036854775807) (hc0 : -9223372036854775808 ≤ c) (hc1 : c ≤ 9223372036854775807) (hd0 : -9223372036854775808 ≤ d) (hd1 : d ≤ 9223372036854775807) (w : World) : Calls Tryz.prog 98 #[Sg a b c d] w (VP (.tuple #[PV a b 1, PV c d 1]) w) := by
  have T0 : ArgsB w (((w.alloc (.cells #[.int .i64 a, .int .i64 b, .int .i64 c, .int .i64 d] 83)).alloc (.cells #[.int .u64 0, .int .u64 0, .int .u64 0, .int .u64 0, .int .u64 0, .int .u64 0, .int .u64 0, .int .u64 0, .int .u64 0, .int .u64 0, .int .u64 0, .int .u64 0] 38)).alloc (.cells #[.int .u64 0, .int .u64 0, .int .u64 0, .int .u64 0, .int .u64 0, .int .u64 0, .int .u64 0, .int .u64 0, .int .u64 0, .int .u64 0, .int .u64 0, .int .u64 0] 38)) [[.int .i64 a, .int .i64 b, .int .i64 c, .int .i64 d], [.int .u64 0, .int .u64 0, .int .u64 0, .int .u64 0, .int .u64 0, .int .u64 0, .int .u64 0, .int .u64 0, .int .u64 0, .int .u64 0, .int .u64 0, .int .u64 0], [.int .u64 0, .int .u64 0, .int .u64 0, .int .u64 0, .int .u64 0, .int .u64 0, .int .u64 0, .int .u64 0, .int .u64 0, .int .u64 0, .int .u64 0, .int .u64 0]] := ar3 _ _ _ _ _ _ w
  have C1 := fun w => implPointOf_any a b ha0 ha1 hb0 hb1 w
  have C2 := fun w => implPointOf_any c d hc0 hc1 hd0 hd1 w
  clear ha0 ha1 hb0 hb1 hc0 hc1 hd0 hd1
  have tok1 : True := trivial
  go_enter Tryz.func98, Tryz.ntmps98
  go_upto_region 1 with fail
  generalize (((w.alloc (.cells #[.int .i64 a, .int .i64 b, .int .i64 c, .int .i64 d] 83)).alloc (.cells #[.int .u64 0, .int .u64 0, .int .u64 0, .int .u64 0, .int .u64 0, .int .u64 0, .int .u64 0, .int .u64 0, .int .u64 0, .int .u64 0, .int .u64 0, .int .u64 0] 38)).alloc (.cells #[.int .u64 0, .int .u64 0, .int .u64 0, .int .u64 0, .int .u64 0, .int .u64 0, .int .u64 0, .int .u64 0, .int .u64 0, .int .u64 0, .int .u64 0, .int .u64 0] 38)) = W at *
  go_region_held3 (fun w' => w'.cell? ⟨w.heap.size, 0, none⟩ = some (.int .i64 a) ∧ w'.cell? ⟨w.heap.size, 1, none⟩ = some (.int .i64 b) ∧ w'.cell? ⟨w.heap.size, 2, none⟩ = some (.int .i64 c) ∧ w'.cell? ⟨w.heap.size, 3, none⟩ = some (.int .i64 d)) (first | (with_reducible exact en_cells T0) | (with_reducible exact en_cells T0.drew) | (with_reducible exact en_cells1 T0) | (with_reducible exact en_cells2 T0) | (with_reducible exact en_cells12 T0) | (with_reducible exact en_cells21 T0))
    (first
      | (go_at_call 68; have _t := tok1; refine (C1 _).mono ?_; rintro e v1 ⟨rfl, hB⟩; (first | (have T1 := T0.step hB) | (have T1 := T0.drew.step hB)); clear T0; have T0 := T1; clear T1; clear hB; clear tok1 _t)
      | (go_at_call 68; refine (C2 _).mono ?_; rintro e v2 ⟨rfl, hB⟩; (first | (have T1 := T0.step hB) | (have T1 := T0.drew.step hB)); clear T0; have T0 := T1; clear T1; clear hB; have rc0 := (T0.b 1 rfl).c 0 rfl; have rf0 := (T0.b 1 rfl).f 0 rfl; have rc1 := (T0.b 1 rfl).c 1 rfl; have rf1 := (T0.b 1 rfl).f 1 rfl; have rc2 := (T0.b 1 rfl).c 2 rfl; have rf2 := (T0.b 1 rfl).f 2 rfl; have rc3 := (T0.b 1 rfl).c 3 rfl; have rf3 := (T0.b 1 rfl).f 3 rfl; have rc4 := (T0.b 1 rfl).c 4 rfl; have rf4 := (T0.b 1 rfl).f 4 rfl; have rc5 := (T0.b 1 rfl).c 5 rfl; have rf5 := (T0.b 1 rfl).f 5 rfl; have rc6 := (T0.b 1 rfl).c 6 rfl; have rf6 := (T0.b 1 rfl).f 6 rfl; have rc7 := (T0.b 1 rfl).c 7 rfl; have rf7 := (T0.b 1 rfl).f 7 rfl; have rc8 := (T0.b 1 rfl).c 8 rfl; have rf8 := (T0.b 1 rfl).f 8 rfl; have rc9 := (T0.b 1 rfl).c 9 rfl; have rf9 := (T0.b 1 rfl).f 9 rfl; have rc10 := (T0.b 1 rfl).c 10 rfl; have rf10 := (T0.b 1 rfl).f 10 rfl; have rc11 := (T0.b 1 rfl).c 11 rfl; have rf11 := (T0.b 1 rfl).f 11 rfl; have sc0 := (T0.b 2 rfl).c 0 rfl; have sf0 := (T0.b 2 rfl).f 0 rfl; have sc1 := (T0.b 2 rfl).c 1 rfl; have sf1 := (T0.b 2 rfl).f 1 rfl; have sc2 := (T0.b 2 rfl).c 2 rfl; have sf2 := (T0.b 2 rfl).f 2 rfl; have sc3 := (T0.b 2 rfl).c 3 rfl; have sf3 := (T0.b 2 rfl).f 3 rfl; have sc4 := (T0.b 2 rfl).c 4 rfl; have sf4 := (T0.b 2 rfl).f 4 rfl; have sc5 := (T0.b 2 rfl).c 5 rfl; have sf5 := (T0.b 2 rfl).f 5 rfl; have sc6 := (T0.b 2 rfl).c 6 rfl; have sf6 := (T0.b 2 rfl).f 6 rfl; have sc7 := (T0.b 2 rfl).c 7 rfl; have sf7 := (T0.b 2 rfl).f 7 rfl; have sc8 := (T0.b 2 rfl).c 8 rfl; have sf8 := (T0.b 2 rfl).f 8 rfl; have sc9 := (T0.b 2 rfl).c 9 rfl; have sf9 := (T0.b 2 rfl).f 9 rfl; have sc10 := (T0.b 2 rfl).c 10 rfl; have sf10 := (T0.b 2 rfl).f 10 rfl; have sc11 := (T0.b 2 rfl).c 11 rfl; have sf11 := (T0.b 2 rfl).f 11 rfl; have rl := (T0.b 1 rfl).lt; have sl := (T0.b 2 rfl).lt))
  all_goals have HB := T0.below
  all_goals have X1 : Blk _ (w.heap.size + 1) _ := T0.b 1 rfl
  all_goals have X2 : Blk _ (w.heap.size + 1 + 1) _ := T0.b 2 rfl
  go_wp2
  have F1 : Blk ((((((((((((((((((((((((v2.setCell ⟨(w.heap.size + 1), 0, none⟩ (.int .u64 (ww3 a))).setCell ⟨(w.heap.size + 1), 1, none⟩ (.int .u64 (ww2 a))).setCell ⟨(w.heap.size + 1), 2, none⟩ (.int .u64 (ww1 a))).setCell ⟨(w.heap.size + 1), 3, none⟩ (.int .u64 (ww0 a))).setCell ⟨(w.heap.size + 1), 4, none⟩ (.int .u64 (ww3 b))).setCell ⟨(w.heap.size + 1), 5, none⟩ (.int .u64 (ww2 b))).setCell ⟨(w.heap.size + 1), 6, none⟩ (.int .u64 (ww1 b))).setCell ⟨(w.heap.size + 1), 7, none⟩ (.int .u64 (ww0 b))).setCell ⟨(w.heap.size + 1), 8, none⟩ (.int .u64 (ww3 1))).setCell ⟨(w.heap.size + 1), 9, none⟩ (.int .u64 (ww2 1))).setCell ⟨(w.heap.size + 1), 10, none⟩ (.int .u64 (ww1 1))).setCell ⟨(w.heap.size + 1), 11, none⟩ (.int .u64 (ww0 1))).setCell ⟨(w.heap.size + 1 + 1), 0, none⟩ (.int .u64 (ww3 c))).setCell ⟨(w.heap.size + 1 + 1), 1, none⟩ (.int .u64 (ww2 c))).setCell ⟨(w.heap.size + 1 + 1), 2, none⟩ (.int .u64 (ww1 c))).setCell ⟨(w.heap.size + 1 + 1), 3, none⟩ (.int .u64 (ww0 c))).setCell ⟨(w.heap.size + 1 + 1), 4, none⟩ (.int .u64 (ww3 d))).setCell ⟨(w.heap.size + 1 + 1), 5, none⟩ (.int .u64 (ww2 d))).setCell ⟨(w.heap.size + 1 + 1), 6, none⟩ (.int .u64 (ww1 d))).setCell ⟨(w.heap.size + 1 + 1), 7, none⟩ (.int .u64 (ww0 d))).setCell ⟨(w.heap.size + 1 + 1), 8, none⟩ (.int .u64 (ww3 1))).setCell ⟨(w.heap.size + 1 + 1), 9, none⟩ (.int .u64 (ww2 1))).setCell ⟨(w.heap.size + 1 + 1), 10, none⟩ (.int .u64 (ww1 1))).setCell ⟨(w.heap.size + 1 + 1), 11, none⟩ (.int .u64 (ww0 1))) (w.heap.size + 1) [.int .u64 (ww3 a), .int .u64 (ww2 a), .int .u64 (ww1 a), .int .u64 (ww0 a), .int .u64 (ww3 b), .int .u64 (ww2 b), .int .u64 (ww1 b), .int .u64 (ww0 b), .int .u64 (ww3 1), .int .u64 (ww2 1), .int .u64 (ww1 1), .int .u64 (ww0 1)] := (X1.stored12 (.int .u64 (ww3 a)) (.int .u64 (ww2 a)) (.int .u64 (ww1 a)) (.int .u64 (ww0 a)) (.int .u64 (ww3 b)) (.int .u64 (ww2 b)) (.int .u64 (ww1 b)) (.int .u64 (ww0 b)) (.int .u64 (ww3 1)) (.int .u64 (ww2 1)) (.int .u64 (ww1 1)) (.int .u64 (ww0 1))).set12 (by omega)
  have F2 : Blk ((((((((((((((((((((((((v2.setCell ⟨(w.heap.size + 1), 0, none⟩ (.int .u64 (ww3 a))).setCell ⟨(w.heap.size + 1), 1, none⟩ (.int .u64 (ww2 a))).setCell ⟨(w.heap.size + 1), 2, none⟩ (.int .u64 (ww1 a))).setCell ⟨(w.heap.size + 1), 3, none⟩ (.int .u64 (ww0 a))).setCell ⟨(w.heap.size + 1), 4, none⟩ (.int .u64 (ww3 b))).setCell ⟨(w.heap.size + 1), 5, none⟩ (.int .u64 (ww2 b))).setCell ⟨(w.heap.size + 1), 6, none⟩ (.int .u64 (ww1 b))).setCell ⟨(w.heap.size + 1), 7, none⟩ (.int .u64 (ww0 b))).setCell ⟨(w.heap.size + 1), 8, none⟩ (.int .u64 (ww3 1))).setCell ⟨(w.heap.size + 1), 9, none⟩ (.int .u64 (ww2 1))).setCell ⟨(w.heap.size + 1), 10, none⟩ (.int .u64 (ww1 1))).setCell ⟨(w.heap.size + 1), 11, none⟩ (.int .u64 (ww0 1))).setCell ⟨(w.heap.size + 1 + 1), 0, none⟩ (.int .u64 (ww3 c))).setCell ⟨(w.heap.size + 1 + 1), 1, none⟩ (.int .u64 (ww2 c))).setCell ⟨(w.heap.size + 1 + 1), 2, none⟩ (.int .u64 (ww1 c))).setCell ⟨(w.heap.size + 1 + 1), 3, none⟩ (.int .u64 (ww0 c))).setCell ⟨(w.heap.size + 1 + 1), 4, none⟩ (.int .u64 (ww3 d))).setCell ⟨(w.heap.size + 1 + 1), 5, none⟩ (.int .u64 (ww2 d))).setCell ⟨(w.heap.size + 1 + 1), 6, none⟩ (.int .u64 (ww1 d))).setCell ⟨(w.heap.size + 1 + 1), 7, none⟩ (.int .u64 (ww0 d))).setCell ⟨(w.heap.size + 1 + 1), 8, none⟩ (.int .u64 (ww3 1))).setCell ⟨(w.heap.size + 1 + 1), 9, none⟩ (.int .u64 (ww2 1))).setCell ⟨(w.heap.size + 1 + 1), 10, none⟩ (.int .u64 (ww1 1))).setCell ⟨(w.heap.size + 1 + 1), 11, none⟩ (.int .u64 (ww0 1))) (w.heap.size + 1 + 1) [.int .u64 (ww3 c), .int .u64 (ww2 c), .int .u64 (ww1 c), .int .u64 (ww0 c), .int .u64 (ww3 d), .int .u64 (ww2 d), .int .u64 (ww1 d), .int .u64 (ww0 d), .int .u64 (ww3 1), .int .u64 (ww2 1), .int .u64 (ww1 1), .int .u64 (ww0 1)] := (X2.set12 (by omega)).stored12 (.int .u64 (ww3 c)) (.int .u64 (ww2 c)) (.int .u64 (ww1 c)) (.int .u64 (ww0 c)) (.int .u64 (ww3 d)) (.int .u64 (ww2 d)) (.int .u64 (ww1 d)) (.int .u64 (ww0 d)) (.int .u64 (ww3 1)) (.int .u64 (ww2 1)) (.int .u64 (ww1 1)) (.int .u64 (ww0 1))
  have HBF : Below w.heap.size w ((((((((((((((((((((((((v2.setCell ⟨(w.heap.size + 1), 0, none⟩ (.int .u64 (ww3 a))).setCell ⟨(w.heap.size + 1), 1, none⟩ (.int .u64 (ww2 a))).setCell ⟨(w.heap.size + 1), 2, none⟩ (.int .u64 (ww1 a))).setCell ⟨(w.heap.size + 1), 3, none⟩ (.int .u64 (ww0 a))).setCell ⟨(w.heap.size + 1), 4, none⟩ (.int .u64 (ww3 b))).setCell ⟨(w.heap.size + 1), 5, none⟩ (.int .u64 (ww2 b))).setCell ⟨(w.heap.size + 1), 6, none⟩ (.int .u64 (ww1 b))).setCell ⟨(w.heap.size + 1), 7, none⟩ (.int .u64 (ww0 b))).setCell ⟨(w.heap.size + 1), 8, none⟩ (.int .u64 (ww3 1))).setCell ⟨(w.heap.size + 1), 9, none⟩ (.int .u64 (ww2 1))).setCell ⟨(w.heap.size + 1), 10, none⟩ (.int .u64 (ww1 1))).setCell ⟨(w.heap.size + 1), 11, none⟩ (.int .u64 (ww0 1))).setCell ⟨(w.heap.size + 1 + 1), 0, none⟩ (.int .u64 (ww3 c))).setCell ⟨(w.heap.size + 1 + 1), 1, none⟩ (.int .u64 (ww2 c))).setCell ⟨(w.heap.size + 1 + 1), 2, none⟩ (.int .u64 (ww1 c))).setCell ⟨(w.heap.size + 1 + 1), 3, none⟩ (.int .u64 (ww0 c))).setCell ⟨(w.heap.size + 1 + 1), 4, none⟩ (.int .u64 (ww3 d))).setCell ⟨(w.heap.size + 1 + 1), 5, none⟩ (.int .u64 (ww2 d))).setCell ⟨(w.heap.size + 1 + 1), 6, none⟩ (.int .u64 (ww1 d))).setCell ⟨(w.heap.size + 1 + 1), 7, none⟩ (.int .u64 (ww0 d))).setCell ⟨(w.heap.size + 1 + 1), 8, none⟩ (.int .u64 (ww3 1))).setCell ⟨(w.heap.size + 1 + 1), 9, none⟩ (.int .u64 (ww2 1))).setCell ⟨(w.heap.size + 1 + 1), 10, none⟩ (.int .u64 (ww1 1))).setCell ⟨(w.heap.size + 1 + 1), 11, none⟩ (.int .u64 (ww0 1))) := Below.set12 (by omega) (Below.set12 (by omega) HB)
  generalize ((((((((((((((((((((((((v2.setCell ⟨(w.heap.size + 1), 0, none⟩ (.int .u64 (ww3 a))).setCell ⟨(w.heap.size + 1), 1, none⟩ (.int .u64 (ww2 a))).setCell ⟨(w.heap.size + 1), 2, none⟩ (.int .u64 (ww1 a))).setCell ⟨(w.heap.size + 1), 3, none⟩ (.int .u64 (ww0 a))).setCell ⟨(w.heap.size + 1), 4, none⟩ (.int .u64 (ww3 b))).setCell ⟨(w.heap.size + 1), 5, none⟩ (.int .u64 (ww2 b))).setCell ⟨(w.heap.size + 1), 6, none⟩ (.int .u64 (ww1 b))).setCell ⟨(w.heap.size + 1), 7, none⟩ (.int .u64 (ww0 b))).setCell ⟨(w.heap.size + 1), 8, none⟩ (.int .u64 (ww3 1))).setCell ⟨(w.heap.size + 1), 9, none⟩ (.int .u64 (ww2 1))).setCell ⟨(w.heap.size + 1), 10, none⟩ (.int .u64 (ww1 1))).setCell ⟨(w.heap.size + 1), 11, none⟩ (.int .u64 (ww0 1))).setCell ⟨(w.heap.size + 1 + 1), 0, none⟩ (.int .u64 (ww3 c))).setCell ⟨(w.heap.size + 1 + 1), 1, none⟩ (.int .u64 (ww2 c))).setCell ⟨(w.heap.size + 1 + 1), 2, none⟩ (.int .u64 (ww1 c))).setCell ⟨(w.heap.size + 1 + 1), 3, none⟩ (.int .u64 (ww0 c))).setCell ⟨(w.heap.size + 1 + 1), 4, none⟩ (.int .u64 (ww3 d))).setCell ⟨(w.heap.size + 1 + 1), 5, none⟩ (.int .u64 (ww2 d))).setCell ⟨(w.heap.size + 1 + 1), 6, none⟩ (.int .u64 (ww1 d))).setCell ⟨(w.heap.size + 1 + 1), 7, none⟩ (.int .u64 (ww0 d))).setCell ⟨(w.heap.size + 1 + 1), 8, none⟩ (.int .u64 (ww3 1))).setCell ⟨(w.heap.size + 1 + 1), 9, none⟩ (.int .u64 (ww2 1))).setCell ⟨(w.heap.size + 1 + 1), 10, none⟩ (.int .u64 (ww1 1))).setCell ⟨(w.heap.size + 1 + 1), 11, none⟩ (.int .u64 (ww0 1))) = WF at *
  have m0 := F1.c 0 rfl; have n0 := F2.c 0 rfl; have m1 := F1.c 1 rfl; have n1 := F2.c 1 rfl; have m2 := F1.c 2 rfl; have n2 := F2.c 2 rfl; have m3 := F1.c 3 rfl; have n3 := F2.c 3 rfl; have m4 := F1.c 4 rfl; have n4 := F2.c 4 rfl; have m5 := F1.c 5 rfl; have n5 := F2.c 5 rfl; have m6 := F1.c 6 rfl; have n6 := F2.c 6 rfl; have m7 := F1.c 7 rfl; have n7 := F2.c 7 rfl; have m8 := F1.c 8 rfl; have n8 := F2.c 8 rfl; have m9 := F1.c 9 rfl; have n9 := F2.c 9 rfl; have m10 := F1.c 10 rfl; have n10 := F2.c 10 rfl; have m11 := F1.c 11 rfl; have n11 := F2.c 11 rfl
  refine bodyPost_ret (v := .tuple #[PV a b 1, PV c d 1]) (by simp [results, Tryz.results98, go_sem, m0, n0, m1, n1, m2, n2, m3, n3, m4, n4, m5, n5, m6, n6, m7, n7, m8, n8, m9, n9, m10, n10, m11, n11]) rfl ?_
  exact ⟨rfl, HBF⟩
end Go.Proofs.YtibbjjlapglndaaGreat

/- The walk of the model's quotient and rest of numbers with signs. -/
namespace Go.Proofs.YtibbjjlapglndaaGreat
open Go.RowKit
def Div2P (k : Nat) (x y : Int) (w : World) (e : Ending) (w' : World) : Prop :=
  ∃ (s2 : Bool) (o2 : Option Addr) (n2 c2 : Nat) (d2 : List Int) (s3 : Bool) (o3 : Option Addr) (n3 c3 : Nat) (d3 : List Int), e = .returned (.tuple #[.agg #[.bool s2, .slice o2 n2 c2], .agg #[.bool s3, .slice o3 n3 c3]]) ∧ IsNum w' s2 o2 n2 c2 d2 (x / y) (k + 3) ∧ IsNum w' s3 o3 n3 c3 d3 (x % y) (k + 3) ∧ Below w.heap.size w w'
theorem num_put {w : World} {s : Bool} {ao : Option Addr} {n cap : Nat} {ds : List Int} {z : Int} {k R : Nat} {p : Bool} {q : Option Addr} {q1 q2 : Nat} (h : IsNum w s ao n cap ds z k) (B : Blk w R [.bool p, .slice q q1 q2]) (u0 u1 : Value) : IsNum ((w.setCell ⟨R, 0, none⟩ u0).setCell ⟨R, 1, none⟩ u1) s ao n cap ds z k := by
  have h1 := h.rd.set u0 (B.c 0 rfl) (by intro x e; cases e)
  have B1 := B.setI 0 (by simp) u0
  have h2 := h1.set u1 (B1.c 1 rfl) (by intro x e; cases e)
  exact ⟨h.neg, h.len, h.cap, h2, h.nrm, h.val, h.le⟩
theorem num_more {w : World} {s : Bool} {ao : Option Addr} {n cap : Nat} {ds : List Int} {z : Int} {k k' : Nat} (h : IsNum w s ao n cap ds z k) (hk : k ≤ k') : IsNum w s ao n cap ds z k' := ⟨h.neg, h.len, h.cap, h.rd, h.nrm, h.val, Nat.le_trans h.le hk⟩
theorem num_drawn {w : World} {s : Bool} {ao : Option Addr} {n cap : Nat} {ds : List Int} {z : Int} {k : Nat} (h : IsNum w s ao n cap ds z k) : IsNum w.drew s ao n cap ds z k := ⟨h.neg, h.len, h.cap, h.rd, h.nrm, h.val, h.le⟩
theorem div_done {w W : World} {s2 s3 : Bool} {o2 o3 : Option Addr} {n2 c2 n3 c3 : Nat} {d2 d3 : List Int} {x y : Int} {k : Nat} (HB : Below w.heap.size w W) (NU : IsNum W s2 o2 n2 c2 d2 (x / y) (k + 3)) (NV : IsNum W s3 o3 n3 c3 d3 (x % y) (k + 3)) (C : Blk W (w.heap.size + 1 + 1) [.bool false, .slice none 0 0]) (D : Blk W (w.heap.size + 1 + 1 + 1) [.bool false, .slice none 0 0]) :
    Div2P k x y w (.returned (.tuple #[.agg #[.bool s2, .slice o2 n2 c2], .agg #[.bool s3, .slice o3 n3 c3]])) ((((W.setCell ⟨w.heap.size + 1 + 1, 0, none⟩ (.bool s2)).setCell ⟨w.heap.size + 1 + 1, 1, none⟩ (.slice o2 n2 c2)).setCell ⟨w.heap.size + 1 + 1 + 1, 0, none⟩ (.bool s3)).setCell ⟨w.heap.size + 1 + 1 + 1, 1, none⟩ (.slice o3 n3 c3)) := by
  have D' := (D.setO (p := ⟨w.heap.size + 1 + 1, 0, none⟩) (by simp) (.bool s2)).setO (p := ⟨w.heap.size + 1 + 1, 1, none⟩) (by simp) (.slice o2 n2 c2)
  refine ⟨s2, o2, n2, c2, d2, s3, o3, n3, c3, d3, rfl, num_put (num_put NU C _ _) D' _ _, num_put (num_put NV C _ _) D' _ _, ?_⟩
  exact (((HB.setCell (p := ⟨w.heap.size + 1 + 1, 0, none⟩) (by simp; omega) _).setCell (p := ⟨w.heap.size + 1 + 1, 1, none⟩) (by simp; omega) _).setCell (p := ⟨w.heap.size + 1 + 1 + 1, 0, none⟩) (by simp; omega) _).setCell (p := ⟨w.heap.size + 1 + 1 + 1, 1, none⟩) (by simp; omega) _
theorem div_drawn {w W : World} {k : Nat} {x y : Int} {e : Ending} (h : Div2P k x y w e W) : Div2P k x y w e W.drew := by
  obtain ⟨s2, o2, n2, c2, d2, s3, o3, n3, c3, d3, e, h1, h2, hB⟩ := h
  exact ⟨s2, o2, n2, c2, d2, s3, o3, n3, c3, d3, e, num_drawn h1, num_drawn h2, hB.drew⟩
theorem div_alloc {w W : World} {k : Nat} {x y : Int} {e : Ending} (h : Div2P k x y w e W) (o : Obj) : Div2P k x y w e (W.alloc o) := by
  obtain ⟨s2, o2, n2, c2, d2, s3, o3, n3, c3, d3, e, h1, h2, hB⟩ := h
  exact ⟨s2, o2, n2, c2, d2, s3, o3, n3, c3, d3, e, h1.below ((Below.refl _ _).alloc (Nat.le_refl _) o), h2.below ((Below.refl _ _).alloc (Nat.le_refl _) o), hB.alloc hB.size o⟩
set_option maxRecDepth 100000 in
set_option maxHeartbeats 4000000 in
theorem div_any (s t : Bool) (ao bo : Option Addr) (n m ca cb k : Nat) (xs ys : List Int) (x y : Int) (w : World) (hx : IsNum w s ao n ca xs x k) (hy : IsNum w t bo m cb ys y k) (hk : k ≤ 9000) (hy0 : y ≠ 0) :
    Calls Tryz.prog 135 #[.agg #[.bool s, .slice ao n ca], .agg #[.bool t, .slice bo m cb]] w (Div2P k x y w) := by
  obtain ⟨Q, R, eQ, eR, hQ0, hR0, hR1, hqr⟩ := div_parts x y hy0
  have DS := div_signs hy0 hR0 hR1 hqr
  have hs : Hid (s = decide (x < 0)) := hx.neg
  have ht : Hid (t = decide (y < 0)) := hy.neg
  have A := (((Blk.new w [.bool s, .slice ao n ca] 60 rfl).alloc (.cells #[.bool t, .slice bo m cb] 60)).alloc (.cells #[.bool false, .slice none 0 0] 60)).alloc (.cells #[.bool false, .slice none 0 0] 60)
  have B := ((Blk.new (w.alloc (.cells #[.bool s, .slice ao n ca] 60)) [.bool t, .slice bo m cb] 60 (g := w.heap.size + 1) (by simp)).alloc (.cells #[.bool false, .slice none 0 0] 60)).alloc (.cells #[.bool false, .slice none 0 0] 60)
  have C := (Blk.new ((w.alloc (.cells #[.bool s, .slice ao n ca] 60)).alloc (.cells #[.bool t, .slice bo m cb] 60)) [.bool false, .slice none 0 0] 60 (g := w.heap.size + 1 + 1) (by simp)).alloc (.cells #[.bool false, .slice none 0 0] 60)
  have D := Blk.new (((w.alloc (.cells #[.bool s, .slice ao n ca] 60)).alloc (.cells #[.bool t, .slice bo m cb] 60)).alloc (.cells #[.bool false, .slice none 0 0] 60)) [.bool false, .slice none 0 0] 60 (g := w.heap.size + 1 + 1 + 1) (by simp)
  have HB0 : Below w.heap.size w ((((w.alloc (.cells #[.bool s, .slice ao n ca] 60)).alloc (.cells #[.bool t, .slice bo m cb] 60)).alloc (.cells #[.bool false, .slice none 0 0] 60)).alloc (.cells #[.bool false, .slice none 0 0] 60)) := ((((Below.refl _ _).alloc (Nat.le_refl _) _).alloc (by simp) _).alloc (by simp; omega) _).alloc (by simp; omega) _
  replace hx := hx.below HB0
  replace hy := hy.below HB0
  have hyp : 0 < val ys := by rw [hy.val]; omega
  go_enter Tryz.func135, Tryz.ntmps135
  go_wp2_with fail
  refine (divAbs_any ao bo n m ca cb xs ys _ hx.len hy.len hx.nrm hy.nrm hx.rd hy.rd hx.cap (by have := hx.le; omega) (by have := hy.le; omega) hyp).mono ?_
  rintro e w1 ⟨qo, qn, qc, qs, ro, rn, rc, rs, rfl, ⟨a1, a2, a3, a4, a5, a6⟩, ⟨b1, b2, b3, b4, b5, b6⟩, hB⟩
  rw [hx.val, hy.val] at a5 b5
  rw [eQ] at a5
  rw [eR] at b5
  have hnk := hx.le
  replace hy := hy.below hB
  replace A := A.step hB; replace B := B.step hB; replace C := C.step hB; replace D := D.step hB
  have HB1 : Below w.heap.size w w1 := HB0.trans (hB.mono HB0.size)
  clear hB HB0 hx hyp
  have p0 := A.c 0 rfl; have p1 := A.c 1 rfl; have pl := A.lt; have q0 := B.c 0 rfl; have q1 := B.c 1 rfl; have ql := B.lt
  go_wp2_with fail
  refine (trim_any _ qo qn qc qs _ a1 a2 a4.1 a6 (by omega)).mono ?_
  rintro e w2 ⟨s2, o2, n2, c2, d2, rfl, t1, t2, t3, t4, t5, t6, t7, hB⟩
  have NU : IsNum w2 s2 o2 n2 c2 d2 (if s = t then Q else -Q) (k + 1) := num_of t1 t2 (by omega) t4 (t5.trans a5) (by rw [t6, a5]) t7 (by split <;> omega) (by intro hz; cases s <;> cases t <;> simp at hz ⊢ <;> omega)
  replace b6 := b6.below hB (Nat.le_refl _)
  replace hy := hy.below hB
  replace A := A.step hB; replace B := B.step hB; replace C := C.step hB; replace D := D.step hB
  have HB2 : Below w.heap.size w w2 := HB1.trans (hB.mono HB1.size)
  clear hB HB1 t1 t2 t3 t4 t5 t6 t7 a1 a2 a3 a4 a5 a6 p0 p1 pl q0 q1 ql
  have p0 := A.c 0 rfl; have p1 := A.c 1 rfl; have pl := A.lt; have q0 := B.c 0 rfl; have q1 := B.c 1 rfl; have ql := B.lt
  have hDU := D.lt
  have U := Blk.new w2 [.bool s2, .slice o2 n2 c2] 60 rfl
  have hal : Below w2.heap.size w2 (w2.alloc (.cells #[.bool s2, .slice o2 n2 c2] 60)) := (Below.refl _ _).alloc (Nat.le_refl _) _
  replace A := A.step hal; replace B := B.step hal; replace C := C.step hal; replace D := D.step hal
  replace NU := NU.below hal
  replace hy := hy.below hal
  replace b6 := b6.below hal (Nat.le_refl _)
  replace HB2 := HB2.alloc HB2.size (.cells #[.bool s2, .slice o2 n2 c2] 60)
  clear hal
  go_wp2_with fail
  refine (trim_any s ro rn rc rs _ b1 b2 b4.1 b6 (by omega)).mono ?_
  rintro e w3 ⟨s3, o3, n3, c3, d3, rfl, t1, t2, t3, t4, t5, t6, t7, hB⟩
  have NV : IsNum w3 s3 o3 n3 c3 d3 (if s then -R else R) (k + 1) := num_of t1 t2 (by omega) t4 (t5.trans b5) (by rw [t6, b5]) t7 (by split <;> omega) (by intro hz; cases s <;> simp at hz ⊢ <;> omega)
  replace hy := hy.below hB
  replace NU := NU.below hB
  replace A := A.step hB; replace B := B.step hB; replace C := C.step hB; replace D := D.step hB; replace U := U.step hB
  have HB3 : Below w.heap.size w w3 := HB2.trans (hB.mono HB2.size)
  have hUl := U.lt; have hBl := B.lt; have hCl := C.lt; have hDl := D.lt
  have nBU : w.heap.size + 1 + 1 + 1 < w2.heap.size := hDU
  clear hB HB2 t1 t2 t3 t4 t5 t6 t7 b1 b2 b3 b4 b5 b6 p0 p1 pl q0 q1 ql
  have q0 := B.c 0 rfl; have q1 := B.c 1 rfl; have ql := B.lt; have u0 := U.c 0 rfl; have uf0 := U.f 0 rfl; have u1 := U.c 1 rfl; have uf1 := U.f 1 rfl; have ul := U.lt; have c0 := C.c 0 rfl; have cf0 := C.f 0 rfl; have c1 := C.c 1 rfl; have cf1 := C.f 1 rfl; have cl := C.lt; have d0 := D.c 0 rfl; have df0 := D.f 0 rfl; have d1 := D.c 1 rfl; have df1 := D.f 1 rfl; have dl := D.lt
  have NU3 := NU; have NV3 := NV; have C3 := C; have D3 := D; have HB3' := HB3
  have V := Blk.new w3 [.bool s3, .slice o3 n3 c3] 60 rfl
  have hal : Below w3.heap.size w3 (w3.alloc (.cells #[.bool s3, .slice o3 n3 c3] 60)) := (Below.refl _ _).alloc (Nat.le_refl _) _
  replace B := B.step hal; replace C := C.step hal; replace D := D.step hal; replace U := U.step hal
  replace NU := NU.below hal
  replace NV := NV.below hal
  replace hy := hy.below hal
  have HB4 := HB3.alloc HB3.size (.cells #[.bool s3, .slice o3 n3 c3] 60)
  have nUV : w2.heap.size < w3.heap.size := hUl
  clear hal HB3
  have hneg := NV.neg
  by_cases hv : s3 = true
  · subst hv
    have es : s = true := by
      apply Decidable.byContradiction
      intro h
      rw [Bool.eq_false_iff.2 h] at hneg
      simp at hneg
      omega
    have hRp : 0 < R := by rw [es] at hneg; simp at hneg; exact hneg
    have hx0 : x < 0 := by have := hs.out; rw [es] at this; simpa using this.symm
    subst es
    obtain ⟨-, -, -, -, D5, D6⟩ := DS
    have J : ∀ W, Below (w3.alloc (.cells #[.bool true, .slice o3 n3 c3] 60)).heap.size (w3.alloc (.cells #[.bool true, .slice o3 n3 c3] 60)) W → (Blk W (w.heap.size + 1) [.bool t, .slice bo m cb] ∧ Blk W (w.heap.size + 1 + 1) [.bool false, .slice none 0 0] ∧ Blk W (w.heap.size + 1 + 1 + 1) [.bool false, .slice none 0 0] ∧ Blk W w2.heap.size [.bool s2, .slice o2 n2 c2] ∧ Blk W w3.heap.size [.bool true, .slice o3 n3 c3]) ∧ IsNum W s2 o2 n2 c2 d2 (if true = t then Q else -Q) (k + 1) ∧ IsNum W true o3 n3 c3 d3 (-R) (k + 1) ∧ IsNum W t bo m cb ys y k ∧ Below w.heap.size w W :=
      fun W h => ⟨⟨B.step h, C.step h, D.step h, U.step h, V.step h⟩, NU.below h, by simpa using NV.below h, hy.below h, HB4.trans (h.mono HB4.size)⟩
    clear NU NV NU3 NV3 C3 D3 HB3' A B C D U V HB4 hy hneg hs
    cases t
    · have hyp : 0 < y := by have := ht.out; simp at this; omega
      go_upto_region 8 with fail
      generalize w3.alloc (.cells #[.bool true, .slice o3 n3 c3] 60) = W0 at *
      obtain ⟨⟨jb, jc, jd, ju, jv⟩, jn, jr, jy, jB⟩ := J W0 (Below.refl _ _)
      clear u0 u1 uf0 uf1 ul q0 q1 ql c0 c1 cf0 cf1 cl d0 d1 df0 df1 dl
      have u0 := ju.c 0 rfl; have uf0 := ju.f 0 rfl; have u1 := ju.c 1 rfl; have uf1 := ju.f 1 rfl; have ul := ju.lt
      go_region_with ((first
        | (go_at_call 54; refine (int_any 1 _ (by decide) (by decide)).mono ?_; rintro e w5 ⟨s5, o5, n5, c5, d5, rfl, N5, hB⟩; have K5 : Below W0.heap.size W0 w5 := ((Below.refl _ _).drew).trans hB; obtain ⟨⟨ib, ic, id', iu, iv⟩, jn5, ir, iy, iB⟩ := J w5 K5; have h0 := iu.c 0 rfl; have hf0 := iu.f 0 rfl; have h1 := iu.c 1 rfl; have hf1 := iu.f 1 rfl; have hl := iu.lt; clear hB)
        | (go_at_call 79; refine (sub_any s2 s5 o2 o5 n2 n5 c2 c5 (k + 2) d2 d5 _ _ _ (num_more jn5 (by omega)) (num_more N5 (by omega)) (by omega)).mono ?_; rintro e w6 ⟨s6, o6, n6, c6, d6, rfl, N6, hB⟩; have K6 : Below W0.heap.size W0 w6 := K5.trans (hB.mono K5.size); obtain ⟨⟨lb, lc, ld, lu, lv⟩, ln, lr, ly, lB⟩ := J w6 K6; have i0 := lu.c 0 rfl; have if0 := lu.f 0 rfl; have i1 := lu.c 1 rfl; have if1 := lu.f 1 rfl; have il := lu.lt; clear hB)))
      all_goals have g1 : w.heap.size + 1 ≠ w2.heap.size := by omega
      all_goals have g2 : w.heap.size + 1 + 1 ≠ w2.heap.size := by omega
      all_goals have g3 : w.heap.size + 1 + 1 + 1 ≠ w2.heap.size := by omega
      all_goals have g4 : w3.heap.size ≠ w2.heap.size := by omega
      all_goals have B6 := ((lb.setO (p := ⟨w2.heap.size, 0, none⟩) (by exact g1) (.bool s6)).setO (p := ⟨w2.heap.size, 1, none⟩) (by exact g1) (.slice o6 n6 c6))
      all_goals have C6 := ((lc.setO (p := ⟨w2.heap.size, 0, none⟩) (by exact g2) (.bool s6)).setO (p := ⟨w2.heap.size, 1, none⟩) (by exact g2) (.slice o6 n6 c6))
      all_goals have D6' := ((ld.setO (p := ⟨w2.heap.size, 0, none⟩) (by exact g3) (.bool s6)).setO (p := ⟨w2.heap.size, 1, none⟩) (by exact g3) (.slice o6 n6 c6))
      all_goals have V6 := ((lv.setO (p := ⟨w2.heap.size, 0, none⟩) (by exact g4) (.bool s6)).setO (p := ⟨w2.heap.size, 1, none⟩) (by exact g4) (.slice o6 n6 c6))
      all_goals have M6 := num_put N6 lu (.bool s6) (.slice o6 n6 c6)
      all_goals have R6 := num_put lr lu (.bool s6) (.slice o6 n6 c6)
      all_goals have Y6 := num_put ly lu (.bool s6) (.slice o6 n6 c6)
      all_goals have U6 := (lu.setI 0 (by simp) (.bool s6)).setI 1 (by simp) (.slice o6 n6 c6)
      all_goals have L6 := (lB.setCell (p := ⟨w2.heap.size, 0, none⟩) (by simp; omega) (.bool s6)).setCell (p := ⟨w2.heap.size, 1, none⟩) (by simp; omega) (.slice o6 n6 c6)
      all_goals clear u0 u1 uf0 uf1 ul h0 h1 hf0 hf1 hl i0 i1 if0 if1 il jb jc jd ju jv jn jr jy jB ib ic id' iu iv jn5 ir iy iB lb lc ld lu lv ln lr ly lB N5 N6 K5 K6 J
      all_goals generalize ((w6.setCell ⟨w2.heap.size, 0, none⟩ (.bool s6)).setCell ⟨w2.heap.size, 1, none⟩ (.slice o6 n6 c6)) = W6 at *
      all_goals (have v0 := V6.c 0 rfl; have v1 := V6.c 1 rfl; have vl := V6.lt; have x0 := B6.c 0 rfl; have x1 := B6.c 1 rfl; have xl := B6.lt)
      all_goals go_wp2_with fail
      all_goals refine (add_any true false o3 bo n3 m c3 cb (k + 1) d3 ys _ _ _ R6 (num_more Y6 (by omega)) (by omega)).mono ?_
      all_goals rintro e w7 ⟨s7, o7, n7, c7, d7, rfl, N7, hB⟩
      all_goals (replace C6 := C6.step hB; replace D6' := D6'.step hB; replace V6 := V6.step hB; replace U6 := U6.step hB; replace M6 := M6.below hB; replace L6 := L6.trans (hB.mono L6.size))
      all_goals clear hB v0 v1 vl x0 x1 xl
      all_goals have g5 : w.heap.size + 1 + 1 ≠ w3.heap.size := by omega
      all_goals have g6 : w.heap.size + 1 + 1 + 1 ≠ w3.heap.size := by omega
      all_goals have g7 : w2.heap.size ≠ w3.heap.size := by omega
      all_goals (have v0 := V6.c 0 rfl; have vf0 := V6.f 0 rfl; have v1 := V6.c 1 rfl; have vf1 := V6.f 1 rfl; have vl := V6.lt)
      all_goals have C7 := ((C6.setO (p := ⟨w3.heap.size, 0, none⟩) (by exact g5) (.bool s7)).setO (p := ⟨w3.heap.size, 1, none⟩) (by exact g5) (.slice o7 n7 c7))
      all_goals have D7 := ((D6'.setO (p := ⟨w3.heap.size, 0, none⟩) (by exact g6) (.bool s7)).setO (p := ⟨w3.heap.size, 1, none⟩) (by exact g6) (.slice o7 n7 c7))
      all_goals have U7 := ((U6.setO (p := ⟨w3.heap.size, 0, none⟩) (by exact g7) (.bool s7)).setO (p := ⟨w3.heap.size, 1, none⟩) (by exact g7) (.slice o7 n7 c7))
      all_goals have M7 := num_put M6 V6 (.bool s7) (.slice o7 n7 c7)
      all_goals have P7 := num_put N7 V6 (.bool s7) (.slice o7 n7 c7)
      all_goals have L7 := (L6.setCell (p := ⟨w3.heap.size, 0, none⟩) (by simp; omega) (.bool s7)).setCell (p := ⟨w3.heap.size, 1, none⟩) (by simp; omega) (.slice o7 n7 c7)
      all_goals obtain ⟨E1, E2⟩ := D5 hx0 hRp hyp
      all_goals rw [show (if true = false then Q else -Q) - 1 = x / y by rw [E1]; simp] at M7
      all_goals rw [show -R + y = x % y by rw [E2]] at P7
      all_goals have F := div_done (k := k) L7 M7 (num_more P7 (Nat.le_succ _)) C7 D7
      all_goals (have c0 := C7.c 0 rfl; have cf0 := C7.f 0 rfl; have c1 := C7.c 1 rfl; have cf1 := C7.f 1 rfl; have cl := C7.lt; have d0 := D7.c 0 rfl; have df0 := D7.f 0 rfl; have d1 := D7.c 1 rfl; have df1 := D7.f 1 rfl; have dl := D7.lt; have u0 := U7.c 0 rfl; have u1 := U7.c 1 rfl; have ul := U7.lt)
      all_goals clear C6 D6' V6 U6 M6 L6 C7 D7 U7 M7 P7 L7 N7 g1 g2 g3 g4 g5 g6 g7
      all_goals go_wp2
      all_goals go_region
      all_goals go_wp2
      all_goals refine bodyPost_ret (v := .tuple #[.agg #[.bool s6, .slice o6 n6 c6], .agg #[.bool s7, .slice o7 n7 c7]]) (by simp [results, Tryz.results135, go_sem, c0, c1, d0, d1]) rfl ?_
      all_goals exact div_drawn F
    · have hyp : y < 0 := by have := ht.out; simpa using this.symm
      go_upto_region 6 with fail
      generalize w3.alloc (.cells #[.bool true, .slice o3 n3 c3] 60) = W0 at *
      obtain ⟨⟨jb, jc, jd, ju, jv⟩, jn, jr, jy, jB⟩ := J W0 (Below.refl _ _)
      clear u0 u1 uf0 uf1 ul q0 q1 ql c0 c1 cf0 cf1 cl d0 d1 df0 df1 dl
      have u0 := ju.c 0 rfl; have uf0 := ju.f 0 rfl; have u1 := ju.c 1 rfl; have uf1 := ju.f 1 rfl; have ul := ju.lt
      go_region_with ((first
        | (go_at_call 54; refine (int_any 1 _ (by decide) (by decide)).mono ?_; rintro e w5 ⟨s5, o5, n5, c5, d5, rfl, N5, hB⟩; have K5 : Below W0.heap.size W0 w5 := ((Below.refl _ _).drew).trans hB; obtain ⟨⟨ib, ic, id', iu, iv⟩, jn5, ir, iy, iB⟩ := J w5 K5; have h0 := iu.c 0 rfl; have hf0 := iu.f 0 rfl; have h1 := iu.c 1 rfl; have hf1 := iu.f 1 rfl; have hl := iu.lt; clear hB)
        | (go_at_call 104; refine (add_any s2 s5 o2 o5 n2 n5 c2 c5 (k + 2) d2 d5 _ _ _ (num_more jn5 (by omega)) (num_more N5 (by omega)) (by omega)).mono ?_; rintro e w6 ⟨s6, o6, n6, c6, d6, rfl, N6, hB⟩; have K6 : Below W0.heap.size W0 w6 := K5.trans (hB.mono K5.size); obtain ⟨⟨lb, lc, ld, lu, lv⟩, ln, lr, ly, lB⟩ := J w6 K6; have i0 := lu.c 0 rfl; have if0 := lu.f 0 rfl; have i1 := lu.c 1 rfl; have if1 := lu.f 1 rfl; have il := lu.lt; clear hB)))
      all_goals have g1 : w.heap.size + 1 ≠ w2.heap.size := by omega
      all_goals have g2 : w.heap.size + 1 + 1 ≠ w2.heap.size := by omega
      all_goals have g3 : w.heap.size + 1 + 1 + 1 ≠ w2.heap.size := by omega
      all_goals have g4 : w3.heap.size ≠ w2.heap.size := by omega
      all_goals have B6 := ((lb.setO (p := ⟨w2.heap.size, 0, none⟩) (by exact g1) (.bool s6)).setO (p := ⟨w2.heap.size, 1, none⟩) (by exact g1) (.slice o6 n6 c6))
      all_goals have C6 := ((lc.setO (p := ⟨w2.heap.size, 0, none⟩) (by exact g2) (.bool s6)).setO (p := ⟨w2.heap.size, 1, none⟩) (by exact g2) (.slice o6 n6 c6))
      all_goals have D6' := ((ld.setO (p := ⟨w2.heap.size, 0, none⟩) (by exact g3) (.bool s6)).setO (p := ⟨w2.heap.size, 1, none⟩) (by exact g3) (.slice o6 n6 c6))
      all_goals have V6 := ((lv.setO (p := ⟨w2.heap.size, 0, none⟩) (by exact g4) (.bool s6)).setO (p := ⟨w2.heap.size, 1, none⟩) (by exact g4) (.slice o6 n6 c6))
      all_goals have M6 := num_put N6 lu (.bool s6) (.slice o6 n6 c6)
      all_goals have R6 := num_put lr lu (.bool s6) (.slice o6 n6 c6)
      all_goals have Y6 := num_put ly lu (.bool s6) (.slice o6 n6 c6)
      all_goals have U6 := (lu.setI 0 (by simp) (.bool s6)).setI 1 (by simp) (.slice o6 n6 c6)
      all_goals have L6 := (lB.setCell (p := ⟨w2.heap.size, 0, none⟩) (by simp; omega) (.bool s6)).setCell (p := ⟨w2.heap.size, 1, none⟩) (by simp; omega) (.slice o6 n6 c6)
      all_goals clear u0 u1 uf0 uf1 ul h0 h1 hf0 hf1 hl i0 i1 if0 if1 il jb jc jd ju jv jn jr jy jB ib ic id' iu iv jn5 ir iy iB lb lc ld lu lv ln lr ly lB N5 N6 K5 K6 J
      all_goals generalize ((w6.setCell ⟨w2.heap.size, 0, none⟩ (.bool s6)).setCell ⟨w2.heap.size, 1, none⟩ (.slice o6 n6 c6)) = W6 at *
      all_goals (have v0 := V6.c 0 rfl; have v1 := V6.c 1 rfl; have vl := V6.lt; have x0 := B6.c 0 rfl; have x1 := B6.c 1 rfl; have xl := B6.lt)
      all_goals go_wp2_with fail
      all_goals refine (sub_any true true o3 bo n3 m c3 cb (k + 1) d3 ys _ _ _ R6 (num_more Y6 (by omega)) (by omega)).mono ?_
      all_goals rintro e w7 ⟨s7, o7, n7, c7, d7, rfl, N7, hB⟩
      all_goals (replace C6 := C6.step hB; replace D6' := D6'.step hB; replace V6 := V6.step hB; replace U6 := U6.step hB; replace M6 := M6.below hB; replace L6 := L6.trans (hB.mono L6.size))
      all_goals clear hB v0 v1 vl x0 x1 xl
      all_goals have g5 : w.heap.size + 1 + 1 ≠ w3.heap.size := by omega
      all_goals have g6 : w.heap.size + 1 + 1 + 1 ≠ w3.heap.size := by omega
      all_goals have g7 : w2.heap.size ≠ w3.heap.size := by omega
      all_goals (have v0 := V6.c 0 rfl; have vf0 := V6.f 0 rfl; have v1 := V6.c 1 rfl; have vf1 := V6.f 1 rfl; have vl := V6.lt)
      all_goals have C7 := ((C6.setO (p := ⟨w3.heap.size, 0, none⟩) (by exact g5) (.bool s7)).setO (p := ⟨w3.heap.size, 1, none⟩) (by exact g5) (.slice o7 n7 c7))
      all_goals have D7 := ((D6'.setO (p := ⟨w3.heap.size, 0, none⟩) (by exact g6) (.bool s7)).setO (p := ⟨w3.heap.size, 1, none⟩) (by exact g6) (.slice o7 n7 c7))
      all_goals have U7 := ((U6.setO (p := ⟨w3.heap.size, 0, none⟩) (by exact g7) (.bool s7)).setO (p := ⟨w3.heap.size, 1, none⟩) (by exact g7) (.slice o7 n7 c7))
      all_goals have M7 := num_put M6 V6 (.bool s7) (.slice o7 n7 c7)
      all_goals have P7 := num_put N7 V6 (.bool s7) (.slice o7 n7 c7)
      all_goals have L7 := (L6.setCell (p := ⟨w3.heap.size, 0, none⟩) (by simp; omega) (.bool s7)).setCell (p := ⟨w3.heap.size, 1, none⟩) (by simp; omega) (.slice o7 n7 c7)
      all_goals obtain ⟨E1, E2⟩ := D6 hx0 hRp hyp
      all_goals rw [show (if True then Q else -Q) + 1 = x / y by rw [E1]; simp] at M7
      all_goals rw [show -R - y = x % y by rw [E2]] at P7
      all_goals have F := div_done (k := k) L7 M7 (num_more P7 (Nat.le_succ _)) C7 D7
      all_goals (have c0 := C7.c 0 rfl; have cf0 := C7.f 0 rfl; have c1 := C7.c 1 rfl; have cf1 := C7.f 1 rfl; have cl := C7.lt; have d0 := D7.c 0 rfl; have df0 := D7.f 0 rfl; have d1 := D7.c 1 rfl; have df1 := D7.f 1 rfl; have dl := D7.lt; have u0 := U7.c 0 rfl; have u1 := U7.c 1 rfl; have ul := U7.lt)
      all_goals clear C6 D6' V6 U6 M6 L6 C7 D7 U7 M7 P7 L7 N7 g1 g2 g3 g4 g5 g6 g7
      all_goals go_wp2
      all_goals go_region
      all_goals go_wp2
      all_goals refine bodyPost_ret (v := .tuple #[.agg #[.bool s6, .slice o6 n6 c6], .agg #[.bool s7, .slice o7 n7 c7]]) (by simp [results, Tryz.results135, go_sem, c0, c1, d0, d1]) rfl ?_
      all_goals exact div_drawn F
  · have hv := Bool.eq_false_iff.2 hv
    subst hv
    have hres : (if s = t then Q else -Q) = x / y ∧ (if s then -R else R) = x % y := by
      have hs := hs.out
      have ht := ht.out
      obtain ⟨D1, D2, D3, D4, -, -⟩ := DS
      by_cases hx0 : x < 0
      · have es : s = true := by rw [hs]; simp [hx0]
        have hR : R = 0 := by rw [es] at hneg; simp at hneg; omega
        by_cases hy1 : y < 0
        · have et : t = true := by rw [ht]; simp [hy1]
          obtain ⟨e1, e2⟩ := D4 hx0 hR hy1
          rw [e1, e2, es, et, hR]; simp
        · have et : t = false := by rw [ht]; simp [hy1]
          obtain ⟨e1, e2⟩ := D3 hx0 hR (by omega)
          rw [e1, e2, es, et, hR]; simp
      · have es : s = false := by rw [hs]; simp [hx0]
        by_cases hy1 : y < 0
        · have et : t = true := by rw [ht]; simp [hy1]
          obtain ⟨e1, e2⟩ := D2 (by omega) hy1
          rw [e1, e2, es, et]; simp
        · have et : t = false := by rw [ht]; simp [hy1]
          obtain ⟨e1, e2⟩ := D1 (by omega) (by omega)
          rw [e1, e2, es, et]; simp
    rw [hres.1] at NU3
    rw [hres.2] at NV3
    have F := div_alloc (div_done HB3' (num_more NU3 (Nat.add_le_add_left (by decide) k)) (num_more NV3 (Nat.add_le_add_left (by decide) k)) C3 D3) (.cells #[.bool false, .slice o3 n3 c3] 60)
    clear hres hneg DS NU NV NU3 NV3 C3 D3 HB3' A B C D U V HB4
    go_wp2
    go_region
    all_goals go_wp2
    all_goals refine bodyPost_ret (v := .tuple #[.agg #[.bool s2, .slice o2 n2 c2], .agg #[.bool false, .slice o3 n3 c3]]) (by simp [results, Tryz.results135, go_sem, World.cell?_alloc_past, c0, c1, d0, d1, cl, dl]) rfl ?_
    all_goals exact div_drawn F
end Go.Proofs.YtibbjjlapglndaaGreat

/- Points: the model's numbers of a point, and whether it is right. -/
namespace Go.Proofs.YtibbjjlapglndaaGreat
open Go.RowKit
theorem from_det (x : Int) (hx : told x = true) (w : World) : Calls Tryz.prog 59 #[W4 x] w (NumP 8 x w) := by
  obtain ⟨p3, p2, p1, p0⟩ := ww_words x
  have h := from_any (ww3 x) (ww2 x) (ww1 x) (ww0 x) p3 p2 p1 p0 w
  rw [ww_sw hx] at h
  exact h
theorem ArgsB.set6g {w W : World} {vss : List (List Value)} (h : ArgsB w W vss) {g : Nat} (hg : w.heap.size + vss.length ≤ g) (v0 v1 v2 v3 v4 v5 : Value) : ArgsB w ((((((W.setCell ⟨g, 0, none⟩ v0).setCell ⟨g, 1, none⟩ v1).setCell ⟨g, 2, none⟩ v2).setCell ⟨g, 3, none⟩ v3).setCell ⟨g, 4, none⟩ v4).setCell ⟨g, 5, none⟩ v5) vss := (((((h.set (by exact hg) _).set (by exact hg) _).set (by exact hg) _).set (by exact hg) _).set (by exact hg) _).set (by exact hg) _
theorem l3o_cells {x y z : Int} {w W : World} (T0 : ArgsB w W [[.int .u64 (ww3 x), .int .u64 (ww2 x), .int .u64 (ww1 x), .int .u64 (ww0 x), .int .u64 (ww3 y), .int .u64 (ww2 y), .int .u64 (ww1 y), .int .u64 (ww0 y), .int .u64 (ww3 z), .int .u64 (ww2 z), .int .u64 (ww1 z), .int .u64 (ww0 z)]]) : (fun w' => w'.cell? ⟨w.heap.size, 0, none⟩ = some (.int .u64 (ww3 x)) ∧ w'.cell? ⟨w.heap.size, 1, none⟩ = some (.int .u64 (ww2 x)) ∧ w'.cell? ⟨w.heap.size, 2, none⟩ = some (.int .u64 (ww1 x)) ∧ w'.cell? ⟨w.heap.size, 3, none⟩ = some (.int .u64 (ww0 x)) ∧ w'.cell? ⟨w.heap.size, 4, none⟩ = some (.int .u64 (ww3 y)) ∧ w'.cell? ⟨w.heap.size, 5, none⟩ = some (.int .u64 (ww2 y)) ∧ w'.cell? ⟨w.heap.size, 6, none⟩ = some (.int .u64 (ww1 y)) ∧ w'.cell? ⟨w.heap.size, 7, none⟩ = some (.int .u64 (ww0 y)) ∧ w'.cell? ⟨w.heap.size, 8, none⟩ = some (.int .u64 (ww3 z)) ∧ w'.cell? ⟨w.heap.size, 9, none⟩ = some (.int .u64 (ww2 z)) ∧ w'.cell? ⟨w.heap.size, 10, none⟩ = some (.int .u64 (ww1 z)) ∧ w'.cell? ⟨w.heap.size, 11, none⟩ = some (.int .u64 (ww0 z))) W := ⟨(T0.b 0 rfl).c 0 rfl, (T0.b 0 rfl).c 1 rfl, (T0.b 0 rfl).c 2 rfl, (T0.b 0 rfl).c 3 rfl, (T0.b 0 rfl).c 4 rfl, (T0.b 0 rfl).c 5 rfl, (T0.b 0 rfl).c 6 rfl, (T0.b 0 rfl).c 7 rfl, (T0.b 0 rfl).c 8 rfl, (T0.b 0 rfl).c 9 rfl, (T0.b 0 rfl).c 10 rfl, (T0.b 0 rfl).c 11 rfl⟩
set_option maxRecDepth 100000 in
set_option maxHeartbeats 2000000 in
theorem l3Of_det (x y z : Int) (hx : told x = true) (hy : told y = true) (hz : told z = true) (w : World) : Calls Tryz.prog 29 #[PV x y z] w (L3P 8 x y z w) := by
  have T5 : ArgsB w ((w.alloc (.cells #[.int .u64 (ww3 x), .int .u64 (ww2 x), .int .u64 (ww1 x), .int .u64 (ww0 x), .int .u64 (ww3 y), .int .u64 (ww2 y), .int .u64 (ww1 y), .int .u64 (ww0 y), .int .u64 (ww3 z), .int .u64 (ww2 z), .int .u64 (ww1 z), .int .u64 (ww0 z)] 38)).alloc (.cells #[.bool false, .slice none 0 0, .bool false, .slice none 0 0, .bool false, .slice none 0 0] 62)) [[.int .u64 (ww3 x), .int .u64 (ww2 x), .int .u64 (ww1 x), .int .u64 (ww0 x), .int .u64 (ww3 y), .int .u64 (ww2 y), .int .u64 (ww1 y), .int .u64 (ww0 y), .int .u64 (ww3 z), .int .u64 (ww2 z), .int .u64 (ww1 z), .int .u64 (ww0 z)], [.bool false, .slice none 0 0, .bool false, .slice none 0 0, .bool false, .slice none 0 0]] := ar2 _ _ _ _ w
  have R0 := T5.b 1 rfl
  have T0 : ArgsB w _ [[.int .u64 (ww3 x), .int .u64 (ww2 x), .int .u64 (ww1 x), .int .u64 (ww0 x), .int .u64 (ww3 y), .int .u64 (ww2 y), .int .u64 (ww1 y), .int .u64 (ww0 y), .int .u64 (ww3 z), .int .u64 (ww2 z), .int .u64 (ww1 z), .int .u64 (ww0 z)]] := T5.left (vs := [[.bool false, .slice none 0 0, .bool false, .slice none 0 0, .bool false, .slice none 0 0]])
  clear T5
  have F1 := from_det x hx
  have F2 := from_det y hy
  have F3 := from_det z hz
  clear hx hy hz
  have tok1 : True := trivial
  have tok2 : True := trivial
  go_enter Tryz.func29, Tryz.ntmps29
  go_upto_region 1 with fail
  generalize ((w.alloc (.cells #[.int .u64 (ww3 x), .int .u64 (ww2 x), .int .u64 (ww1 x), .int .u64 (ww0 x), .int .u64 (ww3 y), .int .u64 (ww2 y), .int .u64 (ww1 y), .int .u64 (ww0 y), .int .u64 (ww3 z), .int .u64 (ww2 z), .int .u64 (ww1 z), .int .u64 (ww0 z)] 38)).alloc (.cells #[.bool false, .slice none 0 0, .bool false, .slice none 0 0, .bool false, .slice none 0 0] 62)) = W at *
  go_region_held3 (fun w' => w'.cell? ⟨w.heap.size, 0, none⟩ = some (.int .u64 (ww3 x)) ∧ w'.cell? ⟨w.heap.size, 1, none⟩ = some (.int .u64 (ww2 x)) ∧ w'.cell? ⟨w.heap.size, 2, none⟩ = some (.int .u64 (ww1 x)) ∧ w'.cell? ⟨w.heap.size, 3, none⟩ = some (.int .u64 (ww0 x)) ∧ w'.cell? ⟨w.heap.size, 4, none⟩ = some (.int .u64 (ww3 y)) ∧ w'.cell? ⟨w.heap.size, 5, none⟩ = some (.int .u64 (ww2 y)) ∧ w'.cell? ⟨w.heap.size, 6, none⟩ = some (.int .u64 (ww1 y)) ∧ w'.cell? ⟨w.heap.size, 7, none⟩ = some (.int .u64 (ww0 y)) ∧ w'.cell? ⟨w.heap.size, 8, none⟩ = some (.int .u64 (ww3 z)) ∧ w'.cell? ⟨w.heap.size, 9, none⟩ = some (.int .u64 (ww2 z)) ∧ w'.cell? ⟨w.heap.size, 10, none⟩ = some (.int .u64 (ww1 z)) ∧ w'.cell? ⟨w.heap.size, 11, none⟩ = some (.int .u64 (ww0 z))) ((refine l3o_cells ?_ <;> repeat (first | (with_reducible exact T0) | (with_reducible refine ArgsB.drew ?_) | (with_reducible refine ArgsB.set6g ?_ (by simp; try omega) _ _ _ _ _ _))))
    (first
      | (go_at_call 59; have _t := tok1; refine (F1 _).mono ?_; rintro e w1 ⟨s1, o1, n1, c1, d1, rfl, N1, hB⟩; (first | (have T1 : ArgsB w w1 [[.int .u64 (ww3 x), .int .u64 (ww2 x), .int .u64 (ww1 x), .int .u64 (ww0 x), .int .u64 (ww3 y), .int .u64 (ww2 y), .int .u64 (ww1 y), .int .u64 (ww0 y), .int .u64 (ww3 z), .int .u64 (ww2 z), .int .u64 (ww1 z), .int .u64 (ww0 z)]] := (by with_reducible exact T0.step hB); have tltw1 := (T0.b 0 rfl).lt; have lR0w1 := R0.lt; replace R0 := R0.step hB; skip) | (have T1 : ArgsB w w1 [[.int .u64 (ww3 x), .int .u64 (ww2 x), .int .u64 (ww1 x), .int .u64 (ww0 x), .int .u64 (ww3 y), .int .u64 (ww2 y), .int .u64 (ww1 y), .int .u64 (ww0 y), .int .u64 (ww3 z), .int .u64 (ww2 z), .int .u64 (ww1 z), .int .u64 (ww0 z)]] := (by with_reducible exact T0.drew.step hB); have tltw1 := (T0.b 0 rfl).lt; have lR0w1 := R0.lt; replace R0 := R0.drew.step hB; skip)); clear T0; have T0 := T1; clear T1; clear hB tok1 _t)
      | (go_at_call 59; have _t := tok2; refine (F2 _).mono ?_; rintro e w2 ⟨s2, o2, n2, c2, d2, rfl, N2, hB⟩; (first | (replace N1 := N1.below hB; skip) | (replace N1 := N1.drew.below hB; skip)); (first | (have T1 : ArgsB w w2 [[.int .u64 (ww3 x), .int .u64 (ww2 x), .int .u64 (ww1 x), .int .u64 (ww0 x), .int .u64 (ww3 y), .int .u64 (ww2 y), .int .u64 (ww1 y), .int .u64 (ww0 y), .int .u64 (ww3 z), .int .u64 (ww2 z), .int .u64 (ww1 z), .int .u64 (ww0 z)]] := (by with_reducible exact T0.step hB); have tltw2 := (T0.b 0 rfl).lt; have lR0w2 := R0.lt; replace R0 := R0.step hB; skip) | (have T1 : ArgsB w w2 [[.int .u64 (ww3 x), .int .u64 (ww2 x), .int .u64 (ww1 x), .int .u64 (ww0 x), .int .u64 (ww3 y), .int .u64 (ww2 y), .int .u64 (ww1 y), .int .u64 (ww0 y), .int .u64 (ww3 z), .int .u64 (ww2 z), .int .u64 (ww1 z), .int .u64 (ww0 z)]] := (by with_reducible exact T0.drew.step hB); have tltw2 := (T0.b 0 rfl).lt; have lR0w2 := R0.lt; replace R0 := R0.drew.step hB; skip)); clear T0; have T0 := T1; clear T1; clear hB tok2 _t)
      | (go_at_call 59; refine (F3 _).mono ?_; rintro e w3 ⟨s3, o3, n3, c3, d3, rfl, N3, hB⟩; (first | (replace N1 := N1.below hB; replace N2 := N2.below hB; skip) | (replace N1 := N1.drew.below hB; replace N2 := N2.drew.below hB; skip)); (first | (have T1 : ArgsB w w3 [[.int .u64 (ww3 x), .int .u64 (ww2 x), .int .u64 (ww1 x), .int .u64 (ww0 x), .int .u64 (ww3 y), .int .u64 (ww2 y), .int .u64 (ww1 y), .int .u64 (ww0 y), .int .u64 (ww3 z), .int .u64 (ww2 z), .int .u64 (ww1 z), .int .u64 (ww0 z)]] := (by with_reducible exact T0.step hB); have tltw3 := (T0.b 0 rfl).lt; have lR0w3 := R0.lt; replace R0 := R0.step hB; skip) | (have T1 : ArgsB w w3 [[.int .u64 (ww3 x), .int .u64 (ww2 x), .int .u64 (ww1 x), .int .u64 (ww0 x), .int .u64 (ww3 y), .int .u64 (ww2 y), .int .u64 (ww1 y), .int .u64 (ww0 y), .int .u64 (ww3 z), .int .u64 (ww2 z), .int .u64 (ww1 z), .int .u64 (ww0 z)]] := (by with_reducible exact T0.drew.step hB); have tltw3 := (T0.b 0 rfl).lt; have lR0w3 := R0.lt; replace R0 := R0.drew.step hB; skip)); clear T0; have T0 := T1; clear T1; clear hB; have rc0 := R0.c 0 rfl; have rf0 := R0.f 0 rfl; have rc1 := R0.c 1 rfl; have rf1 := R0.f 1 rfl; have rc2 := R0.c 2 rfl; have rf2 := R0.f 2 rfl; have rc3 := R0.c 3 rfl; have rf3 := R0.f 3 rfl; have rc4 := R0.c 4 rfl; have rf4 := R0.f 4 rfl; have rc5 := R0.c 5 rfl; have rf5 := R0.f 5 rfl; have rl := R0.lt))
  all_goals have HB := T0.below
  all_goals have M1 := num_set6 N1 R0 (.bool s1) (.slice o1 n1 c1) (.bool s2) (.slice o2 n2 c2) (.bool s3) (.slice o3 n3 c3)
  all_goals have M2 := num_set6 N2 R0 (.bool s1) (.slice o1 n1 c1) (.bool s2) (.slice o2 n2 c2) (.bool s3) (.slice o3 n3 c3)
  all_goals have M3 := num_set6 N3 R0 (.bool s1) (.slice o1 n1 c1) (.bool s2) (.slice o2 n2 c2) (.bool s3) (.slice o3 n3 c3)
  all_goals clear T0 R0 N1 N2 N3 F1 F2 F3
  all_goals go_wp2
  all_goals refine bodyPost_ret (v := .agg #[.bool s1, .slice o1 n1 c1, .bool s2, .slice o2 n2 c2, .bool s3, .slice o3 n3 c3]) (by simp [results, Tryz.results29, go_sem, rc0, rc1, rc2, rc3, rc4, rc5]) rfl ?_
  all_goals refine ⟨s1, o1, n1, c1, d1, s2, o2, n2, c2, d2, s3, o3, n3, c3, d3, rfl, by first | exact M1 | exact M1.drew, by first | exact M2 | exact M2.drew, by first | exact M3 | exact M3.drew, ?_⟩
  all_goals repeat' (refine Below.setCell ?_ (by simp; try omega) _)
  all_goals first | exact HB | exact HB.drew
end Go.Proofs.YtibbjjlapglndaaGreat
