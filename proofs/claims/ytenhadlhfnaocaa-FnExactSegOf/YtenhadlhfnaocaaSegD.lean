/- The law on segments of two spots: the walk. -/
import Derived.Test.YtenhadlhfnaocaaSegC
import Derived.Deep.RegionHeld3
import Derived.Deep.DeepCutAuto
namespace Go.Proofs.Ytenhadlhfnaocaa
open Go.RowKit
theorem eqSpot_same (x y : Int) (w : World) : Calls Try.prog 21 #[Sp x y, Sp x y] w (BoolP true w) := by
  go_enter Try.func21, Try.ntmps21
  go_wp2
  go_ret
  exact ⟨rfl, ((Below.refl _ _).alloc (Nat.le_refl _) _).alloc (by simp) _⟩
set_option maxRecDepth 100000 in
theorem eqSeg_same (a b c d : Int) (w : World) : Calls Try.prog 15 #[Sg a b c d, Sg a b c d] w (BoolP true w) := by
  have B0 := (Blk.new w [.int .i64 a, .int .i64 b, .int .i64 c, .int .i64 d] 32 rfl).alloc (.cells #[.int .i64 a, .int .i64 b, .int .i64 c, .int .i64 d] 32)
  have B1 := Blk.new (w.alloc (.cells #[.int .i64 a, .int .i64 b, .int .i64 c, .int .i64 d] 32)) [.int .i64 a, .int .i64 b, .int .i64 c, .int .i64 d] 32 (g := w.heap.size + 1) (by simp)
  have HB0 := ((Below.refl _ w).alloc (Nat.le_refl _) (.cells #[.int .i64 a, .int .i64 b, .int .i64 c, .int .i64 d] 32)).alloc (by simp) (.cells #[.int .i64 a, .int .i64 b, .int .i64 c, .int .i64 d] 32)
  go_enter Try.func15, Try.ntmps15
  go_wp2_with fail
  refine (eqSpot_same _ _ _).mono ?_
  rintro e w1 ⟨rfl, hB⟩
  replace B0 := B0.step hB; replace B1 := B1.step hB
  have HB : Below w.heap.size w w1 := HB0.trans (hB.mono HB0.size)
  clear hB HB0
  have p2 := B0.c 2 rfl; have p3 := B0.c 3 rfl; have q2 := B1.c 2 rfl; have q3 := B1.c 3 rfl
  go_wp2_with fail
  refine (eqSpot_same _ _ _).mono ?_
  rintro e w2 ⟨rfl, hB⟩
  have HB2 : Below w.heap.size w w2 := HB.trans (hB.mono HB.size)
  clear hB HB
  go_wp2
  go_ret
  exact ⟨rfl, HB2⟩
set_option maxRecDepth 100000 in
theorem lawSegOf0_cells {x y u v : Int} {w W : World} (h : ArgsB w W [[.int .i64 x, .int .i64 y], [.int .i64 u, .int .i64 v]]) : (fun w' => w'.cell? ⟨w.heap.size, 0, none⟩ = some (.int .i64 x) ∧ w'.cell? ⟨w.heap.size, 1, none⟩ = some (.int .i64 y) ∧ w'.cell? ⟨w.heap.size + 1, 0, none⟩ = some (.int .i64 u) ∧ w'.cell? ⟨w.heap.size + 1, 1, none⟩ = some (.int .i64 v)) W :=
  ⟨(h.b 0 rfl).c 0 rfl, (h.b 0 rfl).c 1 rfl, (h.b 1 rfl).c 0 rfl, (h.b 1 rfl).c 1 rfl⟩
theorem lawSegOf0_start (x y u v : Int) (w : World) : ArgsB w ((w.alloc (.cells #[.int .i64 x, .int .i64 y] 23)).alloc (.cells #[.int .i64 u, .int .i64 v] 23)) [[.int .i64 x, .int .i64 y], [.int .i64 u, .int .i64 v]] := by
  refine ⟨?_, fun j vs hj => ?_⟩
  · exact ((Below.refl _ _).alloc (Nat.le_refl _) _).alloc (by simp) _
  · match j, hj with
    | 0, hj => cases hj; exact ((Blk.new w [.int .i64 x, .int .i64 y] 23 (g := w.heap.size + 0) (by simp)).alloc _)
    | 1, hj => cases hj; exact (Blk.new (w.alloc (.cells #[.int .i64 x, .int .i64 y] 23)) [.int .i64 u, .int .i64 v] 23 (g := w.heap.size + 1) (by simp))
    | j + 2, hj => simp at hj
set_option maxRecDepth 100000 in
set_option maxHeartbeats 4000000 in
theorem lawSegOf0 (x y u v A B C D : Int) (l k : Bool) (hl : lessI u v x y = l) (hk : segOk A B C D = k) (hA : cond l u x = A) (hB0 : cond l v y = B) (hC : cond l x u = C) (hD : cond l y v = D) (w : World) :
    Calls Try.prog 5 #[.agg #[.int .i64 x, .int .i64 y], .agg #[.int .i64 u, .int .i64 v]] w (BoolP true w) := by
  have T0 := lawSegOf0_start x y u v w
  have tok0 : True := trivial
  go_enter Try.func5, Try.ntmps5
  go_upto_region 1 with fail
  generalize ((w.alloc (.cells #[.int .i64 x, .int .i64 y] 23)).alloc (.cells #[.int .i64 u, .int .i64 v] 23)) = W at *
  go_cut [5, 6] (fun p q wx => CutB w wx [[.int .i64 x, .int .i64 y], [.int .i64 u, .int .i64 v]] [.int .i64 (cond k A 0), .int .i64 (cond k B 0), .int .i64 (cond k C 0), .int .i64 (cond k D 0)] p ∧ q = .bool k)
  case first =>
    go_region_held3 (fun w' => w'.cell? ⟨w.heap.size, 0, none⟩ = some (.int .i64 x) ∧ w'.cell? ⟨w.heap.size, 1, none⟩ = some (.int .i64 y) ∧ w'.cell? ⟨w.heap.size + 1, 0, none⟩ = some (.int .i64 u) ∧ w'.cell? ⟨w.heap.size + 1, 1, none⟩ = some (.int .i64 v)) (first | (with_reducible exact lawSegOf0_cells T0) | (with_reducible exact lawSegOf0_cells T0.drew) | (with_reducible exact lawSegOf0_cells (T0.alloc _)) | (with_reducible exact lawSegOf0_cells (T0.alloc _).drew) | (with_reducible exact lawSegOf0_cells (((((T0).set (by simp; omega) _).set (by simp; omega) _).set (by simp; omega) _).set (by simp; omega) _)))
      (first
        | (go_at_call 8; have _t := tok0; refine (toSpot_any x y _).mono ?_; rintro e w1 ⟨rfl, hB⟩; (first | (have T1 : ArgsB w w1 [[.int .i64 x, .int .i64 y], [.int .i64 u, .int .i64 v]] := (by with_reducible exact T0.step hB); try (replace G0 := G0.step hB; have z0c := G0.c 0 rfl; have z0f := G0.f 0 rfl; have z1c := G0.c 1 rfl; have z1f := G0.f 1 rfl; have z2c := G0.c 2 rfl; have z2f := G0.f 2 rfl; have z3c := G0.c 3 rfl; have z3f := G0.f 3 rfl; have zlt := G0.lt)) | (have T1 : ArgsB w w1 [[.int .i64 x, .int .i64 y], [.int .i64 u, .int .i64 v]] := (by with_reducible exact T0.drew.step hB); try (replace G0 := G0.step hB; have z0c := G0.c 0 rfl; have z0f := G0.f 0 rfl; have z1c := G0.c 1 rfl; have z1f := G0.f 1 rfl; have z2c := G0.c 2 rfl; have z2f := G0.f 2 rfl; have z3c := G0.c 3 rfl; have z3f := G0.f 3 rfl; have zlt := G0.lt)) | (have T1 : ArgsB w w1 [[.int .i64 x, .int .i64 y], [.int .i64 u, .int .i64 v]] := (by with_reducible exact (T0.alloc _).step hB); have hg := (T0.b 1 rfl).lt; have G0 := (Blk.new _ [.int .i64 0, .int .i64 0, .int .i64 0, .int .i64 0] _ rfl).step hB; have z0c := G0.c 0 rfl; have z0f := G0.f 0 rfl; have z1c := G0.c 1 rfl; have z1f := G0.f 1 rfl; have z2c := G0.c 2 rfl; have z2f := G0.f 2 rfl; have z3c := G0.c 3 rfl; have z3f := G0.f 3 rfl; have zlt := G0.lt) | (have T1 : ArgsB w w1 [[.int .i64 x, .int .i64 y], [.int .i64 u, .int .i64 v]] := (by with_reducible exact (T0.alloc _).drew.step hB); have hg := (T0.b 1 rfl).lt; have G0 := (Blk.new _ [.int .i64 0, .int .i64 0, .int .i64 0, .int .i64 0] _ rfl).drew.step hB; have z0c := G0.c 0 rfl; have z0f := G0.f 0 rfl; have z1c := G0.c 1 rfl; have z1f := G0.f 1 rfl; have z2c := G0.c 2 rfl; have z2f := G0.f 2 rfl; have z3c := G0.c 3 rfl; have z3f := G0.f 3 rfl; have zlt := G0.lt)); clear T0; have T0 := T1; clear T1; clear tok0 _t hB)
        | (go_at_call 8; refine (toSpot_any u v _).mono ?_; rintro e w2 ⟨rfl, hB⟩; (first | (have T1 : ArgsB w w2 [[.int .i64 x, .int .i64 y], [.int .i64 u, .int .i64 v]] := (by with_reducible exact T0.step hB); try (replace G0 := G0.step hB; have z0c := G0.c 0 rfl; have z0f := G0.f 0 rfl; have z1c := G0.c 1 rfl; have z1f := G0.f 1 rfl; have z2c := G0.c 2 rfl; have z2f := G0.f 2 rfl; have z3c := G0.c 3 rfl; have z3f := G0.f 3 rfl; have zlt := G0.lt)) | (have T1 : ArgsB w w2 [[.int .i64 x, .int .i64 y], [.int .i64 u, .int .i64 v]] := (by with_reducible exact T0.drew.step hB); try (replace G0 := G0.step hB; have z0c := G0.c 0 rfl; have z0f := G0.f 0 rfl; have z1c := G0.c 1 rfl; have z1f := G0.f 1 rfl; have z2c := G0.c 2 rfl; have z2f := G0.f 2 rfl; have z3c := G0.c 3 rfl; have z3f := G0.f 3 rfl; have zlt := G0.lt)) | (have T1 : ArgsB w w2 [[.int .i64 x, .int .i64 y], [.int .i64 u, .int .i64 v]] := (by with_reducible exact (T0.alloc _).step hB); have hg := (T0.b 1 rfl).lt; have G0 := (Blk.new _ [.int .i64 0, .int .i64 0, .int .i64 0, .int .i64 0] _ rfl).step hB; have z0c := G0.c 0 rfl; have z0f := G0.f 0 rfl; have z1c := G0.c 1 rfl; have z1f := G0.f 1 rfl; have z2c := G0.c 2 rfl; have z2f := G0.f 2 rfl; have z3c := G0.c 3 rfl; have z3f := G0.f 3 rfl; have zlt := G0.lt) | (have T1 : ArgsB w w2 [[.int .i64 x, .int .i64 y], [.int .i64 u, .int .i64 v]] := (by with_reducible exact (T0.alloc _).drew.step hB); have hg := (T0.b 1 rfl).lt; have G0 := (Blk.new _ [.int .i64 0, .int .i64 0, .int .i64 0, .int .i64 0] _ rfl).drew.step hB; have z0c := G0.c 0 rfl; have z0f := G0.f 0 rfl; have z1c := G0.c 1 rfl; have z1f := G0.f 1 rfl; have z2c := G0.c 2 rfl; have z2f := G0.f 2 rfl; have z3c := G0.c 3 rfl; have z3f := G0.f 3 rfl; have zlt := G0.lt)); clear T0; have T0 := T1; clear T1; clear hB)
        | (go_at_call 13; refine (specSegOf_any x y u v A B C D l k hl hk hA hB0 hC hD _).mono ?_; rintro e w9 ⟨rfl, hB⟩; (first | (have T1 : ArgsB w w9 [[.int .i64 x, .int .i64 y], [.int .i64 u, .int .i64 v]] := (by with_reducible exact T0.step hB); try (replace G0 := G0.step hB; have z0c := G0.c 0 rfl; have z0f := G0.f 0 rfl; have z1c := G0.c 1 rfl; have z1f := G0.f 1 rfl; have z2c := G0.c 2 rfl; have z2f := G0.f 2 rfl; have z3c := G0.c 3 rfl; have z3f := G0.f 3 rfl; have zlt := G0.lt)) | (have T1 : ArgsB w w9 [[.int .i64 x, .int .i64 y], [.int .i64 u, .int .i64 v]] := (by with_reducible exact T0.drew.step hB); try (replace G0 := G0.step hB; have z0c := G0.c 0 rfl; have z0f := G0.f 0 rfl; have z1c := G0.c 1 rfl; have z1f := G0.f 1 rfl; have z2c := G0.c 2 rfl; have z2f := G0.f 2 rfl; have z3c := G0.c 3 rfl; have z3f := G0.f 3 rfl; have zlt := G0.lt)) | (have T1 : ArgsB w w9 [[.int .i64 x, .int .i64 y], [.int .i64 u, .int .i64 v]] := (by with_reducible exact (T0.alloc _).step hB); have hg := (T0.b 1 rfl).lt; have G0 := (Blk.new _ [.int .i64 0, .int .i64 0, .int .i64 0, .int .i64 0] _ rfl).step hB; have z0c := G0.c 0 rfl; have z0f := G0.f 0 rfl; have z1c := G0.c 1 rfl; have z1f := G0.f 1 rfl; have z2c := G0.c 2 rfl; have z2f := G0.f 2 rfl; have z3c := G0.c 3 rfl; have z3f := G0.f 3 rfl; have zlt := G0.lt) | (have T1 : ArgsB w w9 [[.int .i64 x, .int .i64 y], [.int .i64 u, .int .i64 v]] := (by with_reducible exact (T0.alloc _).drew.step hB); have hg := (T0.b 1 rfl).lt; have G0 := (Blk.new _ [.int .i64 0, .int .i64 0, .int .i64 0, .int .i64 0] _ rfl).drew.step hB; have z0c := G0.c 0 rfl; have z0f := G0.f 0 rfl; have z1c := G0.c 1 rfl; have z1f := G0.f 1 rfl; have z2c := G0.c 2 rfl; have z2f := G0.f 2 rfl; have z3c := G0.c 3 rfl; have z3f := G0.f 3 rfl; have zlt := G0.lt)); clear T0; have T0 := T1; clear T1; clear hB))
    all_goals go_wp2_with fail
    all_goals go_meet
    all_goals refine ⟨?_, rfl⟩
    all_goals first | (with_reducible exact cutB_new T0 T0.len2) | (with_reducible exact cutB_set4 T0 G0 (by simp; omega)) | exact (cutB_new T0 T0.len2).drew | exact (cutB_set4 T0 G0 (by simp; omega)).drew
  case rest =>
    clear T0
    obtain ⟨⟨g, hp, hg0, T0, L0⟩, hq⟩ := hcut
    subst hp; subst hq
    go_upto_region 2 with fail
    go_cut [7, 8] (fun p q wx => (CutB w wx [[.int .i64 x, .int .i64 y], [.int .i64 u, .int .i64 v]] [.int .i64 (cond k A 0), .int .i64 (cond k B 0), .int .i64 (cond k C 0), .int .i64 (cond k D 0)] p ∧ Blk wx g [.int .i64 (cond k A 0), .int .i64 (cond k B 0), .int .i64 (cond k C 0), .int .i64 (cond k D 0)]) ∧ q = .bool k)
    case first =>
      go_region_held3 (fun w' => w'.cell? ⟨w.heap.size, 0, none⟩ = some (.int .i64 x) ∧ w'.cell? ⟨w.heap.size, 1, none⟩ = some (.int .i64 y) ∧ w'.cell? ⟨w.heap.size + 1, 0, none⟩ = some (.int .i64 u) ∧ w'.cell? ⟨w.heap.size + 1, 1, none⟩ = some (.int .i64 v)) (first | (with_reducible exact lawSegOf0_cells T0) | (with_reducible exact lawSegOf0_cells T0.drew) | (with_reducible exact lawSegOf0_cells (T0.alloc _)) | (with_reducible exact lawSegOf0_cells (T0.alloc _).drew) | (with_reducible exact lawSegOf0_cells (((((T0).set (by simp; omega) _).set (by simp; omega) _).set (by simp; omega) _).set (by simp; omega) _)))
        (first
          | (go_at_call 8; have _t := tok0; refine (toSpot_any x y _).mono ?_; rintro e w1 ⟨rfl, hB⟩; (first | (have T1 : ArgsB w w1 [[.int .i64 x, .int .i64 y], [.int .i64 u, .int .i64 v]] := (by with_reducible exact T0.step hB); replace L0 := L0.step hB; try (replace G0 := G0.step hB; have z0c := G0.c 0 rfl; have z0f := G0.f 0 rfl; have z1c := G0.c 1 rfl; have z1f := G0.f 1 rfl; have z2c := G0.c 2 rfl; have z2f := G0.f 2 rfl; have z3c := G0.c 3 rfl; have z3f := G0.f 3 rfl; have zlt := G0.lt)) | (have T1 : ArgsB w w1 [[.int .i64 x, .int .i64 y], [.int .i64 u, .int .i64 v]] := (by with_reducible exact T0.drew.step hB); replace L0 := L0.drew.step hB; try (replace G0 := G0.step hB; have z0c := G0.c 0 rfl; have z0f := G0.f 0 rfl; have z1c := G0.c 1 rfl; have z1f := G0.f 1 rfl; have z2c := G0.c 2 rfl; have z2f := G0.f 2 rfl; have z3c := G0.c 3 rfl; have z3f := G0.f 3 rfl; have zlt := G0.lt)) | (have T1 : ArgsB w w1 [[.int .i64 x, .int .i64 y], [.int .i64 u, .int .i64 v]] := (by with_reducible exact (T0.alloc _).step hB); have hg := (T0.b 1 rfl).lt; have hgL0 := L0.lt; replace L0 := (L0.alloc _).step hB; have G0 := (Blk.new _ [.int .i64 0, .int .i64 0, .int .i64 0, .int .i64 0] _ rfl).step hB; have z0c := G0.c 0 rfl; have z0f := G0.f 0 rfl; have z1c := G0.c 1 rfl; have z1f := G0.f 1 rfl; have z2c := G0.c 2 rfl; have z2f := G0.f 2 rfl; have z3c := G0.c 3 rfl; have z3f := G0.f 3 rfl; have zlt := G0.lt) | (have T1 : ArgsB w w1 [[.int .i64 x, .int .i64 y], [.int .i64 u, .int .i64 v]] := (by with_reducible exact (T0.alloc _).drew.step hB); have hg := (T0.b 1 rfl).lt; have hgL0 := L0.lt; replace L0 := (L0.alloc _).drew.step hB; have G0 := (Blk.new _ [.int .i64 0, .int .i64 0, .int .i64 0, .int .i64 0] _ rfl).drew.step hB; have z0c := G0.c 0 rfl; have z0f := G0.f 0 rfl; have z1c := G0.c 1 rfl; have z1f := G0.f 1 rfl; have z2c := G0.c 2 rfl; have z2f := G0.f 2 rfl; have z3c := G0.c 3 rfl; have z3f := G0.f 3 rfl; have zlt := G0.lt)); clear T0; have T0 := T1; clear T1; clear tok0 _t hB)
          | (go_at_call 8; refine (toSpot_any u v _).mono ?_; rintro e w2 ⟨rfl, hB⟩; (first | (have T1 : ArgsB w w2 [[.int .i64 x, .int .i64 y], [.int .i64 u, .int .i64 v]] := (by with_reducible exact T0.step hB); replace L0 := L0.step hB; try (replace G0 := G0.step hB; have z0c := G0.c 0 rfl; have z0f := G0.f 0 rfl; have z1c := G0.c 1 rfl; have z1f := G0.f 1 rfl; have z2c := G0.c 2 rfl; have z2f := G0.f 2 rfl; have z3c := G0.c 3 rfl; have z3f := G0.f 3 rfl; have zlt := G0.lt)) | (have T1 : ArgsB w w2 [[.int .i64 x, .int .i64 y], [.int .i64 u, .int .i64 v]] := (by with_reducible exact T0.drew.step hB); replace L0 := L0.drew.step hB; try (replace G0 := G0.step hB; have z0c := G0.c 0 rfl; have z0f := G0.f 0 rfl; have z1c := G0.c 1 rfl; have z1f := G0.f 1 rfl; have z2c := G0.c 2 rfl; have z2f := G0.f 2 rfl; have z3c := G0.c 3 rfl; have z3f := G0.f 3 rfl; have zlt := G0.lt)) | (have T1 : ArgsB w w2 [[.int .i64 x, .int .i64 y], [.int .i64 u, .int .i64 v]] := (by with_reducible exact (T0.alloc _).step hB); have hg := (T0.b 1 rfl).lt; have hgL0 := L0.lt; replace L0 := (L0.alloc _).step hB; have G0 := (Blk.new _ [.int .i64 0, .int .i64 0, .int .i64 0, .int .i64 0] _ rfl).step hB; have z0c := G0.c 0 rfl; have z0f := G0.f 0 rfl; have z1c := G0.c 1 rfl; have z1f := G0.f 1 rfl; have z2c := G0.c 2 rfl; have z2f := G0.f 2 rfl; have z3c := G0.c 3 rfl; have z3f := G0.f 3 rfl; have zlt := G0.lt) | (have T1 : ArgsB w w2 [[.int .i64 x, .int .i64 y], [.int .i64 u, .int .i64 v]] := (by with_reducible exact (T0.alloc _).drew.step hB); have hg := (T0.b 1 rfl).lt; have hgL0 := L0.lt; replace L0 := (L0.alloc _).drew.step hB; have G0 := (Blk.new _ [.int .i64 0, .int .i64 0, .int .i64 0, .int .i64 0] _ rfl).drew.step hB; have z0c := G0.c 0 rfl; have z0f := G0.f 0 rfl; have z1c := G0.c 1 rfl; have z1f := G0.f 1 rfl; have z2c := G0.c 2 rfl; have z2f := G0.f 2 rfl; have z3c := G0.c 3 rfl; have z3f := G0.f 3 rfl; have zlt := G0.lt)); clear T0; have T0 := T1; clear T1; clear hB)
          | (go_at_call 14; refine (implSegOf_any x y u v A B C D l k hl hk hA hB0 hC hD _).mono ?_; rintro e w9 ⟨rfl, hB⟩; (first | (have T1 : ArgsB w w9 [[.int .i64 x, .int .i64 y], [.int .i64 u, .int .i64 v]] := (by with_reducible exact T0.step hB); replace L0 := L0.step hB; try (replace G0 := G0.step hB; have z0c := G0.c 0 rfl; have z0f := G0.f 0 rfl; have z1c := G0.c 1 rfl; have z1f := G0.f 1 rfl; have z2c := G0.c 2 rfl; have z2f := G0.f 2 rfl; have z3c := G0.c 3 rfl; have z3f := G0.f 3 rfl; have zlt := G0.lt)) | (have T1 : ArgsB w w9 [[.int .i64 x, .int .i64 y], [.int .i64 u, .int .i64 v]] := (by with_reducible exact T0.drew.step hB); replace L0 := L0.drew.step hB; try (replace G0 := G0.step hB; have z0c := G0.c 0 rfl; have z0f := G0.f 0 rfl; have z1c := G0.c 1 rfl; have z1f := G0.f 1 rfl; have z2c := G0.c 2 rfl; have z2f := G0.f 2 rfl; have z3c := G0.c 3 rfl; have z3f := G0.f 3 rfl; have zlt := G0.lt)) | (have T1 : ArgsB w w9 [[.int .i64 x, .int .i64 y], [.int .i64 u, .int .i64 v]] := (by with_reducible exact (T0.alloc _).step hB); have hg := (T0.b 1 rfl).lt; have hgL0 := L0.lt; replace L0 := (L0.alloc _).step hB; have G0 := (Blk.new _ [.int .i64 0, .int .i64 0, .int .i64 0, .int .i64 0] _ rfl).step hB; have z0c := G0.c 0 rfl; have z0f := G0.f 0 rfl; have z1c := G0.c 1 rfl; have z1f := G0.f 1 rfl; have z2c := G0.c 2 rfl; have z2f := G0.f 2 rfl; have z3c := G0.c 3 rfl; have z3f := G0.f 3 rfl; have zlt := G0.lt) | (have T1 : ArgsB w w9 [[.int .i64 x, .int .i64 y], [.int .i64 u, .int .i64 v]] := (by with_reducible exact (T0.alloc _).drew.step hB); have hg := (T0.b 1 rfl).lt; have hgL0 := L0.lt; replace L0 := (L0.alloc _).drew.step hB; have G0 := (Blk.new _ [.int .i64 0, .int .i64 0, .int .i64 0, .int .i64 0] _ rfl).drew.step hB; have z0c := G0.c 0 rfl; have z0f := G0.f 0 rfl; have z1c := G0.c 1 rfl; have z1f := G0.f 1 rfl; have z2c := G0.c 2 rfl; have z2f := G0.f 2 rfl; have z3c := G0.c 3 rfl; have z3f := G0.f 3 rfl; have zlt := G0.lt)); clear T0; have T0 := T1; clear T1; clear hB))
      all_goals go_wp2_with fail
      all_goals go_meet
      all_goals refine ⟨?_, rfl⟩
      all_goals first | (with_reducible exact ⟨cutB_new T0 T0.len2, L0.alloc _⟩) | (with_reducible exact ⟨cutB_set4 T0 G0 (by simp; omega), L0.set4 (by omega)⟩) | exact ⟨(cutB_new T0 T0.len2).drew, (L0.alloc _).drew⟩ | exact ⟨(cutB_set4 T0 G0 (by simp; omega)).drew, (L0.set4 (by omega)).drew⟩
    case rest =>
      clear T0 L0 tok0
      obtain ⟨⟨⟨g', hp, _, T0, L1⟩, L0⟩, hq⟩ := hcut
      subst hp; subst hq
      have HB := T0.below
      have c0 := L0.c 0 rfl; have d0 := L1.c 0 rfl; have c1 := L0.c 1 rfl; have d1 := L1.c 1 rfl; have c2 := L0.c 2 rfl; have d2 := L1.c 2 rfl; have c3 := L0.c 3 rfl; have d3 := L1.c 3 rfl
      clear T0 L0 L1
      go_wp2_with fail
      refine (eqSeg_same _ _ _ _ _).mono ?_
      rintro e w5 ⟨rfl, hB⟩
      have HB2 : Below w.heap.size w w5 := HB.trans (hB.mono HB.size)
      clear hB HB
      go_wp2
      all_goals go_ret
      all_goals exact ⟨rfl, HB2⟩
theorem lawSegOf_any (x y u v : Int) (w : World) : Calls Try.prog 5 #[Sp x y, Sp u v] w (BoolP true w) :=
  lawSegOf0 x y u v _ _ _ _ _ _ rfl rfl rfl rfl rfl rfl w
end Go.Proofs.Ytenhadlhfnaocaa
