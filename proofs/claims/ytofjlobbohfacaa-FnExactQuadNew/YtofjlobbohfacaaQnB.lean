/- A tree without items: the answers of both sides, and how they are held against one another. -/
import Derived.Test.YtofjlobbohfacaaQnA
namespace Go.Proofs.Ytofjlobbohfacaa
open Go.RowKit
/-- A tree without items, its root not split, its row at a block of its own. -/
def QnP (m d : Int) (w : World) (e : Ending) (w' : World) : Prop := ∃ h, e = .returned (.tuple #[.agg #[.int .i64 m, .int .i64 d, .slice none 0 0, .slice (some ⟨h, 0, none⟩) 1 1], .bool true]) ∧ w.heap.size ≤ h ∧ Blk w' h [.int .i64 (-1048576), .int .i64 (-1048576), .int .i64 2097152, .bool false, .slice none 0 0] ∧ Below w.heap.size w w'
set_option maxRecDepth 100000 in
set_option maxHeartbeats 2000000 in
theorem told_any (gq gr : Nat) (m d : Int) (w : World) (Bq : Blk w gq [.int .i64 m, .int .i64 d, .slice none 0 0, .pointer (some ⟨gr, 0, none⟩)]) (Br : Blk w gr [.int .i64 (-1048576), .int .i64 (-1048576), .int .i64 2097152, .int .i64 0, .slice none 0 0, .slice none 0 0]) : Calls Try.prog 45 #[.pointer (some ⟨gq, 0, none⟩)] w (QnP m d w) := by
  have H1 : Below w.heap.size w (w.alloc (.cells #[.int .i64 0, .int .i64 0, .slice none 0 0, .slice none 0 0] 48)) := (Below.refl _ w).alloc (Nat.le_refl _) _
  have BZ := Blk.new w [.int .i64 0, .int .i64 0, .slice none 0 0, .slice none 0 0] 48 rfl
  have HKq : ∀ W, Below w.heap.size w W → (fun w' : World => w'.cell? ⟨gq, 0, none⟩ = some (.int .i64 m) ∧ w'.cell? ⟨gq, 1, none⟩ = some (.int .i64 d) ∧ w'.cell? ⟨gq, 2, none⟩ = some (.slice none 0 0)) W := fun W h => ⟨(Bq.below h Bq.lt).c 0 rfl, (Bq.below h Bq.lt).c 1 rfl, (Bq.below h Bq.lt).c 2 rfl⟩
  replace Bq := Bq.step H1
  replace Br := Br.step H1
  have RL := fun w h => row_leaf gr w h
  go_enter Try.func45, Try.ntmps45
  go_upto_region 1 with fail
  generalize w.alloc (.cells #[.int .i64 0, .int .i64 0, .slice none 0 0, .slice none 0 0] 48) = W at *
  have q3 := Bq.c 3 rfl
  go_wp2_with fail
  refine (RL _ Br).mono ?_
  rintro e w1 ⟨h, rfl, hh, BH, hB⟩
  have hzl := BZ.lt
  replace BZ := BZ.step hB
  replace H1 := H1.trans (hB.mono H1.size)
  clear hB RL Br q3 Bq
  go_upto_region 4 with fail
  have z0 := BZ.c 0 rfl; have z1 := BZ.c 1 rfl; have z2 := BZ.c 2 rfl; have z3 := BZ.c 3 rfl; have y0 := BZ.f 0 rfl; have y1 := BZ.f 1 rfl; have y2 := BZ.f 2 rfl; have y3 := BZ.f 3 rfl; have zl := BZ.lt
  go_region_held3 (fun w' : World => w'.cell? ⟨gq, 0, none⟩ = some (.int .i64 m) ∧ w'.cell? ⟨gq, 1, none⟩ = some (.int .i64 d) ∧ w'.cell? ⟨gq, 2, none⟩ = some (.slice none 0 0)) (refine HKq _ ?_ <;> repeat (first | (with_reducible exact H1) | (with_reducible refine Below.drew ?_) | (with_reducible refine Below.setCell ?_ (by first | exact Nat.le_refl _ | simp) _))) (fail)
  all_goals have BN : Blk ((((w1.setCell ⟨w.heap.size, 0, none⟩ (.int .i64 m)).setCell ⟨w.heap.size, 1, none⟩ (.int .i64 d)).setCell ⟨w.heap.size, 2, none⟩ (.slice none 0 0)).setCell ⟨w.heap.size, 3, none⟩ (.slice (some ⟨h, 0, none⟩) 1 1)).drew h [.int .i64 (-1048576), .int .i64 (-1048576), .int .i64 2097152, .bool false, .slice none 0 0] := ((((BH.setO (by show h ≠ w.heap.size; omega) _).setO (by show h ≠ w.heap.size; omega) _).setO (by show h ≠ w.heap.size; omega) _).setO (by show h ≠ w.heap.size; omega) _).drew
  all_goals have RN : Blk ((((w1.setCell ⟨w.heap.size, 0, none⟩ (.int .i64 m)).setCell ⟨w.heap.size, 1, none⟩ (.int .i64 d)).setCell ⟨w.heap.size, 2, none⟩ (.slice none 0 0)).setCell ⟨w.heap.size, 3, none⟩ (.slice (some ⟨h, 0, none⟩) 1 1)).drew w.heap.size [.int .i64 m, .int .i64 d, .slice none 0 0, .slice (some ⟨h, 0, none⟩) 1 1] := ((((BZ.setI 0 (by simp) _).setI 1 (by simp) _).setI 2 (by simp) _).setI 3 (by simp) _).drew
  all_goals have HN : Below w.heap.size w ((((w1.setCell ⟨w.heap.size, 0, none⟩ (.int .i64 m)).setCell ⟨w.heap.size, 1, none⟩ (.int .i64 d)).setCell ⟨w.heap.size, 2, none⟩ (.slice none 0 0)).setCell ⟨w.heap.size, 3, none⟩ (.slice (some ⟨h, 0, none⟩) 1 1)).drew := ((((H1.setCell (p := ⟨w.heap.size, 0, none⟩) (Nat.le_refl _) _).setCell (p := ⟨w.heap.size, 1, none⟩) (Nat.le_refl _) _).setCell (p := ⟨w.heap.size, 2, none⟩) (Nat.le_refl _) _).setCell (p := ⟨w.heap.size, 3, none⟩) (Nat.le_refl _) _).drew
  all_goals clear BZ BH H1 HKq z0 z1 z2 z3 y0 y1 y2 y3 zl
  all_goals have r0 := RN.c 0 rfl; have r1 := RN.c 1 rfl; have r2 := RN.c 2 rfl; have r3 := RN.c 3 rfl
  all_goals go_wp2
  all_goals refine bodyPost_ret (v := .tuple #[.agg #[.int .i64 m, .int .i64 d, .slice none 0 0, .slice (some ⟨h, 0, none⟩) 1 1], .bool true]) (by simp [results, Try.results45, go_sem, r0, r1, r2, r3]) rfl ?_
  all_goals exact ⟨h, rfl, by omega, BN, HN⟩
end Go.Proofs.Ytofjlobbohfacaa
