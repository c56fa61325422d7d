/- A tree without items: how answers are held against one another, marked, and held again. -/
import Derived.Test.YtofjlobbohfacaaQnC
import Derived.Test.YtofjlobbohfacaaSign
namespace Go.Proofs.Ytofjlobbohfacaa
open Go.RowKit
set_option maxRecDepth 100000 in
set_option maxHeartbeats 2000000 in
theorem eqBlock_one (w : World) : Calls Try.prog 79 #[.agg #[.int .i64 (-1048576), .int .i64 (-1048576), .int .i64 2097152, .bool false, .slice none 0 0], .agg #[.int .i64 (-1048576), .int .i64 (-1048576), .int .i64 2097152, .bool false, .slice none 0 0]] w (BoolP true w) := by
  have HB : Below w.heap.size w ((w.alloc (.cells #[.int .i64 (-1048576), .int .i64 (-1048576), .int .i64 2097152, .bool false, .slice none 0 0] 88)).alloc (.cells #[.int .i64 (-1048576), .int .i64 (-1048576), .int .i64 2097152, .bool false, .slice none 0 0] 88)) := ((Below.refl _ w).alloc (Nat.le_refl _) _).alloc (by simp) _
  have B0 := (Blk.new w [.int .i64 (-1048576), .int .i64 (-1048576), .int .i64 2097152, .bool false, .slice none 0 0] 88 rfl).alloc (.cells #[.int .i64 (-1048576), .int .i64 (-1048576), .int .i64 2097152, .bool false, .slice none 0 0] 88)
  have B1 := Blk.new (w.alloc (.cells #[.int .i64 (-1048576), .int .i64 (-1048576), .int .i64 2097152, .bool false, .slice none 0 0] 88)) [.int .i64 (-1048576), .int .i64 (-1048576), .int .i64 2097152, .bool false, .slice none 0 0] 88 (g := w.heap.size + 1) (by simp)
  go_enter Try.func79, Try.ntmps79
  go_upto_region 1 with fail
  generalize ((w.alloc (.cells #[.int .i64 (-1048576), .int .i64 (-1048576), .int .i64 2097152, .bool false, .slice none 0 0] 88)).alloc (.cells #[.int .i64 (-1048576), .int .i64 (-1048576), .int .i64 2097152, .bool false, .slice none 0 0] 88)) = W at *
  have a0 := B0.c 0 rfl; have a1 := B0.c 1 rfl; have a2 := B0.c 2 rfl; have a3 := B0.c 3 rfl; have a4 := B0.c 4 rfl; have b0 := B1.c 0 rfl; have b1 := B1.c 1 rfl; have b2 := B1.c 2 rfl; have b3 := B1.c 3 rfl; have b4 := B1.c 4 rfl
  go_wp2_with fail
  refine (eqInt64S_nil _).mono ?_
  rintro e w1 ⟨rfl, hB⟩
  replace HB := HB.trans (hB.mono HB.size)
  clear hB B0 B1 a0 a1 a2 a3 a4 b0 b1 b2 b3 b4
  go_wp2
  go_ret
  exact ⟨rfl, HB⟩
set_option maxRecDepth 100000 in
set_option maxHeartbeats 2000000 in
theorem eqBlockS_one (h g : Nat) (w : World) (BH : Blk w h [.int .i64 (-1048576), .int .i64 (-1048576), .int .i64 2097152, .bool false, .slice none 0 0]) (BG : Blk w g [.int .i64 (-1048576), .int .i64 (-1048576), .int .i64 2097152, .bool false, .slice none 0 0]) : Calls Try.prog 47 #[.slice (some ⟨h, 0, none⟩) 1 1, .slice (some ⟨g, 0, none⟩) 1 1] w (BoolP true w) := by
  go_enter Try.func47, Try.ntmps47
  go_wp2_with fail
  go_loopw [5] (fun i wr => ∃ c : Nat, c ≤ 1 ∧ i = .int .i64 c ∧ Below w.heap.size w wr) (fun i _ => 1 - (intOf i).toNat)
  case atStart => exact ⟨0, by omega, rfl, Below.refl _ _⟩
  case round =>
    obtain ⟨c, hc, rfl, HB⟩ := hrel
    rcases (show c = 0 ∨ c = 1 by omega) with rfl | rfl
    · have H0 : Below wr.heap.size wr wr := Below.refl _ _
      replace BH := BH.step HB
      replace BG := BG.step HB
      have HK : ∀ W, Below wr.heap.size wr W → (fun w' : World => w'.cell? ⟨h, 0, none⟩ = some (.int .i64 (-1048576)) ∧ w'.cell? ⟨h, 1, none⟩ = some (.int .i64 (-1048576)) ∧ w'.cell? ⟨h, 2, none⟩ = some (.int .i64 2097152) ∧ w'.cell? ⟨h, 3, none⟩ = some (.bool false) ∧ w'.cell? ⟨h, 4, none⟩ = some (.slice none 0 0) ∧ w'.cell? ⟨g, 0, none⟩ = some (.int .i64 (-1048576)) ∧ w'.cell? ⟨g, 1, none⟩ = some (.int .i64 (-1048576)) ∧ w'.cell? ⟨g, 2, none⟩ = some (.int .i64 2097152) ∧ w'.cell? ⟨g, 3, none⟩ = some (.bool false) ∧ w'.cell? ⟨g, 4, none⟩ = some (.slice none 0 0)) W := fun W k => ⟨(BH.step k).c 0 rfl, (BH.step k).c 1 rfl, (BH.step k).c 2 rfl, (BH.step k).c 3 rfl, (BH.step k).c 4 rfl, (BG.step k).c 0 rfl, (BG.step k).c 1 rfl, (BG.step k).c 2 rfl, (BG.step k).c 3 rfl, (BG.step k).c 4 rfl⟩
      have EB := eqBlock_one
      clear BH BG
      go_upto_region 6 with fail
      go_region_held3 (fun w' : World => w'.cell? ⟨h, 0, none⟩ = some (.int .i64 (-1048576)) ∧ w'.cell? ⟨h, 1, none⟩ = some (.int .i64 (-1048576)) ∧ w'.cell? ⟨h, 2, none⟩ = some (.int .i64 2097152) ∧ w'.cell? ⟨h, 3, none⟩ = some (.bool false) ∧ w'.cell? ⟨h, 4, none⟩ = some (.slice none 0 0) ∧ w'.cell? ⟨g, 0, none⟩ = some (.int .i64 (-1048576)) ∧ w'.cell? ⟨g, 1, none⟩ = some (.int .i64 (-1048576)) ∧ w'.cell? ⟨g, 2, none⟩ = some (.int .i64 2097152) ∧ w'.cell? ⟨g, 3, none⟩ = some (.bool false) ∧ w'.cell? ⟨g, 4, none⟩ = some (.slice none 0 0)) (refine HK _ ?_ <;> repeat (first | (with_reducible exact H1) | (with_reducible exact H0) | (with_reducible refine Below.drew ?_)))
        (first
          | (go_at_call 79; refine (EB _).mono ?_; rintro e w1 ⟨rfl, hB⟩; (first | (have H1 : Below wr.heap.size wr w1 := (by with_reducible exact hB)) | (have H1 : Below wr.heap.size wr w1 := H0.drew.trans (hB.mono H0.drew.size))); clear hB))
      all_goals have HBF := HB.trans (H1.mono HB.size)
      all_goals clear HK H0 H1 HB EB
      all_goals go_wp2
      all_goals go_roundw
      case rel => exact ⟨1, by omega, by go_num, by first | exact HBF | exact HBF.drew⟩
      case measure => simp [intOf]
    · clear BH BG
      go_wp2
      go_ret
      exact ⟨rfl, HB⟩
/-- All blocks but one are as they were. -/
def KeptB (h : Nat) (w w' : World) : Prop := (∀ g vs, g ≠ h → Blk w g vs → Blk w' g vs) ∧ ∀ w0 : World, w0.heap.size ≤ h → Below w0.heap.size w0 w → Below w0.heap.size w0 w'
theorem kept_marks (h : Nat) (w : World) (v0 v1 v2 v3 : Value) : KeptB h w ((((w.setCell ⟨h, 0, none⟩ v0).setCell ⟨h, 1, none⟩ v1).setCell ⟨h, 2, none⟩ v2).setCell ⟨h, 3, none⟩ v3) :=
  ⟨fun g vs hg B => (((B.setO (by exact hg) _).setO (by exact hg) _).setO (by exact hg) _).setO (by exact hg) _, fun w0 hB H => (((H.setCell (by exact hB) _).setCell (by exact hB) _).setCell (by exact hB) _).setCell (by exact hB) _⟩
theorem KeptB.step {h : Nat} {w w' w'' : World} (k : KeptB h w w') (hB : Below w'.heap.size w' w'') : KeptB h w w'' :=
  ⟨fun g vs hg B => (k.1 g vs hg B).step hB, fun w0 hh H => (k.2 w0 hh H).trans (hB.mono (k.2 w0 hh H).size)⟩
set_option maxRecDepth 100000 in
set_option maxHeartbeats 2000000 in
theorem markBlockS_one (h : Nat) (w : World) (BH : Blk w h [.int .i64 (-1048576), .int .i64 (-1048576), .int .i64 2097152, .bool false, .slice none 0 0]) : Calls Try.prog 49 #[.slice (some ⟨h, 0, none⟩) 1 1, .int .i64 1] w (fun e w' => e = .returned (.int .i64 5) ∧ Blk w' h [.int .i64 1, .int .i64 2, .int .i64 3, .bool false, .slice none 0 0] ∧ KeptB h w w') := by
  go_enter Try.func49, Try.ntmps49
  go_wp2_with fail
  go_loopw [1, 5] (fun o i wr => ∃ (c : Nat), i = .int .i64 c ∧ ((c = 0 ∧ o = .int .i64 1 ∧ wr = w) ∨ (c = 1 ∧ o = .int .i64 5 ∧ Blk wr h [.int .i64 1, .int .i64 2, .int .i64 3, .bool false, .slice none 0 0] ∧ KeptB h w wr))) (fun _ i _ => 1 - (intOf i).toNat)
  case atStart => exact ⟨0, rfl, .inl ⟨rfl, rfl, rfl⟩⟩
  case round =>
    obtain ⟨c, rfl, ⟨rfl, rfl, rfl⟩ | ⟨rfl, rfl, BM, KM⟩⟩ := hrel
    · have BM : Blk ((((wr.setCell ⟨h, 0, none⟩ (.int .i64 1)).setCell ⟨h, 1, none⟩ (.int .i64 2)).setCell ⟨h, 2, none⟩ (.int .i64 3)).setCell ⟨h, 3, none⟩ (.bool false)) h [.int .i64 1, .int .i64 2, .int .i64 3, .bool false, .slice none 0 0] := (((BH.setI 0 (by simp) _).setI 1 (by simp) _).setI 2 (by simp) _).setI 3 (by simp) _
      have KM : KeptB h wr ((((wr.setCell ⟨h, 0, none⟩ (.int .i64 1)).setCell ⟨h, 1, none⟩ (.int .i64 2)).setCell ⟨h, 2, none⟩ (.int .i64 3)).setCell ⟨h, 3, none⟩ (.bool false)) := kept_marks h wr _ _ _ _
      have a0 := BH.c 0 rfl; have af0 := BH.f 0 rfl; have a1 := BH.c 1 rfl; have af1 := BH.f 1 rfl; have a2 := BH.c 2 rfl; have af2 := BH.f 2 rfl; have a3 := BH.c 3 rfl; have af3 := BH.f 3 rfl; have a4 := BH.c 4 rfl; have af4 := BH.f 4 rfl; have al := BH.lt
      have MN := markInt64S_nil 5
      clear BH
      go_wp2_with fail
      clear a0 af0 a1 af1 a2 af2 a3 af3 a4 af4 al
      generalize ((((wr.setCell ⟨h, 0, none⟩ (.int .i64 1)).setCell ⟨h, 1, none⟩ (.int .i64 2)).setCell ⟨h, 2, none⟩ (.int .i64 3)).setCell ⟨h, 3, none⟩ (.bool false)) = W at *
      refine (MN _).mono ?_
      rintro e w1 ⟨rfl, hB⟩
      replace BM := BM.step hB
      replace KM := KM.step hB
      clear hB MN
      go_wp2
      go_roundw
      case rel => exact ⟨1, by go_num, .inr ⟨rfl, rfl, BM, KM⟩⟩
      case measure => simp [intOf]
    · clear BH
      go_wp2
      go_ret
      exact ⟨rfl, BM, KM⟩
set_option maxRecDepth 100000 in
set_option maxHeartbeats 2000000 in
theorem heldBlockS_one (h : Nat) (w : World) (BH : Blk w h [.int .i64 1, .int .i64 2, .int .i64 3, .bool false, .slice none 0 0]) : Calls Try.prog 51 #[.slice (some ⟨h, 0, none⟩) 1 1, .int .i64 1] w (VP (.int .i64 5) w) := by
  go_enter Try.func51, Try.ntmps51
  go_wp2_with fail
  go_loopw [1, 5] (fun o i wr => ∃ (c : Nat), i = .int .i64 c ∧ ((c = 0 ∧ o = .int .i64 1 ∧ wr = w) ∨ (c = 1 ∧ o = .int .i64 5 ∧ Below w.heap.size w wr))) (fun _ i _ => 1 - (intOf i).toNat)
  case atStart => exact ⟨0, rfl, .inl ⟨rfl, rfl, rfl⟩⟩
  case round =>
    obtain ⟨c, rfl, ⟨rfl, rfl, rfl⟩ | ⟨rfl, rfl, HB⟩⟩ := hrel
    · have a0 := BH.c 0 rfl; have a1 := BH.c 1 rfl; have a2 := BH.c 2 rfl; have a3 := BH.c 3 rfl; have a4 := BH.c 4 rfl
      have MN := heldInt64S_nil 5
      clear BH
      go_wp2_with fail
      refine (MN _).mono ?_
      rintro e w1 ⟨rfl, hB⟩
      clear a0 a1 a2 a3 a4 MN
      go_wp2
      go_roundw
      case rel => exact ⟨1, by go_num, .inr ⟨rfl, rfl, hB⟩⟩
      case measure => simp [intOf]
    · clear BH
      go_wp2
      go_ret
      exact ⟨rfl, HB⟩
set_option maxRecDepth 100000 in
set_option maxHeartbeats 2000000 in
theorem eqQuad_yes (m d : Int) (h g : Nat) (w : World) (BH : Blk w h [.int .i64 (-1048576), .int .i64 (-1048576), .int .i64 2097152, .bool false, .slice none 0 0]) (BG : Blk w g [.int .i64 (-1048576), .int .i64 (-1048576), .int .i64 2097152, .bool false, .slice none 0 0]) : Calls Try.prog 19 #[.agg #[.int .i64 m, .int .i64 d, .slice none 0 0, .slice (some ⟨h, 0, none⟩) 1 1], .agg #[.int .i64 m, .int .i64 d, .slice none 0 0, .slice (some ⟨g, 0, none⟩) 1 1]] w (BoolP true w) := by
  have HB : Below w.heap.size w ((w.alloc (.cells #[.int .i64 m, .int .i64 d, .slice none 0 0, .slice (some ⟨h, 0, none⟩) 1 1] 48)).alloc (.cells #[.int .i64 m, .int .i64 d, .slice none 0 0, .slice (some ⟨g, 0, none⟩) 1 1] 48)) := ((Below.refl _ w).alloc (Nat.le_refl _) _).alloc (by simp) _
  have B0 := (Blk.new w [.int .i64 m, .int .i64 d, .slice none 0 0, .slice (some ⟨h, 0, none⟩) 1 1] 48 rfl).alloc (.cells #[.int .i64 m, .int .i64 d, .slice none 0 0, .slice (some ⟨g, 0, none⟩) 1 1] 48)
  have B1 := Blk.new (w.alloc (.cells #[.int .i64 m, .int .i64 d, .slice none 0 0, .slice (some ⟨h, 0, none⟩) 1 1] 48)) [.int .i64 m, .int .i64 d, .slice none 0 0, .slice (some ⟨g, 0, none⟩) 1 1] 48 (g := w.heap.size + 1) (by simp)
  go_enter Try.func19, Try.ntmps19
  replace BH := BH.step HB
  replace BG := BG.step HB
  go_upto_region 1 with fail
  generalize ((w.alloc (.cells #[.int .i64 m, .int .i64 d, .slice none 0 0, .slice (some ⟨h, 0, none⟩) 1 1] 48)).alloc (.cells #[.int .i64 m, .int .i64 d, .slice none 0 0, .slice (some ⟨g, 0, none⟩) 1 1] 48)) = W at *
  have a0 := B0.c 0 rfl; have a1 := B0.c 1 rfl; have a2 := B0.c 2 rfl; have a3 := B0.c 3 rfl; have b0 := B1.c 0 rfl; have b1 := B1.c 1 rfl; have b2 := B1.c 2 rfl; have b3 := B1.c 3 rfl
  go_wp2_with fail
  refine (eqItemS_nil _).mono ?_
  rintro e w1 ⟨rfl, hB⟩
  replace HB := HB.trans (hB.mono HB.size); replace B0 := B0.step hB; replace B1 := B1.step hB; replace BH := BH.step hB; replace BG := BG.step hB
  clear hB a0 a1 a2 a3 b0 b1 b2 b3
  have a0 := B0.c 0 rfl; have a1 := B0.c 1 rfl; have a2 := B0.c 2 rfl; have a3 := B0.c 3 rfl; have b0 := B1.c 0 rfl; have b1 := B1.c 1 rfl; have b2 := B1.c 2 rfl; have b3 := B1.c 3 rfl
  go_wp2_with fail
  refine (eqBlockS_one h g _ BH BG).mono ?_
  rintro e w2 ⟨rfl, hB⟩
  replace HB := HB.trans (hB.mono HB.size)
  clear hB B0 B1 a0 a1 a2 a3 b0 b1 b2 b3
  go_wp2
  go_ret
  exact ⟨rfl, HB⟩
set_option maxRecDepth 100000 in
set_option maxHeartbeats 2000000 in
theorem eqQuad_no (w : World) : Calls Try.prog 19 #[.agg #[.int .i64 0, .int .i64 0, .slice none 0 0, .slice none 0 0], .agg #[.int .i64 0, .int .i64 0, .slice none 0 0, .slice none 0 0]] w (BoolP true w) := by
  have HB : Below w.heap.size w ((w.alloc (.cells #[.int .i64 0, .int .i64 0, .slice none 0 0, .slice none 0 0] 48)).alloc (.cells #[.int .i64 0, .int .i64 0, .slice none 0 0, .slice none 0 0] 48)) := ((Below.refl _ w).alloc (Nat.le_refl _) _).alloc (by simp) _
  have B0 := (Blk.new w [.int .i64 0, .int .i64 0, .slice none 0 0, .slice none 0 0] 48 rfl).alloc (.cells #[.int .i64 0, .int .i64 0, .slice none 0 0, .slice none 0 0] 48)
  have B1 := Blk.new (w.alloc (.cells #[.int .i64 0, .int .i64 0, .slice none 0 0, .slice none 0 0] 48)) [.int .i64 0, .int .i64 0, .slice none 0 0, .slice none 0 0] 48 (g := w.heap.size + 1) (by simp)
  go_enter Try.func19, Try.ntmps19
  go_upto_region 1 with fail
  generalize ((w.alloc (.cells #[.int .i64 0, .int .i64 0, .slice none 0 0, .slice none 0 0] 48)).alloc (.cells #[.int .i64 0, .int .i64 0, .slice none 0 0, .slice none 0 0] 48)) = W at *
  have a0 := B0.c 0 rfl; have a1 := B0.c 1 rfl; have a2 := B0.c 2 rfl; have a3 := B0.c 3 rfl; have b0 := B1.c 0 rfl; have b1 := B1.c 1 rfl; have b2 := B1.c 2 rfl; have b3 := B1.c 3 rfl
  go_wp2_with fail
  refine (eqItemS_nil _).mono ?_
  rintro e w1 ⟨rfl, hB⟩
  replace HB := HB.trans (hB.mono HB.size); replace B0 := B0.step hB; replace B1 := B1.step hB
  clear hB a0 a1 a2 a3 b0 b1 b2 b3
  have a0 := B0.c 0 rfl; have a1 := B0.c 1 rfl; have a2 := B0.c 2 rfl; have a3 := B0.c 3 rfl; have b0 := B1.c 0 rfl; have b1 := B1.c 1 rfl; have b2 := B1.c 2 rfl; have b3 := B1.c 3 rfl
  go_wp2_with fail
  refine (eqBlockS_nil _).mono ?_
  rintro e w2 ⟨rfl, hB⟩
  replace HB := HB.trans (hB.mono HB.size)
  clear hB B0 B1 a0 a1 a2 a3 b0 b1 b2 b3
  go_wp2
  go_ret
  exact ⟨rfl, HB⟩
set_option maxRecDepth 100000 in
set_option maxHeartbeats 2000000 in
theorem heldQuad_yes (m d : Int) (h : Nat) (w : World) (BH : Blk w h [.int .i64 1, .int .i64 2, .int .i64 3, .bool false, .slice none 0 0]) : Calls Try.prog 21 #[.agg #[.int .i64 m, .int .i64 d, .slice none 0 0, .slice (some ⟨h, 0, none⟩) 1 1], .int .i64 1] w (VP (.int .i64 5) w) := by
  have HB : Below w.heap.size w (w.alloc (.cells #[.int .i64 m, .int .i64 d, .slice none 0 0, .slice (some ⟨h, 0, none⟩) 1 1] 48)) := (Below.refl _ w).alloc (Nat.le_refl _) _
  have B0 := Blk.new w [.int .i64 m, .int .i64 d, .slice none 0 0, .slice (some ⟨h, 0, none⟩) 1 1] 48 rfl
  replace BH := BH.step HB
  go_enter Try.func21, Try.ntmps21
  go_upto_region 1 with fail
  generalize w.alloc (.cells #[.int .i64 m, .int .i64 d, .slice none 0 0, .slice (some ⟨h, 0, none⟩) 1 1] 48) = W at *
  have a0 := B0.c 0 rfl; have a1 := B0.c 1 rfl; have a2 := B0.c 2 rfl; have a3 := B0.c 3 rfl
  go_wp2_with fail
  refine (heldItemS_nil 1 _).mono ?_
  rintro e w1 ⟨rfl, hB⟩
  replace HB := HB.trans (hB.mono HB.size); replace B0 := B0.step hB; replace BH := BH.step hB
  clear hB a0 a1 a2 a3
  have a0 := B0.c 0 rfl; have a1 := B0.c 1 rfl; have a2 := B0.c 2 rfl; have a3 := B0.c 3 rfl
  go_wp2_with fail
  refine (heldBlockS_one h _ BH).mono ?_
  rintro e w2 ⟨rfl, hB⟩
  replace HB := HB.trans (hB.mono HB.size)
  clear hB
  clear B0 a0 a1 a2 a3
  go_wp2
  go_ret
  exact ⟨rfl, HB⟩
set_option maxRecDepth 100000 in
set_option maxHeartbeats 2000000 in
theorem heldQuad_no (w : World) : Calls Try.prog 21 #[.agg #[.int .i64 0, .int .i64 0, .slice none 0 0, .slice none 0 0], .int .i64 1] w (VP (.int .i64 1) w) := by
  have HB : Below w.heap.size w (w.alloc (.cells #[.int .i64 0, .int .i64 0, .slice none 0 0, .slice none 0 0] 48)) := (Below.refl _ w).alloc (Nat.le_refl _) _
  have B0 := Blk.new w [.int .i64 0, .int .i64 0, .slice none 0 0, .slice none 0 0] 48 rfl
  go_enter Try.func21, Try.ntmps21
  go_upto_region 1 with fail
  generalize w.alloc (.cells #[.int .i64 0, .int .i64 0, .slice none 0 0, .slice none 0 0] 48) = W at *
  have a0 := B0.c 0 rfl; have a1 := B0.c 1 rfl; have a2 := B0.c 2 rfl; have a3 := B0.c 3 rfl
  go_wp2_with fail
  refine (heldItemS_nil 1 _).mono ?_
  rintro e w1 ⟨rfl, hB⟩
  replace HB := HB.trans (hB.mono HB.size); replace B0 := B0.step hB
  clear hB a0 a1 a2 a3
  have a0 := B0.c 0 rfl; have a1 := B0.c 1 rfl; have a2 := B0.c 2 rfl; have a3 := B0.c 3 rfl
  go_wp2_with fail
  refine (heldBlockS_nil 1 _).mono ?_
  rintro e w2 ⟨rfl, hB⟩
  replace HB := HB.trans (hB.mono HB.size)
  clear hB
  clear B0 a0 a1 a2 a3
  go_wp2
  go_ret
  exact ⟨rfl, HB⟩
set_option maxRecDepth 100000 in
set_option maxHeartbeats 2000000 in
theorem markQuad_no (w : World) : Calls Try.prog 20 #[.agg #[.int .i64 0, .int .i64 0, .slice none 0 0, .slice none 0 0], .int .i64 1] w (VP (.int .i64 1) w) := by
  have HB : Below w.heap.size w (w.alloc (.cells #[.int .i64 0, .int .i64 0, .slice none 0 0, .slice none 0 0] 48)) := (Below.refl _ w).alloc (Nat.le_refl _) _
  have B0 := Blk.new w [.int .i64 0, .int .i64 0, .slice none 0 0, .slice none 0 0] 48 rfl
  go_enter Try.func20, Try.ntmps20
  go_upto_region 1 with fail
  generalize w.alloc (.cells #[.int .i64 0, .int .i64 0, .slice none 0 0, .slice none 0 0] 48) = W at *
  have a0 := B0.c 0 rfl; have a1 := B0.c 1 rfl; have a2 := B0.c 2 rfl; have a3 := B0.c 3 rfl
  go_wp2_with fail
  refine (markItemS_nil 1 _).mono ?_
  rintro e w1 ⟨rfl, hB⟩
  replace HB := HB.trans (hB.mono HB.size); replace B0 := B0.step hB
  clear hB a0 a1 a2 a3
  have a0 := B0.c 0 rfl; have a1 := B0.c 1 rfl; have a2 := B0.c 2 rfl; have a3 := B0.c 3 rfl
  go_wp2_with fail
  refine (markBlockS_nil 1 _).mono ?_
  rintro e w2 ⟨rfl, hB⟩
  replace HB := HB.trans (hB.mono HB.size)
  clear hB
  clear B0 a0 a1 a2 a3
  go_wp2
  go_ret
  exact ⟨rfl, HB⟩
set_option maxRecDepth 100000 in
set_option maxHeartbeats 2000000 in
theorem markQuad_yes (m d : Int) (h : Nat) (w : World) (BH : Blk w h [.int .i64 (-1048576), .int .i64 (-1048576), .int .i64 2097152, .bool false, .slice none 0 0]) : Calls Try.prog 20 #[.agg #[.int .i64 m, .int .i64 d, .slice none 0 0, .slice (some ⟨h, 0, none⟩) 1 1], .int .i64 1] w (fun e w' => e = .returned (.int .i64 5) ∧ Blk w' h [.int .i64 1, .int .i64 2, .int .i64 3, .bool false, .slice none 0 0] ∧ KeptB h w w') := by
  have HB : Below w.heap.size w (w.alloc (.cells #[.int .i64 m, .int .i64 d, .slice none 0 0, .slice (some ⟨h, 0, none⟩) 1 1] 48)) := (Below.refl _ w).alloc (Nat.le_refl _) _
  have B0 := Blk.new w [.int .i64 m, .int .i64 d, .slice none 0 0, .slice (some ⟨h, 0, none⟩) 1 1] 48 rfl
  replace BH := BH.step HB
  go_enter Try.func20, Try.ntmps20
  go_upto_region 1 with fail
  generalize w.alloc (.cells #[.int .i64 m, .int .i64 d, .slice none 0 0, .slice (some ⟨h, 0, none⟩) 1 1] 48) = W at *
  have a0 := B0.c 0 rfl; have a1 := B0.c 1 rfl; have a2 := B0.c 2 rfl; have a3 := B0.c 3 rfl
  go_wp2_with fail
  refine (markItemS_nil 1 _).mono ?_
  rintro e w1 ⟨rfl, hB⟩
  replace HB := HB.trans (hB.mono HB.size); replace B0 := B0.step hB; replace BH := BH.step hB
  clear hB a0 a1 a2 a3
  have a0 := B0.c 0 rfl; have a1 := B0.c 1 rfl; have a2 := B0.c 2 rfl; have a3 := B0.c 3 rfl
  go_wp2_with fail
  refine (markBlockS_one h _ BH).mono ?_
  rintro e w2 ⟨rfl, BM, KM⟩
  replace KM : KeptB h w w2 := ⟨fun g vs hg B => KM.1 g vs hg (B.step HB), fun w0 hh H => KM.2 w0 hh (H.trans (HB.mono H.size))⟩
  clear B0 a0 a1 a2 a3
  go_wp2
  go_ret
  exact ⟨rfl, BM, KM⟩
end Go.Proofs.Ytofjlobbohfacaa
