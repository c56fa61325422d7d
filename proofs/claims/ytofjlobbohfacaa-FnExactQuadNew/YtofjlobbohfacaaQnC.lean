/- A tree without items: the answers of both sides, and rows that are empty. -/
import Derived.Test.YtofjlobbohfacaaQnB
namespace Go.Proofs.Ytofjlobbohfacaa
open Go.RowKit
set_option maxRecDepth 100000 in
set_option maxHeartbeats 2000000 in
theorem implQuadNew_no (m d : Int) (hl : limB m d = false) (w : World) : Calls Try.prog 18 #[.int .i64 m, .int .i64 d] w (VP (.tuple #[.agg #[.int .i64 0, .int .i64 0, .slice none 0 0, .slice none 0 0], .bool false]) w) := by
  have H1 : Below w.heap.size w (w.alloc (.cells #[.int .i64 0, .int .i64 0, .slice none 0 0, .slice none 0 0] 48)) := (Below.refl _ w).alloc (Nat.le_refl _) _
  have BZ := Blk.new w [.int .i64 0, .int .i64 0, .slice none 0 0, .slice none 0 0] 48 rfl
  have RL := rightLimits_any m d
  go_enter Try.func18, Try.ntmps18
  go_upto_region 1 with fail
  generalize (w.alloc (.cells #[.int .i64 0, .int .i64 0, .slice none 0 0, .slice none 0 0] 48)) = W at *
  go_wp2_with fail
  refine (RL _).mono ?_
  rintro e w1 ⟨rfl, hB⟩
  replace BZ := BZ.step hB
  replace H1 := H1.trans (hB.mono H1.size)
  clear hB RL
  rw [hl]
  have z0 := BZ.c 0 rfl; have z1 := BZ.c 1 rfl; have z2 := BZ.c 2 rfl; have z3 := BZ.c 3 rfl; have y0 := BZ.f 0 rfl; have y1 := BZ.f 1 rfl; have y2 := BZ.f 2 rfl; have y3 := BZ.f 3 rfl; have zl := BZ.lt
  have RN : Blk ((((w1.setCell ⟨w.heap.size, 0, none⟩ (.int .i64 0)).setCell ⟨w.heap.size, 1, none⟩ (.int .i64 0)).setCell ⟨w.heap.size, 2, none⟩ (.slice none 0 0)).setCell ⟨w.heap.size, 3, none⟩ (.slice none 0 0)) w.heap.size [.int .i64 0, .int .i64 0, .slice none 0 0, .slice none 0 0] := ((((BZ.setI 0 (by simp) _).setI 1 (by simp) _).setI 2 (by simp) _).setI 3 (by simp) _)
  have HN : Below w.heap.size w ((((w1.setCell ⟨w.heap.size, 0, none⟩ (.int .i64 0)).setCell ⟨w.heap.size, 1, none⟩ (.int .i64 0)).setCell ⟨w.heap.size, 2, none⟩ (.slice none 0 0)).setCell ⟨w.heap.size, 3, none⟩ (.slice none 0 0)) := ((((H1.setCell (p := ⟨w.heap.size, 0, none⟩) (Nat.le_refl _) _).setCell (p := ⟨w.heap.size, 1, none⟩) (Nat.le_refl _) _).setCell (p := ⟨w.heap.size, 2, none⟩) (Nat.le_refl _) _).setCell (p := ⟨w.heap.size, 3, none⟩) (Nat.le_refl _) _)
  clear BZ H1
  have r0 := RN.c 0 rfl; have r1 := RN.c 1 rfl; have r2 := RN.c 2 rfl; have r3 := RN.c 3 rfl
  go_wp2
  refine bodyPost_ret (v := .tuple #[.agg #[.int .i64 0, .int .i64 0, .slice none 0 0, .slice none 0 0], .bool false]) (by simp [results, Try.results18, go_sem, r0, r1, r2, r3]) rfl ?_
  exact ⟨rfl, HN⟩
set_option maxRecDepth 100000 in
set_option maxHeartbeats 2000000 in
theorem specQuadNew_no (m d : Int) (hl : limB m d = false) (w : World) : Calls Try.prog 17 #[.int .i64 m, .int .i64 d] w (VP (.tuple #[.agg #[.int .i64 0, .int .i64 0, .slice none 0 0, .slice none 0 0], .bool false]) w) := by
  have H1 : Below w.heap.size w (w.alloc (.cells #[.int .i64 0, .int .i64 0, .slice none 0 0, .slice none 0 0] 48)) := (Below.refl _ w).alloc (Nat.le_refl _) _
  have BZ := Blk.new w [.int .i64 0, .int .i64 0, .slice none 0 0, .slice none 0 0] 48 rfl
  have RL := l13Limits_any m d
  go_enter Try.func17, Try.ntmps17
  go_upto_region 1 with fail
  generalize (w.alloc (.cells #[.int .i64 0, .int .i64 0, .slice none 0 0, .slice none 0 0] 48)) = W at *
  go_wp2_with fail
  refine (RL _).mono ?_
  rintro e w1 ⟨rfl, hB⟩
  replace BZ := BZ.step hB
  replace H1 := H1.trans (hB.mono H1.size)
  clear hB RL
  rw [hl]
  have z0 := BZ.c 0 rfl; have z1 := BZ.c 1 rfl; have z2 := BZ.c 2 rfl; have z3 := BZ.c 3 rfl; have y0 := BZ.f 0 rfl; have y1 := BZ.f 1 rfl; have y2 := BZ.f 2 rfl; have y3 := BZ.f 3 rfl; have zl := BZ.lt
  have RN : Blk ((((w1.setCell ⟨w.heap.size, 0, none⟩ (.int .i64 0)).setCell ⟨w.heap.size, 1, none⟩ (.int .i64 0)).setCell ⟨w.heap.size, 2, none⟩ (.slice none 0 0)).setCell ⟨w.heap.size, 3, none⟩ (.slice none 0 0)) w.heap.size [.int .i64 0, .int .i64 0, .slice none 0 0, .slice none 0 0] := ((((BZ.setI 0 (by simp) _).setI 1 (by simp) _).setI 2 (by simp) _).setI 3 (by simp) _)
  have HN : Below w.heap.size w ((((w1.setCell ⟨w.heap.size, 0, none⟩ (.int .i64 0)).setCell ⟨w.heap.size, 1, none⟩ (.int .i64 0)).setCell ⟨w.heap.size, 2, none⟩ (.slice none 0 0)).setCell ⟨w.heap.size, 3, none⟩ (.slice none 0 0)) := ((((H1.setCell (p := ⟨w.heap.size, 0, none⟩) (Nat.le_refl _) _).setCell (p := ⟨w.heap.size, 1, none⟩) (Nat.le_refl _) _).setCell (p := ⟨w.heap.size, 2, none⟩) (Nat.le_refl _) _).setCell (p := ⟨w.heap.size, 3, none⟩) (Nat.le_refl _) _)
  clear BZ H1
  have r0 := RN.c 0 rfl; have r1 := RN.c 1 rfl; have r2 := RN.c 2 rfl; have r3 := RN.c 3 rfl
  go_wp2
  refine bodyPost_ret (v := .tuple #[.agg #[.int .i64 0, .int .i64 0, .slice none 0 0, .slice none 0 0], .bool false]) (by simp [results, Try.results17, go_sem, r0, r1, r2, r3]) rfl ?_
  exact ⟨rfl, HN⟩
set_option maxRecDepth 100000 in
set_option maxHeartbeats 2000000 in
theorem specQuadNew_yes (m d : Int) (hl : limB m d = true) (w : World) : Calls Try.prog 17 #[.int .i64 m, .int .i64 d] w (QnP m d w) := by
  have H1 : Below w.heap.size w (w.alloc (.cells #[.int .i64 0, .int .i64 0, .slice none 0 0, .slice none 0 0] 48)) := (Below.refl _ w).alloc (Nat.le_refl _) _
  have BZ := Blk.new w [.int .i64 0, .int .i64 0, .slice none 0 0, .slice none 0 0] 48 rfl
  have RL := l13Limits_any m d
  go_enter Try.func17, Try.ntmps17
  go_upto_region 1 with fail
  generalize (w.alloc (.cells #[.int .i64 0, .int .i64 0, .slice none 0 0, .slice none 0 0] 48)) = W at *
  go_wp2_with fail
  refine (RL _).mono ?_
  rintro e w1 ⟨rfl, hB⟩
  replace BZ := BZ.step hB
  replace H1 := H1.trans (hB.mono H1.size)
  clear hB RL
  rw [hl]
  have BH := Blk.new w1 [.int .i64 (-1048576), .int .i64 (-1048576), .int .i64 2097152, .bool false, .slice none 0 0] 88 rfl
  have hz := BZ.lt
  have z0 := BZ.c 0 rfl; have z1 := BZ.c 1 rfl; have z2 := BZ.c 2 rfl; have z3 := BZ.c 3 rfl; have y0 := BZ.f 0 rfl; have y1 := BZ.f 1 rfl; have y2 := BZ.f 2 rfl; have y3 := BZ.f 3 rfl; have zl := BZ.lt
  have hh := H1.size
  go_upto_region 3 with fail
  have QL : Hid (w.heap.size ≤ w1.heap.size) := hh
  have SN : Blk ((((w1.setCell ⟨w.heap.size, 0, none⟩ (.int .i64 m)).setCell ⟨w.heap.size, 1, none⟩ (.int .i64 d)).setCell ⟨w.heap.size, 2, none⟩ (.slice none 0 0)).setCell ⟨w.heap.size, 3, none⟩ (.slice (some ⟨w1.heap.size, 0, none⟩) 1 1)) w.heap.size [.int .i64 m, .int .i64 d, .slice none 0 0, .slice (some ⟨w1.heap.size, 0, none⟩) 1 1] := ((((BZ.setI 0 (by simp) _).setI 1 (by simp) _).setI 2 (by simp) _).setI 3 (by simp) _)
  have hsn : ((((w1.setCell ⟨w.heap.size, 0, none⟩ (.int .i64 m)).setCell ⟨w.heap.size, 1, none⟩ (.int .i64 d)).setCell ⟨w.heap.size, 2, none⟩ (.slice none 0 0)).setCell ⟨w.heap.size, 3, none⟩ (.slice (some ⟨w1.heap.size, 0, none⟩) 1 1)).heap.size = w1.heap.size := by simp
  have RN := SN.alloc (.cells #[.int .i64 (-1048576), .int .i64 (-1048576), .int .i64 2097152, .bool false, .slice none 0 0] 88)
  have BN : Blk (((((w1.setCell ⟨w.heap.size, 0, none⟩ (.int .i64 m)).setCell ⟨w.heap.size, 1, none⟩ (.int .i64 d)).setCell ⟨w.heap.size, 2, none⟩ (.slice none 0 0)).setCell ⟨w.heap.size, 3, none⟩ (.slice (some ⟨w1.heap.size, 0, none⟩) 1 1)).alloc (.cells #[.int .i64 (-1048576), .int .i64 (-1048576), .int .i64 2097152, .bool false, .slice none 0 0] 88)) w1.heap.size [.int .i64 (-1048576), .int .i64 (-1048576), .int .i64 2097152, .bool false, .slice none 0 0] := Blk.new _ [.int .i64 (-1048576), .int .i64 (-1048576), .int .i64 2097152, .bool false, .slice none 0 0] _ hsn.symm
  have HN : Below w.heap.size w (((((w1.setCell ⟨w.heap.size, 0, none⟩ (.int .i64 m)).setCell ⟨w.heap.size, 1, none⟩ (.int .i64 d)).setCell ⟨w.heap.size, 2, none⟩ (.slice none 0 0)).setCell ⟨w.heap.size, 3, none⟩ (.slice (some ⟨w1.heap.size, 0, none⟩) 1 1)).alloc (.cells #[.int .i64 (-1048576), .int .i64 (-1048576), .int .i64 2097152, .bool false, .slice none 0 0] 88)) := Below.alloc ((((H1.setCell (p := ⟨w.heap.size, 0, none⟩) (Nat.le_refl _) _).setCell (p := ⟨w.heap.size, 1, none⟩) (Nat.le_refl _) _).setCell (p := ⟨w.heap.size, 2, none⟩) (Nat.le_refl _) _).setCell (p := ⟨w.heap.size, 3, none⟩) (Nat.le_refl _) _) (by rw [hsn]; exact hh) _
  have BN2 : Blk (((((w1.alloc (.cells #[.int .i64 (-1048576), .int .i64 (-1048576), .int .i64 2097152, .bool false, .slice none 0 0] 88)).setCell ⟨w.heap.size, 0, none⟩ (.int .i64 m)).setCell ⟨w.heap.size, 1, none⟩ (.int .i64 d)).setCell ⟨w.heap.size, 2, none⟩ (.slice none 0 0)).setCell ⟨w.heap.size, 3, none⟩ (.slice (some ⟨w1.heap.size, 0, none⟩) 1 1)) w1.heap.size [.int .i64 (-1048576), .int .i64 (-1048576), .int .i64 2097152, .bool false, .slice none 0 0] := ((((BH.setO (by show w1.heap.size ≠ w.heap.size; omega) _).setO (by show w1.heap.size ≠ w.heap.size; omega) _).setO (by show w1.heap.size ≠ w.heap.size; omega) _).setO (by show w1.heap.size ≠ w.heap.size; omega) _)
  have HN2 : Below w.heap.size w (((((w1.alloc (.cells #[.int .i64 (-1048576), .int .i64 (-1048576), .int .i64 2097152, .bool false, .slice none 0 0] 88)).setCell ⟨w.heap.size, 0, none⟩ (.int .i64 m)).setCell ⟨w.heap.size, 1, none⟩ (.int .i64 d)).setCell ⟨w.heap.size, 2, none⟩ (.slice none 0 0)).setCell ⟨w.heap.size, 3, none⟩ (.slice (some ⟨w1.heap.size, 0, none⟩) 1 1)) := (((((H1.alloc H1.size _).setCell (p := ⟨w.heap.size, 0, none⟩) (Nat.le_refl _) _).setCell (p := ⟨w.heap.size, 1, none⟩) (Nat.le_refl _) _).setCell (p := ⟨w.heap.size, 2, none⟩) (Nat.le_refl _) _).setCell (p := ⟨w.heap.size, 3, none⟩) (Nat.le_refl _) _)
  clear BZ H1 BH hsn
  go_wp2
  have r0 := RN.c 0 rfl; have r1 := RN.c 1 rfl; have r2 := RN.c 2 rfl; have r3 := RN.c 3 rfl

  refine bodyPost_ret (v := .tuple #[.agg #[.int .i64 m, .int .i64 d, .slice none 0 0, .slice (some ⟨w1.heap.size, 0, none⟩) 1 1], .bool true]) (by simp [results, Try.results17, go_sem, r0, r1, r2, r3]) rfl ?_
  exact ⟨_, rfl, QL.out, (by first | exact BN | exact BN2), (by first | exact HN | exact HN2)⟩
set_option maxRecDepth 100000 in
set_option maxHeartbeats 2000000 in
theorem implQuadNew_yes (m d : Int) (hl : limB m d = true) (w : World) : Calls Try.prog 18 #[.int .i64 m, .int .i64 d] w (QnP m d w) := by
  have H1 : Below w.heap.size w (w.alloc (.cells #[.int .i64 0, .int .i64 0, .slice none 0 0, .slice none 0 0] 48)) := (Below.refl _ w).alloc (Nat.le_refl _) _
  have BZ := Blk.new w [.int .i64 0, .int .i64 0, .slice none 0 0, .slice none 0 0] 48 rfl
  have RL := rightLimits_any m d
  go_enter Try.func18, Try.ntmps18
  go_upto_region 1 with fail
  generalize (w.alloc (.cells #[.int .i64 0, .int .i64 0, .slice none 0 0, .slice none 0 0] 48)) = W at *
  go_wp2_with fail
  refine (RL _).mono ?_
  rintro e w1 ⟨rfl, hB⟩
  replace BZ := BZ.step hB
  replace H1 := H1.trans (hB.mono H1.size)
  clear hB RL
  rw [hl]
  go_wp2_with fail
  refine (rootBlock_any _).mono ?_
  rintro e w2 ⟨gr, rfl, hgr, Br, hB⟩
  have hzl := BZ.lt
  have hs1 := H1.size
  replace BZ := BZ.step hB
  replace H1 := H1.trans (hB.mono H1.size)
  clear hB
  have Bq := Blk.new w2 [.int .i64 m, .int .i64 d, .slice none 0 0, .pointer (some ⟨gr, 0, none⟩)] 93 rfl
  replace BZ := BZ.alloc (.cells #[.int .i64 m, .int .i64 d, .slice none 0 0, .pointer (some ⟨gr, 0, none⟩)] 93)
  replace Br := Br.alloc (.cells #[.int .i64 m, .int .i64 d, .slice none 0 0, .pointer (some ⟨gr, 0, none⟩)] 93)
  replace H1 := H1.alloc H1.size (.cells #[.int .i64 m, .int .i64 d, .slice none 0 0, .pointer (some ⟨gr, 0, none⟩)] 93)
  have hs2 := H1.size
  have TD := fun w h h' => told_any w2.heap.size gr m d w h h'
  go_wp2_with fail
  refine (TD _ Bq Br).mono ?_
  rintro e w3 ⟨h, rfl, hh, BH, hB⟩
  have hh2 : w.heap.size < h := by have := BZ.lt; omega
  replace BZ := BZ.step hB
  replace H1 := H1.trans (hB.mono H1.size)
  clear hB TD Bq Br
  have z0 := BZ.c 0 rfl; have z1 := BZ.c 1 rfl; have z2 := BZ.c 2 rfl; have z3 := BZ.c 3 rfl; have y0 := BZ.f 0 rfl; have y1 := BZ.f 1 rfl; have y2 := BZ.f 2 rfl; have y3 := BZ.f 3 rfl; have zl := BZ.lt
  have RN : Blk ((((w3.setCell ⟨w.heap.size, 0, none⟩ (.int .i64 m)).setCell ⟨w.heap.size, 1, none⟩ (.int .i64 d)).setCell ⟨w.heap.size, 2, none⟩ (.slice none 0 0)).setCell ⟨w.heap.size, 3, none⟩ (.slice (some ⟨h, 0, none⟩) 1 1)) w.heap.size [.int .i64 m, .int .i64 d, .slice none 0 0, .slice (some ⟨h, 0, none⟩) 1 1] := ((((BZ.setI 0 (by simp) _).setI 1 (by simp) _).setI 2 (by simp) _).setI 3 (by simp) _)
  have BN : Blk ((((w3.setCell ⟨w.heap.size, 0, none⟩ (.int .i64 m)).setCell ⟨w.heap.size, 1, none⟩ (.int .i64 d)).setCell ⟨w.heap.size, 2, none⟩ (.slice none 0 0)).setCell ⟨w.heap.size, 3, none⟩ (.slice (some ⟨h, 0, none⟩) 1 1)) h [.int .i64 (-1048576), .int .i64 (-1048576), .int .i64 2097152, .bool false, .slice none 0 0] := ((((BH.setO (by show h ≠ w.heap.size; omega) _).setO (by show h ≠ w.heap.size; omega) _).setO (by show h ≠ w.heap.size; omega) _).setO (by show h ≠ w.heap.size; omega) _)
  have HN : Below w.heap.size w ((((w3.setCell ⟨w.heap.size, 0, none⟩ (.int .i64 m)).setCell ⟨w.heap.size, 1, none⟩ (.int .i64 d)).setCell ⟨w.heap.size, 2, none⟩ (.slice none 0 0)).setCell ⟨w.heap.size, 3, none⟩ (.slice (some ⟨h, 0, none⟩) 1 1)) := ((((H1.setCell (p := ⟨w.heap.size, 0, none⟩) (Nat.le_refl _) _).setCell (p := ⟨w.heap.size, 1, none⟩) (Nat.le_refl _) _).setCell (p := ⟨w.heap.size, 2, none⟩) (Nat.le_refl _) _).setCell (p := ⟨w.heap.size, 3, none⟩) (Nat.le_refl _) _)
  have QL : Hid (w.heap.size ≤ h) := by show _ ≤ _; omega
  clear BZ H1 BH hh hh2 hs1 hs2 hzl hgr
  have r0 := RN.c 0 rfl; have r1 := RN.c 1 rfl; have r2 := RN.c 2 rfl; have r3 := RN.c 3 rfl
  go_wp2
  refine bodyPost_ret (v := .tuple #[.agg #[.int .i64 m, .int .i64 d, .slice none 0 0, .slice (some ⟨h, 0, none⟩) 1 1], .bool true]) (by simp [results, Try.results18, go_sem, r0, r1, r2, r3]) rfl ?_
  exact ⟨h, rfl, QL.out, BN, HN⟩
set_option maxRecDepth 100000 in
set_option maxHeartbeats 2000000 in
theorem eqItemS_nil (w : World) : Calls Try.prog 46 #[.slice none 0 0, .slice none 0 0] w (VP (.bool true) w) := by
  go_enter Try.func46, Try.ntmps46
  go_wp2_with fail
  go_loopw [5] (fun i wr => i = .int .i64 0 ∧ wr = w) (fun _ _ => 0)
  case atStart => exact ⟨rfl, rfl⟩
  case round =>
    obtain ⟨rfl, rfl⟩ := hrel
    go_wp2
    go_ret
    exact ⟨rfl, Below.refl _ _⟩
set_option maxRecDepth 100000 in
set_option maxHeartbeats 2000000 in
theorem eqInt64S_nil (w : World) : Calls Try.prog 76 #[.slice none 0 0, .slice none 0 0] w (VP (.bool true) w) := by
  go_enter Try.func76, Try.ntmps76
  go_wp2_with fail
  go_loopw [5] (fun i wr => i = .int .i64 0 ∧ wr = w) (fun _ _ => 0)
  case atStart => exact ⟨rfl, rfl⟩
  case round =>
    obtain ⟨rfl, rfl⟩ := hrel
    go_wp2
    go_ret
    exact ⟨rfl, Below.refl _ _⟩
set_option maxRecDepth 100000 in
set_option maxHeartbeats 2000000 in
theorem eqBlockS_nil (w : World) : Calls Try.prog 47 #[.slice none 0 0, .slice none 0 0] w (VP (.bool true) w) := by
  go_enter Try.func47, Try.ntmps47
  go_wp2_with fail
  go_loopw [5] (fun i wr => i = .int .i64 0 ∧ wr = w) (fun _ _ => 0)
  case atStart => exact ⟨rfl, rfl⟩
  case round =>
    obtain ⟨rfl, rfl⟩ := hrel
    go_wp2
    go_ret
    exact ⟨rfl, Below.refl _ _⟩
set_option maxRecDepth 100000 in
set_option maxHeartbeats 2000000 in
theorem markItemS_nil (k : Int) (w : World) : Calls Try.prog 48 #[.slice none 0 0, .int .i64 k] w (VP (.int .i64 k) w) := by
  go_enter Try.func48, Try.ntmps48
  go_wp2_with fail
  go_loopw [1, 5] (fun o i wr => o = .int .i64 k ∧ i = .int .i64 0 ∧ wr = w) (fun _ _ _ => 0)
  case atStart => exact ⟨rfl, rfl, rfl⟩
  case round =>
    obtain ⟨rfl, rfl, rfl⟩ := hrel
    go_wp2
    go_ret
    exact ⟨rfl, Below.refl _ _⟩
set_option maxRecDepth 100000 in
set_option maxHeartbeats 2000000 in
theorem markInt64S_nil (k : Int) (w : World) : Calls Try.prog 80 #[.slice none 0 0, .int .i64 k] w (VP (.int .i64 k) w) := by
  go_enter Try.func80, Try.ntmps80
  go_wp2_with fail
  go_loopw [1, 5] (fun o i wr => o = .int .i64 k ∧ i = .int .i64 0 ∧ wr = w) (fun _ _ _ => 0)
  case atStart => exact ⟨rfl, rfl, rfl⟩
  case round =>
    obtain ⟨rfl, rfl, rfl⟩ := hrel
    go_wp2
    go_ret
    exact ⟨rfl, Below.refl _ _⟩
set_option maxRecDepth 100000 in
set_option maxHeartbeats 2000000 in
theorem markBlockS_nil (k : Int) (w : World) : Calls Try.prog 49 #[.slice none 0 0, .int .i64 k] w (VP (.int .i64 k) w) := by
  go_enter Try.func49, Try.ntmps49
  go_wp2_with fail
  go_loopw [1, 5] (fun o i wr => o = .int .i64 k ∧ i = .int .i64 0 ∧ wr = w) (fun _ _ _ => 0)
  case atStart => exact ⟨rfl, rfl, rfl⟩
  case round =>
    obtain ⟨rfl, rfl, rfl⟩ := hrel
    go_wp2
    go_ret
    exact ⟨rfl, Below.refl _ _⟩
set_option maxRecDepth 100000 in
set_option maxHeartbeats 2000000 in
theorem heldItemS_nil (k : Int) (w : World) : Calls Try.prog 50 #[.slice none 0 0, .int .i64 k] w (VP (.int .i64 k) w) := by
  go_enter Try.func50, Try.ntmps50
  go_wp2_with fail
  go_loopw [1, 5] (fun o i wr => o = .int .i64 k ∧ i = .int .i64 0 ∧ wr = w) (fun _ _ _ => 0)
  case atStart => exact ⟨rfl, rfl, rfl⟩
  case round =>
    obtain ⟨rfl, rfl, rfl⟩ := hrel
    go_wp2
    go_ret
    exact ⟨rfl, Below.refl _ _⟩
set_option maxRecDepth 100000 in
set_option maxHeartbeats 2000000 in
theorem heldInt64S_nil (k : Int) (w : World) : Calls Try.prog 81 #[.slice none 0 0, .int .i64 k] w (VP (.int .i64 k) w) := by
  go_enter Try.func81, Try.ntmps81
  go_wp2_with fail
  go_loopw [1, 5] (fun o i wr => o = .int .i64 k ∧ i = .int .i64 0 ∧ wr = w) (fun _ _ _ => 0)
  case atStart => exact ⟨rfl, rfl, rfl⟩
  case round =>
    obtain ⟨rfl, rfl, rfl⟩ := hrel
    go_wp2
    go_ret
    exact ⟨rfl, Below.refl _ _⟩
set_option maxRecDepth 100000 in
set_option maxHeartbeats 2000000 in
theorem heldBlockS_nil (k : Int) (w : World) : Calls Try.prog 51 #[.slice none 0 0, .int .i64 k] w (VP (.int .i64 k) w) := by
  go_enter Try.func51, Try.ntmps51
  go_wp2_with fail
  go_loopw [1, 5] (fun o i wr => o = .int .i64 k ∧ i = .int .i64 0 ∧ wr = w) (fun _ _ _ => 0)
  case atStart => exact ⟨rfl, rfl, rfl⟩
  case round =>
    obtain ⟨rfl, rfl, rfl⟩ := hrel
    go_wp2
    go_ret
    exact ⟨rfl, Below.refl _ _⟩
end Go.Proofs.Ytofjlobbohfacaa
