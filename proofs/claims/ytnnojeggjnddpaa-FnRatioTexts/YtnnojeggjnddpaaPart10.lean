/- Part 10 of the walks that the proof leans on. -/
import Derived.Test.YtnnojeggjnddpaaPart9
import Derived.Test.YtnnojeggjnddpaaPart7
import Derived.Test.YtnnojeggjnddpaaRows
import Derived.ProofKit
import Derived.Lib.SmallJoins
/- A text cut at the stroke, with the number under it: the program's. -/
namespace Go.Proofs.Ytnnojeggjnddpaa
open Go.RowKit
/-- What is said of a text that was cut at the stroke. -/
structure CuOk (l : List Nat) (d : Int) (ok : Bool) : Prop where
  told : told d = true
  yes : ok = true → l = cutA 47 l ++ unL d
  no : ok = false → ∀ a' d', Go.Proofs.Ytnnojeggjnddpaa.told d' = true → 47 ∉ a' → l ≠ a' ++ unL d'
theorem cutA_not (c : Nat) (l : List Nat) : c ∉ cutA c l := by
  by_cases h : c ∈ l
  · exact (cut_in h).2
  · rw [(cut_not h).1]; exact h
theorem cu_none {l : List Nat} (h : 47 ∉ l) : CuOk l 1 true := ⟨told_one, fun _ => by rw [unL_one, List.append_nil, (cut_not h).1], fun h => Bool.noConfusion h⟩
theorem cu_some {l : List Nat} {z : Int} (h : 47 ∈ l) (hz : told z = true) (hl : cutB 47 l = txL z) : CuOk l z (!decide (z = 1)) := by
  obtain ⟨e1, e2⟩ := cut_in h
  refine ⟨hz, fun hk => ?_, fun hk a' d' hd ha he => ?_⟩
  · rw [Bool.not_eq_true', decide_eq_false_iff_not] at hk
    rw [unL_not hk, ← hl]
    exact e1
  · rw [Bool.not_eq_false', decide_eq_true_iff] at hk
    by_cases h1 : d' = 1
    · rw [h1, unL_one, List.append_nil] at he
      exact ha (by rw [← he]; exact h)
    · rw [unL_not h1] at he
      rw [e1] at he
      obtain ⟨_, e3⟩ := first_one e2 ha he
      rw [hl] at e3
      exact h1 ((tx_inj e3).symm.trans hk)
theorem cu_bad {l : List Nat} (h : 47 ∈ l) (hl : ∀ z, told z = true → cutB 47 l ≠ txL z) : CuOk l 0 false := by
  obtain ⟨e1, e2⟩ := cut_in h
  refine ⟨by decide, fun hk => Bool.noConfusion hk, fun _ a' d' hd ha he => ?_⟩
  by_cases h1 : d' = 1
  · rw [h1, unL_one, List.append_nil] at he
    exact ha (by rw [← he]; exact h)
  · rw [unL_not h1, e1] at he
    obtain ⟨_, e3⟩ := first_one e2 ha he
    exact hl d' hd e3
theorem cut_sz (c : Nat) (s : ByteArray) (hm : s.size ≤ 9223372036854775807) : (strL (cutA c (btL s))).size ≤ 9223372036854775807 ∧ (strL (cutB c (btL s))).size ≤ 9223372036854775807 := by
  rw [strL_size, strL_size]
  rw [← btL_len] at hm
  have h1 := cut_len c (btL s)
  have h2 : (cutB c (btL s)).length ≤ (btL s).length := by
    unfold cutB
    exact ((List.tail_sublist _).trans (List.dropWhile_sublist _)).length_le
  omega
theorem cut_bt (c : Nat) (s : ByteArray) : btL (strL (cutA c (btL s))) = cutA c (btL s) ∧ btL (strL (cutB c (btL s))) = cutB c (btL s) :=
  ⟨btL_strL fun b hb => btL_lt s b ((List.takeWhile_sublist _).mem hb), btL_strL fun b hb => btL_lt s b (((List.tail_sublist _).trans (List.dropWhile_sublist _)).mem hb)⟩
set_option maxRecDepth 100000 in
set_option maxHeartbeats 2000000 in
theorem cutU_bad (s A B : ByteArray) (y3 y2 y1 y0 : Int) (CC : ∀ w, Calls Try.prog 65 #[.string s, .string ⟨#[47]⟩] w (VP (.tuple #[.string A, .string B, .bool true]) w)) (CR : ∀ w, Calls Try.prog 16 #[.string B] w (VP (.tuple #[.agg #[.int .u64 y3, .int .u64 y2, .int .u64 y1, .int .u64 y0], .bool false]) w)) (w : World) : Calls Try.prog 61 #[.string s] w (VP (.tuple #[.string A, .agg #[.int .u64 y3, .int .u64 y2, .int .u64 y1, .int .u64 y0], .bool false]) w) := by
  have HB0 : Hid (Below w.heap.size w (w.alloc (Obj.cells #[.int .u64 0, .int .u64 0, .int .u64 0, .int .u64 0] 26))) := (Below.refl _ _).alloc (Nat.le_refl _) _
  have BR0 : Hid (Blk (w.alloc (Obj.cells #[.int .u64 0, .int .u64 0, .int .u64 0, .int .u64 0] 26)) w.heap.size [.int .u64 0, .int .u64 0, .int .u64 0, .int .u64 0]) := Blk.new w [.int .u64 0, .int .u64 0, .int .u64 0, .int .u64 0] _ rfl
  go_enter Try.func61, Try.ntmps61
  go_wp2_with fail
  generalize (w.alloc (Obj.cells #[.int .u64 0, .int .u64 0, .int .u64 0, .int .u64 0] 26)) = W0 at *
  refine (CC _).mono ?_
  rintro e w1 ⟨rfl, hB⟩
  have BR1 := BR0.out.step hB
  have HB1 := HB0.out.trans (hB.mono HB0.out.size)
  clear BR0 HB0 hB CC
  go_wp2_with fail
  refine (CR _).mono ?_
  rintro e w2 ⟨rfl, hB⟩
  have BRa := (BR1.step hB).alloc (Obj.cells #[.int .u64 y3, .int .u64 y2, .int .u64 y1, .int .u64 y0] 26)
  have BR2 : Hid (Blk (w2.alloc (Obj.cells #[.int .u64 y3, .int .u64 y2, .int .u64 y1, .int .u64 y0] 26)).drew w.heap.size [.int .u64 0, .int .u64 0, .int .u64 0, .int .u64 0]) := BRa.drew
  have HBx := HB1.trans (hB.mono HB1.size)
  have HB2 : Hid (Below w.heap.size w (w2.alloc (Obj.cells #[.int .u64 y3, .int .u64 y2, .int .u64 y1, .int .u64 y0] 26))) := HBx.alloc HBx.size _
  have X0 := Blk.new w2 [.int .u64 y3, .int .u64 y2, .int .u64 y1, .int .u64 y0] 26 rfl
  rw [show ([.int .u64 y3, .int .u64 y2, .int .u64 y1, .int .u64 y0] : List Value).toArray = #[.int .u64 y3, .int .u64 y2, .int .u64 y1, .int .u64 y0] from rfl] at X0
  have HX : Hid (Blk (w2.alloc (Obj.cells #[.int .u64 y3, .int .u64 y2, .int .u64 y1, .int .u64 y0] 26)).drew w2.heap.size [.int .u64 y3, .int .u64 y2, .int .u64 y1, .int .u64 y0]) := X0.drew
  have hgl := (BR1.step hB).lt
  have hne : w2.heap.size ≠ w.heap.size := by omega
  clear BR1 HB1 hB CR HBx X0 BRa
  go_wp2_with fail
  generalize (w2.alloc (Obj.cells #[.int .u64 y3, .int .u64 y2, .int .u64 y1, .int .u64 y0] 26)) = W2 at *
  generalize w2.heap.size = g at *
  refine trS (A := A) (R := w.heap.size) (g := g) (y3 := y3) (y2 := y2) (y1 := y1) (y0 := y0) hne rfl rfl rfl rfl rfl ⟨HX.out, _, _, _, _, BR2.out⟩ ?_
  rintro ⟨tm, df⟩ W3 hz hdf hoff h8 h9 h10 hB4 _
  have HB4 : Hid (Below w.heap.size w W3) := HB2.out.trans hB4
  simp only at hz hdf hoff
  subst hdf
  change tm.getD 2 undef = .string A at h8
  change tm.getD 4 undef = .bool false at h10
  have h9 : Blk W3 w.heap.size [.int .u64 y3, .int .u64 y2, .int .u64 y1, .int .u64 y0] := h9
  have htm := tmps_fold [25, 26, 27, 28, 29, 30, 31, 32, 2, 4] tm _ hz hoff
  simp only [List.foldl, List.setIfInBounds_toArray, List.set_cons_zero, List.set_cons_succ, h8, h10] at htm
  clear hz hoff
  generalize tm.getD 25 undef = u0, tm.getD 26 undef = u1, tm.getD 27 undef = u2, tm.getD 28 undef = u3, tm.getD 29 undef = u4, tm.getD 30 undef = u5, tm.getD 31 undef = u6, tm.getD 32 undef = u7 at htm
  clear h8 h10
  subst htm
  obtain ⟨d0, d1, d2, d3⟩ := h9.cs4
  go_wp2
  refine bodyPost_ret (v := .tuple #[.string A, .agg #[.int .u64 y3, .int .u64 y2, .int .u64 y1, .int .u64 y0], .bool false]) (by simp [results, Try.results61, go_sem, d0, d1, d2, d3]) rfl ?_
  exact ⟨rfl, HB4.out⟩
set_option maxRecDepth 100000 in
set_option maxHeartbeats 2000000 in
theorem cutU_one (s A B : ByteArray) (t3 t2 t1 t0 : Int) (CC : ∀ w, Calls Try.prog 65 #[.string s, .string ⟨#[47]⟩] w (VP (.tuple #[.string A, .string B, .bool true]) w)) (CR : ∀ w, Calls Try.prog 16 #[.string B] w (VP (.tuple #[.agg #[.int .u64 t3, .int .u64 t2, .int .u64 t1, .int .u64 t0], .bool true]) w)) (C1 : ∀ w, Calls Try.prog 95 #[.int .i64 1] w (VP (W4 1) w)) (E : ∀ w, (Op.equalIn 10000 26 (.agg #[.int .u64 t3, .int .u64 t2, .int .u64 t1, .int .u64 t0]) (W4 1)).run Try.prog w = .ok true w) (w : World) : Calls Try.prog 61 #[.string s] w (VP (.tuple #[.string A, .agg #[.int .u64 t3, .int .u64 t2, .int .u64 t1, .int .u64 t0], .bool false]) w) := by
  have HB0 : Hid (Below w.heap.size w (w.alloc (Obj.cells #[.int .u64 0, .int .u64 0, .int .u64 0, .int .u64 0] 26))) := (Below.refl _ _).alloc (Nat.le_refl _) _
  have BR0 : Hid (Blk (w.alloc (Obj.cells #[.int .u64 0, .int .u64 0, .int .u64 0, .int .u64 0] 26)) w.heap.size [.int .u64 0, .int .u64 0, .int .u64 0, .int .u64 0]) := Blk.new w [.int .u64 0, .int .u64 0, .int .u64 0, .int .u64 0] _ rfl
  go_enter Try.func61, Try.ntmps61
  go_wp2_with fail
  generalize (w.alloc (Obj.cells #[.int .u64 0, .int .u64 0, .int .u64 0, .int .u64 0] 26)) = W0 at *
  refine (CC _).mono ?_
  rintro e w1 ⟨rfl, hB⟩
  have BR1 := BR0.out.step hB
  have HB1 := HB0.out.trans (hB.mono HB0.out.size)
  clear BR0 HB0 hB CC
  go_wp2_with fail
  refine (CR _).mono ?_
  rintro e w2 ⟨rfl, hB⟩
  have BRa := (BR1.step hB).alloc (Obj.cells #[.int .u64 t3, .int .u64 t2, .int .u64 t1, .int .u64 t0] 26)
  have BR2 : Hid (Blk (w2.alloc (Obj.cells #[.int .u64 t3, .int .u64 t2, .int .u64 t1, .int .u64 t0] 26)).drew w.heap.size [.int .u64 0, .int .u64 0, .int .u64 0, .int .u64 0]) := BRa.drew
  have HBx := HB1.trans (hB.mono HB1.size)
  have HB2 : Hid (Below w.heap.size w (w2.alloc (Obj.cells #[.int .u64 t3, .int .u64 t2, .int .u64 t1, .int .u64 t0] 26)).drew) := (HBx.alloc HBx.size _).drew
  have X0 := Blk.new w2 [.int .u64 t3, .int .u64 t2, .int .u64 t1, .int .u64 t0] 26 rfl
  rw [show ([.int .u64 t3, .int .u64 t2, .int .u64 t1, .int .u64 t0] : List Value).toArray = #[.int .u64 t3, .int .u64 t2, .int .u64 t1, .int .u64 t0] from rfl] at X0
  have HX : Hid (Blk (w2.alloc (Obj.cells #[.int .u64 t3, .int .u64 t2, .int .u64 t1, .int .u64 t0] 26)).drew w2.heap.size [.int .u64 t3, .int .u64 t2, .int .u64 t1, .int .u64 t0]) := X0.drew
  obtain ⟨c0, c1, c2, c3⟩ := X0.cs4
  have hgl := (BR1.step hB).lt
  have hne : ¬ (w2.heap.size = w.heap.size) := by omega
  have hne' : ¬ (w.heap.size = w2.heap.size) := by omega
  clear BR1 HB1 hB CR HBx X0 BRa
  go_wp2_with fail
  generalize (w2.alloc (Obj.cells #[.int .u64 t3, .int .u64 t2, .int .u64 t1, .int .u64 t0] 26)) = W2 at *
  generalize w2.heap.size = g at *
  go_region_with (go_at_call 95; refine (C1 _).mono ?_; rintro e w4 ⟨rfl, hB⟩; obtain ⟨k0, k1, k2, k3⟩ := (show Blk w4 g [.int .u64 t3, .int .u64 t2, .int .u64 t1, .int .u64 t0] from HX.out.step hB).cs4; obtain ⟨d0, e0, d1, e1, d2, e2, d3, e3⟩ := (show Blk w4 w.heap.size [.int .u64 0, .int .u64 0, .int .u64 0, .int .u64 0] from BR2.out.step hB).cf4; have dl := (show Blk w4 w.heap.size [.int .u64 0, .int .u64 0, .int .u64 0, .int .u64 0] from BR2.out.step hB).lt; have HB3 : Hid (Below w.heap.size w w4) := HB2.out.trans (hB.mono HB2.out.size); clear hB C1)
  all_goals go_wp2
  all_goals refine bodyPost_ret (v := .tuple #[.string A, .agg #[.int .u64 t3, .int .u64 t2, .int .u64 t1, .int .u64 t0], .bool false]) (by simp [results, Try.results61, go_sem, d0, d1, d2, d3]) rfl ?_
  all_goals exact ⟨rfl, tell_below HB3.out (Nat.le_refl _)⟩
set_option maxRecDepth 100000 in
set_option maxHeartbeats 2000000 in
theorem cutU_other (s A B : ByteArray) (t3 t2 t1 t0 : Int) (CC : ∀ w, Calls Try.prog 65 #[.string s, .string ⟨#[47]⟩] w (VP (.tuple #[.string A, .string B, .bool true]) w)) (CR : ∀ w, Calls Try.prog 16 #[.string B] w (VP (.tuple #[.agg #[.int .u64 t3, .int .u64 t2, .int .u64 t1, .int .u64 t0], .bool true]) w)) (C1 : ∀ w, Calls Try.prog 95 #[.int .i64 1] w (VP (W4 1) w)) (E : ∀ w, (Op.equalIn 10000 26 (.agg #[.int .u64 t3, .int .u64 t2, .int .u64 t1, .int .u64 t0]) (W4 1)).run Try.prog w = .ok false w) (w : World) : Calls Try.prog 61 #[.string s] w (VP (.tuple #[.string A, .agg #[.int .u64 t3, .int .u64 t2, .int .u64 t1, .int .u64 t0], .bool true]) w) := by
  have HB0 : Hid (Below w.heap.size w (w.alloc (Obj.cells #[.int .u64 0, .int .u64 0, .int .u64 0, .int .u64 0] 26))) := (Below.refl _ _).alloc (Nat.le_refl _) _
  have BR0 : Hid (Blk (w.alloc (Obj.cells #[.int .u64 0, .int .u64 0, .int .u64 0, .int .u64 0] 26)) w.heap.size [.int .u64 0, .int .u64 0, .int .u64 0, .int .u64 0]) := Blk.new w [.int .u64 0, .int .u64 0, .int .u64 0, .int .u64 0] _ rfl
  go_enter Try.func61, Try.ntmps61
  go_wp2_with fail
  generalize (w.alloc (Obj.cells #[.int .u64 0, .int .u64 0, .int .u64 0, .int .u64 0] 26)) = W0 at *
  refine (CC _).mono ?_
  rintro e w1 ⟨rfl, hB⟩
  have BR1 := BR0.out.step hB
  have HB1 := HB0.out.trans (hB.mono HB0.out.size)
  clear BR0 HB0 hB CC
  go_wp2_with fail
  refine (CR _).mono ?_
  rintro e w2 ⟨rfl, hB⟩
  have BRa := (BR1.step hB).alloc (Obj.cells #[.int .u64 t3, .int .u64 t2, .int .u64 t1, .int .u64 t0] 26)
  have BR2 : Hid (Blk (w2.alloc (Obj.cells #[.int .u64 t3, .int .u64 t2, .int .u64 t1, .int .u64 t0] 26)).drew w.heap.size [.int .u64 0, .int .u64 0, .int .u64 0, .int .u64 0]) := BRa.drew
  have HBx := HB1.trans (hB.mono HB1.size)
  have HB2 : Hid (Below w.heap.size w (w2.alloc (Obj.cells #[.int .u64 t3, .int .u64 t2, .int .u64 t1, .int .u64 t0] 26)).drew) := (HBx.alloc HBx.size _).drew
  have X0 := Blk.new w2 [.int .u64 t3, .int .u64 t2, .int .u64 t1, .int .u64 t0] 26 rfl
  rw [show ([.int .u64 t3, .int .u64 t2, .int .u64 t1, .int .u64 t0] : List Value).toArray = #[.int .u64 t3, .int .u64 t2, .int .u64 t1, .int .u64 t0] from rfl] at X0
  have HX : Hid (Blk (w2.alloc (Obj.cells #[.int .u64 t3, .int .u64 t2, .int .u64 t1, .int .u64 t0] 26)).drew w2.heap.size [.int .u64 t3, .int .u64 t2, .int .u64 t1, .int .u64 t0]) := X0.drew
  obtain ⟨c0, c1, c2, c3⟩ := X0.cs4
  have hgl := (BR1.step hB).lt
  have hne : ¬ (w2.heap.size = w.heap.size) := by omega
  have hne' : ¬ (w.heap.size = w2.heap.size) := by omega
  clear BR1 HB1 hB CR HBx X0 BRa
  go_wp2_with fail
  generalize (w2.alloc (Obj.cells #[.int .u64 t3, .int .u64 t2, .int .u64 t1, .int .u64 t0] 26)) = W2 at *
  generalize w2.heap.size = g at *
  go_region_with (go_at_call 95; refine (C1 _).mono ?_; rintro e w4 ⟨rfl, hB⟩; obtain ⟨k0, k1, k2, k3⟩ := (show Blk w4 g [.int .u64 t3, .int .u64 t2, .int .u64 t1, .int .u64 t0] from HX.out.step hB).cs4; obtain ⟨d0, e0, d1, e1, d2, e2, d3, e3⟩ := (show Blk w4 w.heap.size [.int .u64 0, .int .u64 0, .int .u64 0, .int .u64 0] from BR2.out.step hB).cf4; have dl := (show Blk w4 w.heap.size [.int .u64 0, .int .u64 0, .int .u64 0, .int .u64 0] from BR2.out.step hB).lt; have HB3 : Hid (Below w.heap.size w w4) := HB2.out.trans (hB.mono HB2.out.size); clear hB C1)
  all_goals go_wp2
  all_goals refine bodyPost_ret (v := .tuple #[.string A, .agg #[.int .u64 t3, .int .u64 t2, .int .u64 t1, .int .u64 t0], .bool true]) (by simp [results, Try.results61, go_sem, d0, d1, d2, d3]) rfl ?_
  all_goals exact ⟨rfl, tell_below HB3.out (Nat.le_refl _)⟩
set_option maxRecDepth 100000 in
set_option maxHeartbeats 2000000 in
theorem cutUnder_any (s : ByteArray) (hm : s.size ≤ 9223372036854775807) : ∃ d ok, CuOk (btL s) d ok ∧ ∀ w, Calls Try.prog 61 #[.string s] w (VP (.tuple #[.string (strL (cutA 47 (btL s))), .agg #[.int .u64 (ww3 d), .int .u64 (ww2 d), .int .u64 (ww1 d), .int .u64 (ww0 d)], .bool ok]) w) := by
  have CC := cut_any s 47 hm
  rw [show (47 : UInt8).toNat = 47 from rfl] at CC
  have C1 := one_det
  by_cases h : 47 ∈ btL s
  · rw [decide_eq_true h] at CC
    have CR := implRead_any (strL (cutB 47 (btL s))) (cut_sz 47 s hm).2
    rw [(cut_bt 47 s).2] at CR
    rcases rd_cases (cutB 47 (btL s)) with ⟨z, hz, hl, hr⟩ | ⟨hn, hr⟩
    · rw [hr] at CR
      have E := eqW10 z 1 hz told_one
      have hc := cu_some h hz hl
      cases hq : decide (z = 1) <;> rw [hq] at E hc
      · exact ⟨z, _, hc, fun w => cutU_other s _ _ _ _ _ _ CC CR C1 E w⟩
      · exact ⟨z, _, hc, fun w => cutU_one s _ _ _ _ _ _ CC CR C1 E w⟩
    · rw [hr] at CR
      exact ⟨0, false, cu_bad h hn, fun w => cutU_bad s _ _ _ _ _ _ CC CR w⟩
  · rw [decide_eq_false h] at CC
    refine ⟨1, true, cu_none h, fun w => ?_⟩
    generalize strL (cutB 47 (btL s)) = B at *
    generalize strL (cutA 47 (btL s)) = A at *
    have HB0 : Hid (Below w.heap.size w (w.alloc (Obj.cells #[.int .u64 0, .int .u64 0, .int .u64 0, .int .u64 0] 26))) := (Below.refl _ _).alloc (Nat.le_refl _) _
    have BR0 : Hid (Blk (w.alloc (Obj.cells #[.int .u64 0, .int .u64 0, .int .u64 0, .int .u64 0] 26)) w.heap.size [.int .u64 0, .int .u64 0, .int .u64 0, .int .u64 0]) := Blk.new w [.int .u64 0, .int .u64 0, .int .u64 0, .int .u64 0] _ rfl
    clear hm h
    go_enter Try.func61, Try.ntmps61
    go_wp2_with fail
    generalize (w.alloc (Obj.cells #[.int .u64 0, .int .u64 0, .int .u64 0, .int .u64 0] 26)) = W0 at *
    refine (CC _).mono ?_
    rintro e w1 ⟨rfl, hB⟩
    have BR1 := BR0.out.step hB
    have HB1 := HB0.out.trans (hB.mono HB0.out.size)
    clear BR0 HB0 hB CC
    go_wp2_with fail
    refine (C1 _).mono ?_
    rintro e w2 ⟨rfl, hB⟩
    have BR2 := BR1.step hB
    have HB2 := HB1.trans (hB.mono HB1.size)
    clear BR1 HB1 hB C1
    obtain ⟨d0, e0, d1, e1, d2, e2, d3, e3⟩ := BR2.cf4
    have dl := BR2.lt
    all_goals go_wp2
    all_goals refine bodyPost_ret (v := .tuple #[.string A, .agg #[.int .u64 (ww3 1), .int .u64 (ww2 1), .int .u64 (ww1 1), .int .u64 (ww0 1)], .bool true]) (by simp [results, Try.results61, go_sem, d0, d1, d2, d3]) rfl ?_
    all_goals exact ⟨rfl, tell_below HB2 (Nat.le_refl _)⟩
end Go.Proofs.Ytnnojeggjnddpaa

/- A fraction read from its text: the program's. -/
namespace Go.Proofs.Ytnnojeggjnddpaa
open Go.RowKit
theorem rright_det (x y : Int) (hx : told x = true) (hy : told y = true) (w : World) : Calls Try.prog 58 #[QV x y] w (BoolP (rightB x y) w) := by
  obtain ⟨g3, g2, g1, g0⟩ := ww_words x
  obtain ⟨k3, k2, k1, k0⟩ := ww_words y
  have := right_any _ _ _ _ _ _ _ _ g3 g2 g1 g0 k3 k2 k1 k0 w
  rw [ww_sw hx, ww_sw hy] at this
  exact this
theorem rd_ex (l : List Nat) : ∃ x ok, told x = true ∧ (ok = true → l = txL x) ∧ (ok = false → ∀ z, told z = true → l ≠ txL z) ∧ rdV l = .tuple #[.agg #[.int .u64 (ww3 x), .int .u64 (ww2 x), .int .u64 (ww1 x), .int .u64 (ww0 x)], .bool ok] := by
  rcases rd_cases l with ⟨z, hz, hl, hr⟩ | ⟨hn, hr⟩
  · exact ⟨z, true, hz, fun _ => hl, fun h => Bool.noConfusion h, hr⟩
  · exact ⟨0, false, by decide, fun h => Bool.noConfusion h, fun _ => hn, hr⟩
set_option maxRecDepth 100000 in
set_option maxHeartbeats 2000000 in
theorem implReadRatio_any (s : ByteArray) (hm : s.size ≤ 9223372036854775807) (w : World) : Calls Try.prog 22 #[.string s] w (VP (rrV (btL s)) w) := by
  obtain ⟨d, ok, hk, CU⟩ := cutUnder_any s hm
  obtain ⟨x, rk, hx, ry, rn, hr⟩ := rd_ex (cutA 47 (btL s))
  have CR := implRead_any (strL (cutA 47 (btL s))) (cut_sz 47 s hm).1
  rw [(cut_bt 47 s).1, hr] at CR
  obtain ⟨hd, hy, hn⟩ := hk
  have CQ := rright_det x d hx hd
  have h47 := cutA_not 47 (btL s)
  generalize strL (cutA 47 (btL s)) = A at *
  generalize cutA 47 (btL s) = a at *
  clear hr
  have HB : Below w.heap.size w (w.alloc (Obj.cells #[.int .u64 0, .int .u64 0, .int .u64 0, .int .u64 0, .int .u64 0, .int .u64 0, .int .u64 0, .int .u64 0] 37)) := (Below.refl _ _).alloc (Nat.le_refl _) _
  have R0 : Blk (w.alloc (Obj.cells #[.int .u64 0, .int .u64 0, .int .u64 0, .int .u64 0, .int .u64 0, .int .u64 0, .int .u64 0, .int .u64 0] 37)) w.heap.size [.int .u64 0, .int .u64 0, .int .u64 0, .int .u64 0, .int .u64 0, .int .u64 0, .int .u64 0, .int .u64 0] := Blk.new w [.int .u64 0, .int .u64 0, .int .u64 0, .int .u64 0, .int .u64 0, .int .u64 0, .int .u64 0, .int .u64 0] _ rfl
  cases ok
  · have HV : Hid (rrV (btL s) = .tuple #[.agg #[.int .u64 0, .int .u64 0, .int .u64 0, .int .u64 0, .int .u64 0, .int .u64 0, .int .u64 0, .int .u64 0], .bool false]) := rrV_no fun x y h => hn rfl _ _ h.2.1 (txL_47 x) h.2.2.2
    clear hy hn hd CR CQ ry rn h47 hm
    go_enter Try.func22, Try.ntmps22
    go_wp2_with fail
    generalize (w.alloc (Obj.cells #[.int .u64 0, .int .u64 0, .int .u64 0, .int .u64 0, .int .u64 0, .int .u64 0, .int .u64 0, .int .u64 0] 37)) = W0 at *
    refine (CU _).mono ?_
    rintro e w1 ⟨rfl, hB⟩
    replace HB := HB.trans (hB.mono HB.size)
    replace R0 := R0.step hB
    clear hB
    clear CU
    have X1 := Blk.new w1 [.int .u64 (ww3 d), .int .u64 (ww2 d), .int .u64 (ww1 d), .int .u64 (ww0 d)] 26 rfl
    rw [show ([.int .u64 (ww3 d), .int .u64 (ww2 d), .int .u64 (ww1 d), .int .u64 (ww0 d)] : List Value).toArray = #[.int .u64 (ww3 d), .int .u64 (ww2 d), .int .u64 (ww1 d), .int .u64 (ww0 d)] from rfl] at X1
    replace HB := HB.alloc HB.size (Obj.cells #[.int .u64 (ww3 d), .int .u64 (ww2 d), .int .u64 (ww1 d), .int .u64 (ww0 d)] 26)
    replace R0 := R0.alloc (Obj.cells #[.int .u64 (ww3 d), .int .u64 (ww2 d), .int .u64 (ww1 d), .int .u64 (ww0 d)] 26)
    clear X1
    have dl := R0.lt
    have o0 := R0.c 0 rfl; have q0 := R0.f 0 rfl; have o1 := R0.c 1 rfl; have q1 := R0.f 1 rfl; have o2 := R0.c 2 rfl; have q2 := R0.f 2 rfl; have o3 := R0.c 3 rfl; have q3 := R0.f 3 rfl; have o4 := R0.c 4 rfl; have q4 := R0.f 4 rfl; have o5 := R0.c 5 rfl; have q5 := R0.f 5 rfl; have o6 := R0.c 6 rfl; have q6 := R0.f 6 rfl; have o7 := R0.c 7 rfl; have q7 := R0.f 7 rfl
    go_wp2
    refine bodyPost_ret (v := .tuple #[.agg #[.int .u64 0, .int .u64 0, .int .u64 0, .int .u64 0, .int .u64 0, .int .u64 0, .int .u64 0, .int .u64 0], .bool false]) (by simp [results, Try.results22, go_sem, o0, o1, o2, o3, o4, o5, o6, o7]) rfl ?_
    refine ⟨by rw [HV.out], ?_⟩
    repeat' (refine Below.setCell ?_ (by simp; try omega) _)
    exact HB
  · have HL := hy rfl
    cases rk
    · have HV : Hid (rrV (btL s) = .tuple #[.agg #[.int .u64 0, .int .u64 0, .int .u64 0, .int .u64 0, .int .u64 0, .int .u64 0, .int .u64 0, .int .u64 0], .bool false]) := rrV_no fun x' y' h => rn rfl x' h.1 (un_one h47 (txL_47 x') (HL.symm.trans h.2.2.2)).1
      clear hy hn hd CQ ry rn h47 hm HL
      go_enter Try.func22, Try.ntmps22
      go_wp2_with fail
      generalize (w.alloc (Obj.cells #[.int .u64 0, .int .u64 0, .int .u64 0, .int .u64 0, .int .u64 0, .int .u64 0, .int .u64 0, .int .u64 0] 37)) = W0 at *
      refine (CU _).mono ?_
      rintro e w1 ⟨rfl, hB⟩
      replace HB := HB.trans (hB.mono HB.size)
      replace R0 := R0.step hB
      clear hB
      clear CU
      have X1 := Blk.new w1 [.int .u64 (ww3 d), .int .u64 (ww2 d), .int .u64 (ww1 d), .int .u64 (ww0 d)] 26 rfl
      rw [show ([.int .u64 (ww3 d), .int .u64 (ww2 d), .int .u64 (ww1 d), .int .u64 (ww0 d)] : List Value).toArray = #[.int .u64 (ww3 d), .int .u64 (ww2 d), .int .u64 (ww1 d), .int .u64 (ww0 d)] from rfl] at X1
      replace HB := HB.alloc HB.size (Obj.cells #[.int .u64 (ww3 d), .int .u64 (ww2 d), .int .u64 (ww1 d), .int .u64 (ww0 d)] 26)
      replace R0 := R0.alloc (Obj.cells #[.int .u64 (ww3 d), .int .u64 (ww2 d), .int .u64 (ww1 d), .int .u64 (ww0 d)] 26)
      have HBs := HB.size
      have R0l := R0.lt
      go_wp2_with fail
      generalize w1.heap.size = g1 at *
      generalize (w1.alloc (Obj.cells #[.int .u64 (ww3 d), .int .u64 (ww2 d), .int .u64 (ww1 d), .int .u64 (ww0 d)] 26)) = W1 at *
      refine (CR _).mono ?_
      rintro e w2 ⟨rfl, hB⟩
      replace HB := HB.trans (hB.mono HB.size)
      replace R0 := R0.step hB
      replace X1 := X1.step hB
      clear hB
      clear CR
      have X2 := Blk.new w2 [.int .u64 (ww3 x), .int .u64 (ww2 x), .int .u64 (ww1 x), .int .u64 (ww0 x)] 26 rfl
      rw [show ([.int .u64 (ww3 x), .int .u64 (ww2 x), .int .u64 (ww1 x), .int .u64 (ww0 x)] : List Value).toArray = #[.int .u64 (ww3 x), .int .u64 (ww2 x), .int .u64 (ww1 x), .int .u64 (ww0 x)] from rfl] at X2
      replace HB := HB.alloc HB.size (Obj.cells #[.int .u64 (ww3 x), .int .u64 (ww2 x), .int .u64 (ww1 x), .int .u64 (ww0 x)] 26)
      replace R0 := R0.alloc (Obj.cells #[.int .u64 (ww3 x), .int .u64 (ww2 x), .int .u64 (ww1 x), .int .u64 (ww0 x)] 26)
      replace X1 := X1.alloc (Obj.cells #[.int .u64 (ww3 x), .int .u64 (ww2 x), .int .u64 (ww1 x), .int .u64 (ww0 x)] 26)
      obtain ⟨c0, c1, c2, c3⟩ := X1.cs4
      obtain ⟨e0, e1, e2, e3⟩ := X2.cs4
      replace HB := HB.alloc HB.size (Obj.cells #[.int .u64 (ww3 x), .int .u64 (ww2 x), .int .u64 (ww1 x), .int .u64 (ww0 x), .int .u64 (ww3 d), .int .u64 (ww2 d), .int .u64 (ww1 d), .int .u64 (ww0 d)] 37)
      replace R0 := R0.alloc (Obj.cells #[.int .u64 (ww3 x), .int .u64 (ww2 x), .int .u64 (ww1 x), .int .u64 (ww0 x), .int .u64 (ww3 d), .int .u64 (ww2 d), .int .u64 (ww1 d), .int .u64 (ww0 d)] 37)
      have dl := R0.lt
      have o0 := R0.c 0 rfl; have q0 := R0.f 0 rfl; have o1 := R0.c 1 rfl; have q1 := R0.f 1 rfl; have o2 := R0.c 2 rfl; have q2 := R0.f 2 rfl; have o3 := R0.c 3 rfl; have q3 := R0.f 3 rfl; have o4 := R0.c 4 rfl; have q4 := R0.f 4 rfl; have o5 := R0.c 5 rfl; have q5 := R0.f 5 rfl; have o6 := R0.c 6 rfl; have q6 := R0.f 6 rfl; have o7 := R0.c 7 rfl; have q7 := R0.f 7 rfl
      go_wp2
      refine bodyPost_ret (v := .tuple #[.agg #[.int .u64 0, .int .u64 0, .int .u64 0, .int .u64 0, .int .u64 0, .int .u64 0, .int .u64 0, .int .u64 0], .bool false]) (by simp [results, Try.results22, go_sem, o0, o1, o2, o3, o4, o5, o6, o7]) rfl ?_
      refine ⟨by rw [HV.out], ?_⟩
      repeat' (refine Below.setCell ?_ (by simp; try omega) _)
      exact HB
    · cases hb : rightB x d
      · rw [hb] at CQ
        have HV : Hid (rrV (btL s) = .tuple #[.agg #[.int .u64 0, .int .u64 0, .int .u64 0, .int .u64 0, .int .u64 0, .int .u64 0, .int .u64 0, .int .u64 0], .bool false]) := by
          refine rrV_no fun x' y' h => ?_
          obtain ⟨h1, h2⟩ := un_one h47 (txL_47 x') (HL.symm.trans h.2.2.2)
          rw [ry rfl] at h1
          have h3 := h.2.2.1
          rw [← tx_inj h1, ← h2, hb] at h3
          exact Bool.noConfusion h3
        clear hy hn hd ry rn h47 hm HL hx hb
        go_enter Try.func22, Try.ntmps22
        go_wp2_with fail
        generalize (w.alloc (Obj.cells #[.int .u64 0, .int .u64 0, .int .u64 0, .int .u64 0, .int .u64 0, .int .u64 0, .int .u64 0, .int .u64 0] 37)) = W0 at *
        refine (CU _).mono ?_
        rintro e w1 ⟨rfl, hB⟩
        replace HB := HB.trans (hB.mono HB.size)
        replace R0 := R0.step hB
        clear hB
        clear CU
        have X1 := Blk.new w1 [.int .u64 (ww3 d), .int .u64 (ww2 d), .int .u64 (ww1 d), .int .u64 (ww0 d)] 26 rfl
        rw [show ([.int .u64 (ww3 d), .int .u64 (ww2 d), .int .u64 (ww1 d), .int .u64 (ww0 d)] : List Value).toArray = #[.int .u64 (ww3 d), .int .u64 (ww2 d), .int .u64 (ww1 d), .int .u64 (ww0 d)] from rfl] at X1
        replace HB := HB.alloc HB.size (Obj.cells #[.int .u64 (ww3 d), .int .u64 (ww2 d), .int .u64 (ww1 d), .int .u64 (ww0 d)] 26)
        replace R0 := R0.alloc (Obj.cells #[.int .u64 (ww3 d), .int .u64 (ww2 d), .int .u64 (ww1 d), .int .u64 (ww0 d)] 26)
        go_wp2_with fail
        generalize w1.heap.size = g1 at *
        generalize (w1.alloc (Obj.cells #[.int .u64 (ww3 d), .int .u64 (ww2 d), .int .u64 (ww1 d), .int .u64 (ww0 d)] 26)) = W1 at *
        refine (CR _).mono ?_
        rintro e w2 ⟨rfl, hB⟩
        replace HB := HB.trans (hB.mono HB.size)
        replace R0 := R0.step hB
        replace X1 := X1.step hB
        clear hB
        clear CR
        have X2 := Blk.new w2 [.int .u64 (ww3 x), .int .u64 (ww2 x), .int .u64 (ww1 x), .int .u64 (ww0 x)] 26 rfl
        rw [show ([.int .u64 (ww3 x), .int .u64 (ww2 x), .int .u64 (ww1 x), .int .u64 (ww0 x)] : List Value).toArray = #[.int .u64 (ww3 x), .int .u64 (ww2 x), .int .u64 (ww1 x), .int .u64 (ww0 x)] from rfl] at X2
        replace HB := HB.alloc HB.size (Obj.cells #[.int .u64 (ww3 x), .int .u64 (ww2 x), .int .u64 (ww1 x), .int .u64 (ww0 x)] 26)
        replace R0 := R0.alloc (Obj.cells #[.int .u64 (ww3 x), .int .u64 (ww2 x), .int .u64 (ww1 x), .int .u64 (ww0 x)] 26)
        replace X1 := X1.alloc (Obj.cells #[.int .u64 (ww3 x), .int .u64 (ww2 x), .int .u64 (ww1 x), .int .u64 (ww0 x)] 26)
        obtain ⟨c0, c1, c2, c3⟩ := X1.cs4
        obtain ⟨e0, e1, e2, e3⟩ := X2.cs4
        go_wp2_with fail
        clear c0 c1 c2 c3 e0 e1 e2 e3 X1 X2
        have X3 := Blk.new (w2.alloc (Obj.cells #[.int .u64 (ww3 x), .int .u64 (ww2 x), .int .u64 (ww1 x), .int .u64 (ww0 x)] 26)) [.int .u64 (ww3 x), .int .u64 (ww2 x), .int .u64 (ww1 x), .int .u64 (ww0 x), .int .u64 (ww3 d), .int .u64 (ww2 d), .int .u64 (ww1 d), .int .u64 (ww0 d)] 37 (g := w2.heap.size + 1) (by simp)
        rw [show ([.int .u64 (ww3 x), .int .u64 (ww2 x), .int .u64 (ww1 x), .int .u64 (ww0 x), .int .u64 (ww3 d), .int .u64 (ww2 d), .int .u64 (ww1 d), .int .u64 (ww0 d)] : List Value).toArray = #[.int .u64 (ww3 x), .int .u64 (ww2 x), .int .u64 (ww1 x), .int .u64 (ww0 x), .int .u64 (ww3 d), .int .u64 (ww2 d), .int .u64 (ww1 d), .int .u64 (ww0 d)] from rfl] at X3
        replace HB := HB.alloc HB.size (Obj.cells #[.int .u64 (ww3 x), .int .u64 (ww2 x), .int .u64 (ww1 x), .int .u64 (ww0 x), .int .u64 (ww3 d), .int .u64 (ww2 d), .int .u64 (ww1 d), .int .u64 (ww0 d)] 37)
        replace R0 := R0.alloc (Obj.cells #[.int .u64 (ww3 x), .int .u64 (ww2 x), .int .u64 (ww1 x), .int .u64 (ww0 x), .int .u64 (ww3 d), .int .u64 (ww2 d), .int .u64 (ww1 d), .int .u64 (ww0 d)] 37)
        generalize w2.heap.size + 1 = g3 at *
        generalize ((w2.alloc (Obj.cells #[.int .u64 (ww3 x), .int .u64 (ww2 x), .int .u64 (ww1 x), .int .u64 (ww0 x)] 26)).alloc (Obj.cells #[.int .u64 (ww3 x), .int .u64 (ww2 x), .int .u64 (ww1 x), .int .u64 (ww0 x), .int .u64 (ww3 d), .int .u64 (ww2 d), .int .u64 (ww1 d), .int .u64 (ww0 d)] 37)) = W3 at *
        refine (CQ _).mono ?_
        rintro e w3 ⟨rfl, hB⟩
        replace HB := HB.trans (hB.mono HB.size)
        replace R0 := R0.step hB
        replace X3 := X3.step hB
        clear hB
        clear CQ
        have dl := R0.lt
        have o0 := R0.c 0 rfl; have q0 := R0.f 0 rfl; have o1 := R0.c 1 rfl; have q1 := R0.f 1 rfl; have o2 := R0.c 2 rfl; have q2 := R0.f 2 rfl; have o3 := R0.c 3 rfl; have q3 := R0.f 3 rfl; have o4 := R0.c 4 rfl; have q4 := R0.f 4 rfl; have o5 := R0.c 5 rfl; have q5 := R0.f 5 rfl; have o6 := R0.c 6 rfl; have q6 := R0.f 6 rfl; have o7 := R0.c 7 rfl; have q7 := R0.f 7 rfl
        go_wp2
        refine bodyPost_ret (v := .tuple #[.agg #[.int .u64 0, .int .u64 0, .int .u64 0, .int .u64 0, .int .u64 0, .int .u64 0, .int .u64 0, .int .u64 0], .bool false]) (by simp [results, Try.results22, go_sem, o0, o1, o2, o3, o4, o5, o6, o7]) rfl ?_
        refine ⟨by rw [HV.out], ?_⟩
        repeat' (refine Below.setCell ?_ (by simp; try omega) _)
        exact HB
      · rw [hb] at CQ
        have HV : Hid (rrV (btL s) = .tuple #[.agg #[.int .u64 (ww3 x), .int .u64 (ww2 x), .int .u64 (ww1 x), .int .u64 (ww0 x), .int .u64 (ww3 d), .int .u64 (ww2 d), .int .u64 (ww1 d), .int .u64 (ww0 d)], .bool true]) := rrV_yes ⟨hx, hd, hb, by rw [HL, ry rfl]; rfl⟩
        clear hy hn hd ry rn h47 hm HL hx hb
        go_enter Try.func22, Try.ntmps22
        go_wp2_with fail
        generalize (w.alloc (Obj.cells #[.int .u64 0, .int .u64 0, .int .u64 0, .int .u64 0, .int .u64 0, .int .u64 0, .int .u64 0, .int .u64 0] 37)) = W0 at *
        refine (CU _).mono ?_
        rintro e w1 ⟨rfl, hB⟩
        replace HB := HB.trans (hB.mono HB.size)
        replace R0 := R0.step hB
        clear hB
        clear CU
        have X1 := Blk.new w1 [.int .u64 (ww3 d), .int .u64 (ww2 d), .int .u64 (ww1 d), .int .u64 (ww0 d)] 26 rfl
        rw [show ([.int .u64 (ww3 d), .int .u64 (ww2 d), .int .u64 (ww1 d), .int .u64 (ww0 d)] : List Value).toArray = #[.int .u64 (ww3 d), .int .u64 (ww2 d), .int .u64 (ww1 d), .int .u64 (ww0 d)] from rfl] at X1
        replace HB := HB.alloc HB.size (Obj.cells #[.int .u64 (ww3 d), .int .u64 (ww2 d), .int .u64 (ww1 d), .int .u64 (ww0 d)] 26)
        replace R0 := R0.alloc (Obj.cells #[.int .u64 (ww3 d), .int .u64 (ww2 d), .int .u64 (ww1 d), .int .u64 (ww0 d)] 26)
        go_wp2_with fail
        generalize w1.heap.size = g1 at *
        generalize (w1.alloc (Obj.cells #[.int .u64 (ww3 d), .int .u64 (ww2 d), .int .u64 (ww1 d), .int .u64 (ww0 d)] 26)) = W1 at *
        refine (CR _).mono ?_
        rintro e w2 ⟨rfl, hB⟩
        replace HB := HB.trans (hB.mono HB.size)
        replace R0 := R0.step hB
        replace X1 := X1.step hB
        clear hB
        clear CR
        have X2 := Blk.new w2 [.int .u64 (ww3 x), .int .u64 (ww2 x), .int .u64 (ww1 x), .int .u64 (ww0 x)] 26 rfl
        rw [show ([.int .u64 (ww3 x), .int .u64 (ww2 x), .int .u64 (ww1 x), .int .u64 (ww0 x)] : List Value).toArray = #[.int .u64 (ww3 x), .int .u64 (ww2 x), .int .u64 (ww1 x), .int .u64 (ww0 x)] from rfl] at X2
        replace HB := HB.alloc HB.size (Obj.cells #[.int .u64 (ww3 x), .int .u64 (ww2 x), .int .u64 (ww1 x), .int .u64 (ww0 x)] 26)
        replace R0 := R0.alloc (Obj.cells #[.int .u64 (ww3 x), .int .u64 (ww2 x), .int .u64 (ww1 x), .int .u64 (ww0 x)] 26)
        replace X1 := X1.alloc (Obj.cells #[.int .u64 (ww3 x), .int .u64 (ww2 x), .int .u64 (ww1 x), .int .u64 (ww0 x)] 26)
        obtain ⟨c0, c1, c2, c3⟩ := X1.cs4
        obtain ⟨e0, e1, e2, e3⟩ := X2.cs4
        go_wp2_with fail
        clear c0 c1 c2 c3 e0 e1 e2 e3 X1 X2
        have X3 := Blk.new (w2.alloc (Obj.cells #[.int .u64 (ww3 x), .int .u64 (ww2 x), .int .u64 (ww1 x), .int .u64 (ww0 x)] 26)) [.int .u64 (ww3 x), .int .u64 (ww2 x), .int .u64 (ww1 x), .int .u64 (ww0 x), .int .u64 (ww3 d), .int .u64 (ww2 d), .int .u64 (ww1 d), .int .u64 (ww0 d)] 37 (g := w2.heap.size + 1) (by simp)
        rw [show ([.int .u64 (ww3 x), .int .u64 (ww2 x), .int .u64 (ww1 x), .int .u64 (ww0 x), .int .u64 (ww3 d), .int .u64 (ww2 d), .int .u64 (ww1 d), .int .u64 (ww0 d)] : List Value).toArray = #[.int .u64 (ww3 x), .int .u64 (ww2 x), .int .u64 (ww1 x), .int .u64 (ww0 x), .int .u64 (ww3 d), .int .u64 (ww2 d), .int .u64 (ww1 d), .int .u64 (ww0 d)] from rfl] at X3
        replace HB := HB.alloc HB.size (Obj.cells #[.int .u64 (ww3 x), .int .u64 (ww2 x), .int .u64 (ww1 x), .int .u64 (ww0 x), .int .u64 (ww3 d), .int .u64 (ww2 d), .int .u64 (ww1 d), .int .u64 (ww0 d)] 37)
        replace R0 := R0.alloc (Obj.cells #[.int .u64 (ww3 x), .int .u64 (ww2 x), .int .u64 (ww1 x), .int .u64 (ww0 x), .int .u64 (ww3 d), .int .u64 (ww2 d), .int .u64 (ww1 d), .int .u64 (ww0 d)] 37)
        generalize w2.heap.size + 1 = g3 at *
        generalize ((w2.alloc (Obj.cells #[.int .u64 (ww3 x), .int .u64 (ww2 x), .int .u64 (ww1 x), .int .u64 (ww0 x)] 26)).alloc (Obj.cells #[.int .u64 (ww3 x), .int .u64 (ww2 x), .int .u64 (ww1 x), .int .u64 (ww0 x), .int .u64 (ww3 d), .int .u64 (ww2 d), .int .u64 (ww1 d), .int .u64 (ww0 d)] 37)) = W3 at *
        refine (CQ _).mono ?_
        rintro e w3 ⟨rfl, hB⟩
        replace HB := HB.trans (hB.mono HB.size)
        replace R0 := R0.step hB
        replace X3 := X3.step hB
        clear hB
        clear CQ
        obtain ⟨c0, c1, c2, c3, c4, c5, c6, c7⟩ := X3.cs8
        have dl := R0.lt
        have o0 := R0.c 0 rfl; have q0 := R0.f 0 rfl; have o1 := R0.c 1 rfl; have q1 := R0.f 1 rfl; have o2 := R0.c 2 rfl; have q2 := R0.f 2 rfl; have o3 := R0.c 3 rfl; have q3 := R0.f 3 rfl; have o4 := R0.c 4 rfl; have q4 := R0.f 4 rfl; have o5 := R0.c 5 rfl; have q5 := R0.f 5 rfl; have o6 := R0.c 6 rfl; have q6 := R0.f 6 rfl; have o7 := R0.c 7 rfl; have q7 := R0.f 7 rfl
        go_wp2
        refine bodyPost_ret (v := .tuple #[.agg #[.int .u64 (ww3 x), .int .u64 (ww2 x), .int .u64 (ww1 x), .int .u64 (ww0 x), .int .u64 (ww3 d), .int .u64 (ww2 d), .int .u64 (ww1 d), .int .u64 (ww0 d)], .bool true]) (by simp [results, Try.results22, go_sem, o0, o1, o2, o3, o4, o5, o6, o7]) rfl ?_
        refine ⟨by rw [HV.out], ?_⟩
        repeat' (refine Below.setCell ?_ (by simp; try omega) _)
        exact HB
end Go.Proofs.Ytnnojeggjnddpaa

/- A fraction read from its text: the reckoning. -/
namespace Go.Proofs.Ytnnojeggjnddpaa
open Go.RowKit
theorem tx_ne (z : Int) : txL z ≠ [] := by
  by_cases h : z < 0
  · rw [tx_neg h]; simp
  · rw [tx_pos h]; exact (dgs_dec _).1
theorem unL_lt (z : Int) : ∀ b ∈ unL z, b < 256 := by
  intro b hb
  unfold unL at hb
  split at hb
  · simp at hb
  · rcases List.mem_cons.1 hb with h | h
    · omega
    · exact txL_lt z b h
theorem raL_lt (x y : Int) : ∀ b ∈ raL x y, b < 256 := by
  intro b hb
  rcases List.mem_append.1 hb with h | h
  · exact txL_lt x b h
  · exact unL_lt y b h
end Go.Proofs.Ytnnojeggjnddpaa

/- Ratios come back from their texts: the law over drawn ones. -/
namespace Go.Proofs.Ytnnojeggjnddpaa
open Go.RowKit
theorem bigt_any (ao : Option Addr) (n cap : Nat) (w : World) (z : Bool) (hz : decide (1048576 < n) = z) : Calls Try.prog 30 #[.slice ao n cap] w (BoolP z w) := by
  subst hz
  go_enter Try.func30, Try.ntmps30
  go_wp2
  go_ret
  exact ⟨by simp; try omega, Below.refl _ _⟩
theorem rr_empty : rrV [] = .tuple #[QV 0 0, .bool false] := rrV_no fun x y h => by
  have := h.2.2.2
  unfold raL at this
  exact tx_ne x (List.append_eq_nil_iff.1 this.symm).1
set_option maxRecDepth 100000 in
set_option maxHeartbeats 8000000 in
theorem lawRatioTexts_any (ao : Option Addr) (n cap : Nat) (cs : List Int) (w : World) (h : n ≤ 1048576 → Code w ao n cs) : Calls Try.prog 10 #[.slice ao n cap] w (BoolP true w) := by
  by_cases hn : 1048576 < n
  · go_enter Try.func10, Try.ntmps10
    go_wp2_with fail
    refine (bigt_any ao n cap _ true (by simpa using hn)).mono ?_
    rintro e w1 ⟨rfl, hB⟩
    clear h
    go_wp2
    go_ret
    exact ⟨rfl, hB⟩
  · have hc := h (by omega)
    clear h
    go_enter Try.func10, Try.ntmps10
    go_wp2_with fail
    refine (bigt_any ao n cap _ false (by simpa using hn)).mono ?_
    rintro e w1 ⟨rfl, hB⟩
    replace hc := hc.below hB
    have HB := hB
    clear hB
    go_wp2_with fail
    refine (drawRatioText_any ao n cap cs _ hc).mono ?_
    rintro e w2 ⟨x, y, rfl, tx, ty, hB⟩
    replace HB := HB.trans (hB.mono HB.size)
    replace hc := hc.below hB
    clear hB
    have X1 := Blk.new w2 [.int .u64 (ww3 x), .int .u64 (ww2 x), .int .u64 (ww1 x), .int .u64 (ww0 x), .int .u64 (ww3 y), .int .u64 (ww2 y), .int .u64 (ww1 y), .int .u64 (ww0 y)] 37 rfl
    rw [show ([.int .u64 (ww3 x), .int .u64 (ww2 x), .int .u64 (ww1 x), .int .u64 (ww0 x), .int .u64 (ww3 y), .int .u64 (ww2 y), .int .u64 (ww1 y), .int .u64 (ww0 y)] : List Value).toArray = #[.int .u64 (ww3 x), .int .u64 (ww2 x), .int .u64 (ww1 x), .int .u64 (ww0 x), .int .u64 (ww3 y), .int .u64 (ww2 y), .int .u64 (ww1 y), .int .u64 (ww0 y)] from rfl] at X1
    replace HB := HB.alloc HB.size (.cells #[.int .u64 (ww3 x), .int .u64 (ww2 x), .int .u64 (ww1 x), .int .u64 (ww0 x), .int .u64 (ww3 y), .int .u64 (ww2 y), .int .u64 (ww1 y), .int .u64 (ww0 y)] 37)
    replace hc := hc.below ((Below.refl _ _).alloc (Nat.le_refl _) (.cells #[.int .u64 (ww3 x), .int .u64 (ww2 x), .int .u64 (ww1 x), .int .u64 (ww0 x), .int .u64 (ww3 y), .int .u64 (ww2 y), .int .u64 (ww1 y), .int .u64 (ww0 y)] 37))
    have CT := ratText_det x y tx ty
    have CS := specRatText_det x y tx ty
    have CO := okZ_det x y tx ty
    have E := eqRZ x y x y tx ty tx ty
    rw [show (decide (x = x) && decide (y = y)) = true by simp] at E
    cases hb : rightB x y
    · rw [hb, if_neg (by decide)] at CT CS
      rw [hb] at CO
      have CR := implReadRatio_any (strL []) (by decide)
      rw [show btL (strL []) = [] from rfl, rr_empty, show (QV 0 0) = .agg #[.int .u64 0, .int .u64 0, .int .u64 0, .int .u64 0, .int .u64 0, .int .u64 0, .int .u64 0, .int .u64 0] from rfl] at CR
      have e0 : ((strL []).toList == (strL []).toList) = true := beq_iff_eq.2 rfl
      generalize strL [] = S at *
      clear hb E
      obtain ⟨c0, c1, c2, c3, c4, c5, c6, c7⟩ := X1.cs8
      go_wp2_with fail
      clear c0 c1 c2 c3 c4 c5 c6 c7
      generalize w2.heap.size = g1 at *
      generalize (w2.alloc (.cells #[.int .u64 (ww3 x), .int .u64 (ww2 x), .int .u64 (ww1 x), .int .u64 (ww0 x), .int .u64 (ww3 y), .int .u64 (ww2 y), .int .u64 (ww1 y), .int .u64 (ww0 y)] 37)) = W1 at *
      refine (CT _).mono ?_
      rintro e w3 ⟨rfl, hB⟩
      replace HB := HB.trans (hB.mono HB.size)
      replace X1 := X1.step hB
      replace hc := hc.below hB
      clear hB
      clear CT
      go_wp2_with fail
      refine (CR _).mono ?_
      rintro e w4 ⟨rfl, hB⟩
      replace HB := HB.trans (hB.mono HB.size)
      replace X1 := X1.step hB
      replace hc := hc.below hB
      clear hB
      clear CR
      have X2 := Blk.new w4 [.int .u64 0, .int .u64 0, .int .u64 0, .int .u64 0, .int .u64 0, .int .u64 0, .int .u64 0, .int .u64 0] 37 rfl
      rw [show ([.int .u64 0, .int .u64 0, .int .u64 0, .int .u64 0, .int .u64 0, .int .u64 0, .int .u64 0, .int .u64 0] : List Value).toArray = #[.int .u64 0, .int .u64 0, .int .u64 0, .int .u64 0, .int .u64 0, .int .u64 0, .int .u64 0, .int .u64 0] from rfl] at X2
      replace HB := HB.alloc HB.size (.cells #[.int .u64 0, .int .u64 0, .int .u64 0, .int .u64 0, .int .u64 0, .int .u64 0, .int .u64 0, .int .u64 0] 37)
      replace X1 := X1.alloc (.cells #[.int .u64 0, .int .u64 0, .int .u64 0, .int .u64 0, .int .u64 0, .int .u64 0, .int .u64 0, .int .u64 0] 37)
      replace hc := hc.below ((Below.refl _ _).alloc (Nat.le_refl _) (.cells #[.int .u64 0, .int .u64 0, .int .u64 0, .int .u64 0, .int .u64 0, .int .u64 0, .int .u64 0, .int .u64 0] 37))
      obtain ⟨c0, c1, c2, c3, c4, c5, c6, c7⟩ := X1.cs8
      go_wp2_with fail
      generalize w4.heap.size = g2 at *
      generalize (w4.alloc (.cells #[.int .u64 0, .int .u64 0, .int .u64 0, .int .u64 0, .int .u64 0, .int .u64 0, .int .u64 0, .int .u64 0] 37)) = W2 at *
      refine (CS _).mono ?_
      rintro e w5 ⟨rfl, hB⟩
      replace HB := HB.trans (hB.mono HB.size)
      replace X1 := X1.step hB
      replace X2 := X2.step hB
      replace hc := hc.below hB
      clear hB
      clear CS c0 c1 c2 c3 c4 c5 c6 c7
      obtain ⟨c0, c1, c2, c3, c4, c5, c6, c7⟩ := X1.cs8
      go_wp2_with fail
      refine (CO _).mono ?_
      rintro e w6 ⟨rfl, hB⟩
      replace HB := HB.trans (hB.mono HB.size)
      replace X1 := X1.step hB
      replace X2 := X2.step hB
      replace hc := hc.below hB
      clear hB
      clear CO c0 c1 c2 c3 c4 c5 c6 c7
      obtain ⟨c0, c1, c2, c3, c4, c5, c6, c7⟩ := X1.cs8
      obtain ⟨d0, d1, d2, d3, d4, d5, d6, d7⟩ := X2.cs8
      go_wp2_with fail
      clear c0 c1 c2 c3 c4 c5 c6 c7 d0 d1 d2 d3 d4 d5 d6 d7 X1 X2
      refine (drawReadRatio_any ao n cap cs _ hc).mono ?_
      rintro e w7 ⟨s, rfl, hs, hB⟩
      replace HB := HB.trans (hB.mono HB.size)
      clear hB hc
      have CR := implReadRatio_any s (by omega)
      by_cases hk : ∃ u v, RrOk (btL s) u v
      · obtain ⟨u, v, hk⟩ := hk
        have hr := rrV_yes hk
        obtain ⟨ku, kv, hright, hl⟩ := hk
        rw [hr] at CR
        have CT := ratText_det u v ku kv
        rw [if_pos hright, ← hl, strL_btL] at CT
        have e1 : (s.toList == s.toList) = true := beq_iff_eq.2 rfl
        clear hr hright hl
        go_wp2_with fail
        refine (CR _).mono ?_
        rintro e w8 ⟨rfl, hB⟩
        replace HB := HB.trans (hB.mono HB.size)
        clear hB
        clear CR
        have X3 := Blk.new w8 [.int .u64 (ww3 u), .int .u64 (ww2 u), .int .u64 (ww1 u), .int .u64 (ww0 u), .int .u64 (ww3 v), .int .u64 (ww2 v), .int .u64 (ww1 v), .int .u64 (ww0 v)] 37 rfl
        rw [show ([.int .u64 (ww3 u), .int .u64 (ww2 u), .int .u64 (ww1 u), .int .u64 (ww0 u), .int .u64 (ww3 v), .int .u64 (ww2 v), .int .u64 (ww1 v), .int .u64 (ww0 v)] : List Value).toArray = #[.int .u64 (ww3 u), .int .u64 (ww2 u), .int .u64 (ww1 u), .int .u64 (ww0 u), .int .u64 (ww3 v), .int .u64 (ww2 v), .int .u64 (ww1 v), .int .u64 (ww0 v)] from rfl] at X3
        replace HB := HB.alloc HB.size (.cells #[.int .u64 (ww3 u), .int .u64 (ww2 u), .int .u64 (ww1 u), .int .u64 (ww0 u), .int .u64 (ww3 v), .int .u64 (ww2 v), .int .u64 (ww1 v), .int .u64 (ww0 v)] 37)
        obtain ⟨c0, c1, c2, c3, c4, c5, c6, c7⟩ := X3.cs8
        go_wp2_with fail
        clear c0 c1 c2 c3 c4 c5 c6 c7 X3
        generalize w8.heap.size = g3 at *
        generalize (w8.alloc (.cells #[.int .u64 (ww3 u), .int .u64 (ww2 u), .int .u64 (ww1 u), .int .u64 (ww0 u), .int .u64 (ww3 v), .int .u64 (ww2 v), .int .u64 (ww1 v), .int .u64 (ww0 v)] 37)) = W3 at *
        refine (CT _).mono ?_
        rintro e w9 ⟨rfl, hB⟩
        replace HB := HB.trans (hB.mono HB.size)
        clear hB
        clear CT
        go_wp2
        go_ret
        exact ⟨rfl, HB⟩
      · have hr := rrV_no (l := btL s) fun u v h => hk ⟨u, v, h⟩
        rw [hr, show (QV 0 0) = .agg #[.int .u64 0, .int .u64 0, .int .u64 0, .int .u64 0, .int .u64 0, .int .u64 0, .int .u64 0, .int .u64 0] from rfl] at CR
        clear hr hk
        go_wp2_with fail
        refine (CR _).mono ?_
        rintro e w8 ⟨rfl, hB⟩
        replace HB := HB.trans (hB.mono HB.size)
        clear hB
        clear CR
        replace HB := HB.alloc HB.size (.cells #[.int .u64 0, .int .u64 0, .int .u64 0, .int .u64 0, .int .u64 0, .int .u64 0, .int .u64 0, .int .u64 0] 37)
        go_wp2
        go_ret
        exact ⟨rfl, HB⟩
    · rw [hb, if_pos rfl] at CT CS
      rw [hb] at CO
      have CR := implReadRatio_any (strL (raL x y)) (by have := ra_size tx ty; rw [if_pos hb] at this; omega)
      rw [btL_strL (raL_lt x y), rrV_yes ⟨tx, ty, hb, rfl⟩] at CR
      have e0 : ((strL (raL x y)).toList == (strL (raL x y)).toList) = true := beq_iff_eq.2 rfl
      generalize strL (raL x y) = S at *
      clear hb
      obtain ⟨c0, c1, c2, c3, c4, c5, c6, c7⟩ := X1.cs8
      go_wp2_with fail
      clear c0 c1 c2 c3 c4 c5 c6 c7
      generalize w2.heap.size = g1 at *
      generalize (w2.alloc (.cells #[.int .u64 (ww3 x), .int .u64 (ww2 x), .int .u64 (ww1 x), .int .u64 (ww0 x), .int .u64 (ww3 y), .int .u64 (ww2 y), .int .u64 (ww1 y), .int .u64 (ww0 y)] 37)) = W1 at *
      refine (CT _).mono ?_
      rintro e w3 ⟨rfl, hB⟩
      replace HB := HB.trans (hB.mono HB.size)
      replace X1 := X1.step hB
      replace hc := hc.below hB
      clear hB
      clear CT
      go_wp2_with fail
      refine (CR _).mono ?_
      rintro e w4 ⟨rfl, hB⟩
      replace HB := HB.trans (hB.mono HB.size)
      replace X1 := X1.step hB
      replace hc := hc.below hB
      clear hB
      clear CR
      have X2 := Blk.new w4 [.int .u64 (ww3 x), .int .u64 (ww2 x), .int .u64 (ww1 x), .int .u64 (ww0 x), .int .u64 (ww3 y), .int .u64 (ww2 y), .int .u64 (ww1 y), .int .u64 (ww0 y)] 37 rfl
      rw [show ([.int .u64 (ww3 x), .int .u64 (ww2 x), .int .u64 (ww1 x), .int .u64 (ww0 x), .int .u64 (ww3 y), .int .u64 (ww2 y), .int .u64 (ww1 y), .int .u64 (ww0 y)] : List Value).toArray = #[.int .u64 (ww3 x), .int .u64 (ww2 x), .int .u64 (ww1 x), .int .u64 (ww0 x), .int .u64 (ww3 y), .int .u64 (ww2 y), .int .u64 (ww1 y), .int .u64 (ww0 y)] from rfl] at X2
      replace HB := HB.alloc HB.size (.cells #[.int .u64 (ww3 x), .int .u64 (ww2 x), .int .u64 (ww1 x), .int .u64 (ww0 x), .int .u64 (ww3 y), .int .u64 (ww2 y), .int .u64 (ww1 y), .int .u64 (ww0 y)] 37)
      replace X1 := X1.alloc (.cells #[.int .u64 (ww3 x), .int .u64 (ww2 x), .int .u64 (ww1 x), .int .u64 (ww0 x), .int .u64 (ww3 y), .int .u64 (ww2 y), .int .u64 (ww1 y), .int .u64 (ww0 y)] 37)
      replace hc := hc.below ((Below.refl _ _).alloc (Nat.le_refl _) (.cells #[.int .u64 (ww3 x), .int .u64 (ww2 x), .int .u64 (ww1 x), .int .u64 (ww0 x), .int .u64 (ww3 y), .int .u64 (ww2 y), .int .u64 (ww1 y), .int .u64 (ww0 y)] 37))
      obtain ⟨c0, c1, c2, c3, c4, c5, c6, c7⟩ := X1.cs8
      go_wp2_with fail
      generalize w4.heap.size = g2 at *
      generalize (w4.alloc (.cells #[.int .u64 (ww3 x), .int .u64 (ww2 x), .int .u64 (ww1 x), .int .u64 (ww0 x), .int .u64 (ww3 y), .int .u64 (ww2 y), .int .u64 (ww1 y), .int .u64 (ww0 y)] 37)) = W2 at *
      refine (CS _).mono ?_
      rintro e w5 ⟨rfl, hB⟩
      replace HB := HB.trans (hB.mono HB.size)
      replace X1 := X1.step hB
      replace X2 := X2.step hB
      replace hc := hc.below hB
      clear hB
      clear CS c0 c1 c2 c3 c4 c5 c6 c7
      obtain ⟨c0, c1, c2, c3, c4, c5, c6, c7⟩ := X1.cs8
      go_wp2_with fail
      refine (CO _).mono ?_
      rintro e w6 ⟨rfl, hB⟩
      replace HB := HB.trans (hB.mono HB.size)
      replace X1 := X1.step hB
      replace X2 := X2.step hB
      replace hc := hc.below hB
      clear hB
      clear CO c0 c1 c2 c3 c4 c5 c6 c7
      obtain ⟨c0, c1, c2, c3, c4, c5, c6, c7⟩ := X1.cs8
      obtain ⟨d0, d1, d2, d3, d4, d5, d6, d7⟩ := X2.cs8
      go_wp2_with fail
      clear c0 c1 c2 c3 c4 c5 c6 c7 d0 d1 d2 d3 d4 d5 d6 d7 X1 X2 E
      refine (drawReadRatio_any ao n cap cs _ hc).mono ?_
      rintro e w7 ⟨s, rfl, hs, hB⟩
      replace HB := HB.trans (hB.mono HB.size)
      clear hB hc
      have CR := implReadRatio_any s (by omega)
      by_cases hk : ∃ u v, RrOk (btL s) u v
      · obtain ⟨u, v, hk⟩ := hk
        have hr := rrV_yes hk
        obtain ⟨ku, kv, hright, hl⟩ := hk
        rw [hr] at CR
        have CT := ratText_det u v ku kv
        rw [if_pos hright, ← hl, strL_btL] at CT
        have e1 : (s.toList == s.toList) = true := beq_iff_eq.2 rfl
        clear hr hright hl
        go_wp2_with fail
        refine (CR _).mono ?_
        rintro e w8 ⟨rfl, hB⟩
        replace HB := HB.trans (hB.mono HB.size)
        clear hB
        clear CR
        have X3 := Blk.new w8 [.int .u64 (ww3 u), .int .u64 (ww2 u), .int .u64 (ww1 u), .int .u64 (ww0 u), .int .u64 (ww3 v), .int .u64 (ww2 v), .int .u64 (ww1 v), .int .u64 (ww0 v)] 37 rfl
        rw [show ([.int .u64 (ww3 u), .int .u64 (ww2 u), .int .u64 (ww1 u), .int .u64 (ww0 u), .int .u64 (ww3 v), .int .u64 (ww2 v), .int .u64 (ww1 v), .int .u64 (ww0 v)] : List Value).toArray = #[.int .u64 (ww3 u), .int .u64 (ww2 u), .int .u64 (ww1 u), .int .u64 (ww0 u), .int .u64 (ww3 v), .int .u64 (ww2 v), .int .u64 (ww1 v), .int .u64 (ww0 v)] from rfl] at X3
        replace HB := HB.alloc HB.size (.cells #[.int .u64 (ww3 u), .int .u64 (ww2 u), .int .u64 (ww1 u), .int .u64 (ww0 u), .int .u64 (ww3 v), .int .u64 (ww2 v), .int .u64 (ww1 v), .int .u64 (ww0 v)] 37)
        obtain ⟨c0, c1, c2, c3, c4, c5, c6, c7⟩ := X3.cs8
        go_wp2_with fail
        clear c0 c1 c2 c3 c4 c5 c6 c7 X3
        generalize w8.heap.size = g3 at *
        generalize (w8.alloc (.cells #[.int .u64 (ww3 u), .int .u64 (ww2 u), .int .u64 (ww1 u), .int .u64 (ww0 u), .int .u64 (ww3 v), .int .u64 (ww2 v), .int .u64 (ww1 v), .int .u64 (ww0 v)] 37)) = W3 at *
        refine (CT _).mono ?_
        rintro e w9 ⟨rfl, hB⟩
        replace HB := HB.trans (hB.mono HB.size)
        clear hB
        clear CT
        go_wp2
        go_ret
        exact ⟨rfl, HB⟩
      · have hr := rrV_no (l := btL s) fun u v h => hk ⟨u, v, h⟩
        rw [hr, show (QV 0 0) = .agg #[.int .u64 0, .int .u64 0, .int .u64 0, .int .u64 0, .int .u64 0, .int .u64 0, .int .u64 0, .int .u64 0] from rfl] at CR
        clear hr hk
        go_wp2_with fail
        refine (CR _).mono ?_
        rintro e w8 ⟨rfl, hB⟩
        replace HB := HB.trans (hB.mono HB.size)
        clear hB
        clear CR
        replace HB := HB.alloc HB.size (.cells #[.int .u64 0, .int .u64 0, .int .u64 0, .int .u64 0, .int .u64 0, .int .u64 0, .int .u64 0, .int .u64 0] 37)
        go_wp2
        go_ret
        exact ⟨rfl, HB⟩
end Go.Proofs.Ytnnojeggjnddpaa

/- What the row of a law asks of the program as a whole, each by itself. -/
namespace Go.Proofs.Ytnnojeggjnddpaa
open Go.ChangeShapes Go.WideShapes Go.ChangeAt Go.RowKit Go.Joins
theorem jn_laid : laidOutB Try.pinned.checked.prog = true := by kernel_rfl
theorem jn_maps : mapsRowed Try.pinned.checked.prog = true := by kernel_rfl
theorem jn_enter : Try.pinned.checked.prog.mayEnter = true := by kernel_rfl
theorem jn_heard : Try.pinned.checked.prog.stopsHeard = true := by kernel_rfl
end Go.Proofs.Ytnnojeggjnddpaa
