/- The walk of a number of eight words, told as four. -/
import Derived.Test.YtinilehbhdpdkaaTimesB
namespace Go.Proofs.Ytinilehbhdpdkaa
open Go.RowKit
theorem tw_cells {x0 x1 x2 x3 x4 x5 x6 x7 : Int} {w W : World} (h : ArgsB w W [[.int .u64 x0, .int .u64 x1, .int .u64 x2, .int .u64 x3, .int .u64 x4, .int .u64 x5, .int .u64 x6, .int .u64 x7], [.int .u64 0, .int .u64 0, .int .u64 0, .int .u64 0], [.int .u64 x3, .int .u64 x2, .int .u64 x1, .int .u64 x0]]) : (fun w' => w'.cell? ⟨w.heap.size, 0, none⟩ = some (.int .u64 x0) ∧ w'.cell? ⟨w.heap.size, 1, none⟩ = some (.int .u64 x1) ∧ w'.cell? ⟨w.heap.size, 2, none⟩ = some (.int .u64 x2) ∧ w'.cell? ⟨w.heap.size, 3, none⟩ = some (.int .u64 x3) ∧ w'.cell? ⟨w.heap.size, 4, none⟩ = some (.int .u64 x4) ∧ w'.cell? ⟨w.heap.size, 5, none⟩ = some (.int .u64 x5) ∧ w'.cell? ⟨w.heap.size, 6, none⟩ = some (.int .u64 x6) ∧ w'.cell? ⟨w.heap.size, 7, none⟩ = some (.int .u64 x7) ∧ w'.cell? ⟨w.heap.size + 1 + 1, 0, none⟩ = some (.int .u64 x3) ∧ w'.cell? ⟨w.heap.size + 1 + 1, 1, none⟩ = some (.int .u64 x2) ∧ w'.cell? ⟨w.heap.size + 1 + 1, 2, none⟩ = some (.int .u64 x1) ∧ w'.cell? ⟨w.heap.size + 1 + 1, 3, none⟩ = some (.int .u64 x0)) W :=
  ⟨(h.b 0 rfl).c 0 rfl, (h.b 0 rfl).c 1 rfl, (h.b 0 rfl).c 2 rfl, (h.b 0 rfl).c 3 rfl, (h.b 0 rfl).c 4 rfl, (h.b 0 rfl).c 5 rfl, (h.b 0 rfl).c 6 rfl, (h.b 0 rfl).c 7 rfl, (h.b 2 rfl).c 0 rfl, (h.b 2 rfl).c 1 rfl, (h.b 2 rfl).c 2 rfl, (h.b 2 rfl).c 3 rfl⟩
theorem tw_start (x0 x1 x2 x3 x4 x5 x6 x7 : Int) (w : World) : ArgsB w (((w.alloc (.cells #[.int .u64 x0, .int .u64 x1, .int .u64 x2, .int .u64 x3, .int .u64 x4, .int .u64 x5, .int .u64 x6, .int .u64 x7] 52)).alloc (.cells #[.int .u64 0, .int .u64 0, .int .u64 0, .int .u64 0] 26)).alloc (.cells #[.int .u64 x3, .int .u64 x2, .int .u64 x1, .int .u64 x0] 26)) [[.int .u64 x0, .int .u64 x1, .int .u64 x2, .int .u64 x3, .int .u64 x4, .int .u64 x5, .int .u64 x6, .int .u64 x7], [.int .u64 0, .int .u64 0, .int .u64 0, .int .u64 0], [.int .u64 x3, .int .u64 x2, .int .u64 x1, .int .u64 x0]] := by
  refine ⟨(((Below.refl _ _).alloc (Nat.le_refl _) _).alloc (by simp) _).alloc (by simp; omega) _, fun j vs hj => ?_⟩
  match j, hj with
  | 0, hj => cases hj; exact ((Blk.new w [.int .u64 x0, .int .u64 x1, .int .u64 x2, .int .u64 x3, .int .u64 x4, .int .u64 x5, .int .u64 x6, .int .u64 x7] 52 rfl).alloc _).alloc _
  | 1, hj => cases hj; exact (Blk.new (w.alloc (.cells #[.int .u64 x0, .int .u64 x1, .int .u64 x2, .int .u64 x3, .int .u64 x4, .int .u64 x5, .int .u64 x6, .int .u64 x7] 52)) [.int .u64 0, .int .u64 0, .int .u64 0, .int .u64 0] 26 (by simp)).alloc _
  | 2, hj => cases hj; exact Blk.new ((w.alloc (.cells #[.int .u64 x0, .int .u64 x1, .int .u64 x2, .int .u64 x3, .int .u64 x4, .int .u64 x5, .int .u64 x6, .int .u64 x7] 52)).alloc (.cells #[.int .u64 0, .int .u64 0, .int .u64 0, .int .u64 0] 26)) [.int .u64 x3, .int .u64 x2, .int .u64 x1, .int .u64 x0] 26 (by simp)
  | j + 3, hj => simp at hj
theorem words8_of {x0 x1 x2 x3 x4 x5 x6 x7 : Int} (h : Words [x0, x1, x2, x3, x4, x5, x6, x7]) : Word x0 ∧ Word x1 ∧ Word x2 ∧ Word x3 ∧ Word x4 ∧ Word x5 ∧ Word x6 ∧ Word x7 := ⟨h _ (by simp), h _ (by simp), h _ (by simp), h _ (by simp), h _ (by simp), h _ (by simp), h _ (by simp), h _ (by simp)⟩
theorem sl_told {x0 x1 x2 x3 x4 x5 x6 x7 : Int} (h : Words [x0, x1, x2, x3, x4, x5, x6, x7]) (he : x4 = fillW x3 ∧ x5 = fillW x3 ∧ x6 = fillW x3 ∧ x7 = fillW x3) : told (sl x0 x1 x2 x3 x4 x5 x6 x7) = true ∧ sw x3 x2 x1 x0 = sl x0 x1 x2 x3 x4 x5 x6 x7 := by
  obtain ⟨h0, h1, h2, h3, h4, h5, h6, h7⟩ := words8_of h
  obtain ⟨e4, e5, e6, e7⟩ := he
  have hs : sw x3 x2 x1 x0 = sl x0 x1 x2 x3 x4 x5 x6 x7 := by
    unfold sl sw uw fillW Word at *
    simp only [val64]
    by_cases p : x3 < 9223372036854775808
    · rw [if_pos p] at e4 e5 e6 e7 ⊢
      subst e4 e5 e6 e7
      rw [if_pos (by decide)]
      omega
    · rw [if_neg p] at e4 e5 e6 e7 ⊢
      subst e4 e5 e6 e7
      rw [if_neg (by decide)]
      omega
  refine ⟨?_, hs⟩
  rw [← hs]
  unfold told
  apply decide_eq_true
  unfold sw uw Word at *
  by_cases p : x3 < 9223372036854775808
  · rw [if_pos p]; omega
  · rw [if_neg p]; omega
theorem sl_not {x0 x1 x2 x3 x4 x5 x6 x7 : Int} (h : Words [x0, x1, x2, x3, x4, x5, x6, x7]) (he : ¬ (x4 = fillW x3 ∧ x5 = fillW x3 ∧ x6 = fillW x3 ∧ x7 = fillW x3)) : told (sl x0 x1 x2 x3 x4 x5 x6 x7) = false := by
  obtain ⟨h0, h1, h2, h3, h4, h5, h6, h7⟩ := words8_of h
  unfold told
  apply decide_eq_false
  intro hh
  unfold sl fillW Word at *
  simp only [val64] at hh
  by_cases p : x3 < 9223372036854775808 <;> by_cases q : x7 < 9223372036854775808
  · rw [if_pos p] at he; rw [if_pos q] at hh; omega
  · rw [if_pos p] at he; rw [if_neg q] at hh; omega
  · rw [if_neg p] at he; rw [if_pos q] at hh; omega
  · rw [if_neg p] at he; rw [if_neg q] at hh; omega
set_option maxRecDepth 100000 in
set_option maxHeartbeats 2000000 in
theorem eqLong (x0 x1 x2 x3 y4 y5 y6 y7 x4 x5 x6 x7 : Int) (w : World) : (Op.equalIn 10000 52 (L8 x0 x1 x2 x3 y4 y5 y6 y7) (L8 x0 x1 x2 x3 x4 x5 x6 x7)).run Try.prog w = .ok (y4 == x4 && y5 == x5 && y6 == x6 && y7 == x7) w := by
  have u3 := Try.underlying24
  have a3 := Try.isAgg24
  have z3 := Try.sizeOf24
  rw [show (10000 : Nat) = 9999 + 1 from rfl, Op.equalIn]
  simp only [Sem.run_bind, run_underlying Try.underlying52, Result.andThen_ok]
  simp only [Std.Legacy.Range.forIn_eq_forIn_range', Std.Legacy.Range.size, Nat.sub_zero, Nat.add_sub_cancel, Nat.div_one, List.range'_succ, List.range'_zero, List.forIn_cons, List.forIn_nil]
  go_simp
  by_cases h4 : y4 = x4 <;> by_cases h5 : y5 = x5 <;> by_cases h6 : y6 = x6 <;> by_cases h7 : y7 = x7 <;> simp [h4, h5, h6, h7]
set_option maxRecDepth 100000 in
set_option maxHeartbeats 2000000 in
theorem tellWide_any (x0 x1 x2 x3 x4 x5 x6 x7 : Int) (wx : Words [x0, x1, x2, x3, x4, x5, x6, x7]) (w : World) :
    Calls Try.prog 26 #[L8 x0 x1 x2 x3 x4 x5 x6 x7] w (TellP (sl x0 x1 x2 x3 x4 x5 x6 x7) w) := by
  have T0 := tw_start x0 x1 x2 x3 x4 x5 x6 x7 w
  have h3 := (words8_of wx).2.2.2.1
  have EQ : ∀ W : World, (Op.equalIn 10000 52 (L8 x0 x1 x2 x3 (fillW x3) (fillW x3) (fillW x3) (fillW x3)) (L8 x0 x1 x2 x3 x4 x5 x6 x7)).run Try.prog W = .ok (fillW x3 == x4 && fillW x3 == x5 && fillW x3 == x6 && fillW x3 == x7) W := eqLong _ _ _ _ _ _ _ _ _ _ _ _
  obtain ⟨B, hB0⟩ : ∃ B, (fillW x3 == x4 && fillW x3 == x5 && fillW x3 == x6 && fillW x3 == x7) = B := ⟨_, rfl⟩
  simp only [hB0] at EQ
  go_enter Try.func26, Try.ntmps26
  go_upto_region 2 with fail
  generalize (((w.alloc (.cells #[.int .u64 x0, .int .u64 x1, .int .u64 x2, .int .u64 x3, .int .u64 x4, .int .u64 x5, .int .u64 x6, .int .u64 x7] 52)).alloc (.cells #[.int .u64 0, .int .u64 0, .int .u64 0, .int .u64 0] 26)).alloc (.cells #[.int .u64 x3, .int .u64 x2, .int .u64 x1, .int .u64 x0] 26)) = W at *
  go_cut [17] (fun q wc => q = .bool (!B) ∧ ArgsB w wc [[.int .u64 x0, .int .u64 x1, .int .u64 x2, .int .u64 x3, .int .u64 x4, .int .u64 x5, .int .u64 x6, .int .u64 x7], [.int .u64 0, .int .u64 0, .int .u64 0, .int .u64 0], [.int .u64 x3, .int .u64 x2, .int .u64 x1, .int .u64 x0]])
  case first =>
    go_region_held3 (fun w' => w'.cell? ⟨w.heap.size, 0, none⟩ = some (.int .u64 x0) ∧ w'.cell? ⟨w.heap.size, 1, none⟩ = some (.int .u64 x1) ∧ w'.cell? ⟨w.heap.size, 2, none⟩ = some (.int .u64 x2) ∧ w'.cell? ⟨w.heap.size, 3, none⟩ = some (.int .u64 x3) ∧ w'.cell? ⟨w.heap.size, 4, none⟩ = some (.int .u64 x4) ∧ w'.cell? ⟨w.heap.size, 5, none⟩ = some (.int .u64 x5) ∧ w'.cell? ⟨w.heap.size, 6, none⟩ = some (.int .u64 x6) ∧ w'.cell? ⟨w.heap.size, 7, none⟩ = some (.int .u64 x7) ∧ w'.cell? ⟨w.heap.size + 1 + 1, 0, none⟩ = some (.int .u64 x3) ∧ w'.cell? ⟨w.heap.size + 1 + 1, 1, none⟩ = some (.int .u64 x2) ∧ w'.cell? ⟨w.heap.size + 1 + 1, 2, none⟩ = some (.int .u64 x1) ∧ w'.cell? ⟨w.heap.size + 1 + 1, 3, none⟩ = some (.int .u64 x0)) (first | (with_reducible exact tw_cells T0) | (with_reducible exact tw_cells T0.drew))
      ((go_at_call 44; refine (longOf_any x3 x2 x1 x0 h3 _).mono ?_; rintro e w1 ⟨rfl, hB⟩; (first | (have T1 := T0.step hB) | (have T1 := T0.drew.step hB)); clear T0; have T0 := T1; clear T1; clear hB))
    all_goals go_wp2_with fail
    all_goals go_meet
    all_goals first | exact ⟨rfl, T0⟩ | exact ⟨rfl, T0.drew⟩
  case rest =>
    clear T0 EQ
    obtain ⟨hq, T0⟩ := hcut
    subst hq
    have HB := T0.below
    have p0 := (T0.b 1 rfl).c 0 rfl; have f0 := (T0.b 1 rfl).f 0 rfl; have q0 := (T0.b 2 rfl).c 0 rfl; have p1 := (T0.b 1 rfl).c 1 rfl; have f1 := (T0.b 1 rfl).f 1 rfl; have q1 := (T0.b 2 rfl).c 1 rfl; have p2 := (T0.b 1 rfl).c 2 rfl; have f2 := (T0.b 1 rfl).f 2 rfl; have q2 := (T0.b 2 rfl).c 2 rfl; have p3 := (T0.b 1 rfl).c 3 rfl; have f3 := (T0.b 1 rfl).f 3 rfl; have q3 := (T0.b 2 rfl).c 3 rfl
    have l1 := (T0.b 1 rfl).lt
    have l2 := (T0.b 2 rfl).lt
    clear T0
    cases B
    · have hn : ¬ (x4 = fillW x3 ∧ x5 = fillW x3 ∧ x6 = fillW x3 ∧ x7 = fillW x3) := by
        rintro ⟨e4, e5, e6, e7⟩
        rw [← e4] at hB0
        simp [← e4, e5, e6, e7] at hB0
      have HT := sl_not wx hn
      clear hB0 hn
      go_wp2
      refine bodyPost_ret (v := .tuple #[.agg #[.int .u64 0, .int .u64 0, .int .u64 0, .int .u64 0], .bool false]) (by simp [results, Try.results26, go_sem, p0, p1, p2, p3]) rfl ?_
      refine ⟨?_, Or.inr ⟨HT, rfl⟩⟩
      repeat' (refine Below.setCell ?_ (by simp) _)
      exact HB
    · have he : x4 = fillW x3 ∧ x5 = fillW x3 ∧ x6 = fillW x3 ∧ x7 = fillW x3 := by
        simp at hB0
        obtain ⟨⟨⟨e4, e5⟩, e6⟩, e7⟩ := hB0
        exact ⟨e4.symm, e5.symm, e6.symm, e7.symm⟩
      have HT := sl_told wx he
      obtain ⟨w0, w1, w2, w3, -, -, -, -⟩ := words8_of wx
      clear hB0 he
      go_wp2
      refine bodyPost_ret (v := .tuple #[.agg #[.int .u64 x3, .int .u64 x2, .int .u64 x1, .int .u64 x0], .bool true]) (by simp [results, Try.results26, go_sem, p0, p1, p2, p3]) rfl ?_
      refine ⟨?_, Or.inl ⟨HT.1, x3, x2, x1, x0, rfl, w3, w2, w1, w0, HT.2⟩⟩
      repeat' (refine Below.setCell ?_ (by simp) _)
      exact HB
end Go.Proofs.Ytinilehbhdpdkaa
