/- Whether a segment meets a box: the walk of the model's part that is asked of right ones. -/
import Derived.Test.YteeeofejmgjgbaaSegF
namespace Go.Proofs.Yteeeofejmgjgbaa
open Go.RowKit
def boxOut (a b c d x y u v : Int) : Bool := decide (c < x ∨ u < a ∨ (b < y ∧ d < y) ∨ (v < b ∧ v < d))
def ups (ts : List Int) (k : Nat) : Nat := (ts.take k).countP (fun t => decide (0 < t))
def downs (ts : List Int) (k : Nat) : Nat := (ts.take k).countP (fun t => decide (t < 0))
theorem ups_succ (ts : List Int) (k : Nat) (t : Int) (h : ts[k]? = some t) : ups ts (k + 1) = ups ts k + (if 0 < t then 1 else 0) := by
  unfold ups
  rw [List.take_add_one, h]
  simp [List.countP_append, List.countP_cons]
theorem downs_succ (ts : List Int) (k : Nat) (t : Int) (h : ts[k]? = some t) : downs ts (k + 1) = downs ts k + (if t < 0 then 1 else 0) := by
  unfold downs
  rw [List.take_add_one, h]
  simp [List.countP_append, List.countP_cons]
theorem ups_le (ts : List Int) (k : Nat) : ups ts k ≤ k := by
  unfold ups
  exact Nat.le_trans List.countP_le_length (by simp; omega)
theorem downs_le (ts : List Int) (k : Nat) : downs ts k ≤ k := by
  unfold downs
  exact Nat.le_trans List.countP_le_length (by simp; omega)
theorem ups_four (p q r s : Int) : decide (ups [p, q, r, s] 4 < 4) = rights [p, q, r, s] 4 := by
  unfold ups rights
  by_cases h0 : 0 < p <;> by_cases h1 : 0 < q <;> by_cases h2 : 0 < r <;> by_cases h3 : 0 < s <;> simp [h0, h1, h2, h3] <;> omega
theorem downs_four (p q r s : Int) : decide (downs [p, q, r, s] 4 < 4) = lefts [p, q, r, s] 4 := by
  unfold downs lefts
  by_cases h0 : p < 0 <;> by_cases h1 : q < 0 <;> by_cases h2 : r < 0 <;> by_cases h3 : s < 0 <;> simp [h0, h1, h2, h3] <;> omega
theorem box_start (a b c d x y u v : Int) (w : World) (t1 t2 t3 : TypeId) : ArgsB w (((w.alloc (.cells #[.int .i64 a, .int .i64 b, .int .i64 c, .int .i64 d] t1)).alloc (.cells #[.int .i64 x, .int .i64 y] t2)).alloc (.cells #[.int .i64 u, .int .i64 v] t3)) [[.int .i64 a, .int .i64 b, .int .i64 c, .int .i64 d], [.int .i64 x, .int .i64 y], [.int .i64 u, .int .i64 v]] := by
  refine ⟨(((Below.refl _ _).alloc (Nat.le_refl _) _).alloc (by simp) _).alloc (by simp; omega) _, fun j vs hj => ?_⟩
  match j, hj with
  | 0, hj => cases hj; exact ((Blk.new w [.int .i64 a, .int .i64 b, .int .i64 c, .int .i64 d] t1 rfl).alloc _).alloc _
  | 1, hj => cases hj; exact (Blk.new (w.alloc (.cells #[.int .i64 a, .int .i64 b, .int .i64 c, .int .i64 d] t1)) [.int .i64 x, .int .i64 y] t2 (by simp)).alloc _
  | 2, hj => cases hj; exact Blk.new ((w.alloc (.cells #[.int .i64 a, .int .i64 b, .int .i64 c, .int .i64 d] t1)).alloc (.cells #[.int .i64 x, .int .i64 y] t2)) [.int .i64 u, .int .i64 v] t3 (by simp)
  | j + 3, hj => simp at hj
set_option maxRecDepth 100000 in
set_option maxHeartbeats 2000000 in
theorem l4MeetsBox_any (a b c d x y u v : Int) (ha : In6 a) (hb : In6 b) (hc : In6 c) (hd : In6 d) (hx : In6 x) (hy : In6 y) (hu : In6 u) (hv : In6 v) (w : World) :
    Calls Try.prog 10 #[Sg a b c d, Sp x y, Sp u v] w (BoolP (!boxOut a b c d x y u v && (lefts [turnI a b c d x y, turnI a b c d u v, turnI a b c d x v, turnI a b c d u y] 4 && rights [turnI a b c d x y, turnI a b c d u v, turnI a b c d x v, turnI a b c d u y] 4)) w) := by
  obtain ⟨ts, hts⟩ : ∃ ts, [turnI a b c d x y, turnI a b c d u v, turnI a b c d x v, turnI a b c d u y] = ts := ⟨_, rfl⟩
  have HF1 := ups_four (turnI a b c d x y) (turnI a b c d u v) (turnI a b c d x v) (turnI a b c d u y)
  have HF2 := downs_four (turnI a b c d x y) (turnI a b c d u v) (turnI a b c d x v) (turnI a b c d u y)
  rw [hts] at HF1 HF2 ⊢
  have T0 := box_start a b c d x y u v w 29 27 27
  go_enter Try.func10, Try.ntmps10
  go_upto_region 1 with fail
  generalize (((w.alloc (.cells #[.int .i64 a, .int .i64 b, .int .i64 c, .int .i64 d] 29)).alloc (.cells #[.int .i64 x, .int .i64 y] 27)).alloc (.cells #[.int .i64 u, .int .i64 v] 27)) = W at *
  go_cut [56] (fun q wx => q = .bool (boxOut a b c d x y u v) ∧ ArgsB w wx [[.int .i64 a, .int .i64 b, .int .i64 c, .int .i64 d], [.int .i64 x, .int .i64 y], [.int .i64 u, .int .i64 v]])
  case first =>
    have a0 := (T0.b 0 rfl).c 0 rfl; have a1 := (T0.b 0 rfl).c 1 rfl; have a2 := (T0.b 0 rfl).c 2 rfl; have a3 := (T0.b 0 rfl).c 3 rfl; have b0 := (T0.b 1 rfl).c 0 rfl; have b1 := (T0.b 1 rfl).c 1 rfl; have c0 := (T0.b 2 rfl).c 0 rfl; have c1 := (T0.b 2 rfl).c 1 rfl; have alt := (T0.b 2 rfl).lt
    simp only [Nat.add_zero] at a0 a1 a2 a3
    go_wp2
    all_goals go_meet
    all_goals refine ⟨?_, T0⟩
    all_goals (apply congrArg Value.bool; unfold boxOut; rw [Bool.eq_iff_iff]; simp; try omega)
  case rest =>
    clear T0
    obtain ⟨hq, T0⟩ := hcut
    subst hq
    have a0 := (T0.b 0 rfl).c 0 rfl; have a1 := (T0.b 0 rfl).c 1 rfl; have a2 := (T0.b 0 rfl).c 2 rfl; have a3 := (T0.b 0 rfl).c 3 rfl; have b0 := (T0.b 1 rfl).c 0 rfl; have b1 := (T0.b 1 rfl).c 1 rfl; have c0 := (T0.b 2 rfl).c 0 rfl; have c1 := (T0.b 2 rfl).c 1 rfl; have alt := (T0.b 2 rfl).lt
    simp only [Nat.add_zero] at a0 a1 a2 a3
    obtain ⟨O, hO⟩ : ∃ O, boxOut a b c d x y u v = O := ⟨_, rfl⟩
    rw [hO]
    cases O
    · go_wp2
      have I0 : PartI w (wc.alloc (.cells #[.int .i64 x, .int .i64 y, .int .i64 u, .int .i64 v, .int .i64 x, .int .i64 v, .int .i64 u, .int .i64 y] 27)) wc.heap.size [.int .i64 a, .int .i64 b, .int .i64 c, .int .i64 d] [.int .i64 x, .int .i64 y, .int .i64 u, .int .i64 v, .int .i64 x, .int .i64 v, .int .i64 u, .int .i64 y] :=
        ⟨T0.below.alloc T0.below.size _, (T0.b 0 rfl).alloc _, Blk.new wc [.int .i64 x, .int .i64 y, .int .i64 u, .int .i64 v, .int .i64 x, .int .i64 v, .int .i64 u, .int .i64 y] 27 rfl⟩
      clear a0 a1 a2 a3 b0 b1 c0 c1 alt T0
      generalize wc.alloc (.cells #[.int .i64 x, .int .i64 y, .int .i64 u, .int .i64 v, .int .i64 x, .int .i64 v, .int .i64 u, .int .i64 y] 27) = W1 at *
      generalize wc.heap.size = g at *
      go_loopw [7, 8, 71] (fun o p i wr => ∃ k : Nat, k ≤ 4 ∧ i = .int .i64 k ∧ o = .int .i64 (ups ts k) ∧ p = .int .i64 (downs ts k) ∧ PartI w wr g [.int .i64 a, .int .i64 b, .int .i64 c, .int .i64 d] [.int .i64 x, .int .i64 y, .int .i64 u, .int .i64 v, .int .i64 x, .int .i64 v, .int .i64 u, .int .i64 y]) (fun _ _ i _ => 4 - (intOf i).toNat)
      case atStart => exact ⟨0, by omega, rfl, rfl, rfl, I0⟩
      case round =>
        clear I0
        obtain ⟨k, hk, rfl, rfl, rfl, I0⟩ := hrel
        have ca0 := I0.seg.c 0 rfl; have ca1 := I0.seg.c 1 rfl; have ca2 := I0.seg.c 2 rfl; have ca3 := I0.seg.c 3 rfl; have calt := I0.seg.lt
        have U := ups_le ts k
        have D := downs_le ts k
        rcases (by omega : k = 0 ∨ k = 1 ∨ k = 2 ∨ k = 3 ∨ k = 4) with rfl | rfl | rfl | rfl | rfl
        · have e1 := I0.row.c 0 rfl; have e2 := I0.row.c 1 rfl
          have K1 := ups_succ ts 0 (turnI a b c d x y) (by rw [← hts]; rfl)
          have K2 := downs_succ ts 0 (turnI a b c d x y) (by rw [← hts]; rfl)
          obtain ⟨L, hL⟩ : ∃ L, ups ts 0 = L := ⟨_, rfl⟩
          obtain ⟨R, hR⟩ : ∃ R, downs ts 0 = R := ⟨_, rfl⟩
          rw [hL] at K1 U ⊢; rw [hR] at K2 D ⊢
          clear hL hR hts HF1 HF2
          go_wp2_with fail
          refine (l4Turn_any a b c d x y ha hb hc hd hx hy _).mono ?_
          rintro e w1 ⟨rfl, hB⟩
          replace I0 := (I0.alloc _).step hB
          clear ca0 ca1 ca2 ca3 calt e1 e2 hB
          generalize turnI a b c d x y = t at *
          rcases Int.lt_trichotomy t 0 with ht | ht | ht
          · have hs : sgn t = -1 := by unfold sgn; rw [if_pos ht]
            rw [if_neg (by omega)] at K1; rw [if_pos ht] at K2
            rw [hs]
            go_wp2
            all_goals go_roundw
            all_goals first | exact ⟨0 + 1, by omega, rfl, by rw [K1]; simp, by rw [K2]; simp, I0⟩ | simp [intOf]
          · have hs : sgn t = 0 := by unfold sgn; rw [if_neg (by omega), if_neg (by omega)]
            rw [if_neg (by omega)] at K1; rw [if_neg (by omega)] at K2
            rw [hs]
            go_wp2
            all_goals go_roundw
            all_goals first | exact ⟨0 + 1, by omega, rfl, by rw [K1]; simp, by rw [K2]; simp, I0⟩ | simp [intOf]
          · have hs : sgn t = 1 := by unfold sgn; rw [if_neg (by omega), if_pos ht]
            rw [if_pos ht] at K1; rw [if_neg (by omega)] at K2
            rw [hs]
            go_wp2
            all_goals go_roundw
            all_goals first | exact ⟨0 + 1, by omega, rfl, by rw [K1]; simp, by rw [K2]; simp, I0⟩ | simp [intOf]
        · have e1 := I0.row.c 2 rfl; have e2 := I0.row.c 3 rfl
          have K1 := ups_succ ts 1 (turnI a b c d u v) (by rw [← hts]; rfl)
          have K2 := downs_succ ts 1 (turnI a b c d u v) (by rw [← hts]; rfl)
          obtain ⟨L, hL⟩ : ∃ L, ups ts 1 = L := ⟨_, rfl⟩
          obtain ⟨R, hR⟩ : ∃ R, downs ts 1 = R := ⟨_, rfl⟩
          rw [hL] at K1 U ⊢; rw [hR] at K2 D ⊢
          clear hL hR hts HF1 HF2
          go_wp2_with fail
          refine (l4Turn_any a b c d u v ha hb hc hd hu hv _).mono ?_
          rintro e w1 ⟨rfl, hB⟩
          replace I0 := (I0.alloc _).step hB
          clear ca0 ca1 ca2 ca3 calt e1 e2 hB
          generalize turnI a b c d u v = t at *
          rcases Int.lt_trichotomy t 0 with ht | ht | ht
          · have hs : sgn t = -1 := by unfold sgn; rw [if_pos ht]
            rw [if_neg (by omega)] at K1; rw [if_pos ht] at K2
            rw [hs]
            go_wp2
            all_goals go_roundw
            all_goals first | exact ⟨1 + 1, by omega, rfl, by rw [K1]; simp, by rw [K2]; simp, I0⟩ | simp [intOf]
          · have hs : sgn t = 0 := by unfold sgn; rw [if_neg (by omega), if_neg (by omega)]
            rw [if_neg (by omega)] at K1; rw [if_neg (by omega)] at K2
            rw [hs]
            go_wp2
            all_goals go_roundw
            all_goals first | exact ⟨1 + 1, by omega, rfl, by rw [K1]; simp, by rw [K2]; simp, I0⟩ | simp [intOf]
          · have hs : sgn t = 1 := by unfold sgn; rw [if_neg (by omega), if_pos ht]
            rw [if_pos ht] at K1; rw [if_neg (by omega)] at K2
            rw [hs]
            go_wp2
            all_goals go_roundw
            all_goals first | exact ⟨1 + 1, by omega, rfl, by rw [K1]; simp, by rw [K2]; simp, I0⟩ | simp [intOf]
        · have e1 := I0.row.c 4 rfl; have e2 := I0.row.c 5 rfl
          have K1 := ups_succ ts 2 (turnI a b c d x v) (by rw [← hts]; rfl)
          have K2 := downs_succ ts 2 (turnI a b c d x v) (by rw [← hts]; rfl)
          obtain ⟨L, hL⟩ : ∃ L, ups ts 2 = L := ⟨_, rfl⟩
          obtain ⟨R, hR⟩ : ∃ R, downs ts 2 = R := ⟨_, rfl⟩
          rw [hL] at K1 U ⊢; rw [hR] at K2 D ⊢
          clear hL hR hts HF1 HF2
          go_wp2_with fail
          refine (l4Turn_any a b c d x v ha hb hc hd hx hv _).mono ?_
          rintro e w1 ⟨rfl, hB⟩
          replace I0 := (I0.alloc _).step hB
          clear ca0 ca1 ca2 ca3 calt e1 e2 hB
          generalize turnI a b c d x v = t at *
          rcases Int.lt_trichotomy t 0 with ht | ht | ht
          · have hs : sgn t = -1 := by unfold sgn; rw [if_pos ht]
            rw [if_neg (by omega)] at K1; rw [if_pos ht] at K2
            rw [hs]
            go_wp2
            all_goals go_roundw
            all_goals first | exact ⟨2 + 1, by omega, rfl, by rw [K1]; simp, by rw [K2]; simp, I0⟩ | simp [intOf]
          · have hs : sgn t = 0 := by unfold sgn; rw [if_neg (by omega), if_neg (by omega)]
            rw [if_neg (by omega)] at K1; rw [if_neg (by omega)] at K2
            rw [hs]
            go_wp2
            all_goals go_roundw
            all_goals first | exact ⟨2 + 1, by omega, rfl, by rw [K1]; simp, by rw [K2]; simp, I0⟩ | simp [intOf]
          · have hs : sgn t = 1 := by unfold sgn; rw [if_neg (by omega), if_pos ht]
            rw [if_pos ht] at K1; rw [if_neg (by omega)] at K2
            rw [hs]
            go_wp2
            all_goals go_roundw
            all_goals first | exact ⟨2 + 1, by omega, rfl, by rw [K1]; simp, by rw [K2]; simp, I0⟩ | simp [intOf]
        · have e1 := I0.row.c 6 rfl; have e2 := I0.row.c 7 rfl
          have K1 := ups_succ ts 3 (turnI a b c d u y) (by rw [← hts]; rfl)
          have K2 := downs_succ ts 3 (turnI a b c d u y) (by rw [← hts]; rfl)
          obtain ⟨L, hL⟩ : ∃ L, ups ts 3 = L := ⟨_, rfl⟩
          obtain ⟨R, hR⟩ : ∃ R, downs ts 3 = R := ⟨_, rfl⟩
          rw [hL] at K1 U ⊢; rw [hR] at K2 D ⊢
          clear hL hR hts HF1 HF2
          go_wp2_with fail
          refine (l4Turn_any a b c d u y ha hb hc hd hu hy _).mono ?_
          rintro e w1 ⟨rfl, hB⟩
          replace I0 := (I0.alloc _).step hB
          clear ca0 ca1 ca2 ca3 calt e1 e2 hB
          generalize turnI a b c d u y = t at *
          rcases Int.lt_trichotomy t 0 with ht | ht | ht
          · have hs : sgn t = -1 := by unfold sgn; rw [if_pos ht]
            rw [if_neg (by omega)] at K1; rw [if_pos ht] at K2
            rw [hs]
            go_wp2
            all_goals go_roundw
            all_goals first | exact ⟨3 + 1, by omega, rfl, by rw [K1]; simp, by rw [K2]; simp, I0⟩ | simp [intOf]
          · have hs : sgn t = 0 := by unfold sgn; rw [if_neg (by omega), if_neg (by omega)]
            rw [if_neg (by omega)] at K1; rw [if_neg (by omega)] at K2
            rw [hs]
            go_wp2
            all_goals go_roundw
            all_goals first | exact ⟨3 + 1, by omega, rfl, by rw [K1]; simp, by rw [K2]; simp, I0⟩ | simp [intOf]
          · have hs : sgn t = 1 := by unfold sgn; rw [if_neg (by omega), if_pos ht]
            rw [if_pos ht] at K1; rw [if_neg (by omega)] at K2
            rw [hs]
            go_wp2
            all_goals go_roundw
            all_goals first | exact ⟨3 + 1, by omega, rfl, by rw [K1]; simp, by rw [K2]; simp, I0⟩ | simp [intOf]
        · obtain ⟨L, hL⟩ : ∃ L, ups ts 4 = L := ⟨_, rfl⟩
          obtain ⟨R, hR⟩ : ∃ R, downs ts 4 = R := ⟨_, rfl⟩
          rw [hL] at HF1 U ⊢; rw [hR] at HF2 D ⊢
          clear hL hR hts
          go_wp2
          all_goals go_ret
          all_goals exact ⟨ret_bool (by first | (rw [hO, ← HF1, ← HF2, Bool.eq_iff_iff]; simp; done) | (rw [hO, ← HF1, ← HF2, Bool.eq_iff_iff]; simp; omega) | (rw [← HF1, ← HF2, Bool.eq_iff_iff]; simp; done) | (rw [← HF1, ← HF2, Bool.eq_iff_iff]; simp; omega)), I0.below⟩
    · go_wp2
      go_ret
      exact ⟨ret_bool (by rw [hO]; rfl), T0.below⟩
end Go.Proofs.Yteeeofejmgjgbaa
