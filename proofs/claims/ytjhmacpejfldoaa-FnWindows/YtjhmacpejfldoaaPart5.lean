/- Part 5 of the walks that the proof leans on. -/
import Derived.Test.YtjhmacpejfldoaaPart4
import Derived.Test.YtjhmacpejfldoaaRows
import Derived.ProofKit
import Derived.Lib.SmallJoins
/- Whether a segment meets a box: the walk of the model's part that is asked of right ones. -/
namespace Go.Proofs.Ytjhmacpejfldoaa
open Go.RowKit
def boxOut (a b c d x y u v : Int) : Bool := decide (c < x ∨ u < a ∨ (b < y ∧ d < y) ∨ (v < b ∧ v < d))
def ups (ts : List Int) (k : Nat) : Nat := (ts.take k).countP (fun t => decide (0 < t))
def downs (ts : List Int) (k : Nat) : Nat := (ts.take k).countP (fun t => decide (t < 0))
theorem ups_succ (ts : List Int) (k : Nat) (t : Int) (h : ts[k]? = some t) : ups ts (k + 1) = ups ts k + (if 0 < t then 1 else 0) := by
  unfold ups
  rw [List.take_add_one, h]
  simp [List.countP_append, List.countP_cons]
theorem downs_succ (ts : List Int) (k : Nat) (t : Int) (h : ts[k]? = some t) : downs ts (k + 1) = downs ts k + (if t < 0 then 1 else 0) := by
  unfold downs
  rw [List.take_add_one, h]
  simp [List.countP_append, List.countP_cons]
theorem ups_le (ts : List Int) (k : Nat) : ups ts k ≤ k := by
  unfold ups
  exact Nat.le_trans List.countP_le_length (by simp; omega)
theorem downs_le (ts : List Int) (k : Nat) : downs ts k ≤ k := by
  unfold downs
  exact Nat.le_trans List.countP_le_length (by simp; omega)
theorem ups_four (p q r s : Int) : decide (ups [p, q, r, s] 4 < 4) = rights [p, q, r, s] 4 := by
  unfold ups rights
  by_cases h0 : 0 < p <;> by_cases h1 : 0 < q <;> by_cases h2 : 0 < r <;> by_cases h3 : 0 < s <;> simp [h0, h1, h2, h3] <;> omega
theorem downs_four (p q r s : Int) : decide (downs [p, q, r, s] 4 < 4) = lefts [p, q, r, s] 4 := by
  unfold downs lefts
  by_cases h0 : p < 0 <;> by_cases h1 : q < 0 <;> by_cases h2 : r < 0 <;> by_cases h3 : s < 0 <;> simp [h0, h1, h2, h3] <;> omega
theorem box_start (a b c d x y u v : Int) (w : World) (t1 t2 t3 : TypeId) : ArgsB w (((w.alloc (.cells #[.int .i64 a, .int .i64 b, .int .i64 c, .int .i64 d] t1)).alloc (.cells #[.int .i64 x, .int .i64 y] t2)).alloc (.cells #[.int .i64 u, .int .i64 v] t3)) [[.int .i64 a, .int .i64 b, .int .i64 c, .int .i64 d], [.int .i64 x, .int .i64 y], [.int .i64 u, .int .i64 v]] := by
  refine ⟨(((Below.refl _ _).alloc (Nat.le_refl _) _).alloc (by simp) _).alloc (by simp; omega) _, fun j vs hj => ?_⟩
  match j, hj with
  | 0, hj => cases hj; exact ((Blk.new w [.int .i64 a, .int .i64 b, .int .i64 c, .int .i64 d] t1 rfl).alloc _).alloc _
  | 1, hj => cases hj; exact (Blk.new (w.alloc (.cells #[.int .i64 a, .int .i64 b, .int .i64 c, .int .i64 d] t1)) [.int .i64 x, .int .i64 y] t2 (by simp)).alloc _
  | 2, hj => cases hj; exact Blk.new ((w.alloc (.cells #[.int .i64 a, .int .i64 b, .int .i64 c, .int .i64 d] t1)).alloc (.cells #[.int .i64 x, .int .i64 y] t2)) [.int .i64 u, .int .i64 v] t3 (by simp)
  | j + 3, hj => simp at hj
set_option maxRecDepth 100000 in
set_option maxHeartbeats 2000000 in
theorem l4MeetsBox_any (a b c d x y u v : Int) (ha : In6 a) (hb : In6 b) (hc : In6 c) (hd : In6 d) (hx : In6 x) (hy : In6 y) (hu : In6 u) (hv : In6 v) (w : World) :
    Calls Try.prog 44 #[Sg a b c d, Sp x y, Sp u v] w (BoolP (!boxOut a b c d x y u v && (lefts [turnSp a b c d x y, turnSp a b c d u v, turnSp a b c d x v, turnSp a b c d u y] 4 && rights [turnSp a b c d x y, turnSp a b c d u v, turnSp a b c d x v, turnSp a b c d u y] 4)) w) := by
  obtain ⟨ts, hts⟩ : ∃ ts, [turnSp a b c d x y, turnSp a b c d u v, turnSp a b c d x v, turnSp a b c d u y] = ts := ⟨_, rfl⟩
  have HF1 := ups_four (turnSp a b c d x y) (turnSp a b c d u v) (turnSp a b c d x v) (turnSp a b c d u y)
  have HF2 := downs_four (turnSp a b c d x y) (turnSp a b c d u v) (turnSp a b c d x v) (turnSp a b c d u y)
  rw [hts] at HF1 HF2 ⊢
  have T0 := box_start a b c d x y u v w 39 26 26
  go_enter Try.func44, Try.ntmps44
  go_upto_region 1 with fail
  generalize (((w.alloc (.cells #[.int .i64 a, .int .i64 b, .int .i64 c, .int .i64 d] 39)).alloc (.cells #[.int .i64 x, .int .i64 y] 26)).alloc (.cells #[.int .i64 u, .int .i64 v] 26)) = W at *
  go_cut [56] (fun q wx => q = .bool (boxOut a b c d x y u v) ∧ ArgsB w wx [[.int .i64 a, .int .i64 b, .int .i64 c, .int .i64 d], [.int .i64 x, .int .i64 y], [.int .i64 u, .int .i64 v]])
  case first =>
    have a0 := (T0.b 0 rfl).c 0 rfl; have a1 := (T0.b 0 rfl).c 1 rfl; have a2 := (T0.b 0 rfl).c 2 rfl; have a3 := (T0.b 0 rfl).c 3 rfl; have b0 := (T0.b 1 rfl).c 0 rfl; have b1 := (T0.b 1 rfl).c 1 rfl; have c0 := (T0.b 2 rfl).c 0 rfl; have c1 := (T0.b 2 rfl).c 1 rfl; have alt := (T0.b 2 rfl).lt
    simp only [Nat.add_zero] at a0 a1 a2 a3
    go_wp2
    all_goals go_meet
    all_goals refine ⟨?_, T0⟩
    all_goals (apply congrArg Value.bool; unfold boxOut; rw [Bool.eq_iff_iff]; simp; try omega)
  case rest =>
    clear T0
    obtain ⟨hq, T0⟩ := hcut
    subst hq
    have a0 := (T0.b 0 rfl).c 0 rfl; have a1 := (T0.b 0 rfl).c 1 rfl; have a2 := (T0.b 0 rfl).c 2 rfl; have a3 := (T0.b 0 rfl).c 3 rfl; have b0 := (T0.b 1 rfl).c 0 rfl; have b1 := (T0.b 1 rfl).c 1 rfl; have c0 := (T0.b 2 rfl).c 0 rfl; have c1 := (T0.b 2 rfl).c 1 rfl; have alt := (T0.b 2 rfl).lt
    simp only [Nat.add_zero] at a0 a1 a2 a3
    obtain ⟨O, hO⟩ : ∃ O, boxOut a b c d x y u v = O := ⟨_, rfl⟩
    rw [hO]
    cases O
    · go_wp2
      have I0 : PartI w (wc.alloc (.cells #[.int .i64 x, .int .i64 y, .int .i64 u, .int .i64 v, .int .i64 x, .int .i64 v, .int .i64 u, .int .i64 y] 26)) wc.heap.size [.int .i64 a, .int .i64 b, .int .i64 c, .int .i64 d] [.int .i64 x, .int .i64 y, .int .i64 u, .int .i64 v, .int .i64 x, .int .i64 v, .int .i64 u, .int .i64 y] :=
        ⟨T0.below.alloc T0.below.size _, (T0.b 0 rfl).alloc _, Blk.new wc [.int .i64 x, .int .i64 y, .int .i64 u, .int .i64 v, .int .i64 x, .int .i64 v, .int .i64 u, .int .i64 y] 26 rfl⟩
      clear a0 a1 a2 a3 b0 b1 c0 c1 alt T0
      generalize wc.alloc (.cells #[.int .i64 x, .int .i64 y, .int .i64 u, .int .i64 v, .int .i64 x, .int .i64 v, .int .i64 u, .int .i64 y] 26) = W1 at *
      generalize wc.heap.size = g at *
      go_loopw [7, 8, 71] (fun o p i wr => ∃ k : Nat, k ≤ 4 ∧ i = .int .i64 k ∧ o = .int .i64 (ups ts k) ∧ p = .int .i64 (downs ts k) ∧ PartI w wr g [.int .i64 a, .int .i64 b, .int .i64 c, .int .i64 d] [.int .i64 x, .int .i64 y, .int .i64 u, .int .i64 v, .int .i64 x, .int .i64 v, .int .i64 u, .int .i64 y]) (fun _ _ i _ => 4 - (intOf i).toNat)
      case atStart => exact ⟨0, by omega, rfl, rfl, rfl, I0⟩
      case round =>
        clear I0
        obtain ⟨k, hk, rfl, rfl, rfl, I0⟩ := hrel
        have ca0 := I0.seg.c 0 rfl; have ca1 := I0.seg.c 1 rfl; have ca2 := I0.seg.c 2 rfl; have ca3 := I0.seg.c 3 rfl; have calt := I0.seg.lt
        have U := ups_le ts k
        have D := downs_le ts k
        rcases (by omega : k = 0 ∨ k = 1 ∨ k = 2 ∨ k = 3 ∨ k = 4) with rfl | rfl | rfl | rfl | rfl
        · have e1 := I0.row.c 0 rfl; have e2 := I0.row.c 1 rfl
          have K1 := ups_succ ts 0 (turnSp a b c d x y) (by rw [← hts]; rfl)
          have K2 := downs_succ ts 0 (turnSp a b c d x y) (by rw [← hts]; rfl)
          obtain ⟨L, hL⟩ : ∃ L, ups ts 0 = L := ⟨_, rfl⟩
          obtain ⟨R, hR⟩ : ∃ R, downs ts 0 = R := ⟨_, rfl⟩
          rw [hL] at K1 U ⊢; rw [hR] at K2 D ⊢
          clear hL hR hts HF1 HF2
          go_wp2_with fail
          refine (l4Turn_any a b c d x y ha hb hc hd hx hy _).mono ?_
          rintro e w1 ⟨rfl, hB⟩
          replace I0 := (I0.alloc _).step hB
          clear ca0 ca1 ca2 ca3 calt e1 e2 hB
          generalize turnSp a b c d x y = t at *
          rcases Int.lt_trichotomy t 0 with ht | ht | ht
          · have hs : sgnSp t = -1 := by unfold sgnSp; rw [if_pos ht]
            rw [if_neg (by omega)] at K1; rw [if_pos ht] at K2
            rw [hs]
            go_wp2
            all_goals go_roundw
            all_goals first | exact ⟨0 + 1, by omega, rfl, by rw [K1]; simp, by rw [K2]; simp, I0⟩ | simp [intOf]
          · have hs : sgnSp t = 0 := by unfold sgnSp; rw [if_neg (by omega), if_neg (by omega)]
            rw [if_neg (by omega)] at K1; rw [if_neg (by omega)] at K2
            rw [hs]
            go_wp2
            all_goals go_roundw
            all_goals first | exact ⟨0 + 1, by omega, rfl, by rw [K1]; simp, by rw [K2]; simp, I0⟩ | simp [intOf]
          · have hs : sgnSp t = 1 := by unfold sgnSp; rw [if_neg (by omega), if_pos ht]
            rw [if_pos ht] at K1; rw [if_neg (by omega)] at K2
            rw [hs]
            go_wp2
            all_goals go_roundw
            all_goals first | exact ⟨0 + 1, by omega, rfl, by rw [K1]; simp, by rw [K2]; simp, I0⟩ | simp [intOf]
        · have e1 := I0.row.c 2 rfl; have e2 := I0.row.c 3 rfl
          have K1 := ups_succ ts 1 (turnSp a b c d u v) (by rw [← hts]; rfl)
          have K2 := downs_succ ts 1 (turnSp a b c d u v) (by rw [← hts]; rfl)
          obtain ⟨L, hL⟩ : ∃ L, ups ts 1 = L := ⟨_, rfl⟩
          obtain ⟨R, hR⟩ : ∃ R, downs ts 1 = R := ⟨_, rfl⟩
          rw [hL] at K1 U ⊢; rw [hR] at K2 D ⊢
          clear hL hR hts HF1 HF2
          go_wp2_with fail
          refine (l4Turn_any a b c d u v ha hb hc hd hu hv _).mono ?_
          rintro e w1 ⟨rfl, hB⟩
          replace I0 := (I0.alloc _).step hB
          clear ca0 ca1 ca2 ca3 calt e1 e2 hB
          generalize turnSp a b c d u v = t at *
          rcases Int.lt_trichotomy t 0 with ht | ht | ht
          · have hs : sgnSp t = -1 := by unfold sgnSp; rw [if_pos ht]
            rw [if_neg (by omega)] at K1; rw [if_pos ht] at K2
            rw [hs]
            go_wp2
            all_goals go_roundw
            all_goals first | exact ⟨1 + 1, by omega, rfl, by rw [K1]; simp, by rw [K2]; simp, I0⟩ | simp [intOf]
          · have hs : sgnSp t = 0 := by unfold sgnSp; rw [if_neg (by omega), if_neg (by omega)]
            rw [if_neg (by omega)] at K1; rw [if_neg (by omega)] at K2
            rw [hs]
            go_wp2
            all_goals go_roundw
            all_goals first | exact ⟨1 + 1, by omega, rfl, by rw [K1]; simp, by rw [K2]; simp, I0⟩ | simp [intOf]
          · have hs : sgnSp t = 1 := by unfold sgnSp; rw [if_neg (by omega), if_pos ht]
            rw [if_pos ht] at K1; rw [if_neg (by omega)] at K2
            rw [hs]
            go_wp2
            all_goals go_roundw
            all_goals first | exact ⟨1 + 1, by omega, rfl, by rw [K1]; simp, by rw [K2]; simp, I0⟩ | simp [intOf]
        · have e1 := I0.row.c 4 rfl; have e2 := I0.row.c 5 rfl
          have K1 := ups_succ ts 2 (turnSp a b c d x v) (by rw [← hts]; rfl)
          have K2 := downs_succ ts 2 (turnSp a b c d x v) (by rw [← hts]; rfl)
          obtain ⟨L, hL⟩ : ∃ L, ups ts 2 = L := ⟨_, rfl⟩
          obtain ⟨R, hR⟩ : ∃ R, downs ts 2 = R := ⟨_, rfl⟩
          rw [hL] at K1 U ⊢; rw [hR] at K2 D ⊢
          clear hL hR hts HF1 HF2
          go_wp2_with fail
          refine (l4Turn_any a b c d x v ha hb hc hd hx hv _).mono ?_
          rintro e w1 ⟨rfl, hB⟩
          replace I0 := (I0.alloc _).step hB
          clear ca0 ca1 ca2 ca3 calt e1 e2 hB
          generalize turnSp a b c d x v = t at *
          rcases Int.lt_trichotomy t 0 with ht | ht | ht
          · have hs : sgnSp t = -1 := by unfold sgnSp; rw [if_pos ht]
            rw [if_neg (by omega)] at K1; rw [if_pos ht] at K2
            rw [hs]
            go_wp2
            all_goals go_roundw
            all_goals first | exact ⟨2 + 1, by omega, rfl, by rw [K1]; simp, by rw [K2]; simp, I0⟩ | simp [intOf]
          · have hs : sgnSp t = 0 := by unfold sgnSp; rw [if_neg (by omega), if_neg (by omega)]
            rw [if_neg (by omega)] at K1; rw [if_neg (by omega)] at K2
            rw [hs]
            go_wp2
            all_goals go_roundw
            all_goals first | exact ⟨2 + 1, by omega, rfl, by rw [K1]; simp, by rw [K2]; simp, I0⟩ | simp [intOf]
          · have hs : sgnSp t = 1 := by unfold sgnSp; rw [if_neg (by omega), if_pos ht]
            rw [if_pos ht] at K1; rw [if_neg (by omega)] at K2
            rw [hs]
            go_wp2
            all_goals go_roundw
            all_goals first | exact ⟨2 + 1, by omega, rfl, by rw [K1]; simp, by rw [K2]; simp, I0⟩ | simp [intOf]
        · have e1 := I0.row.c 6 rfl; have e2 := I0.row.c 7 rfl
          have K1 := ups_succ ts 3 (turnSp a b c d u y) (by rw [← hts]; rfl)
          have K2 := downs_succ ts 3 (turnSp a b c d u y) (by rw [← hts]; rfl)
          obtain ⟨L, hL⟩ : ∃ L, ups ts 3 = L := ⟨_, rfl⟩
          obtain ⟨R, hR⟩ : ∃ R, downs ts 3 = R := ⟨_, rfl⟩
          rw [hL] at K1 U ⊢; rw [hR] at K2 D ⊢
          clear hL hR hts HF1 HF2
          go_wp2_with fail
          refine (l4Turn_any a b c d u y ha hb hc hd hu hy _).mono ?_
          rintro e w1 ⟨rfl, hB⟩
          replace I0 := (I0.alloc _).step hB
          clear ca0 ca1 ca2 ca3 calt e1 e2 hB
          generalize turnSp a b c d u y = t at *
          rcases Int.lt_trichotomy t 0 with ht | ht | ht
          · have hs : sgnSp t = -1 := by unfold sgnSp; rw [if_pos ht]
            rw [if_neg (by omega)] at K1; rw [if_pos ht] at K2
            rw [hs]
            go_wp2
            all_goals go_roundw
            all_goals first | exact ⟨3 + 1, by omega, rfl, by rw [K1]; simp, by rw [K2]; simp, I0⟩ | simp [intOf]
          · have hs : sgnSp t = 0 := by unfold sgnSp; rw [if_neg (by omega), if_neg (by omega)]
            rw [if_neg (by omega)] at K1; rw [if_neg (by omega)] at K2
            rw [hs]
            go_wp2
            all_goals go_roundw
            all_goals first | exact ⟨3 + 1, by omega, rfl, by rw [K1]; simp, by rw [K2]; simp, I0⟩ | simp [intOf]
          · have hs : sgnSp t = 1 := by unfold sgnSp; rw [if_neg (by omega), if_pos ht]
            rw [if_pos ht] at K1; rw [if_neg (by omega)] at K2
            rw [hs]
            go_wp2
            all_goals go_roundw
            all_goals first | exact ⟨3 + 1, by omega, rfl, by rw [K1]; simp, by rw [K2]; simp, I0⟩ | simp [intOf]
        · obtain ⟨L, hL⟩ : ∃ L, ups ts 4 = L := ⟨_, rfl⟩
          obtain ⟨R, hR⟩ : ∃ R, downs ts 4 = R := ⟨_, rfl⟩
          rw [hL] at HF1 U ⊢; rw [hR] at HF2 D ⊢
          clear hL hR hts
          go_wp2
          all_goals go_ret
          all_goals exact ⟨ret_bool (by first | (rw [hO, ← HF1, ← HF2, Bool.eq_iff_iff]; simp; done) | (rw [hO, ← HF1, ← HF2, Bool.eq_iff_iff]; simp; omega) | (rw [← HF1, ← HF2, Bool.eq_iff_iff]; simp; done) | (rw [← HF1, ← HF2, Bool.eq_iff_iff]; simp; omega)), I0.below⟩
    · go_wp2
      go_ret
      exact ⟨ret_bool (by rw [hO]; rfl), T0.below⟩
end Go.Proofs.Ytjhmacpejfldoaa

/- Whether a segment meets a box: the walks of the program and of the model, and of the law. -/
namespace Go.Proofs.Ytjhmacpejfldoaa
open Go.RowKit
def boxOk (x y u v : Int) : Bool := spotOk x y && spotOk u v && decide (x ≤ u) && decide (y ≤ v)
def meetsBx (a b c d x y u v : Int) : Bool := segOk a b c d && boxOk x y u v && (!boxOut a b c d x y u v && (lefts [turnSp a b c d x y, turnSp a b c d u v, turnSp a b c d x v, turnSp a b c d u y] 4 && rights [turnSp a b c d x y, turnSp a b c d u v, turnSp a b c d x v, turnSp a b c d u y] 4))
theorem in6_of_spot {x y : Int} (h : spotOk x y = true) : In6 x ∧ In6 y := by
  unfold spotOk at h
  simp at h
  exact ⟨⟨by omega, by omega⟩, ⟨by omega, by omega⟩⟩
theorem spots_of_seg {a b c d : Int} (h : segOk a b c d = true) : spotOk a b = true ∧ spotOk c d = true := by
  unfold segOk at h
  simp at h
  exact ⟨h.1.1, h.1.2⟩
set_option maxRecDepth 100000 in
set_option maxHeartbeats 1000000 in
theorem l4Box_any (x y u v : Int) (z : Bool) (hz : boxOk x y u v = z) (w : World) : Calls Try.prog 43 #[Sp x y, Sp u v] w (BoolP z w) := by
  have B0 := (Blk.new w [.int .i64 x, .int .i64 y] 26 rfl).alloc (.cells #[.int .i64 u, .int .i64 v] 26)
  have B1 := Blk.new (w.alloc (.cells #[.int .i64 x, .int .i64 y] 26)) [.int .i64 u, .int .i64 v] 26 (g := w.heap.size + 1) (by simp)
  have HB0 := ((Below.refl _ w).alloc (Nat.le_refl _) (.cells #[.int .i64 x, .int .i64 y] 26)).alloc (by simp) (.cells #[.int .i64 u, .int .i64 v] 26)
  by_cases h1 : spotOk x y = true
  · by_cases h2 : spotOk u v = true
    · go_enter Try.func43, Try.ntmps43
      go_wp2_with fail
      refine (specSpotOk_any _ _ true h1 _).mono ?_
      rintro e w1 ⟨rfl, hB⟩
      replace B0 := B0.step hB; replace B1 := B1.step hB
      have HB : Below w.heap.size w w1 := HB0.trans (hB.mono HB0.size)
      clear hB HB0
      have p0 := B0.c 0 rfl; have p1 := B0.c 1 rfl; have q0 := B1.c 0 rfl; have q1 := B1.c 1 rfl
      go_wp2_with fail
      refine (specSpotOk_any _ _ true h2 _).mono ?_
      rintro e w2 ⟨rfl, hB⟩
      have HB2 : Below w.heap.size w w2 := HB.trans (hB.mono HB.size)
      replace B0 := B0.step hB; replace B1 := B1.step hB
      clear hB HB p0 p1 q0 q1
      have p0 := B0.c 0 rfl; have p1 := B0.c 1 rfl; have q0 := B1.c 0 rfl; have q1 := B1.c 1 rfl
      go_wp2
      all_goals go_ret
      all_goals exact ⟨ret_bool (by rw [← hz]; unfold boxOk; rw [h1, h2, Bool.eq_iff_iff]; simp; try omega), HB2⟩
    · have h2 := Bool.eq_false_iff.2 h2
      go_enter Try.func43, Try.ntmps43
      go_wp2_with fail
      refine (specSpotOk_any _ _ true h1 _).mono ?_
      rintro e w1 ⟨rfl, hB⟩
      replace B0 := B0.step hB; replace B1 := B1.step hB
      have HB : Below w.heap.size w w1 := HB0.trans (hB.mono HB0.size)
      clear hB HB0
      have p0 := B0.c 0 rfl; have p1 := B0.c 1 rfl; have q0 := B1.c 0 rfl; have q1 := B1.c 1 rfl
      go_wp2_with fail
      refine (specSpotOk_any _ _ false h2 _).mono ?_
      rintro e w2 ⟨rfl, hB⟩
      have HB2 : Below w.heap.size w w2 := HB.trans (hB.mono HB.size)
      clear hB HB p0 p1 q0 q1
      go_wp2
      go_ret
      exact ⟨ret_bool (by rw [← hz]; simp [boxOk, h1, h2]), HB2⟩
  · have h1 := Bool.eq_false_iff.2 h1
    go_enter Try.func43, Try.ntmps43
    go_wp2_with fail
    refine (specSpotOk_any _ _ false h1 _).mono ?_
    rintro e w1 ⟨rfl, hB⟩
    have HB : Below w.heap.size w w1 := HB0.trans (hB.mono HB0.size)
    clear hB HB0
    go_wp2
    go_ret
    exact ⟨ret_bool (by rw [← hz]; simp [boxOk, h1]), HB⟩
end Go.Proofs.Ytjhmacpejfldoaa

/- Whether a segment meets a box: the walk of the program. -/
namespace Go.Proofs.Ytjhmacpejfldoaa
open Go.RowKit
set_option maxRecDepth 100000 in
set_option maxHeartbeats 2000000 in
theorem isBox_any (x y u v : Int) (w : World) : Calls Try.prog 41 #[Sp x y, Sp u v] w (BoolP (boxOk x y u v) w) := by
  have B0 := (Blk.new w [.int .i64 x, .int .i64 y] 26 rfl).alloc (.cells #[.int .i64 u, .int .i64 v] 26)
  have B1 := Blk.new (w.alloc (.cells #[.int .i64 x, .int .i64 y] 26)) [.int .i64 u, .int .i64 v] 26 (g := w.heap.size + 1) (by simp)
  have HB : Below w.heap.size w ((w.alloc (.cells #[.int .i64 x, .int .i64 y] 26)).alloc (.cells #[.int .i64 u, .int .i64 v] 26)) := ((Below.refl _ w).alloc (Nat.le_refl _) _).alloc (by simp) _
  go_enter Try.func41, Try.ntmps41
  go_upto_region 1 with fail
  generalize ((w.alloc (.cells #[.int .i64 x, .int .i64 y] 26)).alloc (.cells #[.int .i64 u, .int .i64 v] 26)) = W at *
  have b0 := B0.c 0 rfl; have b1 := B0.c 1 rfl; have c0 := B1.c 0 rfl; have c1 := B1.c 1 rfl
  by_cases h2 : spotOk x y = true
  · by_cases h3 : spotOk u v = true
    · skip
      go_wp2_with fail
      refine (implSpotOk_any _ _ true h2 _).mono ?_
      rintro e w1 ⟨rfl, hB⟩
      replace B0 := B0.step hB; replace B1 := B1.step hB; replace HB := HB.trans (hB.mono HB.size)
      clear hB
      clear b0 b1 c0 c1
      have b0 := B0.c 0 rfl; have b1 := B0.c 1 rfl; have c0 := B1.c 0 rfl; have c1 := B1.c 1 rfl
      go_wp2_with fail
      refine (implSpotOk_any _ _ true h3 _).mono ?_
      rintro e w2 ⟨rfl, hB⟩
      replace B0 := B0.step hB; replace B1 := B1.step hB; replace HB := HB.trans (hB.mono HB.size)
      clear hB
      clear b0 b1 c0 c1
      have b0 := B0.c 0 rfl; have b1 := B0.c 1 rfl; have c0 := B1.c 0 rfl; have c1 := B1.c 1 rfl
      by_cases h4 : x ≤ u
      · have HO : Hid (boxOk x y u v = decide (y ≤ v)) := by show _ = _; simp [boxOk, h2, h3, h4]
        clear h2 h3
        go_wp2
        all_goals go_ret
        all_goals exact ⟨ret_bool (by rw [HO.out]), HB⟩
      · have HO : Hid (boxOk x y u v = false) := by show _ = _; simp [boxOk, h4]
        have h4' : u < x := by omega
        clear h2 h3 h4
        go_wp2
        all_goals go_ret
        all_goals exact ⟨ret_bool (by rw [HO.out]), HB⟩
    · have h3 := Bool.eq_false_iff.2 h3
      have HO : Hid (boxOk x y u v = false) := by show _ = _; simp [boxOk, h3]
      go_wp2_with fail
      refine (implSpotOk_any _ _ true h2 _).mono ?_
      rintro e w1 ⟨rfl, hB⟩
      replace B0 := B0.step hB; replace B1 := B1.step hB; replace HB := HB.trans (hB.mono HB.size)
      clear hB
      clear b0 b1 c0 c1
      have b0 := B0.c 0 rfl; have b1 := B0.c 1 rfl; have c0 := B1.c 0 rfl; have c1 := B1.c 1 rfl
      go_wp2_with fail
      refine (implSpotOk_any _ _ false h3 _).mono ?_
      rintro e w2 ⟨rfl, hB⟩
      replace B0 := B0.step hB; replace B1 := B1.step hB; replace HB := HB.trans (hB.mono HB.size)
      clear hB
      clear b0 b1 c0 c1 h2 h3
      go_wp2
      all_goals go_ret
      all_goals exact ⟨ret_bool (by rw [HO.out]), HB⟩
  · have h2 := Bool.eq_false_iff.2 h2
    have HO : Hid (boxOk x y u v = false) := by show _ = _; simp [boxOk, h2]
    go_wp2_with fail
    refine (implSpotOk_any _ _ false h2 _).mono ?_
    rintro e w1 ⟨rfl, hB⟩
    replace B0 := B0.step hB; replace B1 := B1.step hB; replace HB := HB.trans (hB.mono HB.size)
    clear hB
    clear b0 b1 c0 c1 h2
    go_wp2
    all_goals go_ret
    all_goals exact ⟨ret_bool (by rw [HO.out]), HB⟩
set_option maxRecDepth 100000 in
set_option maxHeartbeats 2000000 in
theorem meetsBox_any (a b c d x y u v : Int) (ha : In6 a) (hb : In6 b) (hc : In6 c) (hd : In6 d) (hx : In6 x) (hy : In6 y) (hu : In6 u) (hv : In6 v) (w : World) : Calls Try.prog 42 #[Sg a b c d, Sp x y, Sp u v] w (BoolP (!boxOut a b c d x y u v && (lefts [turnSp a b c d x y, turnSp a b c d u v, turnSp a b c d x v, turnSp a b c d u y] 4 && rights [turnSp a b c d x y, turnSp a b c d u v, turnSp a b c d x v, turnSp a b c d u y] 4)) w) := by
  have T0 := box_start a b c d x y u v w 39 26 26
  go_enter Try.func42, Try.ntmps42
  go_upto_region 1 with fail
  generalize (((w.alloc (.cells #[.int .i64 a, .int .i64 b, .int .i64 c, .int .i64 d] 39)).alloc (.cells #[.int .i64 x, .int .i64 y] 26)).alloc (.cells #[.int .i64 u, .int .i64 v] 26)) = W at *
  have a0 := (T0.b 0 rfl).c 0 rfl; have a1 := (T0.b 0 rfl).c 1 rfl; have a2 := (T0.b 0 rfl).c 2 rfl; have a3 := (T0.b 0 rfl).c 3 rfl; have b0 := (T0.b 1 rfl).c 0 rfl; have b1 := (T0.b 1 rfl).c 1 rfl; have c0 := (T0.b 2 rfl).c 0 rfl; have c1 := (T0.b 2 rfl).c 1 rfl; have alt := (T0.b 2 rfl).lt; simp only [Nat.add_zero] at a0 a1 a2 a3
  go_cut [44] (fun q wx => q = .bool (boxOut a b c d x y u v) ∧ ArgsB w wx [[.int .i64 a, .int .i64 b, .int .i64 c, .int .i64 d], [.int .i64 x, .int .i64 y], [.int .i64 u, .int .i64 v]])
  case first =>
    go_wp2
    all_goals go_meet
    all_goals refine ⟨?_, T0⟩
    all_goals (apply congrArg Value.bool; unfold boxOut; rw [Bool.eq_iff_iff]; simp; try omega)
  case rest =>
    clear a0 a1 a2 a3 b0 b1 c0 c1 alt T0
    obtain ⟨hq, T0⟩ := hcut
    subst hq
    have a0 := (T0.b 0 rfl).c 0 rfl; have a1 := (T0.b 0 rfl).c 1 rfl; have a2 := (T0.b 0 rfl).c 2 rfl; have a3 := (T0.b 0 rfl).c 3 rfl; have b0 := (T0.b 1 rfl).c 0 rfl; have b1 := (T0.b 1 rfl).c 1 rfl; have c0 := (T0.b 2 rfl).c 0 rfl; have c1 := (T0.b 2 rfl).c 1 rfl; have alt := (T0.b 2 rfl).lt; simp only [Nat.add_zero] at a0 a1 a2 a3
    obtain ⟨M, hM⟩ : ∃ M, boxOut a b c d x y u v = M := ⟨_, rfl⟩
    rw [hM]
    cases M
    · go_wp2_with fail
      refine (parts_any a b c d x y u v x v u y ha hb hc hd hx hy hu hv hx hv hu hy wc.heap.size _ (Blk.new wc [.int .i64 x, .int .i64 y, .int .i64 u, .int .i64 v, .int .i64 x, .int .i64 v, .int .i64 u, .int .i64 y] 26 rfl)).mono ?_
      rintro e w4 ⟨rfl, hB⟩
      have HB : Below w.heap.size w w4 := (T0.alloc _).below.trans (hB.mono (T0.alloc _).below.size)
      clear hB a0 a1 a2 a3 b0 b1 c0 c1 alt T0
      go_wp2
      go_ret
      exact ⟨ret_bool (by simp [hM]), HB⟩
    · have HBF := T0.below
      clear a0 a1 a2 a3 b0 b1 c0 c1 alt T0
      go_wp2
      go_ret
      exact ⟨ret_bool (by simp [hM]), HBF⟩
set_option maxRecDepth 100000 in
set_option maxHeartbeats 2000000 in
theorem implMeetsBox_any (a b c d x y u v : Int) (z : Bool) (hz : meetsBx a b c d x y u v = z) (w : World) : Calls Try.prog 16 #[Sg a b c d, Sp x y, Sp u v] w (BoolP z w) := by
  have T0 := box_start a b c d x y u v w 39 26 26
  go_enter Try.func16, Try.ntmps16
  go_upto_region 1 with fail
  generalize (((w.alloc (.cells #[.int .i64 a, .int .i64 b, .int .i64 c, .int .i64 d] 39)).alloc (.cells #[.int .i64 x, .int .i64 y] 26)).alloc (.cells #[.int .i64 u, .int .i64 v] 26)) = W at *
  have a0 := (T0.b 0 rfl).c 0 rfl; have a1 := (T0.b 0 rfl).c 1 rfl; have a2 := (T0.b 0 rfl).c 2 rfl; have a3 := (T0.b 0 rfl).c 3 rfl; have b0 := (T0.b 1 rfl).c 0 rfl; have b1 := (T0.b 1 rfl).c 1 rfl; have c0 := (T0.b 2 rfl).c 0 rfl; have c1 := (T0.b 2 rfl).c 1 rfl; have alt := (T0.b 2 rfl).lt; simp only [Nat.add_zero] at a0 a1 a2 a3
  by_cases h1 : segOk a b c d = true
  · go_wp2_with fail
    refine (implSegOk_any _ _ _ _ true h1 _).mono ?_
    rintro e w1 ⟨rfl, hB⟩
    replace T0 := T0.step hB
    clear hB a0 a1 a2 a3 b0 b1 c0 c1 alt
    have a0 := (T0.b 0 rfl).c 0 rfl; have a1 := (T0.b 0 rfl).c 1 rfl; have a2 := (T0.b 0 rfl).c 2 rfl; have a3 := (T0.b 0 rfl).c 3 rfl; have b0 := (T0.b 1 rfl).c 0 rfl; have b1 := (T0.b 1 rfl).c 1 rfl; have c0 := (T0.b 2 rfl).c 0 rfl; have c1 := (T0.b 2 rfl).c 1 rfl; have alt := (T0.b 2 rfl).lt; simp only [Nat.add_zero] at a0 a1 a2 a3
    have IB := isBox_any x y u v
    by_cases h2 : boxOk x y u v = true
    · rw [h2] at IB
      go_wp2_with fail
      refine (IB _).mono ?_
      rintro e w2 ⟨rfl, hB⟩
      replace T0 := T0.step hB
      clear hB a0 a1 a2 a3 b0 b1 c0 c1 alt IB
      have a0 := (T0.b 0 rfl).c 0 rfl; have a1 := (T0.b 0 rfl).c 1 rfl; have a2 := (T0.b 0 rfl).c 2 rfl; have a3 := (T0.b 0 rfl).c 3 rfl; have b0 := (T0.b 1 rfl).c 0 rfl; have b1 := (T0.b 1 rfl).c 1 rfl; have c0 := (T0.b 2 rfl).c 0 rfl; have c1 := (T0.b 2 rfl).c 1 rfl; have alt := (T0.b 2 rfl).lt; simp only [Nat.add_zero] at a0 a1 a2 a3
      have s12 : spotOk x y = true ∧ spotOk u v = true := by
        have := h2
        simp only [boxOk, Bool.and_eq_true] at this
        exact ⟨this.1.1.1, this.1.1.2⟩
      obtain ⟨s1, s2⟩ := spots_of_seg h1
      obtain ⟨ha, hb⟩ := in6_of_spot s1
      obtain ⟨hc, hd⟩ := in6_of_spot s2
      obtain ⟨hx, hy⟩ := in6_of_spot s12.1
      obtain ⟨hu, hv⟩ := in6_of_spot s12.2
      have HO : Hid (z = (!boxOut a b c d x y u v && (lefts [turnSp a b c d x y, turnSp a b c d u v, turnSp a b c d x v, turnSp a b c d u y] 4 && rights [turnSp a b c d x y, turnSp a b c d u v, turnSp a b c d x v, turnSp a b c d u y] 4))) := by show _ = _; rw [← hz]; simp only [meetsBx, h1, h2, Bool.true_and]
      have MB := meetsBox_any a b c d x y u v ha hb hc hd hx hy hu hv
      clear ha hb hc hd hx hy hu hv s1 s2 s12 h1 h2 hz
      generalize (!boxOut a b c d x y u v && (lefts [turnSp a b c d x y, turnSp a b c d u v, turnSp a b c d x v, turnSp a b c d u y] 4 && rights [turnSp a b c d x y, turnSp a b c d u v, turnSp a b c d x v, turnSp a b c d u y] 4)) = m at *
      go_wp2_with fail
      refine (MB _).mono ?_
      rintro e w3 ⟨rfl, hB⟩
      replace T0 := T0.step hB
      clear hB a0 a1 a2 a3 b0 b1 c0 c1 alt MB
      have HBF := T0.below
      clear T0
      go_wp2
      go_ret
      exact ⟨ret_bool HO.out, HBF⟩
    · have h2 := Bool.eq_false_iff.2 h2
      rw [h2] at IB
      have HO : Hid (z = false) := by show _ = _; rw [← hz]; simp [meetsBx, h2]
      go_wp2_with fail
      refine (IB _).mono ?_
      rintro e w2 ⟨rfl, hB⟩
      replace T0 := T0.step hB
      have HBF := T0.below
      clear hB a0 a1 a2 a3 b0 b1 c0 c1 alt IB T0
      go_wp2
      go_ret
      exact ⟨ret_bool (by rw [HO.out]), HBF⟩
  · have h1 := Bool.eq_false_iff.2 h1
    have HO : Hid (z = false) := by show _ = _; rw [← hz]; simp [meetsBx, h1]
    go_wp2_with fail
    refine (implSegOk_any _ _ _ _ false h1 _).mono ?_
    rintro e w1 ⟨rfl, hB⟩
    replace T0 := T0.step hB
    have HBF := T0.below
    clear hB a0 a1 a2 a3 b0 b1 c0 c1 alt T0
    go_wp2
    go_ret
    exact ⟨ret_bool (by rw [HO.out]), HBF⟩
end Go.Proofs.Ytjhmacpejfldoaa

/- Segments that meet a box, by their numbers: both sides. -/
namespace Go.Proofs.Ytjhmacpejfldoaa
open Go.RowKit
/-- A right segment meets a box. -/
def hitB (a b c d x y u v : Int) : Bool := !boxOut a b c d x y u v && (lefts [turnSp a b c d x y, turnSp a b c d u v, turnSp a b c d x v, turnSp a b c d u y] 4 && rights [turnSp a b c d x y, turnSp a b c d u v, turnSp a b c d x v, turnSp a b c d u y] 4)
def hitAt (x : Nat → Int) (p q u v : Int) (i : Nat) : Bool := hitB (x (i * 4)) (x (i * 4 + 1)) (x (i * 4 + 2)) (x (i * 4 + 3)) p q u v
/-- The numbers of those of the first c that meet it. -/
def winL (x : Nat → Int) (p q u v : Int) (c : Nat) : List Int := ((List.range c).filter (hitAt x p q u v)).map fun (i : Nat) => (i : Int)
theorem winL_hit {x : Nat → Int} {p q u v : Int} {c : Nat} (h : hitAt x p q u v c = true) : winL x p q u v (c + 1) = winL x p q u v c ++ [(c : Int)] := by simp [winL, List.range_succ, List.filter_append, h]
theorem winL_miss {x : Nat → Int} {p q u v : Int} {c : Nat} (h : hitAt x p q u v c = false) : winL x p q u v (c + 1) = winL x p q u v c := by simp [winL, List.range_succ, List.filter_append, h]
theorem winL_len (x : Nat → Int) (p q u v : Int) (c : Nat) : (winL x p q u v c).length ≤ c := by
  unfold winL
  rw [List.length_map]
  exact Nat.le_trans (List.length_filter_le _ _) (by simp)
def winOk (n : Nat) (x : Nat → Int) (p q u v : Int) : Bool := decide (sgI n x = 0) && boxOk p q u v
def winR (n : Nat) (x : Nat → Int) (p q u v : Int) : List Int := if winOk n x p q u v then winL x p q u v n else []
/-- What is told of the segments that meet a box: a row of its own, and whether it is told. -/
def WinP (b : Bool) (L : List Int) (w : World) (e : Ending) (w' : World) : Prop := ∃ v, e = .returned (.tuple #[v, .bool b]) ∧ NoOwn w' w.heap.size v L ∧ Below w.heap.size w w'
theorem sgI_zero {n : Nat} {x : Nat → Int} (h : sgI n x = 0) : n ≤ 40 ∧ ∀ i, i < n → segOk (x (i * 4)) (x (i * 4 + 1)) (x (i * 4 + 2)) (x (i * 4 + 3)) = true := by
  unfold sgI at h
  split at h
  · cases h
  · split at h
    · exact ⟨by omega, by assumption⟩
    · cases h
theorem win_start (x y u v : Int) (w : World) (T : TypeId) : ArgsB w ((w.alloc (.cells #[.int .i64 x, .int .i64 y] T)).alloc (.cells #[.int .i64 u, .int .i64 v] T)) [[.int .i64 x, .int .i64 y], [.int .i64 u, .int .i64 v]] := by
  refine ⟨((Below.refl _ _).alloc (Nat.le_refl _) _).alloc (by simp) _, fun j vs hj => ?_⟩
  match j, hj with
  | 0, hj => cases hj; exact (Blk.new w [.int .i64 x, .int .i64 y] T rfl).alloc _
  | 1, hj => cases hj; exact Blk.new (w.alloc (.cells #[.int .i64 x, .int .i64 y] T)) [.int .i64 u, .int .i64 v] T (by simp)
  | j + 2, hj => simp at hj
theorem own_step {w w' : World} {base n : Nat} {e : TypeId} {v : Value} {xs : List Value} (h : w.ownsRow base e 1 v n xs) (hB : Below w.heap.size w w') : w'.ownsRow base e 1 v n xs := by
  rcases h with ⟨h0, h1 | ⟨g, cap, cur, h1, h2, h3, h4⟩⟩
  · exact ⟨h0, .inl h1⟩
  · refine ⟨h0, .inr ⟨g, cap, cur, h1, h2, ?_, h4⟩⟩
    rw [hB.block g (Array.getElem?_eq_some_iff.1 h3).1]
    exact h3
theorem argsB_grown {w W W' : World} {vss : List (List Value)} {row : Option Nat} (h : ArgsB w W vss) (hl : w.heap.size + vss.length ≤ W.heap.size) (hg : W.grownBy W' row) (hr : ∀ k, row = some k → w.heap.size + vss.length ≤ k) : ArgsB w W' vss := by
  have hB : Below (w.heap.size + vss.length) W W' := (Below.refl _ W).grown hg hl hr
  refine ⟨h.1.trans (hB.mono (by omega)), fun j vs hj => (h.2 j vs hj).below hB ?_⟩
  have := (List.getElem?_eq_some_iff.1 hj).1
  omega
theorem NoOwn.mono {w : World} {b b' : Nat} {v : Value} {L : List Int} (h : NoOwn w b' v L) (hb : b ≤ b') : NoOwn w b v L := by
  rcases h with h | ⟨g, cap, f, h1, h2, h3⟩
  · exact .inl h
  · exact .inr ⟨g, cap, f, h1, by omega, h3⟩
set_option maxRecDepth 100000 in
theorem l7Ok_any (ao : Option Addr) (n cap : Nat) (x : Nat → Int) (w : World) (hS : SegIn w ao n x) : Calls Try.prog 25 #[.slice ao n cap] w (BoolP (decide (sgI n x = 0)) w) := by
  have C := specSegsFault_any ao n cap x w hS
  revert C
  generalize sgI n x = o
  intro C
  clear hS
  go_enter Try.func25, Try.ntmps25
  go_wp2_with fail
  refine C.mono ?_
  rintro e w1 ⟨rfl, hB⟩
  by_cases h : o = 0
  · subst h
    go_wp2
    go_ret
    exact ⟨rfl, hB⟩
  · have hf : (o == 0) = false := by simp; omega
    have HD : Hid (decide (o = 0) = false) := decide_eq_false h
    go_wp2
    go_ret
    exact ⟨by rw [HD.out]; rfl, hB⟩
set_option maxRecDepth 100000 in
set_option maxHeartbeats 4000000 in
theorem specWindow_any (ao : Option Addr) (n cap : Nat) (x : Nat → Int) (p q u v : Int) (w : World) (hS : SegIn w ao n x) : Calls Try.prog 13 #[.slice ao n cap, Sp p q, Sp u v] w (WinP (winOk n x p q u v) (winR n x p q u v) w) := by
  have T0 := win_start p q u v w 26
  have HS : Hid (SegIn w ao n x) := hS
  clear hS
  go_enter Try.func13, Try.ntmps13
  go_wp2_with fail
  generalize ((w.alloc (.cells #[.int .i64 p, .int .i64 q] 26)).alloc (.cells #[.int .i64 u, .int .i64 v] 26)) = W at *
  refine (l7Ok_any ao n cap x _ (HS.out.step T0.below)).mono ?_
  rintro e w1 ⟨rfl, hB⟩
  replace T0 := T0.step hB
  clear hB
  by_cases hsg : sgI n x = 0
  · rw [decide_eq_true hsg]
    have X0 : Blk _ w.heap.size _ := T0.b 0 rfl; have X1 : Blk _ (w.heap.size + 1) _ := T0.b 1 rfl; have a0 := X0.c 0 rfl; have a1 := X0.c 1 rfl; have b0 := X1.c 0 rfl; have b1 := X1.c 1 rfl
    go_wp2_with fail
    refine (l4Box_any p q u v _ rfl _).mono ?_
    rintro e w2 ⟨rfl, hB⟩
    clear X0 X1 a0 a1 b0 b1
    replace T0 := T0.step hB
    clear hB
    cases hbx : boxOk p q u v
    · have HO : Hid (winOk n x p q u v = false) := by show _ = _; unfold winOk; rw [hbx, Bool.and_false]
      have HB := T0.below
      clear T0 hsg hbx
      go_wp2
      go_ret2
      exact ⟨_, by rw [HO.out]; rfl, by unfold winR; rw [HO.out]; exact .inl ⟨rfl, rfl⟩, HB⟩
    · have HO : Hid (winOk n x p q u v = true) := by show _ = _; unfold winOk; rw [hbx, decide_eq_true hsg]; rfl
      obtain ⟨h40, hall⟩ := sgI_zero hsg
      have HA : Hid (∀ i, i < n → segOk (x (i * 4)) (x (i * 4 + 1)) (x (i * 4 + 2)) (x (i * 4 + 3)) = true) := hall
      have HX : Hid (boxOk p q u v = true) := hbx
      have hnI : (n : Int) ≤ 40 := by omega
      obtain ⟨i0, hi, hz0, hz1, hz2⟩ := info_parts Try.infoNo
      clear hall hbx hsg
      have HW2 := T0.below
      go_wp2_with fail
      go_loopw [8, 9] (fun o i wr => ∃ c : Nat, c ≤ n ∧ i = .int .i64 c ∧ wr.ownsRow (w.heap.size + 2) 2 1 o (winL x p q u v c).length ((winL x p q u v c).map (Value.int .i64)) ∧ ArgsB w wr [[.int .i64 p, .int .i64 q], [.int .i64 u, .int .i64 v]]) (fun _ i _ => n - (intOf i).toNat)
      case atStart => exact ⟨0, by omega, rfl, World.ownsRow_made w2 #[] 0 (T0.b 1 rfl).lt (by decide) rfl, T0.alloc _⟩
      case round =>
        clear T0 HW2
        obtain ⟨c, hc, rfl, hown, T0⟩ := hrel
        have HBw := T0.below
        have hlen := winL_len x p q u v c
        by_cases hcn : c < n
        · obtain ⟨A, off, rfl, hA, hcell⟩ := HS.out c hcn
          have e0 : ∀ o, wr.cell? ⟨A, o, none⟩ = w.cell? ⟨A, o, none⟩ := fun o => HBw.cell (p := ⟨A, o, none⟩) hA
          have q0 := (e0 _).trans (hcell 0 (by omega)); have q1 := (e0 _).trans (hcell 1 (by omega)); have q2 := (e0 _).trans (hcell 2 (by omega)); have q3 := (e0 _).trans (hcell 3 (by omega))
          simp only [Nat.add_zero] at q0
          have hcI : (c : Int) < n := by omega
          have hA' : A < wr.heap.size := Nat.lt_of_lt_of_le hA HBw.size
          obtain ⟨sp1, sp2⟩ := spots_of_seg (HA.out c hcn)
          have hbo := HX.out
          unfold boxOk at hbo
          simp only [Bool.and_eq_true] at hbo
          have MB := l4MeetsBox_any (x (c * 4)) (x (c * 4 + 1)) (x (c * 4 + 2)) (x (c * 4 + 3)) p q u v (in6_of_spot sp1).1 (in6_of_spot sp1).2 (in6_of_spot sp2).1 (in6_of_spot sp2).2 (in6_of_spot hbo.1.1.1).1 (in6_of_spot hbo.1.1.1).2 (in6_of_spot hbo.1.1.2).1 (in6_of_spot hbo.1.1.2).2
          have hh : hitAt x p q u v c = hitB (x (c * 4)) (x (c * 4 + 1)) (x (c * 4 + 2)) (x (c * 4 + 3)) p q u v := rfl
          change ∀ w, Calls _ _ _ w (BoolP (hitB (x (c * 4)) (x (c * 4 + 1)) (x (c * 4 + 2)) (x (c * 4 + 3)) p q u v) w) at MB
          rw [← hh] at MB
          clear hcell e0 sp1 sp2 hbo hh
          have X0 : Blk _ w.heap.size _ := T0.b 0 rfl; have X1 : Blk _ (w.heap.size + 1) _ := T0.b 1 rfl; have a0 := X0.c 0 rfl; have a1 := X0.c 1 rfl; have b0 := X1.c 0 rfl; have b1 := X1.c 1 rfl
          have KS : (fun w' => w'.cell? ⟨A, off + c * 4, none⟩ = some (.int .i64 (x (c * 4))) ∧ w'.cell? ⟨A, off + c * 4 + 1, none⟩ = some (.int .i64 (x (c * 4 + 1))) ∧ w'.cell? ⟨A, off + c * 4 + 2, none⟩ = some (.int .i64 (x (c * 4 + 2))) ∧ w'.cell? ⟨A, off + c * 4 + 3, none⟩ = some (.int .i64 (x (c * 4 + 3))) ∧ w'.cell? ⟨w.heap.size, 0, none⟩ = some (.int .i64 p) ∧ w'.cell? ⟨w.heap.size, 1, none⟩ = some (.int .i64 q) ∧ w'.cell? ⟨w.heap.size + 1, 0, none⟩ = some (.int .i64 u) ∧ w'.cell? ⟨w.heap.size + 1, 1, none⟩ = some (.int .i64 v)) wr := ⟨q0, q1, q2, q3, a0, a1, b0, b1⟩
          have HK : ∀ w', Below wr.heap.size wr w' → (fun w' => w'.cell? ⟨A, off + c * 4, none⟩ = some (.int .i64 (x (c * 4))) ∧ w'.cell? ⟨A, off + c * 4 + 1, none⟩ = some (.int .i64 (x (c * 4 + 1))) ∧ w'.cell? ⟨A, off + c * 4 + 2, none⟩ = some (.int .i64 (x (c * 4 + 2))) ∧ w'.cell? ⟨A, off + c * 4 + 3, none⟩ = some (.int .i64 (x (c * 4 + 3))) ∧ w'.cell? ⟨w.heap.size, 0, none⟩ = some (.int .i64 p) ∧ w'.cell? ⟨w.heap.size, 1, none⟩ = some (.int .i64 q) ∧ w'.cell? ⟨w.heap.size + 1, 0, none⟩ = some (.int .i64 u) ∧ w'.cell? ⟨w.heap.size + 1, 1, none⟩ = some (.int .i64 v)) w' := fun w' hB => ⟨(hB.cell (p := ⟨A, _, none⟩) hA').trans q0, (hB.cell (p := ⟨A, _, none⟩) hA').trans q1, (hB.cell (p := ⟨A, _, none⟩) hA').trans q2, (hB.cell (p := ⟨A, _, none⟩) hA').trans q3, (X0.step hB).c 0 rfl, (X0.step hB).c 1 rfl, (X1.step hB).c 0 rfl, (X1.step hB).c 1 rfl⟩
          clear X0 X1 a0 a1 b0 b1
          clear hA hA'
          have HTT : Hid (ArgsB w wr [[.int .i64 p, .int .i64 q], [.int .i64 u, .int .i64 v]]) := T0
          have HOW : wr.ownsRow (w.heap.size + 2) 2 1 u8 (winL x p q u v c).length ((winL x p q u v c).map (Value.int .i64)) := hown
          clear T0 hown HBw
          have H0 : Below wr.heap.size wr wr := Below.refl _ _
          go_upto_region 7 with fail
          go_region_held3 (fun w' => w'.cell? ⟨A, off + c * 4, none⟩ = some (.int .i64 (x (c * 4))) ∧ w'.cell? ⟨A, off + c * 4 + 1, none⟩ = some (.int .i64 (x (c * 4 + 1))) ∧ w'.cell? ⟨A, off + c * 4 + 2, none⟩ = some (.int .i64 (x (c * 4 + 2))) ∧ w'.cell? ⟨A, off + c * 4 + 3, none⟩ = some (.int .i64 (x (c * 4 + 3))) ∧ w'.cell? ⟨w.heap.size, 0, none⟩ = some (.int .i64 p) ∧ w'.cell? ⟨w.heap.size, 1, none⟩ = some (.int .i64 q) ∧ w'.cell? ⟨w.heap.size + 1, 0, none⟩ = some (.int .i64 u) ∧ w'.cell? ⟨w.heap.size + 1, 1, none⟩ = some (.int .i64 v)) (first | (exact KS) | (exact HK _ hB1))
            (first
              | (go_at_call 44; refine (MB _).mono ?_; rintro e w3 ⟨rfl, hB⟩; have hB1 : Below wr.heap.size wr w3 := H0.drew.trans (hB.mono H0.drew.size); clear hB))
          all_goals have TN : ArgsB w w3 [[.int .i64 p, .int .i64 q], [.int .i64 u, .int .i64 v]] := HTT.out.step hB1
          all_goals have hs3 := hB1.size
          all_goals have hsw : w.heap.size + 2 ≤ wr.heap.size := (HTT.out.b 1 rfl).lt
          all_goals have HO3 : w3.ownsRow (w.heap.size + 2) 2 1 u8 (winL x p q u v c).length ((winL x p q u v c).map (Value.int .i64)) := own_step HOW hB1
          all_goals clear KS HK MB HTT H0 hB1 HOW q0 q1 q2 q3
          all_goals cases hk : hitAt x p q u v c
          · have HL : Hid (winL x p q u v (c + 1) = winL x p q u v c) := winL_miss hk
            clear hk
            go_wp2
            go_roundw
            case rel => exact ⟨c + 1, by omega, by go_num, by rw [HL.out]; exact HO3, TN⟩
            case measure => simp [intOf]; omega
          · have HL : Hid (winL x p q u v (c + 1) = winL x p q u v c ++ [(c : Int)]) := winL_hit hk
            clear hk
            go_wp2_with (at_builtin; refine wpList_append_own _ rfl _ _ 44 rfl (w.heap.size + 2) 2 i0 (.int .i64 0) 1 8 Try.underlying44 hi hz0 hz1 hz2 rfl (by decide) _ _ _ rfl (HO3.alloc _) ⟨w3.heap.size, 0, none⟩ 1 1 [.int .i64 (c : Int)] rfl rfl (cell_one_new _ _ _) (one_cell _ _) (by unfold maxLen; omega) (by omega) (by simp; omega) ?_)
            intro v' w4 hown2 hgrow2 hnn
            have R1 : w4.ownsRow (w.heap.size + 2) 2 1 v' (winL x p q u v (c + 1)).length ((winL x p q u v (c + 1)).map (Value.int .i64)) := by
              rw [HL.out, List.map_append, List.length_append]
              simpa using hown2
            have T4 := argsB_grown (TN.alloc _) (by simp; omega) hgrow2 (fun j hj => (HO3.lt j hj).1)
            clear hown2 hgrow2 hnn HO3 TN
            go_wp2
            go_roundw
            case rel => exact ⟨c + 1, by omega, by go_num, R1, T4⟩
            case measure => simp [intOf]; omega
        · obtain rfl : c = n := by omega
          have HR : winR c x p q u v = winL x p q u v c := by unfold winR; rw [HO.out]; rfl
          have HN := (NoOwn.of hown).mono (b := w.heap.size) (by omega)
          rw [← HR] at HN
          have HNH : Hid (NoOwn wr w.heap.size u8 (winR c x p q u v)) := HN
          clear HR HN hown T0
          go_wp2
          go_ret2
          exact ⟨_, by rw [HO.out]; rfl, HNH.out, HBw⟩
  · have HO : Hid (winOk n x p q u v = false) := by show _ = _; unfold winOk; rw [decide_eq_false hsg]; rfl
    rw [decide_eq_false hsg]
    have HB := T0.below
    clear T0 hsg
    go_wp2
    go_ret2
    exact ⟨_, by rw [HO.out]; rfl, by unfold winR; rw [HO.out]; exact .inl ⟨rfl, rfl⟩, HB⟩
set_option maxRecDepth 100000 in
set_option maxHeartbeats 4000000 in
theorem implWindow_any (ao : Option Addr) (n cap : Nat) (x : Nat → Int) (p q u v : Int) (w : World) (hS : SegIn w ao n x) : Calls Try.prog 12 #[.slice ao n cap, Sp p q, Sp u v] w (WinP (winOk n x p q u v) (winR n x p q u v) w) := by
  have T0 := win_start p q u v w 26
  have HS : Hid (SegIn w ao n x) := hS
  clear hS
  go_enter Try.func12, Try.ntmps12
  go_wp2_with fail
  generalize ((w.alloc (.cells #[.int .i64 p, .int .i64 q] 26)).alloc (.cells #[.int .i64 u, .int .i64 v] 26)) = W at *
  refine (implSegsFault_any ao n cap x _ (HS.out.step T0.below)).mono ?_
  rintro e w1 ⟨rfl, hB⟩
  replace T0 := T0.step hB
  clear hB
  by_cases hsg : sgI n x = 0
  · rw [hsg]
    have X0 : Blk _ w.heap.size _ := T0.b 0 rfl; have X1 : Blk _ (w.heap.size + 1) _ := T0.b 1 rfl; have a0 := X0.c 0 rfl; have a1 := X0.c 1 rfl; have b0 := X1.c 0 rfl; have b1 := X1.c 1 rfl
    go_wp2_with fail
    refine (isBox_any p q u v _).mono ?_
    rintro e w2 ⟨rfl, hB⟩
    clear X0 X1 a0 a1 b0 b1
    replace T0 := T0.step hB
    clear hB
    cases hbx : boxOk p q u v
    · have HO : Hid (winOk n x p q u v = false) := by show _ = _; unfold winOk; rw [hbx, Bool.and_false]
      have HB := T0.below
      clear T0 hsg hbx
      go_wp2
      go_ret2
      exact ⟨_, by rw [HO.out]; rfl, by unfold winR; rw [HO.out]; exact .inl ⟨rfl, rfl⟩, HB⟩
    · have HO : Hid (winOk n x p q u v = true) := by show _ = _; unfold winOk; rw [hbx, decide_eq_true hsg]; rfl
      obtain ⟨h40, hall⟩ := sgI_zero hsg
      have HA : Hid (∀ i, i < n → segOk (x (i * 4)) (x (i * 4 + 1)) (x (i * 4 + 2)) (x (i * 4 + 3)) = true) := hall
      have HX : Hid (boxOk p q u v = true) := hbx
      have hnI : (n : Int) ≤ 40 := by omega
      obtain ⟨i0, hi, hz0, hz1, hz2⟩ := info_parts Try.infoNo
      clear hall hbx hsg
      go_wp2_with fail
      go_loopw [8, 22] (fun o i wr => ∃ c : Nat, c ≤ n ∧ i = .int .i64 c ∧ wr.ownsRow (w.heap.size + 2) 2 1 o (winL x p q u v c).length ((winL x p q u v c).map (Value.int .i64)) ∧ ArgsB w wr [[.int .i64 p, .int .i64 q], [.int .i64 u, .int .i64 v]]) (fun _ i _ => n - (intOf i).toNat)
      case atStart => exact ⟨0, by omega, rfl, World.ownsRow_nil _ _ _ _, T0⟩
      case round =>
        clear T0
        obtain ⟨c, hc, rfl, hown, T0⟩ := hrel
        have HBw := T0.below
        have hlen := winL_len x p q u v c
        by_cases hcn : c < n
        · obtain ⟨A, off, rfl, hA, hcell⟩ := HS.out c hcn
          have e0 : ∀ o, wr.cell? ⟨A, o, none⟩ = w.cell? ⟨A, o, none⟩ := fun o => HBw.cell (p := ⟨A, o, none⟩) hA
          have q0 := (e0 _).trans (hcell 0 (by omega)); have q1 := (e0 _).trans (hcell 1 (by omega)); have q2 := (e0 _).trans (hcell 2 (by omega)); have q3 := (e0 _).trans (hcell 3 (by omega))
          simp only [Nat.add_zero] at q0
          have hcI : (c : Int) < n := by omega
          obtain ⟨sp1, sp2⟩ := spots_of_seg (HA.out c hcn)
          have hbo := HX.out
          unfold boxOk at hbo
          simp only [Bool.and_eq_true] at hbo
          have MB := meetsBox_any (x (c * 4)) (x (c * 4 + 1)) (x (c * 4 + 2)) (x (c * 4 + 3)) p q u v (in6_of_spot sp1).1 (in6_of_spot sp1).2 (in6_of_spot sp2).1 (in6_of_spot sp2).2 (in6_of_spot hbo.1.1.1).1 (in6_of_spot hbo.1.1.1).2 (in6_of_spot hbo.1.1.2).1 (in6_of_spot hbo.1.1.2).2
          have hh : hitAt x p q u v c = hitB (x (c * 4)) (x (c * 4 + 1)) (x (c * 4 + 2)) (x (c * 4 + 3)) p q u v := rfl
          change ∀ w, Calls _ _ _ w (BoolP (hitB (x (c * 4)) (x (c * 4 + 1)) (x (c * 4 + 2)) (x (c * 4 + 3)) p q u v) w) at MB
          rw [← hh] at MB
          clear hcell e0 sp1 sp2 hbo hh
          have X0 : Blk _ w.heap.size _ := T0.b 0 rfl; have X1 : Blk _ (w.heap.size + 1) _ := T0.b 1 rfl; have a0 := X0.c 0 rfl; have a1 := X0.c 1 rfl; have b0 := X1.c 0 rfl; have b1 := X1.c 1 rfl
          have HTT : Hid (ArgsB w wr [[.int .i64 p, .int .i64 q], [.int .i64 u, .int .i64 v]]) := T0
          have HOW : wr.ownsRow (w.heap.size + 2) 2 1 u8 (winL x p q u v c).length ((winL x p q u v c).map (Value.int .i64)) := hown
          have hl0 : w.heap.size < wr.heap.size := X0.lt
          have hl1 : w.heap.size + 1 < wr.heap.size := X1.lt
          clear T0 hown
          go_wp2_with fail
          refine (MB _).mono ?_
          rintro e w3 ⟨rfl, hB⟩
          have hB1 : Below wr.heap.size wr w3 := ((Below.refl _ wr).alloc (Nat.le_refl _) _).trans (hB.mono (by simp))
          clear hB X0 X1 a0 a1 b0 b1 q0 q1 q2 q3 hA HBw hl0 hl1
          have TN : ArgsB w w3 [[.int .i64 p, .int .i64 q], [.int .i64 u, .int .i64 v]] := HTT.out.step hB1
          have hs3 := hB1.size
          have hsw : w.heap.size + 2 ≤ wr.heap.size := (HTT.out.b 1 rfl).lt
          have HO3 : w3.ownsRow (w.heap.size + 2) 2 1 u8 (winL x p q u v c).length ((winL x p q u v c).map (Value.int .i64)) := own_step HOW hB1
          clear MB HTT hB1 HOW
          cases hk : hitAt x p q u v c
          · have HL : Hid (winL x p q u v (c + 1) = winL x p q u v c) := winL_miss hk
            clear hk
            go_wp2
            go_roundw
            case rel => exact ⟨c + 1, by omega, by go_num, by rw [HL.out]; exact HO3, TN⟩
            case measure => simp [intOf]; omega
          · have HL : Hid (winL x p q u v (c + 1) = winL x p q u v c ++ [(c : Int)]) := winL_hit hk
            clear hk
            go_wp2_with (at_builtin; refine wpList_append_own _ rfl _ _ 44 rfl (w.heap.size + 2) 2 i0 (.int .i64 0) 1 8 Try.underlying44 hi hz0 hz1 hz2 rfl (by decide) _ _ _ rfl (HO3.alloc _) ⟨w3.heap.size, 0, none⟩ 1 1 [.int .i64 (c : Int)] rfl rfl (cell_one_new _ _ _) (one_cell _ _) (by unfold maxLen; omega) (by omega) (by simp; omega) ?_)
            intro v' w4 hown2 hgrow2 hnn
            have R1 : w4.ownsRow (w.heap.size + 2) 2 1 v' (winL x p q u v (c + 1)).length ((winL x p q u v (c + 1)).map (Value.int .i64)) := by
              rw [HL.out, List.map_append, List.length_append]
              simpa using hown2
            have T4 := argsB_grown (TN.alloc _) (by simp; omega) hgrow2 (fun j hj => (HO3.lt j hj).1)
            clear hown2 hgrow2 hnn HO3 TN
            go_wp2
            go_roundw
            case rel => exact ⟨c + 1, by omega, by go_num, R1, T4⟩
            case measure => simp [intOf]; omega
        · obtain rfl : c = n := by omega
          have HR : winR c x p q u v = winL x p q u v c := by unfold winR; rw [HO.out]; rfl
          have HN := (NoOwn.of hown).mono (b := w.heap.size) (by omega)
          rw [← HR] at HN
          have HNH : Hid (NoOwn wr w.heap.size u8 (winR c x p q u v)) := HN
          clear HR HN hown T0
          go_wp2
          go_ret2
          exact ⟨_, by rw [HO.out]; rfl, HNH.out, HBw⟩
  · have HO : Hid (winOk n x p q u v = false) := by show _ = _; unfold winOk; rw [decide_eq_false hsg]; rfl
    have hne : (sgI n x != 0) = true := by simp; omega
    have HB := T0.below
    revert hne
    generalize sgI n x = o
    intro hne
    clear T0 hsg
    go_wp2
    go_ret2
    exact ⟨_, by rw [HO.out]; rfl, by unfold winR; rw [HO.out]; exact .inl ⟨rfl, rfl⟩, HB⟩
end Go.Proofs.Ytjhmacpejfldoaa

/- What a window shows: a wider one shows no less: the reckoning. -/
namespace Go.Proofs.Ytjhmacpejfldoaa
open Go.RowKit
theorem turn_parts (a b c d X Y P Q : Int) : turnSp a b c d P Q = turnSp a b c d X Y + (c - a) * (Q - Y) + (d - b) * (X - P) := by
  unfold turnSp
  grind
theorem mul_nn {p q : Int} (hp : 0 ≤ p) (hq : 0 ≤ q) : 0 ≤ p * q := Int.mul_nonneg hp hq
theorem mul_pp {p q : Int} (hp : p ≤ 0) (hq : q ≤ 0) : 0 ≤ p * q := Int.mul_nonneg_of_nonpos_of_nonpos hp hq
theorem mul_np {p q : Int} (hp : 0 ≤ p) (hq : q ≤ 0) : p * q ≤ 0 := Int.mul_nonpos_of_nonneg_of_nonpos hp hq
theorem mul_pn {p q : Int} (hp : p ≤ 0) (hq : 0 ≤ q) : p * q ≤ 0 := Int.mul_nonpos_of_nonpos_of_nonneg hp hq
theorem turn_up {a b c d X Y x y u v : Int} (h1 : x ≤ X) (h2 : X ≤ u) (h3 : y ≤ Y) (h4 : Y ≤ v) (h : 0 ≤ turnSp a b c d X Y) : 0 ≤ turnSp a b c d x y ∨ 0 ≤ turnSp a b c d u v ∨ 0 ≤ turnSp a b c d x v ∨ 0 ≤ turnSp a b c d u y := by
  rcases Int.le_total 0 (c - a) with hA | hA <;> rcases Int.le_total 0 (d - b) with hD | hD
  · refine .inr (.inr (.inl ?_))
    rw [turn_parts a b c d X Y]
    have := mul_nn hA (show 0 ≤ v - Y by omega)
    have := mul_nn hD (show 0 ≤ X - x by omega)
    omega
  · refine .inr (.inl ?_)
    rw [turn_parts a b c d X Y]
    have := mul_nn hA (show 0 ≤ v - Y by omega)
    have := mul_pp hD (show X - u ≤ 0 by omega)
    omega
  · refine .inl ?_
    rw [turn_parts a b c d X Y]
    have := mul_pp hA (show y - Y ≤ 0 by omega)
    have := mul_nn hD (show 0 ≤ X - x by omega)
    omega
  · refine .inr (.inr (.inr ?_))
    rw [turn_parts a b c d X Y]
    have := mul_pp hA (show y - Y ≤ 0 by omega)
    have := mul_pp hD (show X - u ≤ 0 by omega)
    omega
theorem turn_down {a b c d X Y x y u v : Int} (h1 : x ≤ X) (h2 : X ≤ u) (h3 : y ≤ Y) (h4 : Y ≤ v) (h : turnSp a b c d X Y ≤ 0) : turnSp a b c d x y ≤ 0 ∨ turnSp a b c d u v ≤ 0 ∨ turnSp a b c d x v ≤ 0 ∨ turnSp a b c d u y ≤ 0 := by
  rcases Int.le_total 0 (c - a) with hA | hA <;> rcases Int.le_total 0 (d - b) with hD | hD
  · refine .inr (.inr (.inr ?_))
    rw [turn_parts a b c d X Y]
    have := mul_np hA (show y - Y ≤ 0 by omega)
    have := mul_np hD (show X - u ≤ 0 by omega)
    omega
  · refine .inl ?_
    rw [turn_parts a b c d X Y]
    have := mul_np hA (show y - Y ≤ 0 by omega)
    have := mul_pn hD (show 0 ≤ X - x by omega)
    omega
  · refine .inr (.inl ?_)
    rw [turn_parts a b c d X Y]
    have := mul_pn hA (show 0 ≤ v - Y by omega)
    have := mul_np hD (show X - u ≤ 0 by omega)
    omega
  · refine .inr (.inr (.inl ?_))
    rw [turn_parts a b c d X Y]
    have := mul_pn hA (show 0 ≤ v - Y by omega)
    have := mul_pn hD (show 0 ≤ X - x by omega)
    omega
theorem lefts4 (p q r s : Int) : lefts [p, q, r, s] 4 = true ↔ 0 ≤ p ∨ 0 ≤ q ∨ 0 ≤ r ∨ 0 ≤ s := by simp [lefts]
theorem rights4 (p q r s : Int) : rights [p, q, r, s] 4 = true ↔ p ≤ 0 ∨ q ≤ 0 ∨ r ≤ 0 ∨ s ≤ 0 := by simp [rights]
theorem hit_wider {a b c d x y u v x' y' u' v' : Int} (hx : x' ≤ x) (hy : y' ≤ y) (hu : u ≤ u') (hv : v ≤ v') (hxu : x ≤ u) (hyv : y ≤ v) (h : hitB a b c d x y u v = true) : hitB a b c d x' y' u' v' = true := by
  unfold hitB at h ⊢
  simp only [Bool.and_eq_true, Bool.not_eq_true', lefts4, rights4] at h ⊢
  obtain ⟨h1, h2, h3⟩ := h
  refine ⟨?_, ?_, ?_⟩
  · unfold boxOut at h1 ⊢
    rw [decide_eq_false_iff_not] at h1 ⊢
    omega
  · rcases h2 with h2 | h2 | h2 | h2 <;> exact turn_up (by omega) (by omega) (by omega) (by omega) h2
  · rcases h3 with h3 | h3 | h3 | h3 <;> exact turn_down (by omega) (by omega) (by omega) (by omega) h3
theorem winL_mem {x : Nat → Int} {p q u v : Int} {n i : Nat} : (i : Int) ∈ winL x p q u v n ↔ i < n ∧ hitAt x p q u v i = true := by
  unfold winL
  rw [List.mem_map]
  constructor
  · rintro ⟨j, hj, e⟩
    rw [List.mem_filter, List.mem_range] at hj
    obtain rfl : j = i := by omega
    exact hj
  · intro h
    exact ⟨i, List.mem_filter.2 ⟨List.mem_range.2 h.1, h.2⟩, rfl⟩
theorem winL_any {x : Nat → Int} {p q u v z : Int} {n : Nat} (h : z ∈ winL x p q u v n) : ∃ i : Nat, z = i ∧ i < n ∧ hitAt x p q u v i = true := by
  have h' := h
  unfold winL at h'
  rw [List.mem_map] at h'
  obtain ⟨j, _, e⟩ := h'
  subst e
  exact ⟨j, rfl, winL_mem.1 h⟩
theorem winR_yes {n : Nat} {x : Nat → Int} {p q u v : Int} (h : winOk n x p q u v = true) : winR n x p q u v = winL x p q u v n := by
  unfold winR
  rw [if_pos h]
theorem winOk_parts {n : Nat} {x : Nat → Int} {p q u v : Int} (h : winOk n x p q u v = true) : sgI n x = 0 ∧ boxOk p q u v = true := by
  unfold winOk at h
  simpa using h
/-- What a window shows, a wider one shows. -/
theorem win_wider {n : Nat} {x : Nat → Int} {p q u v p' q' u' v' z : Int} (h : winOk n x p q u v = true) (h' : winOk n x p' q' u' v' = true) (hp : p' ≤ p) (hq : q' ≤ q) (hu : u ≤ u') (hv : v ≤ v') (hz : z ∈ winR n x p q u v) : z ∈ winR n x p' q' u' v' := by
  rw [winR_yes h] at hz
  rw [winR_yes h']
  obtain ⟨i, rfl, hi, hh⟩ := winL_any hz
  have hb := (winOk_parts h).2
  unfold boxOk at hb
  simp only [Bool.and_eq_true, decide_eq_true_eq] at hb
  exact winL_mem.2 ⟨hi, hit_wider hp hq hu hv hb.1.2 hb.2 hh⟩
end Go.Proofs.Ytjhmacpejfldoaa

/- Rows of numbers held against one another, and looked through. -/
namespace Go.Proofs.Ytjhmacpejfldoaa
open Go.RowKit
set_option maxRecDepth 100000 in
set_option maxHeartbeats 2000000 in
theorem sameInts_any (ao bo : Option Addr) (n ca cb : Nat) (x : Nat → Int) (hn : n ≤ 1048576) (w : World) (hA : NoIn w ao n x) (hC : NoIn w bo n x) : Calls Try.prog 14 #[.slice ao n ca, .slice bo n cb] w (BoolP true w) := by
  have HA : Hid (NoIn w ao n x) := hA
  have HC : Hid (NoIn w bo n x) := hC
  have hnI : (n : Int) ≤ 1048576 := by omega
  have hnn : ((n : Int) != (n : Int)) = false := by simp
  clear hA hC
  go_enter Try.func14, Try.ntmps14
  go_wp2_with fail
  go_loopw [5] (fun i wr => ∃ c : Nat, c ≤ n ∧ i = .int .i64 c ∧ Below w.heap.size w wr) (fun i _ => n - (intOf i).toNat)
  case atStart => exact ⟨0, by omega, rfl, Below.refl _ _⟩
  case round =>
    obtain ⟨c, hc, rfl, HB⟩ := hrel
    by_cases hcn : c < n
    · obtain ⟨A, off, rfl, hA, q0⟩ := HA.out.step HB c hcn
      obtain ⟨B, of2, rfl, hB', r0⟩ := HC.out.step HB c hcn
      have hcI : (c : Int) < n := by omega
      have KS : (fun w' => w'.cell? ⟨A, off + c, none⟩ = some (.int .i64 (x c)) ∧ w'.cell? ⟨B, of2 + c, none⟩ = some (.int .i64 (x c))) wr := ⟨q0, r0⟩
      have hxx : (x c != x c) = false := by simp
      go_wp2_with fail
      go_region_held3 (fun w' => w'.cell? ⟨A, off + c, none⟩ = some (.int .i64 (x c)) ∧ w'.cell? ⟨B, of2 + c, none⟩ = some (.int .i64 (x c))) (exact KS)
        (first | fail)
      all_goals clear KS q0 r0
      all_goals go_wp2
      all_goals go_roundw
      all_goals first | exact ⟨c + 1, by omega, by go_num, HB⟩ | exact ⟨c + 1, by omega, by go_num, HB.drew⟩ | (simp [intOf]; omega)
    · obtain rfl : c = n := by omega
      clear HA HC
      go_wp2
      go_ret
      exact ⟨rfl, HB⟩
set_option maxRecDepth 100000 in
set_option maxHeartbeats 2000000 in
theorem hasInt_any (ao : Option Addr) (n cap : Nat) (x : Nat → Int) (z : Int) (b : Bool) (hb : b = true ↔ ∃ i, i < n ∧ x i = z) (hn : n ≤ 1048576) (w : World) (hA : NoIn w ao n x) : Calls Try.prog 15 #[.slice ao n cap, .int .i64 z] w (BoolP b w) := by
  have HA : Hid (NoIn w ao n x) := hA
  have HI : Hid (b = true ↔ ∃ i, i < n ∧ x i = z) := hb
  have hnI : (n : Int) ≤ 1048576 := by omega
  clear hA hb
  go_enter Try.func15, Try.ntmps15
  go_wp2_with fail
  go_loopw [5] (fun i wr => ∃ c : Nat, c ≤ n ∧ i = .int .i64 c ∧ (∀ k, k < c → x k ≠ z) ∧ Below w.heap.size w wr) (fun i _ => n - (intOf i).toNat)
  case atStart => exact ⟨0, by omega, rfl, fun k hk => by omega, Below.refl _ _⟩
  case round =>
    obtain ⟨c, hc, rfl, hk0, HB⟩ := hrel
    have HK : Hid (∀ k, k < c → x k ≠ z) := hk0
    clear hk0
    by_cases hcn : c < n
    · obtain ⟨A, off, rfl, hA, q0⟩ := HA.out.step HB c hcn
      have hcI : (c : Int) < n := by omega
      by_cases hz : x c = z
      · have e1 : (x c == z) = true := beq_iff_eq.2 hz
        have HT : Hid (b = true) := HI.out.2 ⟨c, hcn, hz⟩
        clear HI HK hz
        go_wp2
        go_ret
        rw [HT.out]
        exact ⟨rfl, HB⟩
      · have e1 : (x c == z) = false := beq_eq_false_iff_ne.2 hz
        have HN : Hid (∀ k, k < c + 1 → x k ≠ z) := fun k hk => by
          rcases Nat.lt_or_ge k c with h | h
          · exact HK.out k h
          · obtain rfl : k = c := by omega
            exact hz
        clear hz HK
        go_wp2
        go_roundw
        case rel => exact ⟨c + 1, by omega, by go_num, HN.out, HB⟩
        case measure => simp [intOf]; omega
    · obtain rfl : c = n := by omega
      have HF : Hid (b = false) := by
        show b = false
        cases b
        · rfl
        · obtain ⟨i, hi, he⟩ := HI.out.1 rfl
          exact absurd he (HK.out i hi)
      clear HA HI HK
      go_wp2
      go_ret
      rw [HF.out]
      exact ⟨rfl, HB⟩
end Go.Proofs.Ytjhmacpejfldoaa

/- What a window shows: the law over drawn ones. -/
namespace Go.Proofs.Ytjhmacpejfldoaa
open Go.RowKit
theorem bigW_any (ao : Option Addr) (n cap : Nat) (w : World) (z : Bool) (hz : decide (1048576 < n) = z) : Calls Try.prog 5 #[.slice ao n cap] w (BoolP z w) := by
  subst hz
  go_enter Try.func5, Try.ntmps5
  go_wp2
  go_ret
  exact ⟨by simp; try omega, Below.refl _ _⟩
theorem mem_getD {L : List Int} {z : Int} : z ∈ L ↔ ∃ k, k < L.length ∧ L.getD k 0 = z := by
  constructor
  · intro h
    obtain ⟨k, hk, e⟩ := List.getElem_of_mem h
    exact ⟨k, hk, by simp [List.getD_eq_getElem?_getD, hk, e]⟩
  · rintro ⟨k, hk, e⟩
    rw [← e, List.getD_eq_getElem?_getD, List.getElem?_eq_getElem hk]
    exact List.getElem_mem hk
theorem winR_len6 {n : Nat} {x : Nat → Int} {p q u v : Int} (hn : n ≤ 6) : (winR n x p q u v).length ≤ 6 := by
  unfold winR
  split
  · exact Nat.le_trans (winL_len x p q u v n) hn
  · simp
/-- Of a right window a row's segment is shown just where it meets the box. -/
theorem winShow {n : Nat} {x : Nat → Int} {p q u v : Int} (h : winOk n x p q u v = true) {i : Nat} (hi : i < n) : (hitAt x p q u v i = true ↔ ∃ k, k < (winR n x p q u v).length ∧ (winR n x p q u v).getD k 0 = (i : Int)) ∧ meetsBx (x (i * 4)) (x (i * 4 + 1)) (x (i * 4 + 2)) (x (i * 4 + 3)) p q u v = hitAt x p q u v i := by
  obtain ⟨h1, h2⟩ := winOk_parts h
  refine ⟨?_, ?_⟩
  · rw [← mem_getD, winR_yes h, winL_mem]
    exact ⟨fun hh => ⟨hi, hh⟩, fun hh => hh.2⟩
  · unfold meetsBx
    rw [(sgI_zero h1).2 i hi, h2]
    rfl
set_option maxRecDepth 100000 in
set_option maxHeartbeats 8000000 in
theorem lawWindows_any (ao : Option Addr) (n cap : Nat) (cs : List Int) (w : World) (h : n ≤ 1048576 → Code w ao n cs) : Calls Try.prog 4 #[.slice ao n cap] w (BoolP true w) := by
  by_cases hn : 1048576 < n
  · go_enter Try.func4, Try.ntmps4
    go_wp2_with fail
    refine (bigW_any ao n cap _ true (by simpa using hn)).mono ?_
    rintro e w1 ⟨rfl, hB⟩
    clear h
    go_wp2
    go_ret
    exact ⟨rfl, hB⟩
  · have hc := h (by omega)
    clear h
    go_enter Try.func4, Try.ntmps4
    go_wp2_with fail
    refine (bigW_any ao n cap _ false (by simpa using hn)).mono ?_
    rintro e w1 ⟨rfl, HB⟩
    replace hc := hc.below HB
    go_wp2_with fail
    refine (drawWindow_any ao n cap cs _ hc).mono ?_
    rintro e w2 ⟨v, m, ls, p, q, r, s, rfl, hm, O, hp, hq, hr, hs, hB⟩
    replace HB := HB.trans (hB.mono HB.size)
    clear hB hc hn
    obtain ⟨ro, rcap, rfl, HS⟩ := O.in
    clear O
    generalize (fun i => ls.getD i 0) = x at HS
    have X4 := (Blk.new w2 [.int .i64 p, .int .i64 q] 26 rfl).alloc (.cells #[.int .i64 r, .int .i64 s] 26)
    have X5 := Blk.new (w2.alloc (.cells #[.int .i64 p, .int .i64 q] 26)) [.int .i64 r, .int .i64 s] 26 (g := w2.heap.size + 1) (by simp)
    rw [show ([.int .i64 p, .int .i64 q] : List Value).toArray = #[.int .i64 p, .int .i64 q] from rfl] at X4 X5
    rw [show ([.int .i64 r, .int .i64 s] : List Value).toArray = #[.int .i64 r, .int .i64 s] from rfl] at X5
    have ha : Below w2.heap.size w2 ((w2.alloc (.cells #[.int .i64 p, .int .i64 q] 26)).alloc (.cells #[.int .i64 r, .int .i64 s] 26)) := ((Below.refl _ _).alloc (Nat.le_refl _) _).alloc (by simp) _
    replace HB := HB.trans (ha.mono HB.size)
    replace HS := HS.step ha
    clear ha
    go_upto_region 4 with fail
    revert X4 X5 HB HS
    generalize ((w2.alloc (.cells #[.int .i64 p, .int .i64 q] 26)).alloc (.cells #[.int .i64 r, .int .i64 s] 26)) = W2
    generalize w2.heap.size + 1 = A5
    generalize w2.heap.size = A4
    intro X4 X5 HB HS
    have hL := winR_len6 (x := x) (p := p) (q := q) (u := r) (v := s) hm
    have hAt := fun (h : winOk m x p q r s = true) (i : Nat) (hi : i < m) => winShow h hi
    have hWd := fun (h : winOk m x p q r s = true) (h' : winOk m x (p - 1) (q - 1) (r + 1) (s + 1) = true) (z : Int) (hz : z ∈ winR m x p q r s) => win_wider h h' (by omega) (by omega) (by omega) (by omega) hz
    have CI := fun w h => implWindow_any ro m rcap x p q r s w h
    have CS := fun w h => specWindow_any ro m rcap x p q r s w h
    generalize hK : winR m x p q r s = LL at *
    generalize hO : winOk m x p q r s = f at *
    obtain ⟨p0, p1⟩ := X4.cs2
    obtain ⟨q0, q1⟩ := X5.cs2
    go_wp2_with fail
    clear p0 p1 q0 q1
    refine (CI _ HS).mono ?_
    rintro e w4 ⟨v1, rfl, N1, hB⟩
    replace HB := HB.trans (hB.mono HB.size)
    replace HS := HS.step hB
    replace X4 := X4.step hB
    replace X5 := X5.step hB
    clear hB
    obtain ⟨p0, p1⟩ := X4.cs2
    obtain ⟨q0, q1⟩ := X5.cs2
    go_wp2_with fail
    clear p0 p1 q0 q1
    refine (CS _ HS).mono ?_
    rintro e w5 ⟨v2, rfl, N2, hB⟩
    replace HB := HB.trans (hB.mono HB.size)
    replace HS := HS.step hB
    replace X4 := X4.step hB
    replace X5 := X5.step hB
    replace N1 := N1.step hB
    clear hB
    clear CI CS
    obtain ⟨b1, k1, rfl, M1⟩ := N1.in
    obtain ⟨b2, k2, rfl, M2⟩ := N2.in
    clear N1 N2
    have e1 : (f != f) = false := by simp
    have e2 : (f == f) = true := by simp
    go_wp2_with fail
    refine (sameInts_any b1 b2 LL.length k1 k2 _ (by omega) _ M1 M2).mono ?_
    rintro e w6 ⟨rfl, hB⟩
    replace HB := HB.trans (hB.mono HB.size)
    replace HS := HS.step hB
    replace X4 := X4.step hB
    replace X5 := X5.step hB
    replace M1 := M1.step hB
    replace M2 := M2.step hB
    clear hB
    cases f
    · go_wp2_with fail
      refine (sameInts_any b1 b2 LL.length k1 k2 _ (by omega) _ M1 M2).mono ?_
      rintro e w7 ⟨rfl, hB⟩
      replace HB := HB.trans (hB.mono HB.size)
      clear hB M1 M2 X4 X5 HS
      go_wp2
      go_ret
      exact ⟨rfl, HB⟩
    · clear M2 e1 e2
      replace hAt := hAt rfl
      replace hWd := hWd rfl
      have hm1 : (m : Int) ≤ 6 := by omega
      have hL1 : (LL.length : Int) ≤ 6 := by omega
      have wp : IntKind.i64.wrap (p - 1) = p - 1 := by unfold Sm at hp; rw [IntKind.wrap_i64]; omega
      have wq : IntKind.i64.wrap (q - 1) = q - 1 := by unfold Sm at hq; rw [IntKind.wrap_i64]; omega
      have wr' : IntKind.i64.wrap (r + 1) = r + 1 := by unfold Sm at hr; rw [IntKind.wrap_i64]; omega
      have ws : IntKind.i64.wrap (s + 1) = s + 1 := by unfold Sm at hs; rw [IntKind.wrap_i64]; omega
      have HW : Hid (HB = HB) := rfl
      clear HW
      go_wp2_with fail
      go_loopw [10] (fun i wr => ∃ j : Nat, j ≤ m ∧ i = .int .i64 j ∧ Below w6.heap.size w6 wr) (fun i _ => m - (intOf i).toNat)
      case atStart => exact ⟨0, by omega, rfl, Below.refl _ _⟩
      case round =>
        obtain ⟨j, hjm, rfl, hB⟩ := hrel
        replace HB := HB.trans (hB.mono HB.size)
        replace HS := HS.step hB
        replace X4 := X4.step hB
        replace X5 := X5.step hB
        replace M1 := M1.step hB
        by_cases hj : j < m
        · have hjI : (j : Int) < (m : Int) := by omega
          obtain ⟨A, off, hro, hA, hcs⟩ := HS j hj
          subst hro
          obtain ⟨a1, a2⟩ := hAt j hj
          have c0 := hcs 0 (by decide); have c1 := hcs 1 (by decide); have c2 := hcs 2 (by decide); have c3 := hcs 3 (by decide)
          clear hcs hAt hWd
          go_upto_region 11 with fail
          refine wnL (A4 := A4) (A5 := A5) (A := A) (off := off) (n := m) (cap := rcap) (jx := j) (lv := .slice b1 LL.length k1) (a := x (j * 4)) (b := x (j * 4 + 1)) (c := x (j * 4 + 2)) (d := x (j * 4 + 3)) (p := p) (q := q) (u := r) (w := s) (t := hitAt x p q r s j) hjI (fun w' hB' => hasInt_any b1 LL.length k1 _ (j : Int) _ a1 (by omega) w' (M1.step hB')) (fun w' => implMeetsBox_any _ _ _ _ p q r s _ a2 w') rfl rfl rfl rfl rfl c0 hA c1 hA c2 hA c3 hA (X4.c 0 rfl) X4.lt (X4.c 1 rfl) X4.lt (X5.c 0 rfl) X5.lt (X5.c 1 rfl) X5.lt rfl ?_
          rintro ⟨tm, df⟩ W7 hz hdf hoff h73 hBz
          simp only at hz hdf hoff
          change tm.getD 73 undef = .bool false at h73
          subst hdf
          have htm := tmps_fold [63, 64, 65, 66, 67, 68, 69, 70, 71, 72, 73] tm _ hz hoff
          simp only [List.foldl, List.setIfInBounds_toArray, List.set_cons_zero, List.set_cons_succ, h73] at htm
          clear hz hoff
          generalize tm.getD 63 undef = sl0, tm.getD 64 undef = sl1, tm.getD 65 undef = sl2, tm.getD 66 undef = sl3, tm.getD 67 undef = sl4, tm.getD 68 undef = sl5, tm.getD 69 undef = sl6, tm.getD 70 undef = sl7, tm.getD 71 undef = sl8, tm.getD 72 undef = sl9 at htm
          clear h73
          subst htm
          replace hB := hB.trans (hBz.mono hB.size)
          clear hBz M1 X4 X5 HS c0 c1 c2 c3
          go_wp2
          go_roundw
          case rel => exact ⟨j + 1, by omega, by go_num, hB⟩
          case measure => simp [intOf]; omega
        · obtain rfl : j = m := by omega
          clear hAt
          have CI := fun w h => implWindow_any ro j rcap x (p - 1) (q - 1) (r + 1) (s + 1) w h
          have hL2 := winR_len6 (x := x) (p := p - 1) (q := q - 1) (u := r + 1) (v := s + 1) hm
          generalize hK2 : winR j x (p - 1) (q - 1) (r + 1) (s + 1) = L2 at *
          generalize hO2 : winOk j x (p - 1) (q - 1) (r + 1) (s + 1) = f2 at *
          obtain ⟨p0, p1⟩ := X4.cs2
          obtain ⟨q0, q1⟩ := X5.cs2
          go_wp2_with fail
          clear p0 p1 q0 q1
          refine (CI _ HS).mono ?_
          rintro e w8 ⟨v3, rfl, N3, hB8⟩
          replace HB := HB.trans (hB8.mono HB.size)
          replace M1 := M1.step hB8
          clear hB8 HS X4 X5 CI
          obtain ⟨b3, k3, rfl, M3⟩ := N3.in
          clear N3
          cases f2
          · clear M1 M3 hWd
            go_wp2_with fail
            go_loopw [13] (fun i wr => i = .int .i64 0 ∧ Below w8.heap.size w8 wr) (fun _ _ => 0)
            case atStart => exact ⟨rfl, Below.refl _ _⟩
            case round =>
              obtain ⟨rfl, hB9⟩ := hrel
              replace HB := HB.trans (hB9.mono HB.size)
              clear hB9
              go_wp2
              go_ret
              exact ⟨rfl, HB⟩
          · replace hWd := hWd rfl
            go_wp2_with fail
            go_loopw [13] (fun i wr => ∃ k : Nat, k ≤ LL.length ∧ i = .int .i64 k ∧ Below w8.heap.size w8 wr) (fun i _ => LL.length - (intOf i).toNat)
            case atStart => exact ⟨0, by omega, rfl, Below.refl _ _⟩
            case round =>
              obtain ⟨k, hkl, rfl, hB9⟩ := hrel
              replace HB := HB.trans (hB9.mono HB.size)
              replace M1 := M1.step hB9
              replace M3 := M3.step hB9
              by_cases hk : k < LL.length
              · have hkI : (k : Int) < (LL.length : Int) := by omega
                obtain ⟨A, off, hro, hA, c9⟩ := M1 k hk
                subst hro
                obtain ⟨zk, hzk⟩ : ∃ zk, LL.getD k 0 = zk := ⟨_, rfl⟩
                have c0 : wr.cell? ⟨A, off + k, none⟩ = some (.int .i64 zk) := by rw [← hzk]; exact c9
                have hz : true = true ↔ ∃ i, i < L2.length ∧ L2.getD i 0 = LL.getD k 0 := by
                  refine ⟨fun _ => ?_, fun _ => rfl⟩
                  exact mem_getD.1 (hWd _ (mem_getD.2 ⟨k, hk, rfl⟩))
                have CH := hasInt_any b3 L2.length k3 _ (LL.getD k 0) true hz (by omega)
                rw [hzk] at CH
                clear hz hWd M1 c9 hzk
                go_wp2_with fail
                refine (CH _ M3).mono ?_
                rintro e w9 ⟨rfl, hB⟩
                replace hB9 := hB9.trans (hB.mono hB9.size)
                clear hB c0 CH M3
                go_wp2
                go_roundw
                case rel => exact ⟨k + 1, by omega, by go_num, hB9⟩
                case measure => simp [intOf]; omega
              · obtain rfl : k = LL.length := by omega
                clear M1 M3 hWd
                go_wp2
                go_ret
                exact ⟨rfl, HB⟩
end Go.Proofs.Ytjhmacpejfldoaa

/- What the row of a law asks of the program as a whole, each by itself. -/
namespace Go.Proofs.Ytjhmacpejfldoaa
open Go.ChangeShapes Go.WideShapes Go.ChangeAt Go.RowKit Go.Joins
theorem jn_laid : laidOutB Try.pinned.checked.prog = true := by kernel_rfl
theorem jn_maps : mapsRowed Try.pinned.checked.prog = true := by kernel_rfl
theorem jn_enter : Try.pinned.checked.prog.mayEnter = true := by kernel_rfl
theorem jn_heard : Try.pinned.checked.prog.stopsHeard = true := by kernel_rfl
end Go.Proofs.Ytjhmacpejfldoaa
