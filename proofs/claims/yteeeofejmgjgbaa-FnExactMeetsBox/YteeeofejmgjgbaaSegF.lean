/- The sides of a segment on which spots are: the walk of the program's loop. -/
import Derived.Test.YteeeofejmgjgbaaSegE
namespace Go.Proofs.Yteeeofejmgjgbaa
open Go.RowKit
structure PartI (w wr : World) (g : Nat) (sg sl : List Value) : Prop where
  below : Below w.heap.size w wr
  seg : Blk wr w.heap.size sg
  row : Blk wr g sl
theorem PartI.step {w wr wr' : World} {g : Nat} {sg sl : List Value} (h : PartI w wr g sg sl) (hB : Below wr.heap.size wr wr') : PartI w wr' g sg sl := ⟨h.below.trans (hB.mono h.below.size), h.seg.step hB, h.row.step hB⟩
theorem PartI.alloc {w wr : World} {g : Nat} {sg sl : List Value} (h : PartI w wr g sg sl) (o : Obj) : PartI w (wr.alloc o) g sg sl := h.step ((Below.refl _ _).alloc (Nat.le_refl _) o)
def lefts (ts : List Int) (k : Nat) : Bool := (ts.take k).any (fun t => decide (0 ≤ t))
def rights (ts : List Int) (k : Nat) : Bool := (ts.take k).any (fun t => decide (t ≤ 0))
theorem lefts_succ (ts : List Int) (k : Nat) (t : Int) (h : ts[k]? = some t) : lefts ts (k + 1) = (lefts ts k || decide (0 ≤ t)) := by
  unfold lefts
  rw [List.take_add_one, h]
  simp
theorem rights_succ (ts : List Int) (k : Nat) (t : Int) (h : ts[k]? = some t) : rights ts (k + 1) = (rights ts k || decide (t ≤ 0)) := by
  unfold rights
  rw [List.take_add_one, h]
  simp
set_option maxRecDepth 100000 in
set_option maxHeartbeats 2000000 in
theorem parts_any (a b c d x0 y0 x1 y1 x2 y2 x3 y3 : Int) (ha : In6 a) (hb : In6 b) (hc : In6 c) (hd : In6 d) (hx0 : In6 x0) (hy0 : In6 y0) (hx1 : In6 x1) (hy1 : In6 y1) (hx2 : In6 x2) (hy2 : In6 y2) (hx3 : In6 x3) (hy3 : In6 y3) (g : Nat) (w : World) (hS : Blk w g [.int .i64 x0, .int .i64 y0, .int .i64 x1, .int .i64 y1, .int .i64 x2, .int .i64 y2, .int .i64 x3, .int .i64 y3]) :
    Calls Try.prog 19 #[Sg a b c d, .slice (some ⟨g, 0, none⟩) 4 4] w (BoolP (lefts [turnI a b c d x0 y0, turnI a b c d x1 y1, turnI a b c d x2 y2, turnI a b c d x3 y3] 4 && rights [turnI a b c d x0 y0, turnI a b c d x1 y1, turnI a b c d x2 y2, turnI a b c d x3 y3] 4) w) := by
  obtain ⟨ts, hts⟩ : ∃ ts, [turnI a b c d x0 y0, turnI a b c d x1 y1, turnI a b c d x2 y2, turnI a b c d x3 y3] = ts := ⟨_, rfl⟩
  rw [hts]
  have I0 : PartI w (w.alloc (.cells #[.int .i64 a, .int .i64 b, .int .i64 c, .int .i64 d] 29)) g [.int .i64 a, .int .i64 b, .int .i64 c, .int .i64 d] [.int .i64 x0, .int .i64 y0, .int .i64 x1, .int .i64 y1, .int .i64 x2, .int .i64 y2, .int .i64 x3, .int .i64 y3] :=
    ⟨(Below.refl _ _).alloc (Nat.le_refl _) _, Blk.new w [.int .i64 a, .int .i64 b, .int .i64 c, .int .i64 d] 29 rfl, hS.alloc _⟩
  go_enter Try.func19, Try.ntmps19
  go_wp2
  generalize (w.alloc (.cells #[.int .i64 a, .int .i64 b, .int .i64 c, .int .i64 d] 29)) = W at *
  go_loopw [5, 6, 12] (fun l r i wr => ∃ k : Nat, k ≤ 4 ∧ i = .int .i64 k ∧ l = .bool (lefts ts k) ∧ r = .bool (rights ts k) ∧ PartI w wr g [.int .i64 a, .int .i64 b, .int .i64 c, .int .i64 d] [.int .i64 x0, .int .i64 y0, .int .i64 x1, .int .i64 y1, .int .i64 x2, .int .i64 y2, .int .i64 x3, .int .i64 y3]) (fun _ _ i _ => 4 - (intOf i).toNat)
  case atStart => exact ⟨0, by omega, rfl, rfl, rfl, I0⟩
  case round =>
    clear I0
    obtain ⟨k, hk, rfl, rfl, rfl, I0⟩ := hrel
    have ca0 := I0.seg.c 0 rfl; have ca1 := I0.seg.c 1 rfl; have ca2 := I0.seg.c 2 rfl; have ca3 := I0.seg.c 3 rfl; have calt := I0.seg.lt
    rcases (by omega : k = 0 ∨ k = 1 ∨ k = 2 ∨ k = 3 ∨ k = 4) with rfl | rfl | rfl | rfl | rfl
    · have e1 := I0.row.c 0 rfl; have e2 := I0.row.c 1 rfl
      have K1 := lefts_succ ts 0 (turnI a b c d x0 y0) (by rw [← hts]; rfl)
      have K2 := rights_succ ts 0 (turnI a b c d x0 y0) (by rw [← hts]; rfl)
      obtain ⟨L, hL⟩ : ∃ L, lefts ts 0 = L := ⟨_, rfl⟩
      obtain ⟨R, hR⟩ : ∃ R, rights ts 0 = R := ⟨_, rfl⟩
      rw [hL] at K1 ⊢; rw [hR] at K2 ⊢
      clear hL hR hts hS
      go_wp2_with fail
      refine (turnTo_any a b c d x0 y0 ha hb hc hd hx0 hy0 _).mono ?_
      rintro e w1 ⟨rfl, hB⟩
      replace I0 := (I0.alloc _).step hB
      clear ca0 ca1 ca2 ca3 calt e1 e2 hB
      generalize turnI a b c d x0 y0 = t at *
      cases L <;> cases R
      all_goals go_wp2
      all_goals go_roundw
      all_goals first | exact ⟨0 + 1, by omega, rfl, by rw [K1]; simp, by rw [K2]; simp, I0⟩ | simp [intOf]
    · have e1 := I0.row.c 2 rfl; have e2 := I0.row.c 3 rfl
      have K1 := lefts_succ ts 1 (turnI a b c d x1 y1) (by rw [← hts]; rfl)
      have K2 := rights_succ ts 1 (turnI a b c d x1 y1) (by rw [← hts]; rfl)
      obtain ⟨L, hL⟩ : ∃ L, lefts ts 1 = L := ⟨_, rfl⟩
      obtain ⟨R, hR⟩ : ∃ R, rights ts 1 = R := ⟨_, rfl⟩
      rw [hL] at K1 ⊢; rw [hR] at K2 ⊢
      clear hL hR hts hS
      go_wp2_with fail
      refine (turnTo_any a b c d x1 y1 ha hb hc hd hx1 hy1 _).mono ?_
      rintro e w1 ⟨rfl, hB⟩
      replace I0 := (I0.alloc _).step hB
      clear ca0 ca1 ca2 ca3 calt e1 e2 hB
      generalize turnI a b c d x1 y1 = t at *
      cases L <;> cases R
      all_goals go_wp2
      all_goals go_roundw
      all_goals first | exact ⟨1 + 1, by omega, rfl, by rw [K1]; simp, by rw [K2]; simp, I0⟩ | simp [intOf]
    · have e1 := I0.row.c 4 rfl; have e2 := I0.row.c 5 rfl
      have K1 := lefts_succ ts 2 (turnI a b c d x2 y2) (by rw [← hts]; rfl)
      have K2 := rights_succ ts 2 (turnI a b c d x2 y2) (by rw [← hts]; rfl)
      obtain ⟨L, hL⟩ : ∃ L, lefts ts 2 = L := ⟨_, rfl⟩
      obtain ⟨R, hR⟩ : ∃ R, rights ts 2 = R := ⟨_, rfl⟩
      rw [hL] at K1 ⊢; rw [hR] at K2 ⊢
      clear hL hR hts hS
      go_wp2_with fail
      refine (turnTo_any a b c d x2 y2 ha hb hc hd hx2 hy2 _).mono ?_
      rintro e w1 ⟨rfl, hB⟩
      replace I0 := (I0.alloc _).step hB
      clear ca0 ca1 ca2 ca3 calt e1 e2 hB
      generalize turnI a b c d x2 y2 = t at *
      cases L <;> cases R
      all_goals go_wp2
      all_goals go_roundw
      all_goals first | exact ⟨2 + 1, by omega, rfl, by rw [K1]; simp, by rw [K2]; simp, I0⟩ | simp [intOf]
    · have e1 := I0.row.c 6 rfl; have e2 := I0.row.c 7 rfl
      have K1 := lefts_succ ts 3 (turnI a b c d x3 y3) (by rw [← hts]; rfl)
      have K2 := rights_succ ts 3 (turnI a b c d x3 y3) (by rw [← hts]; rfl)
      obtain ⟨L, hL⟩ : ∃ L, lefts ts 3 = L := ⟨_, rfl⟩
      obtain ⟨R, hR⟩ : ∃ R, rights ts 3 = R := ⟨_, rfl⟩
      rw [hL] at K1 ⊢; rw [hR] at K2 ⊢
      clear hL hR hts hS
      go_wp2_with fail
      refine (turnTo_any a b c d x3 y3 ha hb hc hd hx3 hy3 _).mono ?_
      rintro e w1 ⟨rfl, hB⟩
      replace I0 := (I0.alloc _).step hB
      clear ca0 ca1 ca2 ca3 calt e1 e2 hB
      generalize turnI a b c d x3 y3 = t at *
      cases L <;> cases R
      all_goals go_wp2
      all_goals go_roundw
      all_goals first | exact ⟨3 + 1, by omega, rfl, by rw [K1]; simp, by rw [K2]; simp, I0⟩ | simp [intOf]
    · obtain ⟨L, hL⟩ : ∃ L, lefts ts 4 = L := ⟨_, rfl⟩
      obtain ⟨R, hR⟩ : ∃ R, rights ts 4 = R := ⟨_, rfl⟩
      rw [hL, hR]
      clear hts hS
      cases L <;> cases R
      all_goals go_wp2
      all_goals go_ret
      all_goals exact ⟨ret_bool (by rw [hL, hR]; rfl), I0.below⟩
end Go.Proofs.Yteeeofejmgjgbaa
