/- Part 4 of the walks that the proof leans on. -/
import Derived.Test.YtbhhegmlfclhbaaPart3
import Derived.Deep.OwnRows
import Derived.Deep.RegionHeld3
import Derived.Test.YtbhhegmlfclhbaaPart1
/- The walk of the model's point in lowest terms. -/
namespace Go.Proofs.Ytbhhegmlfclhbaa
open Go.RowKit
theorem share_quot {v V g z : Int} (hV : V = if z < 0 then -v else v) (hg : 0 < g) (hd : g ∣ v) : V / g = shareZ v g (decide (z < 0)) := by
  obtain ⟨a, rfl⟩ := hd
  have hd : ∀ z : Int, (g * z) / g = z := fun z => Int.mul_ediv_cancel_left z (by omega)
  have hn : (((g * a).natAbs : Nat) : Int) / g = (a.natAbs : Int) := by
    rw [Int.natAbs_mul, Int.natCast_mul, Int.natAbs_of_nonneg (by omega)]
    exact hd _
  have hs : g * a < 0 ↔ a < 0 := by
    constructor
    · intro h
      apply Decidable.byContradiction
      intro h'
      have := Int.mul_nonneg (a := g) (b := a) (by omega) (by omega)
      omega
    · intro h
      exact Int.mul_neg_of_pos_of_neg hg h
  unfold shareZ
  rw [hn, hV]
  simp only [hs]
  by_cases h2 : z < 0
  · rw [if_pos h2, ← Int.mul_neg, hd]
    by_cases h1 : a < 0 <;> simp [h1, h2] <;> omega
  · rw [if_neg h2, hd]
    by_cases h1 : a < 0 <;> simp [h1, h2] <;> omega
theorem low3 {x y z X Y Z : Int} (hX : X = if z < 0 then -x else x) (hY : Y = if z < 0 then -y else y) (hZ : Z = if z < 0 then -z else z) (hz : z ≠ 0) : X / (Int.gcd (Int.gcd x y : Int) z : Int) = shareZ x (Int.gcd (Int.gcd x y : Int) z : Int) (decide (z < 0)) ∧ Y / (Int.gcd (Int.gcd x y : Int) z : Int) = shareZ y (Int.gcd (Int.gcd x y : Int) z : Int) (decide (z < 0)) ∧ Z / (Int.gcd (Int.gcd x y : Int) z : Int) = shareZ z (Int.gcd (Int.gcd x y : Int) z : Int) (decide (z < 0)) ∧ (Int.gcd (Int.gcd X Y : Int) Z : Int) = (Int.gcd (Int.gcd x y : Int) z : Int) ∧ 0 < (Int.gcd (Int.gcd x y : Int) z : Int) := by
  have g0 : 0 < Int.gcd (Int.gcd x y : Int) z := Int.gcd_pos_of_ne_zero_right _ hz
  have hgp : 0 < (Int.gcd (Int.gcd x y : Int) z : Int) := by omega
  have dxy : (Int.gcd (Int.gcd x y : Int) z : Int) ∣ (Int.gcd x y : Int) := Int.gcd_dvd_left _ _
  refine ⟨share_quot hX hgp (Int.dvd_trans dxy (Int.gcd_dvd_left _ _)), share_quot hY hgp (Int.dvd_trans dxy (Int.gcd_dvd_right _ _)), share_quot hZ hgp (Int.gcd_dvd_right _ _), ?_, hgp⟩
  rw [hX, hY, hZ]
  split
  · simp [Int.gcd]
  · rfl
/-- The three numbers as they lie in the arguments' places. -/
def CutT3 (w wx : World) (x y z : Int) (k : Nat) : Prop :=
  ∃ (s1 : Bool) (o1 : Option Addr) (n1 c1 : Nat) (d1 : List Int) (s2 : Bool) (o2 : Option Addr) (n2 c2 : Nat) (d2 : List Int) (s3 : Bool) (o3 : Option Addr) (n3 c3 : Nat) (d3 : List Int), ArgsB w wx [[.bool s1, .slice o1 n1 c1], [.bool s2, .slice o2 n2 c2], [.bool s3, .slice o3 n3 c3], [.bool false, .slice none 0 0, .bool false, .slice none 0 0, .bool false, .slice none 0 0]] ∧ IsNum wx s1 o1 n1 c1 d1 x k ∧ IsNum wx s2 o2 n2 c2 d2 y k ∧ IsNum wx s3 o3 n3 c3 d3 z k
theorem CutT3.drew {w W : World} {x y z : Int} {k : Nat} (h : CutT3 w W x y z k) : CutT3 w W.drew x y z k := by
  obtain ⟨s1, o1, n1, c1, d1, s2, o2, n2, c2, d2, s3, o3, n3, c3, d3, A, N1, N2, N3⟩ := h
  exact ⟨s1, o1, n1, c1, d1, s2, o2, n2, c2, d2, s3, o3, n3, c3, d3, A.drew, N1.drew, N2.drew, N3.drew⟩
theorem ArgsB.w0 {w W : World} {a0 a1 u0 u1 : Value} {b c r : List Value} (h : ArgsB w W [[a0, a1], b, c, r]) : ArgsB w ((W.setCell ⟨w.heap.size, 0, none⟩ u0).setCell ⟨w.heap.size, 1, none⟩ u1) [[u0, u1], b, c, r] := by
  refine ⟨(h.1.setCell (by simp) _).setCell (by simp) _, fun j vs hj => ?_⟩
  match j, hj with
  | 0, hj => cases hj; exact Blk.stored2 (h.b 0 rfl) _ _
  | 1, hj => cases hj; exact Blk.set2 (h.b 1 rfl) (by omega)
  | 2, hj => cases hj; exact Blk.set2 (h.b 2 rfl) (by omega)
  | 3, hj => cases hj; exact Blk.set2 (h.b 3 rfl) (by omega)
  | j + 4, hj => simp at hj
theorem ArgsB.w1 {w W : World} {a0 a1 u0 u1 : Value} {b c r : List Value} (h : ArgsB w W [b, [a0, a1], c, r]) : ArgsB w ((W.setCell ⟨w.heap.size + 1, 0, none⟩ u0).setCell ⟨w.heap.size + 1, 1, none⟩ u1) [b, [u0, u1], c, r] := by
  refine ⟨(h.1.setCell (by simp) _).setCell (by simp) _, fun j vs hj => ?_⟩
  match j, hj with
  | 0, hj => cases hj; exact Blk.set2 (h.b 0 rfl) (by omega)
  | 1, hj => cases hj; exact Blk.stored2 (h.b 1 rfl) _ _
  | 2, hj => cases hj; exact Blk.set2 (h.b 2 rfl) (by omega)
  | 3, hj => cases hj; exact Blk.set2 (h.b 3 rfl) (by omega)
  | j + 4, hj => simp at hj
theorem ArgsB.w2 {w W : World} {a0 a1 u0 u1 : Value} {b c r : List Value} (h : ArgsB w W [b, c, [a0, a1], r]) : ArgsB w ((W.setCell ⟨w.heap.size + 1 + 1, 0, none⟩ u0).setCell ⟨w.heap.size + 1 + 1, 1, none⟩ u1) [b, c, [u0, u1], r] := by
  refine ⟨(h.1.setCell (by simp; omega) _).setCell (by simp; omega) _, fun j vs hj => ?_⟩
  match j, hj with
  | 0, hj => cases hj; exact Blk.set2 (h.b 0 rfl) (by omega)
  | 1, hj => cases hj; exact Blk.set2 (h.b 1 rfl) (by omega)
  | 2, hj => cases hj; exact Blk.stored2 (h.b 2 rfl) _ _
  | 3, hj => cases hj; exact Blk.set2 (h.b 3 rfl) (by omega)
  | j + 4, hj => simp at hj
theorem cutT3_up {w W : World} {x y z : Int} {k : Nat} {p q r : Bool} {po qo ro : Option Addr} {p1 p2 q1 q2 r1 r2 : Nat} {s1 : Bool} {o1 : Option Addr} {n1 c1 : Nat} {d1 : List Int} {s2 : Bool} {o2 : Option Addr} {n2 c2 : Nat} {d2 : List Int} {s3 : Bool} {o3 : Option Addr} {n3 c3 : Nat} {d3 : List Int} (h : ArgsB w W [[.bool p, .slice po p1 p2], [.bool q, .slice qo q1 q2], [.bool r, .slice ro r1 r2], [.bool false, .slice none 0 0, .bool false, .slice none 0 0, .bool false, .slice none 0 0]]) (N1 : IsNum W s1 o1 n1 c1 d1 x k) (N2 : IsNum W s2 o2 n2 c2 d2 y k) (N3 : IsNum W s3 o3 n3 c3 d3 z k) :
    CutT3 w ((((((W.setCell ⟨w.heap.size, 0, none⟩ (.bool s1)).setCell ⟨w.heap.size, 1, none⟩ (.slice o1 n1 c1)).setCell ⟨w.heap.size + 1, 0, none⟩ (.bool s2)).setCell ⟨w.heap.size + 1, 1, none⟩ (.slice o2 n2 c2)).setCell ⟨w.heap.size + 1 + 1, 0, none⟩ (.bool s3)).setCell ⟨w.heap.size + 1 + 1, 1, none⟩ (.slice o3 n3 c3)) x y z k := by
  have A0 : Blk W w.heap.size _ := h.b 0 rfl
  have A1 : Blk ((W.setCell ⟨w.heap.size, 0, none⟩ (.bool s1)).setCell ⟨w.heap.size, 1, none⟩ (.slice o1 n1 c1)) (w.heap.size + 1) _ := (h.w0 (u0 := .bool s1) (u1 := .slice o1 n1 c1)).b 1 rfl
  have A2 : Blk ((((W.setCell ⟨w.heap.size, 0, none⟩ (.bool s1)).setCell ⟨w.heap.size, 1, none⟩ (.slice o1 n1 c1)).setCell ⟨w.heap.size + 1, 0, none⟩ (.bool s2)).setCell ⟨w.heap.size + 1, 1, none⟩ (.slice o2 n2 c2)) (w.heap.size + 1 + 1) _ := (h.w0 (u0 := .bool s1) (u1 := .slice o1 n1 c1)).w1.b 2 rfl
  exact ⟨s1, o1, n1, c1, d1, s2, o2, n2, c2, d2, s3, o3, n3, c3, d3, h.w0.w1.w2, num_put (num_put (num_put N1 A0 _ _) A1 _ _) A2 _ _, num_put (num_put (num_put N2 A0 _ _) A1 _ _) A2 _ _, num_put (num_put (num_put N3 A0 _ _) A1 _ _) A2 _ _⟩
theorem m3_cells {s4 : Bool} {o4 : Option Addr} {n4 c4 : Nat} {s5 : Bool} {o5 : Option Addr} {n5 c5 : Nat} {s6 : Bool} {o6 : Option Addr} {n6 c6 : Nat} {w W : World} (h : ArgsB w W [[.bool s4, .slice o4 n4 c4], [.bool s5, .slice o5 n5 c5], [.bool s6, .slice o6 n6 c6], [.bool false, .slice none 0 0, .bool false, .slice none 0 0, .bool false, .slice none 0 0]]) : (fun w' => w'.cell? ⟨w.heap.size, 0, none⟩ = some (.bool s4) ∧ w'.cell? ⟨w.heap.size, 1, none⟩ = some (.slice o4 n4 c4) ∧ w'.cell? ⟨w.heap.size + 1, 0, none⟩ = some (.bool s5) ∧ w'.cell? ⟨w.heap.size + 1, 1, none⟩ = some (.slice o5 n5 c5) ∧ w'.cell? ⟨w.heap.size + 2, 0, none⟩ = some (.bool s6) ∧ w'.cell? ⟨w.heap.size + 2, 1, none⟩ = some (.slice o6 n6 c6)) W := ⟨(h.b 0 rfl).c 0 rfl, (h.b 0 rfl).c 1 rfl, (h.b 1 rfl).c 0 rfl, (h.b 1 rfl).c 1 rfl, (h.b 2 rfl).c 0 rfl, (h.b 2 rfl).c 1 rfl⟩
set_option maxRecDepth 100000 in
set_option maxHeartbeats 8000000 in
theorem l3Make_any (s1 : Bool) (o1 : Option Addr) (n1 c1 : Nat) (d1 : List Int) (s2 : Bool) (o2 : Option Addr) (n2 c2 : Nat) (d2 : List Int) (s3 : Bool) (o3 : Option Addr) (n3 c3 : Nat) (d3 : List Int) (x y z : Int) (k : Nat) (hk : 2 ≤ k) (hk2 : k ≤ 8000) (w : World) (N1 : IsNum w s1 o1 n1 c1 d1 x k) (N2 : IsNum w s2 o2 n2 c2 d2 y k) (N3 : IsNum w s3 o3 n3 c3 d3 z k) (hz : z ≠ 0) :
    Calls Try.prog 43 #[.agg #[.bool s1, .slice o1 n1 c1], .agg #[.bool s2, .slice o2 n2 c2], .agg #[.bool s3, .slice o3 n3 c3]] w (L3P (k + 3) (shareZ x (Int.gcd (Int.gcd x y : Int) z : Int) (decide (z < 0))) (shareZ y (Int.gcd (Int.gcd x y : Int) z : Int) (decide (z < 0))) (shareZ z (Int.gcd (Int.gcd x y : Int) z : Int) (decide (z < 0))) w) := by
  have T0 : ArgsB w ((((w.alloc (.cells #[.bool s1, .slice o1 n1 c1] 44)).alloc (.cells #[.bool s2, .slice o2 n2 c2] 44)).alloc (.cells #[.bool s3, .slice o3 n3 c3] 44)).alloc (.cells #[.bool false, .slice none 0 0, .bool false, .slice none 0 0, .bool false, .slice none 0 0] 46)) [[.bool s1, .slice o1 n1 c1], [.bool s2, .slice o2 n2 c2], [.bool s3, .slice o3 n3 c3], [.bool false, .slice none 0 0, .bool false, .slice none 0 0, .bool false, .slice none 0 0]] := ar4 _ _ _ _ _ _ _ _ w
  replace N1 := N1.step T0.below
  replace N2 := N2.step T0.below
  replace N3 := N3.step T0.below
  obtain ⟨X, hX⟩ : ∃ X, X = if z < 0 then -x else x := ⟨_, rfl⟩
  obtain ⟨Y, hY⟩ : ∃ Y, Y = if z < 0 then -y else y := ⟨_, rfl⟩
  obtain ⟨Z, hZ⟩ : ∃ Z, Z = if z < 0 then -z else z := ⟨_, rfl⟩
  obtain ⟨e1, e2, e3, e4, e5⟩ := low3 hX hY hZ hz
  go_enter Try.func43, Try.ntmps43
  go_upto_region 1 with fail
  generalize ((((w.alloc (.cells #[.bool s1, .slice o1 n1 c1] 44)).alloc (.cells #[.bool s2, .slice o2 n2 c2] 44)).alloc (.cells #[.bool s3, .slice o3 n3 c3] 44)).alloc (.cells #[.bool false, .slice none 0 0, .bool false, .slice none 0 0, .bool false, .slice none 0 0] 46)) = W at *
  go_cut [9] (fun p wx => p = .bool (decide (z < 0)) ∧ wx = W)
  case first =>
    have HN : Hid (s3 = decide (z < 0)) := N3.neg
    have aB : Blk _ (w.heap.size) _ := T0.b 0 rfl; obtain ⟨a0c, a0f, a1c, a1f⟩ := aB.cf2; have alt := aB.lt; clear aB; have bB : Blk _ (w.heap.size + 1) _ := T0.b 1 rfl; obtain ⟨b0c, b0f, b1c, b1f⟩ := bB.cf2; have blt := bB.lt; clear bB; have eB : Blk _ (w.heap.size + 1 + 1) _ := T0.b 2 rfl; obtain ⟨e0c, e0f, e1c, e1f⟩ := eB.cf2; have elt := eB.lt; clear eB
    go_wp2_with fail
    go_meet
    case rel => exact ⟨by rw [HN.out], rfl⟩
  case rest =>
   obtain ⟨rfl, rfl⟩ := hcut
   rename_i hk'
   refine hk' _ _ ?_
   go_cut [] (fun wx => CutT3 w wx X Y Z k)
   case first =>
    by_cases hn : z < 0
    · obtain rfl : s3 = true := by rw [N3.neg]; simpa using hn
      rw [if_pos hn] at hX hY hZ
      rw [decide_eq_true hn]
      have aB : Blk _ (w.heap.size) _ := T0.b 0 rfl; obtain ⟨a0c, a0f, a1c, a1f⟩ := aB.cf2; have alt := aB.lt; clear aB; have bB : Blk _ (w.heap.size + 1) _ := T0.b 1 rfl; obtain ⟨b0c, b0f, b1c, b1f⟩ := bB.cf2; have blt := bB.lt; clear bB; have eB : Blk _ (w.heap.size + 1 + 1) _ := T0.b 2 rfl; obtain ⟨e0c, e0f, e1c, e1f⟩ := eB.cf2; have elt := eB.lt; clear eB
      have tok1 : True := trivial
      have tok2 : True := trivial
      replace T0 := T0.drew; replace N1 := N1.drew; replace N2 := N2.drew; replace N3 := N3.drew
      go_wp2_with fail
      go_region_with ((first
        | (go_at_call 62; have _t := tok1; refine (neg_any s1 o1 n1 c1 d1 x k _ N1).mono ?_; rintro e w1 ⟨s4, o4, n4, c4, d4, rfl, N4, hB⟩; replace T0 := T0.step hB; replace N2 := N2.step hB; replace N3 := N3.step hB; clear hB tok1 _t a0c a0f a1c a1f alt b0c b0f b1c b1f blt e0c e0f e1c e1f elt; have aB : Blk _ (w.heap.size) _ := T0.b 0 rfl; obtain ⟨a0c, a0f, a1c, a1f⟩ := aB.cf2; have alt := aB.lt; clear aB; have bB : Blk _ (w.heap.size + 1) _ := T0.b 1 rfl; obtain ⟨b0c, b0f, b1c, b1f⟩ := bB.cf2; have blt := bB.lt; clear bB; have eB : Blk _ (w.heap.size + 1 + 1) _ := T0.b 2 rfl; obtain ⟨e0c, e0f, e1c, e1f⟩ := eB.cf2; have elt := eB.lt; clear eB)
        | (go_at_call 62; have _t := tok2; refine (neg_any s2 o2 n2 c2 d2 y k _ N2).mono ?_; rintro e w2 ⟨s5, o5, n5, c5, d5, rfl, N5, hB⟩; replace T0 := T0.step hB; replace N4 := N4.step hB; replace N3 := N3.step hB; clear hB tok2 _t a0c a0f a1c a1f alt b0c b0f b1c b1f blt e0c e0f e1c e1f elt; have aB : Blk _ (w.heap.size) _ := T0.b 0 rfl; obtain ⟨a0c, a0f, a1c, a1f⟩ := aB.cf2; have alt := aB.lt; clear aB; have bB : Blk _ (w.heap.size + 1) _ := T0.b 1 rfl; obtain ⟨b0c, b0f, b1c, b1f⟩ := bB.cf2; have blt := bB.lt; clear bB; have eB : Blk _ (w.heap.size + 1 + 1) _ := T0.b 2 rfl; obtain ⟨e0c, e0f, e1c, e1f⟩ := eB.cf2; have elt := eB.lt; clear eB)
        | (go_at_call 62; refine (neg_any true o3 n3 c3 d3 z k _ N3).mono ?_; rintro e w3 ⟨s6, o6, n6, c6, d6, rfl, N6, hB⟩; replace T0 := T0.step hB; replace N4 := N4.step hB; replace N5 := N5.step hB; clear hB a0c a0f a1c a1f alt b0c b0f b1c b1f blt e0c e0f e1c e1f elt; have aB : Blk _ (w.heap.size) _ := T0.b 0 rfl; obtain ⟨a0c, a0f, a1c, a1f⟩ := aB.cf2; have alt := aB.lt; clear aB; have bB : Blk _ (w.heap.size + 1) _ := T0.b 1 rfl; obtain ⟨b0c, b0f, b1c, b1f⟩ := bB.cf2; have blt := bB.lt; clear bB; have eB : Blk _ (w.heap.size + 1 + 1) _ := T0.b 2 rfl; obtain ⟨e0c, e0f, e1c, e1f⟩ := eB.cf2; have elt := eB.lt; clear eB)))
      all_goals go_wp2_with fail
      all_goals go_meet
      all_goals rw [← hX] at N4
      all_goals rw [← hY] at N5
      all_goals rw [← hZ] at N6
      all_goals first | exact cutT3_up T0 N4 N5 N6 | exact (cutT3_up T0 N4 N5 N6).drew
    · obtain rfl : s3 = false := by rw [N3.neg]; simpa using hn
      rw [if_neg hn] at hX hY hZ
      rw [decide_eq_false hn]
      subst hX hY hZ
      have aB : Blk _ (w.heap.size) _ := T0.b 0 rfl; obtain ⟨a0c, a0f, a1c, a1f⟩ := aB.cf2; have alt := aB.lt; clear aB; have bB : Blk _ (w.heap.size + 1) _ := T0.b 1 rfl; obtain ⟨b0c, b0f, b1c, b1f⟩ := bB.cf2; have blt := bB.lt; clear bB; have eB : Blk _ (w.heap.size + 1 + 1) _ := T0.b 2 rfl; obtain ⟨e0c, e0f, e1c, e1f⟩ := eB.cf2; have elt := eB.lt; clear eB
      go_wp2_with fail
      go_meet
      case rel => exact ⟨s1, o1, n1, c1, d1, s2, o2, n2, c2, d2, false, o3, n3, c3, d3, T0, N1, N2, N3⟩
   case rest =>
    clear T0 N1 N2 N3 hk'
    obtain ⟨s4, o4, n4, c4, d4, s5, o5, n5, c5, d5, s6, o6, n6, c6, d6, T0, N1, N2, N3⟩ := hcut
    have tok1 : True := trivial
    have hl0 := (T0.b 3 rfl).lt
    go_upto_region 3 with fail
    go_cut [7] (fun p wx => CutN w wx [[.bool s4, .slice o4 n4 c4], [.bool s5, .slice o5 n5 c5], [.bool s6, .slice o6 n6 c6], [.bool false, .slice none 0 0, .bool false, .slice none 0 0, .bool false, .slice none 0 0]] (Int.gcd (Int.gcd x y : Int) z : Int) k (w.heap.size + 4) p ∧ IsNum wx s4 o4 n4 c4 d4 X k ∧ IsNum wx s5 o5 n5 c5 d5 Y k ∧ IsNum wx s6 o6 n6 c6 d6 Z k)
    case first =>
      go_region_held3 (fun w' => w'.cell? ⟨w.heap.size, 0, none⟩ = some (.bool s4) ∧ w'.cell? ⟨w.heap.size, 1, none⟩ = some (.slice o4 n4 c4) ∧ w'.cell? ⟨w.heap.size + 1, 0, none⟩ = some (.bool s5) ∧ w'.cell? ⟨w.heap.size + 1, 1, none⟩ = some (.slice o5 n5 c5) ∧ w'.cell? ⟨w.heap.size + 2, 0, none⟩ = some (.bool s6) ∧ w'.cell? ⟨w.heap.size + 2, 1, none⟩ = some (.slice o6 n6 c6)) ((refine m3_cells ?_ <;> repeat (first | (with_reducible exact T0) | (with_reducible refine ArgsB.drew ?_) | (with_reducible refine ArgsB.alloc ?_ _) | (with_reducible refine ArgsB.set2g ?_ (by simp; omega) _ _))))
        (first
          | (go_at_call 63; have _t := tok1; refine (gcd_any s4 s5 o4 o5 n4 n5 c4 c5 k d4 d5 _ _ _ (by first | (with_reducible exact N1) | (with_reducible exact N1.drew) | (with_reducible exact N1.alloc _) | (with_reducible exact (N1.alloc _).drew)) (by first | (with_reducible exact N2) | (with_reducible exact N2.drew) | (with_reducible exact N2.alloc _) | (with_reducible exact (N2.alloc _).drew)) (by omega)).mono ?_; rintro e k1 ⟨s7, o7, n7, c7, d7, rfl, N7, hB⟩; (first | (have T1 : ArgsB w k1 _ := (by with_reducible exact T0.step hB); have tltk1 := (T0.b 3 rfl).lt; replace N1 := N1.below hB; replace N2 := N2.below hB; replace N3 := N3.below hB; (try (replace G0 := G0.step hB; obtain ⟨j0c, j0f, j1c, j1f⟩ := G0.cf2; have jlt := G0.lt))) | (have T1 : ArgsB w k1 _ := (by with_reducible exact T0.drew.step hB); have tltk1 := (T0.b 3 rfl).lt; replace N1 := N1.drew.below hB; replace N2 := N2.drew.below hB; replace N3 := N3.drew.below hB; (try (replace G0 := G0.drew.step hB; obtain ⟨j0c, j0f, j1c, j1f⟩ := G0.cf2; have jlt := G0.lt))) | (have T1 : ArgsB w k1 _ := (by with_reducible exact (T0.alloc _).step hB); have tltk1 := (T0.b 3 rfl).lt; replace N1 := (N1.alloc _).below hB; replace N2 := (N2.alloc _).below hB; replace N3 := (N3.alloc _).below hB; (have G0 := (Blk.new _ [.bool false, .slice none 0 0] _ rfl).step hB; obtain ⟨j0c, j0f, j1c, j1f⟩ := G0.cf2; have jlt := G0.lt)) | (have T1 : ArgsB w k1 _ := (by with_reducible exact (T0.alloc _).drew.step hB); have tltk1 := (T0.b 3 rfl).lt; replace N1 := (N1.alloc _).drew.below hB; replace N2 := (N2.alloc _).drew.below hB; replace N3 := (N3.alloc _).drew.below hB; (have G0 := (Blk.new _ [.bool false, .slice none 0 0] _ rfl).drew.step hB; obtain ⟨j0c, j0f, j1c, j1f⟩ := G0.cf2; have jlt := G0.lt))); clear T0; have T0 := T1; clear T1; clear hB tok1 _t)
          | (go_at_call 63; refine (gcd_any s7 s6 o7 o6 n7 n6 c7 c6 k d7 d6 _ _ _ (by first | (with_reducible exact N7) | (with_reducible exact N7.drew) | (with_reducible exact N7.alloc _) | (with_reducible exact (N7.alloc _).drew)) (by first | (with_reducible exact N3) | (with_reducible exact N3.drew) | (with_reducible exact N3.alloc _) | (with_reducible exact (N3.alloc _).drew)) (by omega)).mono ?_; rintro e k2 ⟨s8, o8, n8, c8, d8, rfl, N8, hB⟩; (first | (have T1 : ArgsB w k2 _ := (by with_reducible exact T0.step hB); have tltk2 := (T0.b 3 rfl).lt; replace N1 := N1.below hB; replace N2 := N2.below hB; replace N3 := N3.below hB; (try (replace G0 := G0.step hB; obtain ⟨j0c, j0f, j1c, j1f⟩ := G0.cf2; have jlt := G0.lt))) | (have T1 : ArgsB w k2 _ := (by with_reducible exact T0.drew.step hB); have tltk2 := (T0.b 3 rfl).lt; replace N1 := N1.drew.below hB; replace N2 := N2.drew.below hB; replace N3 := N3.drew.below hB; (try (replace G0 := G0.drew.step hB; obtain ⟨j0c, j0f, j1c, j1f⟩ := G0.cf2; have jlt := G0.lt))) | (have T1 : ArgsB w k2 _ := (by with_reducible exact (T0.alloc _).step hB); have tltk2 := (T0.b 3 rfl).lt; replace N1 := (N1.alloc _).below hB; replace N2 := (N2.alloc _).below hB; replace N3 := (N3.alloc _).below hB; (have G0 := (Blk.new _ [.bool false, .slice none 0 0] _ rfl).step hB; obtain ⟨j0c, j0f, j1c, j1f⟩ := G0.cf2; have jlt := G0.lt)) | (have T1 : ArgsB w k2 _ := (by with_reducible exact (T0.alloc _).drew.step hB); have tltk2 := (T0.b 3 rfl).lt; replace N1 := (N1.alloc _).drew.below hB; replace N2 := (N2.alloc _).drew.below hB; replace N3 := (N3.alloc _).drew.below hB; (have G0 := (Blk.new _ [.bool false, .slice none 0 0] _ rfl).drew.step hB; obtain ⟨j0c, j0f, j1c, j1f⟩ := G0.cf2; have jlt := G0.lt))); clear T0; have T0 := T1; clear T1; clear hB; rw [e4] at N8))
      all_goals go_wp2_with fail
      all_goals go_meet
      all_goals have hl := (T0.b 3 rfl).lt
      all_goals first | (with_reducible exact ⟨cutN_new T0 N8 (by omega), N1.alloc _, N2.alloc _, N3.alloc _⟩) | (with_reducible exact ⟨cutN_set T0 N8 G0 (by omega) (by simp; omega), N1.set2 G0 _ _, N2.set2 G0 _ _, N3.set2 G0 _ _⟩)
    case rest =>
     clear T0 N1 N2 N3 hl0 tok1
     obtain ⟨⟨gb, s7, o7, n7, c7, d7, hp, hgb, GB, N7, T0⟩, N1, N2, N3⟩ := hcut
     subst hp
     go_upto_region 4 with fail
     obtain ⟨q, hq⟩ : ∃ q, cmpI (Int.gcd (Int.gcd x y : Int) z : Int) 1 = q := ⟨_, rfl⟩
     go_cut [24] (fun p wx => p = .bool (!(q == 0)) ∧ ArgsB w wx [[.bool s4, .slice o4 n4 c4], [.bool s5, .slice o5 n5 c5], [.bool s6, .slice o6 n6 c6], [.bool false, .slice none 0 0, .bool false, .slice none 0 0, .bool false, .slice none 0 0]] ∧ Blk wx gb [.bool s7, .slice o7 n7 c7] ∧ IsNum wx s4 o4 n4 c4 d4 X k ∧ IsNum wx s5 o5 n5 c5 d5 Y k ∧ IsNum wx s6 o6 n6 c6 d6 Z k ∧ IsNum wx s7 o7 n7 c7 d7 (Int.gcd (Int.gcd x y : Int) z : Int) k)
     case first =>
       replace N7 := N7.drew; replace N1 := N1.drew; replace N2 := N2.drew; replace N3 := N3.drew; replace T0 := T0.drew
       go_region_held3 (fun w' => w'.cell? ⟨gb, 0, none⟩ = some (.bool s7) ∧ w'.cell? ⟨gb, 1, none⟩ = some (.slice o7 n7 c7)) ((refine mk_cells ?_ <;> repeat (first | (with_reducible exact GB) | (with_reducible refine Blk.drew ?_))))
         (first
           | (go_at_call 40; refine (int_any 1 _ (by decide) (by decide)).mono ?_; rintro e w4 ⟨s9, o9, n9, c9, d9, rfl, N9, hB⟩; replace GB := GB.drew.step hB; replace T0 := T0.step hB; replace N1 := N1.step hB; replace N2 := N2.step hB; replace N3 := N3.step hB; replace N7 := N7.step hB; clear hB)
           | (go_at_call 64; refine (cmp_any s7 s9 o7 o9 n7 n9 c7 c9 k d7 d9 _ _ _ N7 (num_more N9 hk) (by omega)).mono ?_; rintro e w5 ⟨rfl, hB⟩; rw [hq]; replace GB := GB.step hB; replace T0 := T0.step hB; replace N1 := N1.step hB; replace N2 := N2.step hB; replace N3 := N3.step hB; replace N7 := N7.step hB; clear hB))
       all_goals go_wp2_with fail
       all_goals go_meet
       all_goals exact ⟨rfl, T0, GB, N1, N2, N3, N7⟩
     case rest =>
       clear T0 N1 N2 N3 N7 GB
       obtain ⟨rfl, T0, GB, N1, N2, N3, N7⟩ := hcut
       rename_i hk'
       refine hk' _ _ ?_
       have hlb := GB.lt
       go_cut [] (fun wx => CutT3 w wx (shareZ x (Int.gcd (Int.gcd x y : Int) z : Int) (decide (z < 0))) (shareZ y (Int.gcd (Int.gcd x y : Int) z : Int) (decide (z < 0))) (shareZ z (Int.gcd (Int.gcd x y : Int) z : Int) (decide (z < 0))) (k + 3))
       case first =>
         by_cases h1 : (Int.gcd (Int.gcd x y : Int) z : Int) = 1
         · obtain rfl : q = 0 := by rw [← hq, h1]; decide
           have f1 : X = shareZ x (Int.gcd (Int.gcd x y : Int) z : Int) (decide (z < 0)) := by rw [← e1, h1, Int.ediv_one]
           have f2 : Y = shareZ y (Int.gcd (Int.gcd x y : Int) z : Int) (decide (z < 0)) := by rw [← e2, h1, Int.ediv_one]
           have f3 : Z = shareZ z (Int.gcd (Int.gcd x y : Int) z : Int) (decide (z < 0)) := by rw [← e3, h1, Int.ediv_one]
           rw [f1] at N1
           rw [f2] at N2
           rw [f3] at N3
           go_wp2_with fail
           go_meet
           case rel => exact ⟨s4, o4, n4, c4, d4, s5, o5, n5, c5, d5, s6, o6, n6, c6, d6, T0, num_more N1 (by omega), num_more N2 (by omega), num_more N3 (by omega)⟩
         · have hq1 : (!(q == 0)) = true := by
             have h3 : q ≠ 0 := by
               rw [← hq, cmpI_gt (by omega)]
               decide
             simp [h3]
           rw [hq1]
           have aB : Blk _ (w.heap.size) _ := T0.b 0 rfl; obtain ⟨a0c, a0f, a1c, a1f⟩ := aB.cf2; have alt := aB.lt; clear aB; have bB : Blk _ (w.heap.size + 1) _ := T0.b 1 rfl; obtain ⟨b0c, b0f, b1c, b1f⟩ := bB.cf2; have blt := bB.lt; clear bB; have eB : Blk _ (w.heap.size + 1 + 1) _ := T0.b 2 rfl; obtain ⟨e0c, e0f, e1c, e1f⟩ := eB.cf2; have elt := eB.lt; clear eB
           obtain ⟨g0c, g1c⟩ := GB.cs2
           go_wp2_with fail
           refine (div_any s4 s7 o4 o7 n4 n7 c4 c7 k d4 d7 _ _ _ N1 N7 (by omega) (by omega)).mono ?_
           rintro e u0 ⟨s10, o10, n10, c10, d10, sr0, or0, nr0, cr0, dr0, rfl, M0, -, hB⟩
           rw [e1] at M0
           replace T0 := T0.step hB; replace GB := GB.step hB; replace N7 := N7.step hB; replace N2 := N2.step hB; replace N3 := N3.step hB
           clear hB g0c g1c N1 a0c a0f a1c a1f alt b0c b0f b1c b1f blt e0c e0f e1c e1f elt
           have aB : Blk _ (w.heap.size) _ := T0.b 0 rfl; obtain ⟨a0c, a0f, a1c, a1f⟩ := aB.cf2; have alt := aB.lt; clear aB; have bB : Blk _ (w.heap.size + 1) _ := T0.b 1 rfl; obtain ⟨b0c, b0f, b1c, b1f⟩ := bB.cf2; have blt := bB.lt; clear bB; have eB : Blk _ (w.heap.size + 1 + 1) _ := T0.b 2 rfl; obtain ⟨e0c, e0f, e1c, e1f⟩ := eB.cf2; have elt := eB.lt; clear eB
           go_upto_region 6 with fail
           clear a0c a0f a1c a1f alt b0c b0f b1c b1f blt e0c e0f e1c e1f elt
           have RB : Blk u0 (w.heap.size) _ := T0.b 0 rfl
           replace M0 := num_put M0 RB (.bool s10) (.slice o10 n10 c10)
           replace N2 := num_put N2 RB (.bool s10) (.slice o10 n10 c10)
           replace N3 := num_put N3 RB (.bool s10) (.slice o10 n10 c10)
           replace N7 := num_put N7 RB (.bool s10) (.slice o10 n10 c10)
           replace GB := GB.set2 (g := w.heap.size) (v0 := .bool s10) (v1 := .slice o10 n10 c10) (by omega)
           replace T0 := T0.w0 (u0 := .bool s10) (u1 := .slice o10 n10 c10)
           clear RB
           generalize ((u0.setCell ⟨w.heap.size, 0, none⟩ (.bool s10)).setCell ⟨w.heap.size, 1, none⟩ (.slice o10 n10 c10)) = U0 at *

           have aB : Blk _ (w.heap.size) _ := T0.b 0 rfl; obtain ⟨a0c, a0f, a1c, a1f⟩ := aB.cf2; have alt := aB.lt; clear aB; have bB : Blk _ (w.heap.size + 1) _ := T0.b 1 rfl; obtain ⟨b0c, b0f, b1c, b1f⟩ := bB.cf2; have blt := bB.lt; clear bB; have eB : Blk _ (w.heap.size + 1 + 1) _ := T0.b 2 rfl; obtain ⟨e0c, e0f, e1c, e1f⟩ := eB.cf2; have elt := eB.lt; clear eB
           obtain ⟨g0c, g1c⟩ := GB.cs2
           go_wp2_with fail
           refine (div_any s5 s7 o5 o7 n5 n7 c5 c7 k d5 d7 _ _ _ N2 N7 (by omega) (by omega)).mono ?_
           rintro e u1 ⟨s11, o11, n11, c11, d11, sr1, or1, nr1, cr1, dr1, rfl, M1, -, hB⟩
           rw [e2] at M1
           replace T0 := T0.step hB; replace GB := GB.step hB; replace N7 := N7.step hB; replace M0 := M0.step hB; replace N3 := N3.step hB
           clear hB g0c g1c N2 a0c a0f a1c a1f alt b0c b0f b1c b1f blt e0c e0f e1c e1f elt
           have aB : Blk _ (w.heap.size) _ := T0.b 0 rfl; obtain ⟨a0c, a0f, a1c, a1f⟩ := aB.cf2; have alt := aB.lt; clear aB; have bB : Blk _ (w.heap.size + 1) _ := T0.b 1 rfl; obtain ⟨b0c, b0f, b1c, b1f⟩ := bB.cf2; have blt := bB.lt; clear bB; have eB : Blk _ (w.heap.size + 1 + 1) _ := T0.b 2 rfl; obtain ⟨e0c, e0f, e1c, e1f⟩ := eB.cf2; have elt := eB.lt; clear eB
           go_upto_region 7 with fail
           clear a0c a0f a1c a1f alt b0c b0f b1c b1f blt e0c e0f e1c e1f elt
           have RB : Blk u1 (w.heap.size + 1) _ := T0.b 1 rfl
           replace M0 := num_put M0 RB (.bool s11) (.slice o11 n11 c11)
           replace M1 := num_put M1 RB (.bool s11) (.slice o11 n11 c11)
           replace N3 := num_put N3 RB (.bool s11) (.slice o11 n11 c11)
           replace N7 := num_put N7 RB (.bool s11) (.slice o11 n11 c11)
           replace GB := GB.set2 (g := w.heap.size + 1) (v0 := .bool s11) (v1 := .slice o11 n11 c11) (by omega)
           replace T0 := T0.w1 (u0 := .bool s11) (u1 := .slice o11 n11 c11)
           clear RB
           generalize ((u1.setCell ⟨w.heap.size + 1, 0, none⟩ (.bool s11)).setCell ⟨w.heap.size + 1, 1, none⟩ (.slice o11 n11 c11)) = U1 at *

           have aB : Blk _ (w.heap.size) _ := T0.b 0 rfl; obtain ⟨a0c, a0f, a1c, a1f⟩ := aB.cf2; have alt := aB.lt; clear aB; have bB : Blk _ (w.heap.size + 1) _ := T0.b 1 rfl; obtain ⟨b0c, b0f, b1c, b1f⟩ := bB.cf2; have blt := bB.lt; clear bB; have eB : Blk _ (w.heap.size + 1 + 1) _ := T0.b 2 rfl; obtain ⟨e0c, e0f, e1c, e1f⟩ := eB.cf2; have elt := eB.lt; clear eB
           obtain ⟨g0c, g1c⟩ := GB.cs2
           go_wp2_with fail
           refine (div_any s6 s7 o6 o7 n6 n7 c6 c7 k d6 d7 _ _ _ N3 N7 (by omega) (by omega)).mono ?_
           rintro e u2 ⟨s12, o12, n12, c12, d12, sr2, or2, nr2, cr2, dr2, rfl, M2, -, hB⟩
           rw [e3] at M2
           replace T0 := T0.step hB; replace GB := GB.step hB; replace N7 := N7.step hB; replace M0 := M0.step hB; replace M1 := M1.step hB
           clear hB g0c g1c N3 a0c a0f a1c a1f alt b0c b0f b1c b1f blt e0c e0f e1c e1f elt
           have aB : Blk _ (w.heap.size) _ := T0.b 0 rfl; obtain ⟨a0c, a0f, a1c, a1f⟩ := aB.cf2; have alt := aB.lt; clear aB; have bB : Blk _ (w.heap.size + 1) _ := T0.b 1 rfl; obtain ⟨b0c, b0f, b1c, b1f⟩ := bB.cf2; have blt := bB.lt; clear bB; have eB : Blk _ (w.heap.size + 1 + 1) _ := T0.b 2 rfl; obtain ⟨e0c, e0f, e1c, e1f⟩ := eB.cf2; have elt := eB.lt; clear eB

           clear a0c a0f a1c a1f alt b0c b0f b1c b1f blt e0c e0f e1c e1f elt
           have RB : Blk u2 (w.heap.size + 1 + 1) _ := T0.b 2 rfl
           obtain ⟨r0c, r0f, r1c, r1f⟩ := RB.cf2; have rlt := RB.lt
           have M3 := num_put M0 RB (.bool s12) (.slice o12 n12 c12)
           have M4 := num_put M1 RB (.bool s12) (.slice o12 n12 c12)
           have M5 := num_put M2 RB (.bool s12) (.slice o12 n12 c12)
           have T1 := T0.w2 (u0 := .bool s12) (u1 := .slice o12 n12 c12)
           clear M0 M1 M2 T0 RB GB N7
           go_wp2_with fail
           go_meet
           case rel => exact ⟨s10, o10, n10, c10, d10, s11, o11, n11, c11, d11, s12, o12, n12, c12, d12, T1, M3, M4, M5⟩
       case rest =>
         clear T0 N1 N2 N3 N7 GB hk' hlb
         obtain ⟨s10, o10, n10, c10, d10, s11, o11, n11, c11, d11, s12, o12, n12, c12, d12, T0, N1, N2, N3⟩ := hcut
         have aB : Blk _ (w.heap.size) _ := T0.b 0 rfl; obtain ⟨a0c, a0f, a1c, a1f⟩ := aB.cf2; have alt := aB.lt; clear aB; have bB : Blk _ (w.heap.size + 1) _ := T0.b 1 rfl; obtain ⟨b0c, b0f, b1c, b1f⟩ := bB.cf2; have blt := bB.lt; clear bB; have eB : Blk _ (w.heap.size + 1 + 1) _ := T0.b 2 rfl; obtain ⟨e0c, e0f, e1c, e1f⟩ := eB.cf2; have elt := eB.lt; clear eB
         have R0 : Blk _ (w.heap.size + 1 + 1 + 1) _ := T0.b 3 rfl
         obtain ⟨r0c, r0f, r1c, r1f, r2c, r2f, r3c, r3f, r4c, r4f, r5c, r5f⟩ := R0.cf6
         have rlt := R0.lt
         have HB := T0.below
         have M1 := num_set6 N1 R0 (.bool s10) (.slice o10 n10 c10) (.bool s11) (.slice o11 n11 c11) (.bool s12) (.slice o12 n12 c12)
         have M2 := num_set6 N2 R0 (.bool s10) (.slice o10 n10 c10) (.bool s11) (.slice o11 n11 c11) (.bool s12) (.slice o12 n12 c12)
         have M3 := num_set6 N3 R0 (.bool s10) (.slice o10 n10 c10) (.bool s11) (.slice o11 n11 c11) (.bool s12) (.slice o12 n12 c12)
         clear T0 N1 N2 N3 R0
         go_wp2
         refine bodyPost_ret (v := .agg #[.bool s10, .slice o10 n10 c10, .bool s11, .slice o11 n11 c11, .bool s12, .slice o12 n12 c12]) (by simp [results, Try.results43, go_sem, r0c, r1c, r2c, r3c, r4c, r5c]) rfl ?_
         refine ⟨s10, o10, n10, c10, d10, s11, o11, n11, c11, d11, s12, o12, n12, c12, d12, rfl, M1, M2, M3, ?_⟩
         repeat' (refine Below.setCell ?_ (by simp; try omega) _)
         exact HB
end Go.Proofs.Ytbhhegmlfclhbaa

/- A point of three numbers: the model's walk. -/
namespace Go.Proofs.Ytbhhegmlfclhbaa
open Go.RowKit
end Go.Proofs.Ytbhhegmlfclhbaa

/- Points drawn from a code. -/
namespace Go.Proofs.Ytbhhegmlfclhbaa
open Go.RowKit
set_option maxRecDepth 100000 in
set_option maxHeartbeats 1000000 in
theorem near_pm (g : Nat) (ao : Option Addr) (n cap : Nat) (cs : List Int) (w : World) (h : Rdr w g ao n cap cs) :
    Calls Try.prog 28 #[.pointer (some ⟨g, 0, none⟩), .int .i64 (-1000000), .int .i64 1000000] w (RdP g ao n cap cs (IsIn (-1000000) 1000001) w) := by
  go_enter Try.func28, Try.ntmps28
  go_wp2_with fail
  refine (below_any 8 (by decide) (by decide) g ao n cap cs _ h).mono ?_
  rintro e w1 ⟨_, rfl, ⟨x, rfl, x0, x1⟩, R, K⟩
  clear h
  by_cases h0 : x = 0
  · subst h0
    go_wp2
    go_ret
    exact ⟨_, rfl, ⟨_, rfl, by decide, by decide⟩, R, K⟩
  · by_cases h1 : x = 1
    · subst h1
      go_wp2
      go_ret
      exact ⟨_, rfl, ⟨_, rfl, by decide, by decide⟩, R, K⟩
    · have e0 : (x == 0) = false := by simpa using h0
      have e1 : (x == 1) = false := by simpa using h1
      go_wp2_with fail
      refine (word_any g ao n cap cs _ R).mono ?_
      rintro e w2 ⟨_, rfl, ⟨y, rfl, y0, y1⟩, R2, K2⟩
      replace K := K.trans K2
      clear R K2
      have hw : IntKind.u64.wrap 2000001 = 2000001 := by rw [IntKind.wrap_u64]; decide
      go_wp2
      go_ret
      exact ⟨_, rfl, ⟨_, rfl, by omega, by omega⟩, R2, K⟩
set_option maxRecDepth 100000 in
set_option maxHeartbeats 1000000 in
theorem near_p6 (g : Nat) (ao : Option Addr) (n cap : Nat) (cs : List Int) (w : World) (h : Rdr w g ao n cap cs) :
    Calls Try.prog 28 #[.pointer (some ⟨g, 0, none⟩), .int .i64 (-6), .int .i64 6] w (RdP g ao n cap cs (IsIn (-6) 7) w) := by
  go_enter Try.func28, Try.ntmps28
  go_wp2_with fail
  refine (below_any 8 (by decide) (by decide) g ao n cap cs _ h).mono ?_
  rintro e w1 ⟨_, rfl, ⟨x, rfl, x0, x1⟩, R, K⟩
  clear h
  by_cases h0 : x = 0
  · subst h0
    go_wp2
    go_ret
    exact ⟨_, rfl, ⟨_, rfl, by decide, by decide⟩, R, K⟩
  · by_cases h1 : x = 1
    · subst h1
      go_wp2
      go_ret
      exact ⟨_, rfl, ⟨_, rfl, by decide, by decide⟩, R, K⟩
    · have e0 : (x == 0) = false := by simpa using h0
      have e1 : (x == 1) = false := by simpa using h1
      go_wp2_with fail
      refine (word_any g ao n cap cs _ R).mono ?_
      rintro e w2 ⟨_, rfl, ⟨y, rfl, y0, y1⟩, R2, K2⟩
      replace K := K.trans K2
      clear R K2
      have hw : IntKind.u64.wrap 13 = 13 := by rw [IntKind.wrap_u64]; decide
      go_wp2
      go_ret
      exact ⟨_, rfl, ⟨_, rfl, by omega, by omega⟩, R2, K⟩
end Go.Proofs.Ytbhhegmlfclhbaa

/- Points drawn from a code: the walks. -/
namespace Go.Proofs.Ytbhhegmlfclhbaa
open Go.RowKit
/-- A spot of small numbers. -/
def IsSp6 (v : Value) : Prop := ∃ x y : Int, v = .agg #[.int .i64 x, .int .i64 y] ∧ -6 ≤ x ∧ x < 7 ∧ -6 ≤ y ∧ y < 7
set_option maxRecDepth 100000 in
set_option maxHeartbeats 1000000 in
theorem spot_any (g : Nat) (ao : Option Addr) (n cap : Nat) (cs : List Int) (w : World) (h : Rdr w g ao n cap cs) :
    Calls Try.prog 15 #[.pointer (some ⟨g, 0, none⟩)] w (RdP g ao n cap cs IsSp6 w) := by
  have hg := h.lt
  have hne : w.heap.size ≠ g := by omega
  have B := Blk.new w [.int .i64 0, .int .i64 0] 38 rfl
  have R := h.alloc (.cells #[.int .i64 0, .int .i64 0] 38)
  have K := (Kept.refl g w).alloc (.cells #[.int .i64 0, .int .i64 0] 38)
  clear h
  go_enter Try.func15, Try.ntmps15
  go_wp2_with fail
  refine (near_p6 g ao n cap cs _ R).mono ?_
  rintro e w1 ⟨_, rfl, ⟨y, rfl, y0, y1⟩, R1, K1⟩
  replace B := B.kept K1 hne; replace K := K.trans K1
  clear R K1
  have R := R1
  clear R1
  go_wp2_with fail
  refine (near_p6 g ao n cap cs _ R).mono ?_
  rintro e w2 ⟨_, rfl, ⟨y', rfl, y0', y1'⟩, R1, K1⟩
  replace B := B.kept K1 hne; replace K := K.trans K1
  clear R K1
  have R := R1
  clear R1
  have o0 := B.c 0 rfl; have f0 := B.f 0 rfl; have o1 := B.c 1 rfl; have f1 := B.f 1 rfl; have ol := B.lt
  clear B
  go_wp2
  refine bodyPost_ret (v := .agg #[.int .i64 y, .int .i64 y']) (by simp [results, Try.results15, go_sem, o0, o1]) rfl ?_
  exact ⟨_, rfl, ⟨y, y', rfl, y0, y1, y0', y1'⟩, (R.setN (by exact hg) _).setN (by exact hg) _, (K.setN (by simp) (by simp; omega) _).setN (by simp) (by simp; omega) _⟩
end Go.Proofs.Ytbhhegmlfclhbaa

/- A point of three numbers: the program's walk. -/
namespace Go.Proofs.Ytbhhegmlfclhbaa
open Go.RowKit
end Go.Proofs.Ytbhhegmlfclhbaa

/- The middle of two points: the program's walk. -/
namespace Go.Proofs.Ytbhhegmlfclhbaa
open Go.RowKit
end Go.Proofs.Ytbhhegmlfclhbaa

/- The middle of two points: the model's walk. -/
namespace Go.Proofs.Ytbhhegmlfclhbaa
open Go.RowKit
end Go.Proofs.Ytbhhegmlfclhbaa

/- Segments drawn from a code. -/
namespace Go.Proofs.Ytbhhegmlfclhbaa
open Go.RowKit
/-- A number of sixty-four bits. -/
def I64 (x : Int) : Prop := -9223372036854775808 ≤ x ∧ x ≤ 9223372036854775807
def IsI (v : Value) : Prop := ∃ x : Int, v = .int .i64 x ∧ I64 x
set_option maxRecDepth 100000 in
set_option maxHeartbeats 2000000 in
theorem off_any (g : Nat) (ao : Option Addr) (n cap : Nat) (cs : List Int) (w : World) (R : Rdr w g ao n cap cs) :
    Calls Try.prog 30 #[.pointer (some ⟨g, 0, none⟩), .int .i64 (-1000000), .int .i64 1000000] w (RdP g ao n cap cs IsI w) := by
  go_enter Try.func30, Try.ntmps30
  go_wp2_with fail
  refine (once_any 24 (by decide) (by decide) g ao n cap cs _ R).mono ?_
  rintro e w1 ⟨_, rfl, ⟨b, rfl⟩, R1, K⟩
  clear R
  cases b
  · go_wp2_with fail
    refine (near_pm g ao n cap cs _ R1).mono ?_
    rintro e w2 ⟨_, rfl, ⟨x, rfl, x0, x1⟩, R2, K2⟩
    replace K := K.trans K2
    clear R1 K2
    go_wp2
    go_ret
    exact ⟨_, rfl, ⟨x, rfl, by constructor <;> omega⟩, R2, K⟩
  · have G := Blk.new w1 [.int .i64 (-1000001), .int .i64 1000001, .int .i64 (-9223372036854775808), .int .i64 9223372036854775807] 2 rfl
    rw [show ([.int .i64 (-1000001), .int .i64 1000001, .int .i64 (-9223372036854775808), .int .i64 9223372036854775807] : List Value).toArray = #[.int .i64 (-1000001), .int .i64 1000001, .int .i64 (-9223372036854775808), .int .i64 9223372036854775807] from rfl] at G
    have hgl := R1.lt
    have hgn : w1.heap.size ≠ g := by omega
    have R := R1.alloc (.cells #[.int .i64 (-1000001), .int .i64 1000001, .int .i64 (-9223372036854775808), .int .i64 9223372036854775807] 2)
    replace K := K.alloc (.cells #[.int .i64 (-1000001), .int .i64 1000001, .int .i64 (-9223372036854775808), .int .i64 9223372036854775807] 2)
    clear R1
    go_wp2_with fail
    refine (below_any 4 (by decide) (by decide) g ao n cap cs _ R).mono ?_
    rintro e w6 ⟨_, rfl, ⟨j, rfl, j0, j1⟩, R6, K6⟩
    replace G := G.kept K6 hgn
    replace K := K.trans K6
    obtain ⟨k, rfl⟩ : ∃ k : Nat, j = k := ⟨j.toNat, by omega⟩
    obtain ⟨u, hu, hus⟩ : ∃ u : Int, w6.cell? ⟨w1.heap.size, k, none⟩ = some (.int .i64 u) ∧ I64 u := by
      rcases (by omega : k = 0 ∨ k = 1 ∨ k = 2 ∨ k = 3) with rfl | rfl | rfl | rfl
      · exact ⟨_, G.c 0 rfl, by constructor <;> decide⟩
      · exact ⟨_, G.c 1 rfl, by constructor <;> decide⟩
      · exact ⟨_, G.c 2 rfl, by constructor <;> decide⟩
      · exact ⟨_, G.c 3 rfl, by constructor <;> decide⟩
    clear G R K6
    go_wp2
    go_ret
    exact ⟨_, rfl, ⟨u, rfl, hus⟩, R6, K⟩
end Go.Proofs.Ytbhhegmlfclhbaa

/- Segments drawn from a code: the walk. -/
namespace Go.Proofs.Ytbhhegmlfclhbaa
open Go.RowKit
end Go.Proofs.Ytbhhegmlfclhbaa

/- Rows of segments: how they lie, and the walks over them. -/
namespace Go.Proofs.Ytbhhegmlfclhbaa
open Go.RowKit
/-- n segments lie behind a slice's address, their numbers by x. -/
def SegIn (w : World) (ao : Option Addr) (n : Nat) (x : Nat → Int) : Prop :=
  ∀ i, i < n → ∃ A off, ao = some ⟨A, off, none⟩ ∧ A < w.heap.size ∧ ∀ j, j < 4 → w.cell? ⟨A, off + i * 4 + j, none⟩ = some (.int .i64 (x (i * 4 + j)))
theorem SegIn.step {w w' : World} {ao : Option Addr} {n : Nat} {x : Nat → Int} (h : SegIn w ao n x) (hB : Below w.heap.size w w') : SegIn w' ao n x := fun i hi => by
  obtain ⟨A, off, e, hA, hc⟩ := h i hi
  exact ⟨A, off, e, Nat.lt_of_lt_of_le hA hB.size, fun j hj => (hB.cell (p := ⟨A, off + i * 4 + j, none⟩) hA).trans (hc j hj)⟩
theorem SegIn.drew {w : World} {ao : Option Addr} {n : Nat} {x : Nat → Int} (h : SegIn w ao n x) : SegIn w.drew ao n x := h
end Go.Proofs.Ytbhhegmlfclhbaa

/- Rows of segments of the call's own: how they lie, read and stored. -/
namespace Go.Proofs.Ytbhhegmlfclhbaa
open Go.RowKit
theorem ownG_kept {w w' : World} {base n g : Nat} {e : TypeId} {size : Nat} {v : Value} {xs : List Value} (h : w.ownsRow base e size v n xs) (K : Kept g w w') (hg : g < base) : w'.ownsRow base e size v n xs := by
  rcases h with ⟨h0, h1 | ⟨b, cap, cur, h1, h2, h3, h4⟩⟩
  · exact ⟨h0, .inl h1⟩
  · refine ⟨h0, .inr ⟨b, cap, cur, h1, h2, ?_, h4⟩⟩
    rw [K.block b (Array.getElem?_eq_some_iff.1 h3).1 (by omega)]
    exact h3
theorem ownG_step {w w' : World} {base n : Nat} {e : TypeId} {size : Nat} {v : Value} {xs : List Value} (h : w.ownsRow base e size v n xs) (hB : Below w.heap.size w w') : w'.ownsRow base e size v n xs := by
  rcases h with ⟨h0, h1 | ⟨g, cap, cur, h1, h2, h3, h4⟩⟩
  · exact ⟨h0, .inl h1⟩
  · refine ⟨h0, .inr ⟨g, cap, cur, h1, h2, ?_, h4⟩⟩
    rw [hB.block g (Array.getElem?_eq_some_iff.1 h3).1]
    exact h3
theorem ownG_mono {w : World} {b b' n : Nat} {e : TypeId} {size : Nat} {v : Value} {xs : List Value} (h : w.ownsRow b' e size v n xs) (hb : b ≤ b') : w.ownsRow b e size v n xs := by
  rcases h with ⟨h0, h1 | ⟨g, cap, cur, h1, h2, h3⟩⟩
  · exact ⟨h0, .inl h1⟩
  · exact ⟨h0, .inr ⟨g, cap, cur, h1, Nat.le_trans hb h2, h3⟩⟩
theorem ownG_form {w : World} {base n : Nat} {e : TypeId} {size : Nat} {v : Value} {xs : List Value} (h : w.ownsRow base e size v n xs) (hn : 0 < n) : ∃ g cap, v = .slice (some ⟨g, 0, none⟩) n cap ∧ base ≤ g ∧ n ≤ cap ∧ cap ≤ maxLen := by
  rcases h.2 with ⟨_, h0⟩ | ⟨g, cap, cur, hv, hb, _, h1, h2, _⟩
  · omega
  · exact ⟨g, cap, hv, hb, h1, h2⟩
theorem ownG_slice {w : World} {base n : Nat} {e : TypeId} {size : Nat} {v : Value} {xs : List Value} (h : w.ownsRow base e size v n xs) : ∃ ao cap, v = .slice ao n cap := by
  rcases h.2 with ⟨h1, h0⟩ | ⟨g, cap, cur, hv, hb, _⟩
  · subst h0; exact ⟨none, 0, h1⟩
  · exact ⟨_, cap, hv⟩
theorem ownG_blk {w : World} {base g n cap : Nat} {e : TypeId} {size : Nat} {xs : List Value} (h : w.ownsRow base e size (.slice (some ⟨g, 0, none⟩) n cap) n xs) : Blk w g xs := by
  refine ⟨(h.lt g rfl).2, fun i v hi => ⟨?_, ?_⟩⟩
  · have h1 := h.cells rfl i v hi
    have hadd : (⟨g, 0, none⟩ : Addr).add i = ⟨g, i, none⟩ := by unfold Addr.add; split <;> simp_all
    rw [hadd] at h1
    exact h1
  · rcases h.2 with ⟨h', _⟩ | ⟨g', cap', cur, h', _, hg, _⟩
    · cases h'
    · cases h'
      simp [World.frozen?, hg]
theorem ownG_set {w : World} {base g n cap : Nat} {e : TypeId} {size : Nat} {xs : List Value} (h : w.ownsRow base e size (.slice (some ⟨g, 0, none⟩) n cap) n xs) (j : Nat) (u : Value) : (w.setCell ⟨g, j, none⟩ u).ownsRow base e size (.slice (some ⟨g, 0, none⟩) n cap) n (xs.set j u) := by
  refine ⟨by rw [List.length_set]; exact h.1, ?_⟩
  rcases h.2 with ⟨h', _⟩ | ⟨g', cap', cur, h', hb, hg, h1, h2, h3, h4⟩
  · cases h'
  · cases h'
    refine .inr ⟨g, cap, cur.setIfInBounds j u, rfl, hb, ?_, h1, h2, by simpa using h3, ?_⟩
    · simp [World.setCell, Array.getElem?_modify, hg]
    · rw [← h4]
      simp [List.take_set]
theorem ownG_setO {w : World} {base n : Nat} {e : TypeId} {size : Nat} {v : Value} {xs : List Value} (h : w.ownsRow base e size v n xs) {p : Addr} (hp : p.block < base) (u : Value) : (w.setCell p u).ownsRow base e size v n xs := by
  rcases h with ⟨h0, h1 | ⟨g, cap, cur, h1, h2, h3, h4⟩⟩
  · exact ⟨h0, .inl h1⟩
  · refine ⟨h0, .inr ⟨g, cap, cur, h1, h2, ?_, h4⟩⟩
    rw [Below.heap_setCell _ _ _ _ (by omega)]
    exact h3
/-- A row of the call's own: c segments, their numbers one behind the other. -/
structure SgRow (w : World) (base : Nat) (v : Value) (c : Nat) (L : List Int) : Prop where
  own : w.ownsRow base 50 4 v c (L.map (Value.int .i64))
  i64 : ∀ z ∈ L, I64 z
theorem SgRow.len {w : World} {base : Nat} {v : Value} {c : Nat} {L : List Int} (h : SgRow w base v c L) : L.length = c * 4 := by
  have := h.own.1
  simpa using this
theorem SgRow.in {w : World} {base : Nat} {v : Value} {c : Nat} {L : List Int} (h : SgRow w base v c L) : ∃ ao cap, v = .slice ao c cap ∧ SegIn w ao c (fun i => L.getD i 0) := by
  rcases Nat.eq_zero_or_pos c with h0 | h0
  · subst h0
    obtain ⟨ao, cap, hv⟩ := ownG_slice h.own
    exact ⟨ao, cap, hv, fun i hi => by omega⟩
  · obtain ⟨g, cap, hv, hb, _⟩ := ownG_form h.own h0
    have hl := h.len
    have ho := h.own
    rw [hv] at ho
    have B := ownG_blk ho
    refine ⟨_, cap, hv, fun i hi => ⟨g, 0, rfl, B.lt, fun j hj => ?_⟩⟩
    rw [Nat.zero_add]
    refine B.c (i * 4 + j) ?_
    have hl2 : i * 4 + j < L.length := by omega
    show _ = some (Value.int .i64 (L.getD (i * 4 + j) 0))
    rw [List.getElem?_map, List.getElem?_eq_getElem hl2, List.getD_eq_getElem?_getD, List.getElem?_eq_getElem hl2]
    rfl
/-- The four numbers of one of them. -/
theorem SgRow.four {w : World} {base : Nat} {v : Value} {c : Nat} {L : List Int} (h : SgRow w base v c L) {i : Nat} (hi : i < c) : ∃ g cap a b d e, v = .slice (some ⟨g, 0, none⟩) c cap ∧ base ≤ g ∧ g < w.heap.size ∧ w.cell? ⟨g, i * 4, none⟩ = some (.int .i64 a) ∧ w.cell? ⟨g, i * 4 + 1, none⟩ = some (.int .i64 b) ∧ w.cell? ⟨g, i * 4 + 2, none⟩ = some (.int .i64 d) ∧ w.cell? ⟨g, i * 4 + 3, none⟩ = some (.int .i64 e) ∧ w.cell? ⟨g, i * 4 + 2 + 1, none⟩ = some (.int .i64 e) ∧ I64 a ∧ I64 b ∧ I64 d ∧ I64 e := by
  obtain ⟨g, cap, hv, hb, _⟩ := ownG_form h.own (by omega)
  have hl := h.len
  have ho := h.own
  rw [hv] at ho
  have B := ownG_blk ho
  have hc : ∀ k (hk : k < L.length), w.cell? ⟨g, k, none⟩ = some (.int .i64 L[k]) ∧ I64 L[k] := fun k hk => ⟨B.c k (by rw [List.getElem?_map, List.getElem?_eq_getElem hk]; rfl), h.i64 _ (List.getElem_mem hk)⟩
  have c0 := hc (i * 4) (by omega)
  have c1 := hc (i * 4 + 1) (by omega)
  have c2 := hc (i * 4 + 2) (by omega)
  have c3 := hc (i * 4 + 3) (by omega)
  exact ⟨g, cap, _, _, _, _, hv, hb, B.lt, c0.1, c1.1, c2.1, c3.1, c3.1, c0.2, c1.2, c2.2, c3.2⟩
theorem SgRow.kept {w w' : World} {base : Nat} {v : Value} {c g : Nat} {L : List Int} (h : SgRow w base v c L) (K : Kept g w w') (hg : g < base) : SgRow w' base v c L := ⟨ownG_kept h.own K hg, h.i64⟩
theorem SgRow.step {w w' : World} {base : Nat} {v : Value} {c : Nat} {L : List Int} (h : SgRow w base v c L) (hB : Below w.heap.size w w') : SgRow w' base v c L := ⟨ownG_step h.own hB, h.i64⟩
theorem SgRow.alloc {w : World} {base : Nat} {v : Value} {c : Nat} {L : List Int} (h : SgRow w base v c L) (o : Obj) : SgRow (w.alloc o) base v c L := h.step ((Below.refl _ _).alloc (Nat.le_refl _) o)
theorem SgRow.mono {w : World} {b b' : Nat} {v : Value} {c : Nat} {L : List Int} (h : SgRow w b' v c L) (hb : b ≤ b') : SgRow w b v c L := ⟨ownG_mono h.own hb, h.i64⟩
theorem SgRow.set {w : World} {base g c cap : Nat} {L : List Int} (h : SgRow w base (.slice (some ⟨g, 0, none⟩) c cap) c L) (j : Nat) {u : Int} (hu : I64 u) : SgRow (w.setCell ⟨g, j, none⟩ (.int .i64 u)) base (.slice (some ⟨g, 0, none⟩) c cap) c (L.set j u) := by
  refine ⟨by rw [List.map_set]; exact ownG_set h.own j _, fun z hz => ?_⟩
  rcases List.mem_or_eq_of_mem_set hz with hz | hz
  · exact h.i64 z hz
  · subst hz; exact hu
theorem kept_grown {g : Nat} {w W W' : World} {row : Option Nat} (K : Kept g w W) (hg : W.grownBy W' row) (hr : ∀ k, row = some k → w.heap.size ≤ k) : Kept g w W' := by
  have hs := K.size
  have hb : ∀ k, k < w.heap.size → W'.heap[k]? = W.heap[k]? := fun k hk => hg.block k (by omega) (by intro e; have := hr k e.symm; omega)
  exact ⟨hg.os.trans K.os, hg.tape.trans K.tape, hg.output.trans K.output, Nat.le_trans K.size hg.size, fun k hk hne => (hb k hk).trans (K.block k hk hne), fun j hj hl => (World.cell?_of_block (a := ⟨g, j, none⟩) (hb g hl)).trans (K.other j hj hl)⟩
theorem rdr_grown {w w' : World} {g : Nat} {ao : Option Addr} {n cap : Nat} {cs : List Int} {row : Option Nat} (h : Rdr w g ao n cap cs) (hg : w.grownBy w' row) (hr : ∀ k, row = some k → g < k) : Rdr w' g ao n cap cs := by
  have hl := h.lt
  have hb : ∀ k, k ≤ g → w'.heap[k]? = w.heap[k]? := fun k hk => hg.block k (by omega) (by intro e; have := hr k e.symm; omega)
  obtain ⟨p, hp, B⟩ := h.blk
  refine ⟨⟨p, hp, Nat.lt_of_lt_of_le B.lt hg.size, fun i v hi => ⟨(World.cell?_of_block (hb g (Nat.le_refl _))).trans (B.c i hi), (World.frozen?_of_block (hb g (Nat.le_refl _))).trans (B.f i hi)⟩⟩, fun i hi => ?_, h.len, h.small, h.byte⟩
  obtain ⟨b, off, e, hlt, hc⟩ := h.bytes i hi
  exact ⟨b, off, e, hlt, (World.cell?_of_block (hb b (by omega))).trans hc⟩
end Go.Proofs.Ytbhhegmlfclhbaa

/- Rings drawn from a code: numbers near, rows of spots by their numbers. -/
namespace Go.Proofs.Ytbhhegmlfclhbaa
open Go.RowKit
set_option maxRecDepth 100000 in
set_option maxHeartbeats 1000000 in
theorem near_m64 (g : Nat) (ao : Option Addr) (n cap : Nat) (cs : List Int) (w : World) (h : Rdr w g ao n cap cs) :
    Calls Try.prog 28 #[.pointer (some ⟨g, 0, none⟩), .int .i64 (-6), .int .i64 4] w (RdP g ao n cap cs (IsIn (-6) 5) w) := by
  go_enter Try.func28, Try.ntmps28
  go_wp2_with fail
  refine (below_any 8 (by decide) (by decide) g ao n cap cs _ h).mono ?_
  rintro e w1 ⟨_, rfl, ⟨x, rfl, x0, x1⟩, R, K⟩
  clear h
  by_cases h0 : x = 0
  · subst h0
    go_wp2
    go_ret
    exact ⟨_, rfl, ⟨_, rfl, by decide, by decide⟩, R, K⟩
  · by_cases h1 : x = 1
    · subst h1
      go_wp2
      go_ret
      exact ⟨_, rfl, ⟨_, rfl, by decide, by decide⟩, R, K⟩
    · have e0 : (x == 0) = false := by simpa using h0
      have e1 : (x == 1) = false := by simpa using h1
      go_wp2_with fail
      refine (word_any g ao n cap cs _ R).mono ?_
      rintro e w2 ⟨_, rfl, ⟨y, rfl, y0, y1⟩, R2, K2⟩
      replace K := K.trans K2
      clear R K2
      have hw : IntKind.u64.wrap 11 = 11 := by rw [IntKind.wrap_u64]; decide
      go_wp2
      go_ret
      exact ⟨_, rfl, ⟨_, rfl, by omega, by omega⟩, R2, K⟩
set_option maxRecDepth 100000 in
set_option maxHeartbeats 1000000 in
theorem near_p06 (g : Nat) (ao : Option Addr) (n cap : Nat) (cs : List Int) (w : World) (h : Rdr w g ao n cap cs) :
    Calls Try.prog 28 #[.pointer (some ⟨g, 0, none⟩), .int .i64 0, .int .i64 6] w (RdP g ao n cap cs (IsIn 0 7) w) := by
  go_enter Try.func28, Try.ntmps28
  go_wp2_with fail
  refine (below_any 8 (by decide) (by decide) g ao n cap cs _ h).mono ?_
  rintro e w1 ⟨_, rfl, ⟨x, rfl, x0, x1⟩, R, K⟩
  clear h
  by_cases h0 : x = 0
  · subst h0
    go_wp2
    go_ret
    exact ⟨_, rfl, ⟨_, rfl, by decide, by decide⟩, R, K⟩
  · by_cases h1 : x = 1
    · subst h1
      go_wp2
      go_ret
      exact ⟨_, rfl, ⟨_, rfl, by decide, by decide⟩, R, K⟩
    · have e0 : (x == 0) = false := by simpa using h0
      have e1 : (x == 1) = false := by simpa using h1
      go_wp2_with fail
      refine (word_any g ao n cap cs _ R).mono ?_
      rintro e w2 ⟨_, rfl, ⟨y, rfl, y0, y1⟩, R2, K2⟩
      replace K := K.trans K2
      clear R K2
      have hw : IntKind.u64.wrap 7 = 7 := by rw [IntKind.wrap_u64]; decide
      go_wp2
      go_ret
      exact ⟨_, rfl, ⟨_, rfl, by omega, by omega⟩, R2, K⟩
set_option maxRecDepth 100000 in
set_option maxHeartbeats 1000000 in
theorem near_m28 (g : Nat) (ao : Option Addr) (n cap : Nat) (cs : List Int) (w : World) (h : Rdr w g ao n cap cs) :
    Calls Try.prog 28 #[.pointer (some ⟨g, 0, none⟩), .int .i64 (-2), .int .i64 8] w (RdP g ao n cap cs (IsIn (-2) 9) w) := by
  go_enter Try.func28, Try.ntmps28
  go_wp2_with fail
  refine (below_any 8 (by decide) (by decide) g ao n cap cs _ h).mono ?_
  rintro e w1 ⟨_, rfl, ⟨x, rfl, x0, x1⟩, R, K⟩
  clear h
  by_cases h0 : x = 0
  · subst h0
    go_wp2
    go_ret
    exact ⟨_, rfl, ⟨_, rfl, by decide, by decide⟩, R, K⟩
  · by_cases h1 : x = 1
    · subst h1
      go_wp2
      go_ret
      exact ⟨_, rfl, ⟨_, rfl, by decide, by decide⟩, R, K⟩
    · have e0 : (x == 0) = false := by simpa using h0
      have e1 : (x == 1) = false := by simpa using h1
      go_wp2_with fail
      refine (word_any g ao n cap cs _ R).mono ?_
      rintro e w2 ⟨_, rfl, ⟨y, rfl, y0, y1⟩, R2, K2⟩
      replace K := K.trans K2
      clear R K2
      have hw : IntKind.u64.wrap 11 = 11 := by rw [IntKind.wrap_u64]; decide
      go_wp2
      go_ret
      exact ⟨_, rfl, ⟨_, rfl, by omega, by omega⟩, R2, K⟩
/-- A row of c spots of the call's own, by their numbers. -/
def SpRow (w : World) (base : Nat) (v : Value) (c : Nat) (L : List Int) : Prop := w.ownsRow base 38 2 v c (L.map (Value.int .i64))
theorem SpRow.kept {w w' : World} {base : Nat} {v : Value} {c g : Nat} {L : List Int} (h : SpRow w base v c L) (K : Kept g w w') (hg : g < base) : SpRow w' base v c L := ownG_kept h K hg
theorem SpRow.alloc {w : World} {base : Nat} {v : Value} {c : Nat} {L : List Int} (h : SpRow w base v c L) (o : Obj) : SpRow (w.alloc o) base v c L := ownG_step h ((Below.refl _ _).alloc (Nat.le_refl _) o)
theorem SpRow.len {w : World} {base : Nat} {v : Value} {c : Nat} {L : List Int} (h : SpRow w base v c L) : L.length = c * 2 := by
  have := h.1
  rwa [List.length_map] at this
theorem SpRow.set {w : World} {base g c cap : Nat} {L : List Int} (h : SpRow w base (.slice (some ⟨g, 0, none⟩) c cap) c L) (j : Nat) (u : Int) : SpRow (w.setCell ⟨g, j, none⟩ (.int .i64 u)) base (.slice (some ⟨g, 0, none⟩) c cap) c (L.set j u) := by
  have := ownG_set h j (.int .i64 u)
  unfold SpRow
  rw [List.map_set]
  exact this
theorem SpRow.two {w : World} {base g c cap : Nat} {L : List Int} (h : SpRow w base (.slice (some ⟨g, 0, none⟩) c cap) c L) {i : Nat} (hi : i < c) : ∃ a b, w.cell? ⟨g, i * 2, none⟩ = some (.int .i64 a) ∧ w.frozen? ⟨g, i * 2, none⟩ = false ∧ w.cell? ⟨g, i * 2 + 1, none⟩ = some (.int .i64 b) ∧ w.frozen? ⟨g, i * 2 + 1, none⟩ = false := by
  have X := ownG_blk h
  have hl := h.len
  have e0 : (L.map (Value.int .i64))[i * 2]? = some (.int .i64 (L[i * 2]'(by omega))) := by rw [List.getElem?_map, List.getElem?_eq_getElem (by omega)]; rfl
  have e1 : (L.map (Value.int .i64))[i * 2 + 1]? = some (.int .i64 (L[i * 2 + 1]'(by omega))) := by rw [List.getElem?_map, List.getElem?_eq_getElem (by omega)]; rfl
  exact ⟨_, _, X.c _ e0, X.f _ e0, X.c _ e1, X.f _ e1⟩
theorem sp_made3 {base : Nat} (w : World) (z0 z1 z2 z3 z4 z5 : Int) (hb : base ≤ w.heap.size) : SpRow (w.alloc (.cells #[.int .i64 z0, .int .i64 z1, .int .i64 z2, .int .i64 z3, .int .i64 z4, .int .i64 z5] 38)) base (.slice (some ⟨w.heap.size, 0, none⟩) 3 3) 3 [z0, z1, z2, z3, z4, z5] :=
  ⟨rfl, .inr ⟨w.heap.size, 3, #[.int .i64 z0, .int .i64 z1, .int .i64 z2, .int .i64 z3, .int .i64 z4, .int .i64 z5], rfl, hb, Array.getElem?_push_size, Nat.le_refl _, by decide, rfl, rfl⟩⟩
theorem sp_made4 {base : Nat} (w : World) (z0 z1 z2 z3 z4 z5 z6 z7 : Int) (hb : base ≤ w.heap.size) : SpRow (w.alloc (.cells #[.int .i64 z0, .int .i64 z1, .int .i64 z2, .int .i64 z3, .int .i64 z4, .int .i64 z5, .int .i64 z6, .int .i64 z7] 38)) base (.slice (some ⟨w.heap.size, 0, none⟩) 4 4) 4 [z0, z1, z2, z3, z4, z5, z6, z7] :=
  ⟨rfl, .inr ⟨w.heap.size, 4, #[.int .i64 z0, .int .i64 z1, .int .i64 z2, .int .i64 z3, .int .i64 z4, .int .i64 z5, .int .i64 z6, .int .i64 z7], rfl, hb, Array.getElem?_push_size, Nat.le_refl _, by decide, rfl, rfl⟩⟩
theorem sp_made6 {base : Nat} (w : World) (z0 z1 z2 z3 z4 z5 z6 z7 z8 z9 z10 z11 : Int) (hb : base ≤ w.heap.size) : SpRow (w.alloc (.cells #[.int .i64 z0, .int .i64 z1, .int .i64 z2, .int .i64 z3, .int .i64 z4, .int .i64 z5, .int .i64 z6, .int .i64 z7, .int .i64 z8, .int .i64 z9, .int .i64 z10, .int .i64 z11] 38)) base (.slice (some ⟨w.heap.size, 0, none⟩) 6 6) 6 [z0, z1, z2, z3, z4, z5, z6, z7, z8, z9, z10, z11] :=
  ⟨rfl, .inr ⟨w.heap.size, 6, #[.int .i64 z0, .int .i64 z1, .int .i64 z2, .int .i64 z3, .int .i64 z4, .int .i64 z5, .int .i64 z6, .int .i64 z7, .int .i64 z8, .int .i64 z9, .int .i64 z10, .int .i64 z11], rfl, hb, Array.getElem?_push_size, Nat.le_refl _, by decide, rfl, rfl⟩⟩
/-- The state of a ring that is being drawn. -/
def RnSt (w W : World) (g : Nat) (ao : Option Addr) (n cap : Nat) (cs : List Int) (v : Value) (c : Nat) : Prop := (∃ L, SpRow W (w.heap.size + 1) v c L) ∧ Rdr W g ao n cap cs ∧ Kept g w W ∧ Blk W w.heap.size [.slice none 0 0]
theorem RnSt.kept {w W W' : World} {g : Nat} {ao : Option Addr} {n cap : Nat} {cs : List Int} {v : Value} {c : Nat} (h : RnSt w W g ao n cap cs v c) (hg : g < w.heap.size) (R : Rdr W' g ao n cap cs) (K : Kept g W W') : RnSt w W' g ao n cap cs v c := by
  obtain ⟨⟨L, O⟩, _, K0, B⟩ := h
  exact ⟨⟨L, O.kept K (by omega)⟩, R, K0.trans K, B.kept K (by omega)⟩
/-- A drawn ring. -/
def RngP (g : Nat) (ao : Option Addr) (n cap : Nat) (cs : List Int) (w : World) (e : Ending) (w' : World) : Prop := ∃ v c L, e = .returned (.agg #[v]) ∧ 3 ≤ c ∧ c ≤ 12 ∧ SpRow w' w.heap.size v c L ∧ Rdr w' g ao n cap cs ∧ Kept g w w'
end Go.Proofs.Ytbhhegmlfclhbaa

/- A region that draws its order, by a condition that every operation keeps, whichever comes up: no order is walked. -/
namespace Go.Proofs.Ytbhhegmlfclhbaa
variable {P : Program} {ops : Array Oper} {Q : Exit → Act → World → Prop} {md : Region.Mode}
def open_ (l : Array Bool) : Nat := l.toList.countP (fun b => !b)
theorem open_set {l : Array Bool} {i : Nat} (h : l.getD i true = false) : open_ (l.setIfInBounds i true) + 1 = open_ l := by
  obtain ⟨xs⟩ := l
  have hi : i < xs.length := by
    rcases Nat.lt_or_ge i xs.length with h' | h'
    · exact h'
    · simp [Array.getD, Nat.not_lt.2 h'] at h
  have hv : xs[i] = false := by simpa [Array.getD, hi] using h
  have hp : 0 < xs.countP (fun b => !b) := List.countP_pos_iff.2 ⟨xs[i], List.getElem_mem hi, by simp [hv]⟩
  simp only [open_, List.setIfInBounds_toArray, List.countP_set hi, hv]
  simp
  omega
theorem wpAny_inv (J : Array Bool → Act → World → Prop) (hs : ∀ l a w i o, J l a w → l.getD i true = false → ops[i]? = some o → (∀ e ∈ o.after, Region.binds md e = true → l.getD e.on false = true) → wpOp P ops Q i (J (l.setIfInBounds i true)) a w)
    (hd : ∀ l a w, J l a w → Region.ready md ops l = [] → Q .normal a w) : ∀ (fuel : Nat) (l : Array Bool) (a : Act) (w : World), open_ l ≤ fuel → J l a w → wpAny P md ops Q fuel l a w := by
  intro fuel
  induction fuel with
  | zero =>
    intro l a w hf hJ
    have hr : Region.ready md ops l = [] := by
      rw [List.eq_nil_iff_forall_not_mem]
      intro i hi
      have := open_set (mem_ready.1 hi).1
      omega
    exact ⟨hr, hd l a w hJ hr⟩
  | succ fuel ih =>
    intro l a w hf hJ
    refine ⟨fun hr => hd l a w hJ hr, fun i hi => ?_⟩
    obtain ⟨h0, o, ho, hall⟩ := mem_ready.1 hi
    exact wpOp_mono (fun a' w' h' => ih _ a' w' (by have := open_set h0; omega) h') (hs l a w i o hJ h0 ho hall)
theorem wp_region_inv {id : Nat} {a : Act} {w : World} (hm : P.follows .mixedOrders = true) (J : Array Bool → Act → World → Prop)
    (h0 : J (Array.replicate ops.size false) a { w with drawn := w.drawn + 1 })
    (hs : ∀ l a w i o, J l a w → l.getD i true = false → ops[i]? = some o → (∀ e ∈ o.after, Region.binds .any e = true → l.getD e.on false = true) → wpOp P ops Q i (J (l.setIfInBounds i true)) a w)
    (hd : ∀ l a w, J l a w → Region.ready .any ops l = [] → Q .normal a w) : (Code.region id ops true).wp P Q a w :=
  wp_region_any hm (wpAny_inv J hs hd _ _ _ _ (by
    unfold open_
    refine Nat.le_trans List.countP_le_length ?_
    simp) h0)
/-- The operations of a list, each of which waits for none but those ahead of it. -/
def waits (md : Region.Mode) (ops : Array Oper) : List Nat → List Nat → Bool
  | _, [] => true
  | acc, i :: r => ((ops[i]?).map (fun o => o.after.all (fun e => !Region.binds md e || acc.contains e.on))).getD false && waits md ops (i :: acc) r
/-- Where none is ready, all of such a list have come up. -/
theorem listed_of {l : Array Bool} (hr : Region.ready md ops l = []) : ∀ (r acc : List Nat), (∀ k ∈ acc, l.getD k false = true) → waits md ops acc r = true → (∀ k ∈ r, k < l.size) → ∀ k ∈ r, l.getD k false = true
  | [], _, _, _, _ => fun k hk => by simp at hk
  | i :: r, acc, ha, hw, hz => by
    simp only [waits, Bool.and_eq_true] at hw
    obtain ⟨hw1, hw2⟩ := hw
    have hi : l.getD i false = true := by
      cases ho : ops[i]? with
      | none => rw [ho] at hw1; simp at hw1
      | some o =>
        rw [ho] at hw1
        have hall : ∀ e ∈ o.after, Region.binds md e = true → l.getD e.on false = true := fun e he hb => by
          have h2 : o.after.all (fun e => !Region.binds md e || acc.contains e.on) = true := by simpa using hw1
          rw [Array.all_eq_true'] at h2
          have h3 := h2 e he
          rw [hb] at h3
          exact ha _ (by simpa using h3)
        have hz' := hz i (by simp)
        by_cases hc : l.getD i true = false
        · have : i ∈ Region.ready md ops l := mem_ready.2 ⟨hc, o, ho, hall⟩
          rw [hr] at this
          simp at this
        · simpa [Array.getD, hz'] using hc
    intro k hk
    rcases List.mem_cons.1 hk with rfl | hk
    · exact hi
    · exact listed_of hr r (i :: acc) (fun k hk => by
        rcases List.mem_cons.1 hk with rfl | hk
        · exact hi
        · exact ha k hk) hw2 (fun k hk => hz k (by simp [hk])) k hk
/-- One operation that is not guarded: what it does when it is carried out. -/
theorem wpOp_of {i : Nat} {o : Oper} {a : Act} {w : World} {K : Act → World → Prop} (ho : ops[i]? = some o) (hg : o.guard = none) (h : o.wp P a w K Q) : wpOp P ops Q i K a w := by
  unfold wpOp
  simp only [ho]
  have hw : Region.wanted o (yielded ops a.tmps) = true := by unfold Region.wanted; rw [hg]
  rw [if_pos hw]
  exact .inl h
/-- A frame that differs from another one at the told slots alone is that one with these slots put. -/
theorem tmps_fold : ∀ (D : List Nat) (t s : Array Value), t.size = s.size → (∀ d, d ∉ D → t[d]? = s[d]?) → t = D.foldl (fun u d => u.setIfInBounds d (t.getD d undef)) s
  | [], t, s, _, h => Array.ext_getElem? (fun d => h d (by simp))
  | d :: D, t, s, hz, h => by
    rw [List.foldl_cons]
    refine tmps_fold D t _ (by simpa using hz) (fun e he => ?_)
    by_cases hed : e = d
    · subst hed
      rcases Nat.lt_or_ge e t.size with h' | h'
      · simp [Array.getD, h', ← hz]
      · simp [← hz, h']
    · rw [Array.getElem?_setIfInBounds_ne (fun hh => hed hh.symm)]
      exact h e (by simp [hed, he])
theorem put_getD_ne {a : Act} {d e : Nat} {v : Value} (h : d ≠ e) : (a.put (some d) v).tmps.getD e undef = a.tmps.getD e undef := by
  simp [Act.put, Array.getD_eq_getD_getElem?, Array.getElem?_setIfInBounds_ne h]
theorem put_getD_same {a : Act} {d : Nat} {v : Value} (h : d < a.tmps.size) : (a.put (some d) v).tmps.getD d undef = v := by
  simp [Act.put, Array.getD_eq_getD_getElem?, h]
end Go.Proofs.Ytbhhegmlfclhbaa

/- A region in its own order, by a condition that every operation keeps: no frame is written out. -/
namespace Go.Proofs.Ytbhhegmlfclhbaa
variable {P : Program} {ops : Array Oper} {Q : Exit → Act → World → Prop}
theorem wpOps_inv (J : Array Bool → Act → World → Prop) (hs : ∀ l a w i o, J l a w → l.getD i true = false → ops[i]? = some o → (∀ e ∈ o.after, Region.binds .any e = true → l.getD e.on false = true) → wpOp P ops Q i (J (l.setIfInBounds i true)) a w)
    (hd : ∀ l a w, J l a w → Region.ready .any ops l = [] → Q .normal a w) : ∀ (r acc : List Nat) (l : Array Bool) (a : Act) (w : World), waits .any ops acc r = true → l.size = ops.size → (∀ k ∈ acc, l.getD k false = true) → (∀ k ∈ r, k < ops.size ∧ l.getD k false = false) → r.Nodup → (∀ k, k < ops.size → k ∉ r → l.getD k false = true) → J l a w → wpOps P ops Q r a w
  | [], acc, l, a, w, _, hz, _, _, _, hrest, hJ => by
    have hr : Region.ready .any ops l = [] := by
      rw [List.eq_nil_iff_forall_not_mem]
      intro i hi
      obtain ⟨h0, o, ho, _⟩ := mem_ready.1 hi
      have h1 := hrest i (Array.getElem?_eq_some_iff.1 ho).1 (by simp)
      rw [Array.getD_eq_getD_getElem?] at h0 h1
      cases hh : l[i]? with
      | none => rw [hh] at h1; cases h1
      | some b => rw [hh] at h0 h1; simp at h0 h1; rw [h0] at h1; cases h1
    exact hd l a w hJ hr
  | i :: r, acc, l, a, w, hw, hz, hacc, hopen, hnd, hrest, hJ => by
    rw [wpOps_cons]
    simp only [waits, Bool.and_eq_true] at hw
    obtain ⟨hw1, hw2⟩ := hw
    obtain ⟨hi, hf⟩ := hopen i (by simp)
    obtain ⟨o, ho⟩ : ∃ o, ops[i]? = some o := ⟨_, Array.getElem?_eq_getElem hi⟩
    have hall : ∀ e ∈ o.after, Region.binds .any e = true → l.getD e.on false = true := fun e he hb => by
      rw [ho] at hw1
      have h2 : o.after.all (fun e => !Region.binds .any e || acc.contains e.on) = true := by simpa using hw1
      rw [Array.all_eq_true'] at h2
      have h3 := h2 e he
      rw [hb] at h3
      simp at h3
      exact hacc _ h3
    have h0 : l.getD i true = false := by
      rw [Array.getD_eq_getD_getElem?] at hf ⊢
      cases hh : l[i]? with
      | none => have := Array.getElem?_eq_none_iff.1 hh; omega
      | some b => rw [hh] at hf; exact hf
    rw [List.nodup_cons] at hnd
    have hne : ∀ k, k ≠ i → (l.setIfInBounds i true).getD k false = l.getD k false := fun k hk => by
      simp [Array.getD_eq_getD_getElem?, Array.getElem?_setIfInBounds_ne (Ne.symm hk)]
    have heq : (l.setIfInBounds i true).getD i false = true := by
      rw [Array.getD_eq_getD_getElem?]
      simp [show i < l.size by omega]
    refine wpOp_mono (fun a' w' h' => wpOps_inv J hs hd r (i :: acc) _ a' w' hw2 (by simpa using hz) (fun k hk => ?_) (fun k hk => ?_) hnd.2 (fun k hk hkr => ?_) h') (hs l a w i o hJ h0 ho hall)
    · rcases List.mem_cons.1 hk with rfl | hk
      · exact heq
      · by_cases e : k = i
        · subst e; exact heq
        · rw [hne k e]; exact hacc k hk
    · have hki : k ≠ i := fun e => hnd.1 (e ▸ hk)
      rw [hne k hki]
      exact hopen k (by simp [hk])
    · by_cases e : k = i
      · subst e; exact heq
      · rw [hne k e]; exact hrest k hk (by simp [e, hkr])
theorem wp_region_invp {id : Nat} {a : Act} {w : World} (J : Array Bool → Act → World → Prop) (hw : waits .any ops [] (List.range ops.size) = true) (h0 : J (Array.replicate ops.size false) a w)
    (hs : ∀ l a w i o, J l a w → l.getD i true = false → ops[i]? = some o → (∀ e ∈ o.after, Region.binds .any e = true → l.getD e.on false = true) → wpOp P ops Q i (J (l.setIfInBounds i true)) a w)
    (hd : ∀ l a w, J l a w → Region.ready .any ops l = [] → Q .normal a w) : (Code.region id ops false).wp P Q a w :=
  wp_region (wpOps_inv J hs hd _ [] _ a w hw (by simp) (fun k hk => by simp at hk) (fun k hk => ⟨List.mem_range.1 hk, by rw [Array.getD_eq_getD_getElem?, Array.getElem?_replicate]; split <;> rfl⟩) List.nodup_range (fun k hk hn => absurd (List.mem_range.2 hk) hn) h0)
end Go.Proofs.Ytbhhegmlfclhbaa

/- Operations that are guarded, in a region that is taken by a condition. -/
namespace Go.Proofs.Ytbhhegmlfclhbaa
variable {P : Program} {ops : Array Oper} {Q : Exit → Act → World → Prop}
theorem yielded_of {j d : Nat} {o : Oper} {t : Array Value} {b : Bool} (ho : ops[j]? = some o) (hd : o.dst = some d) (ht : t.getD d undef = .bool b) : yielded ops t j = some b := by
  have h : t[d]? = some (.bool b) := by
    rcases Nat.lt_or_ge d t.size with h | h
    · simpa [Array.getD, h] using ht
    · simp [Array.getD, Nat.not_lt.2 h, undef] at ht
  unfold yielded
  rw [ho]
  simp only [Option.bind_some, hd]
  rw [h]
theorem wpOp_on {i k d : Nat} {b : Bool} {o ok : Oper} {a : Act} {w : World} {K : Act → World → Prop} (ho : ops[i]? = some o) (hg : o.guard = some (k, b)) (hk : ops[k]? = some ok) (hd : ok.dst = some d) (ht : a.tmps.getD d undef = .bool b) (h : o.wp P a w K Q) : wpOp P ops Q i K a w := by
  unfold wpOp
  simp only [ho]
  have hw : Region.wanted o (yielded ops a.tmps) = true := by
    unfold Region.wanted
    rw [hg]
    simp only [yielded_of hk hd ht]
    cases b <;> rfl
  rw [if_pos hw]
  exact .inl h
end Go.Proofs.Ytbhhegmlfclhbaa

/- A region that draws its order, by what each slot holds once its operation has come up: the general form. -/
namespace Go.Proofs.Ytbhhegmlfclhbaa
open Go.RowKit
variable {P : Program} {ops : Array Oper}
/-- No slot is written by two operations. -/
def distS : List (Option Nat) → Bool
  | [] => true
  | none :: r => distS r
  | some d :: r => !(r.contains (some d)) && distS r
theorem distS_inj : ∀ (S : List (Option Nat)) (i j d : Nat), distS S = true → S[i]? = some (some d) → S[j]? = some (some d) → i = j
  | [], i, _, _, _, h, _ => by simp at h
  | o :: r, i, j, d, hd, hi, hj => by
    have hr : distS r = true := by
      cases o with
      | none => exact hd
      | some d' => simp only [distS, Bool.and_eq_true] at hd; exact hd.2
    have hno : ∀ k, o = some d → r[k]? = some (some d) → False := fun k ho hk => by
      subst ho
      simp only [distS, Bool.and_eq_true, Bool.not_eq_true'] at hd
      have hm : some d ∈ r := List.mem_of_getElem? hk
      rw [← List.contains_iff_mem, hd.1] at hm
      cases hm
    match i, j with
    | 0, 0 => rfl
    | 0, j + 1 => exact (hno j (by simpa using hi) (by simpa using hj)).elim
    | i + 1, 0 => exact (hno i (by simpa using hj) (by simpa using hi)).elim
    | i + 1, j + 1 => exact congrArg (· + 1) (distS_inj r i j d hr (by simpa using hi) (by simpa using hj))
/-- What every operation keeps. -/
def InvQ (B : Nat) (S : List (Option Nat)) (V : Nat → Value → World → Prop) (w0 : World) (a0 : Act) (l : Array Bool) (a : Act) (W : World) : Prop :=
  l.size = S.length ∧ a.tmps.size = a0.tmps.size ∧ a.defers = a0.defers ∧ (∀ e, some e ∉ S → a.tmps[e]? = a0.tmps[e]?) ∧ Below B w0 W ∧ (∀ j d, l.getD j false = true → S[j]? = some (some d) → V j (a.tmps.getD d undef) W) ∧ (∀ j, l.getD j false = true → S[j]? = some none → V j undef W)
theorem getD_set_q {l : Array Bool} {i j : Nat} (h : (l.setIfInBounds i true).getD j false = true) (hne : j ≠ i) : l.getD j false = true := by
  rw [getD_set_ne false (Ne.symm hne)] at h
  exact h
theorem InvQ.put {B : Nat} {S : List (Option Nat)} {V : Nat → Value → World → Prop} {w0 : World} {a0 : Act} {l : Array Bool} {a : Act} {W W' : World} (h : InvQ B S V w0 a0 l a W) (hS : distS S = true) (i d : Nat) (hi : S[i]? = some (some d)) (hlt : d < a0.tmps.size)
    (hW : Below B w0 W') (hT : ∀ j v, V j v W → V j v W') (v : Value) (hv : V i v W') : InvQ B S V w0 a0 (l.setIfInBounds i true) (a.put (some d) v) W' := by
  obtain ⟨h1, h2, h3, h4, h5, h6, h7⟩ := h
  refine ⟨by simpa using h1, by simpa [Act.put] using h2, h3, fun e he => ?_, hW, fun j d' hj hd' => ?_, fun j hj hn => ?_⟩
  · have hne : d ≠ e := fun hh => he (hh ▸ List.mem_of_getElem? hi)
    simp only [Act.put]
    rw [Array.getElem?_setIfInBounds_ne hne]
    exact h4 e he
  · by_cases hji : j = i
    · subst hji
      rw [hi] at hd'
      cases hd'
      rw [put_getD_same (by omega)]
      exact hv
    · have hne : d ≠ d' := fun hh => hji (distS_inj S j i d hS (hh ▸ hd') hi)
      rw [put_getD_ne hne]
      exact hT _ _ (h6 j d' (getD_set_q hj hji) hd')
  · have hji : j ≠ i := fun hh => by subst hh; rw [hi] at hn; cases hn
    exact hT _ _ (h7 j (getD_set_q hj hji) hn)
theorem InvQ.world {B : Nat} {S : List (Option Nat)} {V : Nat → Value → World → Prop} {w0 : World} {a0 : Act} {l : Array Bool} {a : Act} {W W' : World} (h : InvQ B S V w0 a0 l a W) (i : Nat) (hi : S[i]? = some none)
    (hW : Below B w0 W') (hT : ∀ j v, V j v W → V j v W') (hv : V i undef W') : InvQ B S V w0 a0 (l.setIfInBounds i true) a W' := by
  obtain ⟨h1, h2, h3, h4, h5, h6, h7⟩ := h
  refine ⟨by simpa using h1, h2, h3, h4, hW, fun j d hj hd => ?_, fun j hj hn => ?_⟩
  · have hji : j ≠ i := fun hh => by subst hh; rw [hi] at hd; cases hd
    exact hT _ _ (h6 j d (getD_set_q hj hji) hd)
  · by_cases hji : j = i
    · subst hji; exact hv
    · exact hT _ _ (h7 j (getD_set_q hj hji) hn)
theorem wp_region_q {Q : Exit → Act → World → Prop} {id : Nat} {a0 : Act} {w0 : World} (hm : P.follows .mixedOrders = true) (B : Nat) (S : List (Option Nat)) (V : Nat → Value → World → Prop) (hSz : ops.size = S.length)
    (hs : ∀ (Q : Exit → Act → World → Prop) l a W i o, InvQ B S V w0 a0 l a W → l.getD i true = false → ops[i]? = some o → (∀ e ∈ o.after, Region.binds .any e = true → l.getD e.on false = true) → wpOp P ops Q i (InvQ B S V w0 a0 (l.setIfInBounds i true)) a W)
    (hd : ∀ l a W, InvQ B S V w0 a0 l a W → Region.ready .any ops l = [] → Q .normal a W) : (Code.region id ops true).wp P Q a0 w0 := by
  refine wp_region_inv hm (InvQ B S V w0 a0) ⟨by simpa using hSz, rfl, rfl, fun _ _ => rfl, (Below.refl _ w0).drew, fun j d hj => ?_, fun j hj => ?_⟩ (hs Q) hd
  all_goals
    exfalso
    rw [Array.getD_eq_getD_getElem?, Array.getElem?_replicate] at hj
    split at hj <;> simp at hj
/-- A block of so many cells. -/
def BlkN (W : World) (g n : Nat) : Prop := ∃ vs : List Value, vs.length = n ∧ Blk W g vs
theorem BlkN.step {W W' : World} {g n : Nat} (h : BlkN W g n) (hB : Below W.heap.size W W') : BlkN W' g n := by
  obtain ⟨vs, h1, h2⟩ := h
  exact ⟨vs, h1, h2.step hB⟩
theorem Blk.setA {W : World} {g : Nat} {vs : List Value} (h : Blk W g vs) (j : Nat) (u : Value) : Blk (W.setCell ⟨g, j, none⟩ u) g (vs.set j u) := by
  rcases Nat.lt_or_ge j vs.length with hj | hj
  · exact h.setI j hj u
  · refine ⟨by simpa [World.setCell] using h.1, fun i v hi => ?_⟩
    rw [List.set_eq_of_length_le hj] at hi
    have hne : i ≠ j := fun e => by
      subst e
      rw [List.getElem?_eq_none hj] at hi
      cases hi
    exact ⟨(World.cell?_setCell_other _ _ _ _ (by simp)).trans (h.c i hi), by simp [go_sem, h.f i hi]⟩
theorem BlkN.set {W : World} {g n : Nat} (h : BlkN W g n) (g' j : Nat) (u : Value) : BlkN (W.setCell ⟨g', j, none⟩ u) g n := by
  obtain ⟨vs, h1, h2⟩ := h
  by_cases hg : g = g'
  · subst hg
    exact ⟨vs.set j u, by simpa using h1, h2.setA j u⟩
  · exact ⟨vs, h1, h2.setO (p := ⟨g', j, none⟩) hg u⟩
end Go.Proofs.Ytbhhegmlfclhbaa
