/- Part 5 of the walks that the proof leans on. -/
import Derived.Test.YteakhlipmmfilaaGreatLt4
/- The walk of the model's point in lowest terms. -/
namespace Go.Proofs.YteakhlipmmfilaaGreat
open Go.RowKit
theorem share_quot {v V g z : Int} (hV : V = if z < 0 then -v else v) (hg : 0 < g) (hd : g ∣ v) : V / g = shareZ v g (decide (z < 0)) := by
  obtain ⟨a, rfl⟩ := hd
  have hd : ∀ z : Int, (g * z) / g = z := fun z => Int.mul_ediv_cancel_left z (by omega)
  have hn : (((g * a).natAbs : Nat) : Int) / g = (a.natAbs : Int) := by
    rw [Int.natAbs_mul, Int.natCast_mul, Int.natAbs_of_nonneg (by omega)]
    exact hd _
  have hs : g * a < 0 ↔ a < 0 := by
    constructor
    · intro h
      apply Decidable.byContradiction
      intro h'
      have := Int.mul_nonneg (a := g) (b := a) (by omega) (by omega)
      omega
    · intro h
      exact Int.mul_neg_of_pos_of_neg hg h
  unfold shareZ
  rw [hn, hV]
  simp only [hs]
  by_cases h2 : z < 0
  · rw [if_pos h2, ← Int.mul_neg, hd]
    by_cases h1 : a < 0 <;> simp [h1, h2] <;> omega
  · rw [if_neg h2, hd]
    by_cases h1 : a < 0 <;> simp [h1, h2] <;> omega
theorem low3 {x y z X Y Z : Int} (hX : X = if z < 0 then -x else x) (hY : Y = if z < 0 then -y else y) (hZ : Z = if z < 0 then -z else z) (hz : z ≠ 0) : X / (Int.gcd (Int.gcd x y : Int) z : Int) = shareZ x (Int.gcd (Int.gcd x y : Int) z : Int) (decide (z < 0)) ∧ Y / (Int.gcd (Int.gcd x y : Int) z : Int) = shareZ y (Int.gcd (Int.gcd x y : Int) z : Int) (decide (z < 0)) ∧ Z / (Int.gcd (Int.gcd x y : Int) z : Int) = shareZ z (Int.gcd (Int.gcd x y : Int) z : Int) (decide (z < 0)) ∧ (Int.gcd (Int.gcd X Y : Int) Z : Int) = (Int.gcd (Int.gcd x y : Int) z : Int) ∧ 0 < (Int.gcd (Int.gcd x y : Int) z : Int) := by
  have g0 : 0 < Int.gcd (Int.gcd x y : Int) z := Int.gcd_pos_of_ne_zero_right _ hz
  have hgp : 0 < (Int.gcd (Int.gcd x y : Int) z : Int) := by omega
  have dxy : (Int.gcd (Int.gcd x y : Int) z : Int) ∣ (Int.gcd x y : Int) := Int.gcd_dvd_left _ _
  refine ⟨share_quot hX hgp (Int.dvd_trans dxy (Int.gcd_dvd_left _ _)), share_quot hY hgp (Int.dvd_trans dxy (Int.gcd_dvd_right _ _)), share_quot hZ hgp (Int.gcd_dvd_right _ _), ?_, hgp⟩
  rw [hX, hY, hZ]
  split
  · simp [Int.gcd]
  · rfl
/-- The three numbers as they lie in the arguments' places. -/
def CutT3 (w wx : World) (x y z : Int) (k : Nat) : Prop :=
  ∃ (s1 : Bool) (o1 : Option Addr) (n1 c1 : Nat) (d1 : List Int) (s2 : Bool) (o2 : Option Addr) (n2 c2 : Nat) (d2 : List Int) (s3 : Bool) (o3 : Option Addr) (n3 c3 : Nat) (d3 : List Int), ArgsB w wx [[.bool s1, .slice o1 n1 c1], [.bool s2, .slice o2 n2 c2], [.bool s3, .slice o3 n3 c3], [.bool false, .slice none 0 0, .bool false, .slice none 0 0, .bool false, .slice none 0 0]] ∧ IsNum wx s1 o1 n1 c1 d1 x k ∧ IsNum wx s2 o2 n2 c2 d2 y k ∧ IsNum wx s3 o3 n3 c3 d3 z k
theorem CutT3.drew {w W : World} {x y z : Int} {k : Nat} (h : CutT3 w W x y z k) : CutT3 w W.drew x y z k := by
  obtain ⟨s1, o1, n1, c1, d1, s2, o2, n2, c2, d2, s3, o3, n3, c3, d3, A, N1, N2, N3⟩ := h
  exact ⟨s1, o1, n1, c1, d1, s2, o2, n2, c2, d2, s3, o3, n3, c3, d3, A.drew, N1.drew, N2.drew, N3.drew⟩
theorem ArgsB.w0 {w W : World} {a0 a1 u0 u1 : Value} {b c r : List Value} (h : ArgsB w W [[a0, a1], b, c, r]) : ArgsB w ((W.setCell ⟨w.heap.size, 0, none⟩ u0).setCell ⟨w.heap.size, 1, none⟩ u1) [[u0, u1], b, c, r] := by
  refine ⟨(h.1.setCell (by simp) _).setCell (by simp) _, fun j vs hj => ?_⟩
  match j, hj with
  | 0, hj => cases hj; exact Blk.stored2 (h.b 0 rfl) _ _
  | 1, hj => cases hj; exact Blk.set2 (h.b 1 rfl) (by omega)
  | 2, hj => cases hj; exact Blk.set2 (h.b 2 rfl) (by omega)
  | 3, hj => cases hj; exact Blk.set2 (h.b 3 rfl) (by omega)
  | j + 4, hj => simp at hj
theorem ArgsB.w1 {w W : World} {a0 a1 u0 u1 : Value} {b c r : List Value} (h : ArgsB w W [b, [a0, a1], c, r]) : ArgsB w ((W.setCell ⟨w.heap.size + 1, 0, none⟩ u0).setCell ⟨w.heap.size + 1, 1, none⟩ u1) [b, [u0, u1], c, r] := by
  refine ⟨(h.1.setCell (by simp) _).setCell (by simp) _, fun j vs hj => ?_⟩
  match j, hj with
  | 0, hj => cases hj; exact Blk.set2 (h.b 0 rfl) (by omega)
  | 1, hj => cases hj; exact Blk.stored2 (h.b 1 rfl) _ _
  | 2, hj => cases hj; exact Blk.set2 (h.b 2 rfl) (by omega)
  | 3, hj => cases hj; exact Blk.set2 (h.b 3 rfl) (by omega)
  | j + 4, hj => simp at hj
theorem ArgsB.w2 {w W : World} {a0 a1 u0 u1 : Value} {b c r : List Value} (h : ArgsB w W [b, c, [a0, a1], r]) : ArgsB w ((W.setCell ⟨w.heap.size + 1 + 1, 0, none⟩ u0).setCell ⟨w.heap.size + 1 + 1, 1, none⟩ u1) [b, c, [u0, u1], r] := by
  refine ⟨(h.1.setCell (by simp; omega) _).setCell (by simp; omega) _, fun j vs hj => ?_⟩
  match j, hj with
  | 0, hj => cases hj; exact Blk.set2 (h.b 0 rfl) (by omega)
  | 1, hj => cases hj; exact Blk.set2 (h.b 1 rfl) (by omega)
  | 2, hj => cases hj; exact Blk.stored2 (h.b 2 rfl) _ _
  | 3, hj => cases hj; exact Blk.set2 (h.b 3 rfl) (by omega)
  | j + 4, hj => simp at hj
theorem cutT3_up {w W : World} {x y z : Int} {k : Nat} {p q r : Bool} {po qo ro : Option Addr} {p1 p2 q1 q2 r1 r2 : Nat} {s1 : Bool} {o1 : Option Addr} {n1 c1 : Nat} {d1 : List Int} {s2 : Bool} {o2 : Option Addr} {n2 c2 : Nat} {d2 : List Int} {s3 : Bool} {o3 : Option Addr} {n3 c3 : Nat} {d3 : List Int} (h : ArgsB w W [[.bool p, .slice po p1 p2], [.bool q, .slice qo q1 q2], [.bool r, .slice ro r1 r2], [.bool false, .slice none 0 0, .bool false, .slice none 0 0, .bool false, .slice none 0 0]]) (N1 : IsNum W s1 o1 n1 c1 d1 x k) (N2 : IsNum W s2 o2 n2 c2 d2 y k) (N3 : IsNum W s3 o3 n3 c3 d3 z k) :
    CutT3 w ((((((W.setCell ⟨w.heap.size, 0, none⟩ (.bool s1)).setCell ⟨w.heap.size, 1, none⟩ (.slice o1 n1 c1)).setCell ⟨w.heap.size + 1, 0, none⟩ (.bool s2)).setCell ⟨w.heap.size + 1, 1, none⟩ (.slice o2 n2 c2)).setCell ⟨w.heap.size + 1 + 1, 0, none⟩ (.bool s3)).setCell ⟨w.heap.size + 1 + 1, 1, none⟩ (.slice o3 n3 c3)) x y z k := by
  have A0 : Blk W w.heap.size _ := h.b 0 rfl
  have A1 : Blk ((W.setCell ⟨w.heap.size, 0, none⟩ (.bool s1)).setCell ⟨w.heap.size, 1, none⟩ (.slice o1 n1 c1)) (w.heap.size + 1) _ := (h.w0 (u0 := .bool s1) (u1 := .slice o1 n1 c1)).b 1 rfl
  have A2 : Blk ((((W.setCell ⟨w.heap.size, 0, none⟩ (.bool s1)).setCell ⟨w.heap.size, 1, none⟩ (.slice o1 n1 c1)).setCell ⟨w.heap.size + 1, 0, none⟩ (.bool s2)).setCell ⟨w.heap.size + 1, 1, none⟩ (.slice o2 n2 c2)) (w.heap.size + 1 + 1) _ := (h.w0 (u0 := .bool s1) (u1 := .slice o1 n1 c1)).w1.b 2 rfl
  exact ⟨s1, o1, n1, c1, d1, s2, o2, n2, c2, d2, s3, o3, n3, c3, d3, h.w0.w1.w2, num_put (num_put (num_put N1 A0 _ _) A1 _ _) A2 _ _, num_put (num_put (num_put N2 A0 _ _) A1 _ _) A2 _ _, num_put (num_put (num_put N3 A0 _ _) A1 _ _) A2 _ _⟩
theorem m3_cells {s4 : Bool} {o4 : Option Addr} {n4 c4 : Nat} {s5 : Bool} {o5 : Option Addr} {n5 c5 : Nat} {s6 : Bool} {o6 : Option Addr} {n6 c6 : Nat} {w W : World} (h : ArgsB w W [[.bool s4, .slice o4 n4 c4], [.bool s5, .slice o5 n5 c5], [.bool s6, .slice o6 n6 c6], [.bool false, .slice none 0 0, .bool false, .slice none 0 0, .bool false, .slice none 0 0]]) : (fun w' => w'.cell? ⟨w.heap.size, 0, none⟩ = some (.bool s4) ∧ w'.cell? ⟨w.heap.size, 1, none⟩ = some (.slice o4 n4 c4) ∧ w'.cell? ⟨w.heap.size + 1, 0, none⟩ = some (.bool s5) ∧ w'.cell? ⟨w.heap.size + 1, 1, none⟩ = some (.slice o5 n5 c5) ∧ w'.cell? ⟨w.heap.size + 2, 0, none⟩ = some (.bool s6) ∧ w'.cell? ⟨w.heap.size + 2, 1, none⟩ = some (.slice o6 n6 c6)) W := ⟨(h.b 0 rfl).c 0 rfl, (h.b 0 rfl).c 1 rfl, (h.b 1 rfl).c 0 rfl, (h.b 1 rfl).c 1 rfl, (h.b 2 rfl).c 0 rfl, (h.b 2 rfl).c 1 rfl⟩
set_option maxRecDepth 100000 in
set_option maxHeartbeats 8000000 in
theorem l3Make_any (s1 : Bool) (o1 : Option Addr) (n1 c1 : Nat) (d1 : List Int) (s2 : Bool) (o2 : Option Addr) (n2 c2 : Nat) (d2 : List Int) (s3 : Bool) (o3 : Option Addr) (n3 c3 : Nat) (d3 : List Int) (x y z : Int) (k : Nat) (hk : 2 ≤ k) (hk2 : k ≤ 8000) (w : World) (N1 : IsNum w s1 o1 n1 c1 d1 x k) (N2 : IsNum w s2 o2 n2 c2 d2 y k) (N3 : IsNum w s3 o3 n3 c3 d3 z k) (hz : z ≠ 0) :
    Calls Tryz.prog 94 #[.agg #[.bool s1, .slice o1 n1 c1], .agg #[.bool s2, .slice o2 n2 c2], .agg #[.bool s3, .slice o3 n3 c3]] w (L3P (k + 3) (shareZ x (Int.gcd (Int.gcd x y : Int) z : Int) (decide (z < 0))) (shareZ y (Int.gcd (Int.gcd x y : Int) z : Int) (decide (z < 0))) (shareZ z (Int.gcd (Int.gcd x y : Int) z : Int) (decide (z < 0))) w) := by
  have T0 : ArgsB w ((((w.alloc (.cells #[.bool s1, .slice o1 n1 c1] 88)).alloc (.cells #[.bool s2, .slice o2 n2 c2] 88)).alloc (.cells #[.bool s3, .slice o3 n3 c3] 88)).alloc (.cells #[.bool false, .slice none 0 0, .bool false, .slice none 0 0, .bool false, .slice none 0 0] 90)) [[.bool s1, .slice o1 n1 c1], [.bool s2, .slice o2 n2 c2], [.bool s3, .slice o3 n3 c3], [.bool false, .slice none 0 0, .bool false, .slice none 0 0, .bool false, .slice none 0 0]] := ar4 _ _ _ _ _ _ _ _ w
  replace N1 := N1.step T0.below
  replace N2 := N2.step T0.below
  replace N3 := N3.step T0.below
  obtain ⟨X, hX⟩ : ∃ X, X = if z < 0 then -x else x := ⟨_, rfl⟩
  obtain ⟨Y, hY⟩ : ∃ Y, Y = if z < 0 then -y else y := ⟨_, rfl⟩
  obtain ⟨Z, hZ⟩ : ∃ Z, Z = if z < 0 then -z else z := ⟨_, rfl⟩
  obtain ⟨e1, e2, e3, e4, e5⟩ := low3 hX hY hZ hz
  go_enter Tryz.func94, Tryz.ntmps94
  go_upto_region 1 with fail
  generalize ((((w.alloc (.cells #[.bool s1, .slice o1 n1 c1] 88)).alloc (.cells #[.bool s2, .slice o2 n2 c2] 88)).alloc (.cells #[.bool s3, .slice o3 n3 c3] 88)).alloc (.cells #[.bool false, .slice none 0 0, .bool false, .slice none 0 0, .bool false, .slice none 0 0] 90)) = W at *
  go_cut [9] (fun p wx => p = .bool (decide (z < 0)) ∧ wx = W)
  case first =>
    have HN : Hid (s3 = decide (z < 0)) := N3.neg
    have aB : Blk _ (w.heap.size) _ := T0.b 0 rfl; obtain ⟨a0c, a0f, a1c, a1f⟩ := aB.cf2; have alt := aB.lt; clear aB; have bB : Blk _ (w.heap.size + 1) _ := T0.b 1 rfl; obtain ⟨b0c, b0f, b1c, b1f⟩ := bB.cf2; have blt := bB.lt; clear bB; have eB : Blk _ (w.heap.size + 1 + 1) _ := T0.b 2 rfl; obtain ⟨e0c, e0f, e1c, e1f⟩ := eB.cf2; have elt := eB.lt; clear eB
    go_wp2_with fail
    go_meet
    case rel => exact ⟨by rw [HN.out], rfl⟩
  case rest =>
   obtain ⟨rfl, rfl⟩ := hcut
   rename_i hk'
   refine hk' _ _ ?_
   go_cut [] (fun wx => CutT3 w wx X Y Z k)
   case first =>
    by_cases hn : z < 0
    · obtain rfl : s3 = true := by rw [N3.neg]; simpa using hn
      rw [if_pos hn] at hX hY hZ
      rw [decide_eq_true hn]
      have aB : Blk _ (w.heap.size) _ := T0.b 0 rfl; obtain ⟨a0c, a0f, a1c, a1f⟩ := aB.cf2; have alt := aB.lt; clear aB; have bB : Blk _ (w.heap.size + 1) _ := T0.b 1 rfl; obtain ⟨b0c, b0f, b1c, b1f⟩ := bB.cf2; have blt := bB.lt; clear bB; have eB : Blk _ (w.heap.size + 1 + 1) _ := T0.b 2 rfl; obtain ⟨e0c, e0f, e1c, e1f⟩ := eB.cf2; have elt := eB.lt; clear eB
      have tok1 : True := trivial
      have tok2 : True := trivial
      replace T0 := T0.drew; replace N1 := N1.drew; replace N2 := N2.drew; replace N3 := N3.drew
      go_wp2_with fail
      go_region_with ((first
        | (go_at_call 144; have _t := tok1; refine (neg_any s1 o1 n1 c1 d1 x k _ N1).mono ?_; rintro e w1 ⟨s4, o4, n4, c4, d4, rfl, N4, hB⟩; replace T0 := T0.step hB; replace N2 := N2.step hB; replace N3 := N3.step hB; clear hB tok1 _t a0c a0f a1c a1f alt b0c b0f b1c b1f blt e0c e0f e1c e1f elt; have aB : Blk _ (w.heap.size) _ := T0.b 0 rfl; obtain ⟨a0c, a0f, a1c, a1f⟩ := aB.cf2; have alt := aB.lt; clear aB; have bB : Blk _ (w.heap.size + 1) _ := T0.b 1 rfl; obtain ⟨b0c, b0f, b1c, b1f⟩ := bB.cf2; have blt := bB.lt; clear bB; have eB : Blk _ (w.heap.size + 1 + 1) _ := T0.b 2 rfl; obtain ⟨e0c, e0f, e1c, e1f⟩ := eB.cf2; have elt := eB.lt; clear eB)
        | (go_at_call 144; have _t := tok2; refine (neg_any s2 o2 n2 c2 d2 y k _ N2).mono ?_; rintro e w2 ⟨s5, o5, n5, c5, d5, rfl, N5, hB⟩; replace T0 := T0.step hB; replace N4 := N4.step hB; replace N3 := N3.step hB; clear hB tok2 _t a0c a0f a1c a1f alt b0c b0f b1c b1f blt e0c e0f e1c e1f elt; have aB : Blk _ (w.heap.size) _ := T0.b 0 rfl; obtain ⟨a0c, a0f, a1c, a1f⟩ := aB.cf2; have alt := aB.lt; clear aB; have bB : Blk _ (w.heap.size + 1) _ := T0.b 1 rfl; obtain ⟨b0c, b0f, b1c, b1f⟩ := bB.cf2; have blt := bB.lt; clear bB; have eB : Blk _ (w.heap.size + 1 + 1) _ := T0.b 2 rfl; obtain ⟨e0c, e0f, e1c, e1f⟩ := eB.cf2; have elt := eB.lt; clear eB)
        | (go_at_call 144; refine (neg_any true o3 n3 c3 d3 z k _ N3).mono ?_; rintro e w3 ⟨s6, o6, n6, c6, d6, rfl, N6, hB⟩; replace T0 := T0.step hB; replace N4 := N4.step hB; replace N5 := N5.step hB; clear hB a0c a0f a1c a1f alt b0c b0f b1c b1f blt e0c e0f e1c e1f elt; have aB : Blk _ (w.heap.size) _ := T0.b 0 rfl; obtain ⟨a0c, a0f, a1c, a1f⟩ := aB.cf2; have alt := aB.lt; clear aB; have bB : Blk _ (w.heap.size + 1) _ := T0.b 1 rfl; obtain ⟨b0c, b0f, b1c, b1f⟩ := bB.cf2; have blt := bB.lt; clear bB; have eB : Blk _ (w.heap.size + 1 + 1) _ := T0.b 2 rfl; obtain ⟨e0c, e0f, e1c, e1f⟩ := eB.cf2; have elt := eB.lt; clear eB)))
      all_goals go_wp2_with fail
      all_goals go_meet
      all_goals rw [← hX] at N4
      all_goals rw [← hY] at N5
      all_goals rw [← hZ] at N6
      all_goals first | exact cutT3_up T0 N4 N5 N6 | exact (cutT3_up T0 N4 N5 N6).drew
    · obtain rfl : s3 = false := by rw [N3.neg]; simpa using hn
      rw [if_neg hn] at hX hY hZ
      rw [decide_eq_false hn]
      subst hX hY hZ
      have aB : Blk _ (w.heap.size) _ := T0.b 0 rfl; obtain ⟨a0c, a0f, a1c, a1f⟩ := aB.cf2; have alt := aB.lt; clear aB; have bB : Blk _ (w.heap.size + 1) _ := T0.b 1 rfl; obtain ⟨b0c, b0f, b1c, b1f⟩ := bB.cf2; have blt := bB.lt; clear bB; have eB : Blk _ (w.heap.size + 1 + 1) _ := T0.b 2 rfl; obtain ⟨e0c, e0f, e1c, e1f⟩ := eB.cf2; have elt := eB.lt; clear eB
      go_wp2_with fail
      go_meet
      case rel => exact ⟨s1, o1, n1, c1, d1, s2, o2, n2, c2, d2, false, o3, n3, c3, d3, T0, N1, N2, N3⟩
   case rest =>
    clear T0 N1 N2 N3 hk'
    obtain ⟨s4, o4, n4, c4, d4, s5, o5, n5, c5, d5, s6, o6, n6, c6, d6, T0, N1, N2, N3⟩ := hcut
    have tok1 : True := trivial
    have hl0 := (T0.b 3 rfl).lt
    go_upto_region 3 with fail
    go_cut [7] (fun p wx => CutN w wx [[.bool s4, .slice o4 n4 c4], [.bool s5, .slice o5 n5 c5], [.bool s6, .slice o6 n6 c6], [.bool false, .slice none 0 0, .bool false, .slice none 0 0, .bool false, .slice none 0 0]] (Int.gcd (Int.gcd x y : Int) z : Int) k (w.heap.size + 4) p ∧ IsNum wx s4 o4 n4 c4 d4 X k ∧ IsNum wx s5 o5 n5 c5 d5 Y k ∧ IsNum wx s6 o6 n6 c6 d6 Z k)
    case first =>
      go_region_held3 (fun w' => w'.cell? ⟨w.heap.size, 0, none⟩ = some (.bool s4) ∧ w'.cell? ⟨w.heap.size, 1, none⟩ = some (.slice o4 n4 c4) ∧ w'.cell? ⟨w.heap.size + 1, 0, none⟩ = some (.bool s5) ∧ w'.cell? ⟨w.heap.size + 1, 1, none⟩ = some (.slice o5 n5 c5) ∧ w'.cell? ⟨w.heap.size + 2, 0, none⟩ = some (.bool s6) ∧ w'.cell? ⟨w.heap.size + 2, 1, none⟩ = some (.slice o6 n6 c6)) ((refine m3_cells ?_ <;> repeat (first | (with_reducible exact T0) | (with_reducible refine ArgsB.drew ?_) | (with_reducible refine ArgsB.alloc ?_ _) | (with_reducible refine ArgsB.set2g ?_ (by simp; omega) _ _))))
        (first
          | (go_at_call 107; have _t := tok1; refine (gcd_any s4 s5 o4 o5 n4 n5 c4 c5 k d4 d5 _ _ _ (by first | (with_reducible exact N1) | (with_reducible exact N1.drew) | (with_reducible exact N1.alloc _) | (with_reducible exact (N1.alloc _).drew)) (by first | (with_reducible exact N2) | (with_reducible exact N2.drew) | (with_reducible exact N2.alloc _) | (with_reducible exact (N2.alloc _).drew)) (by omega)).mono ?_; rintro e k1 ⟨s7, o7, n7, c7, d7, rfl, N7, hB⟩; (first | (have T1 : ArgsB w k1 _ := (by with_reducible exact T0.step hB); have tltk1 := (T0.b 3 rfl).lt; replace N1 := N1.below hB; replace N2 := N2.below hB; replace N3 := N3.below hB; (try (replace G0 := G0.step hB; obtain ⟨j0c, j0f, j1c, j1f⟩ := G0.cf2; have jlt := G0.lt))) | (have T1 : ArgsB w k1 _ := (by with_reducible exact T0.drew.step hB); have tltk1 := (T0.b 3 rfl).lt; replace N1 := N1.drew.below hB; replace N2 := N2.drew.below hB; replace N3 := N3.drew.below hB; (try (replace G0 := G0.drew.step hB; obtain ⟨j0c, j0f, j1c, j1f⟩ := G0.cf2; have jlt := G0.lt))) | (have T1 : ArgsB w k1 _ := (by with_reducible exact (T0.alloc _).step hB); have tltk1 := (T0.b 3 rfl).lt; replace N1 := (N1.alloc _).below hB; replace N2 := (N2.alloc _).below hB; replace N3 := (N3.alloc _).below hB; (have G0 := (Blk.new _ [.bool false, .slice none 0 0] _ rfl).step hB; obtain ⟨j0c, j0f, j1c, j1f⟩ := G0.cf2; have jlt := G0.lt)) | (have T1 : ArgsB w k1 _ := (by with_reducible exact (T0.alloc _).drew.step hB); have tltk1 := (T0.b 3 rfl).lt; replace N1 := (N1.alloc _).drew.below hB; replace N2 := (N2.alloc _).drew.below hB; replace N3 := (N3.alloc _).drew.below hB; (have G0 := (Blk.new _ [.bool false, .slice none 0 0] _ rfl).drew.step hB; obtain ⟨j0c, j0f, j1c, j1f⟩ := G0.cf2; have jlt := G0.lt))); clear T0; have T0 := T1; clear T1; clear hB tok1 _t)
          | (go_at_call 107; refine (gcd_any s7 s6 o7 o6 n7 n6 c7 c6 k d7 d6 _ _ _ (by first | (with_reducible exact N7) | (with_reducible exact N7.drew) | (with_reducible exact N7.alloc _) | (with_reducible exact (N7.alloc _).drew)) (by first | (with_reducible exact N3) | (with_reducible exact N3.drew) | (with_reducible exact N3.alloc _) | (with_reducible exact (N3.alloc _).drew)) (by omega)).mono ?_; rintro e k2 ⟨s8, o8, n8, c8, d8, rfl, N8, hB⟩; (first | (have T1 : ArgsB w k2 _ := (by with_reducible exact T0.step hB); have tltk2 := (T0.b 3 rfl).lt; replace N1 := N1.below hB; replace N2 := N2.below hB; replace N3 := N3.below hB; (try (replace G0 := G0.step hB; obtain ⟨j0c, j0f, j1c, j1f⟩ := G0.cf2; have jlt := G0.lt))) | (have T1 : ArgsB w k2 _ := (by with_reducible exact T0.drew.step hB); have tltk2 := (T0.b 3 rfl).lt; replace N1 := N1.drew.below hB; replace N2 := N2.drew.below hB; replace N3 := N3.drew.below hB; (try (replace G0 := G0.drew.step hB; obtain ⟨j0c, j0f, j1c, j1f⟩ := G0.cf2; have jlt := G0.lt))) | (have T1 : ArgsB w k2 _ := (by with_reducible exact (T0.alloc _).step hB); have tltk2 := (T0.b 3 rfl).lt; replace N1 := (N1.alloc _).below hB; replace N2 := (N2.alloc _).below hB; replace N3 := (N3.alloc _).below hB; (have G0 := (Blk.new _ [.bool false, .slice none 0 0] _ rfl).step hB; obtain ⟨j0c, j0f, j1c, j1f⟩ := G0.cf2; have jlt := G0.lt)) | (have T1 : ArgsB w k2 _ := (by with_reducible exact (T0.alloc _).drew.step hB); have tltk2 := (T0.b 3 rfl).lt; replace N1 := (N1.alloc _).drew.below hB; replace N2 := (N2.alloc _).drew.below hB; replace N3 := (N3.alloc _).drew.below hB; (have G0 := (Blk.new _ [.bool false, .slice none 0 0] _ rfl).drew.step hB; obtain ⟨j0c, j0f, j1c, j1f⟩ := G0.cf2; have jlt := G0.lt))); clear T0; have T0 := T1; clear T1; clear hB; rw [e4] at N8))
      all_goals go_wp2_with fail
      all_goals go_meet
      all_goals have hl := (T0.b 3 rfl).lt
      all_goals first | (with_reducible exact ⟨cutN_new T0 N8 (by omega), N1.alloc _, N2.alloc _, N3.alloc _⟩) | (with_reducible exact ⟨cutN_set T0 N8 G0 (by omega) (by simp; omega), N1.set2 G0 _ _, N2.set2 G0 _ _, N3.set2 G0 _ _⟩)
    case rest =>
     clear T0 N1 N2 N3 hl0 tok1
     obtain ⟨⟨gb, s7, o7, n7, c7, d7, hp, hgb, GB, N7, T0⟩, N1, N2, N3⟩ := hcut
     subst hp
     go_upto_region 4 with fail
     obtain ⟨q, hq⟩ : ∃ q, cmpI (Int.gcd (Int.gcd x y : Int) z : Int) 1 = q := ⟨_, rfl⟩
     go_cut [24] (fun p wx => p = .bool (!(q == 0)) ∧ ArgsB w wx [[.bool s4, .slice o4 n4 c4], [.bool s5, .slice o5 n5 c5], [.bool s6, .slice o6 n6 c6], [.bool false, .slice none 0 0, .bool false, .slice none 0 0, .bool false, .slice none 0 0]] ∧ Blk wx gb [.bool s7, .slice o7 n7 c7] ∧ IsNum wx s4 o4 n4 c4 d4 X k ∧ IsNum wx s5 o5 n5 c5 d5 Y k ∧ IsNum wx s6 o6 n6 c6 d6 Z k ∧ IsNum wx s7 o7 n7 c7 d7 (Int.gcd (Int.gcd x y : Int) z : Int) k)
     case first =>
       replace N7 := N7.drew; replace N1 := N1.drew; replace N2 := N2.drew; replace N3 := N3.drew; replace T0 := T0.drew
       go_region_held3 (fun w' => w'.cell? ⟨gb, 0, none⟩ = some (.bool s7) ∧ w'.cell? ⟨gb, 1, none⟩ = some (.slice o7 n7 c7)) ((refine mk_cells ?_ <;> repeat (first | (with_reducible exact GB) | (with_reducible refine Blk.drew ?_))))
         (first
           | (go_at_call 91; refine (int_any 1 _ (by decide) (by decide)).mono ?_; rintro e w4 ⟨s9, o9, n9, c9, d9, rfl, N9, hB⟩; replace GB := GB.drew.step hB; replace T0 := T0.step hB; replace N1 := N1.step hB; replace N2 := N2.step hB; replace N3 := N3.step hB; replace N7 := N7.step hB; clear hB)
           | (go_at_call 106; refine (cmp_any s7 s9 o7 o9 n7 n9 c7 c9 k d7 d9 _ _ _ N7 (num_more N9 hk) (by omega)).mono ?_; rintro e w5 ⟨rfl, hB⟩; rw [hq]; replace GB := GB.step hB; replace T0 := T0.step hB; replace N1 := N1.step hB; replace N2 := N2.step hB; replace N3 := N3.step hB; replace N7 := N7.step hB; clear hB))
       all_goals go_wp2_with fail
       all_goals go_meet
       all_goals exact ⟨rfl, T0, GB, N1, N2, N3, N7⟩
     case rest =>
       clear T0 N1 N2 N3 N7 GB
       obtain ⟨rfl, T0, GB, N1, N2, N3, N7⟩ := hcut
       rename_i hk'
       refine hk' _ _ ?_
       have hlb := GB.lt
       go_cut [] (fun wx => CutT3 w wx (shareZ x (Int.gcd (Int.gcd x y : Int) z : Int) (decide (z < 0))) (shareZ y (Int.gcd (Int.gcd x y : Int) z : Int) (decide (z < 0))) (shareZ z (Int.gcd (Int.gcd x y : Int) z : Int) (decide (z < 0))) (k + 3))
       case first =>
         by_cases h1 : (Int.gcd (Int.gcd x y : Int) z : Int) = 1
         · obtain rfl : q = 0 := by rw [← hq, h1]; decide
           have f1 : X = shareZ x (Int.gcd (Int.gcd x y : Int) z : Int) (decide (z < 0)) := by rw [← e1, h1, Int.ediv_one]
           have f2 : Y = shareZ y (Int.gcd (Int.gcd x y : Int) z : Int) (decide (z < 0)) := by rw [← e2, h1, Int.ediv_one]
           have f3 : Z = shareZ z (Int.gcd (Int.gcd x y : Int) z : Int) (decide (z < 0)) := by rw [← e3, h1, Int.ediv_one]
           rw [f1] at N1
           rw [f2] at N2
           rw [f3] at N3
           go_wp2_with fail
           go_meet
           case rel => exact ⟨s4, o4, n4, c4, d4, s5, o5, n5, c5, d5, s6, o6, n6, c6, d6, T0, num_more N1 (by omega), num_more N2 (by omega), num_more N3 (by omega)⟩
         · have hq1 : (!(q == 0)) = true := by
             have h3 : q ≠ 0 := by
               rw [← hq, cmpI_gt (by omega)]
               decide
             simp [h3]
           rw [hq1]
           have aB : Blk _ (w.heap.size) _ := T0.b 0 rfl; obtain ⟨a0c, a0f, a1c, a1f⟩ := aB.cf2; have alt := aB.lt; clear aB; have bB : Blk _ (w.heap.size + 1) _ := T0.b 1 rfl; obtain ⟨b0c, b0f, b1c, b1f⟩ := bB.cf2; have blt := bB.lt; clear bB; have eB : Blk _ (w.heap.size + 1 + 1) _ := T0.b 2 rfl; obtain ⟨e0c, e0f, e1c, e1f⟩ := eB.cf2; have elt := eB.lt; clear eB
           obtain ⟨g0c, g1c⟩ := GB.cs2
           go_wp2_with fail
           refine (div_any s4 s7 o4 o7 n4 n7 c4 c7 k d4 d7 _ _ _ N1 N7 (by omega) (by omega)).mono ?_
           rintro e u0 ⟨s10, o10, n10, c10, d10, sr0, or0, nr0, cr0, dr0, rfl, M0, -, hB⟩
           rw [e1] at M0
           replace T0 := T0.step hB; replace GB := GB.step hB; replace N7 := N7.step hB; replace N2 := N2.step hB; replace N3 := N3.step hB
           clear hB g0c g1c N1 a0c a0f a1c a1f alt b0c b0f b1c b1f blt e0c e0f e1c e1f elt
           have aB : Blk _ (w.heap.size) _ := T0.b 0 rfl; obtain ⟨a0c, a0f, a1c, a1f⟩ := aB.cf2; have alt := aB.lt; clear aB; have bB : Blk _ (w.heap.size + 1) _ := T0.b 1 rfl; obtain ⟨b0c, b0f, b1c, b1f⟩ := bB.cf2; have blt := bB.lt; clear bB; have eB : Blk _ (w.heap.size + 1 + 1) _ := T0.b 2 rfl; obtain ⟨e0c, e0f, e1c, e1f⟩ := eB.cf2; have elt := eB.lt; clear eB
           go_upto_region 6 with fail
           clear a0c a0f a1c a1f alt b0c b0f b1c b1f blt e0c e0f e1c e1f elt
           have RB : Blk u0 (w.heap.size) _ := T0.b 0 rfl
           replace M0 := num_put M0 RB (.bool s10) (.slice o10 n10 c10)
           replace N2 := num_put N2 RB (.bool s10) (.slice o10 n10 c10)
           replace N3 := num_put N3 RB (.bool s10) (.slice o10 n10 c10)
           replace N7 := num_put N7 RB (.bool s10) (.slice o10 n10 c10)
           replace GB := GB.set2 (g := w.heap.size) (v0 := .bool s10) (v1 := .slice o10 n10 c10) (by omega)
           replace T0 := T0.w0 (u0 := .bool s10) (u1 := .slice o10 n10 c10)
           clear RB
           generalize ((u0.setCell ⟨w.heap.size, 0, none⟩ (.bool s10)).setCell ⟨w.heap.size, 1, none⟩ (.slice o10 n10 c10)) = U0 at *

           have aB : Blk _ (w.heap.size) _ := T0.b 0 rfl; obtain ⟨a0c, a0f, a1c, a1f⟩ := aB.cf2; have alt := aB.lt; clear aB; have bB : Blk _ (w.heap.size + 1) _ := T0.b 1 rfl; obtain ⟨b0c, b0f, b1c, b1f⟩ := bB.cf2; have blt := bB.lt; clear bB; have eB : Blk _ (w.heap.size + 1 + 1) _ := T0.b 2 rfl; obtain ⟨e0c, e0f, e1c, e1f⟩ := eB.cf2; have elt := eB.lt; clear eB
           obtain ⟨g0c, g1c⟩ := GB.cs2
           go_wp2_with fail
           refine (div_any s5 s7 o5 o7 n5 n7 c5 c7 k d5 d7 _ _ _ N2 N7 (by omega) (by omega)).mono ?_
           rintro e u1 ⟨s11, o11, n11, c11, d11, sr1, or1, nr1, cr1, dr1, rfl, M1, -, hB⟩
           rw [e2] at M1
           replace T0 := T0.step hB; replace GB := GB.step hB; replace N7 := N7.step hB; replace M0 := M0.step hB; replace N3 := N3.step hB
           clear hB g0c g1c N2 a0c a0f a1c a1f alt b0c b0f b1c b1f blt e0c e0f e1c e1f elt
           have aB : Blk _ (w.heap.size) _ := T0.b 0 rfl; obtain ⟨a0c, a0f, a1c, a1f⟩ := aB.cf2; have alt := aB.lt; clear aB; have bB : Blk _ (w.heap.size + 1) _ := T0.b 1 rfl; obtain ⟨b0c, b0f, b1c, b1f⟩ := bB.cf2; have blt := bB.lt; clear bB; have eB : Blk _ (w.heap.size + 1 + 1) _ := T0.b 2 rfl; obtain ⟨e0c, e0f, e1c, e1f⟩ := eB.cf2; have elt := eB.lt; clear eB
           go_upto_region 7 with fail
           clear a0c a0f a1c a1f alt b0c b0f b1c b1f blt e0c e0f e1c e1f elt
           have RB : Blk u1 (w.heap.size + 1) _ := T0.b 1 rfl
           replace M0 := num_put M0 RB (.bool s11) (.slice o11 n11 c11)
           replace M1 := num_put M1 RB (.bool s11) (.slice o11 n11 c11)
           replace N3 := num_put N3 RB (.bool s11) (.slice o11 n11 c11)
           replace N7 := num_put N7 RB (.bool s11) (.slice o11 n11 c11)
           replace GB := GB.set2 (g := w.heap.size + 1) (v0 := .bool s11) (v1 := .slice o11 n11 c11) (by omega)
           replace T0 := T0.w1 (u0 := .bool s11) (u1 := .slice o11 n11 c11)
           clear RB
           generalize ((u1.setCell ⟨w.heap.size + 1, 0, none⟩ (.bool s11)).setCell ⟨w.heap.size + 1, 1, none⟩ (.slice o11 n11 c11)) = U1 at *

           have aB : Blk _ (w.heap.size) _ := T0.b 0 rfl; obtain ⟨a0c, a0f, a1c, a1f⟩ := aB.cf2; have alt := aB.lt; clear aB; have bB : Blk _ (w.heap.size + 1) _ := T0.b 1 rfl; obtain ⟨b0c, b0f, b1c, b1f⟩ := bB.cf2; have blt := bB.lt; clear bB; have eB : Blk _ (w.heap.size + 1 + 1) _ := T0.b 2 rfl; obtain ⟨e0c, e0f, e1c, e1f⟩ := eB.cf2; have elt := eB.lt; clear eB
           obtain ⟨g0c, g1c⟩ := GB.cs2
           go_wp2_with fail
           refine (div_any s6 s7 o6 o7 n6 n7 c6 c7 k d6 d7 _ _ _ N3 N7 (by omega) (by omega)).mono ?_
           rintro e u2 ⟨s12, o12, n12, c12, d12, sr2, or2, nr2, cr2, dr2, rfl, M2, -, hB⟩
           rw [e3] at M2
           replace T0 := T0.step hB; replace GB := GB.step hB; replace N7 := N7.step hB; replace M0 := M0.step hB; replace M1 := M1.step hB
           clear hB g0c g1c N3 a0c a0f a1c a1f alt b0c b0f b1c b1f blt e0c e0f e1c e1f elt
           have aB : Blk _ (w.heap.size) _ := T0.b 0 rfl; obtain ⟨a0c, a0f, a1c, a1f⟩ := aB.cf2; have alt := aB.lt; clear aB; have bB : Blk _ (w.heap.size + 1) _ := T0.b 1 rfl; obtain ⟨b0c, b0f, b1c, b1f⟩ := bB.cf2; have blt := bB.lt; clear bB; have eB : Blk _ (w.heap.size + 1 + 1) _ := T0.b 2 rfl; obtain ⟨e0c, e0f, e1c, e1f⟩ := eB.cf2; have elt := eB.lt; clear eB

           clear a0c a0f a1c a1f alt b0c b0f b1c b1f blt e0c e0f e1c e1f elt
           have RB : Blk u2 (w.heap.size + 1 + 1) _ := T0.b 2 rfl
           obtain ⟨r0c, r0f, r1c, r1f⟩ := RB.cf2; have rlt := RB.lt
           have M3 := num_put M0 RB (.bool s12) (.slice o12 n12 c12)
           have M4 := num_put M1 RB (.bool s12) (.slice o12 n12 c12)
           have M5 := num_put M2 RB (.bool s12) (.slice o12 n12 c12)
           have T1 := T0.w2 (u0 := .bool s12) (u1 := .slice o12 n12 c12)
           clear M0 M1 M2 T0 RB GB N7
           go_wp2_with fail
           go_meet
           case rel => exact ⟨s10, o10, n10, c10, d10, s11, o11, n11, c11, d11, s12, o12, n12, c12, d12, T1, M3, M4, M5⟩
       case rest =>
         clear T0 N1 N2 N3 N7 GB hk' hlb
         obtain ⟨s10, o10, n10, c10, d10, s11, o11, n11, c11, d11, s12, o12, n12, c12, d12, T0, N1, N2, N3⟩ := hcut
         have aB : Blk _ (w.heap.size) _ := T0.b 0 rfl; obtain ⟨a0c, a0f, a1c, a1f⟩ := aB.cf2; have alt := aB.lt; clear aB; have bB : Blk _ (w.heap.size + 1) _ := T0.b 1 rfl; obtain ⟨b0c, b0f, b1c, b1f⟩ := bB.cf2; have blt := bB.lt; clear bB; have eB : Blk _ (w.heap.size + 1 + 1) _ := T0.b 2 rfl; obtain ⟨e0c, e0f, e1c, e1f⟩ := eB.cf2; have elt := eB.lt; clear eB
         have R0 : Blk _ (w.heap.size + 1 + 1 + 1) _ := T0.b 3 rfl
         obtain ⟨r0c, r0f, r1c, r1f, r2c, r2f, r3c, r3f, r4c, r4f, r5c, r5f⟩ := R0.cf6
         have rlt := R0.lt
         have HB := T0.below
         have M1 := num_set6 N1 R0 (.bool s10) (.slice o10 n10 c10) (.bool s11) (.slice o11 n11 c11) (.bool s12) (.slice o12 n12 c12)
         have M2 := num_set6 N2 R0 (.bool s10) (.slice o10 n10 c10) (.bool s11) (.slice o11 n11 c11) (.bool s12) (.slice o12 n12 c12)
         have M3 := num_set6 N3 R0 (.bool s10) (.slice o10 n10 c10) (.bool s11) (.slice o11 n11 c11) (.bool s12) (.slice o12 n12 c12)
         clear T0 N1 N2 N3 R0
         go_wp2
         refine bodyPost_ret (v := .agg #[.bool s10, .slice o10 n10 c10, .bool s11, .slice o11 n11 c11, .bool s12, .slice o12 n12 c12]) (by simp [results, Tryz.results94, go_sem, r0c, r1c, r2c, r3c, r4c, r5c]) rfl ?_
         refine ⟨s10, o10, n10, c10, d10, s11, o11, n11, c11, d11, s12, o12, n12, c12, d12, rfl, M1, M2, M3, ?_⟩
         repeat' (refine Below.setCell ?_ (by simp; try omega) _)
         exact HB
end Go.Proofs.YteakhlipmmfilaaGreat

/- Where two segments meet: the program's walk. -/
namespace Go.Proofs.YteakhlipmmfilaaGreat
open Go.RowKit
theorem sizeS_det (n : Int) (h0 : -9223372036854775807 ≤ n) (h1 : n ≤ 9223372036854775807) (w : World) : Calls Tryz.prog 174 #[.int .i64 n] w (VP (.int .u64 (n.natAbs : Int)) w) := by
  by_cases h : 0 ≤ n
  · have e1 : max n (-n) = n := by omega
    have e2 : (n.natAbs : Int) = n := by omega
    rw [e2]
    go_enter Tryz.func174, Tryz.ntmps174
    go_wp2
    go_ret
    exact ⟨rfl, Below.refl _ _⟩
  · have e1 : max n (-n) = -n := by omega
    have e2 : (n.natAbs : Int) = -n := by omega
    rw [e2]
    go_enter Tryz.func174, Tryz.ntmps174
    go_wp2
    go_ret
    exact ⟨rfl, Below.refl _ _⟩
theorem gcd_3a (x y z : Int) : Int.gcd (y.natAbs : Int) (Int.gcd (x.natAbs : Int) (z.natAbs : Int) : Int) = Int.gcd (Int.gcd x y : Int) z := by
  unfold Int.gcd
  simp only [Int.natAbs_natCast]
  rw [Nat.gcd_assoc, Nat.gcd_left_comm]
theorem gcd3_dvd (x y z : Int) : (Int.gcd (Int.gcd x y : Int) z : Int) ∣ x ∧ (Int.gcd (Int.gcd x y : Int) z : Int) ∣ y ∧ (Int.gcd (Int.gcd x y : Int) z : Int) ∣ z := by
  have h1 : (Int.gcd (Int.gcd x y : Int) z : Int) ∣ (Int.gcd x y : Int) := Int.gcd_dvd_left _ _
  exact ⟨Int.dvd_trans h1 (Int.gcd_dvd_left _ _), Int.dvd_trans h1 (Int.gcd_dvd_right _ _), Int.gcd_dvd_right _ _⟩
theorem tdiv_share {n g z : Int} (hg : 0 < g) (hd : g ∣ n) : n.tdiv (if z < 0 then -g else g) = shareZ n g (decide (z < 0)) := by
  obtain ⟨k, rfl⟩ := hd
  have e : ((g * k).natAbs : Int) / g = (k.natAbs : Int) := by
    rw [Int.natAbs_mul, Int.natCast_mul, show ((g.natAbs : Nat) : Int) = g by omega]
    exact Int.mul_ediv_cancel_left _ (by omega)
  have s1 : g * k < 0 ↔ k < 0 := by
    constructor
    · intro h
      apply Decidable.byContradiction
      intro h'
      have := Int.mul_nonneg (a := g) (b := k) (by omega) (by omega)
      omega
    · intro h
      exact Int.mul_neg_of_pos_of_neg hg h
  unfold shareZ
  rw [e]
  by_cases hz : z < 0
  · rw [if_pos hz, decide_eq_true hz, Int.tdiv_neg, Int.mul_tdiv_cancel_left _ (by omega)]
    by_cases hk : k < 0
    · rw [decide_eq_true (s1.2 hk), if_neg (by decide)]; omega
    · rw [decide_eq_false (fun h => hk (s1.1 h)), if_pos (by decide)]; omega
  · rw [if_neg hz, decide_eq_false hz, Int.mul_tdiv_cancel_left _ (by omega)]
    by_cases hk : k < 0
    · rw [decide_eq_true (s1.2 hk), if_pos (by decide)]; omega
    · rw [decide_eq_false (fun h => hk (s1.1 h)), if_neg (by decide)]; omega
theorem share_abs {n g : Int} {b : Bool} (hg : 0 < g) : -(n.natAbs : Int) ≤ shareZ n g b ∧ shareZ n g b ≤ (n.natAbs : Int) := by
  have h1 := Int.ediv_nonneg (a := (n.natAbs : Int)) (b := g) (by omega) (by omega)
  have h2 := Int.ediv_le_self (a := (n.natAbs : Int)) g (by omega)
  unfold shareZ
  split <;> omega
set_option maxRecDepth 100000 in
set_option maxHeartbeats 4000000 in
theorem smallPoint_det (x y z : Int) (hx : -9000000000000000000 ≤ x ∧ x ≤ 9000000000000000000) (hy : -9000000000000000000 ≤ y ∧ y ≤ 9000000000000000000) (hz : -8000000000000 ≤ z ∧ z ≤ 8000000000000) (h0 : z ≠ 0) (w : World) : Calls Tryz.prog 139 #[.int .i64 x, .int .i64 y, .int .i64 z] w (VP (.agg #[.int .u64 (ww3 (shareZ x (Int.gcd (Int.gcd x y : Int) z : Int) (decide (z < 0)))), .int .u64 (ww2 (shareZ x (Int.gcd (Int.gcd x y : Int) z : Int) (decide (z < 0)))), .int .u64 (ww1 (shareZ x (Int.gcd (Int.gcd x y : Int) z : Int) (decide (z < 0)))), .int .u64 (ww0 (shareZ x (Int.gcd (Int.gcd x y : Int) z : Int) (decide (z < 0)))), .int .u64 (ww3 (shareZ y (Int.gcd (Int.gcd x y : Int) z : Int) (decide (z < 0)))), .int .u64 (ww2 (shareZ y (Int.gcd (Int.gcd x y : Int) z : Int) (decide (z < 0)))), .int .u64 (ww1 (shareZ y (Int.gcd (Int.gcd x y : Int) z : Int) (decide (z < 0)))), .int .u64 (ww0 (shareZ y (Int.gcd (Int.gcd x y : Int) z : Int) (decide (z < 0)))), .int .u64 (ww3 (shareZ z (Int.gcd (Int.gcd x y : Int) z : Int) (decide (z < 0)))), .int .u64 (ww2 (shareZ z (Int.gcd (Int.gcd x y : Int) z : Int) (decide (z < 0)))), .int .u64 (ww1 (shareZ z (Int.gcd (Int.gcd x y : Int) z : Int) (decide (z < 0)))), .int .u64 (ww0 (shareZ z (Int.gcd (Int.gcd x y : Int) z : Int) (decide (z < 0))))]) w) := by
  have gp : 0 < Int.gcd (Int.gcd x y : Int) z := Int.gcd_pos_of_ne_zero_right _ h0
  have gpI : (0 : Int) < (Int.gcd (Int.gcd x y : Int) z : Int) := by omega
  obtain ⟨d1, d2, d3⟩ := gcd3_dvd x y z
  have gz : (Int.gcd (Int.gcd x y : Int) z : Int) ≤ (z.natAbs : Int) := Int.le_of_dvd (by omega) (Int.dvd_natAbs.2 d3)
  have gx : Int.gcd (x.natAbs : Int) (z.natAbs : Int) ≤ z.natAbs := Nat.gcd_le_right _ (by omega)
  have S1 := sizeS_det x (by omega) (by omega)
  have S2 := sizeS_det y (by omega) (by omega)
  have S3 := sizeS_det z (by omega) (by omega)
  have C1 := gcdW_any (x.natAbs : Int) (z.natAbs : Int) ⟨by omega, by omega⟩ ⟨by omega, by omega⟩
  have C2 := gcdW_any (y.natAbs : Int) (Int.gcd (x.natAbs : Int) (z.natAbs : Int) : Int) ⟨by omega, by omega⟩ ⟨by omega, by omega⟩
  unfold GcdWP at C1 C2
  rw [gcd_3a] at C2
  have q1 := share_abs (n := x) (b := decide (z < 0)) gpI; have q2 := share_abs (n := y) (b := decide (z < 0)) gpI; have q3 := share_abs (n := z) (b := decide (z < 0)) gpI
  have t1 := tdiv_share (z := z) gpI d1; have t2 := tdiv_share (z := z) gpI d2; have t3 := tdiv_share (z := z) gpI d3
  generalize (shareZ x (Int.gcd (Int.gcd x y : Int) z : Int) (decide (z < 0))) = sx at *
  generalize (shareZ y (Int.gcd (Int.gcd x y : Int) z : Int) (decide (z < 0))) = sy at *
  generalize (shareZ z (Int.gcd (Int.gcd x y : Int) z : Int) (decide (z < 0))) = sz at *
  clear d1 d2 d3 gp
  generalize (Int.gcd (Int.gcd x y : Int) z : Int) = gg at *
  generalize (Int.gcd (x.natAbs : Int) (z.natAbs : Int) : Int) = g1 at *
  have B0 := Blk.new w [.int .u64 0, .int .u64 0, .int .u64 0, .int .u64 0, .int .u64 0, .int .u64 0, .int .u64 0, .int .u64 0, .int .u64 0, .int .u64 0, .int .u64 0, .int .u64 0] 44 rfl
  have HB : Below w.heap.size w (w.alloc (.cells #[.int .u64 0, .int .u64 0, .int .u64 0, .int .u64 0, .int .u64 0, .int .u64 0, .int .u64 0, .int .u64 0, .int .u64 0, .int .u64 0, .int .u64 0, .int .u64 0] 44)) := (Below.refl _ _).alloc (Nat.le_refl _) _
  have zb : (z.natAbs : Int) ≤ 8000000000000 := by omega
  have xb : (x.natAbs : Int) ≤ 9000000000000000000 := by omega
  have yb : (y.natAbs : Int) ≤ 9000000000000000000 := by omega
  generalize (x.natAbs : Int) = ax at *
  generalize (y.natAbs : Int) = ay at *
  generalize (z.natAbs : Int) = az at *
  by_cases hz0 : z < 0
  · rw [if_pos hz0] at t1 t2 t3
    have t1' : -(x.tdiv gg) = sx := by rw [← Int.tdiv_neg]; exact t1
    have t2' : -(y.tdiv gg) = sy := by rw [← Int.tdiv_neg]; exact t2
    have t3' : -(z.tdiv gg) = sz := by rw [← Int.tdiv_neg]; exact t3
    go_enter Tryz.func139, Tryz.ntmps139
    go_wp2_with fail
    refine (S1 _).mono ?_
    rintro e w1 ⟨rfl, hB⟩
    replace B0 := B0.step hB; replace HB := HB.trans (hB.mono HB.size)
    clear hB
    go_wp2_with fail
    refine (S3 _).mono ?_
    rintro e w2 ⟨rfl, hB⟩
    replace B0 := B0.step hB; replace HB := HB.trans (hB.mono HB.size)
    clear hB
    go_wp2_with fail
    refine (C1 _).mono ?_
    rintro e w3 ⟨rfl, hB⟩
    replace B0 := B0.step hB; replace HB := HB.trans (hB.mono HB.size)
    clear hB
    go_wp2_with fail
    refine (S2 _).mono ?_
    rintro e w4 ⟨rfl, hB⟩
    replace B0 := B0.step hB; replace HB := HB.trans (hB.mono HB.size)
    clear hB
    go_wp2_with fail
    refine (C2 _).mono ?_
    rintro e w5 ⟨rfl, hB⟩
    replace B0 := B0.step hB; replace HB := HB.trans (hB.mono HB.size)
    clear hB
    have hB0 : (-gg) ≠ 0 := by omega
    have O1 := fun w => implOf_det sx w (by omega) (by omega)
    have O2 := fun w => implOf_det sy w (by omega) (by omega)
    have O3 := fun w => implOf_det sz w (by omega) (by omega)
    have tok1 : True := trivial
    have tok2 : True := trivial
    go_upto_region 5 with fail
    have hw1 : IntKind.i64.wrap sx = sx := wrapI (by omega) (by omega)
    have hw2 : IntKind.i64.wrap sy = sy := wrapI (by omega) (by omega)
    have hw3 : IntKind.i64.wrap sz = sz := wrapI (by omega) (by omega)
    clear q1 q2 q3 gz gx zb xb yb S1 S2 S3 C1 C2
    go_region_held3 (fun _ => True) (trivial)
      (first
        | (go_at_call 159; have _t := tok1; refine (O1 _).mono ?_; rintro e w6 ⟨rfl, hB⟩; (first | (replace B0 := B0.step hB; replace HB := HB.trans (hB.mono HB.size)) | (replace B0 := B0.drew.step hB; replace HB := HB.drew.trans (hB.mono HB.drew.size))); clear hB; clear tok1 _t)
        | (go_at_call 159; have _t := tok2; refine (O2 _).mono ?_; rintro e w7 ⟨rfl, hB⟩; (first | (replace B0 := B0.step hB; replace HB := HB.trans (hB.mono HB.size)) | (replace B0 := B0.drew.step hB; replace HB := HB.drew.trans (hB.mono HB.drew.size))); clear hB; clear tok2 _t)
        | (go_at_call 159; refine (O3 _).mono ?_; rintro e w8 ⟨rfl, hB⟩; (first | (replace B0 := B0.step hB; replace HB := HB.trans (hB.mono HB.size)) | (replace B0 := B0.drew.step hB; replace HB := HB.drew.trans (hB.mono HB.drew.size))); clear hB; have oc0 := B0.c 0 rfl; have of0 := B0.f 0 rfl; have oc1 := B0.c 1 rfl; have of1 := B0.f 1 rfl; have oc2 := B0.c 2 rfl; have of2 := B0.f 2 rfl; have oc3 := B0.c 3 rfl; have of3 := B0.f 3 rfl; have oc4 := B0.c 4 rfl; have of4 := B0.f 4 rfl; have oc5 := B0.c 5 rfl; have of5 := B0.f 5 rfl; have oc6 := B0.c 6 rfl; have of6 := B0.f 6 rfl; have oc7 := B0.c 7 rfl; have of7 := B0.f 7 rfl; have oc8 := B0.c 8 rfl; have of8 := B0.f 8 rfl; have oc9 := B0.c 9 rfl; have of9 := B0.f 9 rfl; have oc10 := B0.c 10 rfl; have of10 := B0.f 10 rfl; have oc11 := B0.c 11 rfl; have of11 := B0.f 11 rfl; have ol := B0.lt))
    all_goals clear B0
    all_goals go_wp2
    all_goals refine bodyPost_ret (v := .agg #[.int .u64 (ww3 sx), .int .u64 (ww2 sx), .int .u64 (ww1 sx), .int .u64 (ww0 sx), .int .u64 (ww3 sy), .int .u64 (ww2 sy), .int .u64 (ww1 sy), .int .u64 (ww0 sy), .int .u64 (ww3 sz), .int .u64 (ww2 sz), .int .u64 (ww1 sz), .int .u64 (ww0 sz)]) (by simp [results, Tryz.results139, go_sem, oc0, oc1, oc2, oc3, oc4, oc5, oc6, oc7, oc8, oc9, oc10, oc11]) rfl ?_
    all_goals refine ⟨rfl, ?_⟩
    all_goals repeat' (refine Below.setCell ?_ (by simp) _)
    all_goals first | exact HB | exact HB.drew
  · rw [if_neg hz0] at t1 t2 t3
    go_enter Tryz.func139, Tryz.ntmps139
    go_wp2_with fail
    refine (S1 _).mono ?_
    rintro e w1 ⟨rfl, hB⟩
    replace B0 := B0.step hB; replace HB := HB.trans (hB.mono HB.size)
    clear hB
    go_wp2_with fail
    refine (S3 _).mono ?_
    rintro e w2 ⟨rfl, hB⟩
    replace B0 := B0.step hB; replace HB := HB.trans (hB.mono HB.size)
    clear hB
    go_wp2_with fail
    refine (C1 _).mono ?_
    rintro e w3 ⟨rfl, hB⟩
    replace B0 := B0.step hB; replace HB := HB.trans (hB.mono HB.size)
    clear hB
    go_wp2_with fail
    refine (S2 _).mono ?_
    rintro e w4 ⟨rfl, hB⟩
    replace B0 := B0.step hB; replace HB := HB.trans (hB.mono HB.size)
    clear hB
    go_wp2_with fail
    refine (C2 _).mono ?_
    rintro e w5 ⟨rfl, hB⟩
    replace B0 := B0.step hB; replace HB := HB.trans (hB.mono HB.size)
    clear hB
    have hB0 : gg ≠ 0 := by omega
    have O1 := fun w => implOf_det sx w (by omega) (by omega)
    have O2 := fun w => implOf_det sy w (by omega) (by omega)
    have O3 := fun w => implOf_det sz w (by omega) (by omega)
    have tok1 : True := trivial
    have tok2 : True := trivial
    go_upto_region 5 with fail
    have hw1 : IntKind.i64.wrap sx = sx := wrapI (by omega) (by omega)
    have hw2 : IntKind.i64.wrap sy = sy := wrapI (by omega) (by omega)
    have hw3 : IntKind.i64.wrap sz = sz := wrapI (by omega) (by omega)
    clear q1 q2 q3 gz gx zb xb yb S1 S2 S3 C1 C2
    go_region_held3 (fun _ => True) (trivial)
      (first
        | (go_at_call 159; have _t := tok1; refine (O1 _).mono ?_; rintro e w6 ⟨rfl, hB⟩; (first | (replace B0 := B0.step hB; replace HB := HB.trans (hB.mono HB.size)) | (replace B0 := B0.drew.step hB; replace HB := HB.drew.trans (hB.mono HB.drew.size))); clear hB; clear tok1 _t)
        | (go_at_call 159; have _t := tok2; refine (O2 _).mono ?_; rintro e w7 ⟨rfl, hB⟩; (first | (replace B0 := B0.step hB; replace HB := HB.trans (hB.mono HB.size)) | (replace B0 := B0.drew.step hB; replace HB := HB.drew.trans (hB.mono HB.drew.size))); clear hB; clear tok2 _t)
        | (go_at_call 159; refine (O3 _).mono ?_; rintro e w8 ⟨rfl, hB⟩; (first | (replace B0 := B0.step hB; replace HB := HB.trans (hB.mono HB.size)) | (replace B0 := B0.drew.step hB; replace HB := HB.drew.trans (hB.mono HB.drew.size))); clear hB; have oc0 := B0.c 0 rfl; have of0 := B0.f 0 rfl; have oc1 := B0.c 1 rfl; have of1 := B0.f 1 rfl; have oc2 := B0.c 2 rfl; have of2 := B0.f 2 rfl; have oc3 := B0.c 3 rfl; have of3 := B0.f 3 rfl; have oc4 := B0.c 4 rfl; have of4 := B0.f 4 rfl; have oc5 := B0.c 5 rfl; have of5 := B0.f 5 rfl; have oc6 := B0.c 6 rfl; have of6 := B0.f 6 rfl; have oc7 := B0.c 7 rfl; have of7 := B0.f 7 rfl; have oc8 := B0.c 8 rfl; have of8 := B0.f 8 rfl; have oc9 := B0.c 9 rfl; have of9 := B0.f 9 rfl; have oc10 := B0.c 10 rfl; have of10 := B0.f 10 rfl; have oc11 := B0.c 11 rfl; have of11 := B0.f 11 rfl; have ol := B0.lt))
    all_goals clear B0
    all_goals go_wp2
    all_goals refine bodyPost_ret (v := .agg #[.int .u64 (ww3 sx), .int .u64 (ww2 sx), .int .u64 (ww1 sx), .int .u64 (ww0 sx), .int .u64 (ww3 sy), .int .u64 (ww2 sy), .int .u64 (ww1 sy), .int .u64 (ww0 sy), .int .u64 (ww3 sz), .int .u64 (ww2 sz), .int .u64 (ww1 sz), .int .u64 (ww0 sz)]) (by simp [results, Tryz.results139, go_sem, oc0, oc1, oc2, oc3, oc4, oc5, oc6, oc7, oc8, oc9, oc10, oc11]) rfl ?_
    all_goals refine ⟨rfl, ?_⟩
    all_goals repeat' (refine Below.setCell ?_ (by simp) _)
    all_goals first | exact HB | exact HB.drew
end Go.Proofs.YteakhlipmmfilaaGreat

/- Where two segments meet: the program's walk. -/
namespace Go.Proofs.YteakhlipmmfilaaGreat
open Go.RowKit
/-- Where two right segments meet. -/
def meetW (a b c d p q u v : Int) : Value := if ((b - d) * (u - p) - (q - v) * (c - a)) = 0 then alongV a b c d p q u v else if pt2 (turnZ a b c d p q) (turnZ a b c d u v) && pt2 (turnZ p q u v a b) (turnZ p q u v c d) then .tuple #[.int .i64 1, .agg #[.int .u64 (ww3 (shareZ ((c - a) * (p * v - q * u) - (u - p) * (a * d - b * c)) (Int.gcd (Int.gcd ((c - a) * (p * v - q * u) - (u - p) * (a * d - b * c)) ((a * d - b * c) * (q - v) - (p * v - q * u) * (b - d)) : Int) ((b - d) * (u - p) - (q - v) * (c - a)) : Int) (decide (((b - d) * (u - p) - (q - v) * (c - a)) < 0)))), .int .u64 (ww2 (shareZ ((c - a) * (p * v - q * u) - (u - p) * (a * d - b * c)) (Int.gcd (Int.gcd ((c - a) * (p * v - q * u) - (u - p) * (a * d - b * c)) ((a * d - b * c) * (q - v) - (p * v - q * u) * (b - d)) : Int) ((b - d) * (u - p) - (q - v) * (c - a)) : Int) (decide (((b - d) * (u - p) - (q - v) * (c - a)) < 0)))), .int .u64 (ww1 (shareZ ((c - a) * (p * v - q * u) - (u - p) * (a * d - b * c)) (Int.gcd (Int.gcd ((c - a) * (p * v - q * u) - (u - p) * (a * d - b * c)) ((a * d - b * c) * (q - v) - (p * v - q * u) * (b - d)) : Int) ((b - d) * (u - p) - (q - v) * (c - a)) : Int) (decide (((b - d) * (u - p) - (q - v) * (c - a)) < 0)))), .int .u64 (ww0 (shareZ ((c - a) * (p * v - q * u) - (u - p) * (a * d - b * c)) (Int.gcd (Int.gcd ((c - a) * (p * v - q * u) - (u - p) * (a * d - b * c)) ((a * d - b * c) * (q - v) - (p * v - q * u) * (b - d)) : Int) ((b - d) * (u - p) - (q - v) * (c - a)) : Int) (decide (((b - d) * (u - p) - (q - v) * (c - a)) < 0)))), .int .u64 (ww3 (shareZ ((a * d - b * c) * (q - v) - (p * v - q * u) * (b - d)) (Int.gcd (Int.gcd ((c - a) * (p * v - q * u) - (u - p) * (a * d - b * c)) ((a * d - b * c) * (q - v) - (p * v - q * u) * (b - d)) : Int) ((b - d) * (u - p) - (q - v) * (c - a)) : Int) (decide (((b - d) * (u - p) - (q - v) * (c - a)) < 0)))), .int .u64 (ww2 (shareZ ((a * d - b * c) * (q - v) - (p * v - q * u) * (b - d)) (Int.gcd (Int.gcd ((c - a) * (p * v - q * u) - (u - p) * (a * d - b * c)) ((a * d - b * c) * (q - v) - (p * v - q * u) * (b - d)) : Int) ((b - d) * (u - p) - (q - v) * (c - a)) : Int) (decide (((b - d) * (u - p) - (q - v) * (c - a)) < 0)))), .int .u64 (ww1 (shareZ ((a * d - b * c) * (q - v) - (p * v - q * u) * (b - d)) (Int.gcd (Int.gcd ((c - a) * (p * v - q * u) - (u - p) * (a * d - b * c)) ((a * d - b * c) * (q - v) - (p * v - q * u) * (b - d)) : Int) ((b - d) * (u - p) - (q - v) * (c - a)) : Int) (decide (((b - d) * (u - p) - (q - v) * (c - a)) < 0)))), .int .u64 (ww0 (shareZ ((a * d - b * c) * (q - v) - (p * v - q * u) * (b - d)) (Int.gcd (Int.gcd ((c - a) * (p * v - q * u) - (u - p) * (a * d - b * c)) ((a * d - b * c) * (q - v) - (p * v - q * u) * (b - d)) : Int) ((b - d) * (u - p) - (q - v) * (c - a)) : Int) (decide (((b - d) * (u - p) - (q - v) * (c - a)) < 0)))), .int .u64 (ww3 (shareZ ((b - d) * (u - p) - (q - v) * (c - a)) (Int.gcd (Int.gcd ((c - a) * (p * v - q * u) - (u - p) * (a * d - b * c)) ((a * d - b * c) * (q - v) - (p * v - q * u) * (b - d)) : Int) ((b - d) * (u - p) - (q - v) * (c - a)) : Int) (decide (((b - d) * (u - p) - (q - v) * (c - a)) < 0)))), .int .u64 (ww2 (shareZ ((b - d) * (u - p) - (q - v) * (c - a)) (Int.gcd (Int.gcd ((c - a) * (p * v - q * u) - (u - p) * (a * d - b * c)) ((a * d - b * c) * (q - v) - (p * v - q * u) * (b - d)) : Int) ((b - d) * (u - p) - (q - v) * (c - a)) : Int) (decide (((b - d) * (u - p) - (q - v) * (c - a)) < 0)))), .int .u64 (ww1 (shareZ ((b - d) * (u - p) - (q - v) * (c - a)) (Int.gcd (Int.gcd ((c - a) * (p * v - q * u) - (u - p) * (a * d - b * c)) ((a * d - b * c) * (q - v) - (p * v - q * u) * (b - d)) : Int) ((b - d) * (u - p) - (q - v) * (c - a)) : Int) (decide (((b - d) * (u - p) - (q - v) * (c - a)) < 0)))), .int .u64 (ww0 (shareZ ((b - d) * (u - p) - (q - v) * (c - a)) (Int.gcd (Int.gcd ((c - a) * (p * v - q * u) - (u - p) * (a * d - b * c)) ((a * d - b * c) * (q - v) - (p * v - q * u) * (b - d)) : Int) ((b - d) * (u - p) - (q - v) * (c - a)) : Int) (decide (((b - d) * (u - p) - (q - v) * (c - a)) < 0))))], .agg #[.int .u64 0, .int .u64 0, .int .u64 0, .int .u64 0, .int .u64 0, .int .u64 0, .int .u64 0, .int .u64 0, .int .u64 0, .int .u64 0, .int .u64 0, .int .u64 0]] else .tuple #[.int .i64 0, .agg #[.int .u64 0, .int .u64 0, .int .u64 0, .int .u64 0, .int .u64 0, .int .u64 0, .int .u64 0, .int .u64 0, .int .u64 0, .int .u64 0, .int .u64 0, .int .u64 0], .agg #[.int .u64 0, .int .u64 0, .int .u64 0, .int .u64 0, .int .u64 0, .int .u64 0, .int .u64 0, .int .u64 0, .int .u64 0, .int .u64 0, .int .u64 0, .int .u64 0]]
theorem along_ex (a b c d p q u v : Int) : ∃ (k : Int) (r0 r1 r2 r3 r4 r5 r6 r7 r8 r9 r10 r11 s0 s1 s2 s3 s4 s5 s6 s7 s8 s9 s10 s11 : Int), alongV a b c d p q u v = .tuple #[.int .i64 k, .agg #[.int .u64 r0, .int .u64 r1, .int .u64 r2, .int .u64 r3, .int .u64 r4, .int .u64 r5, .int .u64 r6, .int .u64 r7, .int .u64 r8, .int .u64 r9, .int .u64 r10, .int .u64 r11], .agg #[.int .u64 s0, .int .u64 s1, .int .u64 s2, .int .u64 s3, .int .u64 s4, .int .u64 s5, .int .u64 s6, .int .u64 s7, .int .u64 s8, .int .u64 s9, .int .u64 s10, .int .u64 s11]] := by
  unfold alongV
  generalize (if lessI a b p q = true then p else a) = fx
  generalize (if lessI a b p q = true then q else b) = fy
  generalize (if lessI u v c d = true then u else c) = lx
  generalize (if lessI u v c d = true then v else d) = ly
  split
  · exact ⟨_, _, _, _, _, _, _, _, _, _, _, _, _, _, _, _, _, _, _, _, _, _, _, _, _, rfl⟩
  · split
    · exact ⟨_, _, _, _, _, _, _, _, _, _, _, _, _, _, _, _, _, _, _, _, _, _, _, _, _, rfl⟩
    · exact ⟨_, _, _, _, _, _, _, _, _, _, _, _, _, _, _, _, _, _, _, _, _, _, _, _, _, rfl⟩
theorem meetW_ex (a b c d p q u v : Int) : ∃ (k : Int) (r0 r1 r2 r3 r4 r5 r6 r7 r8 r9 r10 r11 s0 s1 s2 s3 s4 s5 s6 s7 s8 s9 s10 s11 : Int), meetW a b c d p q u v = .tuple #[.int .i64 k, .agg #[.int .u64 r0, .int .u64 r1, .int .u64 r2, .int .u64 r3, .int .u64 r4, .int .u64 r5, .int .u64 r6, .int .u64 r7, .int .u64 r8, .int .u64 r9, .int .u64 r10, .int .u64 r11], .agg #[.int .u64 s0, .int .u64 s1, .int .u64 s2, .int .u64 s3, .int .u64 s4, .int .u64 s5, .int .u64 s6, .int .u64 s7, .int .u64 s8, .int .u64 s9, .int .u64 s10, .int .u64 s11]] := by
  unfold meetW
  split
  · exact along_ex a b c d p q u v
  · split
    · exact ⟨_, _, _, _, _, _, _, _, _, _, _, _, _, _, _, _, _, _, _, _, _, _, _, _, _, rfl⟩
    · exact ⟨_, _, _, _, _, _, _, _, _, _, _, _, _, _, _, _, _, _, _, _, _, _, _, _, _, rfl⟩
set_option maxRecDepth 100000 in
set_option maxHeartbeats 8000000 in
theorem meet_det (a b c d p q u v : Int) (ha : In1 a) (hb : In1 b) (hc : In1 c) (hd : In1 d) (hp : In1 p) (hq : In1 q) (hu : In1 u) (hv : In1 v) (w : World) : Calls Tryz.prog 86 #[Sg a b c d, Sg p q u v] w (VP (meetW a b c d p q u v) w) := by
  have LS := lineOf_det a b c d ha hb hc hd
  have LT := lineOf_det p q u v hp hq hu hv
  obtain ⟨x1, x2⟩ := mul_in (p := a) (q := d) (M := 1000000) (N := 1000000) ha.1 ha.2 hd.1 hd.2
  obtain ⟨x3, x4⟩ := mul_in (p := b) (q := c) (M := 1000000) (N := 1000000) hb.1 hb.2 hc.1 hc.2
  obtain ⟨y1, y2⟩ := mul_in (p := p) (q := v) (M := 1000000) (N := 1000000) hp.1 hp.2 hv.1 hv.2
  obtain ⟨y3, y4⟩ := mul_in (p := q) (q := u) (M := 1000000) (N := 1000000) hq.1 hq.2 hu.1 hu.2
  have i1 : In2 (b - d) := ⟨by omega, by omega⟩
  have i2 : In2 (c - a) := ⟨by omega, by omega⟩
  have i3 : In3 (a * d - b * c) := ⟨by omega, by omega⟩
  have j1 : In2 (q - v) := ⟨by omega, by omega⟩
  have j2 : In2 (u - p) := ⟨by omega, by omega⟩
  have j3 : In3 (p * v - q * u) := ⟨by omega, by omega⟩
  have CR := crossing_det (b - d) (c - a) (a * d - b * c) (q - v) (u - p) (p * v - q * u) i1 i2 i3 j1 j2 j3
  have bX : -9000000000000000000 ≤ ((c - a) * (p * v - q * u) - (u - p) * (a * d - b * c)) ∧ ((c - a) * (p * v - q * u) - (u - p) * (a * d - b * c)) ≤ 9000000000000000000 := by
    have e1 := mul_in (p := c - a) (q := p * v - q * u) (M := 2000000) (N := 2000000000000) i2.1 i2.2 j3.1 j3.2
    have e2 := mul_in (p := u - p) (q := a * d - b * c) (M := 2000000) (N := 2000000000000) j2.1 j2.2 i3.1 i3.2
    omega
  have bY : -9000000000000000000 ≤ ((a * d - b * c) * (q - v) - (p * v - q * u) * (b - d)) ∧ ((a * d - b * c) * (q - v) - (p * v - q * u) * (b - d)) ≤ 9000000000000000000 := by
    have e1 := mul_in (p := a * d - b * c) (q := q - v) (M := 2000000000000) (N := 2000000) i3.1 i3.2 j1.1 j1.2
    have e2 := mul_in (p := p * v - q * u) (q := b - d) (M := 2000000000000) (N := 2000000) j3.1 j3.2 i1.1 i1.2
    omega
  have bW : -8000000000000 ≤ ((b - d) * (u - p) - (q - v) * (c - a)) ∧ ((b - d) * (u - p) - (q - v) * (c - a)) ≤ 8000000000000 := by
    have e1 := mul_in (p := b - d) (q := u - p) (M := 2000000) (N := 2000000) i1.1 i1.2 j2.1 j2.2
    have e2 := mul_in (p := q - v) (q := c - a) (M := 2000000) (N := 2000000) j1.1 j1.2 i2.1 i2.2
    omega
  have SM := smallPoint_det ((c - a) * (p * v - q * u) - (u - p) * (a * d - b * c)) ((a * d - b * c) * (q - v) - (p * v - q * u) * (b - d)) ((b - d) * (u - p) - (q - v) * (c - a)) bX bY bW
  have AL := meetAlong_det a b c d p q u v ha hb hc hd hp hq hu hv
  have P1 := fun g w h => parts2_det a b c d p q u v ha hb hc hd hp hq hu hv g w h
  have P2 := fun g w h => parts2_det p q u v a b c d hp hq hu hv ha hb hc hd g w h
  have HV : Hid (meetW a b c d p q u v = if ((b - d) * (u - p) - (q - v) * (c - a)) = 0 then alongV a b c d p q u v else if pt2 (turnZ a b c d p q) (turnZ a b c d u v) && pt2 (turnZ p q u v a b) (turnZ p q u v c d) then .tuple #[.int .i64 1, .agg #[.int .u64 (ww3 (shareZ ((c - a) * (p * v - q * u) - (u - p) * (a * d - b * c)) (Int.gcd (Int.gcd ((c - a) * (p * v - q * u) - (u - p) * (a * d - b * c)) ((a * d - b * c) * (q - v) - (p * v - q * u) * (b - d)) : Int) ((b - d) * (u - p) - (q - v) * (c - a)) : Int) (decide (((b - d) * (u - p) - (q - v) * (c - a)) < 0)))), .int .u64 (ww2 (shareZ ((c - a) * (p * v - q * u) - (u - p) * (a * d - b * c)) (Int.gcd (Int.gcd ((c - a) * (p * v - q * u) - (u - p) * (a * d - b * c)) ((a * d - b * c) * (q - v) - (p * v - q * u) * (b - d)) : Int) ((b - d) * (u - p) - (q - v) * (c - a)) : Int) (decide (((b - d) * (u - p) - (q - v) * (c - a)) < 0)))), .int .u64 (ww1 (shareZ ((c - a) * (p * v - q * u) - (u - p) * (a * d - b * c)) (Int.gcd (Int.gcd ((c - a) * (p * v - q * u) - (u - p) * (a * d - b * c)) ((a * d - b * c) * (q - v) - (p * v - q * u) * (b - d)) : Int) ((b - d) * (u - p) - (q - v) * (c - a)) : Int) (decide (((b - d) * (u - p) - (q - v) * (c - a)) < 0)))), .int .u64 (ww0 (shareZ ((c - a) * (p * v - q * u) - (u - p) * (a * d - b * c)) (Int.gcd (Int.gcd ((c - a) * (p * v - q * u) - (u - p) * (a * d - b * c)) ((a * d - b * c) * (q - v) - (p * v - q * u) * (b - d)) : Int) ((b - d) * (u - p) - (q - v) * (c - a)) : Int) (decide (((b - d) * (u - p) - (q - v) * (c - a)) < 0)))), .int .u64 (ww3 (shareZ ((a * d - b * c) * (q - v) - (p * v - q * u) * (b - d)) (Int.gcd (Int.gcd ((c - a) * (p * v - q * u) - (u - p) * (a * d - b * c)) ((a * d - b * c) * (q - v) - (p * v - q * u) * (b - d)) : Int) ((b - d) * (u - p) - (q - v) * (c - a)) : Int) (decide (((b - d) * (u - p) - (q - v) * (c - a)) < 0)))), .int .u64 (ww2 (shareZ ((a * d - b * c) * (q - v) - (p * v - q * u) * (b - d)) (Int.gcd (Int.gcd ((c - a) * (p * v - q * u) - (u - p) * (a * d - b * c)) ((a * d - b * c) * (q - v) - (p * v - q * u) * (b - d)) : Int) ((b - d) * (u - p) - (q - v) * (c - a)) : Int) (decide (((b - d) * (u - p) - (q - v) * (c - a)) < 0)))), .int .u64 (ww1 (shareZ ((a * d - b * c) * (q - v) - (p * v - q * u) * (b - d)) (Int.gcd (Int.gcd ((c - a) * (p * v - q * u) - (u - p) * (a * d - b * c)) ((a * d - b * c) * (q - v) - (p * v - q * u) * (b - d)) : Int) ((b - d) * (u - p) - (q - v) * (c - a)) : Int) (decide (((b - d) * (u - p) - (q - v) * (c - a)) < 0)))), .int .u64 (ww0 (shareZ ((a * d - b * c) * (q - v) - (p * v - q * u) * (b - d)) (Int.gcd (Int.gcd ((c - a) * (p * v - q * u) - (u - p) * (a * d - b * c)) ((a * d - b * c) * (q - v) - (p * v - q * u) * (b - d)) : Int) ((b - d) * (u - p) - (q - v) * (c - a)) : Int) (decide (((b - d) * (u - p) - (q - v) * (c - a)) < 0)))), .int .u64 (ww3 (shareZ ((b - d) * (u - p) - (q - v) * (c - a)) (Int.gcd (Int.gcd ((c - a) * (p * v - q * u) - (u - p) * (a * d - b * c)) ((a * d - b * c) * (q - v) - (p * v - q * u) * (b - d)) : Int) ((b - d) * (u - p) - (q - v) * (c - a)) : Int) (decide (((b - d) * (u - p) - (q - v) * (c - a)) < 0)))), .int .u64 (ww2 (shareZ ((b - d) * (u - p) - (q - v) * (c - a)) (Int.gcd (Int.gcd ((c - a) * (p * v - q * u) - (u - p) * (a * d - b * c)) ((a * d - b * c) * (q - v) - (p * v - q * u) * (b - d)) : Int) ((b - d) * (u - p) - (q - v) * (c - a)) : Int) (decide (((b - d) * (u - p) - (q - v) * (c - a)) < 0)))), .int .u64 (ww1 (shareZ ((b - d) * (u - p) - (q - v) * (c - a)) (Int.gcd (Int.gcd ((c - a) * (p * v - q * u) - (u - p) * (a * d - b * c)) ((a * d - b * c) * (q - v) - (p * v - q * u) * (b - d)) : Int) ((b - d) * (u - p) - (q - v) * (c - a)) : Int) (decide (((b - d) * (u - p) - (q - v) * (c - a)) < 0)))), .int .u64 (ww0 (shareZ ((b - d) * (u - p) - (q - v) * (c - a)) (Int.gcd (Int.gcd ((c - a) * (p * v - q * u) - (u - p) * (a * d - b * c)) ((a * d - b * c) * (q - v) - (p * v - q * u) * (b - d)) : Int) ((b - d) * (u - p) - (q - v) * (c - a)) : Int) (decide (((b - d) * (u - p) - (q - v) * (c - a)) < 0))))], .agg #[.int .u64 0, .int .u64 0, .int .u64 0, .int .u64 0, .int .u64 0, .int .u64 0, .int .u64 0, .int .u64 0, .int .u64 0, .int .u64 0, .int .u64 0, .int .u64 0]] else .tuple #[.int .i64 0, .agg #[.int .u64 0, .int .u64 0, .int .u64 0, .int .u64 0, .int .u64 0, .int .u64 0, .int .u64 0, .int .u64 0, .int .u64 0, .int .u64 0, .int .u64 0, .int .u64 0], .agg #[.int .u64 0, .int .u64 0, .int .u64 0, .int .u64 0, .int .u64 0, .int .u64 0, .int .u64 0, .int .u64 0, .int .u64 0, .int .u64 0, .int .u64 0, .int .u64 0]]) := rfl
  generalize pt2 (turnZ a b c d p q) (turnZ a b c d u v) = f1 at *
  generalize pt2 (turnZ p q u v a b) (turnZ p q u v c d) = f2 at *
  clear x1 x2 x3 x4 y1 y2 y3 y4 i1 i2 i3 j1 j2 j3 bX bY
  generalize ((c - a) * (p * v - q * u) - (u - p) * (a * d - b * c)) = cx at *
  generalize ((a * d - b * c) * (q - v) - (p * v - q * u) * (b - d)) = cy at *
  generalize ((b - d) * (u - p) - (q - v) * (c - a)) = cw at *
  generalize b - d = l1 at *
  generalize c - a = l2 at *
  generalize a * d - b * c = l3 at *
  generalize q - v = m1 at *
  generalize u - p = m2 at *
  generalize p * v - q * u = m3 at *
  clear ha hb hc hd hp hq hu hv
  have tok1 : True := trivial
  have T0 : ArgsB w ((((w.alloc (.cells #[.int .i64 a, .int .i64 b, .int .i64 c, .int .i64 d] 53)).alloc (.cells #[.int .i64 p, .int .i64 q, .int .i64 u, .int .i64 v] 53)).alloc (.cells #[.int .u64 0, .int .u64 0, .int .u64 0, .int .u64 0, .int .u64 0, .int .u64 0, .int .u64 0, .int .u64 0, .int .u64 0, .int .u64 0, .int .u64 0, .int .u64 0] 44)).alloc (.cells #[.int .u64 0, .int .u64 0, .int .u64 0, .int .u64 0, .int .u64 0, .int .u64 0, .int .u64 0, .int .u64 0, .int .u64 0, .int .u64 0, .int .u64 0, .int .u64 0] 44)) [[.int .i64 a, .int .i64 b, .int .i64 c, .int .i64 d], [.int .i64 p, .int .i64 q, .int .i64 u, .int .i64 v], [.int .u64 0, .int .u64 0, .int .u64 0, .int .u64 0, .int .u64 0, .int .u64 0, .int .u64 0, .int .u64 0, .int .u64 0, .int .u64 0, .int .u64 0, .int .u64 0], [.int .u64 0, .int .u64 0, .int .u64 0, .int .u64 0, .int .u64 0, .int .u64 0, .int .u64 0, .int .u64 0, .int .u64 0, .int .u64 0, .int .u64 0, .int .u64 0]] := ar4 _ _ _ _ _ _ _ _ w
  go_enter Tryz.func86, Tryz.ntmps86
  go_upto_region 1 with fail
  generalize ((((w.alloc (.cells #[.int .i64 a, .int .i64 b, .int .i64 c, .int .i64 d] 53)).alloc (.cells #[.int .i64 p, .int .i64 q, .int .i64 u, .int .i64 v] 53)).alloc (.cells #[.int .u64 0, .int .u64 0, .int .u64 0, .int .u64 0, .int .u64 0, .int .u64 0, .int .u64 0, .int .u64 0, .int .u64 0, .int .u64 0, .int .u64 0, .int .u64 0] 44)).alloc (.cells #[.int .u64 0, .int .u64 0, .int .u64 0, .int .u64 0, .int .u64 0, .int .u64 0, .int .u64 0, .int .u64 0, .int .u64 0, .int .u64 0, .int .u64 0, .int .u64 0] 44)) = W at *
  go_region_held3 (fun w' => w'.cell? ⟨w.heap.size, 0, none⟩ = some (.int .i64 a) ∧ w'.cell? ⟨w.heap.size, 1, none⟩ = some (.int .i64 b) ∧ w'.cell? ⟨w.heap.size, 2, none⟩ = some (.int .i64 c) ∧ w'.cell? ⟨w.heap.size, 3, none⟩ = some (.int .i64 d) ∧ w'.cell? ⟨w.heap.size + 1, 0, none⟩ = some (.int .i64 p) ∧ w'.cell? ⟨w.heap.size + 1, 1, none⟩ = some (.int .i64 q) ∧ w'.cell? ⟨w.heap.size + 1, 2, none⟩ = some (.int .i64 u) ∧ w'.cell? ⟨w.heap.size + 1, 3, none⟩ = some (.int .i64 v)) ((refine ml_cells ?_ <;> repeat (first | (with_reducible exact T0) | (with_reducible refine ArgsB.drew ?_))))
    (first
      | (go_at_call 135; have _t := tok1; refine (LS _).mono ?_; rintro e w1 ⟨rfl, hB⟩; (first | (have T1 := T0.step hB) | (have T1 := T0.drew.step hB)); clear T0; have T0 := T1; clear T1 hB tok1 _t)
      | (go_at_call 135; refine (LT _).mono ?_; rintro e w2 ⟨rfl, hB⟩; (first | (have T1 := T0.step hB) | (have T1 := T0.drew.step hB)); clear T0; have T0 := T1; clear T1 hB)
      | (go_at_call 136; refine (CR _).mono ?_; rintro e w3 ⟨rfl, hB⟩; (first | (have T1 := T0.step hB) | (have T1 := T0.drew.step hB)); clear T0; have T0 := T1; clear T1 hB))
  all_goals clear LS LT CR
  all_goals (
    have BS : Blk _ w.heap.size _ := T0.b 0 rfl; have BT : Blk _ (w.heap.size + 1) _ := T0.b 1 rfl; have BP : Blk _ (w.heap.size + 1 + 1) _ := T0.b 2 rfl; have BQ : Blk _ (w.heap.size + 1 + 1 + 1) _ := T0.b 3 rfl; have HB := T0.below
    clear T0
    by_cases h0 : cw = 0
    · have HO1 : Hid (meetW a b c d p q u v = alongV a b c d p q u v) := by show _ = _; rw [HV.out, if_pos h0]
      obtain ⟨k, r0, r1, r2, r3, r4, r5, r6, r7, r8, r9, r10, r11, s0, s1, s2, s3, s4, s5, s6, s7, s8, s9, s10, s11, hk⟩ := along_ex a b c d p q u v
      have HO : Hid (meetW a b c d p q u v = .tuple #[.int .i64 k, .agg #[.int .u64 r0, .int .u64 r1, .int .u64 r2, .int .u64 r3, .int .u64 r4, .int .u64 r5, .int .u64 r6, .int .u64 r7, .int .u64 r8, .int .u64 r9, .int .u64 r10, .int .u64 r11], .agg #[.int .u64 s0, .int .u64 s1, .int .u64 s2, .int .u64 s3, .int .u64 s4, .int .u64 s5, .int .u64 s6, .int .u64 s7, .int .u64 s8, .int .u64 s9, .int .u64 s10, .int .u64 s11]]) := HO1.out.trans hk
      rw [hk] at AL
      subst h0
      clear HV hk HO1 SM P1 P2 bW
      obtain ⟨sc0, sc1, sc2, sc3⟩ := BS.cs4; have sl := BS.lt; obtain ⟨tc0, tc1, tc2, tc3⟩ := BT.cs4; have tl := BT.lt
      go_wp2_with fail
      refine (AL _).mono ?_
      rintro e w4 ⟨rfl, hB⟩
      replace BS := BS.step hB
      replace BT := BT.step hB
      replace BP := BP.step hB
      replace BQ := BQ.step hB
      replace HB := HB.trans (hB.mono HB.size)
      clear hB sc0 sc1 sc2 sc3 sl tc0 tc1 tc2 tc3 tl
      clear BS BT AL
      obtain ⟨xc0, xf0, xc1, xf1, xc2, xf2, xc3, xf3, xc4, xf4, xc5, xf5, xc6, xf6, xc7, xf7, xc8, xf8, xc9, xf9, xc10, xf10, xc11, xf11⟩ := BP.cf12; have xl := BP.lt; obtain ⟨yc0, yf0, yc1, yf1, yc2, yf2, yc3, yf3, yc4, yf4, yc5, yf5, yc6, yf6, yc7, yf7, yc8, yf8, yc9, yf9, yc10, yf10, yc11, yf11⟩ := BQ.cf12; have yl := BQ.lt
      go_wp2
      refine put24_ret BP BQ (by omega) (by omega) (by omega) HB fun WF F0 F1 HBF => ?_
      clear BP BQ HB xc0 xf0 xc1 xf1 xc2 xf2 xc3 xf3 xc4 xf4 xc5 xf5 xc6 xf6 xc7 xf7 xc8 xf8 xc9 xf9 xc10 xf10 xc11 xf11 xl yc0 yf0 yc1 yf1 yc2 yf2 yc3 yf3 yc4 yf4 yc5 yf5 yc6 yf6 yc7 yf7 yc8 yf8 yc9 yf9 yc10 yf10 yc11 yf11 yl
      have m0 := F0.c 0 rfl; have n0 := F1.c 0 rfl; have m1 := F0.c 1 rfl; have n1 := F1.c 1 rfl; have m2 := F0.c 2 rfl; have n2 := F1.c 2 rfl; have m3 := F0.c 3 rfl; have n3 := F1.c 3 rfl; have m4 := F0.c 4 rfl; have n4 := F1.c 4 rfl; have m5 := F0.c 5 rfl; have n5 := F1.c 5 rfl; have m6 := F0.c 6 rfl; have n6 := F1.c 6 rfl; have m7 := F0.c 7 rfl; have n7 := F1.c 7 rfl; have m8 := F0.c 8 rfl; have n8 := F1.c 8 rfl; have m9 := F0.c 9 rfl; have n9 := F1.c 9 rfl; have m10 := F0.c 10 rfl; have n10 := F1.c 10 rfl; have m11 := F0.c 11 rfl; have n11 := F1.c 11 rfl
      refine bodyPost_ret (v := .tuple #[.int .i64 k, .agg #[.int .u64 r0, .int .u64 r1, .int .u64 r2, .int .u64 r3, .int .u64 r4, .int .u64 r5, .int .u64 r6, .int .u64 r7, .int .u64 r8, .int .u64 r9, .int .u64 r10, .int .u64 r11], .agg #[.int .u64 s0, .int .u64 s1, .int .u64 s2, .int .u64 s3, .int .u64 s4, .int .u64 s5, .int .u64 s6, .int .u64 s7, .int .u64 s8, .int .u64 s9, .int .u64 s10, .int .u64 s11]]) (by simp [results, Tryz.results86, go_sem, m0, n0, m1, n1, m2, n2, m3, n3, m4, n4, m5, n5, m6, n6, m7, n7, m8, n8, m9, n9, m10, n10, m11, n11]) rfl ?_
      exact ⟨by rw [HO.out], by first | exact HBF | exact HBF.drew⟩
    · have SM := SM h0
      obtain ⟨sc0, sc1, sc2, sc3⟩ := BS.cs4; have sl := BS.lt; obtain ⟨tc0, tc1, tc2, tc3⟩ := BT.cs4; have tl := BT.lt
      go_wp2_with fail
      refine (P1 _ _ (Blk.new _ _ _ rfl)).mono ?_
      rintro e w4 ⟨rfl, hB⟩
      replace BS := (BS.alloc _).step hB; replace BT := (BT.alloc _).step hB; replace BP := (BP.alloc _).step hB; replace BQ := (BQ.alloc _).step hB; replace HB := (HB.alloc HB.size _).trans (hB.mono (HB.alloc HB.size _).size)
      clear hB sc0 sc1 sc2 sc3 sl tc0 tc1 tc2 tc3 tl P1
      cases f1
      · have HO : Hid (meetW a b c d p q u v = .tuple #[.int .i64 0, .agg #[.int .u64 0, .int .u64 0, .int .u64 0, .int .u64 0, .int .u64 0, .int .u64 0, .int .u64 0, .int .u64 0, .int .u64 0, .int .u64 0, .int .u64 0, .int .u64 0], .agg #[.int .u64 0, .int .u64 0, .int .u64 0, .int .u64 0, .int .u64 0, .int .u64 0, .int .u64 0, .int .u64 0, .int .u64 0, .int .u64 0, .int .u64 0, .int .u64 0]]) := by show _ = _; rw [HV.out, if_neg h0]; rfl
        clear BS BT AL SM P2 HV bW
        obtain ⟨xc0, xf0, xc1, xf1, xc2, xf2, xc3, xf3, xc4, xf4, xc5, xf5, xc6, xf6, xc7, xf7, xc8, xf8, xc9, xf9, xc10, xf10, xc11, xf11⟩ := BP.cf12; have xl := BP.lt; obtain ⟨yc0, yf0, yc1, yf1, yc2, yf2, yc3, yf3, yc4, yf4, yc5, yf5, yc6, yf6, yc7, yf7, yc8, yf8, yc9, yf9, yc10, yf10, yc11, yf11⟩ := BQ.cf12; have yl := BQ.lt
        go_wp2
        refine put24_ret BP BQ (by omega) (by omega) (by omega) HB fun WF F0 F1 HBF => ?_
        clear BP BQ HB xc0 xf0 xc1 xf1 xc2 xf2 xc3 xf3 xc4 xf4 xc5 xf5 xc6 xf6 xc7 xf7 xc8 xf8 xc9 xf9 xc10 xf10 xc11 xf11 xl yc0 yf0 yc1 yf1 yc2 yf2 yc3 yf3 yc4 yf4 yc5 yf5 yc6 yf6 yc7 yf7 yc8 yf8 yc9 yf9 yc10 yf10 yc11 yf11 yl
        have m0 := F0.c 0 rfl; have n0 := F1.c 0 rfl; have m1 := F0.c 1 rfl; have n1 := F1.c 1 rfl; have m2 := F0.c 2 rfl; have n2 := F1.c 2 rfl; have m3 := F0.c 3 rfl; have n3 := F1.c 3 rfl; have m4 := F0.c 4 rfl; have n4 := F1.c 4 rfl; have m5 := F0.c 5 rfl; have n5 := F1.c 5 rfl; have m6 := F0.c 6 rfl; have n6 := F1.c 6 rfl; have m7 := F0.c 7 rfl; have n7 := F1.c 7 rfl; have m8 := F0.c 8 rfl; have n8 := F1.c 8 rfl; have m9 := F0.c 9 rfl; have n9 := F1.c 9 rfl; have m10 := F0.c 10 rfl; have n10 := F1.c 10 rfl; have m11 := F0.c 11 rfl; have n11 := F1.c 11 rfl
        refine bodyPost_ret (v := .tuple #[.int .i64 0, .agg #[.int .u64 0, .int .u64 0, .int .u64 0, .int .u64 0, .int .u64 0, .int .u64 0, .int .u64 0, .int .u64 0, .int .u64 0, .int .u64 0, .int .u64 0, .int .u64 0], .agg #[.int .u64 0, .int .u64 0, .int .u64 0, .int .u64 0, .int .u64 0, .int .u64 0, .int .u64 0, .int .u64 0, .int .u64 0, .int .u64 0, .int .u64 0, .int .u64 0]]) (by simp [results, Tryz.results86, go_sem, m0, n0, m1, n1, m2, n2, m3, n3, m4, n4, m5, n5, m6, n6, m7, n7, m8, n8, m9, n9, m10, n10, m11, n11]) rfl ?_
        exact ⟨by rw [HO.out], by first | exact HBF | exact HBF.drew⟩
      · obtain ⟨sc0, sc1, sc2, sc3⟩ := BS.cs4; have sl := BS.lt; obtain ⟨tc0, tc1, tc2, tc3⟩ := BT.cs4; have tl := BT.lt
        go_wp2_with fail
        refine (P2 _ _ (Blk.new _ _ _ rfl)).mono ?_
        rintro e w5 ⟨rfl, hB⟩
        replace BP := (BP.alloc _).step hB; replace BQ := (BQ.alloc _).step hB; replace HB := (HB.alloc HB.size _).trans (hB.mono (HB.alloc HB.size _).size)
        clear hB sc0 sc1 sc2 sc3 sl tc0 tc1 tc2 tc3 tl P2 BS BT
        cases f2
        · have HO : Hid (meetW a b c d p q u v = .tuple #[.int .i64 0, .agg #[.int .u64 0, .int .u64 0, .int .u64 0, .int .u64 0, .int .u64 0, .int .u64 0, .int .u64 0, .int .u64 0, .int .u64 0, .int .u64 0, .int .u64 0, .int .u64 0], .agg #[.int .u64 0, .int .u64 0, .int .u64 0, .int .u64 0, .int .u64 0, .int .u64 0, .int .u64 0, .int .u64 0, .int .u64 0, .int .u64 0, .int .u64 0, .int .u64 0]]) := by show _ = _; rw [HV.out, if_neg h0]; rfl
          clear AL SM HV bW
          obtain ⟨xc0, xf0, xc1, xf1, xc2, xf2, xc3, xf3, xc4, xf4, xc5, xf5, xc6, xf6, xc7, xf7, xc8, xf8, xc9, xf9, xc10, xf10, xc11, xf11⟩ := BP.cf12; have xl := BP.lt; obtain ⟨yc0, yf0, yc1, yf1, yc2, yf2, yc3, yf3, yc4, yf4, yc5, yf5, yc6, yf6, yc7, yf7, yc8, yf8, yc9, yf9, yc10, yf10, yc11, yf11⟩ := BQ.cf12; have yl := BQ.lt
          go_wp2
          refine put24_ret BP BQ (by omega) (by omega) (by omega) HB fun WF F0 F1 HBF => ?_
          clear BP BQ HB xc0 xf0 xc1 xf1 xc2 xf2 xc3 xf3 xc4 xf4 xc5 xf5 xc6 xf6 xc7 xf7 xc8 xf8 xc9 xf9 xc10 xf10 xc11 xf11 xl yc0 yf0 yc1 yf1 yc2 yf2 yc3 yf3 yc4 yf4 yc5 yf5 yc6 yf6 yc7 yf7 yc8 yf8 yc9 yf9 yc10 yf10 yc11 yf11 yl
          have m0 := F0.c 0 rfl; have n0 := F1.c 0 rfl; have m1 := F0.c 1 rfl; have n1 := F1.c 1 rfl; have m2 := F0.c 2 rfl; have n2 := F1.c 2 rfl; have m3 := F0.c 3 rfl; have n3 := F1.c 3 rfl; have m4 := F0.c 4 rfl; have n4 := F1.c 4 rfl; have m5 := F0.c 5 rfl; have n5 := F1.c 5 rfl; have m6 := F0.c 6 rfl; have n6 := F1.c 6 rfl; have m7 := F0.c 7 rfl; have n7 := F1.c 7 rfl; have m8 := F0.c 8 rfl; have n8 := F1.c 8 rfl; have m9 := F0.c 9 rfl; have n9 := F1.c 9 rfl; have m10 := F0.c 10 rfl; have n10 := F1.c 10 rfl; have m11 := F0.c 11 rfl; have n11 := F1.c 11 rfl
          refine bodyPost_ret (v := .tuple #[.int .i64 0, .agg #[.int .u64 0, .int .u64 0, .int .u64 0, .int .u64 0, .int .u64 0, .int .u64 0, .int .u64 0, .int .u64 0, .int .u64 0, .int .u64 0, .int .u64 0, .int .u64 0], .agg #[.int .u64 0, .int .u64 0, .int .u64 0, .int .u64 0, .int .u64 0, .int .u64 0, .int .u64 0, .int .u64 0, .int .u64 0, .int .u64 0, .int .u64 0, .int .u64 0]]) (by simp [results, Tryz.results86, go_sem, m0, n0, m1, n1, m2, n2, m3, n3, m4, n4, m5, n5, m6, n6, m7, n7, m8, n8, m9, n9, m10, n10, m11, n11]) rfl ?_
          exact ⟨by rw [HO.out], by first | exact HBF | exact HBF.drew⟩
        · have HO : Hid (meetW a b c d p q u v = .tuple #[.int .i64 1, .agg #[.int .u64 (ww3 (shareZ cx (Int.gcd (Int.gcd cx cy : Int) cw : Int) (decide (cw < 0)))), .int .u64 (ww2 (shareZ cx (Int.gcd (Int.gcd cx cy : Int) cw : Int) (decide (cw < 0)))), .int .u64 (ww1 (shareZ cx (Int.gcd (Int.gcd cx cy : Int) cw : Int) (decide (cw < 0)))), .int .u64 (ww0 (shareZ cx (Int.gcd (Int.gcd cx cy : Int) cw : Int) (decide (cw < 0)))), .int .u64 (ww3 (shareZ cy (Int.gcd (Int.gcd cx cy : Int) cw : Int) (decide (cw < 0)))), .int .u64 (ww2 (shareZ cy (Int.gcd (Int.gcd cx cy : Int) cw : Int) (decide (cw < 0)))), .int .u64 (ww1 (shareZ cy (Int.gcd (Int.gcd cx cy : Int) cw : Int) (decide (cw < 0)))), .int .u64 (ww0 (shareZ cy (Int.gcd (Int.gcd cx cy : Int) cw : Int) (decide (cw < 0)))), .int .u64 (ww3 (shareZ cw (Int.gcd (Int.gcd cx cy : Int) cw : Int) (decide (cw < 0)))), .int .u64 (ww2 (shareZ cw (Int.gcd (Int.gcd cx cy : Int) cw : Int) (decide (cw < 0)))), .int .u64 (ww1 (shareZ cw (Int.gcd (Int.gcd cx cy : Int) cw : Int) (decide (cw < 0)))), .int .u64 (ww0 (shareZ cw (Int.gcd (Int.gcd cx cy : Int) cw : Int) (decide (cw < 0))))], .agg #[.int .u64 0, .int .u64 0, .int .u64 0, .int .u64 0, .int .u64 0, .int .u64 0, .int .u64 0, .int .u64 0, .int .u64 0, .int .u64 0, .int .u64 0, .int .u64 0]]) := by show _ = _; rw [HV.out, if_neg h0]; rfl
          generalize (shareZ cx (Int.gcd (Int.gcd cx cy : Int) cw : Int) (decide (cw < 0))) = sx at *
          generalize (shareZ cy (Int.gcd (Int.gcd cx cy : Int) cw : Int) (decide (cw < 0))) = sy at *
          generalize (shareZ cw (Int.gcd (Int.gcd cx cy : Int) cw : Int) (decide (cw < 0))) = sz at *
          clear AL HV bW
          go_wp2_with fail
          refine (SM _).mono ?_
          rintro e w6 ⟨rfl, hB⟩
          replace BP := BP.step hB; replace BQ := BQ.step hB; replace HB := HB.trans (hB.mono HB.size)
          clear hB SM
          obtain ⟨xc0, xf0, xc1, xf1, xc2, xf2, xc3, xf3, xc4, xf4, xc5, xf5, xc6, xf6, xc7, xf7, xc8, xf8, xc9, xf9, xc10, xf10, xc11, xf11⟩ := BP.cf12; have xl := BP.lt; obtain ⟨yc0, yf0, yc1, yf1, yc2, yf2, yc3, yf3, yc4, yf4, yc5, yf5, yc6, yf6, yc7, yf7, yc8, yf8, yc9, yf9, yc10, yf10, yc11, yf11⟩ := BQ.cf12; have yl := BQ.lt
          go_wp2
          refine put24_ret BP BQ (by omega) (by omega) (by omega) HB fun WF F0 F1 HBF => ?_
          clear BP BQ HB xc0 xf0 xc1 xf1 xc2 xf2 xc3 xf3 xc4 xf4 xc5 xf5 xc6 xf6 xc7 xf7 xc8 xf8 xc9 xf9 xc10 xf10 xc11 xf11 xl yc0 yf0 yc1 yf1 yc2 yf2 yc3 yf3 yc4 yf4 yc5 yf5 yc6 yf6 yc7 yf7 yc8 yf8 yc9 yf9 yc10 yf10 yc11 yf11 yl
          have m0 := F0.c 0 rfl; have n0 := F1.c 0 rfl; have m1 := F0.c 1 rfl; have n1 := F1.c 1 rfl; have m2 := F0.c 2 rfl; have n2 := F1.c 2 rfl; have m3 := F0.c 3 rfl; have n3 := F1.c 3 rfl; have m4 := F0.c 4 rfl; have n4 := F1.c 4 rfl; have m5 := F0.c 5 rfl; have n5 := F1.c 5 rfl; have m6 := F0.c 6 rfl; have n6 := F1.c 6 rfl; have m7 := F0.c 7 rfl; have n7 := F1.c 7 rfl; have m8 := F0.c 8 rfl; have n8 := F1.c 8 rfl; have m9 := F0.c 9 rfl; have n9 := F1.c 9 rfl; have m10 := F0.c 10 rfl; have n10 := F1.c 10 rfl; have m11 := F0.c 11 rfl; have n11 := F1.c 11 rfl
          refine bodyPost_ret (v := .tuple #[.int .i64 1, .agg #[.int .u64 (ww3 sx), .int .u64 (ww2 sx), .int .u64 (ww1 sx), .int .u64 (ww0 sx), .int .u64 (ww3 sy), .int .u64 (ww2 sy), .int .u64 (ww1 sy), .int .u64 (ww0 sy), .int .u64 (ww3 sz), .int .u64 (ww2 sz), .int .u64 (ww1 sz), .int .u64 (ww0 sz)], .agg #[.int .u64 0, .int .u64 0, .int .u64 0, .int .u64 0, .int .u64 0, .int .u64 0, .int .u64 0, .int .u64 0, .int .u64 0, .int .u64 0, .int .u64 0, .int .u64 0]]) (by simp [results, Tryz.results86, go_sem, m0, n0, m1, n1, m2, n2, m3, n3, m4, n4, m5, n5, m6, n6, m7, n7, m8, n8, m9, n9, m10, n10, m11, n11]) rfl ?_
          exact ⟨by rw [HO.out], by first | exact HBF | exact HBF.drew⟩)
theorem in1_seg {a b c d : Int} (h : segOk a b c d = true) : In1 a ∧ In1 b ∧ In1 c ∧ In1 d := by
  unfold segOk spotOk at h
  simp only [Bool.and_eq_true, decide_eq_true_eq] at h
  obtain ⟨⟨h1, h2⟩, -⟩ := h
  exact ⟨⟨h1.1, h1.2.1⟩, ⟨h1.2.2.1, h1.2.2.2⟩, ⟨h2.1, h2.2.1⟩, ⟨h2.2.2.1, h2.2.2.2⟩⟩
end Go.Proofs.YteakhlipmmfilaaGreat

/- Where two segments meet: what is reckoned of the model's walk. -/
namespace Go.Proofs.YteakhlipmmfilaaGreat
open Go.RowKit
theorem Blk.set6 {W : World} {vs : List Value} {v0 v1 v2 v3 v4 v5 : Value} {g g' : Nat} (G : Blk W g' vs) (hg : g' ≠ g) : Blk ((((((W.setCell ⟨g, 0, none⟩ (v0)).setCell ⟨g, 1, none⟩ (v1)).setCell ⟨g, 2, none⟩ (v2)).setCell ⟨g, 3, none⟩ (v3)).setCell ⟨g, 4, none⟩ (v4)).setCell ⟨g, 5, none⟩ (v5)) g' vs := (((((G.setO (by exact hg) _).setO (by exact hg) _).setO (by exact hg) _).setO (by exact hg) _).setO (by exact hg) _).setO (by exact hg) _
/-- Three numbers of the model, side by side. -/
def L3A (w : World) (v : Value) (x y z : Int) : Prop :=
  ∃ (s1 : Bool) (o1 : Option Addr) (n1 c1 : Nat) (d1 : List Int) (s2 : Bool) (o2 : Option Addr) (n2 c2 : Nat) (d2 : List Int) (s3 : Bool) (o3 : Option Addr) (n3 c3 : Nat) (d3 : List Int), v = .agg #[.bool s1, .slice o1 n1 c1, .bool s2, .slice o2 n2 c2, .bool s3, .slice o3 n3 c3] ∧ IsNum w s1 o1 n1 c1 d1 x 8 ∧ IsNum w s2 o2 n2 c2 d2 y 8 ∧ IsNum w s3 o3 n3 c3 d3 z 8
def MtP (a b c d p q u v : Int) (w : World) (e : Ending) (w' : World) : Prop := Below w.heap.size w w' ∧
  ((meetW a b c d p q u v = .tuple #[.int .i64 0, .agg #[.int .u64 0, .int .u64 0, .int .u64 0, .int .u64 0, .int .u64 0, .int .u64 0, .int .u64 0, .int .u64 0, .int .u64 0, .int .u64 0, .int .u64 0, .int .u64 0], .agg #[.int .u64 0, .int .u64 0, .int .u64 0, .int .u64 0, .int .u64 0, .int .u64 0, .int .u64 0, .int .u64 0, .int .u64 0, .int .u64 0, .int .u64 0, .int .u64 0]] ∧ e = .returned (.tuple #[.int .i64 0, .agg #[.bool false, .slice none 0 0, .bool false, .slice none 0 0, .bool false, .slice none 0 0], .agg #[.bool false, .slice none 0 0, .bool false, .slice none 0 0, .bool false, .slice none 0 0]])) ∨
   (∃ (x y z : Int) (r : Value), meetW a b c d p q u v = .tuple #[.int .i64 1, .agg #[.int .u64 (ww3 x), .int .u64 (ww2 x), .int .u64 (ww1 x), .int .u64 (ww0 x), .int .u64 (ww3 y), .int .u64 (ww2 y), .int .u64 (ww1 y), .int .u64 (ww0 y), .int .u64 (ww3 z), .int .u64 (ww2 z), .int .u64 (ww1 z), .int .u64 (ww0 z)], .agg #[.int .u64 0, .int .u64 0, .int .u64 0, .int .u64 0, .int .u64 0, .int .u64 0, .int .u64 0, .int .u64 0, .int .u64 0, .int .u64 0, .int .u64 0, .int .u64 0]] ∧ small x = true ∧ small y = true ∧ small z = true ∧ e = .returned (.tuple #[.int .i64 1, r, .agg #[.bool false, .slice none 0 0, .bool false, .slice none 0 0, .bool false, .slice none 0 0]]) ∧ L3A w' r x y z) ∨
   (∃ (x y x' y' : Int) (r r' : Value), meetW a b c d p q u v = .tuple #[.int .i64 2, .agg #[.int .u64 (ww3 x), .int .u64 (ww2 x), .int .u64 (ww1 x), .int .u64 (ww0 x), .int .u64 (ww3 y), .int .u64 (ww2 y), .int .u64 (ww1 y), .int .u64 (ww0 y), .int .u64 (ww3 1), .int .u64 (ww2 1), .int .u64 (ww1 1), .int .u64 (ww0 1)], .agg #[.int .u64 (ww3 x'), .int .u64 (ww2 x'), .int .u64 (ww1 x'), .int .u64 (ww0 x'), .int .u64 (ww3 y'), .int .u64 (ww2 y'), .int .u64 (ww1 y'), .int .u64 (ww0 y'), .int .u64 (ww3 1), .int .u64 (ww2 1), .int .u64 (ww1 1), .int .u64 (ww0 1)]] ∧ small x = true ∧ small y = true ∧ small x' = true ∧ small y' = true ∧ e = .returned (.tuple #[.int .i64 2, r, r']) ∧ L3A w' r x y 1 ∧ L3A w' r' x' y' 1))
theorem turn_diff (a b c d p q u v : Int) : turnZ a b c d u v - turnZ a b c d p q = ((b - d) * (u - p) - (q - v) * (c - a)) := by unfold turnZ; grind
theorem sgZ_z {t : Int} : sgZ t = 0 ↔ t = 0 := by unfold sgZ; repeat' split <;> omega
theorem sgZ_mul (t t' : Int) : (0 < sgZ t * sgZ t' ↔ (0 < t ∧ 0 < t') ∨ (t < 0 ∧ t' < 0)) ∧ -1 ≤ sgZ t * sgZ t' ∧ sgZ t * sgZ t' ≤ 1 := by
  have e : ∀ t, (t < 0 ∧ sgZ t = -1) ∨ (t = 0 ∧ sgZ t = 0) ∨ (0 < t ∧ sgZ t = 1) := by
    intro t
    unfold sgZ
    repeat' split
    all_goals omega
  rcases e t with ⟨h, e1⟩ | ⟨h, e1⟩ | ⟨h, e1⟩ <;> rcases e t' with ⟨h', e2⟩ | ⟨h', e2⟩ | ⟨h', e2⟩ <;> rw [e1, e2] <;> omega
theorem pt2_no {t t' : Int} (h : 0 < sgZ t * sgZ t') : pt2 t t' = false := by
  have := (sgZ_mul t t').1.1 h
  unfold pt2
  rcases this with ⟨h1, h2⟩ | ⟨h1, h2⟩
  · rw [decide_eq_false (show ¬ t ≤ 0 by omega), decide_eq_false (show ¬ t' ≤ 0 by omega)]; simp
  · rw [decide_eq_false (show ¬ 0 ≤ t by omega), decide_eq_false (show ¬ 0 ≤ t' by omega)]; simp
theorem pt2_yes {t t' : Int} (h : ¬ 0 < sgZ t * sgZ t') : pt2 t t' = true := by
  have h0 : ¬ ((0 < t ∧ 0 < t') ∨ (t < 0 ∧ t' < 0)) := fun k => h ((sgZ_mul t t').1.2 k)
  unfold pt2
  simp only [Bool.and_eq_true, Bool.or_eq_true, decide_eq_true_eq]
  omega
theorem meet_w0 {a b c d p q u v : Int} (h : ¬ (turnZ a b c d p q = 0 ∧ turnZ a b c d u v = 0)) (g : ¬ 0 < sgZ (turnZ a b c d p q) * sgZ (turnZ a b c d u v)) : ((b - d) * (u - p) - (q - v) * (c - a)) ≠ 0 := by
  intro h0
  have hd := turn_diff a b c d p q u v
  rw [h0] at hd
  have hh : turnZ a b c d u v = turnZ a b c d p q := by omega
  rw [hh] at h g
  apply g
  apply (sgZ_mul _ _).1.2
  omega
theorem meet_none1 {a b c d p q u v : Int} (h : ¬ (turnZ a b c d p q = 0 ∧ turnZ a b c d u v = 0)) (g : 0 < sgZ (turnZ a b c d p q) * sgZ (turnZ a b c d u v)) : meetW a b c d p q u v = .tuple #[.int .i64 0, .agg #[.int .u64 0, .int .u64 0, .int .u64 0, .int .u64 0, .int .u64 0, .int .u64 0, .int .u64 0, .int .u64 0, .int .u64 0, .int .u64 0, .int .u64 0, .int .u64 0], .agg #[.int .u64 0, .int .u64 0, .int .u64 0, .int .u64 0, .int .u64 0, .int .u64 0, .int .u64 0, .int .u64 0, .int .u64 0, .int .u64 0, .int .u64 0, .int .u64 0]] := by
  unfold meetW
  by_cases h0 : ((b - d) * (u - p) - (q - v) * (c - a)) = 0
  · rw [if_pos h0]
    have hd := turn_diff a b c d p q u v
    rw [h0] at hd
    unfold alongV
    rw [if_pos (Or.inl (by omega))]
  · rw [if_neg h0, pt2_no g]
    rfl
theorem meet_none2 {a b c d p q u v : Int} (h : ¬ (turnZ a b c d p q = 0 ∧ turnZ a b c d u v = 0)) (g : ¬ 0 < sgZ (turnZ a b c d p q) * sgZ (turnZ a b c d u v)) (g' : 0 < sgZ (turnZ p q u v a b) * sgZ (turnZ p q u v c d)) : meetW a b c d p q u v = .tuple #[.int .i64 0, .agg #[.int .u64 0, .int .u64 0, .int .u64 0, .int .u64 0, .int .u64 0, .int .u64 0, .int .u64 0, .int .u64 0, .int .u64 0, .int .u64 0, .int .u64 0, .int .u64 0], .agg #[.int .u64 0, .int .u64 0, .int .u64 0, .int .u64 0, .int .u64 0, .int .u64 0, .int .u64 0, .int .u64 0, .int .u64 0, .int .u64 0, .int .u64 0, .int .u64 0]] := by
  unfold meetW
  rw [if_neg (meet_w0 h g), pt2_no g', Bool.and_false]
  rfl
theorem meet_pt {a b c d p q u v : Int} (h : ¬ (turnZ a b c d p q = 0 ∧ turnZ a b c d u v = 0)) (g : ¬ 0 < sgZ (turnZ a b c d p q) * sgZ (turnZ a b c d u v)) (g' : ¬ 0 < sgZ (turnZ p q u v a b) * sgZ (turnZ p q u v c d)) : meetW a b c d p q u v = .tuple #[.int .i64 1, .agg #[.int .u64 (ww3 (shareZ ((c - a) * (p * v - q * u) - (u - p) * (a * d - b * c)) (Int.gcd (Int.gcd ((c - a) * (p * v - q * u) - (u - p) * (a * d - b * c)) ((a * d - b * c) * (q - v) - (p * v - q * u) * (b - d)) : Int) ((b - d) * (u - p) - (q - v) * (c - a)) : Int) (decide (((b - d) * (u - p) - (q - v) * (c - a)) < 0)))), .int .u64 (ww2 (shareZ ((c - a) * (p * v - q * u) - (u - p) * (a * d - b * c)) (Int.gcd (Int.gcd ((c - a) * (p * v - q * u) - (u - p) * (a * d - b * c)) ((a * d - b * c) * (q - v) - (p * v - q * u) * (b - d)) : Int) ((b - d) * (u - p) - (q - v) * (c - a)) : Int) (decide (((b - d) * (u - p) - (q - v) * (c - a)) < 0)))), .int .u64 (ww1 (shareZ ((c - a) * (p * v - q * u) - (u - p) * (a * d - b * c)) (Int.gcd (Int.gcd ((c - a) * (p * v - q * u) - (u - p) * (a * d - b * c)) ((a * d - b * c) * (q - v) - (p * v - q * u) * (b - d)) : Int) ((b - d) * (u - p) - (q - v) * (c - a)) : Int) (decide (((b - d) * (u - p) - (q - v) * (c - a)) < 0)))), .int .u64 (ww0 (shareZ ((c - a) * (p * v - q * u) - (u - p) * (a * d - b * c)) (Int.gcd (Int.gcd ((c - a) * (p * v - q * u) - (u - p) * (a * d - b * c)) ((a * d - b * c) * (q - v) - (p * v - q * u) * (b - d)) : Int) ((b - d) * (u - p) - (q - v) * (c - a)) : Int) (decide (((b - d) * (u - p) - (q - v) * (c - a)) < 0)))), .int .u64 (ww3 (shareZ ((a * d - b * c) * (q - v) - (p * v - q * u) * (b - d)) (Int.gcd (Int.gcd ((c - a) * (p * v - q * u) - (u - p) * (a * d - b * c)) ((a * d - b * c) * (q - v) - (p * v - q * u) * (b - d)) : Int) ((b - d) * (u - p) - (q - v) * (c - a)) : Int) (decide (((b - d) * (u - p) - (q - v) * (c - a)) < 0)))), .int .u64 (ww2 (shareZ ((a * d - b * c) * (q - v) - (p * v - q * u) * (b - d)) (Int.gcd (Int.gcd ((c - a) * (p * v - q * u) - (u - p) * (a * d - b * c)) ((a * d - b * c) * (q - v) - (p * v - q * u) * (b - d)) : Int) ((b - d) * (u - p) - (q - v) * (c - a)) : Int) (decide (((b - d) * (u - p) - (q - v) * (c - a)) < 0)))), .int .u64 (ww1 (shareZ ((a * d - b * c) * (q - v) - (p * v - q * u) * (b - d)) (Int.gcd (Int.gcd ((c - a) * (p * v - q * u) - (u - p) * (a * d - b * c)) ((a * d - b * c) * (q - v) - (p * v - q * u) * (b - d)) : Int) ((b - d) * (u - p) - (q - v) * (c - a)) : Int) (decide (((b - d) * (u - p) - (q - v) * (c - a)) < 0)))), .int .u64 (ww0 (shareZ ((a * d - b * c) * (q - v) - (p * v - q * u) * (b - d)) (Int.gcd (Int.gcd ((c - a) * (p * v - q * u) - (u - p) * (a * d - b * c)) ((a * d - b * c) * (q - v) - (p * v - q * u) * (b - d)) : Int) ((b - d) * (u - p) - (q - v) * (c - a)) : Int) (decide (((b - d) * (u - p) - (q - v) * (c - a)) < 0)))), .int .u64 (ww3 (shareZ ((b - d) * (u - p) - (q - v) * (c - a)) (Int.gcd (Int.gcd ((c - a) * (p * v - q * u) - (u - p) * (a * d - b * c)) ((a * d - b * c) * (q - v) - (p * v - q * u) * (b - d)) : Int) ((b - d) * (u - p) - (q - v) * (c - a)) : Int) (decide (((b - d) * (u - p) - (q - v) * (c - a)) < 0)))), .int .u64 (ww2 (shareZ ((b - d) * (u - p) - (q - v) * (c - a)) (Int.gcd (Int.gcd ((c - a) * (p * v - q * u) - (u - p) * (a * d - b * c)) ((a * d - b * c) * (q - v) - (p * v - q * u) * (b - d)) : Int) ((b - d) * (u - p) - (q - v) * (c - a)) : Int) (decide (((b - d) * (u - p) - (q - v) * (c - a)) < 0)))), .int .u64 (ww1 (shareZ ((b - d) * (u - p) - (q - v) * (c - a)) (Int.gcd (Int.gcd ((c - a) * (p * v - q * u) - (u - p) * (a * d - b * c)) ((a * d - b * c) * (q - v) - (p * v - q * u) * (b - d)) : Int) ((b - d) * (u - p) - (q - v) * (c - a)) : Int) (decide (((b - d) * (u - p) - (q - v) * (c - a)) < 0)))), .int .u64 (ww0 (shareZ ((b - d) * (u - p) - (q - v) * (c - a)) (Int.gcd (Int.gcd ((c - a) * (p * v - q * u) - (u - p) * (a * d - b * c)) ((a * d - b * c) * (q - v) - (p * v - q * u) * (b - d)) : Int) ((b - d) * (u - p) - (q - v) * (c - a)) : Int) (decide (((b - d) * (u - p) - (q - v) * (c - a)) < 0))))], .agg #[.int .u64 0, .int .u64 0, .int .u64 0, .int .u64 0, .int .u64 0, .int .u64 0, .int .u64 0, .int .u64 0, .int .u64 0, .int .u64 0, .int .u64 0, .int .u64 0]] := by
  unfold meetW
  rw [if_neg (meet_w0 h g), pt2_yes g, pt2_yes g', if_pos (by rfl)]
theorem meet_along {a b c d p q u v : Int} (h : turnZ a b c d p q = 0) (h' : turnZ a b c d u v = 0) : meetW a b c d p q u v = alongV a b c d p q u v := by
  have hd := turn_diff a b c d p q u v
  unfold meetW
  rw [if_pos (by omega)]
theorem bnd_x (a b c d p q u v : Int) (ha : In1 a) (hb : In1 b) (hc : In1 c) (hd : In1 d) (hp : In1 p) (hq : In1 q) (hu : In1 u) (hv : In1 v) : -9000000000000000000 ≤ ((c - a) * (p * v - q * u) - (u - p) * (a * d - b * c)) ∧ ((c - a) * (p * v - q * u) - (u - p) * (a * d - b * c)) ≤ 9000000000000000000 := by
  obtain ⟨x1, x2⟩ := mul_in (p := a) (q := d) (M := 1000000) (N := 1000000) ha.1 ha.2 hd.1 hd.2
  obtain ⟨x3, x4⟩ := mul_in (p := b) (q := c) (M := 1000000) (N := 1000000) hb.1 hb.2 hc.1 hc.2
  obtain ⟨y1, y2⟩ := mul_in (p := p) (q := v) (M := 1000000) (N := 1000000) hp.1 hp.2 hv.1 hv.2
  obtain ⟨y3, y4⟩ := mul_in (p := q) (q := u) (M := 1000000) (N := 1000000) hq.1 hq.2 hu.1 hu.2
  have e1 := mul_in (p := c - a) (q := p * v - q * u) (M := 2000000) (N := 2000000000000) (by omega) (by omega) (by omega) (by omega)
  have e2 := mul_in (p := u - p) (q := a * d - b * c) (M := 2000000) (N := 2000000000000) (by omega) (by omega) (by omega) (by omega)
  omega
theorem bnd_y (a b c d p q u v : Int) (ha : In1 a) (hb : In1 b) (hc : In1 c) (hd : In1 d) (hp : In1 p) (hq : In1 q) (hu : In1 u) (hv : In1 v) : -9000000000000000000 ≤ ((a * d - b * c) * (q - v) - (p * v - q * u) * (b - d)) ∧ ((a * d - b * c) * (q - v) - (p * v - q * u) * (b - d)) ≤ 9000000000000000000 := by
  obtain ⟨x1, x2⟩ := mul_in (p := a) (q := d) (M := 1000000) (N := 1000000) ha.1 ha.2 hd.1 hd.2
  obtain ⟨x3, x4⟩ := mul_in (p := b) (q := c) (M := 1000000) (N := 1000000) hb.1 hb.2 hc.1 hc.2
  obtain ⟨y1, y2⟩ := mul_in (p := p) (q := v) (M := 1000000) (N := 1000000) hp.1 hp.2 hv.1 hv.2
  obtain ⟨y3, y4⟩ := mul_in (p := q) (q := u) (M := 1000000) (N := 1000000) hq.1 hq.2 hu.1 hu.2
  have e1 := mul_in (p := a * d - b * c) (q := q - v) (M := 2000000000000) (N := 2000000) (by omega) (by omega) (by omega) (by omega)
  have e2 := mul_in (p := p * v - q * u) (q := b - d) (M := 2000000000000) (N := 2000000) (by omega) (by omega) (by omega) (by omega)
  omega
theorem bnd_w (a b c d p q u v : Int) (ha : In1 a) (hb : In1 b) (hc : In1 c) (hd : In1 d) (hp : In1 p) (hq : In1 q) (hu : In1 u) (hv : In1 v) : -8000000000000 ≤ ((b - d) * (u - p) - (q - v) * (c - a)) ∧ ((b - d) * (u - p) - (q - v) * (c - a)) ≤ 8000000000000 := by
  obtain ⟨x1, x2⟩ := mul_in (p := a) (q := d) (M := 1000000) (N := 1000000) ha.1 ha.2 hd.1 hd.2
  obtain ⟨x3, x4⟩ := mul_in (p := b) (q := c) (M := 1000000) (N := 1000000) hb.1 hb.2 hc.1 hc.2
  obtain ⟨y1, y2⟩ := mul_in (p := p) (q := v) (M := 1000000) (N := 1000000) hp.1 hp.2 hv.1 hv.2
  obtain ⟨y3, y4⟩ := mul_in (p := q) (q := u) (M := 1000000) (N := 1000000) hq.1 hq.2 hu.1 hu.2
  have e1 := mul_in (p := b - d) (q := u - p) (M := 2000000) (N := 2000000) (by omega) (by omega) (by omega) (by omega)
  have e2 := mul_in (p := q - v) (q := c - a) (M := 2000000) (N := 2000000) (by omega) (by omega) (by omega) (by omega)
  omega
theorem m4_keep0 {a b c d p q u v : Int} {w W : World} {gd gn : Nat} {ds ns : Bool} {do1 no : Option Addr} {dn dc nn nc : Nat} (T0 : ArgsB w W [[.int .i64 a, .int .i64 b, .int .i64 c, .int .i64 d], [.int .i64 p, .int .i64 q, .int .i64 u, .int .i64 v], [.bool false, .slice none 0 0, .bool false, .slice none 0 0, .bool false, .slice none 0 0], [.bool false, .slice none 0 0, .bool false, .slice none 0 0, .bool false, .slice none 0 0]]) (Bd : Blk W gd [.bool ds, .slice do1 dn dc]) (Bn : Blk W gn [.bool ns, .slice no nn nc]) : (fun w' => w'.cell? ⟨w.heap.size, 0, none⟩ = some (.int .i64 a) ∧ w'.cell? ⟨gd, 0, none⟩ = some (.bool ds) ∧ w'.cell? ⟨gd, 1, none⟩ = some (.slice do1 dn dc) ∧ w'.cell? ⟨gn, 0, none⟩ = some (.bool ns) ∧ w'.cell? ⟨gn, 1, none⟩ = some (.slice no nn nc)) W := ⟨(T0.b 0 rfl).c 0 rfl, Bd.c 0 rfl, Bd.c 1 rfl, Bn.c 0 rfl, Bn.c 1 rfl⟩
theorem m4_keep1 {a b c d p q u v : Int} {w W : World} {gd gn : Nat} {ds ns : Bool} {do1 no : Option Addr} {dn dc nn nc : Nat} (T0 : ArgsB w W [[.int .i64 a, .int .i64 b, .int .i64 c, .int .i64 d], [.int .i64 p, .int .i64 q, .int .i64 u, .int .i64 v], [.bool false, .slice none 0 0, .bool false, .slice none 0 0, .bool false, .slice none 0 0], [.bool false, .slice none 0 0, .bool false, .slice none 0 0, .bool false, .slice none 0 0]]) (Bd : Blk W gd [.bool ds, .slice do1 dn dc]) (Bn : Blk W gn [.bool ns, .slice no nn nc]) : (fun w' => w'.cell? ⟨w.heap.size, 1, none⟩ = some (.int .i64 b) ∧ w'.cell? ⟨gd, 0, none⟩ = some (.bool ds) ∧ w'.cell? ⟨gd, 1, none⟩ = some (.slice do1 dn dc) ∧ w'.cell? ⟨gn, 0, none⟩ = some (.bool ns) ∧ w'.cell? ⟨gn, 1, none⟩ = some (.slice no nn nc)) W := ⟨(T0.b 0 rfl).c 1 rfl, Bd.c 0 rfl, Bd.c 1 rfl, Bn.c 0 rfl, Bn.c 1 rfl⟩
end Go.Proofs.YteakhlipmmfilaaGreat
