/- Part 10 of the walks that the proof leans on. -/
import Derived.Test.YtpnnpkchogooaaaGreatPart9
import Derived.Test.YtpnnpkchogooaaaGreatPart8
set_option maxRecDepth 100000
set_option maxHeartbeats 8000000
namespace Go.Proofs.YtpnnpkchogooaaaGreat
open Go.RowKit
theorem share_quot {v V g z : Int} (hV : V = if z < 0 then -v else v) (hg : 0 < g) (hd : g ∣ v) : V / g = shareZ v g (decide (z < 0)) := by
 obtain ⟨a, rfl⟩ := hd
 have hd : ∀ z : Int, (g * z) / g = z := fun z => Int.mul_ediv_cancel_left z (by omega)
 have hn : (((g * a).natAbs : Nat) : Int) / g = (a.natAbs : Int) := by
   rw [Int.natAbs_mul, Int.natCast_mul, Int.natAbs_of_nonneg (by omega)]
   exact hd _
 have hs : g * a < 0 ↔ a < 0 := by
   constructor
   · intro h
     apply Decidable.byContradiction
     intro h'
     have := Int.mul_nonneg (a := g) (b := a) (by omega) (by omega)
     omega
   · intro h
     exact Int.mul_neg_of_pos_of_neg hg h
 unfold shareZ
 rw [hn, hV]
 simp only [hs]
 by_cases h2 : z < 0
 · rw [if_pos h2, ← Int.mul_neg, hd]
   by_cases h1 : a < 0 <;> simp [h1, h2] <;> omega
 · rw [if_neg h2, hd]
   by_cases h1 : a < 0 <;> simp [h1, h2] <;> omega
theorem low3 {x y z X Y Z : Int} (hX : X = if z < 0 then -x else x) (hY : Y = if z < 0 then -y else y) (hZ : Z = if z < 0 then -z else z) (hz : z ≠ 0) : X / (Int.gcd (Int.gcd x y : Int) z : Int) = shareZ x (Int.gcd (Int.gcd x y : Int) z : Int) (decide (z < 0)) ∧ Y / (Int.gcd (Int.gcd x y : Int) z : Int) = shareZ y (Int.gcd (Int.gcd x y : Int) z : Int) (decide (z < 0)) ∧ Z / (Int.gcd (Int.gcd x y : Int) z : Int) = shareZ z (Int.gcd (Int.gcd x y : Int) z : Int) (decide (z < 0)) ∧ (Int.gcd (Int.gcd X Y : Int) Z : Int) = (Int.gcd (Int.gcd x y : Int) z : Int) ∧ 0 < (Int.gcd (Int.gcd x y : Int) z : Int) := by
 have g0 : 0 < Int.gcd (Int.gcd x y : Int) z := Int.gcd_pos_of_ne_zero_right _ hz
 have hgp : 0 < (Int.gcd (Int.gcd x y : Int) z : Int) := by omega
 have dxy : (Int.gcd (Int.gcd x y : Int) z : Int) ∣ (Int.gcd x y : Int) := Int.gcd_dvd_left _ _
 refine ⟨share_quot hX hgp (Int.dvd_trans dxy (Int.gcd_dvd_left _ _)), share_quot hY hgp (Int.dvd_trans dxy (Int.gcd_dvd_right _ _)), share_quot hZ hgp (Int.gcd_dvd_right _ _), ?_, hgp⟩
 rw [hX, hY, hZ]
 split
 · simp [Int.gcd]
 · rfl
def CutT3 (w wx : World) (x y z : Int) (k : Nat) : Prop :=
 ∃ (s1 : Bool) (o1 : Option Addr) (n1 c1 : Nat) (d1 : List Int) (s2 : Bool) (o2 : Option Addr) (n2 c2 : Nat) (d2 : List Int) (s3 : Bool) (o3 : Option Addr) (n3 c3 : Nat) (d3 : List Int), ArgsB w wx [[.bool s1, .slice o1 n1 c1], [.bool s2, .slice o2 n2 c2], [.bool s3, .slice o3 n3 c3], [.bool false, .slice none 0 0, .bool false, .slice none 0 0, .bool false, .slice none 0 0]] ∧ IsNum wx s1 o1 n1 c1 d1 x k ∧ IsNum wx s2 o2 n2 c2 d2 y k ∧ IsNum wx s3 o3 n3 c3 d3 z k
theorem ArgsB.w0 {w W : World} {a0 a1 u0 u1 : Value} {b c r : List Value} (h : ArgsB w W [[a0, a1], b, c, r]) : ArgsB w ((W.setCell ⟨w.heap.size, 0, none⟩ u0).setCell ⟨w.heap.size, 1, none⟩ u1) [[u0, u1], b, c, r] := by
 refine ⟨(h.1.setCell (by simp) _).setCell (by simp) _, fun j vs hj => ?_⟩
 match j, hj with
 | 0, hj => cases hj; exact Blk.stored2 (h.b 0 rfl) _ _
 | 1, hj => cases hj; exact Blk.set2 (h.b 1 rfl) (by omega)
 | 2, hj => cases hj; exact Blk.set2 (h.b 2 rfl) (by omega)
 | 3, hj => cases hj; exact Blk.set2 (h.b 3 rfl) (by omega)
 | j + 4, hj => simp at hj
theorem ArgsB.w1 {w W : World} {a0 a1 u0 u1 : Value} {b c r : List Value} (h : ArgsB w W [b, [a0, a1], c, r]) : ArgsB w ((W.setCell ⟨w.heap.size + 1, 0, none⟩ u0).setCell ⟨w.heap.size + 1, 1, none⟩ u1) [b, [u0, u1], c, r] := by
 refine ⟨(h.1.setCell (by simp) _).setCell (by simp) _, fun j vs hj => ?_⟩
 match j, hj with
 | 0, hj => cases hj; exact Blk.set2 (h.b 0 rfl) (by omega)
 | 1, hj => cases hj; exact Blk.stored2 (h.b 1 rfl) _ _
 | 2, hj => cases hj; exact Blk.set2 (h.b 2 rfl) (by omega)
 | 3, hj => cases hj; exact Blk.set2 (h.b 3 rfl) (by omega)
 | j + 4, hj => simp at hj
theorem ArgsB.w2 {w W : World} {a0 a1 u0 u1 : Value} {b c r : List Value} (h : ArgsB w W [b, c, [a0, a1], r]) : ArgsB w ((W.setCell ⟨w.heap.size + 1 + 1, 0, none⟩ u0).setCell ⟨w.heap.size + 1 + 1, 1, none⟩ u1) [b, c, [u0, u1], r] := by
 refine ⟨(h.1.setCell (by simp; omega) _).setCell (by simp; omega) _, fun j vs hj => ?_⟩
 match j, hj with
 | 0, hj => cases hj; exact Blk.set2 (h.b 0 rfl) (by omega)
 | 1, hj => cases hj; exact Blk.set2 (h.b 1 rfl) (by omega)
 | 2, hj => cases hj; exact Blk.stored2 (h.b 2 rfl) _ _
 | 3, hj => cases hj; exact Blk.set2 (h.b 3 rfl) (by omega)
 | j + 4, hj => simp at hj
theorem cutT3_up {w W : World} {x y z : Int} {k : Nat} {p q r : Bool} {po qo ro : Option Addr} {p1 p2 q1 q2 r1 r2 : Nat} {s1 : Bool} {o1 : Option Addr} {n1 c1 : Nat} {d1 : List Int} {s2 : Bool} {o2 : Option Addr} {n2 c2 : Nat} {d2 : List Int} {s3 : Bool} {o3 : Option Addr} {n3 c3 : Nat} {d3 : List Int} (h : ArgsB w W [[.bool p, .slice po p1 p2], [.bool q, .slice qo q1 q2], [.bool r, .slice ro r1 r2], [.bool false, .slice none 0 0, .bool false, .slice none 0 0, .bool false, .slice none 0 0]]) (N1 : IsNum W s1 o1 n1 c1 d1 x k) (N2 : IsNum W s2 o2 n2 c2 d2 y k) (N3 : IsNum W s3 o3 n3 c3 d3 z k) :
   CutT3 w ((((((W.setCell ⟨w.heap.size, 0, none⟩ (.bool s1)).setCell ⟨w.heap.size, 1, none⟩ (.slice o1 n1 c1)).setCell ⟨w.heap.size + 1, 0, none⟩ (.bool s2)).setCell ⟨w.heap.size + 1, 1, none⟩ (.slice o2 n2 c2)).setCell ⟨w.heap.size + 1 + 1, 0, none⟩ (.bool s3)).setCell ⟨w.heap.size + 1 + 1, 1, none⟩ (.slice o3 n3 c3)) x y z k := by
 have A0 : Blk W w.heap.size _ := h.b 0 rfl
 have A1 : Blk ((W.setCell ⟨w.heap.size, 0, none⟩ (.bool s1)).setCell ⟨w.heap.size, 1, none⟩ (.slice o1 n1 c1)) (w.heap.size + 1) _ := (h.w0 (u0 := .bool s1) (u1 := .slice o1 n1 c1)).b 1 rfl
 have A2 : Blk ((((W.setCell ⟨w.heap.size, 0, none⟩ (.bool s1)).setCell ⟨w.heap.size, 1, none⟩ (.slice o1 n1 c1)).setCell ⟨w.heap.size + 1, 0, none⟩ (.bool s2)).setCell ⟨w.heap.size + 1, 1, none⟩ (.slice o2 n2 c2)) (w.heap.size + 1 + 1) _ := (h.w0 (u0 := .bool s1) (u1 := .slice o1 n1 c1)).w1.b 2 rfl
 exact ⟨s1, o1, n1, c1, d1, s2, o2, n2, c2, d2, s3, o3, n3, c3, d3, h.w0.w1.w2, num_put (num_put (num_put N1 A0 _ _) A1 _ _) A2 _ _, num_put (num_put (num_put N2 A0 _ _) A1 _ _) A2 _ _, num_put (num_put (num_put N3 A0 _ _) A1 _ _) A2 _ _⟩
theorem m3_cells {s4 : Bool} {o4 : Option Addr} {n4 c4 : Nat} {s5 : Bool} {o5 : Option Addr} {n5 c5 : Nat} {s6 : Bool} {o6 : Option Addr} {n6 c6 : Nat} {w W : World} (h : ArgsB w W [[.bool s4, .slice o4 n4 c4], [.bool s5, .slice o5 n5 c5], [.bool s6, .slice o6 n6 c6], [.bool false, .slice none 0 0, .bool false, .slice none 0 0, .bool false, .slice none 0 0]]) : (fun w' => w'.cell? ⟨w.heap.size, 0, none⟩ = some (.bool s4) ∧ w'.cell? ⟨w.heap.size, 1, none⟩ = some (.slice o4 n4 c4) ∧ w'.cell? ⟨w.heap.size + 1, 0, none⟩ = some (.bool s5) ∧ w'.cell? ⟨w.heap.size + 1, 1, none⟩ = some (.slice o5 n5 c5) ∧ w'.cell? ⟨w.heap.size + 2, 0, none⟩ = some (.bool s6) ∧ w'.cell? ⟨w.heap.size + 2, 1, none⟩ = some (.slice o6 n6 c6)) W := ⟨(h.b 0 rfl).c 0 rfl, (h.b 0 rfl).c 1 rfl, (h.b 1 rfl).c 0 rfl, (h.b 1 rfl).c 1 rfl, (h.b 2 rfl).c 0 rfl, (h.b 2 rfl).c 1 rfl⟩
theorem l3Make_any (s1 : Bool) (o1 : Option Addr) (n1 c1 : Nat) (d1 : List Int) (s2 : Bool) (o2 : Option Addr) (n2 c2 : Nat) (d2 : List Int) (s3 : Bool) (o3 : Option Addr) (n3 c3 : Nat) (d3 : List Int) (x y z : Int) (k : Nat) (hk : 2 ≤ k) (hk2 : k ≤ 8000) (w : World) (N1 : IsNum w s1 o1 n1 c1 d1 x k) (N2 : IsNum w s2 o2 n2 c2 d2 y k) (N3 : IsNum w s3 o3 n3 c3 d3 z k) (hz : z ≠ 0) :
   Calls Tryz.prog 90 #[.agg #[.bool s1, .slice o1 n1 c1], .agg #[.bool s2, .slice o2 n2 c2], .agg #[.bool s3, .slice o3 n3 c3]] w (L3P (k + 3) (shareZ x (Int.gcd (Int.gcd x y : Int) z : Int) (decide (z < 0))) (shareZ y (Int.gcd (Int.gcd x y : Int) z : Int) (decide (z < 0))) (shareZ z (Int.gcd (Int.gcd x y : Int) z : Int) (decide (z < 0))) w) := by
 have T0 : ArgsB w ((((w.alloc (.cells #[.bool s1, .slice o1 n1 c1] 73)).alloc (.cells #[.bool s2, .slice o2 n2 c2] 73)).alloc (.cells #[.bool s3, .slice o3 n3 c3] 73)).alloc (.cells #[.bool false, .slice none 0 0, .bool false, .slice none 0 0, .bool false, .slice none 0 0] 92)) [[.bool s1, .slice o1 n1 c1], [.bool s2, .slice o2 n2 c2], [.bool s3, .slice o3 n3 c3], [.bool false, .slice none 0 0, .bool false, .slice none 0 0, .bool false, .slice none 0 0]] := ar4 _ _ _ _ _ _ _ _ w
 replace N1 := N1.step T0.below
 replace N2 := N2.step T0.below
 replace N3 := N3.step T0.below
 obtain ⟨X, hX⟩ : ∃ X, X = if z < 0 then -x else x := ⟨_, rfl⟩
 obtain ⟨Y, hY⟩ : ∃ Y, Y = if z < 0 then -y else y := ⟨_, rfl⟩
 obtain ⟨Z, hZ⟩ : ∃ Z, Z = if z < 0 then -z else z := ⟨_, rfl⟩
 obtain ⟨e1, e2, e3, e4, e5⟩ := low3 hX hY hZ hz
 go_enter Tryz.func90, Tryz.ntmps90
 go_upto_region 1 with fail
 generalize ((((w.alloc (.cells #[.bool s1, .slice o1 n1 c1] 73)).alloc (.cells #[.bool s2, .slice o2 n2 c2] 73)).alloc (.cells #[.bool s3, .slice o3 n3 c3] 73)).alloc (.cells #[.bool false, .slice none 0 0, .bool false, .slice none 0 0, .bool false, .slice none 0 0] 92)) = W at *
 go_cut [9] (fun p wx => p = .bool (decide (z < 0)) ∧ wx = W)
 case first =>
   have HN : Hid (s3 = decide (z < 0)) := N3.neg
   have aB : Blk _ (w.heap.size) _ := T0.b 0 rfl; obtain ⟨a0c, a0f, a1c, a1f⟩ := aB.cf2; have alt := aB.lt; clear aB; have bB : Blk _ (w.heap.size + 1) _ := T0.b 1 rfl; obtain ⟨b0c, b0f, b1c, b1f⟩ := bB.cf2; have blt := bB.lt; clear bB; have eB : Blk _ (w.heap.size + 1 + 1) _ := T0.b 2 rfl; obtain ⟨e0c, e0f, e1c, e1f⟩ := eB.cf2; have elt := eB.lt; clear eB
   go_wp2_with fail
   go_meet
   case rel => exact ⟨by rw [HN.out], rfl⟩
 case rest =>
  obtain ⟨rfl, rfl⟩ := hcut
  rename_i hk'
  refine hk' _ _ ?_
  go_cut [] (fun wx => CutT3 w wx X Y Z k)
  case first =>
   by_cases hn : z < 0
   · obtain rfl : s3 = true := by rw [N3.neg]; simpa using hn
     rw [if_pos hn] at hX hY hZ
     rw [decide_eq_true hn]
     have aB : Blk _ (w.heap.size) _ := T0.b 0 rfl; obtain ⟨a0c, a0f, a1c, a1f⟩ := aB.cf2; have alt := aB.lt; clear aB; have bB : Blk _ (w.heap.size + 1) _ := T0.b 1 rfl; obtain ⟨b0c, b0f, b1c, b1f⟩ := bB.cf2; have blt := bB.lt; clear bB; have eB : Blk _ (w.heap.size + 1 + 1) _ := T0.b 2 rfl; obtain ⟨e0c, e0f, e1c, e1f⟩ := eB.cf2; have elt := eB.lt; clear eB
     have tok1 : True := trivial
     have tok2 : True := trivial
     replace T0 := T0.drew; replace N1 := N1.drew; replace N2 := N2.drew; replace N3 := N3.drew
     go_wp2_with fail
     go_region_with ((first
       | (go_at_call 106; have _t := tok1; refine (neg_any s1 o1 n1 c1 d1 x k _ N1).mono ?_; rintro e w1 ⟨s4, o4, n4, c4, d4, rfl, N4, hB⟩; replace T0 := T0.step hB; replace N2 := N2.step hB; replace N3 := N3.step hB; clear hB tok1 _t a0c a0f a1c a1f alt b0c b0f b1c b1f blt e0c e0f e1c e1f elt; have aB : Blk _ (w.heap.size) _ := T0.b 0 rfl; obtain ⟨a0c, a0f, a1c, a1f⟩ := aB.cf2; have alt := aB.lt; clear aB; have bB : Blk _ (w.heap.size + 1) _ := T0.b 1 rfl; obtain ⟨b0c, b0f, b1c, b1f⟩ := bB.cf2; have blt := bB.lt; clear bB; have eB : Blk _ (w.heap.size + 1 + 1) _ := T0.b 2 rfl; obtain ⟨e0c, e0f, e1c, e1f⟩ := eB.cf2; have elt := eB.lt; clear eB)
       | (go_at_call 106; have _t := tok2; refine (neg_any s2 o2 n2 c2 d2 y k _ N2).mono ?_; rintro e w2 ⟨s5, o5, n5, c5, d5, rfl, N5, hB⟩; replace T0 := T0.step hB; replace N4 := N4.step hB; replace N3 := N3.step hB; clear hB tok2 _t a0c a0f a1c a1f alt b0c b0f b1c b1f blt e0c e0f e1c e1f elt; have aB : Blk _ (w.heap.size) _ := T0.b 0 rfl; obtain ⟨a0c, a0f, a1c, a1f⟩ := aB.cf2; have alt := aB.lt; clear aB; have bB : Blk _ (w.heap.size + 1) _ := T0.b 1 rfl; obtain ⟨b0c, b0f, b1c, b1f⟩ := bB.cf2; have blt := bB.lt; clear bB; have eB : Blk _ (w.heap.size + 1 + 1) _ := T0.b 2 rfl; obtain ⟨e0c, e0f, e1c, e1f⟩ := eB.cf2; have elt := eB.lt; clear eB)
       | (go_at_call 106; refine (neg_any true o3 n3 c3 d3 z k _ N3).mono ?_; rintro e w3 ⟨s6, o6, n6, c6, d6, rfl, N6, hB⟩; replace T0 := T0.step hB; replace N4 := N4.step hB; replace N5 := N5.step hB; clear hB a0c a0f a1c a1f alt b0c b0f b1c b1f blt e0c e0f e1c e1f elt; have aB : Blk _ (w.heap.size) _ := T0.b 0 rfl; obtain ⟨a0c, a0f, a1c, a1f⟩ := aB.cf2; have alt := aB.lt; clear aB; have bB : Blk _ (w.heap.size + 1) _ := T0.b 1 rfl; obtain ⟨b0c, b0f, b1c, b1f⟩ := bB.cf2; have blt := bB.lt; clear bB; have eB : Blk _ (w.heap.size + 1 + 1) _ := T0.b 2 rfl; obtain ⟨e0c, e0f, e1c, e1f⟩ := eB.cf2; have elt := eB.lt; clear eB)))
     all_goals go_wp2_with fail
     all_goals go_meet
     all_goals rw [← hX] at N4
     all_goals rw [← hY] at N5
     all_goals rw [← hZ] at N6
     all_goals first | exact cutT3_up T0 N4 N5 N6 | exact (cutT3_up T0 N4 N5 N6).drew
   · obtain rfl : s3 = false := by rw [N3.neg]; simpa using hn
     rw [if_neg hn] at hX hY hZ
     rw [decide_eq_false hn]
     subst hX hY hZ
     have aB : Blk _ (w.heap.size) _ := T0.b 0 rfl; obtain ⟨a0c, a0f, a1c, a1f⟩ := aB.cf2; have alt := aB.lt; clear aB; have bB : Blk _ (w.heap.size + 1) _ := T0.b 1 rfl; obtain ⟨b0c, b0f, b1c, b1f⟩ := bB.cf2; have blt := bB.lt; clear bB; have eB : Blk _ (w.heap.size + 1 + 1) _ := T0.b 2 rfl; obtain ⟨e0c, e0f, e1c, e1f⟩ := eB.cf2; have elt := eB.lt; clear eB
     go_wp2_with fail
     go_meet
     case rel => exact ⟨s1, o1, n1, c1, d1, s2, o2, n2, c2, d2, false, o3, n3, c3, d3, T0, N1, N2, N3⟩
  case rest =>
   clear T0 N1 N2 N3 hk'
   obtain ⟨s4, o4, n4, c4, d4, s5, o5, n5, c5, d5, s6, o6, n6, c6, d6, T0, N1, N2, N3⟩ := hcut
   have tok1 : True := trivial
   have hl0 := (T0.b 3 rfl).lt
   go_upto_region 3 with fail
   go_cut [7] (fun p wx => CutN w wx [[.bool s4, .slice o4 n4 c4], [.bool s5, .slice o5 n5 c5], [.bool s6, .slice o6 n6 c6], [.bool false, .slice none 0 0, .bool false, .slice none 0 0, .bool false, .slice none 0 0]] (Int.gcd (Int.gcd x y : Int) z : Int) k (w.heap.size + 4) p ∧ IsNum wx s4 o4 n4 c4 d4 X k ∧ IsNum wx s5 o5 n5 c5 d5 Y k ∧ IsNum wx s6 o6 n6 c6 d6 Z k)
   case first =>
     go_region_held3 (fun w' => w'.cell? ⟨w.heap.size, 0, none⟩ = some (.bool s4) ∧ w'.cell? ⟨w.heap.size, 1, none⟩ = some (.slice o4 n4 c4) ∧ w'.cell? ⟨w.heap.size + 1, 0, none⟩ = some (.bool s5) ∧ w'.cell? ⟨w.heap.size + 1, 1, none⟩ = some (.slice o5 n5 c5) ∧ w'.cell? ⟨w.heap.size + 2, 0, none⟩ = some (.bool s6) ∧ w'.cell? ⟨w.heap.size + 2, 1, none⟩ = some (.slice o6 n6 c6)) ((refine m3_cells ?_ <;> repeat (first | (with_reducible exact T0) | (with_reducible refine ArgsB.drew ?_) | (with_reducible refine ArgsB.alloc ?_ _) | (with_reducible refine ArgsB.set2g ?_ (by simp; omega) _ _))))
       (first
         | (go_at_call 107; have _t := tok1; refine (gcd_any s4 s5 o4 o5 n4 n5 c4 c5 k d4 d5 _ _ _ (by with_reducible first | exact N1 | exact N1.drew | exact N1.alloc _ | exact (N1.alloc _).drew) (by with_reducible first | exact N2 | exact N2.drew | exact N2.alloc _ | exact (N2.alloc _).drew) (by omega)).mono ?_; rintro e k1 ⟨s7, o7, n7, c7, d7, rfl, N7, hB⟩; (first | (have T1 : ArgsB w k1 _ := (by with_reducible exact T0.step hB); have tltk1 := (T0.b 3 rfl).lt; replace N1 := N1.below hB; replace N2 := N2.below hB; replace N3 := N3.below hB; (try (replace G0 := G0.step hB; obtain ⟨j0c, j0f, j1c, j1f⟩ := G0.cf2; have jlt := G0.lt))) | (have T1 : ArgsB w k1 _ := (by with_reducible exact T0.drew.step hB); have tltk1 := (T0.b 3 rfl).lt; replace N1 := N1.drew.below hB; replace N2 := N2.drew.below hB; replace N3 := N3.drew.below hB; (try (replace G0 := G0.drew.step hB; obtain ⟨j0c, j0f, j1c, j1f⟩ := G0.cf2; have jlt := G0.lt))) | (have T1 : ArgsB w k1 _ := (by with_reducible exact (T0.alloc _).step hB); have tltk1 := (T0.b 3 rfl).lt; replace N1 := (N1.alloc _).below hB; replace N2 := (N2.alloc _).below hB; replace N3 := (N3.alloc _).below hB; (have G0 := (Blk.new _ [.bool false, .slice none 0 0] _ rfl).step hB; obtain ⟨j0c, j0f, j1c, j1f⟩ := G0.cf2; have jlt := G0.lt)) | (have T1 : ArgsB w k1 _ := (by with_reducible exact (T0.alloc _).drew.step hB); have tltk1 := (T0.b 3 rfl).lt; replace N1 := (N1.alloc _).drew.below hB; replace N2 := (N2.alloc _).drew.below hB; replace N3 := (N3.alloc _).drew.below hB; (have G0 := (Blk.new _ [.bool false, .slice none 0 0] _ rfl).drew.step hB; obtain ⟨j0c, j0f, j1c, j1f⟩ := G0.cf2; have jlt := G0.lt))); clear T0; have T0 := T1; clear T1; clear hB tok1 _t)
         | (go_at_call 107; refine (gcd_any s7 s6 o7 o6 n7 n6 c7 c6 k d7 d6 _ _ _ (by with_reducible first | exact N7 | exact N7.drew | exact N7.alloc _ | exact (N7.alloc _).drew) (by with_reducible first | exact N3 | exact N3.drew | exact N3.alloc _ | exact (N3.alloc _).drew) (by omega)).mono ?_; rintro e k2 ⟨s8, o8, n8, c8, d8, rfl, N8, hB⟩; (first | (have T1 : ArgsB w k2 _ := (by with_reducible exact T0.step hB); have tltk2 := (T0.b 3 rfl).lt; replace N1 := N1.below hB; replace N2 := N2.below hB; replace N3 := N3.below hB; (try (replace G0 := G0.step hB; obtain ⟨j0c, j0f, j1c, j1f⟩ := G0.cf2; have jlt := G0.lt))) | (have T1 : ArgsB w k2 _ := (by with_reducible exact T0.drew.step hB); have tltk2 := (T0.b 3 rfl).lt; replace N1 := N1.drew.below hB; replace N2 := N2.drew.below hB; replace N3 := N3.drew.below hB; (try (replace G0 := G0.drew.step hB; obtain ⟨j0c, j0f, j1c, j1f⟩ := G0.cf2; have jlt := G0.lt))) | (have T1 : ArgsB w k2 _ := (by with_reducible exact (T0.alloc _).step hB); have tltk2 := (T0.b 3 rfl).lt; replace N1 := (N1.alloc _).below hB; replace N2 := (N2.alloc _).below hB; replace N3 := (N3.alloc _).below hB; (have G0 := (Blk.new _ [.bool false, .slice none 0 0] _ rfl).step hB; obtain ⟨j0c, j0f, j1c, j1f⟩ := G0.cf2; have jlt := G0.lt)) | (have T1 : ArgsB w k2 _ := (by with_reducible exact (T0.alloc _).drew.step hB); have tltk2 := (T0.b 3 rfl).lt; replace N1 := (N1.alloc _).drew.below hB; replace N2 := (N2.alloc _).drew.below hB; replace N3 := (N3.alloc _).drew.below hB; (have G0 := (Blk.new _ [.bool false, .slice none 0 0] _ rfl).drew.step hB; obtain ⟨j0c, j0f, j1c, j1f⟩ := G0.cf2; have jlt := G0.lt))); clear T0; have T0 := T1; clear T1; clear hB; rw [e4] at N8))
     all_goals go_wp2_with fail
     all_goals go_meet
     all_goals have hl := (T0.b 3 rfl).lt
     all_goals first | (with_reducible exact ⟨cutN_new T0 N8 (by omega), N1.alloc _, N2.alloc _, N3.alloc _⟩) | (with_reducible exact ⟨cutN_set T0 N8 G0 (by omega) (by simp; omega), N1.set2 G0 _ _, N2.set2 G0 _ _, N3.set2 G0 _ _⟩)
   case rest =>
    clear T0 N1 N2 N3 hl0 tok1
    obtain ⟨⟨gb, s7, o7, n7, c7, d7, hp, hgb, GB, N7, T0⟩, N1, N2, N3⟩ := hcut
    subst hp
    go_upto_region 4 with fail
    obtain ⟨q, hq⟩ : ∃ q, cmpI (Int.gcd (Int.gcd x y : Int) z : Int) 1 = q := ⟨_, rfl⟩
    go_cut [24] (fun p wx => p = .bool (!(q == 0)) ∧ ArgsB w wx [[.bool s4, .slice o4 n4 c4], [.bool s5, .slice o5 n5 c5], [.bool s6, .slice o6 n6 c6], [.bool false, .slice none 0 0, .bool false, .slice none 0 0, .bool false, .slice none 0 0]] ∧ Blk wx gb [.bool s7, .slice o7 n7 c7] ∧ IsNum wx s4 o4 n4 c4 d4 X k ∧ IsNum wx s5 o5 n5 c5 d5 Y k ∧ IsNum wx s6 o6 n6 c6 d6 Z k ∧ IsNum wx s7 o7 n7 c7 d7 (Int.gcd (Int.gcd x y : Int) z : Int) k)
    case first =>
      replace N7 := N7.drew; replace N1 := N1.drew; replace N2 := N2.drew; replace N3 := N3.drew; replace T0 := T0.drew
      go_region_held3 (fun w' => w'.cell? ⟨gb, 0, none⟩ = some (.bool s7) ∧ w'.cell? ⟨gb, 1, none⟩ = some (.slice o7 n7 c7)) ((refine mk_cells ?_ <;> repeat (first | (with_reducible exact GB) | (with_reducible refine Blk.drew ?_))))
        (first
          | (go_at_call 67; refine (int_any 1 _ (by decide) (by decide)).mono ?_; rintro e w4 ⟨s9, o9, n9, c9, d9, rfl, N9, hB⟩; replace GB := GB.drew.step hB; replace T0 := T0.step hB; replace N1 := N1.step hB; replace N2 := N2.step hB; replace N3 := N3.step hB; replace N7 := N7.step hB; clear hB)
          | (go_at_call 108; refine (cmp_any s7 s9 o7 o9 n7 n9 c7 c9 k d7 d9 _ _ _ N7 (num_more N9 hk) (by omega)).mono ?_; rintro e w5 ⟨rfl, hB⟩; rw [hq]; replace GB := GB.step hB; replace T0 := T0.step hB; replace N1 := N1.step hB; replace N2 := N2.step hB; replace N3 := N3.step hB; replace N7 := N7.step hB; clear hB))
      all_goals go_wp2_with fail
      all_goals go_meet
      all_goals exact ⟨rfl, T0, GB, N1, N2, N3, N7⟩
    case rest =>
      clear T0 N1 N2 N3 N7 GB
      obtain ⟨rfl, T0, GB, N1, N2, N3, N7⟩ := hcut
      rename_i hk'
      refine hk' _ _ ?_
      have hlb := GB.lt
      go_cut [] (fun wx => CutT3 w wx (shareZ x (Int.gcd (Int.gcd x y : Int) z : Int) (decide (z < 0))) (shareZ y (Int.gcd (Int.gcd x y : Int) z : Int) (decide (z < 0))) (shareZ z (Int.gcd (Int.gcd x y : Int) z : Int) (decide (z < 0))) (k + 3))
      case first =>
        by_cases h1 : (Int.gcd (Int.gcd x y : Int) z : Int) = 1
        · obtain rfl : q = 0 := by rw [← hq, h1]; decide
          have f1 : X = shareZ x (Int.gcd (Int.gcd x y : Int) z : Int) (decide (z < 0)) := by rw [← e1, h1, Int.ediv_one]
          have f2 : Y = shareZ y (Int.gcd (Int.gcd x y : Int) z : Int) (decide (z < 0)) := by rw [← e2, h1, Int.ediv_one]
          have f3 : Z = shareZ z (Int.gcd (Int.gcd x y : Int) z : Int) (decide (z < 0)) := by rw [← e3, h1, Int.ediv_one]
          rw [f1] at N1
          rw [f2] at N2
          rw [f3] at N3
          go_wp2_with fail
          go_meet
          case rel => exact ⟨s4, o4, n4, c4, d4, s5, o5, n5, c5, d5, s6, o6, n6, c6, d6, T0, num_more N1 (by omega), num_more N2 (by omega), num_more N3 (by omega)⟩
        · have hq1 : (!(q == 0)) = true := by
            have h3 : q ≠ 0 := by
              rw [← hq, cmpI_gt (by omega)]
              decide
            simp [h3]
          rw [hq1]
          have aB : Blk _ (w.heap.size) _ := T0.b 0 rfl; obtain ⟨a0c, a0f, a1c, a1f⟩ := aB.cf2; have alt := aB.lt; clear aB; have bB : Blk _ (w.heap.size + 1) _ := T0.b 1 rfl; obtain ⟨b0c, b0f, b1c, b1f⟩ := bB.cf2; have blt := bB.lt; clear bB; have eB : Blk _ (w.heap.size + 1 + 1) _ := T0.b 2 rfl; obtain ⟨e0c, e0f, e1c, e1f⟩ := eB.cf2; have elt := eB.lt; clear eB
          obtain ⟨g0c, g1c⟩ := GB.cs2
          go_wp2_with fail
          refine (div_any s4 s7 o4 o7 n4 n7 c4 c7 k d4 d7 _ _ _ N1 N7 (by omega) (by omega)).mono ?_
          rintro e u0 ⟨s10, o10, n10, c10, d10, sr0, or0, nr0, cr0, dr0, rfl, M0, -, hB⟩
          rw [e1] at M0
          replace T0 := T0.step hB; replace GB := GB.step hB; replace N7 := N7.step hB; replace N2 := N2.step hB; replace N3 := N3.step hB
          clear hB g0c g1c N1 a0c a0f a1c a1f alt b0c b0f b1c b1f blt e0c e0f e1c e1f elt
          have aB : Blk _ (w.heap.size) _ := T0.b 0 rfl; obtain ⟨a0c, a0f, a1c, a1f⟩ := aB.cf2; have alt := aB.lt; clear aB; have bB : Blk _ (w.heap.size + 1) _ := T0.b 1 rfl; obtain ⟨b0c, b0f, b1c, b1f⟩ := bB.cf2; have blt := bB.lt; clear bB; have eB : Blk _ (w.heap.size + 1 + 1) _ := T0.b 2 rfl; obtain ⟨e0c, e0f, e1c, e1f⟩ := eB.cf2; have elt := eB.lt; clear eB
          go_upto_region 6 with fail
          clear a0c a0f a1c a1f alt b0c b0f b1c b1f blt e0c e0f e1c e1f elt
          have RB : Blk u0 (w.heap.size) _ := T0.b 0 rfl
          replace M0 := num_put M0 RB (.bool s10) (.slice o10 n10 c10)
          replace N2 := num_put N2 RB (.bool s10) (.slice o10 n10 c10)
          replace N3 := num_put N3 RB (.bool s10) (.slice o10 n10 c10)
          replace N7 := num_put N7 RB (.bool s10) (.slice o10 n10 c10)
          replace GB := GB.set2 (g := w.heap.size) (v0 := .bool s10) (v1 := .slice o10 n10 c10) (by omega)
          replace T0 := T0.w0 (u0 := .bool s10) (u1 := .slice o10 n10 c10)
          clear RB
          generalize ((u0.setCell ⟨w.heap.size, 0, none⟩ (.bool s10)).setCell ⟨w.heap.size, 1, none⟩ (.slice o10 n10 c10)) = U0 at *
          have aB : Blk _ (w.heap.size) _ := T0.b 0 rfl; obtain ⟨a0c, a0f, a1c, a1f⟩ := aB.cf2; have alt := aB.lt; clear aB; have bB : Blk _ (w.heap.size + 1) _ := T0.b 1 rfl; obtain ⟨b0c, b0f, b1c, b1f⟩ := bB.cf2; have blt := bB.lt; clear bB; have eB : Blk _ (w.heap.size + 1 + 1) _ := T0.b 2 rfl; obtain ⟨e0c, e0f, e1c, e1f⟩ := eB.cf2; have elt := eB.lt; clear eB
          obtain ⟨g0c, g1c⟩ := GB.cs2
          go_wp2_with fail
          refine (div_any s5 s7 o5 o7 n5 n7 c5 c7 k d5 d7 _ _ _ N2 N7 (by omega) (by omega)).mono ?_
          rintro e u1 ⟨s11, o11, n11, c11, d11, sr1, or1, nr1, cr1, dr1, rfl, M1, -, hB⟩
          rw [e2] at M1
          replace T0 := T0.step hB; replace GB := GB.step hB; replace N7 := N7.step hB; replace M0 := M0.step hB; replace N3 := N3.step hB
          clear hB g0c g1c N2 a0c a0f a1c a1f alt b0c b0f b1c b1f blt e0c e0f e1c e1f elt
          have aB : Blk _ (w.heap.size) _ := T0.b 0 rfl; obtain ⟨a0c, a0f, a1c, a1f⟩ := aB.cf2; have alt := aB.lt; clear aB; have bB : Blk _ (w.heap.size + 1) _ := T0.b 1 rfl; obtain ⟨b0c, b0f, b1c, b1f⟩ := bB.cf2; have blt := bB.lt; clear bB; have eB : Blk _ (w.heap.size + 1 + 1) _ := T0.b 2 rfl; obtain ⟨e0c, e0f, e1c, e1f⟩ := eB.cf2; have elt := eB.lt; clear eB
          go_upto_region 7 with fail
          clear a0c a0f a1c a1f alt b0c b0f b1c b1f blt e0c e0f e1c e1f elt
          have RB : Blk u1 (w.heap.size + 1) _ := T0.b 1 rfl
          replace M0 := num_put M0 RB (.bool s11) (.slice o11 n11 c11)
          replace M1 := num_put M1 RB (.bool s11) (.slice o11 n11 c11)
          replace N3 := num_put N3 RB (.bool s11) (.slice o11 n11 c11)
          replace N7 := num_put N7 RB (.bool s11) (.slice o11 n11 c11)
          replace GB := GB.set2 (g := w.heap.size + 1) (v0 := .bool s11) (v1 := .slice o11 n11 c11) (by omega)
          replace T0 := T0.w1 (u0 := .bool s11) (u1 := .slice o11 n11 c11)
          clear RB
          generalize ((u1.setCell ⟨w.heap.size + 1, 0, none⟩ (.bool s11)).setCell ⟨w.heap.size + 1, 1, none⟩ (.slice o11 n11 c11)) = U1 at *
          have aB : Blk _ (w.heap.size) _ := T0.b 0 rfl; obtain ⟨a0c, a0f, a1c, a1f⟩ := aB.cf2; have alt := aB.lt; clear aB; have bB : Blk _ (w.heap.size + 1) _ := T0.b 1 rfl; obtain ⟨b0c, b0f, b1c, b1f⟩ := bB.cf2; have blt := bB.lt; clear bB; have eB : Blk _ (w.heap.size + 1 + 1) _ := T0.b 2 rfl; obtain ⟨e0c, e0f, e1c, e1f⟩ := eB.cf2; have elt := eB.lt; clear eB
          obtain ⟨g0c, g1c⟩ := GB.cs2
          go_wp2_with fail
          refine (div_any s6 s7 o6 o7 n6 n7 c6 c7 k d6 d7 _ _ _ N3 N7 (by omega) (by omega)).mono ?_
          rintro e u2 ⟨s12, o12, n12, c12, d12, sr2, or2, nr2, cr2, dr2, rfl, M2, -, hB⟩
          rw [e3] at M2
          replace T0 := T0.step hB; replace GB := GB.step hB; replace N7 := N7.step hB; replace M0 := M0.step hB; replace M1 := M1.step hB
          clear hB g0c g1c N3 a0c a0f a1c a1f alt b0c b0f b1c b1f blt e0c e0f e1c e1f elt
          have aB : Blk _ (w.heap.size) _ := T0.b 0 rfl; obtain ⟨a0c, a0f, a1c, a1f⟩ := aB.cf2; have alt := aB.lt; clear aB; have bB : Blk _ (w.heap.size + 1) _ := T0.b 1 rfl; obtain ⟨b0c, b0f, b1c, b1f⟩ := bB.cf2; have blt := bB.lt; clear bB; have eB : Blk _ (w.heap.size + 1 + 1) _ := T0.b 2 rfl; obtain ⟨e0c, e0f, e1c, e1f⟩ := eB.cf2; have elt := eB.lt; clear eB
          clear a0c a0f a1c a1f alt b0c b0f b1c b1f blt e0c e0f e1c e1f elt
          have RB : Blk u2 (w.heap.size + 1 + 1) _ := T0.b 2 rfl
          obtain ⟨r0c, r0f, r1c, r1f⟩ := RB.cf2; have rlt := RB.lt
          have M3 := num_put M0 RB (.bool s12) (.slice o12 n12 c12)
          have M4 := num_put M1 RB (.bool s12) (.slice o12 n12 c12)
          have M5 := num_put M2 RB (.bool s12) (.slice o12 n12 c12)
          have T1 := T0.w2 (u0 := .bool s12) (u1 := .slice o12 n12 c12)
          clear M0 M1 M2 T0 RB GB N7
          go_wp2_with fail
          go_meet
          case rel => exact ⟨s10, o10, n10, c10, d10, s11, o11, n11, c11, d11, s12, o12, n12, c12, d12, T1, M3, M4, M5⟩
      case rest =>
        clear T0 N1 N2 N3 N7 GB hk' hlb
        obtain ⟨s10, o10, n10, c10, d10, s11, o11, n11, c11, d11, s12, o12, n12, c12, d12, T0, N1, N2, N3⟩ := hcut
        have aB : Blk _ (w.heap.size) _ := T0.b 0 rfl; obtain ⟨a0c, a0f, a1c, a1f⟩ := aB.cf2; have alt := aB.lt; clear aB; have bB : Blk _ (w.heap.size + 1) _ := T0.b 1 rfl; obtain ⟨b0c, b0f, b1c, b1f⟩ := bB.cf2; have blt := bB.lt; clear bB; have eB : Blk _ (w.heap.size + 1 + 1) _ := T0.b 2 rfl; obtain ⟨e0c, e0f, e1c, e1f⟩ := eB.cf2; have elt := eB.lt; clear eB
        have R0 : Blk _ (w.heap.size + 1 + 1 + 1) _ := T0.b 3 rfl
        obtain ⟨r0c, r0f, r1c, r1f, r2c, r2f, r3c, r3f, r4c, r4f, r5c, r5f⟩ := R0.cf6
        have rlt := R0.lt
        have HB := T0.below
        have M1 := num_set6 N1 R0 (.bool s10) (.slice o10 n10 c10) (.bool s11) (.slice o11 n11 c11) (.bool s12) (.slice o12 n12 c12)
        have M2 := num_set6 N2 R0 (.bool s10) (.slice o10 n10 c10) (.bool s11) (.slice o11 n11 c11) (.bool s12) (.slice o12 n12 c12)
        have M3 := num_set6 N3 R0 (.bool s10) (.slice o10 n10 c10) (.bool s11) (.slice o11 n11 c11) (.bool s12) (.slice o12 n12 c12)
        clear T0 N1 N2 N3 R0
        go_wp2
        refine bodyPost_ret (v := .agg #[.bool s10, .slice o10 n10 c10, .bool s11, .slice o11 n11 c11, .bool s12, .slice o12 n12 c12]) (by simp [results, Tryz.results90, go_sem, r0c, r1c, r2c, r3c, r4c, r5c]) rfl ?_
        refine ⟨s10, o10, n10, c10, d10, s11, o11, n11, c11, d11, s12, o12, n12, c12, d12, rfl, M1, M2, M3, ?_⟩
        repeat' (refine Below.setCell ?_ (by simp; try omega) _)
        exact HB
def ptV (x y z : Int) : Value := if small x && small y && small z then .tuple #[PV x y z, .bool true] else .tuple #[.agg #[.int .u64 0, .int .u64 0, .int .u64 0, .int .u64 0, .int .u64 0, .int .u64 0, .int .u64 0, .int .u64 0, .int .u64 0, .int .u64 0, .int .u64 0, .int .u64 0], .bool false]
def pmV (x y z : Int) : Value := if z = 0 then .tuple #[.agg #[.int .u64 0, .int .u64 0, .int .u64 0, .int .u64 0, .int .u64 0, .int .u64 0, .int .u64 0, .int .u64 0, .int .u64 0, .int .u64 0, .int .u64 0, .int .u64 0], .bool false] else ptV (shareZ x (Int.gcd (Int.gcd x y : Int) z : Int) (decide (z < 0))) (shareZ y (Int.gcd (Int.gcd x y : Int) z : Int) (decide (z < 0))) (shareZ z (Int.gcd (Int.gcd x y : Int) z : Int) (decide (z < 0)))
theorem ptV_ex (x y z : Int) : ∃ r0 r1 r2 r3 r4 r5 r6 r7 r8 r9 r10 r11 t, ptV x y z = .tuple #[.agg #[.int .u64 r0, .int .u64 r1, .int .u64 r2, .int .u64 r3, .int .u64 r4, .int .u64 r5, .int .u64 r6, .int .u64 r7, .int .u64 r8, .int .u64 r9, .int .u64 r10, .int .u64 r11], .bool t] := by
 unfold ptV
 split
 · exact ⟨_, _, _, _, _, _, _, _, _, _, _, _, true, rfl⟩
 · exact ⟨0, 0, 0, 0, 0, 0, 0, 0, 0, 0, 0, 0, false, rfl⟩
theorem pmV_ex (x y z : Int) : ∃ r0 r1 r2 r3 r4 r5 r6 r7 r8 r9 r10 r11 t, pmV x y z = .tuple #[.agg #[.int .u64 r0, .int .u64 r1, .int .u64 r2, .int .u64 r3, .int .u64 r4, .int .u64 r5, .int .u64 r6, .int .u64 r7, .int .u64 r8, .int .u64 r9, .int .u64 r10, .int .u64 r11], .bool t] := by
 unfold pmV
 split
 · exact ⟨0, 0, 0, 0, 0, 0, 0, 0, 0, 0, 0, 0, false, rfl⟩
 · exact ptV_ex _ _ _
theorem near_pm (g : Nat) (ao : Option Addr) (n cap : Nat) (cs : List Int) (w : World) (h : Rdr w g ao n cap cs) :
   Calls Tryz.prog 57 #[.pointer (some ⟨g, 0, none⟩), .int .i64 (-1000000), .int .i64 1000000] w (RdP g ao n cap cs (IsIn (-1000000) 1000001) w) := by
 go_enter Tryz.func57, Tryz.ntmps57
 go_wp2_with fail
 refine (below_any 8 (by decide) (by decide) g ao n cap cs _ h).mono ?_
 rintro e w1 ⟨_, rfl, ⟨x, rfl, x0, x1⟩, R, K⟩
 clear h
 by_cases h0 : x = 0
 · subst h0
   go_wp2
   go_ret
   exact ⟨_, rfl, ⟨_, rfl, by decide, by decide⟩, R, K⟩
 · by_cases h1 : x = 1
   · subst h1
     go_wp2
     go_ret
     exact ⟨_, rfl, ⟨_, rfl, by decide, by decide⟩, R, K⟩
   · have e0 : (x == 0) = false := by simpa using h0
     have e1 : (x == 1) = false := by simpa using h1
     go_wp2_with fail
     refine (word_any g ao n cap cs _ R).mono ?_
     rintro e w2 ⟨_, rfl, ⟨y, rfl, y0, y1⟩, R2, K2⟩
     replace K := K.trans K2
     clear R K2
     have hw : IntKind.u64.wrap 2000001 = 2000001 := by rw [IntKind.wrap_u64]; decide
     go_wp2
     go_ret
     exact ⟨_, rfl, ⟨_, rfl, by omega, by omega⟩, R2, K⟩
theorem near_p6 (g : Nat) (ao : Option Addr) (n cap : Nat) (cs : List Int) (w : World) (h : Rdr w g ao n cap cs) :
   Calls Tryz.prog 57 #[.pointer (some ⟨g, 0, none⟩), .int .i64 (-6), .int .i64 6] w (RdP g ao n cap cs (IsIn (-6) 7) w) := by
 go_enter Tryz.func57, Tryz.ntmps57
 go_wp2_with fail
 refine (below_any 8 (by decide) (by decide) g ao n cap cs _ h).mono ?_
 rintro e w1 ⟨_, rfl, ⟨x, rfl, x0, x1⟩, R, K⟩
 clear h
 by_cases h0 : x = 0
 · subst h0
   go_wp2
   go_ret
   exact ⟨_, rfl, ⟨_, rfl, by decide, by decide⟩, R, K⟩
 · by_cases h1 : x = 1
   · subst h1
     go_wp2
     go_ret
     exact ⟨_, rfl, ⟨_, rfl, by decide, by decide⟩, R, K⟩
   · have e0 : (x == 0) = false := by simpa using h0
     have e1 : (x == 1) = false := by simpa using h1
     go_wp2_with fail
     refine (word_any g ao n cap cs _ R).mono ?_
     rintro e w2 ⟨_, rfl, ⟨y, rfl, y0, y1⟩, R2, K2⟩
     replace K := K.trans K2
     clear R K2
     have hw : IntKind.u64.wrap 13 = 13 := by rw [IntKind.wrap_u64]; decide
     go_wp2
     go_ret
     exact ⟨_, rfl, ⟨_, rfl, by omega, by omega⟩, R2, K⟩
def IsSp6 (v : Value) : Prop := ∃ x y : Int, v = .agg #[.int .i64 x, .int .i64 y] ∧ -6 ≤ x ∧ x < 7 ∧ -6 ≤ y ∧ y < 7
theorem spot_any (g : Nat) (ao : Option Addr) (n cap : Nat) (cs : List Int) (w : World) (h : Rdr w g ao n cap cs) :
   Calls Tryz.prog 26 #[.pointer (some ⟨g, 0, none⟩)] w (RdP g ao n cap cs IsSp6 w) := by
 have hg := h.lt
 have hne : w.heap.size ≠ g := by omega
 have B := Blk.new w [.int .i64 0, .int .i64 0] 25 rfl
 have R := h.alloc (.cells #[.int .i64 0, .int .i64 0] 25)
 have K := (Kept.refl g w).alloc (.cells #[.int .i64 0, .int .i64 0] 25)
 clear h
 go_enter Tryz.func26, Tryz.ntmps26
 go_wp2_with fail
 refine (near_p6 g ao n cap cs _ R).mono ?_
 rintro e w1 ⟨_, rfl, ⟨y, rfl, y0, y1⟩, R1, K1⟩
 replace B := B.kept K1 hne; replace K := K.trans K1
 clear R K1
 have R := R1
 clear R1
 go_wp2_with fail
 refine (near_p6 g ao n cap cs _ R).mono ?_
 rintro e w2 ⟨_, rfl, ⟨y', rfl, y0', y1'⟩, R1, K1⟩
 replace B := B.kept K1 hne; replace K := K.trans K1
 clear R K1
 have R := R1
 clear R1
 obtain ⟨o0, f0, o1, f1⟩ := B.cf2; have ol := B.lt
 clear B
 go_wp2
 refine bodyPost_ret (v := .agg #[.int .i64 y, .int .i64 y']) (by simp [results, Tryz.results26, go_sem, o0, o1]) rfl ?_
 exact ⟨_, rfl, ⟨y, y', rfl, y0, y1, y0', y1'⟩, (R.setN (by exact hg) _).setN (by exact hg) _, (K.setN (by simp) (by simp; omega) _).setN (by simp) (by simp; omega) _⟩
end Go.Proofs.YtpnnpkchogooaaaGreat
