/- Part 7 of the walks that the proof leans on. -/
import Derived.Test.YtnnojeggjnddpaaPart6
import Derived.Test.YtnnojeggjnddpaaPart3
import Derived.Deep.RegionHeld3
import Derived.Deep.RegionWith
import Derived.Test.YtnnojeggjnddpaaPart4
import Derived.Test.YtnnojeggjnddpaaPart2
import Derived.Deep.DeepCutAuto
import Derived.Deep.QuietTactic
import Derived.BigQuiet
import Derived.Test.YtnnojeggjnddpaaPart5
/- The walk of the model's fraction in lowest terms. -/
namespace Go.Proofs.Ytnnojeggjnddpaa
open Go.RowKit
/-- Two numbers of digits in one answer. -/
def NumsP (k : Nat) (x y : Int) (w : World) (e : Ending) (w' : World) : Prop :=
  ∃ (s1 : Bool) (o1 : Option Addr) (n1 c1 : Nat) (d1 : List Int) (s2 : Bool) (o2 : Option Addr) (n2 c2 : Nat) (d2 : List Int), e = .returned (.agg #[.bool s1, .slice o1 n1 c1, .bool s2, .slice o2 n2 c2]) ∧ IsNum w' s1 o1 n1 c1 d1 x k ∧ IsNum w' s2 o2 n2 c2 d2 y k ∧ Below w.heap.size w w'
theorem nums_ret {w w3 : World} {x y : Int} {k : Nat} {s : Bool} {ao : Option Addr} {n cap : Nat} {ds : List Int} {t : Bool} {bo : Option Addr} {m c : Nat} {es : List Int} {R : Nat} (hR : w.heap.size ≤ R) (G : Blk w3 R [.bool false, .slice none 0 0, .bool false, .slice none 0 0]) (h : IsNum w3 s ao n cap ds x k) (h' : IsNum w3 t bo m c es y k) (hb : Below w.heap.size w w3) :
    NumsP k x y w (.returned (.agg #[.bool s, .slice ao n cap, .bool t, .slice bo m c])) ((((w3.setCell ⟨R, 0, none⟩ (.bool s)).setCell ⟨R, 1, none⟩ (.slice ao n cap)).setCell ⟨R, 2, none⟩ (.bool t)).setCell ⟨R, 3, none⟩ (.slice bo m c)) := by
  have G1 := G.setI 0 (by simp) (.bool s)
  have G2 := G1.setI 1 (by simp) (.slice ao n cap)
  have G3 := G2.setI 2 (by simp) (.bool t)
  refine ⟨s, ao, n, cap, ds, t, bo, m, c, es, rfl, ?_, ?_, (((hb.setCell hR _).setCell hR _).setCell hR _).setCell hR _⟩
  · exact (((h.set (G.c 0 rfl) (by simp) _).set (G1.c 1 rfl) (by simp) _).set (G2.c 2 rfl) (by simp) _).set (G3.c 3 rfl) (by simp) _
  · exact (((h'.set (G.c 0 rfl) (by simp) _).set (G1.c 1 rfl) (by simp) _).set (G2.c 2 rfl) (by simp) _).set (G3.c 3 rfl) (by simp) _
theorem NumsP.drew {k : Nat} {x y : Int} {w w' : World} {e : Ending} (h : NumsP k x y w e w') : NumsP k x y w e w'.drew := by
  obtain ⟨s1, o1, n1, c1, d1, s2, o2, n2, c2, d2, e, N1, N2, hB⟩ := h
  exact ⟨s1, o1, n1, c1, d1, s2, o2, n2, c2, d2, e, N1.drew, N2.drew, hB.drew⟩
/-- The two numbers as they lie in the arguments' places. -/
def CutM (w wx : World) (x y : Int) (k : Nat) : Prop :=
  ∃ (s1 : Bool) (o1 : Option Addr) (n1 c1 : Nat) (d1 : List Int) (s2 : Bool) (o2 : Option Addr) (n2 c2 : Nat) (d2 : List Int), ArgsB w wx [[.bool s1, .slice o1 n1 c1], [.bool s2, .slice o2 n2 c2], [.bool false, .slice none 0 0, .bool false, .slice none 0 0]] ∧ IsNum wx s1 o1 n1 c1 d1 x k ∧ IsNum wx s2 o2 n2 c2 d2 y k
theorem ArgsB.up0 {w W : World} {a0 a1 u0 u1 : Value} {b r : List Value} (h : ArgsB w W [[a0, a1], b, r]) : ArgsB w ((W.setCell ⟨w.heap.size, 0, none⟩ u0).setCell ⟨w.heap.size, 1, none⟩ u1) [[u0, u1], b, r] := by
  refine ⟨(h.1.setCell (by simp) _).setCell (by simp) _, fun j vs hj => ?_⟩
  match j, hj with
  | 0, hj => cases hj; exact Blk.stored2 (h.b 0 rfl) _ _
  | 1, hj => cases hj; exact Blk.set2 (h.b 1 rfl) (by omega)
  | 2, hj => cases hj; exact Blk.set2 (h.b 2 rfl) (by omega)
  | j + 3, hj => simp at hj
theorem ArgsB.up1 {w W : World} {b0 b1 u0 u1 : Value} {a r : List Value} (h : ArgsB w W [a, [b0, b1], r]) : ArgsB w ((W.setCell ⟨w.heap.size + 1, 0, none⟩ u0).setCell ⟨w.heap.size + 1, 1, none⟩ u1) [a, [u0, u1], r] := by
  refine ⟨(h.1.setCell (by simp) _).setCell (by simp) _, fun j vs hj => ?_⟩
  match j, hj with
  | 0, hj => cases hj; exact Blk.set2 (h.b 0 rfl) (by omega)
  | 1, hj => cases hj; exact Blk.stored2 (h.b 1 rfl) _ _
  | 2, hj => cases hj; exact Blk.set2 (h.b 2 rfl) (by omega)
  | j + 3, hj => simp at hj
theorem cutM_up {w W : World} {x y : Int} {k : Nat} {p q : Bool} {po qo : Option Addr} {p1 p2 q1 q2 : Nat} {s1 : Bool} {o1 : Option Addr} {n1 c1 : Nat} {d1 : List Int} {s2 : Bool} {o2 : Option Addr} {n2 c2 : Nat} {d2 : List Int} (h : ArgsB w W [[.bool p, .slice po p1 p2], [.bool q, .slice qo q1 q2], [.bool false, .slice none 0 0, .bool false, .slice none 0 0]]) (N1 : IsNum W s1 o1 n1 c1 d1 x k) (N2 : IsNum W s2 o2 n2 c2 d2 y k) :
    CutM w ((((W.setCell ⟨w.heap.size, 0, none⟩ (.bool s1)).setCell ⟨w.heap.size, 1, none⟩ (.slice o1 n1 c1)).setCell ⟨w.heap.size + 1, 0, none⟩ (.bool s2)).setCell ⟨w.heap.size + 1, 1, none⟩ (.slice o2 n2 c2)) x y k :=
  ⟨s1, o1, n1, c1, d1, s2, o2, n2, c2, d2, h.up0.up1, num_put (num_put N1 (h.b 0 rfl) _ _) (Blk.set2 (h.b 1 rfl) (by omega)) _ _, num_put (num_put N2 (h.b 0 rfl) _ _) (Blk.set2 (h.b 1 rfl) (by omega)) _ _⟩
theorem CutM.drew {w W : World} {x y : Int} {k : Nat} (h : CutM w W x y k) : CutM w W.drew x y k := by
  obtain ⟨s1, o1, n1, c1, d1, s2, o2, n2, c2, d2, A, N1, N2⟩ := h
  exact ⟨s1, o1, n1, c1, d1, s2, o2, n2, c2, d2, A.drew, N1.drew, N2.drew⟩
theorem mk_args (s1 : Bool) (o1 : Option Addr) (n1 c1 : Nat) (s2 : Bool) (o2 : Option Addr) (n2 c2 : Nat) (w : World) : ArgsB w (((w.alloc (.cells #[.bool s1, .slice o1 n1 c1] 66)).alloc (.cells #[.bool s2, .slice o2 n2 c2] 66)).alloc (.cells #[.bool false, .slice none 0 0, .bool false, .slice none 0 0] 86)) [[.bool s1, .slice o1 n1 c1], [.bool s2, .slice o2 n2 c2], [.bool false, .slice none 0 0, .bool false, .slice none 0 0]] := by
  refine ⟨(((Below.refl _ _).alloc (Nat.le_refl _) _).alloc (by simp) _).alloc (by simp; omega) _, fun j vs hj => ?_⟩
  match j, hj with
  | 0, hj => cases hj; exact ((Blk.new w [.bool s1, .slice o1 n1 c1] 66 rfl).alloc _).alloc _
  | 1, hj => cases hj; exact (Blk.new (w.alloc (.cells #[.bool s1, .slice o1 n1 c1] 66)) [.bool s2, .slice o2 n2 c2] 66 (by simp)).alloc _
  | 2, hj => cases hj; exact Blk.new ((w.alloc (.cells #[.bool s1, .slice o1 n1 c1] 66)).alloc (.cells #[.bool s2, .slice o2 n2 c2] 66)) [.bool false, .slice none 0 0, .bool false, .slice none 0 0] 86 (by simp)
  | j + 3, hj => simp at hj
theorem low_make {x y X Y g : Int} (hX : X = if y < 0 then -x else x) (hY : Y = if y < 0 then -y else y) (hg : g = (Int.gcd x y : Int)) (hy : y ≠ 0) : X / g = lowN x y ∧ Y / g = lowD x y ∧ (Int.gcd X Y : Int) = g ∧ 0 < g := by
  have g0 : 0 < Int.gcd x y := Int.gcd_pos_of_ne_zero_right _ hy
  have dx : g ∣ x := by rw [hg]; exact Int.gcd_dvd_left _ _
  have dy : g ∣ y := by rw [hg]; exact Int.gcd_dvd_right _ _
  have e1 : (Int.gcd X Y : Int) = g := by
    rw [hg, hX, hY]
    split
    · simp [Int.gcd]
    · rfl
  have hgp : 0 < g := by omega
  obtain ⟨a, rfl⟩ := dx
  obtain ⟨b, rfl⟩ := dy
  have hd : ∀ z : Int, (g * z) / g = z := fun z => Int.mul_ediv_cancel_left z (by omega)
  have hn : ∀ z : Int, (((g * z).natAbs : Nat) : Int) / g = (z.natAbs : Int) := fun z => by
    rw [Int.natAbs_mul, Int.natCast_mul, Int.natAbs_of_nonneg (by omega)]
    exact hd _
  have hs : ∀ z : Int, g * z < 0 ↔ z < 0 := fun z => by
    constructor
    · intro h
      apply Decidable.byContradiction
      intro h'
      have := Int.mul_nonneg (a := g) (b := z) (by omega) (by omega)
      omega
    · intro h
      exact Int.mul_neg_of_pos_of_neg hgp h
  refine ⟨?_, ?_, e1, hgp⟩
  · unfold lowN shareZ
    rw [← hg, hn, hX]
    simp only [hs]
    by_cases h2 : b < 0
    · rw [if_pos h2, ← Int.mul_neg, hd]
      by_cases h1 : a < 0 <;> simp [h1, h2] <;> omega
    · rw [if_neg h2, hd]
      by_cases h1 : a < 0 <;> simp [h1, h2] <;> omega
  · unfold lowD shareZ
    rw [← hg, hn, hY]
    simp only [hs]
    by_cases h2 : b < 0
    · rw [if_pos h2, ← Int.mul_neg, hd]
      simp [h2]; omega
    · rw [if_neg h2, hd]
      simp [h2]; omega
theorem mk_cells {s : Bool} {o : Option Addr} {n c : Nat} {W : World} {g : Nat} (G : Blk W g [.bool s, .slice o n c]) : (fun w' => w'.cell? ⟨g, 0, none⟩ = some (.bool s) ∧ w'.cell? ⟨g, 1, none⟩ = some (.slice o n c)) W := ⟨G.c 0 rfl, G.c 1 rfl⟩
set_option maxRecDepth 100000 in
set_option maxHeartbeats 4000000 in
theorem l2Make_any (s1 : Bool) (o1 : Option Addr) (n1 c1 : Nat) (d1 : List Int) (s2 : Bool) (o2 : Option Addr) (n2 c2 : Nat) (d2 : List Int) (x y : Int) (k : Nat) (hk : 2 ≤ k) (hk2 : k ≤ 8000) (w : World) (N1 : IsNum w s1 o1 n1 c1 d1 x k) (N2 : IsNum w s2 o2 n2 c2 d2 y k) (hy : y ≠ 0) :
    Calls Try.prog 118 #[.agg #[.bool s1, .slice o1 n1 c1], .agg #[.bool s2, .slice o2 n2 c2]] w (NumsP (k + 3) (lowN x y) (lowD x y) w) := by
  have T0 := mk_args s1 o1 n1 c1 s2 o2 n2 c2 w
  replace N1 := N1.step T0.below
  replace N2 := N2.step T0.below
  obtain ⟨X, hX⟩ : ∃ X, X = if y < 0 then -x else x := ⟨_, rfl⟩
  obtain ⟨Y, hY⟩ : ∃ Y, Y = if y < 0 then -y else y := ⟨_, rfl⟩
  obtain ⟨e1, e2, e3, e4⟩ := low_make hX hY rfl hy
  go_enter Try.func118, Try.ntmps118
  go_upto_region 1 with fail
  generalize (((w.alloc (.cells #[.bool s1, .slice o1 n1 c1] 66)).alloc (.cells #[.bool s2, .slice o2 n2 c2] 66)).alloc (.cells #[.bool false, .slice none 0 0, .bool false, .slice none 0 0] 86)) = W at *
  go_cut [7] (fun p wx => p = .bool (decide (y < 0)) ∧ wx = W)
  case first =>
    have HN : Hid (s2 = decide (y < 0)) := N2.neg
    have a0c := (T0.b 0 rfl).c 0 rfl; have a0f := (T0.b 0 rfl).f 0 rfl; have a1c := (T0.b 0 rfl).c 1 rfl; have a1f := (T0.b 0 rfl).f 1 rfl; have alt := (T0.b 0 rfl).lt; have b0c := (T0.b 1 rfl).c 0 rfl; have b0f := (T0.b 1 rfl).f 0 rfl; have b1c := (T0.b 1 rfl).c 1 rfl; have b1f := (T0.b 1 rfl).f 1 rfl; have blt := (T0.b 1 rfl).lt; simp only [Nat.add_zero] at a0c a0f a1c a1f alt
    go_wp2_with fail
    go_meet
    case rel => exact ⟨by rw [HN.out], rfl⟩
  case rest =>
   obtain ⟨rfl, rfl⟩ := hcut
   rename_i hk'
   refine hk' _ _ ?_
   go_cut [] (fun wx => CutM w wx X Y k)
   case first =>
    by_cases hn : y < 0
    · obtain rfl : s2 = true := by rw [N2.neg]; simpa using hn
      rw [if_pos hn] at hX hY
      rw [decide_eq_true hn]
      have a0c := (T0.b 0 rfl).c 0 rfl; have a0f := (T0.b 0 rfl).f 0 rfl; have a1c := (T0.b 0 rfl).c 1 rfl; have a1f := (T0.b 0 rfl).f 1 rfl; have alt := (T0.b 0 rfl).lt; have b0c := (T0.b 1 rfl).c 0 rfl; have b0f := (T0.b 1 rfl).f 0 rfl; have b1c := (T0.b 1 rfl).c 1 rfl; have b1f := (T0.b 1 rfl).f 1 rfl; have blt := (T0.b 1 rfl).lt; simp only [Nat.add_zero] at a0c a0f a1c a1f alt
      have tok1 : True := trivial
      replace T0 := T0.drew; replace N1 := N1.drew; replace N2 := N2.drew
      go_wp2_with fail
      go_region_with ((first
        | (go_at_call 83; have _t := tok1; refine (neg_any s1 o1 n1 c1 d1 x k _ N1).mono ?_; rintro e w1 ⟨s3, o3, n3, c3, d3, rfl, N3, hB⟩; replace T0 := T0.step hB; replace N2 := N2.step hB; (try (replace N4 := N4.step hB)); clear hB tok1 _t a0c a0f a1c a1f alt b0c b0f b1c b1f blt; have a0c := (T0.b 0 rfl).c 0 rfl; have a0f := (T0.b 0 rfl).f 0 rfl; have a1c := (T0.b 0 rfl).c 1 rfl; have a1f := (T0.b 0 rfl).f 1 rfl; have alt := (T0.b 0 rfl).lt; have b0c := (T0.b 1 rfl).c 0 rfl; have b0f := (T0.b 1 rfl).f 0 rfl; have b1c := (T0.b 1 rfl).c 1 rfl; have b1f := (T0.b 1 rfl).f 1 rfl; have blt := (T0.b 1 rfl).lt; simp only [Nat.add_zero] at a0c a0f a1c a1f alt)
        | (go_at_call 83; refine (neg_any true o2 n2 c2 d2 y k _ N2).mono ?_; rintro e w2 ⟨s4, o4, n4, c4, d4, rfl, N4, hB⟩; replace T0 := T0.step hB; replace N3 := N3.step hB; clear hB a0c a0f a1c a1f alt b0c b0f b1c b1f blt; have a0c := (T0.b 0 rfl).c 0 rfl; have a0f := (T0.b 0 rfl).f 0 rfl; have a1c := (T0.b 0 rfl).c 1 rfl; have a1f := (T0.b 0 rfl).f 1 rfl; have alt := (T0.b 0 rfl).lt; have b0c := (T0.b 1 rfl).c 0 rfl; have b0f := (T0.b 1 rfl).f 0 rfl; have b1c := (T0.b 1 rfl).c 1 rfl; have b1f := (T0.b 1 rfl).f 1 rfl; have blt := (T0.b 1 rfl).lt; simp only [Nat.add_zero] at a0c a0f a1c a1f alt)))
      all_goals go_wp2_with fail
      all_goals go_meet
      all_goals rw [← hX] at N3
      all_goals rw [← hY] at N4
      all_goals first | exact cutM_up T0 N3 N4 | exact (cutM_up T0 N3 N4).drew
    · obtain rfl : s2 = false := by rw [N2.neg]; simpa using hn
      rw [if_neg hn] at hX hY
      rw [decide_eq_false hn]
      subst hX hY
      have a0c := (T0.b 0 rfl).c 0 rfl; have a0f := (T0.b 0 rfl).f 0 rfl; have a1c := (T0.b 0 rfl).c 1 rfl; have a1f := (T0.b 0 rfl).f 1 rfl; have alt := (T0.b 0 rfl).lt; have b0c := (T0.b 1 rfl).c 0 rfl; have b0f := (T0.b 1 rfl).f 0 rfl; have b1c := (T0.b 1 rfl).c 1 rfl; have b1f := (T0.b 1 rfl).f 1 rfl; have blt := (T0.b 1 rfl).lt; simp only [Nat.add_zero] at a0c a0f a1c a1f alt
      go_wp2_with fail
      go_meet
      case rel => exact ⟨s1, o1, n1, c1, d1, false, o2, n2, c2, d2, T0, N1, N2⟩
   case rest =>
    clear T0 N1 N2 hk'
    obtain ⟨s3, o3, n3, c3, d3, s4, o4, n4, c4, d4, T0, N1, N2⟩ := hcut
    have a0c := (T0.b 0 rfl).c 0 rfl; have a0f := (T0.b 0 rfl).f 0 rfl; have a1c := (T0.b 0 rfl).c 1 rfl; have a1f := (T0.b 0 rfl).f 1 rfl; have alt := (T0.b 0 rfl).lt; have b0c := (T0.b 1 rfl).c 0 rfl; have b0f := (T0.b 1 rfl).f 0 rfl; have b1c := (T0.b 1 rfl).c 1 rfl; have b1f := (T0.b 1 rfl).f 1 rfl; have blt := (T0.b 1 rfl).lt; simp only [Nat.add_zero] at a0c a0f a1c a1f alt
    go_wp2_with fail
    refine (gcd_any s3 s4 o3 o4 n3 n4 c3 c4 k d3 d4 _ _ _ N1 N2 (by omega)).mono ?_
    rintro e w3 ⟨s5, o5, n5, c5, d5, rfl, N3, hB⟩
    rw [e3] at N3
    replace T0 := T0.step hB; replace N1 := N1.step hB; replace N2 := N2.step hB
    clear hB a0c a0f a1c a1f alt b0c b0f b1c b1f blt
    have hlw := (T0.b 2 rfl).lt
    have GB := Blk.new w3 [.bool s5, .slice o5 n5 c5] 66 rfl
    replace T0 := T0.alloc (.cells #[.bool s5, .slice o5 n5 c5] 66); replace N1 := N1.alloc (.cells #[.bool s5, .slice o5 n5 c5] 66); replace N2 := N2.alloc (.cells #[.bool s5, .slice o5 n5 c5] 66); replace N3 := N3.alloc (.cells #[.bool s5, .slice o5 n5 c5] 66)
    go_upto_region 4 with fail
    generalize w3.alloc (.cells #[.bool s5, .slice o5 n5 c5] 66) = W3 at *
    generalize w3.heap.size = gb at *
    obtain ⟨q, hq⟩ : ∃ q, cmpI (Int.gcd x y : Int) 1 = q := ⟨_, rfl⟩
    go_cut [18] (fun p wx => p = .bool (!(q == 0)) ∧ ArgsB w wx [[.bool s3, .slice o3 n3 c3], [.bool s4, .slice o4 n4 c4], [.bool false, .slice none 0 0, .bool false, .slice none 0 0]] ∧ Blk wx gb [.bool s5, .slice o5 n5 c5] ∧ IsNum wx s3 o3 n3 c3 d3 X k ∧ IsNum wx s4 o4 n4 c4 d4 Y k ∧ IsNum wx s5 o5 n5 c5 d5 (Int.gcd x y : Int) k)
    case first =>
      replace N3 := N3.drew; replace N1 := N1.drew; replace N2 := N2.drew; replace T0 := T0.drew
      go_region_held3 (fun w' => w'.cell? ⟨gb, 0, none⟩ = some (.bool s5) ∧ w'.cell? ⟨gb, 1, none⟩ = some (.slice o5 n5 c5)) ((refine mk_cells ?_ <;> repeat (first | (with_reducible exact GB) | (with_reducible refine Blk.drew ?_))))
        (first
          | (go_at_call 57; refine (int_any 1 _ (by decide) (by decide)).mono ?_; rintro e w4 ⟨s9, o9, n9, c9, d9, rfl, N9, hB⟩; replace GB := GB.drew.step hB; replace T0 := T0.step hB; replace N1 := N1.step hB; replace N2 := N2.step hB; replace N3 := N3.step hB; clear hB)
          | (go_at_call 56; refine (cmp_any s5 s9 o5 o9 n5 n9 c5 c9 k d5 d9 _ _ _ N3 (num_more N9 hk) (by omega)).mono ?_; rintro e w5 ⟨rfl, hB⟩; rw [hq]; replace GB := GB.step hB; replace T0 := T0.step hB; replace N1 := N1.step hB; replace N2 := N2.step hB; replace N3 := N3.step hB; clear hB))
      all_goals go_wp2_with fail
      all_goals go_meet
      all_goals exact ⟨rfl, T0, GB, N1, N2, N3⟩
    case rest =>
      clear T0 N1 N2 N3 GB
      obtain ⟨rfl, T0, GB, N1, N2, N3⟩ := hcut
      rename_i hk'
      refine hk' _ _ ?_
      have hlb := GB.lt
      go_cut [] (fun wx => CutM w wx (lowN x y) (lowD x y) (k + 3))
      case first =>
        by_cases h1 : (Int.gcd x y : Int) = 1
        · obtain rfl : q = 0 := by rw [← hq, h1]; decide
          rw [h1, Int.ediv_one] at e1 e2
          rw [e1] at N1
          rw [e2] at N2
          go_wp2_with fail
          go_meet
          case rel => exact ⟨s3, o3, n3, c3, d3, s4, o4, n4, c4, d4, T0, num_more N1 (by omega), num_more N2 (by omega)⟩
        · have hq1 : (!(q == 0)) = true := by
            have h3 : q ≠ 0 := by
              rw [← hq, cmpI_gt (by omega)]
              decide
            simp [h3]
          rw [hq1]
          have a0c := (T0.b 0 rfl).c 0 rfl; have a0f := (T0.b 0 rfl).f 0 rfl; have a1c := (T0.b 0 rfl).c 1 rfl; have a1f := (T0.b 0 rfl).f 1 rfl; have alt := (T0.b 0 rfl).lt; have b0c := (T0.b 1 rfl).c 0 rfl; have b0f := (T0.b 1 rfl).f 0 rfl; have b1c := (T0.b 1 rfl).c 1 rfl; have b1f := (T0.b 1 rfl).f 1 rfl; have blt := (T0.b 1 rfl).lt; simp only [Nat.add_zero] at a0c a0f a1c a1f alt
          have g0c := GB.c 0 rfl; have g1c := GB.c 1 rfl
          go_wp2_with fail
          refine (div_any s3 s5 o3 o5 n3 n5 c3 c5 k d3 d5 _ _ _ N1 N3 (by omega) (by omega)).mono ?_
          rintro e w5 ⟨s6, o6, n6, c6, d6, s7, o7, n7, c7, d7, rfl, M1, -, hB⟩
          rw [e1] at M1
          replace T0 := T0.step hB; replace GB := GB.step hB; replace N2 := N2.step hB; replace N3 := N3.step hB
          clear hB g0c g1c N1 a0c a0f a1c a1f alt b0c b0f b1c b1f blt
          have a0c := (T0.b 0 rfl).c 0 rfl; have a0f := (T0.b 0 rfl).f 0 rfl; have a1c := (T0.b 0 rfl).c 1 rfl; have a1f := (T0.b 0 rfl).f 1 rfl; have alt := (T0.b 0 rfl).lt; have b0c := (T0.b 1 rfl).c 0 rfl; have b0f := (T0.b 1 rfl).f 0 rfl; have b1c := (T0.b 1 rfl).c 1 rfl; have b1f := (T0.b 1 rfl).f 1 rfl; have blt := (T0.b 1 rfl).lt; simp only [Nat.add_zero] at a0c a0f a1c a1f alt
          go_upto_region 6 with fail
          clear a0c a0f a1c a1f alt b0c b0f b1c b1f blt
          have M2 := num_put M1 (R := w.heap.size) (T0.b 0 rfl) (.bool s6) (.slice o6 n6 c6)
          have N4 := num_put N2 (R := w.heap.size) (T0.b 0 rfl) (.bool s6) (.slice o6 n6 c6)
          have N5 := num_put N3 (R := w.heap.size) (T0.b 0 rfl) (.bool s6) (.slice o6 n6 c6)
          have G2 := GB.set2 (g := w.heap.size) (v0 := .bool s6) (v1 := .slice o6 n6 c6) (by omega)
          replace T0 := T0.up0 (u0 := .bool s6) (u1 := .slice o6 n6 c6)
          clear M1 N2 N3 GB
          generalize ((w5.setCell ⟨w.heap.size, 0, none⟩ (.bool s6)).setCell ⟨w.heap.size, 1, none⟩ (.slice o6 n6 c6)) = W6 at *
          have a0c := (T0.b 0 rfl).c 0 rfl; have a0f := (T0.b 0 rfl).f 0 rfl; have a1c := (T0.b 0 rfl).c 1 rfl; have a1f := (T0.b 0 rfl).f 1 rfl; have alt := (T0.b 0 rfl).lt; have b0c := (T0.b 1 rfl).c 0 rfl; have b0f := (T0.b 1 rfl).f 0 rfl; have b1c := (T0.b 1 rfl).c 1 rfl; have b1f := (T0.b 1 rfl).f 1 rfl; have blt := (T0.b 1 rfl).lt; simp only [Nat.add_zero] at a0c a0f a1c a1f alt
          have g0c := G2.c 0 rfl; have g1c := G2.c 1 rfl
          go_wp2_with fail
          refine (div_any s4 s5 o4 o5 n4 n5 c4 c5 k d4 d5 _ _ _ N4 N5 (by omega) (by omega)).mono ?_
          rintro e w7 ⟨s8, o8, n8, c8, d8, s9, o9, n9, c9, d9, rfl, M3, -, hB⟩
          rw [e2] at M3
          replace T0 := T0.step hB; replace M2 := M2.step hB
          clear hB g0c g1c N4 N5 G2 a0c a0f a1c a1f alt b0c b0f b1c b1f blt
          have a0c := (T0.b 0 rfl).c 0 rfl; have a0f := (T0.b 0 rfl).f 0 rfl; have a1c := (T0.b 0 rfl).c 1 rfl; have a1f := (T0.b 0 rfl).f 1 rfl; have alt := (T0.b 0 rfl).lt; have b0c := (T0.b 1 rfl).c 0 rfl; have b0f := (T0.b 1 rfl).f 0 rfl; have b1c := (T0.b 1 rfl).c 1 rfl; have b1f := (T0.b 1 rfl).f 1 rfl; have blt := (T0.b 1 rfl).lt; simp only [Nat.add_zero] at a0c a0f a1c a1f alt
          have M4 := num_put M2 (R := w.heap.size + 1) (T0.b 1 rfl) (.bool s8) (.slice o8 n8 c8)
          have M5 := num_put M3 (R := w.heap.size + 1) (T0.b 1 rfl) (.bool s8) (.slice o8 n8 c8)
          have T1 := T0.up1 (u0 := .bool s8) (u1 := .slice o8 n8 c8)
          clear M2 M3 T0
          go_wp2_with fail
          go_meet
          case rel => exact ⟨s6, o6, n6, c6, d6, s8, o8, n8, c8, d8, T1, M4, M5⟩
      case rest =>
        clear T0 N1 N2 N3 GB hk' hlb
        obtain ⟨s6, o6, n6, c6, d6, s7, o7, n7, c7, d7, T0, N1, N2⟩ := hcut
        have a0c := (T0.b 0 rfl).c 0 rfl; have a0f := (T0.b 0 rfl).f 0 rfl; have a1c := (T0.b 0 rfl).c 1 rfl; have a1f := (T0.b 0 rfl).f 1 rfl; have alt := (T0.b 0 rfl).lt; have b0c := (T0.b 1 rfl).c 0 rfl; have b0f := (T0.b 1 rfl).f 0 rfl; have b1c := (T0.b 1 rfl).c 1 rfl; have b1f := (T0.b 1 rfl).f 1 rfl; have blt := (T0.b 1 rfl).lt; simp only [Nat.add_zero] at a0c a0f a1c a1f alt
        have R0 := T0.b 2 rfl
        have r0c := R0.c 0 rfl; have r0f := R0.f 0 rfl; have r1c := R0.c 1 rfl; have r1f := R0.f 1 rfl; have r2c := R0.c 2 rfl; have r2f := R0.f 2 rfl; have r3c := R0.c 3 rfl; have r3f := R0.f 3 rfl
        have HB := T0.below
        have F := nums_ret (w := w) (R := w.heap.size + 1 + 1) (by omega) (T0.b 2 rfl) N1 N2 HB
        clear T0 N1 N2
        go_wp2
        refine bodyPost_ret (v := .agg #[.bool s6, .slice o6 n6 c6, .bool s7, .slice o7 n7 c7]) (by simp [results, Try.results118, go_sem, r0c, r1c, r2c, r3c]) rfl ?_
        exact F
end Go.Proofs.Ytnnojeggjnddpaa

/- What the walks of the laws over two numbers of four words share. -/
namespace Go.Proofs.Ytnnojeggjnddpaa
open Go.RowKit
/-- A number that was told lies in the block g, its flag beside it. -/
def LayP (z : Int) (w wx : World) (g : Nat) (x3 x2 x1 x0 : Int) (t : Bool) : Prop :=
  Wd wx g x3 x2 x1 x0 ∧ w.heap.size + 1 < g ∧ ∃ u v, TellP z u (.returned (.tuple #[.agg #[.int .u64 x3, .int .u64 x2, .int .u64 x1, .int .u64 x0], .bool t])) v
theorem LayP.step {z : Int} {w W W' : World} {g : Nat} {x3 x2 x1 x0 : Int} {t : Bool} (h : LayP z w W g x3 x2 x1 x0 t) (hb : Below W.heap.size W W') : LayP z w W' g x3 x2 x1 x0 t := ⟨h.1.step hb, h.2⟩
theorem LayP.alloc {z : Int} {w W : World} {g : Nat} {x3 x2 x1 x0 : Int} {t : Bool} (h : LayP z w W g x3 x2 x1 x0 t) (o : Obj) : LayP z w (W.alloc o) g x3 x2 x1 x0 t := ⟨h.1.alloc o, h.2⟩
theorem LayP.drew {z : Int} {w W : World} {g : Nat} {x3 x2 x1 x0 : Int} {t : Bool} (h : LayP z w W g x3 x2 x1 x0 t) : LayP z w W.drew g x3 x2 x1 x0 t := ⟨h.1.drew, h.2⟩
theorem LayP.set {z : Int} {w W : World} {g R : Nat} {x3 x2 x1 x0 : Int} {t : Bool} (h : LayP z w W g x3 x2 x1 x0 t) (hne : g ≠ R) (u0 u1 u2 u3 : Value) : LayP z w ((((W.setCell ⟨R, 0, none⟩ u0).setCell ⟨R, 1, none⟩ u1).setCell ⟨R, 2, none⟩ u2).setCell ⟨R, 3, none⟩ u3) g x3 x2 x1 x0 t := ⟨h.1.set hne _ _ _ _, h.2⟩
end Go.Proofs.Ytnnojeggjnddpaa

/- Fractions of two numbers: the program's, the model's; and when two fractions are one. -/
namespace Go.Proofs.Ytnnojeggjnddpaa
open Go.RowKit
/-- A fraction as it is told. -/
def rtV (n d : Int) : Value := if told n = true ∧ told d = true then .tuple #[Rt (ww3 n) (ww2 n) (ww1 n) (ww0 n) (ww3 d) (ww2 d) (ww1 d) (ww0 d), .bool true] else .tuple #[.agg #[.int .u64 0, .int .u64 0, .int .u64 0, .int .u64 0, .int .u64 0, .int .u64 0, .int .u64 0, .int .u64 0], .bool false]
theorem ratV_rt {x y : Int} (hy : y ≠ 0) : ratV x y = rtV (lowN x y) (lowD x y) := by
  unfold ratV rtV
  by_cases h : told (lowN x y) = true ∧ told (lowD x y) = true
  · rw [if_pos ⟨hy, h⟩, if_pos h]
  · rw [if_neg (fun h' => h h'.2), if_neg h]
theorem rtV_ex (x y : Int) : ∃ z0 z1 z2 z3 z4 z5 z6 z7 : Int, ∃ t : Bool, rtV x y = .tuple #[.agg #[.int .u64 z0, .int .u64 z1, .int .u64 z2, .int .u64 z3, .int .u64 z4, .int .u64 z5, .int .u64 z6, .int .u64 z7], .bool t] := by
  unfold rtV
  split
  · exact ⟨_, _, _, _, _, _, _, _, _, rfl⟩
  · exact ⟨_, _, _, _, _, _, _, _, _, rfl⟩
theorem lr_args (s1 : Bool) (o1 : Option Addr) (n1 c1 : Nat) (s2 : Bool) (o2 : Option Addr) (n2 c2 : Nat) (w : World) : ArgsB w ((w.alloc (.cells #[.bool s1, .slice o1 n1 c1, .bool s2, .slice o2 n2 c2] 86)).alloc (.cells #[.int .u64 0, .int .u64 0, .int .u64 0, .int .u64 0, .int .u64 0, .int .u64 0, .int .u64 0, .int .u64 0] 37)) [[.bool s1, .slice o1 n1 c1, .bool s2, .slice o2 n2 c2], [.int .u64 0, .int .u64 0, .int .u64 0, .int .u64 0, .int .u64 0, .int .u64 0, .int .u64 0, .int .u64 0]] := by
  refine ⟨((Below.refl _ _).alloc (Nat.le_refl _) _).alloc (by simp) _, fun j vs hj => ?_⟩
  match j, hj with
  | 0, hj => cases hj; exact (Blk.new w [.bool s1, .slice o1 n1 c1, .bool s2, .slice o2 n2 c2] 86 rfl).alloc _
  | 1, hj => cases hj; exact Blk.new (w.alloc (.cells #[.bool s1, .slice o1 n1 c1, .bool s2, .slice o2 n2 c2] 86)) [.int .u64 0, .int .u64 0, .int .u64 0, .int .u64 0, .int .u64 0, .int .u64 0, .int .u64 0, .int .u64 0] 37 (by simp)
  | j + 2, hj => simp at hj
set_option maxRecDepth 100000 in
set_option maxHeartbeats 2000000 in
theorem l2Ratio_any (s1 : Bool) (o1 : Option Addr) (n1 c1 : Nat) (d1 : List Int) (s2 : Bool) (o2 : Option Addr) (n2 c2 : Nat) (d2 : List Int) (x y : Int) (k : Nat) (hk : k ≤ 8000) (w : World) (N1 : IsNum w s1 o1 n1 c1 d1 x k) (N2 : IsNum w s2 o2 n2 c2 d2 y k) :
    Calls Try.prog 117 #[.agg #[.bool s1, .slice o1 n1 c1, .bool s2, .slice o2 n2 c2]] w (VP (rtV x y) w) := by
  have T0 := lr_args s1 o1 n1 c1 s2 o2 n2 c2 w
  replace N1 := N1.step T0.below
  replace N2 := N2.step T0.below
  obtain ⟨e3, e2, e1, e0, HT1, HC1⟩ := tellV_ex x
  obtain ⟨f3, f2, f1, f0, HT2, HC2⟩ := tellV_ex y
  obtain ⟨t1, ht1⟩ : ∃ t, told x = t := ⟨_, rfl⟩
  obtain ⟨t2, ht2⟩ : ∃ t, told y = t := ⟨_, rfl⟩
  have HR : Hid (rtV x y = if t1 = true ∧ t2 = true then .tuple #[.agg #[.int .u64 e3, .int .u64 e2, .int .u64 e1, .int .u64 e0, .int .u64 f3, .int .u64 f2, .int .u64 f1, .int .u64 f0], .bool true] else .tuple #[.agg #[.int .u64 0, .int .u64 0, .int .u64 0, .int .u64 0, .int .u64 0, .int .u64 0, .int .u64 0, .int .u64 0], .bool false]) := by
    show _ = _
    unfold rtV
    rw [ht1, ht2]
    by_cases h1 : t1 = true
    · by_cases h2 : t2 = true
      · have g1 := HC1 (ht1.trans h1)
        have g2 := HC2 (ht2.trans h2)
        simp only [Value.agg.injEq] at g1 g2
        simp at g1 g2
        rw [if_pos ⟨h1, h2⟩, if_pos ⟨h1, h2⟩, g1.1, g1.2.1, g1.2.2.1, g1.2.2.2, g2.1, g2.2.1, g2.2.2.1, g2.2.2.2]
      · rw [if_neg (by rintro ⟨_, h⟩; exact h2 h), if_neg (by rintro ⟨_, h⟩; exact h2 h)]
    · rw [if_neg (by rintro ⟨h, _⟩; exact h1 h), if_neg (by rintro ⟨h, _⟩; exact h1 h)]
  rw [ht1] at HT1
  rw [ht2] at HT2
  clear ht1 ht2 HC1 HC2
  go_enter Try.func117, Try.ntmps117
  go_upto_region 1 with fail
  generalize ((w.alloc (.cells #[.bool s1, .slice o1 n1 c1, .bool s2, .slice o2 n2 c2] 86)).alloc (.cells #[.int .u64 0, .int .u64 0, .int .u64 0, .int .u64 0, .int .u64 0, .int .u64 0, .int .u64 0, .int .u64 0] 37)) = W at *
  have x0c := (T0.b 0 rfl).c 0 rfl; have x1c := (T0.b 0 rfl).c 1 rfl; have x2c := (T0.b 0 rfl).c 2 rfl; have x3c := (T0.b 0 rfl).c 3 rfl
  simp only [Nat.add_zero] at x0c x1c x2c x3c
  go_wp2_with fail
  refine (toW_det s1 o1 n1 c1 d1 _ _ _ N1 (by omega)).mono ?_
  rw [HT1]
  rintro e w1 ⟨rfl, hB⟩
  replace T0 := T0.step hB; replace N2 := N2.step hB
  clear hB N1 HT1 x0c x1c x2c x3c
  have hl1 := (T0.b 1 rfl).lt
  go_upto_region 2 with fail
  have X1 := Blk.new w1 [.int .u64 e3, .int .u64 e2, .int .u64 e1, .int .u64 e0] 26 rfl
  replace T0 := T0.alloc (.cells #[.int .u64 e3, .int .u64 e2, .int .u64 e1, .int .u64 e0] 26)
  replace N2 := N2.alloc (.cells #[.int .u64 e3, .int .u64 e2, .int .u64 e1, .int .u64 e0] 26)
  generalize w1.alloc (.cells #[.int .u64 e3, .int .u64 e2, .int .u64 e1, .int .u64 e0] 26) = W2 at *
  generalize w1.heap.size = g1 at *
  have x0c := (T0.b 0 rfl).c 0 rfl; have x1c := (T0.b 0 rfl).c 1 rfl; have x2c := (T0.b 0 rfl).c 2 rfl; have x3c := (T0.b 0 rfl).c 3 rfl
  simp only [Nat.add_zero] at x0c x1c x2c x3c
  go_wp2_with fail
  refine (toW_det s2 o2 n2 c2 d2 _ _ _ N2 (by omega)).mono ?_
  rw [HT2]
  rintro e w3 ⟨rfl, hB⟩
  replace T0 := T0.step hB; replace X1 := X1.step hB
  clear hB N2 HT2 x0c x1c x2c x3c
  have hl3 := (T0.b 1 rfl).lt
  have hx1 := X1.lt
  go_upto_region 3 with fail
  have X2 := Blk.new w3 [.int .u64 f3, .int .u64 f2, .int .u64 f1, .int .u64 f0] 26 rfl
  replace T0 := T0.alloc (.cells #[.int .u64 f3, .int .u64 f2, .int .u64 f1, .int .u64 f0] 26)
  replace X1 := X1.alloc (.cells #[.int .u64 f3, .int .u64 f2, .int .u64 f1, .int .u64 f0] 26)
  generalize w3.alloc (.cells #[.int .u64 f3, .int .u64 f2, .int .u64 f1, .int .u64 f0] 26) = W4' at *
  generalize w3.heap.size = g2 at *
  have R0 := T0.b 1 rfl
  by_cases ht : t1 = true ∧ t2 = true
  · obtain ⟨rfl, rfl⟩ := ht
    have HV : Hid (rtV x y = .tuple #[.agg #[.int .u64 e3, .int .u64 e2, .int .u64 e1, .int .u64 e0, .int .u64 f3, .int .u64 f2, .int .u64 f1, .int .u64 f0], .bool true]) := by show _ = _; rw [HR.out]; simp
    have HB := T0.below
    have o0c := R0.c 0 rfl; have o0f := R0.f 0 rfl; have o1c := R0.c 1 rfl; have o1f := R0.f 1 rfl; have o2c := R0.c 2 rfl; have o2f := R0.f 2 rfl; have o3c := R0.c 3 rfl; have o3f := R0.f 3 rfl; have o4c := R0.c 4 rfl; have o4f := R0.f 4 rfl; have o5c := R0.c 5 rfl; have o5f := R0.f 5 rfl; have o6c := R0.c 6 rfl; have o6f := R0.f 6 rfl; have o7c := R0.c 7 rfl; have o7f := R0.f 7 rfl
    have p0c := X1.c 0 rfl; have p1c := X1.c 1 rfl; have p2c := X1.c 2 rfl; have p3c := X1.c 3 rfl
    have q0c := X2.c 0 rfl; have q1c := X2.c 1 rfl; have q2c := X2.c 2 rfl; have q3c := X2.c 3 rfl
    go_wp2
    refine bodyPost_ret (v := .tuple #[.agg #[.int .u64 e3, .int .u64 e2, .int .u64 e1, .int .u64 e0, .int .u64 f3, .int .u64 f2, .int .u64 f1, .int .u64 f0], .bool true]) (by simp [results, Try.results117, go_sem, o0c, o1c, o2c, o3c, o4c, o5c, o6c, o7c]) rfl ?_
    refine ⟨by rw [HV.out], ?_⟩
    repeat' (refine Below.setCell ?_ (by simp; try omega) _)
    exact HB
  · have HV : Hid (rtV x y = .tuple #[.agg #[.int .u64 0, .int .u64 0, .int .u64 0, .int .u64 0, .int .u64 0, .int .u64 0, .int .u64 0, .int .u64 0], .bool false]) := by show _ = _; rw [HR.out, if_neg ht]
    cases t1
    · have tok : True := trivial
      have HB := T0.below
      have o0c := R0.c 0 rfl; have o0f := R0.f 0 rfl; have o1c := R0.c 1 rfl; have o1f := R0.f 1 rfl; have o2c := R0.c 2 rfl; have o2f := R0.f 2 rfl; have o3c := R0.c 3 rfl; have o3f := R0.f 3 rfl; have o4c := R0.c 4 rfl; have o4f := R0.f 4 rfl; have o5c := R0.c 5 rfl; have o5f := R0.f 5 rfl; have o6c := R0.c 6 rfl; have o6f := R0.f 6 rfl; have o7c := R0.c 7 rfl; have o7f := R0.f 7 rfl
      go_wp2
      refine bodyPost_ret (v := .tuple #[.agg #[.int .u64 0, .int .u64 0, .int .u64 0, .int .u64 0, .int .u64 0, .int .u64 0, .int .u64 0, .int .u64 0], .bool false]) (by simp [results, Try.results117, go_sem, o0c, o1c, o2c, o3c, o4c, o5c, o6c, o7c]) rfl ?_
      refine ⟨by rw [HV.out], ?_⟩
      repeat' (refine Below.setCell ?_ (by simp; try omega) _)
      exact HB
    · cases t2
      · have tok : True := trivial
        have HB := T0.below
        have o0c := R0.c 0 rfl; have o0f := R0.f 0 rfl; have o1c := R0.c 1 rfl; have o1f := R0.f 1 rfl; have o2c := R0.c 2 rfl; have o2f := R0.f 2 rfl; have o3c := R0.c 3 rfl; have o3f := R0.f 3 rfl; have o4c := R0.c 4 rfl; have o4f := R0.f 4 rfl; have o5c := R0.c 5 rfl; have o5f := R0.f 5 rfl; have o6c := R0.c 6 rfl; have o6f := R0.f 6 rfl; have o7c := R0.c 7 rfl; have o7f := R0.f 7 rfl
        go_wp2
        refine bodyPost_ret (v := .tuple #[.agg #[.int .u64 0, .int .u64 0, .int .u64 0, .int .u64 0, .int .u64 0, .int .u64 0, .int .u64 0, .int .u64 0], .bool false]) (by simp [results, Try.results117, go_sem, o0c, o1c, o2c, o3c, o4c, o5c, o6c, o7c]) rfl ?_
        refine ⟨by rw [HV.out], ?_⟩
        repeat' (refine Below.setCell ?_ (by simp; try omega) _)
        exact HB
      · exact absurd ⟨rfl, rfl⟩ ht
theorem ro_args (a3 a2 a1 a0 b3 b2 b1 b0 : Int) (w : World) : ArgsB w (((w.alloc (.cells #[.int .u64 a3, .int .u64 a2, .int .u64 a1, .int .u64 a0] 26)).alloc (.cells #[.int .u64 b3, .int .u64 b2, .int .u64 b1, .int .u64 b0] 26)).alloc (.cells #[.int .u64 0, .int .u64 0, .int .u64 0, .int .u64 0, .int .u64 0, .int .u64 0, .int .u64 0, .int .u64 0] 37)) [[.int .u64 a3, .int .u64 a2, .int .u64 a1, .int .u64 a0], [.int .u64 b3, .int .u64 b2, .int .u64 b1, .int .u64 b0]] := by
  refine ⟨(((Below.refl _ _).alloc (Nat.le_refl _) _).alloc (by simp) _).alloc (by simp; omega) _, fun j vs hj => ?_⟩
  match j, hj with
  | 0, hj => cases hj; exact ((Blk.new w [.int .u64 a3, .int .u64 a2, .int .u64 a1, .int .u64 a0] 26 rfl).alloc _).alloc _
  | 1, hj => cases hj; exact (Blk.new (w.alloc (.cells #[.int .u64 a3, .int .u64 a2, .int .u64 a1, .int .u64 a0] 26)) [.int .u64 b3, .int .u64 b2, .int .u64 b1, .int .u64 b0] 26 (by simp)).alloc _
  | j + 2, hj => simp at hj
set_option maxRecDepth 100000 in
set_option maxHeartbeats 4000000 in
theorem specRatioOf_any (a3 a2 a1 a0 b3 b2 b1 b0 : Int) (ha3 : Word a3) (ha2 : Word a2) (ha1 : Word a1) (ha0 : Word a0) (hb3 : Word b3) (hb2 : Word b2) (hb1 : Word b1) (hb0 : Word b0) (w : World) : Calls Try.prog 105 #[.agg #[.int .u64 a3, .int .u64 a2, .int .u64 a1, .int .u64 a0], .agg #[.int .u64 b3, .int .u64 b2, .int .u64 b1, .int .u64 b0]] w (VP (ratV (sw a3 a2 a1 a0) (sw b3 b2 b1 b0)) w) := by
  have T0 := ro_args a3 a2 a1 a0 b3 b2 b1 b0 w
  have R0 : Blk (((w.alloc (.cells #[.int .u64 a3, .int .u64 a2, .int .u64 a1, .int .u64 a0] 26)).alloc (.cells #[.int .u64 b3, .int .u64 b2, .int .u64 b1, .int .u64 b0] 26)).alloc (.cells #[.int .u64 0, .int .u64 0, .int .u64 0, .int .u64 0, .int .u64 0, .int .u64 0, .int .u64 0, .int .u64 0] 37)) (w.heap.size + 1 + 1) [.int .u64 0, .int .u64 0, .int .u64 0, .int .u64 0, .int .u64 0, .int .u64 0, .int .u64 0, .int .u64 0] := Blk.new _ [.int .u64 0, .int .u64 0, .int .u64 0, .int .u64 0, .int .u64 0, .int .u64 0, .int .u64 0, .int .u64 0] _ (by simp)
  have EZ := eqZ4 b3 b2 b1 b0
  rw [zero4 hb3 hb2 hb1 hb0] at EZ
  by_cases hb : (sw b3 b2 b1 b0) = 0
  · have HV : Hid (ratV (sw a3 a2 a1 a0) (sw b3 b2 b1 b0) = .tuple #[.agg #[.int .u64 0, .int .u64 0, .int .u64 0, .int .u64 0, .int .u64 0, .int .u64 0, .int .u64 0, .int .u64 0], .bool false]) := by show _ = _; unfold ratV; rw [if_neg (by rintro ⟨h, -⟩; exact h hb)]
    simp only [hb, decide_true] at EZ
    go_enter Try.func105, Try.ntmps105
    go_upto_region 2 with fail
    generalize (((w.alloc (.cells #[.int .u64 a3, .int .u64 a2, .int .u64 a1, .int .u64 a0] 26)).alloc (.cells #[.int .u64 b3, .int .u64 b2, .int .u64 b1, .int .u64 b0] 26)).alloc (.cells #[.int .u64 0, .int .u64 0, .int .u64 0, .int .u64 0, .int .u64 0, .int .u64 0, .int .u64 0, .int .u64 0] 37)) = W at *
    have HB := T0.below
    have o0c := R0.c 0 rfl; have o0f := R0.f 0 rfl; have o1c := R0.c 1 rfl; have o1f := R0.f 1 rfl; have o2c := R0.c 2 rfl; have o2f := R0.f 2 rfl; have o3c := R0.c 3 rfl; have o3f := R0.f 3 rfl; have o4c := R0.c 4 rfl; have o4f := R0.f 4 rfl; have o5c := R0.c 5 rfl; have o5f := R0.f 5 rfl; have o6c := R0.c 6 rfl; have o6f := R0.f 6 rfl; have o7c := R0.c 7 rfl; have o7f := R0.f 7 rfl
    go_wp2
    refine bodyPost_ret (v := .tuple #[.agg #[.int .u64 0, .int .u64 0, .int .u64 0, .int .u64 0, .int .u64 0, .int .u64 0, .int .u64 0, .int .u64 0], .bool false]) (by simp [results, Try.results105, go_sem, o0c, o1c, o2c, o3c, o4c, o5c, o6c, o7c]) rfl ?_
    refine ⟨by rw [HV.out], ?_⟩
    repeat' (refine Below.setCell ?_ (by simp; try omega) _)
    exact HB
  · simp only [hb, decide_false] at EZ
    have FA := from_any a3 a2 a1 a0 ha3 ha2 ha1 ha0
    have FB := from_any b3 b2 b1 b0 hb3 hb2 hb1 hb0
    obtain ⟨z0, z1, z2, z3, z4, z5, z6, z7, t, hz⟩ := rtV_ex (lowN (sw a3 a2 a1 a0) (sw b3 b2 b1 b0)) (lowD (sw a3 a2 a1 a0) (sw b3 b2 b1 b0))
    have HV : Hid (ratV (sw a3 a2 a1 a0) (sw b3 b2 b1 b0) = .tuple #[.agg #[.int .u64 z0, .int .u64 z1, .int .u64 z2, .int .u64 z3, .int .u64 z4, .int .u64 z5, .int .u64 z6, .int .u64 z7], .bool t]) := (ratV_rt hb).trans hz
    have tok1 : True := trivial
    go_enter Try.func105, Try.ntmps105
    go_upto_region 3 with fail
    generalize (((w.alloc (.cells #[.int .u64 a3, .int .u64 a2, .int .u64 a1, .int .u64 a0] 26)).alloc (.cells #[.int .u64 b3, .int .u64 b2, .int .u64 b1, .int .u64 b0] 26)).alloc (.cells #[.int .u64 0, .int .u64 0, .int .u64 0, .int .u64 0, .int .u64 0, .int .u64 0, .int .u64 0, .int .u64 0] 37)) = W at *
    have hlw := (T0.b 1 rfl).lt
    have hlr := R0.lt
    go_region_held3 (fun w' => w'.cell? ⟨w.heap.size, 0, none⟩ = some (.int .u64 a3) ∧ w'.cell? ⟨w.heap.size, 1, none⟩ = some (.int .u64 a2) ∧ w'.cell? ⟨w.heap.size, 2, none⟩ = some (.int .u64 a1) ∧ w'.cell? ⟨w.heap.size, 3, none⟩ = some (.int .u64 a0) ∧ w'.cell? ⟨w.heap.size + 1, 0, none⟩ = some (.int .u64 b3) ∧ w'.cell? ⟨w.heap.size + 1, 1, none⟩ = some (.int .u64 b2) ∧ w'.cell? ⟨w.heap.size + 1, 2, none⟩ = some (.int .u64 b1) ∧ w'.cell? ⟨w.heap.size + 1, 3, none⟩ = some (.int .u64 b0)) ((refine sd_cells (cs := []) ?_ <;> repeat (first | (with_reducible exact T0) | (with_reducible refine ArgsB.drew ?_) | (with_reducible refine ArgsB.set8g ?_ (by simp <;> omega) _ _ _ _ _ _ _ _)))) 
      (first
        | (go_at_call 43; have _t := tok1; refine (FA _).mono ?_; rintro e w1 ⟨s1, o1, n1, c1, d1, rfl, N1, hB⟩; (first | (have T1 : ArgsB w w1 [[.int .u64 a3, .int .u64 a2, .int .u64 a1, .int .u64 a0], [.int .u64 b3, .int .u64 b2, .int .u64 b1, .int .u64 b0]] := (by with_reducible exact T0.step hB); have tltw1 := (T0.b 1 rfl).lt; have lR0w1 := R0.lt; replace R0 := R0.step hB; skip) | (have T1 : ArgsB w w1 [[.int .u64 a3, .int .u64 a2, .int .u64 a1, .int .u64 a0], [.int .u64 b3, .int .u64 b2, .int .u64 b1, .int .u64 b0]] := (by with_reducible exact T0.drew.step hB); have tltw1 := (T0.b 1 rfl).lt; have lR0w1 := R0.lt; replace R0 := R0.drew.step hB; skip)); clear T0; have T0 := T1; clear T1; (try (replace N2 := N2.step hB)); clear hB tok1 _t)
        | (go_at_call 43; refine (FB _).mono ?_; rintro e w2 ⟨s2, o2, n2, c2, d2, rfl, N2, hB⟩; (first | (have T1 : ArgsB w w2 [[.int .u64 a3, .int .u64 a2, .int .u64 a1, .int .u64 a0], [.int .u64 b3, .int .u64 b2, .int .u64 b1, .int .u64 b0]] := (by with_reducible exact T0.step hB); have tltw2 := (T0.b 1 rfl).lt; have lR0w2 := R0.lt; replace R0 := R0.step hB; skip) | (have T1 : ArgsB w w2 [[.int .u64 a3, .int .u64 a2, .int .u64 a1, .int .u64 a0], [.int .u64 b3, .int .u64 b2, .int .u64 b1, .int .u64 b0]] := (by with_reducible exact T0.drew.step hB); have tltw2 := (T0.b 1 rfl).lt; have lR0w2 := R0.lt; replace R0 := R0.drew.step hB; skip)); clear T0; have T0 := T1; clear T1; (try (replace N1 := N1.step hB)); clear hB)
        | (go_at_call 118; refine (l2Make_any s1 o1 n1 c1 d1 s2 o2 n2 c2 d2 _ _ 8 (by omega) (by omega) _ N1 N2 hb).mono ?_; rintro e w3 ⟨s3, o3, n3, c3, d3, s4, o4, n4, c4, d4, rfl, N3, N4, hB⟩; (first | (have T1 : ArgsB w w3 [[.int .u64 a3, .int .u64 a2, .int .u64 a1, .int .u64 a0], [.int .u64 b3, .int .u64 b2, .int .u64 b1, .int .u64 b0]] := (by with_reducible exact T0.step hB); have tltw3 := (T0.b 1 rfl).lt; have lR0w3 := R0.lt; replace R0 := R0.step hB; skip) | (have T1 : ArgsB w w3 [[.int .u64 a3, .int .u64 a2, .int .u64 a1, .int .u64 a0], [.int .u64 b3, .int .u64 b2, .int .u64 b1, .int .u64 b0]] := (by with_reducible exact T0.drew.step hB); have tltw3 := (T0.b 1 rfl).lt; have lR0w3 := R0.lt; replace R0 := R0.drew.step hB; skip)); clear T0; have T0 := T1; clear T1; clear hB N1 N2)
        | (go_at_call 117; refine (l2Ratio_any s3 o3 n3 c3 d3 s4 o4 n4 c4 d4 _ _ _ (by omega) _ N3 N4).mono ?_; rw [hz]; rintro e w4 ⟨rfl, hB⟩; (first | (have T1 : ArgsB w w4 [[.int .u64 a3, .int .u64 a2, .int .u64 a1, .int .u64 a0], [.int .u64 b3, .int .u64 b2, .int .u64 b1, .int .u64 b0]] := (by with_reducible exact T0.step hB); have tltw4 := (T0.b 1 rfl).lt; have lR0w4 := R0.lt; replace R0 := R0.step hB; skip) | (have T1 : ArgsB w w4 [[.int .u64 a3, .int .u64 a2, .int .u64 a1, .int .u64 a0], [.int .u64 b3, .int .u64 b2, .int .u64 b1, .int .u64 b0]] := (by with_reducible exact T0.drew.step hB); have tltw4 := (T0.b 1 rfl).lt; have lR0w4 := R0.lt; replace R0 := R0.drew.step hB; skip)); clear T0; have T0 := T1; clear T1; have o0c := R0.c 0 rfl; have o0f := R0.f 0 rfl; have o1c := R0.c 1 rfl; have o1f := R0.f 1 rfl; have o2c := R0.c 2 rfl; have o2f := R0.f 2 rfl; have o3c := R0.c 3 rfl; have o3f := R0.f 3 rfl; have o4c := R0.c 4 rfl; have o4f := R0.f 4 rfl; have o5c := R0.c 5 rfl; have o5f := R0.f 5 rfl; have o6c := R0.c 6 rfl; have o6f := R0.f 6 rfl; have o7c := R0.c 7 rfl; have o7f := R0.f 7 rfl; have olt := R0.lt; clear hB N3 N4))
    all_goals have HB := T0.below
    all_goals clear T0
    all_goals go_wp2
    all_goals refine bodyPost_ret (v := .tuple #[.agg #[.int .u64 z0, .int .u64 z1, .int .u64 z2, .int .u64 z3, .int .u64 z4, .int .u64 z5, .int .u64 z6, .int .u64 z7], .bool t]) (by simp [results, Try.results105, go_sem, o0c, o1c, o2c, o3c, o4c, o5c, o6c, o7c]) rfl ?_
    all_goals refine ⟨by rw [HV.out], ?_⟩
    all_goals (try (with_reducible refine Below.drew ?_))
    all_goals repeat' (refine Below.setCell ?_ (by simp; try omega) _)
    all_goals exact HB
end Go.Proofs.Ytnnojeggjnddpaa

/- Sums of numbers of eight words, and that words tell a number. -/
namespace Go.Proofs.Ytnnojeggjnddpaa
open Go.RowKit
end Go.Proofs.Ytnnojeggjnddpaa

/- The program's sums, products and quotients of fractions. -/
namespace Go.Proofs.Ytnnojeggjnddpaa
open Go.RowKit
end Go.Proofs.Ytnnojeggjnddpaa

/- The program's laws of two fractions, as far as they are told. -/
namespace Go.Proofs.Ytnnojeggjnddpaa
open Go.RowKit
end Go.Proofs.Ytnnojeggjnddpaa

/- The floor of a fraction: the program's, the model's, and the law. -/
namespace Go.Proofs.Ytnnojeggjnddpaa
open Go.RowKit
end Go.Proofs.Ytnnojeggjnddpaa

/- A spot as a point: the walks of the model's numbers. -/
namespace Go.Proofs.Ytnnojeggjnddpaa
open Go.RowKit
end Go.Proofs.Ytnnojeggjnddpaa

/- A spot as a point: the walks of the model's point of numbers. -/
namespace Go.Proofs.Ytnnojeggjnddpaa
open Go.RowKit
def small (z : Int) : Bool := decide ((z.natAbs : Int) < 1208925819614629174706176)
end Go.Proofs.Ytnnojeggjnddpaa

/- Numbers by their own words: what is answered is known ahead. -/
namespace Go.Proofs.Ytnnojeggjnddpaa
open Go.RowKit
theorem ww_words (z : Int) : Word (ww3 z) ∧ Word (ww2 z) ∧ Word (ww1 z) ∧ Word (ww0 z) := by
  have h : ∀ x : Int, Word (x % 18446744073709551616) := fun x => ⟨Int.emod_nonneg _ (by decide), Int.emod_lt_of_pos _ (by decide)⟩
  exact ⟨h _, h _, h _, h _⟩
theorem ww_sw {z : Int} (h : told z = true) : sw (ww3 z) (ww2 z) (ww1 z) (ww0 z) = z := by
  unfold told at h
  rw [decide_eq_true_iff] at h
  unfold sw uw ww3 ww2 ww1 ww0
  split <;> omega
end Go.Proofs.Ytnnojeggjnddpaa

/- Fractions by their own numbers: the reckoning of sums, products, order and floor. -/
namespace Go.Proofs.Ytnnojeggjnddpaa
open Go.RowKit
abbrev RZ (n d : Int) : Value := .agg #[.int .u64 (ww3 n), .int .u64 (ww2 n), .int .u64 (ww1 n), .int .u64 (ww0 n), .int .u64 (ww3 d), .int .u64 (ww2 d), .int .u64 (ww1 d), .int .u64 (ww0 d)]
theorem rz0 : RZ 0 0 = .agg #[.int .u64 0, .int .u64 0, .int .u64 0, .int .u64 0, .int .u64 0, .int .u64 0, .int .u64 0, .int .u64 0] := by
  have h3 : ww3 0 = 0 := by decide
  have h2 : ww2 0 = 0 := by decide
  have h1 : ww1 0 = 0 := by decide
  have h0 : ww0 0 = 0 := by decide
  show Value.agg #[.int .u64 (ww3 0), .int .u64 (ww2 0), .int .u64 (ww1 0), .int .u64 (ww0 0), .int .u64 (ww3 0), .int .u64 (ww2 0), .int .u64 (ww1 0), .int .u64 (ww0 0)] = _
  rw [h3, h2, h1, h0]
theorem ratV_rz (n d : Int) : ∃ N D t, ratV n d = .tuple #[RZ N D, .bool t] ∧ told N = true ∧ told D = true ∧ (t = true → d ≠ 0 ∧ N = lowN n d ∧ D = lowD n d) := by
  unfold ratV
  split
  · rename_i h
    exact ⟨lowN n d, lowD n d, true, rfl, h.2.1, h.2.2, fun _ => ⟨h.1, rfl, rfl⟩⟩
  · exact ⟨0, 0, false, by rw [rz0], by decide, by decide, fun h => by cases h⟩
end Go.Proofs.Ytnnojeggjnddpaa

/- Fractions in their order: the model's walks. -/
namespace Go.Proofs.Ytnnojeggjnddpaa
open Go.RowKit
end Go.Proofs.Ytnnojeggjnddpaa

/- The model's sums and products of two fractions. -/
namespace Go.Proofs.Ytnnojeggjnddpaa
open Go.RowKit
end Go.Proofs.Ytnnojeggjnddpaa

/- The model's word on sums of two fractions. -/
namespace Go.Proofs.Ytnnojeggjnddpaa
open Go.RowKit
end Go.Proofs.Ytnnojeggjnddpaa

/- The walk of the program's difference of four words. -/
namespace Go.Proofs.Ytnnojeggjnddpaa
open Go.RowKit
end Go.Proofs.Ytnnojeggjnddpaa

/- The walks of the negation of four words, by the model and by the program, and of the law over both. -/
namespace Go.Proofs.Ytnnojeggjnddpaa
open Go.RowKit
end Go.Proofs.Ytnnojeggjnddpaa

/- The walk of the program's sum of four words. -/
namespace Go.Proofs.Ytnnojeggjnddpaa
open Go.RowKit
end Go.Proofs.Ytnnojeggjnddpaa

/- Fractions by their own numbers: what is asked of the program and of the model. -/
namespace Go.Proofs.Ytnnojeggjnddpaa
open Go.RowKit
theorem eqWd4 (a3 a2 a1 a0 b3 b2 b1 b0 : Int) (w : World) : (Op.equalIn 9999 26 (.agg #[.int .u64 a3, .int .u64 a2, .int .u64 a1, .int .u64 a0]) (.agg #[.int .u64 b3, .int .u64 b2, .int .u64 b1, .int .u64 b0])).run Try.prog w = .ok (a3 == b3 && a2 == b2 && a1 == b1 && a0 == b0) w := by
  have u3 := Try.underlying22
  have a3' := Try.isAgg22
  have z3 := Try.sizeOf22
  rw [show (9999 : Nat) = 9998 + 1 from rfl, Op.equalIn]
  simp only [Sem.run_bind, run_underlying Try.underlying26, Result.andThen_ok]
  go_simp
  by_cases h3 : a3 = b3
  · subst h3
    by_cases h2 : a2 = b2
    · subst h2
      by_cases h1 : a1 = b1
      · subst h1
        by_cases h0 : a0 = b0
        · subst h0
          simp
        · simp [h0]
      · simp [h1]
    · simp [h2]
  · simp [h3]
theorem eqWdW (x u : Int) (hx : told x = true) (hu : told u = true) (w : World) : (Op.equalIn 9999 26 (W4 x) (W4 u)).run Try.prog w = .ok (decide (x = u)) w := by
  rw [eqWd4]
  congr 1
  rw [Bool.eq_iff_iff]
  simp only [Bool.and_eq_true, beq_iff_eq, decide_eq_true_eq]
  constructor
  · rintro ⟨⟨⟨e3, e2⟩, e1⟩, e0⟩
    rw [← ww_sw hx, ← ww_sw hu, e3, e2, e1, e0]
  · rintro rfl
    exact ⟨⟨⟨rfl, rfl⟩, rfl⟩, rfl⟩
set_option maxRecDepth 100000 in
set_option maxHeartbeats 2000000 in
theorem eqRZ (n d m e : Int) (hn : told n = true) (hd : told d = true) (hm : told m = true) (he : told e = true) (w : World) : (Op.equalIn 10000 37 (RZ n d) (RZ m e)).run Try.prog w = .ok (decide (n = m) && decide (d = e)) w := by
  have E1 := eqWdW n m hn hm
  have E2 := eqWdW d e hd he
  have u3 := Try.underlying26
  have a3 := Try.isAgg26
  have z3 := Try.sizeOf26
  rw [show (10000 : Nat) = 9999 + 1 from rfl, Op.equalIn]
  simp only [Sem.run_bind, run_underlying Try.underlying37, Result.andThen_ok]
  go_simp
  by_cases h1 : n = m
  · by_cases h2 : d = e
    · simp [h1, h2]
    · simp [h1, h2]
  · simp [h1]
theorem okZ_det (n d : Int) (hn : told n = true) (hd : told d = true) (w : World) : Calls Try.prog 37 #[RZ n d] w (VP (.bool (rightB n d)) w) := by
  obtain ⟨a3, a2, a1, a0⟩ := ww_words n
  obtain ⟨b3, b2, b1, b0⟩ := ww_words d
  have h := implRatioOk_any (ww3 n) (ww2 n) (ww1 n) (ww0 n) (ww3 d) (ww2 d) (ww1 d) (ww0 d) a3 a2 a1 a0 b3 b2 b1 b0 w
  rw [ww_sw hn, ww_sw hd] at h
  exact h
end Go.Proofs.Ytnnojeggjnddpaa

/- Numbers drawn from a code: what the walks of the reader share, and its small ones. -/
namespace Go.Proofs.Ytnnojeggjnddpaa
open Go.RowKit
/-- No other block has turned than g. -/
structure Kept (g : Nat) (w w' : World) : Prop where
  os : w'.os = w.os
  tape : w'.tape = w.tape
  output : w'.output = w.output
  size : w.heap.size ≤ w'.heap.size
  block : ∀ k, k < w.heap.size → k ≠ g → w'.heap[k]? = w.heap[k]?
  other : ∀ j, j ≠ 1 → g < w.heap.size → w'.cell? ⟨g, j, none⟩ = w.cell? ⟨g, j, none⟩
theorem Kept.refl (g : Nat) (w : World) : Kept g w w := ⟨rfl, rfl, rfl, Nat.le_refl _, fun _ _ _ => rfl, fun _ _ _ => rfl⟩
theorem Kept.trans {g : Nat} {a b c : World} (h : Kept g a b) (k : Kept g b c) : Kept g a c :=
  ⟨k.os.trans h.os, k.tape.trans h.tape, k.output.trans h.output, Nat.le_trans h.size k.size, fun i hi hg => (k.block i (Nat.lt_of_lt_of_le hi h.size) hg).trans (h.block i hi hg), fun j hj hl => (k.other j hj (Nat.lt_of_lt_of_le hl h.size)).trans (h.other j hj hl)⟩
theorem Kept.of {g : Nat} {a b : World} (h : Below a.heap.size a b) : Kept g a b := ⟨h.os, h.tape, h.output, h.size, fun i hi _ => h.block i hi, fun j _ hl => h.cell (p := ⟨g, j, none⟩) hl⟩
theorem Kept.drew {g : Nat} {a b : World} (h : Kept g a b) : Kept g a b.drew := ⟨h.os, h.tape, h.output, h.size, h.block, h.other⟩
theorem Kept.drewN {g : Nat} {a b : World} (h : Kept g a b) (n : Nat) : Kept g a (b.drewN n) := ⟨h.os, h.tape, h.output, h.size, h.block, h.other⟩
theorem Kept.set {g : Nat} {a b : World} (h : Kept g a b) (u : Value) : Kept g a (b.setCell ⟨g, 1, none⟩ u) :=
  ⟨h.os, h.tape, h.output, by simpa [World.setCell] using h.size, fun k hk hg => (Below.heap_setCell _ _ _ _ hg).trans (h.block k hk hg), fun j hj hl => (World.cell?_setCell_other _ _ _ _ (by intro e; simp only [Addr.mk.injEq] at e; omega)).trans (h.other j hj hl)⟩
theorem Kept.alloc {g : Nat} {a b : World} (h : Kept g a b) (o : Obj) : Kept g a (b.alloc o) := h.trans (Kept.of ((Below.refl _ _).alloc (Nat.le_refl _) o))
theorem Kept.below {g B : Nat} {a b : World} (h : Kept g a b) (hB : B ≤ g) (hB' : B ≤ a.heap.size) : Below B a b := ⟨h.os, h.tape, h.output, h.size, fun k hk => h.block k (by omega) (by omega)⟩
theorem Blk.kept {W W' : World} {g h : Nat} {vs : List Value} (H : Blk W h vs) (k : Kept g W W') (hne : h ≠ g) : Blk W' h vs := by
  have e := k.block h H.lt hne
  refine ⟨Nat.lt_of_lt_of_le H.lt k.size, fun i v hi => ⟨?_, ?_⟩⟩
  · exact (World.cell?_of_block (w := W) e).trans (H.c i hi)
  · exact (World.frozen?_of_block (w := W) e).trans (H.f i hi)
/-- The reader lies in the block g, and what it reads lies ahead of it. -/
structure Rdr (w : World) (g : Nat) (ao : Option Addr) (n cap : Nat) (cs : List Int) : Prop where
  blk : ∃ p : Nat, p ≤ n ∧ Blk w g [.slice ao n cap, .int .i64 p]
  bytes : ∀ i, (h : i < cs.length) → ∃ b off, ao = some ⟨b, off, none⟩ ∧ b < g ∧ w.cell? ⟨b, off + i, none⟩ = some (.int .u8 cs[i])
  len : cs.length = n
  small : n ≤ 1048576
  byte : ∀ c ∈ cs, 0 ≤ c ∧ c < 256
theorem Rdr.lt {w : World} {g : Nat} {ao : Option Addr} {n cap : Nat} {cs : List Int} (h : Rdr w g ao n cap cs) : g < w.heap.size := by
  obtain ⟨p, _, B⟩ := h.blk
  exact B.lt
theorem Rdr.step {w w' : World} {g : Nat} {ao : Option Addr} {n cap : Nat} {cs : List Int} (h : Rdr w g ao n cap cs) (hB : Below w.heap.size w w') : Rdr w' g ao n cap cs := by
  obtain ⟨p, hp, B⟩ := h.blk
  refine ⟨⟨p, hp, B.step hB⟩, fun i hi => ?_, h.len, h.small, h.byte⟩
  obtain ⟨b, off, e, hb, hc⟩ := h.bytes i hi
  exact ⟨b, off, e, hb, (hB.cell (p := ⟨b, off + i, none⟩) (show b < w.heap.size by have := B.lt; omega)).trans hc⟩
theorem Rdr.alloc {w : World} {g : Nat} {ao : Option Addr} {n cap : Nat} {cs : List Int} (h : Rdr w g ao n cap cs) (o : Obj) : Rdr (w.alloc o) g ao n cap cs := h.step ((Below.refl _ _).alloc (Nat.le_refl _) o)
theorem Rdr.drew {w : World} {g : Nat} {ao : Option Addr} {n cap : Nat} {cs : List Int} (h : Rdr w g ao n cap cs) : Rdr w.drew g ao n cap cs := ⟨h.blk, h.bytes, h.len, h.small, h.byte⟩
theorem Rdr.drewN {w : World} {g : Nat} {ao : Option Addr} {n cap : Nat} {cs : List Int} (h : Rdr w g ao n cap cs) (k : Nat) : Rdr (w.drewN k) g ao n cap cs := ⟨h.blk, h.bytes, h.len, h.small, h.byte⟩
theorem Rdr.put {w : World} {g : Nat} {ao : Option Addr} {n cap : Nat} {cs : List Int} (h : Rdr w g ao n cap cs) (p : Nat) (hp : p ≤ n) : Rdr (w.setCell ⟨g, 1, none⟩ (.int .i64 p)) g ao n cap cs := by
  obtain ⟨q, hq, B⟩ := h.blk
  refine ⟨⟨p, hp, B.setI 1 (by simp) _⟩, fun i hi => ?_, h.len, h.small, h.byte⟩
  obtain ⟨b, off, e, hb, hc⟩ := h.bytes i hi
  exact ⟨b, off, e, hb, (World.cell?_setCell_other _ _ _ _ (by intro e; simp only [Addr.mk.injEq] at e; omega)).trans hc⟩
/-- What a call of the reader's leaves. -/
def RdP (g : Nat) (ao : Option Addr) (n cap : Nat) (cs : List Int) (Q : Value → Prop) (w : World) (e : Ending) (w' : World) : Prop := ∃ v, e = .returned v ∧ Q v ∧ Rdr w' g ao n cap cs ∧ Kept g w w'
def IsIn (a b : Int) (v : Value) : Prop := ∃ x : Int, v = .int .i64 x ∧ a ≤ x ∧ x < b
set_option maxRecDepth 100000 in
set_option maxHeartbeats 1000000 in
theorem next_any (g : Nat) (ao : Option Addr) (n cap : Nat) (cs : List Int) (w : World) (h : Rdr w g ao n cap cs) :
    Calls Try.prog 103 #[.pointer (some ⟨g, 0, none⟩)] w (RdP g ao n cap cs (IsIn 0 256) w) := by
  obtain ⟨p, hp, B⟩ := h.blk
  have b0 := B.c 0 rfl; have b1 := B.c 1 rfl; have f1 := B.f 1 rfl; have bl := B.lt
  by_cases hq : p < n
  · have hpl : p < cs.length := by rw [h.len]; exact hq
    obtain ⟨b, off, rfl, hb, hc⟩ := h.bytes p hpl
    obtain ⟨y0, y1⟩ := h.byte _ (List.getElem_mem hpl)
    have R := fun k => (h.drewN k).put (p + 1) (by omega)
    have hs := h.small
    generalize cs[p] = y at *
    have hne : g ≠ b := by omega
    have i1 : (p : Int) < n := by omega
    clear h B
    go_enter Try.func103, Try.ntmps103
    go_wp2
    go_quiet (fail)
    go_wp2
    go_quiet (fail)
    go_wp2
    go_ret
    exact ⟨_, rfl, ⟨y, rfl, y0, y1⟩, (R _).drewN _, (((Kept.refl _ _).drewN _).set _).drewN _⟩
  · obtain rfl : p = n := by omega
    have hs := h.small
    go_enter Try.func103, Try.ntmps103
    go_wp2
    go_quiet (fail)
    go_wp2
    go_ret
    exact ⟨_, rfl, ⟨0, rfl, by decide, by decide⟩, h.drewN _, (Kept.refl _ _).drewN _⟩
set_option maxRecDepth 100000 in
set_option maxHeartbeats 1000000 in
theorem below_any (m : Int) (h2 : 2 ≤ m) (h256 : m ≤ 256) (g : Nat) (ao : Option Addr) (n cap : Nat) (cs : List Int) (w : World) (h : Rdr w g ao n cap cs) :
    Calls Try.prog 68 #[.pointer (some ⟨g, 0, none⟩), .int .i64 m] w (RdP g ao n cap cs (IsIn 0 m) w) := by
  go_enter Try.func68, Try.ntmps68
  go_wp2_with fail
  all_goals first | (exfalso; omega) | skip
  refine (next_any g ao n cap cs _ h).mono ?_
  rintro e w1 ⟨_, rfl, ⟨x, rfl, x0, x1⟩, R, K⟩
  have hm : m ≠ 0 := by omega
  go_wp2
  go_ret
  exact ⟨_, rfl, ⟨x % m, rfl, Int.emod_nonneg _ hm, Int.emod_lt_of_pos _ (by omega)⟩, R, K⟩
theorem or_word {a b : Int} (ha : Word a) (hb : Word b) : Word (bits .or .u64 a b) := by
  obtain ⟨a0, a1⟩ := ha
  obtain ⟨b0, b1⟩ := hb
  obtain ⟨a, rfl⟩ := Int.eq_ofNat_of_zero_le a0
  obtain ⟨b, rfl⟩ := Int.eq_ofNat_of_zero_le b0
  rw [bits_or_u64_nat a b (by omega) (by omega)]
  have := Nat.or_lt_two_pow (n := 64) (x := a) (y := b) (by omega) (by omega)
  exact ⟨by omega, by omega⟩
def IsWord (v : Value) : Prop := ∃ x : Int, v = .int .u64 x ∧ Word x
def IsBool (v : Value) : Prop := ∃ b, v = .bool b
set_option maxRecDepth 100000 in
set_option maxHeartbeats 1000000 in
theorem once_any (m : Int) (h2 : 2 ≤ m) (h256 : m ≤ 256) (g : Nat) (ao : Option Addr) (n cap : Nat) (cs : List Int) (w : World) (h : Rdr w g ao n cap cs) :
    Calls Try.prog 100 #[.pointer (some ⟨g, 0, none⟩), .int .i64 m] w (RdP g ao n cap cs IsBool w) := by
  go_enter Try.func100, Try.ntmps100
  go_wp2_with fail
  refine (below_any m h2 h256 g ao n cap cs _ h).mono ?_
  rintro e w1 ⟨_, rfl, ⟨x, rfl, x0, x1⟩, R, K⟩
  go_wp2
  go_ret
  exact ⟨_, rfl, ⟨_, rfl⟩, R, K⟩
set_option maxRecDepth 100000 in
set_option maxHeartbeats 1000000 in
theorem word_any (g : Nat) (ao : Option Addr) (n cap : Nat) (cs : List Int) (w : World) (h : Rdr w g ao n cap cs) :
    Calls Try.prog 101 #[.pointer (some ⟨g, 0, none⟩)] w (RdP g ao n cap cs IsWord w) := by
  go_enter Try.func101, Try.ntmps101
  go_wp2
  go_loopw [3, 4] (fun o i wr => ∃ (k : Nat) (x : Int), k ≤ 8 ∧ i = .int .i64 k ∧ o = .int .u64 x ∧ Word x ∧ Rdr wr g ao n cap cs ∧ Kept g w wr) (fun _ i _ => 8 - (intOf i).toNat)
  case atStart => exact ⟨0, 0, by omega, rfl, rfl, ⟨by decide, by decide⟩, h, Kept.refl _ _⟩
  case round =>
    clear h
    obtain ⟨k, x, hk, rfl, rfl, hx, R, K⟩ := hrel
    by_cases hk8 : k < 8
    · have i1 : (k : Int) < 8 := by omega
      go_wp2_with fail
      refine (next_any g ao n cap cs _ R).mono ?_
      rintro e w1 ⟨_, rfl, ⟨y, rfl, y0, y1⟩, R1, K1⟩
      replace K := K.trans K1
      clear R K1
      have hy : IntKind.u64.wrap y = y := by rw [IntKind.wrap_u64]; omega
      have OW := or_word (a := IntKind.u64.wrap (x * 256)) (b := y) (by rw [IntKind.wrap_u64]; exact ⟨by omega, by omega⟩) ⟨y0, by omega⟩
      clear hx
      go_wp2
      go_roundw
      case rel => exact ⟨k + 1, _, by omega, by go_num, rfl, OW, R1, K⟩
      case measure => simp [intOf]; omega
    · obtain rfl : k = 8 := by omega
      go_wp2
      go_ret
      exact ⟨_, rfl, ⟨x, rfl, hx⟩, R, K⟩
theorem Rd.kept {w w' : World} {g : Nat} {ao bo : Option Addr} {n cap : Nat} {cs ds : List Int} (h : Rd w bo ds) (R : Rdr w g ao n cap cs) (K : Kept g w w') : Rd w' bo ds := by
  intro i hi
  obtain ⟨b, off, e, hb, hc⟩ := h i hi
  refine ⟨b, off, e, Nat.lt_of_lt_of_le hb K.size, ?_⟩
  by_cases hg : b = g
  · subst hg
    by_cases h1 : off + i = 1
    · exfalso
      obtain ⟨p, _, B⟩ := R.blk
      have := B.c 1 rfl
      rw [h1, this] at hc
      cases hc
    · exact (K.other _ h1 hb).trans hc
  · exact (World.cell?_of_block (w := w) (K.block b hb hg)).trans hc
theorem IsNum.kept {w w' : World} {g : Nat} {ao bo : Option Addr} {n cap m c : Nat} {cs ds : List Int} {s : Bool} {z : Int} {k : Nat} (h : IsNum w s bo m c ds z k) (R : Rdr w g ao n cap cs) (K : Kept g w w') : IsNum w' s bo m c ds z k :=
  ⟨h.neg, h.len, h.cap, h.rd.kept R K, h.nrm, h.val, h.le⟩
set_option maxRecDepth 100000 in
set_option maxHeartbeats 1000000 in
theorem near_any (g : Nat) (ao : Option Addr) (n cap : Nat) (cs : List Int) (w : World) (h : Rdr w g ao n cap cs) :
    Calls Try.prog 102 #[.pointer (some ⟨g, 0, none⟩), .int .i64 (-60), .int .i64 60] w (RdP g ao n cap cs (IsIn (-60) 61) w) := by
  go_enter Try.func102, Try.ntmps102
  go_wp2_with fail
  refine (below_any 8 (by decide) (by decide) g ao n cap cs _ h).mono ?_
  rintro e w1 ⟨_, rfl, ⟨x, rfl, x0, x1⟩, R, K⟩
  clear h
  by_cases h0 : x = 0
  · subst h0
    go_wp2
    go_ret
    exact ⟨_, rfl, ⟨_, rfl, by decide, by decide⟩, R, K⟩
  · by_cases h1 : x = 1
    · subst h1
      go_wp2
      go_ret
      exact ⟨_, rfl, ⟨_, rfl, by decide, by decide⟩, R, K⟩
    · have e0 : (x == 0) = false := by simpa using h0
      have e1 : (x == 1) = false := by simpa using h1
      go_wp2_with fail
      refine (word_any g ao n cap cs _ R).mono ?_
      rintro e w2 ⟨_, rfl, ⟨y, rfl, y0, y1⟩, R2, K2⟩
      replace K := K.trans K2
      clear R K2
      have hw : IntKind.u64.wrap 121 = 121 := by rw [IntKind.wrap_u64]; decide
      go_wp2
      go_ret
      exact ⟨_, rfl, ⟨_, rfl, by omega, by omega⟩, R2, K⟩
end Go.Proofs.Ytnnojeggjnddpaa

/- Numbers of four words drawn from a code: the walk. -/
namespace Go.Proofs.Ytnnojeggjnddpaa
open Go.RowKit
theorem Rdr.setN {w : World} {g : Nat} {ao : Option Addr} {n cap : Nat} {cs : List Int} (h : Rdr w g ao n cap cs) {p : Addr} (hp : g < p.block) (u : Value) : Rdr (w.setCell p u) g ao n cap cs := by
  obtain ⟨q, hq, B⟩ := h.blk
  refine ⟨⟨q, hq, B.setO (by omega) u⟩, fun i hi => ?_, h.len, h.small, h.byte⟩
  obtain ⟨b, off, e, hb, hc⟩ := h.bytes i hi
  exact ⟨b, off, e, hb, (World.cell?_setCell_other _ _ _ _ (by intro e; rw [e] at hp; simp at hp; omega)).trans hc⟩
theorem Kept.setN {g : Nat} {a b : World} (h : Kept g a b) {p : Addr} (hp : a.heap.size ≤ p.block) (hg : g ≠ p.block) (u : Value) : Kept g a (b.setCell p u) :=
  ⟨h.os, h.tape, h.output, by simpa [World.setCell] using h.size, fun k hk hne => (Below.heap_setCell _ _ _ _ (by omega)).trans (h.block k hk hne), fun j hj hl => (World.cell?_setCell_other _ _ _ _ (by intro e; rw [e] at hg; exact hg rfl)).trans (h.other j hj hl)⟩
def IsWide (v : Value) : Prop := ∃ a3 a2 a1 a0 : Int, v = .agg #[.int .u64 a3, .int .u64 a2, .int .u64 a1, .int .u64 a0] ∧ Word a3 ∧ Word a2 ∧ Word a1 ∧ Word a0
theorem wide_done {w W : World} {g : Nat} {ao : Option Addr} {n cap : Nat} {cs : List Int} {a3 a2 a1 a0 : Int} (hg : g < w.heap.size) (R : Rdr W g ao n cap cs) (K : Kept g w W) (h3 : Word a3) (h2 : Word a2) (h1 : Word a1) (h0 : Word a0) {v0 v1 v2 v3 : Value} :
    RdP g ao n cap cs IsWide w (.returned (.agg #[.int .u64 a3, .int .u64 a2, .int .u64 a1, .int .u64 a0])) ((((W.setCell ⟨w.heap.size, 0, none⟩ v0).setCell ⟨w.heap.size, 1, none⟩ v1).setCell ⟨w.heap.size, 2, none⟩ v2).setCell ⟨w.heap.size, 3, none⟩ v3) :=
  ⟨_, rfl, ⟨a3, a2, a1, a0, rfl, h3, h2, h1, h0⟩, (((R.setN hg _).setN hg _).setN hg _).setN hg _, (((K.setN (Nat.le_refl _) (by show g ≠ w.heap.size; omega) _).setN (Nat.le_refl _) (by show g ≠ w.heap.size; omega) _).setN (Nat.le_refl _) (by show g ≠ w.heap.size; omega) _).setN (Nat.le_refl _) (by show g ≠ w.heap.size; omega) _⟩
theorem wide_done2 {w W : World} {g : Nat} {ao : Option Addr} {n cap : Nat} {cs : List Int} {a3 a2 a1 a0 : Int} (hg : g < w.heap.size) (R : Rdr W g ao n cap cs) (K : Kept g w W) (h3 : Word a3) (h2 : Word a2) (h1 : Word a1) (h0 : Word a0) {v0 v1 v2 v3 : Value} {o : Obj} :
    RdP g ao n cap cs IsWide w (.returned (.agg #[.int .u64 a3, .int .u64 a2, .int .u64 a1, .int .u64 a0])) (((((W.setCell ⟨w.heap.size, 0, none⟩ v0).setCell ⟨w.heap.size, 1, none⟩ v1).setCell ⟨w.heap.size, 2, none⟩ v2).setCell ⟨w.heap.size, 3, none⟩ v3).alloc o) := by
  obtain ⟨v, e, q, R', K'⟩ := wide_done (v0 := v0) (v1 := v1) (v2 := v2) (v3 := v3) hg R K h3 h2 h1 h0
  exact ⟨v, e, q, R'.alloc o, K'.alloc o⟩
theorem pick7 {W : World} {G : Nat} (h : Blk W G [.int .i64 0, .int .i64 1, .int .i64 (-1), .int .i64 2, .int .i64 10, .int .i64 (-9223372036854775808), .int .i64 9223372036854775807]) (k : Nat) (hk : k < 7) : ∃ v : Int, W.cell? ⟨G, k, none⟩ = some (.int .i64 v) ∧ -9223372036854775808 ≤ v ∧ v ≤ 9223372036854775807 := by
  rcases (by omega : k = 0 ∨ k = 1 ∨ k = 2 ∨ k = 3 ∨ k = 4 ∨ k = 5 ∨ k = 6) with rfl | rfl | rfl | rfl | rfl | rfl | rfl
  · exact ⟨_, h.c 0 rfl, by decide, by decide⟩
  · exact ⟨_, h.c 1 rfl, by decide, by decide⟩
  · exact ⟨_, h.c 2 rfl, by decide, by decide⟩
  · exact ⟨_, h.c 3 rfl, by decide, by decide⟩
  · exact ⟨_, h.c 4 rfl, by decide, by decide⟩
  · exact ⟨_, h.c 5 rfl, by decide, by decide⟩
  · exact ⟨_, h.c 6 rfl, by decide, by decide⟩
theorem word_div {p : Int} (h : Word p) (k : Nat) : Word (p / 2 ^ k) := by
  have h1 : (0 : Int) ≤ 2 ^ k := by rw [ipow2]; exact Int.natCast_nonneg _
  refine ⟨Int.ediv_nonneg h.1 h1, ?_⟩
  have := Int.ediv_le_self (b := 2 ^ k) h.1
  have := h.2
  omega
theorem tell_words {z : Int} {w w' : World} {e : Ending} (h : TellP z w e w') : ∃ a3 a2 a1 a0 b, e = .returned (.tuple #[.agg #[.int .u64 a3, .int .u64 a2, .int .u64 a1, .int .u64 a0], .bool b]) ∧ Word a3 ∧ Word a2 ∧ Word a1 ∧ Word a0 ∧ Below w.heap.size w w' := by
  obtain ⟨hB, ⟨_, a3, a2, a1, a0, rfl, g3, g2, g1, g0, _⟩ | ⟨_, rfl⟩⟩ := h
  · exact ⟨a3, a2, a1, a0, true, rfl, g3, g2, g1, g0, hB⟩
  · exact ⟨0, 0, 0, 0, false, rfl, ⟨by decide, by decide⟩, ⟨by decide, by decide⟩, ⟨by decide, by decide⟩, ⟨by decide, by decide⟩, hB⟩
set_option maxRecDepth 100000 in
set_option maxHeartbeats 4000000 in
theorem wide_any (g : Nat) (ao : Option Addr) (n cap : Nat) (cs : List Int) (w : World) (h : Rdr w g ao n cap cs) :
    Calls Try.prog 67 #[.pointer (some ⟨g, 0, none⟩)] w (RdP g ao n cap cs IsWide w) := by
  have hg := h.lt
  have hne : w.heap.size ≠ g := by omega
  have B := Blk.new w [.int .u64 0, .int .u64 0, .int .u64 0, .int .u64 0] 26 rfl
  have R := h.alloc (.cells #[.int .u64 0, .int .u64 0, .int .u64 0, .int .u64 0] 26)
  have K := (Kept.refl g w).alloc (.cells #[.int .u64 0, .int .u64 0, .int .u64 0, .int .u64 0] 26)
  clear h
  go_enter Try.func67, Try.ntmps67
  go_wp2_with fail
  refine (below_any 9 (by decide) (by decide) g ao n cap cs _ R).mono ?_
  rintro e w1 ⟨_, rfl, ⟨x, rfl, x0, x1⟩, R1, K1⟩
  replace B := B.kept K1 hne
  replace K := K.trans K1
  clear R K1
  have R := R1
  clear R1
  rcases (by omega : x = 0 ∨ x = 1 ∨ x = 2 ∨ x = 3 ∨ x = 4 ∨ x = 5 ∨ (x = 6 ∨ x = 7 ∨ x = 8)) with rfl | rfl | rfl | rfl | rfl | rfl | hx
  · have G := Blk.new w1 [.int .i64 0, .int .i64 1, .int .i64 (-1), .int .i64 2, .int .i64 10, .int .i64 (-9223372036854775808), .int .i64 9223372036854775807] 2 rfl
    have hG : w1.heap.size ≠ g := by have := R.lt; omega
    replace B := B.alloc (.cells #[.int .i64 0, .int .i64 1, .int .i64 (-1), .int .i64 2, .int .i64 10, .int .i64 (-9223372036854775808), .int .i64 9223372036854775807] 2)
    replace R := R.alloc (.cells #[.int .i64 0, .int .i64 1, .int .i64 (-1), .int .i64 2, .int .i64 10, .int .i64 (-9223372036854775808), .int .i64 9223372036854775807] 2)
    replace K := K.alloc (.cells #[.int .i64 0, .int .i64 1, .int .i64 (-1), .int .i64 2, .int .i64 10, .int .i64 (-9223372036854775808), .int .i64 9223372036854775807] 2)
    go_wp2_with fail
    refine (below_any 7 (by decide) (by decide) g ao n cap cs _ R).mono ?_
    rintro e w2 ⟨_, rfl, ⟨y, rfl, y0, y1⟩, R1, K1⟩
    replace B := B.kept K1 hne
    replace G := G.kept K1 hG
    replace K := K.trans K1
    clear R K1
    have R := R1
    clear R1
    obtain ⟨k, rfl⟩ := Int.eq_ofNat_of_zero_le y0
    obtain ⟨v, hv, v0, v1⟩ := pick7 G k (by omega)
    have k7 : (k : Int) < 7 := y1
    go_wp2_with fail
    refine (specOf_any v _ v0 v1).mono ?_
    rintro e w3 ⟨a3, a2, a1, a0, rfl, g3, g2, g1, g0, -, hB⟩
    replace B := B.step hB
    replace K := K.trans (Kept.of hB)
    replace R := R.step hB
    clear hB
    clear hv G
    have z0 := B.c 0 rfl; have y0 := B.f 0 rfl; have z1 := B.c 1 rfl; have y1 := B.f 1 rfl; have z2 := B.c 2 rfl; have y2 := B.f 2 rfl; have z3 := B.c 3 rfl; have y3 := B.f 3 rfl; have zl := B.lt
    go_wp2
    refine bodyPost_ret (v := .agg #[.int .u64 a3, .int .u64 a2, .int .u64 a1, .int .u64 a0]) (by simp [results, Try.results67, go_sem, z0, z1, z2, z3]) rfl ?_
    exact wide_done hg R K g3 g2 g1 g0
  · have G := Blk.new w1 [.int .u64 9223372036854775808, .int .u64 0, .int .u64 0, .int .u64 0, .int .u64 9223372036854775807, .int .u64 18446744073709551615, .int .u64 18446744073709551615, .int .u64 18446744073709551615, .int .u64 9223372036854775808, .int .u64 0, .int .u64 0, .int .u64 1, .int .u64 4611686018427387904, .int .u64 0, .int .u64 0, .int .u64 0, .int .u64 0, .int .u64 1, .int .u64 0, .int .u64 0, .int .u64 0, .int .u64 0, .int .u64 1, .int .u64 0] 26 rfl
    have hG : w1.heap.size ≠ g := by have := R.lt; omega
    replace B := B.alloc (.cells #[.int .u64 9223372036854775808, .int .u64 0, .int .u64 0, .int .u64 0, .int .u64 9223372036854775807, .int .u64 18446744073709551615, .int .u64 18446744073709551615, .int .u64 18446744073709551615, .int .u64 9223372036854775808, .int .u64 0, .int .u64 0, .int .u64 1, .int .u64 4611686018427387904, .int .u64 0, .int .u64 0, .int .u64 0, .int .u64 0, .int .u64 1, .int .u64 0, .int .u64 0, .int .u64 0, .int .u64 0, .int .u64 1, .int .u64 0] 26)
    replace R := R.alloc (.cells #[.int .u64 9223372036854775808, .int .u64 0, .int .u64 0, .int .u64 0, .int .u64 9223372036854775807, .int .u64 18446744073709551615, .int .u64 18446744073709551615, .int .u64 18446744073709551615, .int .u64 9223372036854775808, .int .u64 0, .int .u64 0, .int .u64 1, .int .u64 4611686018427387904, .int .u64 0, .int .u64 0, .int .u64 0, .int .u64 0, .int .u64 1, .int .u64 0, .int .u64 0, .int .u64 0, .int .u64 0, .int .u64 1, .int .u64 0] 26)
    replace K := K.alloc (.cells #[.int .u64 9223372036854775808, .int .u64 0, .int .u64 0, .int .u64 0, .int .u64 9223372036854775807, .int .u64 18446744073709551615, .int .u64 18446744073709551615, .int .u64 18446744073709551615, .int .u64 9223372036854775808, .int .u64 0, .int .u64 0, .int .u64 1, .int .u64 4611686018427387904, .int .u64 0, .int .u64 0, .int .u64 0, .int .u64 0, .int .u64 1, .int .u64 0, .int .u64 0, .int .u64 0, .int .u64 0, .int .u64 1, .int .u64 0] 26)
    go_wp2_with fail
    refine (below_any 6 (by decide) (by decide) g ao n cap cs _ R).mono ?_
    rintro e w2 ⟨_, rfl, ⟨y, rfl, q0, q1⟩, R1, K1⟩
    replace B := B.kept K1 hne
    replace G := G.kept K1 hG
    replace K := K.trans K1
    clear R K1
    have R := R1
    clear R1
    have z0 := B.c 0 rfl; have y0 := B.f 0 rfl; have z1 := B.c 1 rfl; have y1 := B.f 1 rfl; have z2 := B.c 2 rfl; have y2 := B.f 2 rfl; have z3 := B.c 3 rfl; have y3 := B.f 3 rfl; have zl := B.lt
    have gl := G.lt
    rcases (by omega : y = 0 ∨ y = 1 ∨ y = 2 ∨ y = 3 ∨ y = 4 ∨ y = 5) with rfl | rfl | rfl | rfl | rfl | rfl
    · have c0 := G.c 0 rfl; have c1 := G.c 1 rfl; have c2 := G.c 2 rfl; have c3 := G.c 3 rfl
      clear G
      go_wp2
      refine bodyPost_ret (v := .agg #[.int .u64 9223372036854775808, .int .u64 0, .int .u64 0, .int .u64 0]) (by simp [results, Try.results67, go_sem, z0, z1, z2, z3]) rfl ?_
      exact wide_done hg R K ⟨by decide, by decide⟩ ⟨by decide, by decide⟩ ⟨by decide, by decide⟩ ⟨by decide, by decide⟩
    · have c0 := G.c 4 rfl; have c1 := G.c 5 rfl; have c2 := G.c 6 rfl; have c3 := G.c 7 rfl
      clear G
      go_wp2
      refine bodyPost_ret (v := .agg #[.int .u64 9223372036854775807, .int .u64 18446744073709551615, .int .u64 18446744073709551615, .int .u64 18446744073709551615]) (by simp [results, Try.results67, go_sem, z0, z1, z2, z3]) rfl ?_
      exact wide_done hg R K ⟨by decide, by decide⟩ ⟨by decide, by decide⟩ ⟨by decide, by decide⟩ ⟨by decide, by decide⟩
    · have c0 := G.c 8 rfl; have c1 := G.c 9 rfl; have c2 := G.c 10 rfl; have c3 := G.c 11 rfl
      clear G
      go_wp2
      refine bodyPost_ret (v := .agg #[.int .u64 9223372036854775808, .int .u64 0, .int .u64 0, .int .u64 1]) (by simp [results, Try.results67, go_sem, z0, z1, z2, z3]) rfl ?_
      exact wide_done hg R K ⟨by decide, by decide⟩ ⟨by decide, by decide⟩ ⟨by decide, by decide⟩ ⟨by decide, by decide⟩
    · have c0 := G.c 12 rfl; have c1 := G.c 13 rfl; have c2 := G.c 14 rfl; have c3 := G.c 15 rfl
      clear G
      go_wp2
      refine bodyPost_ret (v := .agg #[.int .u64 4611686018427387904, .int .u64 0, .int .u64 0, .int .u64 0]) (by simp [results, Try.results67, go_sem, z0, z1, z2, z3]) rfl ?_
      exact wide_done hg R K ⟨by decide, by decide⟩ ⟨by decide, by decide⟩ ⟨by decide, by decide⟩ ⟨by decide, by decide⟩
    · have c0 := G.c 16 rfl; have c1 := G.c 17 rfl; have c2 := G.c 18 rfl; have c3 := G.c 19 rfl
      clear G
      go_wp2
      refine bodyPost_ret (v := .agg #[.int .u64 0, .int .u64 1, .int .u64 0, .int .u64 0]) (by simp [results, Try.results67, go_sem, z0, z1, z2, z3]) rfl ?_
      exact wide_done hg R K ⟨by decide, by decide⟩ ⟨by decide, by decide⟩ ⟨by decide, by decide⟩ ⟨by decide, by decide⟩
    · have c0 := G.c 20 rfl; have c1 := G.c 21 rfl; have c2 := G.c 22 rfl; have c3 := G.c 23 rfl
      clear G
      go_wp2
      refine bodyPost_ret (v := .agg #[.int .u64 0, .int .u64 0, .int .u64 1, .int .u64 0]) (by simp [results, Try.results67, go_sem, z0, z1, z2, z3]) rfl ?_
      exact wide_done hg R K ⟨by decide, by decide⟩ ⟨by decide, by decide⟩ ⟨by decide, by decide⟩ ⟨by decide, by decide⟩
  · go_wp2_with fail
    refine (once_any 2 (by decide) (by decide) g ao n cap cs _ R).mono ?_
    rintro e w2 ⟨_, rfl, ⟨b, rfl⟩, R1, K1⟩
    replace B := B.kept K1 hne
    replace K := K.trans K1
    clear R K1
    have R := R1
    clear R1
    have L := Rd.lit w2 (cs := #[.int .u32 1]) (e := 112) (zs := [1]) rfl rfl (by simp [maxLen])
    replace B := B.alloc (.cells #[.int .u32 1] 112)
    replace R := R.alloc (.cells #[.int .u32 1] 112)
    replace K := K.alloc (.cells #[.int .u32 1] 112)
    go_wp2_with fail
    refine (below_any 255 (by decide) (by decide) g ao n cap cs _ R).mono ?_
    rintro e w3 ⟨_, rfl, ⟨y, rfl, y0, y1⟩, R1, K1⟩
    replace B := B.kept K1 hne
    replace L := L.kept R K1
    replace K := K.trans K1
    clear R K1
    have R := R1
    clear R1
    obtain ⟨k, rfl⟩ := Int.eq_ofNat_of_zero_le y0
    go_wp2_with fail
    refine (left_any _ 1 1 k [1] _ rfl (dig_cons.2 ⟨by omega, dig_nil⟩) L (by omega) (by omega)).mono ?_
    rintro e w4 ⟨o1, n1, c1, zs1, rfl, k1, k2, k3, k4, k5, k6, hB⟩
    replace B := B.step hB
    replace K := K.trans (Kept.of hB)
    replace R := R.step hB
    clear hB L
    go_wp2_with fail
    refine (trim_any b o1 n1 c1 zs1 _ k1 k2 k4.1 k6 (by omega)).mono ?_
    rintro e w5 ⟨s2, o2, n2, c2, d2, rfl, l1, l2, l3, l4, l5, l6, l7, hB⟩
    have hv0 := val_nonneg k4.1
    have N : IsNum w5 s2 o2 n2 c2 d2 (if b then -val zs1 else val zs1) 1000 := num_of l1 l2 (by omega) l4 l5 l6 l7 (by cases b <;> simp <;> omega) (by intro hz; cases b <;> simp at hz ⊢ <;> omega)
    replace B := B.step hB
    replace K := K.trans (Kept.of hB)
    replace R := R.step hB
    clear hB k1 k2 k3 k4 k5 k6 l1 l2 l3 l4 l5 l6 l7 hv0
    go_wp2_with fail
    refine (toW_any s2 o2 n2 c2 d2 _ 1000 _ N (by omega)).mono ?_
    intro e w7 hT
    obtain ⟨a3, a2, a1, a0, b', rfl, g3, g2, g1, g0, hB⟩ := tell_words hT
    replace B := B.step hB
    replace K := K.trans (Kept.of hB)
    replace R := R.step hB
    clear hB hT N
    have z0 := B.c 0 rfl; have y0 := B.f 0 rfl; have z1 := B.c 1 rfl; have y1 := B.f 1 rfl; have z2 := B.c 2 rfl; have y2 := B.f 2 rfl; have z3 := B.c 3 rfl; have y3 := B.f 3 rfl; have zl := B.lt
    go_wp2
    refine bodyPost_ret (v := .agg #[.int .u64 a3, .int .u64 a2, .int .u64 a1, .int .u64 a0]) (by simp [results, Try.results67, go_sem, World.cell?_alloc_past, z0, z1, z2, z3, zl]) rfl ?_
    exact wide_done2 hg R K g3 g2 g1 g0
  · go_wp2_with fail
    refine (word_any g ao n cap cs _ R).mono ?_
    rintro e w2 ⟨_, rfl, ⟨a3, rfl, g3⟩, R1, K1⟩
    replace B := B.kept K1 hne
    replace K := K.trans K1
    clear R K1
    have R := R1
    clear R1
    go_wp2_with fail
    refine (word_any g ao n cap cs _ R).mono ?_
    rintro e w3 ⟨_, rfl, ⟨a2, rfl, g2⟩, R1, K1⟩
    replace B := B.kept K1 hne
    replace K := K.trans K1
    clear R K1
    have R := R1
    clear R1
    go_wp2_with fail
    refine (word_any g ao n cap cs _ R).mono ?_
    rintro e w4 ⟨_, rfl, ⟨a1, rfl, g1⟩, R1, K1⟩
    replace B := B.kept K1 hne
    replace K := K.trans K1
    clear R K1
    have R := R1
    clear R1
    go_wp2_with fail
    refine (word_any g ao n cap cs _ R).mono ?_
    rintro e w5 ⟨_, rfl, ⟨a0, rfl, g0⟩, R1, K1⟩
    replace B := B.kept K1 hne
    replace K := K.trans K1
    clear R K1
    have R := R1
    clear R1
    have z0 := B.c 0 rfl; have y0 := B.f 0 rfl; have z1 := B.c 1 rfl; have y1 := B.f 1 rfl; have z2 := B.c 2 rfl; have y2 := B.f 2 rfl; have z3 := B.c 3 rfl; have y3 := B.f 3 rfl; have zl := B.lt
    go_wp2
    refine bodyPost_ret (v := .agg #[.int .u64 a3, .int .u64 a2, .int .u64 a1, .int .u64 a0]) (by simp [results, Try.results67, go_sem, z0, z1, z2, z3]) rfl ?_
    exact wide_done hg R K g3 g2 g1 g0
  · go_wp2_with fail
    refine (word_any g ao n cap cs _ R).mono ?_
    rintro e w2 ⟨_, rfl, ⟨p, rfl, p0, p1⟩, R1, K1⟩
    replace B := B.kept K1 hne
    replace K := K.trans K1
    clear R K1
    have R := R1
    clear R1
    go_wp2_with fail
    refine (below_any 64 (by decide) (by decide) g ao n cap cs _ R).mono ?_
    rintro e w3 ⟨_, rfl, ⟨y, rfl, y0, y1⟩, R1, K1⟩
    replace B := B.kept K1 hne
    replace K := K.trans K1
    clear R K1
    have R := R1
    clear R1
    obtain ⟨k, rfl⟩ := Int.eq_ofNat_of_zero_le y0
    have hk : IntKind.u64.wrap (k : Int) = (k : Int) := by rw [IntKind.wrap_u64]; omega
    go_wp2_with fail
    refine (word_any g ao n cap cs _ R).mono ?_
    rintro e w4 ⟨_, rfl, ⟨a0, rfl, g0⟩, R1, K1⟩
    replace B := B.kept K1 hne
    replace K := K.trans K1
    clear R K1
    have R := R1
    clear R1
    have z0 := B.c 0 rfl; have y0 := B.f 0 rfl; have z1 := B.c 1 rfl; have y1 := B.f 1 rfl; have z2 := B.c 2 rfl; have y2 := B.f 2 rfl; have z3 := B.c 3 rfl; have y3 := B.f 3 rfl; have zl := B.lt
    go_wp2
    refine bodyPost_ret (v := .agg #[.int .u64 0, .int .u64 0, .int .u64 (p / 2 ^ k), .int .u64 a0]) (by simp [results, Try.results67, go_sem, z0, z1, z2, z3]) rfl ?_
    exact wide_done hg R K ⟨by decide, by decide⟩ ⟨by decide, by decide⟩ (word_div ⟨p0, p1⟩ k) g0
  · go_wp2_with fail
    refine (word_any g ao n cap cs _ R).mono ?_
    rintro e w2 ⟨_, rfl, ⟨p, rfl, p0, p1⟩, R1, K1⟩
    replace B := B.kept K1 hne
    replace K := K.trans K1
    clear R K1
    have R := R1
    clear R1
    go_wp2_with fail
    refine (int_any (wrap64 p) _ (by unfold wrap64; omega) (by unfold wrap64; omega)).mono ?_
    rintro e w3 ⟨s1, o1, n1, c1, d1, rfl, N1, hB⟩
    replace B := B.step hB
    replace K := K.trans (Kept.of hB)
    replace R := R.step hB
    clear hB
    go_wp2_with fail
    refine (word_any g ao n cap cs _ R).mono ?_
    rintro e w4 ⟨_, rfl, ⟨q, rfl, q0, q1⟩, R1, K1⟩
    replace B := B.kept K1 hne
    replace N1 := N1.kept R K1
    replace K := K.trans K1
    clear R K1
    have R := R1
    clear R1
    go_wp2_with fail
    refine (int_any (wrap64 q) _ (by unfold wrap64; omega) (by unfold wrap64; omega)).mono ?_
    rintro e w5 ⟨s2, o2, n2, c2, d2, rfl, N2, hB⟩
    replace B := B.step hB
    replace N1 := N1.below hB
    replace K := K.trans (Kept.of hB)
    replace R := R.step hB
    clear hB
    go_wp2_with fail
    refine (mul_any s1 s2 o1 o2 n1 n2 c1 c2 2 d1 d2 _ _ _ N1 N2 (by omega)).mono ?_
    rintro e w6 ⟨s3, o3, n3, c3, d3, rfl, N3, hB⟩
    replace B := B.step hB
    replace K := K.trans (Kept.of hB)
    replace R := R.step hB
    clear hB
    go_wp2_with fail
    refine (toW_any s3 o3 n3 c3 d3 _ (2 + 2) _ N3 (by omega)).mono ?_
    intro e w7 hT
    obtain ⟨a3, a2, a1, a0, b, rfl, g3, g2, g1, g0, hB⟩ := tell_words hT
    replace B := B.step hB
    replace K := K.trans (Kept.of hB)
    replace R := R.step hB
    clear hB hT N1 N2 N3
    have z0 := B.c 0 rfl; have y0 := B.f 0 rfl; have z1 := B.c 1 rfl; have y1 := B.f 1 rfl; have z2 := B.c 2 rfl; have y2 := B.f 2 rfl; have z3 := B.c 3 rfl; have y3 := B.f 3 rfl; have zl := B.lt
    go_wp2
    refine bodyPost_ret (v := .agg #[.int .u64 a3, .int .u64 a2, .int .u64 a1, .int .u64 a0]) (by simp [results, Try.results67, go_sem, World.cell?_alloc_past, z0, z1, z2, z3, zl]) rfl ?_
    exact wide_done2 hg R K g3 g2 g1 g0
  · have e0 : (x == 0) = false := by rw [beq_eq_false_iff_ne]; omega
    have e1 : (x == 1) = false := by rw [beq_eq_false_iff_ne]; omega
    have e2 : (x == 2) = false := by rw [beq_eq_false_iff_ne]; omega
    have e3 : (x == 3) = false := by rw [beq_eq_false_iff_ne]; omega
    have e4 : (x == 4) = false := by rw [beq_eq_false_iff_ne]; omega
    have e5 : (x == 5) = false := by rw [beq_eq_false_iff_ne]; omega
    clear hx
    go_wp2_with fail
    refine (near_any g ao n cap cs _ R).mono ?_
    rintro e w2 ⟨_, rfl, ⟨y, rfl, y0, y1⟩, R1, K1⟩
    replace B := B.kept K1 hne
    replace K := K.trans K1
    clear R K1
    have R := R1
    clear R1
    go_wp2_with fail
    refine (specOf_any y _ (by omega) (by omega)).mono ?_
    rintro e w3 ⟨a3, a2, a1, a0, rfl, g3, g2, g1, g0, -, hB⟩
    replace B := B.step hB
    replace K := K.trans (Kept.of hB)
    replace R := R.step hB
    clear hB
    have z0 := B.c 0 rfl; have y0 := B.f 0 rfl; have z1 := B.c 1 rfl; have y1 := B.f 1 rfl; have z2 := B.c 2 rfl; have y2 := B.f 2 rfl; have z3 := B.c 3 rfl; have y3 := B.f 3 rfl; have zl := B.lt
    go_wp2
    refine bodyPost_ret (v := .agg #[.int .u64 a3, .int .u64 a2, .int .u64 a1, .int .u64 a0]) (by simp [results, Try.results67, go_sem, z0, z1, z2, z3]) rfl ?_
    exact wide_done hg R K g3 g2 g1 g0
end Go.Proofs.Ytnnojeggjnddpaa

/- Two numbers drawn from a code: the walks. -/
namespace Go.Proofs.Ytnnojeggjnddpaa
open Go.RowKit
/-- The code as it lies: so many bytes. -/
structure Code (w : World) (ao : Option Addr) (n : Nat) (cs : List Int) : Prop where
  bytes : ∀ i, (h : i < cs.length) → ∃ b off, ao = some ⟨b, off, none⟩ ∧ b < w.heap.size ∧ w.cell? ⟨b, off + i, none⟩ = some (.int .u8 cs[i])
  len : cs.length = n
  small : n ≤ 1048576
  byte : ∀ c ∈ cs, 0 ≤ c ∧ c < 256
theorem Code.below {w w' : World} {ao : Option Addr} {n : Nat} {cs : List Int} (h : Code w ao n cs) (hB : Below w.heap.size w w') : Code w' ao n cs := by
  refine ⟨fun i hi => ?_, h.len, h.small, h.byte⟩
  obtain ⟨b, off, e, hb, hc⟩ := h.bytes i hi
  exact ⟨b, off, e, Nat.lt_of_lt_of_le hb hB.size, (hB.cell (p := ⟨b, off + i, none⟩) hb).trans hc⟩
def OpenP (ao : Option Addr) (n cap : Nat) (cs : List Int) (w : World) (e : Ending) (w' : World) : Prop := ∃ G, e = .returned (.pointer (some ⟨G, 0, none⟩)) ∧ w.heap.size ≤ G ∧ Rdr w' G ao n cap cs ∧ Below w.heap.size w w'
theorem open_any (ao : Option Addr) (n cap : Nat) (cs : List Int) (w : World) (h : Code w ao n cs) :
    Calls Try.prog 66 #[.slice ao n cap] w (OpenP ao n cap cs w) := by
  go_enter Try.func66, Try.ntmps66
  go_wp2
  go_ret
  refine ⟨w.heap.size, rfl, Nat.le_refl _, ⟨⟨0, Nat.zero_le _, Blk.new w [.slice ao n cap, .int .i64 0] 129 rfl⟩, fun i hi => ?_, h.len, h.small, h.byte⟩, (Below.refl _ _).alloc (Nat.le_refl _) _⟩
  obtain ⟨b, off, e, hb, hc⟩ := h.bytes i hi
  exact ⟨b, off, e, hb, cell_alloc hb hc⟩
end Go.Proofs.Ytnnojeggjnddpaa
