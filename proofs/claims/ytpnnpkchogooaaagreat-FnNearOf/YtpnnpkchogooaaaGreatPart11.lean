/- Part 11 of the walks that the proof leans on. -/
import Derived.Test.YtpnnpkchogooaaaGreatPart10
import Derived.Test.YtpnnpkchogooaaaGreatPart4
import Derived.Test.YtpnnpkchogooaaaGreatPart7
import Derived.Deep.RegionHeld3
import Derived.Deep.RegionWith
import Derived.Test.YtpnnpkchogooaaaGreatPart9
import Derived.Test.YtpnnpkchogooaaaGreatPart6
import Derived.Test.YtpnnpkchogooaaaGreatPart3
/- The walk of the model's fraction in lowest terms. -/
namespace Go.Proofs.YtpnnpkchogooaaaGreat
open Go.RowKit
/-- Two numbers of digits in one answer. -/
def NumsP (k : Nat) (x y : Int) (w : World) (e : Ending) (w' : World) : Prop :=
  ∃ (s1 : Bool) (o1 : Option Addr) (n1 c1 : Nat) (d1 : List Int) (s2 : Bool) (o2 : Option Addr) (n2 c2 : Nat) (d2 : List Int), e = .returned (.agg #[.bool s1, .slice o1 n1 c1, .bool s2, .slice o2 n2 c2]) ∧ IsNum w' s1 o1 n1 c1 d1 x k ∧ IsNum w' s2 o2 n2 c2 d2 y k ∧ Below w.heap.size w w'
theorem nums_ret {w w3 : World} {x y : Int} {k : Nat} {s : Bool} {ao : Option Addr} {n cap : Nat} {ds : List Int} {t : Bool} {bo : Option Addr} {m c : Nat} {es : List Int} {R : Nat} (hR : w.heap.size ≤ R) (G : Blk w3 R [.bool false, .slice none 0 0, .bool false, .slice none 0 0]) (h : IsNum w3 s ao n cap ds x k) (h' : IsNum w3 t bo m c es y k) (hb : Below w.heap.size w w3) :
    NumsP k x y w (.returned (.agg #[.bool s, .slice ao n cap, .bool t, .slice bo m c])) ((((w3.setCell ⟨R, 0, none⟩ (.bool s)).setCell ⟨R, 1, none⟩ (.slice ao n cap)).setCell ⟨R, 2, none⟩ (.bool t)).setCell ⟨R, 3, none⟩ (.slice bo m c)) := by
  have G1 := G.setI 0 (by simp) (.bool s)
  have G2 := G1.setI 1 (by simp) (.slice ao n cap)
  have G3 := G2.setI 2 (by simp) (.bool t)
  refine ⟨s, ao, n, cap, ds, t, bo, m, c, es, rfl, ?_, ?_, (((hb.setCell hR _).setCell hR _).setCell hR _).setCell hR _⟩
  · exact (((h.set (G.c 0 rfl) (by simp) _).set (G1.c 1 rfl) (by simp) _).set (G2.c 2 rfl) (by simp) _).set (G3.c 3 rfl) (by simp) _
  · exact (((h'.set (G.c 0 rfl) (by simp) _).set (G1.c 1 rfl) (by simp) _).set (G2.c 2 rfl) (by simp) _).set (G3.c 3 rfl) (by simp) _
theorem NumsP.drew {k : Nat} {x y : Int} {w w' : World} {e : Ending} (h : NumsP k x y w e w') : NumsP k x y w e w'.drew := by
  obtain ⟨s1, o1, n1, c1, d1, s2, o2, n2, c2, d2, e, N1, N2, hB⟩ := h
  exact ⟨s1, o1, n1, c1, d1, s2, o2, n2, c2, d2, e, N1.drew, N2.drew, hB.drew⟩
/-- The two numbers as they lie in the arguments' places. -/
def CutM (w wx : World) (x y : Int) (k : Nat) : Prop :=
  ∃ (s1 : Bool) (o1 : Option Addr) (n1 c1 : Nat) (d1 : List Int) (s2 : Bool) (o2 : Option Addr) (n2 c2 : Nat) (d2 : List Int), ArgsB w wx [[.bool s1, .slice o1 n1 c1], [.bool s2, .slice o2 n2 c2], [.bool false, .slice none 0 0, .bool false, .slice none 0 0]] ∧ IsNum wx s1 o1 n1 c1 d1 x k ∧ IsNum wx s2 o2 n2 c2 d2 y k
theorem ArgsB.up0 {w W : World} {a0 a1 u0 u1 : Value} {b r : List Value} (h : ArgsB w W [[a0, a1], b, r]) : ArgsB w ((W.setCell ⟨w.heap.size, 0, none⟩ u0).setCell ⟨w.heap.size, 1, none⟩ u1) [[u0, u1], b, r] := by
  refine ⟨(h.1.setCell (by simp) _).setCell (by simp) _, fun j vs hj => ?_⟩
  match j, hj with
  | 0, hj => cases hj; exact Blk.stored2 (h.b 0 rfl) _ _
  | 1, hj => cases hj; exact Blk.set2 (h.b 1 rfl) (by omega)
  | 2, hj => cases hj; exact Blk.set2 (h.b 2 rfl) (by omega)
  | j + 3, hj => simp at hj
theorem ArgsB.up1 {w W : World} {b0 b1 u0 u1 : Value} {a r : List Value} (h : ArgsB w W [a, [b0, b1], r]) : ArgsB w ((W.setCell ⟨w.heap.size + 1, 0, none⟩ u0).setCell ⟨w.heap.size + 1, 1, none⟩ u1) [a, [u0, u1], r] := by
  refine ⟨(h.1.setCell (by simp) _).setCell (by simp) _, fun j vs hj => ?_⟩
  match j, hj with
  | 0, hj => cases hj; exact Blk.set2 (h.b 0 rfl) (by omega)
  | 1, hj => cases hj; exact Blk.stored2 (h.b 1 rfl) _ _
  | 2, hj => cases hj; exact Blk.set2 (h.b 2 rfl) (by omega)
  | j + 3, hj => simp at hj
theorem cutM_up {w W : World} {x y : Int} {k : Nat} {p q : Bool} {po qo : Option Addr} {p1 p2 q1 q2 : Nat} {s1 : Bool} {o1 : Option Addr} {n1 c1 : Nat} {d1 : List Int} {s2 : Bool} {o2 : Option Addr} {n2 c2 : Nat} {d2 : List Int} (h : ArgsB w W [[.bool p, .slice po p1 p2], [.bool q, .slice qo q1 q2], [.bool false, .slice none 0 0, .bool false, .slice none 0 0]]) (N1 : IsNum W s1 o1 n1 c1 d1 x k) (N2 : IsNum W s2 o2 n2 c2 d2 y k) :
    CutM w ((((W.setCell ⟨w.heap.size, 0, none⟩ (.bool s1)).setCell ⟨w.heap.size, 1, none⟩ (.slice o1 n1 c1)).setCell ⟨w.heap.size + 1, 0, none⟩ (.bool s2)).setCell ⟨w.heap.size + 1, 1, none⟩ (.slice o2 n2 c2)) x y k :=
  ⟨s1, o1, n1, c1, d1, s2, o2, n2, c2, d2, h.up0.up1, num_put (num_put N1 (h.b 0 rfl) _ _) (Blk.set2 (h.b 1 rfl) (by omega)) _ _, num_put (num_put N2 (h.b 0 rfl) _ _) (Blk.set2 (h.b 1 rfl) (by omega)) _ _⟩
theorem CutM.drew {w W : World} {x y : Int} {k : Nat} (h : CutM w W x y k) : CutM w W.drew x y k := by
  obtain ⟨s1, o1, n1, c1, d1, s2, o2, n2, c2, d2, A, N1, N2⟩ := h
  exact ⟨s1, o1, n1, c1, d1, s2, o2, n2, c2, d2, A.drew, N1.drew, N2.drew⟩
theorem mk_args (s1 : Bool) (o1 : Option Addr) (n1 c1 : Nat) (s2 : Bool) (o2 : Option Addr) (n2 c2 : Nat) (w : World) : ArgsB w (((w.alloc (.cells #[.bool s1, .slice o1 n1 c1] 73)).alloc (.cells #[.bool s2, .slice o2 n2 c2] 73)).alloc (.cells #[.bool false, .slice none 0 0, .bool false, .slice none 0 0] 75)) [[.bool s1, .slice o1 n1 c1], [.bool s2, .slice o2 n2 c2], [.bool false, .slice none 0 0, .bool false, .slice none 0 0]] := by
  refine ⟨(((Below.refl _ _).alloc (Nat.le_refl _) _).alloc (by simp) _).alloc (by simp; omega) _, fun j vs hj => ?_⟩
  match j, hj with
  | 0, hj => cases hj; exact ((Blk.new w [.bool s1, .slice o1 n1 c1] 73 rfl).alloc _).alloc _
  | 1, hj => cases hj; exact (Blk.new (w.alloc (.cells #[.bool s1, .slice o1 n1 c1] 73)) [.bool s2, .slice o2 n2 c2] 73 (by simp)).alloc _
  | 2, hj => cases hj; exact Blk.new ((w.alloc (.cells #[.bool s1, .slice o1 n1 c1] 73)).alloc (.cells #[.bool s2, .slice o2 n2 c2] 73)) [.bool false, .slice none 0 0, .bool false, .slice none 0 0] 75 (by simp)
  | j + 3, hj => simp at hj
theorem low_make {x y X Y g : Int} (hX : X = if y < 0 then -x else x) (hY : Y = if y < 0 then -y else y) (hg : g = (Int.gcd x y : Int)) (hy : y ≠ 0) : X / g = lowN x y ∧ Y / g = lowD x y ∧ (Int.gcd X Y : Int) = g ∧ 0 < g := by
  have g0 : 0 < Int.gcd x y := Int.gcd_pos_of_ne_zero_right _ hy
  have dx : g ∣ x := by rw [hg]; exact Int.gcd_dvd_left _ _
  have dy : g ∣ y := by rw [hg]; exact Int.gcd_dvd_right _ _
  have e1 : (Int.gcd X Y : Int) = g := by
    rw [hg, hX, hY]
    split
    · simp [Int.gcd]
    · rfl
  have hgp : 0 < g := by omega
  obtain ⟨a, rfl⟩ := dx
  obtain ⟨b, rfl⟩ := dy
  have hd : ∀ z : Int, (g * z) / g = z := fun z => Int.mul_ediv_cancel_left z (by omega)
  have hn : ∀ z : Int, (((g * z).natAbs : Nat) : Int) / g = (z.natAbs : Int) := fun z => by
    rw [Int.natAbs_mul, Int.natCast_mul, Int.natAbs_of_nonneg (by omega)]
    exact hd _
  have hs : ∀ z : Int, g * z < 0 ↔ z < 0 := fun z => by
    constructor
    · intro h
      apply Decidable.byContradiction
      intro h'
      have := Int.mul_nonneg (a := g) (b := z) (by omega) (by omega)
      omega
    · intro h
      exact Int.mul_neg_of_pos_of_neg hgp h
  refine ⟨?_, ?_, e1, hgp⟩
  · unfold lowN shareZ
    rw [← hg, hn, hX]
    simp only [hs]
    by_cases h2 : b < 0
    · rw [if_pos h2, ← Int.mul_neg, hd]
      by_cases h1 : a < 0 <;> simp [h1, h2] <;> omega
    · rw [if_neg h2, hd]
      by_cases h1 : a < 0 <;> simp [h1, h2] <;> omega
  · unfold lowD shareZ
    rw [← hg, hn, hY]
    simp only [hs]
    by_cases h2 : b < 0
    · rw [if_pos h2, ← Int.mul_neg, hd]
      simp [h2]; omega
    · rw [if_neg h2, hd]
      simp [h2]; omega
theorem mk_cells {s : Bool} {o : Option Addr} {n c : Nat} {W : World} {g : Nat} (G : Blk W g [.bool s, .slice o n c]) : (fun w' => w'.cell? ⟨g, 0, none⟩ = some (.bool s) ∧ w'.cell? ⟨g, 1, none⟩ = some (.slice o n c)) W := ⟨G.c 0 rfl, G.c 1 rfl⟩
set_option maxRecDepth 100000 in
set_option maxHeartbeats 4000000 in
theorem l2Make_any (s1 : Bool) (o1 : Option Addr) (n1 c1 : Nat) (d1 : List Int) (s2 : Bool) (o2 : Option Addr) (n2 c2 : Nat) (d2 : List Int) (x y : Int) (k : Nat) (hk : 2 ≤ k) (hk2 : k ≤ 8000) (w : World) (N1 : IsNum w s1 o1 n1 c1 d1 x k) (N2 : IsNum w s2 o2 n2 c2 d2 y k) (hy : y ≠ 0) :
    Calls Tryz.prog 68 #[.agg #[.bool s1, .slice o1 n1 c1], .agg #[.bool s2, .slice o2 n2 c2]] w (NumsP (k + 3) (lowN x y) (lowD x y) w) := by
  have T0 := mk_args s1 o1 n1 c1 s2 o2 n2 c2 w
  replace N1 := N1.step T0.below
  replace N2 := N2.step T0.below
  obtain ⟨X, hX⟩ : ∃ X, X = if y < 0 then -x else x := ⟨_, rfl⟩
  obtain ⟨Y, hY⟩ : ∃ Y, Y = if y < 0 then -y else y := ⟨_, rfl⟩
  obtain ⟨e1, e2, e3, e4⟩ := low_make hX hY rfl hy
  go_enter Tryz.func68, Tryz.ntmps68
  go_upto_region 1 with fail
  generalize (((w.alloc (.cells #[.bool s1, .slice o1 n1 c1] 73)).alloc (.cells #[.bool s2, .slice o2 n2 c2] 73)).alloc (.cells #[.bool false, .slice none 0 0, .bool false, .slice none 0 0] 75)) = W at *
  go_cut [7] (fun p wx => p = .bool (decide (y < 0)) ∧ wx = W)
  case first =>
    have HN : Hid (s2 = decide (y < 0)) := N2.neg
    have a0c := (T0.b 0 rfl).c 0 rfl; have a0f := (T0.b 0 rfl).f 0 rfl; have a1c := (T0.b 0 rfl).c 1 rfl; have a1f := (T0.b 0 rfl).f 1 rfl; have alt := (T0.b 0 rfl).lt; have b0c := (T0.b 1 rfl).c 0 rfl; have b0f := (T0.b 1 rfl).f 0 rfl; have b1c := (T0.b 1 rfl).c 1 rfl; have b1f := (T0.b 1 rfl).f 1 rfl; have blt := (T0.b 1 rfl).lt; simp only [Nat.add_zero] at a0c a0f a1c a1f alt
    go_wp2_with fail
    go_meet
    case rel => exact ⟨by rw [HN.out], rfl⟩
  case rest =>
   obtain ⟨rfl, rfl⟩ := hcut
   rename_i hk'
   refine hk' _ _ ?_
   go_cut [] (fun wx => CutM w wx X Y k)
   case first =>
    by_cases hn : y < 0
    · obtain rfl : s2 = true := by rw [N2.neg]; simpa using hn
      rw [if_pos hn] at hX hY
      rw [decide_eq_true hn]
      have a0c := (T0.b 0 rfl).c 0 rfl; have a0f := (T0.b 0 rfl).f 0 rfl; have a1c := (T0.b 0 rfl).c 1 rfl; have a1f := (T0.b 0 rfl).f 1 rfl; have alt := (T0.b 0 rfl).lt; have b0c := (T0.b 1 rfl).c 0 rfl; have b0f := (T0.b 1 rfl).f 0 rfl; have b1c := (T0.b 1 rfl).c 1 rfl; have b1f := (T0.b 1 rfl).f 1 rfl; have blt := (T0.b 1 rfl).lt; simp only [Nat.add_zero] at a0c a0f a1c a1f alt
      have tok1 : True := trivial
      replace T0 := T0.drew; replace N1 := N1.drew; replace N2 := N2.drew
      go_wp2_with fail
      go_region_with ((first
        | (go_at_call 106; have _t := tok1; refine (neg_any s1 o1 n1 c1 d1 x k _ N1).mono ?_; rintro e w1 ⟨s3, o3, n3, c3, d3, rfl, N3, hB⟩; replace T0 := T0.step hB; replace N2 := N2.step hB; (try (replace N4 := N4.step hB)); clear hB tok1 _t a0c a0f a1c a1f alt b0c b0f b1c b1f blt; have a0c := (T0.b 0 rfl).c 0 rfl; have a0f := (T0.b 0 rfl).f 0 rfl; have a1c := (T0.b 0 rfl).c 1 rfl; have a1f := (T0.b 0 rfl).f 1 rfl; have alt := (T0.b 0 rfl).lt; have b0c := (T0.b 1 rfl).c 0 rfl; have b0f := (T0.b 1 rfl).f 0 rfl; have b1c := (T0.b 1 rfl).c 1 rfl; have b1f := (T0.b 1 rfl).f 1 rfl; have blt := (T0.b 1 rfl).lt; simp only [Nat.add_zero] at a0c a0f a1c a1f alt)
        | (go_at_call 106; refine (neg_any true o2 n2 c2 d2 y k _ N2).mono ?_; rintro e w2 ⟨s4, o4, n4, c4, d4, rfl, N4, hB⟩; replace T0 := T0.step hB; replace N3 := N3.step hB; clear hB a0c a0f a1c a1f alt b0c b0f b1c b1f blt; have a0c := (T0.b 0 rfl).c 0 rfl; have a0f := (T0.b 0 rfl).f 0 rfl; have a1c := (T0.b 0 rfl).c 1 rfl; have a1f := (T0.b 0 rfl).f 1 rfl; have alt := (T0.b 0 rfl).lt; have b0c := (T0.b 1 rfl).c 0 rfl; have b0f := (T0.b 1 rfl).f 0 rfl; have b1c := (T0.b 1 rfl).c 1 rfl; have b1f := (T0.b 1 rfl).f 1 rfl; have blt := (T0.b 1 rfl).lt; simp only [Nat.add_zero] at a0c a0f a1c a1f alt)))
      all_goals go_wp2_with fail
      all_goals go_meet
      all_goals rw [← hX] at N3
      all_goals rw [← hY] at N4
      all_goals first | exact cutM_up T0 N3 N4 | exact (cutM_up T0 N3 N4).drew
    · obtain rfl : s2 = false := by rw [N2.neg]; simpa using hn
      rw [if_neg hn] at hX hY
      rw [decide_eq_false hn]
      subst hX hY
      have a0c := (T0.b 0 rfl).c 0 rfl; have a0f := (T0.b 0 rfl).f 0 rfl; have a1c := (T0.b 0 rfl).c 1 rfl; have a1f := (T0.b 0 rfl).f 1 rfl; have alt := (T0.b 0 rfl).lt; have b0c := (T0.b 1 rfl).c 0 rfl; have b0f := (T0.b 1 rfl).f 0 rfl; have b1c := (T0.b 1 rfl).c 1 rfl; have b1f := (T0.b 1 rfl).f 1 rfl; have blt := (T0.b 1 rfl).lt; simp only [Nat.add_zero] at a0c a0f a1c a1f alt
      go_wp2_with fail
      go_meet
      case rel => exact ⟨s1, o1, n1, c1, d1, false, o2, n2, c2, d2, T0, N1, N2⟩
   case rest =>
    clear T0 N1 N2 hk'
    obtain ⟨s3, o3, n3, c3, d3, s4, o4, n4, c4, d4, T0, N1, N2⟩ := hcut
    have a0c := (T0.b 0 rfl).c 0 rfl; have a0f := (T0.b 0 rfl).f 0 rfl; have a1c := (T0.b 0 rfl).c 1 rfl; have a1f := (T0.b 0 rfl).f 1 rfl; have alt := (T0.b 0 rfl).lt; have b0c := (T0.b 1 rfl).c 0 rfl; have b0f := (T0.b 1 rfl).f 0 rfl; have b1c := (T0.b 1 rfl).c 1 rfl; have b1f := (T0.b 1 rfl).f 1 rfl; have blt := (T0.b 1 rfl).lt; simp only [Nat.add_zero] at a0c a0f a1c a1f alt
    go_wp2_with fail
    refine (gcd_any s3 s4 o3 o4 n3 n4 c3 c4 k d3 d4 _ _ _ N1 N2 (by omega)).mono ?_
    rintro e w3 ⟨s5, o5, n5, c5, d5, rfl, N3, hB⟩
    rw [e3] at N3
    replace T0 := T0.step hB; replace N1 := N1.step hB; replace N2 := N2.step hB
    clear hB a0c a0f a1c a1f alt b0c b0f b1c b1f blt
    have hlw := (T0.b 2 rfl).lt
    have GB := Blk.new w3 [.bool s5, .slice o5 n5 c5] 73 rfl
    replace T0 := T0.alloc (.cells #[.bool s5, .slice o5 n5 c5] 73); replace N1 := N1.alloc (.cells #[.bool s5, .slice o5 n5 c5] 73); replace N2 := N2.alloc (.cells #[.bool s5, .slice o5 n5 c5] 73); replace N3 := N3.alloc (.cells #[.bool s5, .slice o5 n5 c5] 73)
    go_upto_region 4 with fail
    generalize w3.alloc (.cells #[.bool s5, .slice o5 n5 c5] 73) = W3 at *
    generalize w3.heap.size = gb at *
    obtain ⟨q, hq⟩ : ∃ q, cmpI (Int.gcd x y : Int) 1 = q := ⟨_, rfl⟩
    go_cut [18] (fun p wx => p = .bool (!(q == 0)) ∧ ArgsB w wx [[.bool s3, .slice o3 n3 c3], [.bool s4, .slice o4 n4 c4], [.bool false, .slice none 0 0, .bool false, .slice none 0 0]] ∧ Blk wx gb [.bool s5, .slice o5 n5 c5] ∧ IsNum wx s3 o3 n3 c3 d3 X k ∧ IsNum wx s4 o4 n4 c4 d4 Y k ∧ IsNum wx s5 o5 n5 c5 d5 (Int.gcd x y : Int) k)
    case first =>
      replace N3 := N3.drew; replace N1 := N1.drew; replace N2 := N2.drew; replace T0 := T0.drew
      go_region_held3 (fun w' => w'.cell? ⟨gb, 0, none⟩ = some (.bool s5) ∧ w'.cell? ⟨gb, 1, none⟩ = some (.slice o5 n5 c5)) ((refine mk_cells ?_ <;> repeat (first | (with_reducible exact GB) | (with_reducible refine Blk.drew ?_))))
        (first
          | (go_at_call 67; refine (int_any 1 _ (by decide) (by decide)).mono ?_; rintro e w4 ⟨s9, o9, n9, c9, d9, rfl, N9, hB⟩; replace GB := GB.drew.step hB; replace T0 := T0.step hB; replace N1 := N1.step hB; replace N2 := N2.step hB; replace N3 := N3.step hB; clear hB)
          | (go_at_call 108; refine (cmp_any s5 s9 o5 o9 n5 n9 c5 c9 k d5 d9 _ _ _ N3 (num_more N9 hk) (by omega)).mono ?_; rintro e w5 ⟨rfl, hB⟩; rw [hq]; replace GB := GB.step hB; replace T0 := T0.step hB; replace N1 := N1.step hB; replace N2 := N2.step hB; replace N3 := N3.step hB; clear hB))
      all_goals go_wp2_with fail
      all_goals go_meet
      all_goals exact ⟨rfl, T0, GB, N1, N2, N3⟩
    case rest =>
      clear T0 N1 N2 N3 GB
      obtain ⟨rfl, T0, GB, N1, N2, N3⟩ := hcut
      rename_i hk'
      refine hk' _ _ ?_
      have hlb := GB.lt
      go_cut [] (fun wx => CutM w wx (lowN x y) (lowD x y) (k + 3))
      case first =>
        by_cases h1 : (Int.gcd x y : Int) = 1
        · obtain rfl : q = 0 := by rw [← hq, h1]; decide
          rw [h1, Int.ediv_one] at e1 e2
          rw [e1] at N1
          rw [e2] at N2
          go_wp2_with fail
          go_meet
          case rel => exact ⟨s3, o3, n3, c3, d3, s4, o4, n4, c4, d4, T0, num_more N1 (by omega), num_more N2 (by omega)⟩
        · have hq1 : (!(q == 0)) = true := by
            have h3 : q ≠ 0 := by
              rw [← hq, cmpI_gt (by omega)]
              decide
            simp [h3]
          rw [hq1]
          have a0c := (T0.b 0 rfl).c 0 rfl; have a0f := (T0.b 0 rfl).f 0 rfl; have a1c := (T0.b 0 rfl).c 1 rfl; have a1f := (T0.b 0 rfl).f 1 rfl; have alt := (T0.b 0 rfl).lt; have b0c := (T0.b 1 rfl).c 0 rfl; have b0f := (T0.b 1 rfl).f 0 rfl; have b1c := (T0.b 1 rfl).c 1 rfl; have b1f := (T0.b 1 rfl).f 1 rfl; have blt := (T0.b 1 rfl).lt; simp only [Nat.add_zero] at a0c a0f a1c a1f alt
          have g0c := GB.c 0 rfl; have g1c := GB.c 1 rfl
          go_wp2_with fail
          refine (div_any s3 s5 o3 o5 n3 n5 c3 c5 k d3 d5 _ _ _ N1 N3 (by omega) (by omega)).mono ?_
          rintro e w5 ⟨s6, o6, n6, c6, d6, s7, o7, n7, c7, d7, rfl, M1, -, hB⟩
          rw [e1] at M1
          replace T0 := T0.step hB; replace GB := GB.step hB; replace N2 := N2.step hB; replace N3 := N3.step hB
          clear hB g0c g1c N1 a0c a0f a1c a1f alt b0c b0f b1c b1f blt
          have a0c := (T0.b 0 rfl).c 0 rfl; have a0f := (T0.b 0 rfl).f 0 rfl; have a1c := (T0.b 0 rfl).c 1 rfl; have a1f := (T0.b 0 rfl).f 1 rfl; have alt := (T0.b 0 rfl).lt; have b0c := (T0.b 1 rfl).c 0 rfl; have b0f := (T0.b 1 rfl).f 0 rfl; have b1c := (T0.b 1 rfl).c 1 rfl; have b1f := (T0.b 1 rfl).f 1 rfl; have blt := (T0.b 1 rfl).lt; simp only [Nat.add_zero] at a0c a0f a1c a1f alt
          go_upto_region 6 with fail
          clear a0c a0f a1c a1f alt b0c b0f b1c b1f blt
          have M2 := num_put M1 (R := w.heap.size) (T0.b 0 rfl) (.bool s6) (.slice o6 n6 c6)
          have N4 := num_put N2 (R := w.heap.size) (T0.b 0 rfl) (.bool s6) (.slice o6 n6 c6)
          have N5 := num_put N3 (R := w.heap.size) (T0.b 0 rfl) (.bool s6) (.slice o6 n6 c6)
          have G2 := GB.set2 (g := w.heap.size) (v0 := .bool s6) (v1 := .slice o6 n6 c6) (by omega)
          replace T0 := T0.up0 (u0 := .bool s6) (u1 := .slice o6 n6 c6)
          clear M1 N2 N3 GB
          generalize ((w5.setCell ⟨w.heap.size, 0, none⟩ (.bool s6)).setCell ⟨w.heap.size, 1, none⟩ (.slice o6 n6 c6)) = W6 at *
          have a0c := (T0.b 0 rfl).c 0 rfl; have a0f := (T0.b 0 rfl).f 0 rfl; have a1c := (T0.b 0 rfl).c 1 rfl; have a1f := (T0.b 0 rfl).f 1 rfl; have alt := (T0.b 0 rfl).lt; have b0c := (T0.b 1 rfl).c 0 rfl; have b0f := (T0.b 1 rfl).f 0 rfl; have b1c := (T0.b 1 rfl).c 1 rfl; have b1f := (T0.b 1 rfl).f 1 rfl; have blt := (T0.b 1 rfl).lt; simp only [Nat.add_zero] at a0c a0f a1c a1f alt
          have g0c := G2.c 0 rfl; have g1c := G2.c 1 rfl
          go_wp2_with fail
          refine (div_any s4 s5 o4 o5 n4 n5 c4 c5 k d4 d5 _ _ _ N4 N5 (by omega) (by omega)).mono ?_
          rintro e w7 ⟨s8, o8, n8, c8, d8, s9, o9, n9, c9, d9, rfl, M3, -, hB⟩
          rw [e2] at M3
          replace T0 := T0.step hB; replace M2 := M2.step hB
          clear hB g0c g1c N4 N5 G2 a0c a0f a1c a1f alt b0c b0f b1c b1f blt
          have a0c := (T0.b 0 rfl).c 0 rfl; have a0f := (T0.b 0 rfl).f 0 rfl; have a1c := (T0.b 0 rfl).c 1 rfl; have a1f := (T0.b 0 rfl).f 1 rfl; have alt := (T0.b 0 rfl).lt; have b0c := (T0.b 1 rfl).c 0 rfl; have b0f := (T0.b 1 rfl).f 0 rfl; have b1c := (T0.b 1 rfl).c 1 rfl; have b1f := (T0.b 1 rfl).f 1 rfl; have blt := (T0.b 1 rfl).lt; simp only [Nat.add_zero] at a0c a0f a1c a1f alt
          have M4 := num_put M2 (R := w.heap.size + 1) (T0.b 1 rfl) (.bool s8) (.slice o8 n8 c8)
          have M5 := num_put M3 (R := w.heap.size + 1) (T0.b 1 rfl) (.bool s8) (.slice o8 n8 c8)
          have T1 := T0.up1 (u0 := .bool s8) (u1 := .slice o8 n8 c8)
          clear M2 M3 T0
          go_wp2_with fail
          go_meet
          case rel => exact ⟨s6, o6, n6, c6, d6, s8, o8, n8, c8, d8, T1, M4, M5⟩
      case rest =>
        clear T0 N1 N2 N3 GB hk' hlb
        obtain ⟨s6, o6, n6, c6, d6, s7, o7, n7, c7, d7, T0, N1, N2⟩ := hcut
        have a0c := (T0.b 0 rfl).c 0 rfl; have a0f := (T0.b 0 rfl).f 0 rfl; have a1c := (T0.b 0 rfl).c 1 rfl; have a1f := (T0.b 0 rfl).f 1 rfl; have alt := (T0.b 0 rfl).lt; have b0c := (T0.b 1 rfl).c 0 rfl; have b0f := (T0.b 1 rfl).f 0 rfl; have b1c := (T0.b 1 rfl).c 1 rfl; have b1f := (T0.b 1 rfl).f 1 rfl; have blt := (T0.b 1 rfl).lt; simp only [Nat.add_zero] at a0c a0f a1c a1f alt
        have R0 := T0.b 2 rfl
        have r0c := R0.c 0 rfl; have r0f := R0.f 0 rfl; have r1c := R0.c 1 rfl; have r1f := R0.f 1 rfl; have r2c := R0.c 2 rfl; have r2f := R0.f 2 rfl; have r3c := R0.c 3 rfl; have r3f := R0.f 3 rfl
        have HB := T0.below
        have F := nums_ret (w := w) (R := w.heap.size + 1 + 1) (by omega) (T0.b 2 rfl) N1 N2 HB
        clear T0 N1 N2
        go_wp2
        refine bodyPost_ret (v := .agg #[.bool s6, .slice o6 n6 c6, .bool s7, .slice o7 n7 c7]) (by simp [results, Tryz.results68, go_sem, r0c, r1c, r2c, r3c]) rfl ?_
        exact F
end Go.Proofs.YtpnnpkchogooaaaGreat

/- Points: the model's numbers of a point, and whether it is right. -/
namespace Go.Proofs.YtpnnpkchogooaaaGreat
open Go.RowKit
end Go.Proofs.YtpnnpkchogooaaaGreat

/- Points: the model's word on whether one is right. -/
namespace Go.Proofs.YtpnnpkchogooaaaGreat
open Go.RowKit
end Go.Proofs.YtpnnpkchogooaaaGreat

/- Points in their order: the program's walks. -/
namespace Go.Proofs.YtpnnpkchogooaaaGreat
open Go.RowKit
set_option maxRecDepth 100000 in
set_option maxHeartbeats 2000000 in
theorem eqW4 (a3 a2 a1 a0 b3 b2 b1 b0 : Int) (w : World) : (Op.equalIn 9999 32 (.agg #[.int .u64 a3, .int .u64 a2, .int .u64 a1, .int .u64 a0]) (.agg #[.int .u64 b3, .int .u64 b2, .int .u64 b1, .int .u64 b0])).run Tryz.prog w = .ok (a3 == b3 && a2 == b2 && a1 == b1 && a0 == b0) w := by
  have u3 := Tryz.underlying30
  have a3' := Tryz.isAgg30
  have z3 := Tryz.sizeOf30
  rw [show (9999 : Nat) = 9998 + 1 from rfl, Op.equalIn]
  simp only [Sem.run_bind, run_underlying Tryz.underlying32, Result.andThen_ok]
  go_simp
  by_cases h3 : a3 = b3
  · subst h3
    by_cases h2 : a2 = b2
    · subst h2
      by_cases h1 : a1 = b1
      · subst h1
        by_cases h0 : a0 = b0
        · subst h0
          simp
        · simp [h0]
      · simp [h1]
    · simp [h2]
  · simp [h3]
theorem eqWW (x u : Int) (hx : told x = true) (hu : told u = true) (w : World) : (Op.equalIn 9999 32 (W4 x) (W4 u)).run Tryz.prog w = .ok (decide (x = u)) w := by
  rw [eqW4]
  congr 1
  rw [Bool.eq_iff_iff]
  simp only [Bool.and_eq_true, beq_iff_eq, decide_eq_true_eq]
  constructor
  · rintro ⟨⟨⟨e3, e2⟩, e1⟩, e0⟩
    rw [← ww_sw hx, ← ww_sw hu, e3, e2, e1, e0]
  · rintro rfl
    exact ⟨⟨⟨rfl, rfl⟩, rfl⟩, rfl⟩
set_option maxRecDepth 100000 in
set_option maxHeartbeats 2000000 in
theorem eqPV (x y z u v t : Int) (hx : told x = true) (hy : told y = true) (hz : told z = true) (hu : told u = true) (hv : told v = true) (ht : told t = true) (w : World) : (Op.equalIn 10000 40 (PV x y z) (PV u v t)).run Tryz.prog w = .ok (decide (x = u) && decide (y = v) && decide (z = t)) w := by
  have E1 := eqWW x u hx hu
  have E2 := eqWW y v hy hv
  have E3 := eqWW z t hz ht
  have u3 := Tryz.underlying32
  have a3 := Tryz.isAgg32
  have z3 := Tryz.sizeOf32
  rw [show (10000 : Nat) = 9999 + 1 from rfl, Op.equalIn]
  simp only [Sem.run_bind, run_underlying Tryz.underlying40, Result.andThen_ok]
  go_simp
  by_cases h1 : x = u
  · by_cases h2 : y = v
    · by_cases h3 : z = t
      · simp [h1, h2, h3]
      · simp [h1, h2, h3]
    · simp [h1, h2]
  · simp [h1]
end Go.Proofs.YtpnnpkchogooaaaGreat

/- Points in their order: the program's walks. -/
namespace Go.Proofs.YtpnnpkchogooaaaGreat
open Go.RowKit
theorem sm_lt {a : Int} (h : small a = true) : (a.natAbs : Int) ≤ 1208925819614629174706176 := by
  unfold small at h
  rw [decide_eq_true_iff] at h
  omega
theorem abs_mul {a b : Int} {m n : Nat} (ha : a.natAbs ≤ m) (hb : b.natAbs ≤ n) : (a * b).natAbs ≤ m * n := by
  rw [Int.natAbs_mul]
  exact Nat.mul_le_mul ha hb
theorem sm_prod {a b : Int} (ha : small a = true) (hb : small b = true) : (a * b).natAbs ≤ 1461501637330902918203684832716283019655932542976 := by
  have := abs_mul (show a.natAbs ≤ 1208925819614629174706176 by have := sm_lt ha; omega) (show b.natAbs ≤ 1208925819614629174706176 by have := sm_lt hb; omega)
  omega
theorem lr_abs {a : Int} (h : a.natAbs ≤ 3273390607896141870013189696827599152216642046043064789483291368096133796404674554883270092325904157150886684127560071009217256545885393053328527589376) : LR a := by
  unfold LR
  omega
theorem told_of {a : Int} (h : a.natAbs ≤ 1809251394333065553493296640760748560207343510400633813116524750123642650624) : told a = true := by
  unfold told
  apply decide_eq_true
  omega
theorem cmp_sub (a b : Int) : cmpI (a - b) 0 = cmpI a b := by
  rcases Int.lt_trichotomy a b with h | h | h
  · rw [cmpI_lt h, cmpI_lt (by omega)]
  · rw [cmpI_eq h, cmpI_eq (by omega)]
  · rw [cmpI_gt h, cmpI_gt (by omega)]
/-- The minor of four parts of right points. -/
theorem minor_sm (a b c d : Int) (ha : small a = true) (hb : small b = true) (hc : small c = true) (hd : small d = true) (w : World) : Calls Tryz.prog 42 #[W4 a, W4 b, W4 c, W4 d] w (VP (W4 (a * d - b * c)) w) := by
  have h1 := sm_prod ha hd
  have h2 := sm_prod hb hc
  exact minor_det a b c d (told_small ha) (told_small hb) (told_small hc) (told_small hd) (lr_abs (by omega)) (lr_abs (by omega)) (told_of (by omega)) w
theorem minor_abs {a b c d : Int} (ha : small a = true) (hb : small b = true) (hc : small c = true) (hd : small d = true) : (a * d - b * c).natAbs ≤ 2923003274661805836407369665432566039311865085952 := by
  have h1 := sm_prod ha hd
  have h2 := sm_prod hb hc
  omega
set_option maxRecDepth 100000 in
set_option maxHeartbeats 2000000 in
theorem byX_det (x y z u v t : Int) (sx : small x = true) (sz : small z = true) (su : small u = true) (st : small t = true) (w : World) : Calls Tryz.prog 92 #[PV x y z, PV u v t] w (VP (.int .i64 (cmpI (x * t) (u * z))) w) := by
  have T0 : ArgsB w ((w.alloc (.cells #[.int .u64 (ww3 x), .int .u64 (ww2 x), .int .u64 (ww1 x), .int .u64 (ww0 x), .int .u64 (ww3 y), .int .u64 (ww2 y), .int .u64 (ww1 y), .int .u64 (ww0 y), .int .u64 (ww3 z), .int .u64 (ww2 z), .int .u64 (ww1 z), .int .u64 (ww0 z)] 40)).alloc (.cells #[.int .u64 (ww3 u), .int .u64 (ww2 u), .int .u64 (ww1 u), .int .u64 (ww0 u), .int .u64 (ww3 v), .int .u64 (ww2 v), .int .u64 (ww1 v), .int .u64 (ww0 v), .int .u64 (ww3 t), .int .u64 (ww2 t), .int .u64 (ww1 t), .int .u64 (ww0 t)] 40)) [[.int .u64 (ww3 x), .int .u64 (ww2 x), .int .u64 (ww1 x), .int .u64 (ww0 x), .int .u64 (ww3 y), .int .u64 (ww2 y), .int .u64 (ww1 y), .int .u64 (ww0 y), .int .u64 (ww3 z), .int .u64 (ww2 z), .int .u64 (ww1 z), .int .u64 (ww0 z)], [.int .u64 (ww3 u), .int .u64 (ww2 u), .int .u64 (ww1 u), .int .u64 (ww0 u), .int .u64 (ww3 v), .int .u64 (ww2 v), .int .u64 (ww1 v), .int .u64 (ww0 v), .int .u64 (ww3 t), .int .u64 (ww2 t), .int .u64 (ww1 t), .int .u64 (ww0 t)]] := ar2 _ _ _ _ w
  have C1 := minor_sm x z u t sx sz su st
  have C2 := sign_det (x * t - z * u) (told_of (by have := minor_abs sx sz su st; omega))
  rw [cmp_sub, Int.mul_comm z u] at C2
  rw [Int.mul_comm z u] at C1
  clear sx su sz st
  go_enter Tryz.func92, Tryz.ntmps92
  go_wp2_with fail
  refine (C1 _).mono ?_
  rintro e w1 ⟨rfl, hB⟩
  replace T0 := T0.step hB
  clear hB
  go_wp2_with fail
  refine (C2 _).mono ?_
  rintro e w2 ⟨rfl, hB⟩
  have HB := (T0.step hB).below
  clear hB T0 C1 C2
  go_wp2
  go_ret
  exact ⟨rfl, HB⟩
set_option maxRecDepth 100000 in
set_option maxHeartbeats 2000000 in
theorem byY_det (x y z u v t : Int) (sy : small y = true) (sz : small z = true) (sv : small v = true) (st : small t = true) (w : World) : Calls Tryz.prog 93 #[PV x y z, PV u v t] w (VP (.int .i64 (cmpI (y * t) (v * z))) w) := by
  have T0 : ArgsB w ((w.alloc (.cells #[.int .u64 (ww3 x), .int .u64 (ww2 x), .int .u64 (ww1 x), .int .u64 (ww0 x), .int .u64 (ww3 y), .int .u64 (ww2 y), .int .u64 (ww1 y), .int .u64 (ww0 y), .int .u64 (ww3 z), .int .u64 (ww2 z), .int .u64 (ww1 z), .int .u64 (ww0 z)] 40)).alloc (.cells #[.int .u64 (ww3 u), .int .u64 (ww2 u), .int .u64 (ww1 u), .int .u64 (ww0 u), .int .u64 (ww3 v), .int .u64 (ww2 v), .int .u64 (ww1 v), .int .u64 (ww0 v), .int .u64 (ww3 t), .int .u64 (ww2 t), .int .u64 (ww1 t), .int .u64 (ww0 t)] 40)) [[.int .u64 (ww3 x), .int .u64 (ww2 x), .int .u64 (ww1 x), .int .u64 (ww0 x), .int .u64 (ww3 y), .int .u64 (ww2 y), .int .u64 (ww1 y), .int .u64 (ww0 y), .int .u64 (ww3 z), .int .u64 (ww2 z), .int .u64 (ww1 z), .int .u64 (ww0 z)], [.int .u64 (ww3 u), .int .u64 (ww2 u), .int .u64 (ww1 u), .int .u64 (ww0 u), .int .u64 (ww3 v), .int .u64 (ww2 v), .int .u64 (ww1 v), .int .u64 (ww0 v), .int .u64 (ww3 t), .int .u64 (ww2 t), .int .u64 (ww1 t), .int .u64 (ww0 t)]] := ar2 _ _ _ _ w
  have C1 := minor_sm y z v t sy sz sv st
  have C2 := sign_det (y * t - z * v) (told_of (by have := minor_abs sy sz sv st; omega))
  rw [cmp_sub, Int.mul_comm z v] at C2
  rw [Int.mul_comm z v] at C1
  clear sy sv sz st
  go_enter Tryz.func93, Tryz.ntmps93
  go_wp2_with fail
  refine (C1 _).mono ?_
  rintro e w1 ⟨rfl, hB⟩
  replace T0 := T0.step hB
  clear hB
  go_wp2_with fail
  refine (C2 _).mono ?_
  rintro e w2 ⟨rfl, hB⟩
  have HB := (T0.step hB).below
  clear hB T0 C1 C2
  go_wp2
  go_ret
  exact ⟨rfl, HB⟩
/-- The order of two points by their parts. -/
def ordI (x y z u v t : Int) : Int := if cmpI (x * t) (u * z) = 0 then cmpI (y * t) (v * z) else cmpI (x * t) (u * z)
set_option maxRecDepth 100000 in
set_option maxHeartbeats 2000000 in
theorem order_det (x y z u v t : Int) (sx : small x = true) (sy : small y = true) (sz : small z = true) (su : small u = true) (sv : small v = true) (st : small t = true) (w : World) : Calls Tryz.prog 54 #[PV x y z, PV u v t] w (VP (.int .i64 (ordI x y z u v t)) w) := by
  have T0 : ArgsB w ((w.alloc (.cells #[.int .u64 (ww3 x), .int .u64 (ww2 x), .int .u64 (ww1 x), .int .u64 (ww0 x), .int .u64 (ww3 y), .int .u64 (ww2 y), .int .u64 (ww1 y), .int .u64 (ww0 y), .int .u64 (ww3 z), .int .u64 (ww2 z), .int .u64 (ww1 z), .int .u64 (ww0 z)] 40)).alloc (.cells #[.int .u64 (ww3 u), .int .u64 (ww2 u), .int .u64 (ww1 u), .int .u64 (ww0 u), .int .u64 (ww3 v), .int .u64 (ww2 v), .int .u64 (ww1 v), .int .u64 (ww0 v), .int .u64 (ww3 t), .int .u64 (ww2 t), .int .u64 (ww1 t), .int .u64 (ww0 t)] 40)) [[.int .u64 (ww3 x), .int .u64 (ww2 x), .int .u64 (ww1 x), .int .u64 (ww0 x), .int .u64 (ww3 y), .int .u64 (ww2 y), .int .u64 (ww1 y), .int .u64 (ww0 y), .int .u64 (ww3 z), .int .u64 (ww2 z), .int .u64 (ww1 z), .int .u64 (ww0 z)], [.int .u64 (ww3 u), .int .u64 (ww2 u), .int .u64 (ww1 u), .int .u64 (ww0 u), .int .u64 (ww3 v), .int .u64 (ww2 v), .int .u64 (ww1 v), .int .u64 (ww0 v), .int .u64 (ww3 t), .int .u64 (ww2 t), .int .u64 (ww1 t), .int .u64 (ww0 t)]] := ar2 _ _ _ _ w
  have EQ := eqPV x y z u v t (told_small sx) (told_small sy) (told_small sz) (told_small su) (told_small sv) (told_small st)
  have C1 := byX_det x y z u v t sx sz su st
  have C2 := byY_det x y z u v t sy sz sv st
  obtain ⟨B, hB0⟩ : ∃ B, (decide (x = u) && decide (y = v) && decide (z = t)) = B := ⟨_, rfl⟩
  simp only [hB0] at EQ
  clear sx sy sz su sv st
  go_enter Tryz.func54, Tryz.ntmps54
  cases B
  · have HO : Hid (ordI x y z u v t = if cmpI (x * t) (u * z) = 0 then cmpI (y * t) (v * z) else cmpI (x * t) (u * z)) := rfl
    clear hB0
    generalize cmpI (x * t) (u * z) = a at *
    generalize cmpI (y * t) (v * z) = b at *
    go_wp2_with fail
    refine (C1 _).mono ?_
    rintro e w1 ⟨rfl, hB⟩
    replace T0 := T0.step hB
    clear hB
    by_cases ha : a = 0
    · subst ha
      have X0 : Blk _ w.heap.size _ := T0.b 0 rfl; have Y0 : Blk _ (w.heap.size + 1) _ := T0.b 1 rfl; have p0 := X0.c 0 rfl; have q0 := Y0.c 0 rfl; have p1 := X0.c 1 rfl; have q1 := Y0.c 1 rfl; have p2 := X0.c 2 rfl; have q2 := Y0.c 2 rfl; have p3 := X0.c 3 rfl; have q3 := Y0.c 3 rfl; have p4 := X0.c 4 rfl; have q4 := Y0.c 4 rfl; have p5 := X0.c 5 rfl; have q5 := Y0.c 5 rfl; have p6 := X0.c 6 rfl; have q6 := Y0.c 6 rfl; have p7 := X0.c 7 rfl; have q7 := Y0.c 7 rfl; have p8 := X0.c 8 rfl; have q8 := Y0.c 8 rfl; have p9 := X0.c 9 rfl; have q9 := Y0.c 9 rfl; have p10 := X0.c 10 rfl; have q10 := Y0.c 10 rfl; have p11 := X0.c 11 rfl; have q11 := Y0.c 11 rfl; clear X0 Y0
      go_wp2_with fail
      refine (C2 _).mono ?_
      rintro e w2 ⟨rfl, hB⟩
      have HB := (T0.step hB).below
      clear hB T0 C1 C2 EQ p0 q0 p1 q1 p2 q2 p3 q3 p4 q4 p5 q5 p6 q6 p7 q7 p8 q8 p9 q9 p10 q10 p11 q11
      go_wp2
      go_ret
      exact ⟨by rw [HO.out]; rfl, HB⟩
    · have ha' : (a == 0) = false := beq_eq_false_iff_ne.2 ha
      have HB := T0.below
      clear T0 C1 C2 EQ
      go_wp2
      go_ret
      exact ⟨by rw [HO.out, if_neg ha]; rfl, HB⟩
  · have HO : Hid (ordI x y z u v t = 0) := by
      show _ = _
      simp only [Bool.and_eq_true, decide_eq_true_eq] at hB0
      obtain ⟨⟨rfl, rfl⟩, rfl⟩ := hB0
      unfold ordI
      rw [cmpI_eq rfl, if_pos rfl, cmpI_eq rfl]
    have HB := T0.below
    clear hB0 C1 C2
    have X0 : Blk _ w.heap.size _ := T0.b 0 rfl; have Y0 : Blk _ (w.heap.size + 1) _ := T0.b 1 rfl; have p0 := X0.c 0 rfl; have q0 := Y0.c 0 rfl; have p1 := X0.c 1 rfl; have q1 := Y0.c 1 rfl; have p2 := X0.c 2 rfl; have q2 := Y0.c 2 rfl; have p3 := X0.c 3 rfl; have q3 := Y0.c 3 rfl; have p4 := X0.c 4 rfl; have q4 := Y0.c 4 rfl; have p5 := X0.c 5 rfl; have q5 := Y0.c 5 rfl; have p6 := X0.c 6 rfl; have q6 := Y0.c 6 rfl; have p7 := X0.c 7 rfl; have q7 := Y0.c 7 rfl; have p8 := X0.c 8 rfl; have q8 := Y0.c 8 rfl; have p9 := X0.c 9 rfl; have q9 := Y0.c 9 rfl; have p10 := X0.c 10 rfl; have q10 := Y0.c 10 rfl; have p11 := X0.c 11 rfl; have q11 := Y0.c 11 rfl; clear X0 Y0
    clear T0
    go_wp2
    go_ret
    exact ⟨by rw [HO.out]; rfl, HB⟩
theorem ptB_small {x y z : Int} (h : ptB x y z = true) : 0 < z ∧ small x = true ∧ small y = true ∧ small z = true := by
  unfold ptB at h
  simp only [Bool.and_eq_true, decide_eq_true_eq] at h
  exact ⟨h.1.1, h.1.2.1.1, h.1.2.1.2, h.1.2.2⟩
end Go.Proofs.YtpnnpkchogooaaaGreat

/- Points in their order and their turns: the model's walks. -/
namespace Go.Proofs.YtpnnpkchogooaaaGreat
open Go.RowKit
end Go.Proofs.YtpnnpkchogooaaaGreat

/- The turn of three points: the model's walk. -/
namespace Go.Proofs.YtpnnpkchogooaaaGreat
open Go.RowKit
theorem IsNum.set2 {w : World} {s : Bool} {ao : Option Addr} {n cap : Nat} {ds : List Int} {z : Int} {k g : Nat} (h : IsNum w s ao n cap ds z k) {b0 : Bool} {o0 : Option Addr} {n0 c0 : Nat} (G : Blk w g [.bool b0, .slice o0 n0 c0]) (v0 v1 : Value) : IsNum ((w.setCell ⟨g, 0, none⟩ v0).setCell ⟨g, 1, none⟩ v1) s ao n cap ds z k := by
  have h1 := h.setp v0 (G.c 0 rfl) (by intro x e; cases e)
  exact h1.setp v1 ((G.setI 0 (by simp) v0).c 1 rfl) (by intro x e; cases e)
/-- The turn of three points by their parts. -/
def turnI (x y z u v t a b c : Int) : Int := cmpI (x * (v * c - t * b) - y * (u * c - t * a) + z * (u * b - v * a)) 0
end Go.Proofs.YtpnnpkchogooaaaGreat

/- The walk of the model's point in lowest terms. -/
namespace Go.Proofs.YtpnnpkchogooaaaGreat
open Go.RowKit
theorem share_quot {v V g z : Int} (hV : V = if z < 0 then -v else v) (hg : 0 < g) (hd : g ∣ v) : V / g = shareZ v g (decide (z < 0)) := by
  obtain ⟨a, rfl⟩ := hd
  have hd : ∀ z : Int, (g * z) / g = z := fun z => Int.mul_ediv_cancel_left z (by omega)
  have hn : (((g * a).natAbs : Nat) : Int) / g = (a.natAbs : Int) := by
    rw [Int.natAbs_mul, Int.natCast_mul, Int.natAbs_of_nonneg (by omega)]
    exact hd _
  have hs : g * a < 0 ↔ a < 0 := by
    constructor
    · intro h
      apply Decidable.byContradiction
      intro h'
      have := Int.mul_nonneg (a := g) (b := a) (by omega) (by omega)
      omega
    · intro h
      exact Int.mul_neg_of_pos_of_neg hg h
  unfold shareZ
  rw [hn, hV]
  simp only [hs]
  by_cases h2 : z < 0
  · rw [if_pos h2, ← Int.mul_neg, hd]
    by_cases h1 : a < 0 <;> simp [h1, h2] <;> omega
  · rw [if_neg h2, hd]
    by_cases h1 : a < 0 <;> simp [h1, h2] <;> omega
/-- The three numbers as they lie in the arguments' places. -/
def CutT3 (w wx : World) (x y z : Int) (k : Nat) : Prop :=
  ∃ (s1 : Bool) (o1 : Option Addr) (n1 c1 : Nat) (d1 : List Int) (s2 : Bool) (o2 : Option Addr) (n2 c2 : Nat) (d2 : List Int) (s3 : Bool) (o3 : Option Addr) (n3 c3 : Nat) (d3 : List Int), ArgsB w wx [[.bool s1, .slice o1 n1 c1], [.bool s2, .slice o2 n2 c2], [.bool s3, .slice o3 n3 c3], [.bool false, .slice none 0 0, .bool false, .slice none 0 0, .bool false, .slice none 0 0]] ∧ IsNum wx s1 o1 n1 c1 d1 x k ∧ IsNum wx s2 o2 n2 c2 d2 y k ∧ IsNum wx s3 o3 n3 c3 d3 z k
theorem CutT3.drew {w W : World} {x y z : Int} {k : Nat} (h : CutT3 w W x y z k) : CutT3 w W.drew x y z k := by
  obtain ⟨s1, o1, n1, c1, d1, s2, o2, n2, c2, d2, s3, o3, n3, c3, d3, A, N1, N2, N3⟩ := h
  exact ⟨s1, o1, n1, c1, d1, s2, o2, n2, c2, d2, s3, o3, n3, c3, d3, A.drew, N1.drew, N2.drew, N3.drew⟩
theorem ArgsB.w0 {w W : World} {a0 a1 u0 u1 : Value} {b c r : List Value} (h : ArgsB w W [[a0, a1], b, c, r]) : ArgsB w ((W.setCell ⟨w.heap.size, 0, none⟩ u0).setCell ⟨w.heap.size, 1, none⟩ u1) [[u0, u1], b, c, r] := by
  refine ⟨(h.1.setCell (by simp) _).setCell (by simp) _, fun j vs hj => ?_⟩
  match j, hj with
  | 0, hj => cases hj; exact Blk.stored2 (h.b 0 rfl) _ _
  | 1, hj => cases hj; exact Blk.set2 (h.b 1 rfl) (by omega)
  | 2, hj => cases hj; exact Blk.set2 (h.b 2 rfl) (by omega)
  | 3, hj => cases hj; exact Blk.set2 (h.b 3 rfl) (by omega)
  | j + 4, hj => simp at hj
theorem ArgsB.w1 {w W : World} {a0 a1 u0 u1 : Value} {b c r : List Value} (h : ArgsB w W [b, [a0, a1], c, r]) : ArgsB w ((W.setCell ⟨w.heap.size + 1, 0, none⟩ u0).setCell ⟨w.heap.size + 1, 1, none⟩ u1) [b, [u0, u1], c, r] := by
  refine ⟨(h.1.setCell (by simp) _).setCell (by simp) _, fun j vs hj => ?_⟩
  match j, hj with
  | 0, hj => cases hj; exact Blk.set2 (h.b 0 rfl) (by omega)
  | 1, hj => cases hj; exact Blk.stored2 (h.b 1 rfl) _ _
  | 2, hj => cases hj; exact Blk.set2 (h.b 2 rfl) (by omega)
  | 3, hj => cases hj; exact Blk.set2 (h.b 3 rfl) (by omega)
  | j + 4, hj => simp at hj
theorem ArgsB.w2 {w W : World} {a0 a1 u0 u1 : Value} {b c r : List Value} (h : ArgsB w W [b, c, [a0, a1], r]) : ArgsB w ((W.setCell ⟨w.heap.size + 1 + 1, 0, none⟩ u0).setCell ⟨w.heap.size + 1 + 1, 1, none⟩ u1) [b, c, [u0, u1], r] := by
  refine ⟨(h.1.setCell (by simp; omega) _).setCell (by simp; omega) _, fun j vs hj => ?_⟩
  match j, hj with
  | 0, hj => cases hj; exact Blk.set2 (h.b 0 rfl) (by omega)
  | 1, hj => cases hj; exact Blk.set2 (h.b 1 rfl) (by omega)
  | 2, hj => cases hj; exact Blk.stored2 (h.b 2 rfl) _ _
  | 3, hj => cases hj; exact Blk.set2 (h.b 3 rfl) (by omega)
  | j + 4, hj => simp at hj
end Go.Proofs.YtpnnpkchogooaaaGreat

/- A point of three numbers: the model's walk. -/
namespace Go.Proofs.YtpnnpkchogooaaaGreat
open Go.RowKit
/-- The point of three numbers in lowest terms, and true; zeros and false where there is none. -/
def ptV (x y z : Int) : Value := if small x && small y && small z then .tuple #[PV x y z, .bool true] else .tuple #[.agg #[.int .u64 0, .int .u64 0, .int .u64 0, .int .u64 0, .int .u64 0, .int .u64 0, .int .u64 0, .int .u64 0, .int .u64 0, .int .u64 0, .int .u64 0, .int .u64 0], .bool false]
def pmV (x y z : Int) : Value := if z = 0 then .tuple #[.agg #[.int .u64 0, .int .u64 0, .int .u64 0, .int .u64 0, .int .u64 0, .int .u64 0, .int .u64 0, .int .u64 0, .int .u64 0, .int .u64 0, .int .u64 0, .int .u64 0], .bool false] else ptV (shareZ x (Int.gcd (Int.gcd x y : Int) z : Int) (decide (z < 0))) (shareZ y (Int.gcd (Int.gcd x y : Int) z : Int) (decide (z < 0))) (shareZ z (Int.gcd (Int.gcd x y : Int) z : Int) (decide (z < 0)))
theorem ptV_ex (x y z : Int) : ∃ r0 r1 r2 r3 r4 r5 r6 r7 r8 r9 r10 r11 t, ptV x y z = .tuple #[.agg #[.int .u64 r0, .int .u64 r1, .int .u64 r2, .int .u64 r3, .int .u64 r4, .int .u64 r5, .int .u64 r6, .int .u64 r7, .int .u64 r8, .int .u64 r9, .int .u64 r10, .int .u64 r11], .bool t] := by
  unfold ptV
  split
  · exact ⟨_, _, _, _, _, _, _, _, _, _, _, _, true, rfl⟩
  · exact ⟨0, 0, 0, 0, 0, 0, 0, 0, 0, 0, 0, 0, false, rfl⟩
theorem pmV_ex (x y z : Int) : ∃ r0 r1 r2 r3 r4 r5 r6 r7 r8 r9 r10 r11 t, pmV x y z = .tuple #[.agg #[.int .u64 r0, .int .u64 r1, .int .u64 r2, .int .u64 r3, .int .u64 r4, .int .u64 r5, .int .u64 r6, .int .u64 r7, .int .u64 r8, .int .u64 r9, .int .u64 r10, .int .u64 r11], .bool t] := by
  unfold pmV
  split
  · exact ⟨0, 0, 0, 0, 0, 0, 0, 0, 0, 0, 0, 0, false, rfl⟩
  · exact ptV_ex _ _ _
end Go.Proofs.YtpnnpkchogooaaaGreat

/- Points drawn from a code. -/
namespace Go.Proofs.YtpnnpkchogooaaaGreat
open Go.RowKit
set_option maxRecDepth 100000 in
set_option maxHeartbeats 1000000 in
theorem near_pm (g : Nat) (ao : Option Addr) (n cap : Nat) (cs : List Int) (w : World) (h : Rdr w g ao n cap cs) :
    Calls Tryz.prog 57 #[.pointer (some ⟨g, 0, none⟩), .int .i64 (-1000000), .int .i64 1000000] w (RdP g ao n cap cs (IsIn (-1000000) 1000001) w) := by
  go_enter Tryz.func57, Tryz.ntmps57
  go_wp2_with fail
  refine (below_any 8 (by decide) (by decide) g ao n cap cs _ h).mono ?_
  rintro e w1 ⟨_, rfl, ⟨x, rfl, x0, x1⟩, R, K⟩
  clear h
  by_cases h0 : x = 0
  · subst h0
    go_wp2
    go_ret
    exact ⟨_, rfl, ⟨_, rfl, by decide, by decide⟩, R, K⟩
  · by_cases h1 : x = 1
    · subst h1
      go_wp2
      go_ret
      exact ⟨_, rfl, ⟨_, rfl, by decide, by decide⟩, R, K⟩
    · have e0 : (x == 0) = false := by simpa using h0
      have e1 : (x == 1) = false := by simpa using h1
      go_wp2_with fail
      refine (word_any g ao n cap cs _ R).mono ?_
      rintro e w2 ⟨_, rfl, ⟨y, rfl, y0, y1⟩, R2, K2⟩
      replace K := K.trans K2
      clear R K2
      have hw : IntKind.u64.wrap 2000001 = 2000001 := by rw [IntKind.wrap_u64]; decide
      go_wp2
      go_ret
      exact ⟨_, rfl, ⟨_, rfl, by omega, by omega⟩, R2, K⟩
set_option maxRecDepth 100000 in
set_option maxHeartbeats 1000000 in
theorem near_p6 (g : Nat) (ao : Option Addr) (n cap : Nat) (cs : List Int) (w : World) (h : Rdr w g ao n cap cs) :
    Calls Tryz.prog 57 #[.pointer (some ⟨g, 0, none⟩), .int .i64 (-6), .int .i64 6] w (RdP g ao n cap cs (IsIn (-6) 7) w) := by
  go_enter Tryz.func57, Tryz.ntmps57
  go_wp2_with fail
  refine (below_any 8 (by decide) (by decide) g ao n cap cs _ h).mono ?_
  rintro e w1 ⟨_, rfl, ⟨x, rfl, x0, x1⟩, R, K⟩
  clear h
  by_cases h0 : x = 0
  · subst h0
    go_wp2
    go_ret
    exact ⟨_, rfl, ⟨_, rfl, by decide, by decide⟩, R, K⟩
  · by_cases h1 : x = 1
    · subst h1
      go_wp2
      go_ret
      exact ⟨_, rfl, ⟨_, rfl, by decide, by decide⟩, R, K⟩
    · have e0 : (x == 0) = false := by simpa using h0
      have e1 : (x == 1) = false := by simpa using h1
      go_wp2_with fail
      refine (word_any g ao n cap cs _ R).mono ?_
      rintro e w2 ⟨_, rfl, ⟨y, rfl, y0, y1⟩, R2, K2⟩
      replace K := K.trans K2
      clear R K2
      have hw : IntKind.u64.wrap 13 = 13 := by rw [IntKind.wrap_u64]; decide
      go_wp2
      go_ret
      exact ⟨_, rfl, ⟨_, rfl, by omega, by omega⟩, R2, K⟩
end Go.Proofs.YtpnnpkchogooaaaGreat

/- Points drawn from a code: the walks. -/
namespace Go.Proofs.YtpnnpkchogooaaaGreat
open Go.RowKit
/-- A spot of small numbers. -/
def IsSp6 (v : Value) : Prop := ∃ x y : Int, v = .agg #[.int .i64 x, .int .i64 y] ∧ -6 ≤ x ∧ x < 7 ∧ -6 ≤ y ∧ y < 7
set_option maxRecDepth 100000 in
set_option maxHeartbeats 1000000 in
theorem spot_any (g : Nat) (ao : Option Addr) (n cap : Nat) (cs : List Int) (w : World) (h : Rdr w g ao n cap cs) :
    Calls Tryz.prog 26 #[.pointer (some ⟨g, 0, none⟩)] w (RdP g ao n cap cs IsSp6 w) := by
  have hg := h.lt
  have hne : w.heap.size ≠ g := by omega
  have B := Blk.new w [.int .i64 0, .int .i64 0] 25 rfl
  have R := h.alloc (.cells #[.int .i64 0, .int .i64 0] 25)
  have K := (Kept.refl g w).alloc (.cells #[.int .i64 0, .int .i64 0] 25)
  clear h
  go_enter Tryz.func26, Tryz.ntmps26
  go_wp2_with fail
  refine (near_p6 g ao n cap cs _ R).mono ?_
  rintro e w1 ⟨_, rfl, ⟨y, rfl, y0, y1⟩, R1, K1⟩
  replace B := B.kept K1 hne; replace K := K.trans K1
  clear R K1
  have R := R1
  clear R1
  go_wp2_with fail
  refine (near_p6 g ao n cap cs _ R).mono ?_
  rintro e w2 ⟨_, rfl, ⟨y', rfl, y0', y1'⟩, R1, K1⟩
  replace B := B.kept K1 hne; replace K := K.trans K1
  clear R K1
  have R := R1
  clear R1
  have o0 := B.c 0 rfl; have f0 := B.f 0 rfl; have o1 := B.c 1 rfl; have f1 := B.f 1 rfl; have ol := B.lt
  clear B
  go_wp2
  refine bodyPost_ret (v := .agg #[.int .i64 y, .int .i64 y']) (by simp [results, Tryz.results26, go_sem, o0, o1]) rfl ?_
  exact ⟨_, rfl, ⟨y, y', rfl, y0, y1, y0', y1'⟩, (R.setN (by exact hg) _).setN (by exact hg) _, (K.setN (by simp) (by simp; omega) _).setN (by simp) (by simp; omega) _⟩
end Go.Proofs.YtpnnpkchogooaaaGreat
