/- The walk of the model's fraction in lowest terms. -/
import Derived.Test.YtddniklhpkagmaaLowest
import Derived.Test.YtddniklhpkagmaaSpecDiv
import Derived.Test.YtddniklhpkagmaaBase1
import Derived.Test.YtddniklhpkagmaaGcdS
import Derived.Deep.RegionHeld3
import Derived.Deep.RegionWith
namespace Go.Proofs.Ytddniklhpkagmaa
open Go.RowKit
/-- Two numbers of digits in one answer. -/
def NumsP (k : Nat) (x y : Int) (w : World) (e : Ending) (w' : World) : Prop :=
  ∃ (s1 : Bool) (o1 : Option Addr) (n1 c1 : Nat) (d1 : List Int) (s2 : Bool) (o2 : Option Addr) (n2 c2 : Nat) (d2 : List Int), e = .returned (.agg #[.bool s1, .slice o1 n1 c1, .bool s2, .slice o2 n2 c2]) ∧ IsNum w' s1 o1 n1 c1 d1 x k ∧ IsNum w' s2 o2 n2 c2 d2 y k ∧ Below w.heap.size w w'
theorem nums_ret {w w3 : World} {x y : Int} {k : Nat} {s : Bool} {ao : Option Addr} {n cap : Nat} {ds : List Int} {t : Bool} {bo : Option Addr} {m c : Nat} {es : List Int} {R : Nat} (hR : w.heap.size ≤ R) (G : Blk w3 R [.bool false, .slice none 0 0, .bool false, .slice none 0 0]) (h : IsNum w3 s ao n cap ds x k) (h' : IsNum w3 t bo m c es y k) (hb : Below w.heap.size w w3) :
    NumsP k x y w (.returned (.agg #[.bool s, .slice ao n cap, .bool t, .slice bo m c])) ((((w3.setCell ⟨R, 0, none⟩ (.bool s)).setCell ⟨R, 1, none⟩ (.slice ao n cap)).setCell ⟨R, 2, none⟩ (.bool t)).setCell ⟨R, 3, none⟩ (.slice bo m c)) := by
  have G1 := G.setI 0 (by simp) (.bool s)
  have G2 := G1.setI 1 (by simp) (.slice ao n cap)
  have G3 := G2.setI 2 (by simp) (.bool t)
  refine ⟨s, ao, n, cap, ds, t, bo, m, c, es, rfl, ?_, ?_, (((hb.setCell hR _).setCell hR _).setCell hR _).setCell hR _⟩
  · exact (((h.set (G.c 0 rfl) (by simp) _).set (G1.c 1 rfl) (by simp) _).set (G2.c 2 rfl) (by simp) _).set (G3.c 3 rfl) (by simp) _
  · exact (((h'.set (G.c 0 rfl) (by simp) _).set (G1.c 1 rfl) (by simp) _).set (G2.c 2 rfl) (by simp) _).set (G3.c 3 rfl) (by simp) _
theorem NumsP.drew {k : Nat} {x y : Int} {w w' : World} {e : Ending} (h : NumsP k x y w e w') : NumsP k x y w e w'.drew := by
  obtain ⟨s1, o1, n1, c1, d1, s2, o2, n2, c2, d2, e, N1, N2, hB⟩ := h
  exact ⟨s1, o1, n1, c1, d1, s2, o2, n2, c2, d2, e, N1.drew, N2.drew, hB.drew⟩
/-- The two numbers as they lie in the arguments' places. -/
def CutM (w wx : World) (x y : Int) (k : Nat) : Prop :=
  ∃ (s1 : Bool) (o1 : Option Addr) (n1 c1 : Nat) (d1 : List Int) (s2 : Bool) (o2 : Option Addr) (n2 c2 : Nat) (d2 : List Int), ArgsB w wx [[.bool s1, .slice o1 n1 c1], [.bool s2, .slice o2 n2 c2], [.bool false, .slice none 0 0, .bool false, .slice none 0 0]] ∧ IsNum wx s1 o1 n1 c1 d1 x k ∧ IsNum wx s2 o2 n2 c2 d2 y k
theorem ArgsB.up0 {w W : World} {a0 a1 u0 u1 : Value} {b r : List Value} (h : ArgsB w W [[a0, a1], b, r]) : ArgsB w ((W.setCell ⟨w.heap.size, 0, none⟩ u0).setCell ⟨w.heap.size, 1, none⟩ u1) [[u0, u1], b, r] := by
  refine ⟨(h.1.setCell (by simp) _).setCell (by simp) _, fun j vs hj => ?_⟩
  match j, hj with
  | 0, hj => cases hj; exact Blk.stored2 (h.b 0 rfl) _ _
  | 1, hj => cases hj; exact Blk.set2 (h.b 1 rfl) (by omega)
  | 2, hj => cases hj; exact Blk.set2 (h.b 2 rfl) (by omega)
  | j + 3, hj => simp at hj
theorem ArgsB.up1 {w W : World} {b0 b1 u0 u1 : Value} {a r : List Value} (h : ArgsB w W [a, [b0, b1], r]) : ArgsB w ((W.setCell ⟨w.heap.size + 1, 0, none⟩ u0).setCell ⟨w.heap.size + 1, 1, none⟩ u1) [a, [u0, u1], r] := by
  refine ⟨(h.1.setCell (by simp) _).setCell (by simp) _, fun j vs hj => ?_⟩
  match j, hj with
  | 0, hj => cases hj; exact Blk.set2 (h.b 0 rfl) (by omega)
  | 1, hj => cases hj; exact Blk.stored2 (h.b 1 rfl) _ _
  | 2, hj => cases hj; exact Blk.set2 (h.b 2 rfl) (by omega)
  | j + 3, hj => simp at hj
theorem cutM_up {w W : World} {x y : Int} {k : Nat} {p q : Bool} {po qo : Option Addr} {p1 p2 q1 q2 : Nat} {s1 : Bool} {o1 : Option Addr} {n1 c1 : Nat} {d1 : List Int} {s2 : Bool} {o2 : Option Addr} {n2 c2 : Nat} {d2 : List Int} (h : ArgsB w W [[.bool p, .slice po p1 p2], [.bool q, .slice qo q1 q2], [.bool false, .slice none 0 0, .bool false, .slice none 0 0]]) (N1 : IsNum W s1 o1 n1 c1 d1 x k) (N2 : IsNum W s2 o2 n2 c2 d2 y k) :
    CutM w ((((W.setCell ⟨w.heap.size, 0, none⟩ (.bool s1)).setCell ⟨w.heap.size, 1, none⟩ (.slice o1 n1 c1)).setCell ⟨w.heap.size + 1, 0, none⟩ (.bool s2)).setCell ⟨w.heap.size + 1, 1, none⟩ (.slice o2 n2 c2)) x y k :=
  ⟨s1, o1, n1, c1, d1, s2, o2, n2, c2, d2, h.up0.up1, num_put (num_put N1 (h.b 0 rfl) _ _) (Blk.set2 (h.b 1 rfl) (by omega)) _ _, num_put (num_put N2 (h.b 0 rfl) _ _) (Blk.set2 (h.b 1 rfl) (by omega)) _ _⟩
theorem CutM.drew {w W : World} {x y : Int} {k : Nat} (h : CutM w W x y k) : CutM w W.drew x y k := by
  obtain ⟨s1, o1, n1, c1, d1, s2, o2, n2, c2, d2, A, N1, N2⟩ := h
  exact ⟨s1, o1, n1, c1, d1, s2, o2, n2, c2, d2, A.drew, N1.drew, N2.drew⟩
theorem mk_args (s1 : Bool) (o1 : Option Addr) (n1 c1 : Nat) (s2 : Bool) (o2 : Option Addr) (n2 c2 : Nat) (w : World) : ArgsB w (((w.alloc (.cells #[.bool s1, .slice o1 n1 c1] 57)).alloc (.cells #[.bool s2, .slice o2 n2 c2] 57)).alloc (.cells #[.bool false, .slice none 0 0, .bool false, .slice none 0 0] 88)) [[.bool s1, .slice o1 n1 c1], [.bool s2, .slice o2 n2 c2], [.bool false, .slice none 0 0, .bool false, .slice none 0 0]] := by
  refine ⟨(((Below.refl _ _).alloc (Nat.le_refl _) _).alloc (by simp) _).alloc (by simp; omega) _, fun j vs hj => ?_⟩
  match j, hj with
  | 0, hj => cases hj; exact ((Blk.new w [.bool s1, .slice o1 n1 c1] 57 rfl).alloc _).alloc _
  | 1, hj => cases hj; exact (Blk.new (w.alloc (.cells #[.bool s1, .slice o1 n1 c1] 57)) [.bool s2, .slice o2 n2 c2] 57 (by simp)).alloc _
  | 2, hj => cases hj; exact Blk.new ((w.alloc (.cells #[.bool s1, .slice o1 n1 c1] 57)).alloc (.cells #[.bool s2, .slice o2 n2 c2] 57)) [.bool false, .slice none 0 0, .bool false, .slice none 0 0] 88 (by simp)
  | j + 3, hj => simp at hj
theorem low_make {x y X Y g : Int} (hX : X = if y < 0 then -x else x) (hY : Y = if y < 0 then -y else y) (hg : g = (Int.gcd x y : Int)) (hy : y ≠ 0) : X / g = lowN x y ∧ Y / g = lowD x y ∧ (Int.gcd X Y : Int) = g ∧ 0 < g := by
  have g0 : 0 < Int.gcd x y := Int.gcd_pos_of_ne_zero_right _ hy
  have dx : g ∣ x := by rw [hg]; exact Int.gcd_dvd_left _ _
  have dy : g ∣ y := by rw [hg]; exact Int.gcd_dvd_right _ _
  have e1 : (Int.gcd X Y : Int) = g := by
    rw [hg, hX, hY]
    split
    · simp [Int.gcd]
    · rfl
  have hgp : 0 < g := by omega
  obtain ⟨a, rfl⟩ := dx
  obtain ⟨b, rfl⟩ := dy
  have hd : ∀ z : Int, (g * z) / g = z := fun z => Int.mul_ediv_cancel_left z (by omega)
  have hn : ∀ z : Int, (((g * z).natAbs : Nat) : Int) / g = (z.natAbs : Int) := fun z => by
    rw [Int.natAbs_mul, Int.natCast_mul, Int.natAbs_of_nonneg (by omega)]
    exact hd _
  have hs : ∀ z : Int, g * z < 0 ↔ z < 0 := fun z => by
    constructor
    · intro h
      apply Decidable.byContradiction
      intro h'
      have := Int.mul_nonneg (a := g) (b := z) (by omega) (by omega)
      omega
    · intro h
      exact Int.mul_neg_of_pos_of_neg hgp h
  refine ⟨?_, ?_, e1, hgp⟩
  · unfold lowN shareZ
    rw [← hg, hn, hX]
    simp only [hs]
    by_cases h2 : b < 0
    · rw [if_pos h2, ← Int.mul_neg, hd]
      by_cases h1 : a < 0 <;> simp [h1, h2] <;> omega
    · rw [if_neg h2, hd]
      by_cases h1 : a < 0 <;> simp [h1, h2] <;> omega
  · unfold lowD shareZ
    rw [← hg, hn, hY]
    simp only [hs]
    by_cases h2 : b < 0
    · rw [if_pos h2, ← Int.mul_neg, hd]
      simp [h2]; omega
    · rw [if_neg h2, hd]
      simp [h2]; omega
theorem mk_cells {s : Bool} {o : Option Addr} {n c : Nat} {W : World} {g : Nat} (G : Blk W g [.bool s, .slice o n c]) : (fun w' => w'.cell? ⟨g, 0, none⟩ = some (.bool s) ∧ w'.cell? ⟨g, 1, none⟩ = some (.slice o n c)) W := ⟨G.c 0 rfl, G.c 1 rfl⟩
set_option maxRecDepth 100000 in
set_option maxHeartbeats 4000000 in
theorem l2Make_any (s1 : Bool) (o1 : Option Addr) (n1 c1 : Nat) (d1 : List Int) (s2 : Bool) (o2 : Option Addr) (n2 c2 : Nat) (d2 : List Int) (x y : Int) (k : Nat) (hk : 2 ≤ k) (hk2 : k ≤ 8000) (w : World) (N1 : IsNum w s1 o1 n1 c1 d1 x k) (N2 : IsNum w s2 o2 n2 c2 d2 y k) (hy : y ≠ 0) :
    Calls Try.prog 77 #[.agg #[.bool s1, .slice o1 n1 c1], .agg #[.bool s2, .slice o2 n2 c2]] w (NumsP (k + 3) (lowN x y) (lowD x y) w) := by
  have T0 := mk_args s1 o1 n1 c1 s2 o2 n2 c2 w
  replace N1 := N1.step T0.below
  replace N2 := N2.step T0.below
  obtain ⟨X, hX⟩ : ∃ X, X = if y < 0 then -x else x := ⟨_, rfl⟩
  obtain ⟨Y, hY⟩ : ∃ Y, Y = if y < 0 then -y else y := ⟨_, rfl⟩
  obtain ⟨e1, e2, e3, e4⟩ := low_make hX hY rfl hy
  go_enter Try.func77, Try.ntmps77
  go_upto_region 1 with fail
  generalize (((w.alloc (.cells #[.bool s1, .slice o1 n1 c1] 57)).alloc (.cells #[.bool s2, .slice o2 n2 c2] 57)).alloc (.cells #[.bool false, .slice none 0 0, .bool false, .slice none 0 0] 88)) = W at *
  go_cut [7] (fun p wx => p = .bool (decide (y < 0)) ∧ wx = W)
  case first =>
    have HN : Hid (s2 = decide (y < 0)) := N2.neg
    have a0c := (T0.b 0 rfl).c 0 rfl; have a0f := (T0.b 0 rfl).f 0 rfl; have a1c := (T0.b 0 rfl).c 1 rfl; have a1f := (T0.b 0 rfl).f 1 rfl; have alt := (T0.b 0 rfl).lt; have b0c := (T0.b 1 rfl).c 0 rfl; have b0f := (T0.b 1 rfl).f 0 rfl; have b1c := (T0.b 1 rfl).c 1 rfl; have b1f := (T0.b 1 rfl).f 1 rfl; have blt := (T0.b 1 rfl).lt; simp only [Nat.add_zero] at a0c a0f a1c a1f alt
    go_wp2_with fail
    go_meet
    case rel => exact ⟨by rw [HN.out], rfl⟩
  case rest =>
   obtain ⟨rfl, rfl⟩ := hcut
   rename_i hk'
   refine hk' _ _ ?_
   go_cut [] (fun wx => CutM w wx X Y k)
   case first =>
    by_cases hn : y < 0
    · obtain rfl : s2 = true := by rw [N2.neg]; simpa using hn
      rw [if_pos hn] at hX hY
      rw [decide_eq_true hn]
      have a0c := (T0.b 0 rfl).c 0 rfl; have a0f := (T0.b 0 rfl).f 0 rfl; have a1c := (T0.b 0 rfl).c 1 rfl; have a1f := (T0.b 0 rfl).f 1 rfl; have alt := (T0.b 0 rfl).lt; have b0c := (T0.b 1 rfl).c 0 rfl; have b0f := (T0.b 1 rfl).f 0 rfl; have b1c := (T0.b 1 rfl).c 1 rfl; have b1f := (T0.b 1 rfl).f 1 rfl; have blt := (T0.b 1 rfl).lt; simp only [Nat.add_zero] at a0c a0f a1c a1f alt
      have tok1 : True := trivial
      replace T0 := T0.drew; replace N1 := N1.drew; replace N2 := N2.drew
      go_wp2_with fail
      go_region_with ((first
        | (go_at_call 111; have _t := tok1; refine (neg_any s1 o1 n1 c1 d1 x k _ N1).mono ?_; rintro e w1 ⟨s3, o3, n3, c3, d3, rfl, N3, hB⟩; replace T0 := T0.step hB; replace N2 := N2.step hB; (try (replace N4 := N4.step hB)); clear hB tok1 _t a0c a0f a1c a1f alt b0c b0f b1c b1f blt; have a0c := (T0.b 0 rfl).c 0 rfl; have a0f := (T0.b 0 rfl).f 0 rfl; have a1c := (T0.b 0 rfl).c 1 rfl; have a1f := (T0.b 0 rfl).f 1 rfl; have alt := (T0.b 0 rfl).lt; have b0c := (T0.b 1 rfl).c 0 rfl; have b0f := (T0.b 1 rfl).f 0 rfl; have b1c := (T0.b 1 rfl).c 1 rfl; have b1f := (T0.b 1 rfl).f 1 rfl; have blt := (T0.b 1 rfl).lt; simp only [Nat.add_zero] at a0c a0f a1c a1f alt)
        | (go_at_call 111; refine (neg_any true o2 n2 c2 d2 y k _ N2).mono ?_; rintro e w2 ⟨s4, o4, n4, c4, d4, rfl, N4, hB⟩; replace T0 := T0.step hB; replace N3 := N3.step hB; clear hB a0c a0f a1c a1f alt b0c b0f b1c b1f blt; have a0c := (T0.b 0 rfl).c 0 rfl; have a0f := (T0.b 0 rfl).f 0 rfl; have a1c := (T0.b 0 rfl).c 1 rfl; have a1f := (T0.b 0 rfl).f 1 rfl; have alt := (T0.b 0 rfl).lt; have b0c := (T0.b 1 rfl).c 0 rfl; have b0f := (T0.b 1 rfl).f 0 rfl; have b1c := (T0.b 1 rfl).c 1 rfl; have b1f := (T0.b 1 rfl).f 1 rfl; have blt := (T0.b 1 rfl).lt; simp only [Nat.add_zero] at a0c a0f a1c a1f alt)))
      all_goals go_wp2_with fail
      all_goals go_meet
      all_goals rw [← hX] at N3
      all_goals rw [← hY] at N4
      all_goals first | exact cutM_up T0 N3 N4 | exact (cutM_up T0 N3 N4).drew
    · obtain rfl : s2 = false := by rw [N2.neg]; simpa using hn
      rw [if_neg hn] at hX hY
      rw [decide_eq_false hn]
      subst hX hY
      have a0c := (T0.b 0 rfl).c 0 rfl; have a0f := (T0.b 0 rfl).f 0 rfl; have a1c := (T0.b 0 rfl).c 1 rfl; have a1f := (T0.b 0 rfl).f 1 rfl; have alt := (T0.b 0 rfl).lt; have b0c := (T0.b 1 rfl).c 0 rfl; have b0f := (T0.b 1 rfl).f 0 rfl; have b1c := (T0.b 1 rfl).c 1 rfl; have b1f := (T0.b 1 rfl).f 1 rfl; have blt := (T0.b 1 rfl).lt; simp only [Nat.add_zero] at a0c a0f a1c a1f alt
      go_wp2_with fail
      go_meet
      case rel => exact ⟨s1, o1, n1, c1, d1, false, o2, n2, c2, d2, T0, N1, N2⟩
   case rest =>
    clear T0 N1 N2 hk'
    obtain ⟨s3, o3, n3, c3, d3, s4, o4, n4, c4, d4, T0, N1, N2⟩ := hcut
    have a0c := (T0.b 0 rfl).c 0 rfl; have a0f := (T0.b 0 rfl).f 0 rfl; have a1c := (T0.b 0 rfl).c 1 rfl; have a1f := (T0.b 0 rfl).f 1 rfl; have alt := (T0.b 0 rfl).lt; have b0c := (T0.b 1 rfl).c 0 rfl; have b0f := (T0.b 1 rfl).f 0 rfl; have b1c := (T0.b 1 rfl).c 1 rfl; have b1f := (T0.b 1 rfl).f 1 rfl; have blt := (T0.b 1 rfl).lt; simp only [Nat.add_zero] at a0c a0f a1c a1f alt
    go_wp2_with fail
    refine (gcd_any s3 s4 o3 o4 n3 n4 c3 c4 k d3 d4 _ _ _ N1 N2 (by omega)).mono ?_
    rintro e w3 ⟨s5, o5, n5, c5, d5, rfl, N3, hB⟩
    rw [e3] at N3
    replace T0 := T0.step hB; replace N1 := N1.step hB; replace N2 := N2.step hB
    clear hB a0c a0f a1c a1f alt b0c b0f b1c b1f blt
    have hlw := (T0.b 2 rfl).lt
    have GB := Blk.new w3 [.bool s5, .slice o5 n5 c5] 57 rfl
    replace T0 := T0.alloc (.cells #[.bool s5, .slice o5 n5 c5] 57); replace N1 := N1.alloc (.cells #[.bool s5, .slice o5 n5 c5] 57); replace N2 := N2.alloc (.cells #[.bool s5, .slice o5 n5 c5] 57); replace N3 := N3.alloc (.cells #[.bool s5, .slice o5 n5 c5] 57)
    go_upto_region 4 with fail
    generalize w3.alloc (.cells #[.bool s5, .slice o5 n5 c5] 57) = W3 at *
    generalize w3.heap.size = gb at *
    obtain ⟨q, hq⟩ : ∃ q, cmpI (Int.gcd x y : Int) 1 = q := ⟨_, rfl⟩
    go_cut [18] (fun p wx => p = .bool (!(q == 0)) ∧ ArgsB w wx [[.bool s3, .slice o3 n3 c3], [.bool s4, .slice o4 n4 c4], [.bool false, .slice none 0 0, .bool false, .slice none 0 0]] ∧ Blk wx gb [.bool s5, .slice o5 n5 c5] ∧ IsNum wx s3 o3 n3 c3 d3 X k ∧ IsNum wx s4 o4 n4 c4 d4 Y k ∧ IsNum wx s5 o5 n5 c5 d5 (Int.gcd x y : Int) k)
    case first =>
      replace N3 := N3.drew; replace N1 := N1.drew; replace N2 := N2.drew; replace T0 := T0.drew
      go_region_held3 (fun w' => w'.cell? ⟨gb, 0, none⟩ = some (.bool s5) ∧ w'.cell? ⟨gb, 1, none⟩ = some (.slice o5 n5 c5)) ((refine mk_cells ?_ <;> repeat (first | (with_reducible exact GB) | (with_reducible refine Blk.drew ?_))))
        (first
          | (go_at_call 74; refine (int_any 1 _ (by decide) (by decide)).mono ?_; rintro e w4 ⟨s9, o9, n9, c9, d9, rfl, N9, hB⟩; replace GB := GB.drew.step hB; replace T0 := T0.step hB; replace N1 := N1.step hB; replace N2 := N2.step hB; replace N3 := N3.step hB; clear hB)
          | (go_at_call 73; refine (cmp_any s5 s9 o5 o9 n5 n9 c5 c9 k d5 d9 _ _ _ N3 (num_more N9 hk) (by omega)).mono ?_; rintro e w5 ⟨rfl, hB⟩; rw [hq]; replace GB := GB.step hB; replace T0 := T0.step hB; replace N1 := N1.step hB; replace N2 := N2.step hB; replace N3 := N3.step hB; clear hB))
      all_goals go_wp2_with fail
      all_goals go_meet
      all_goals exact ⟨rfl, T0, GB, N1, N2, N3⟩
    case rest =>
      clear T0 N1 N2 N3 GB
      obtain ⟨rfl, T0, GB, N1, N2, N3⟩ := hcut
      rename_i hk'
      refine hk' _ _ ?_
      have hlb := GB.lt
      go_cut [] (fun wx => CutM w wx (lowN x y) (lowD x y) (k + 3))
      case first =>
        by_cases h1 : (Int.gcd x y : Int) = 1
        · obtain rfl : q = 0 := by rw [← hq, h1]; decide
          rw [h1, Int.ediv_one] at e1 e2
          rw [e1] at N1
          rw [e2] at N2
          go_wp2_with fail
          go_meet
          case rel => exact ⟨s3, o3, n3, c3, d3, s4, o4, n4, c4, d4, T0, num_more N1 (by omega), num_more N2 (by omega)⟩
        · have hq1 : (!(q == 0)) = true := by
            have h3 : q ≠ 0 := by
              rw [← hq, cmpI_gt (by omega)]
              decide
            simp [h3]
          rw [hq1]
          have a0c := (T0.b 0 rfl).c 0 rfl; have a0f := (T0.b 0 rfl).f 0 rfl; have a1c := (T0.b 0 rfl).c 1 rfl; have a1f := (T0.b 0 rfl).f 1 rfl; have alt := (T0.b 0 rfl).lt; have b0c := (T0.b 1 rfl).c 0 rfl; have b0f := (T0.b 1 rfl).f 0 rfl; have b1c := (T0.b 1 rfl).c 1 rfl; have b1f := (T0.b 1 rfl).f 1 rfl; have blt := (T0.b 1 rfl).lt; simp only [Nat.add_zero] at a0c a0f a1c a1f alt
          have g0c := GB.c 0 rfl; have g1c := GB.c 1 rfl
          go_wp2_with fail
          refine (div_any s3 s5 o3 o5 n3 n5 c3 c5 k d3 d5 _ _ _ N1 N3 (by omega) (by omega)).mono ?_
          rintro e w5 ⟨s6, o6, n6, c6, d6, s7, o7, n7, c7, d7, rfl, M1, -, hB⟩
          rw [e1] at M1
          replace T0 := T0.step hB; replace GB := GB.step hB; replace N2 := N2.step hB; replace N3 := N3.step hB
          clear hB g0c g1c N1 a0c a0f a1c a1f alt b0c b0f b1c b1f blt
          have a0c := (T0.b 0 rfl).c 0 rfl; have a0f := (T0.b 0 rfl).f 0 rfl; have a1c := (T0.b 0 rfl).c 1 rfl; have a1f := (T0.b 0 rfl).f 1 rfl; have alt := (T0.b 0 rfl).lt; have b0c := (T0.b 1 rfl).c 0 rfl; have b0f := (T0.b 1 rfl).f 0 rfl; have b1c := (T0.b 1 rfl).c 1 rfl; have b1f := (T0.b 1 rfl).f 1 rfl; have blt := (T0.b 1 rfl).lt; simp only [Nat.add_zero] at a0c a0f a1c a1f alt
          go_upto_region 6 with fail
          clear a0c a0f a1c a1f alt b0c b0f b1c b1f blt
          have M2 := num_put M1 (R := w.heap.size) (T0.b 0 rfl) (.bool s6) (.slice o6 n6 c6)
          have N4 := num_put N2 (R := w.heap.size) (T0.b 0 rfl) (.bool s6) (.slice o6 n6 c6)
          have N5 := num_put N3 (R := w.heap.size) (T0.b 0 rfl) (.bool s6) (.slice o6 n6 c6)
          have G2 := GB.set2 (g := w.heap.size) (v0 := .bool s6) (v1 := .slice o6 n6 c6) (by omega)
          replace T0 := T0.up0 (u0 := .bool s6) (u1 := .slice o6 n6 c6)
          clear M1 N2 N3 GB
          generalize ((w5.setCell ⟨w.heap.size, 0, none⟩ (.bool s6)).setCell ⟨w.heap.size, 1, none⟩ (.slice o6 n6 c6)) = W6 at *
          have a0c := (T0.b 0 rfl).c 0 rfl; have a0f := (T0.b 0 rfl).f 0 rfl; have a1c := (T0.b 0 rfl).c 1 rfl; have a1f := (T0.b 0 rfl).f 1 rfl; have alt := (T0.b 0 rfl).lt; have b0c := (T0.b 1 rfl).c 0 rfl; have b0f := (T0.b 1 rfl).f 0 rfl; have b1c := (T0.b 1 rfl).c 1 rfl; have b1f := (T0.b 1 rfl).f 1 rfl; have blt := (T0.b 1 rfl).lt; simp only [Nat.add_zero] at a0c a0f a1c a1f alt
          have g0c := G2.c 0 rfl; have g1c := G2.c 1 rfl
          go_wp2_with fail
          refine (div_any s4 s5 o4 o5 n4 n5 c4 c5 k d4 d5 _ _ _ N4 N5 (by omega) (by omega)).mono ?_
          rintro e w7 ⟨s8, o8, n8, c8, d8, s9, o9, n9, c9, d9, rfl, M3, -, hB⟩
          rw [e2] at M3
          replace T0 := T0.step hB; replace M2 := M2.step hB
          clear hB g0c g1c N4 N5 G2 a0c a0f a1c a1f alt b0c b0f b1c b1f blt
          have a0c := (T0.b 0 rfl).c 0 rfl; have a0f := (T0.b 0 rfl).f 0 rfl; have a1c := (T0.b 0 rfl).c 1 rfl; have a1f := (T0.b 0 rfl).f 1 rfl; have alt := (T0.b 0 rfl).lt; have b0c := (T0.b 1 rfl).c 0 rfl; have b0f := (T0.b 1 rfl).f 0 rfl; have b1c := (T0.b 1 rfl).c 1 rfl; have b1f := (T0.b 1 rfl).f 1 rfl; have blt := (T0.b 1 rfl).lt; simp only [Nat.add_zero] at a0c a0f a1c a1f alt
          have M4 := num_put M2 (R := w.heap.size + 1) (T0.b 1 rfl) (.bool s8) (.slice o8 n8 c8)
          have M5 := num_put M3 (R := w.heap.size + 1) (T0.b 1 rfl) (.bool s8) (.slice o8 n8 c8)
          have T1 := T0.up1 (u0 := .bool s8) (u1 := .slice o8 n8 c8)
          clear M2 M3 T0
          go_wp2_with fail
          go_meet
          case rel => exact ⟨s6, o6, n6, c6, d6, s8, o8, n8, c8, d8, T1, M4, M5⟩
      case rest =>
        clear T0 N1 N2 N3 GB hk' hlb
        obtain ⟨s6, o6, n6, c6, d6, s7, o7, n7, c7, d7, T0, N1, N2⟩ := hcut
        have a0c := (T0.b 0 rfl).c 0 rfl; have a0f := (T0.b 0 rfl).f 0 rfl; have a1c := (T0.b 0 rfl).c 1 rfl; have a1f := (T0.b 0 rfl).f 1 rfl; have alt := (T0.b 0 rfl).lt; have b0c := (T0.b 1 rfl).c 0 rfl; have b0f := (T0.b 1 rfl).f 0 rfl; have b1c := (T0.b 1 rfl).c 1 rfl; have b1f := (T0.b 1 rfl).f 1 rfl; have blt := (T0.b 1 rfl).lt; simp only [Nat.add_zero] at a0c a0f a1c a1f alt
        have R0 := T0.b 2 rfl
        have r0c := R0.c 0 rfl; have r0f := R0.f 0 rfl; have r1c := R0.c 1 rfl; have r1f := R0.f 1 rfl; have r2c := R0.c 2 rfl; have r2f := R0.f 2 rfl; have r3c := R0.c 3 rfl; have r3f := R0.f 3 rfl
        have HB := T0.below
        have F := nums_ret (w := w) (R := w.heap.size + 1 + 1) (by omega) (T0.b 2 rfl) N1 N2 HB
        clear T0 N1 N2
        go_wp2
        refine bodyPost_ret (v := .agg #[.bool s6, .slice o6 n6 c6, .bool s7, .slice o7 n7 c7]) (by simp [results, Try.results77, go_sem, r0c, r1c, r2c, r3c]) rfl ?_
        exact F
end Go.Proofs.Ytddniklhpkagmaa
