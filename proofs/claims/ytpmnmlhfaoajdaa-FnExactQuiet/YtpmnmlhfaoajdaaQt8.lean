/- Part 8 of the walks that the proof leans on. -/
import Derived.Test.YtpmnmlhfaoajdaaQt7
import Derived.Test.YtpmnmlhfaoajdaaQt5
import Derived.Test.YtpmnmlhfaoajdaaQt3
/- Two segments meet either way round; where they meet lies on both; else none of their ends lies on the other: the reckoning. -/
namespace Go.Proofs.Ytpmnmlhfaoajdaa
open Go.RowKit
def cX (a b c d p q u v : Int) : Int := (c - a) * (p * v - q * u) - (u - p) * (a * d - b * c)
def cY (a b c d p q u v : Int) : Int := (a * d - b * c) * (q - v) - (p * v - q * u) * (b - d)
def cW (a b c d p q u v : Int) : Int := (b - d) * (u - p) - (q - v) * (c - a)
def cG (a b c d p q u v : Int) : Int := (Int.gcd (Int.gcd (cX a b c d p q u v) (cY a b c d p q u v) : Int) (cW a b c d p q u v) : Int)
def cx (a b c d p q u v : Int) : Int := shareZ (cX a b c d p q u v) (cG a b c d p q u v) (decide (cW a b c d p q u v < 0))
def cy (a b c d p q u v : Int) : Int := shareZ (cY a b c d p q u v) (cG a b c d p q u v) (decide (cW a b c d p q u v < 0))
def cz (a b c d p q u v : Int) : Int := shareZ (cW a b c d p q u v) (cG a b c d p q u v) (decide (cW a b c d p q u v < 0))
theorem c_swap (a b c d p q u v : Int) : cX p q u v a b c d = -cX a b c d p q u v ∧ cY p q u v a b c d = -cY a b c d p q u v ∧ cW p q u v a b c d = -cW a b c d p q u v := by
  unfold cX cY cW
  refine ⟨by grind, by grind, by grind⟩
theorem share_neg {x g w : Int} (hw : w ≠ 0) : shareZ (-x) g (decide (-w < 0)) = shareZ x g (decide (w < 0)) := by
  unfold shareZ
  rw [Int.natAbs_neg]
  by_cases h0 : x = 0
  · subst h0
    simp
  · have e1 : decide (-x < 0) = !decide (x < 0) := by
      by_cases h : x < 0
      · rw [decide_eq_true h, decide_eq_false (by omega)]; rfl
      · rw [decide_eq_false h, decide_eq_true (by omega)]; rfl
    have e2 : decide (-w < 0) = !decide (w < 0) := by
      by_cases h : w < 0
      · rw [decide_eq_true h, decide_eq_false (by omega)]; rfl
      · rw [decide_eq_false h, decide_eq_true (by omega)]; rfl
    rw [e1, e2]
    cases decide (x < 0) <;> cases decide (w < 0) <;> rfl
theorem c_point_swap {a b c d p q u v : Int} (hw : cW a b c d p q u v ≠ 0) : cx p q u v a b c d = cx a b c d p q u v ∧ cy p q u v a b c d = cy a b c d p q u v ∧ cz p q u v a b c d = cz a b c d p q u v := by
  obtain ⟨e1, e2, e3⟩ := c_swap a b c d p q u v
  have eg : cG p q u v a b c d = cG a b c d p q u v := by
    unfold cG
    rw [e1, e2, e3, Int.gcd_neg, Int.neg_gcd, Int.gcd_neg]
  unfold cx cy cz
  rw [eg, e1, e2, e3]
  exact ⟨share_neg hw, share_neg hw, share_neg hw⟩
/-- The crossing's numbers by a common factor. -/
theorem c_parts {a b c d p q u v : Int} (hw : cW a b c d p q u v ≠ 0) : ∃ g s : Int, 0 < g ∧ (s = 1 ∨ s = -1) ∧ cx a b c d p q u v * g = s * cX a b c d p q u v ∧ cy a b c d p q u v * g = s * cY a b c d p q u v ∧ cz a b c d p q u v * g = s * cW a b c d p q u v ∧ 0 < cz a b c d p q u v ∧ 0 < s * cW a b c d p q u v ∧ Int.gcd (Int.gcd (cx a b c d p q u v) (cy a b c d p q u v) : Int) (cz a b c d p q u v) = 1 := by
  obtain ⟨d1, d2, d3⟩ := gcd3_dvd (cX a b c d p q u v) (cY a b c d p q u v) (cW a b c d p q u v)
  have hg : 0 < cG a b c d p q u v := by
    have := Int.gcd_pos_of_ne_zero_right (Int.gcd (cX a b c d p q u v) (cY a b c d p q u v) : Int) hw
    unfold cG
    omega
  have hgd : cG a b c d p q u v = (Int.gcd (Int.gcd (cX a b c d p q u v) (cY a b c d p q u v) : Int) (cW a b c d p q u v) : Int) := rfl
  rw [← hgd] at d1 d2 d3
  unfold cx cy cz
  generalize cX a b c d p q u v = X at *
  generalize cY a b c d p q u v = Y at *
  generalize cW a b c d p q u v = W at *
  generalize cG a b c d p q u v = g at *
  have sq : ∀ n : Int, g ∣ n → shareZ n g (decide (W < 0)) * g = if W < 0 then -n else n := fun n hd => by
    rw [← share_quot (v := n) (V := if W < 0 then -n else n) (g := g) (z := W) rfl hg hd]
    refine Int.ediv_mul_cancel ?_
    split
    · exact Int.dvd_neg.2 hd
    · exact hd
  have k1 := sq X d1
  have k2 := sq Y d2
  have k3 := sq W d3
  have zp : 0 < shareZ W g (decide (W < 0)) := by
    apply Decidable.byContradiction
    intro hn
    have := Int.mul_nonneg (a := -shareZ W g (decide (W < 0))) (b := g) (by omega) (by omega)
    have e : -shareZ W g (decide (W < 0)) * g = -(shareZ W g (decide (W < 0)) * g) := by grind
    split at k3 <;> omega
  have gg : (Int.gcd (Int.gcd (shareZ X g (decide (W < 0))) (shareZ Y g (decide (W < 0))) : Int) (shareZ W g (decide (W < 0))) : Int) * g = 1 * g := by
    rw [← gcd3_times _ _ _ _ hg, k1, k2, k3]
    by_cases h : W < 0
    · rw [if_pos h, if_pos h, if_pos h, Int.gcd_neg, Int.neg_gcd, Int.gcd_neg, ← hgd, Int.one_mul]
    · rw [if_neg h, if_neg h, if_neg h, ← hgd, Int.one_mul]
  have g1 := Int.eq_of_mul_eq_mul_right (by omega) gg
  by_cases h : W < 0
  · rw [if_pos h] at k1 k2 k3
    exact ⟨g, -1, hg, .inr rfl, by omega, by omega, by omega, zp, by omega, by omega⟩
  · rw [if_neg h] at k1 k2 k3
    exact ⟨g, 1, hg, .inl rfl, by omega, by omega, by omega, zp, by omega, by omega⟩
theorem c_small {a b c d p q u v : Int} (hw : cW a b c d p q u v ≠ 0) (h1 : segOk a b c d = true) (h2 : segOk p q u v = true) : small (cx a b c d p q u v) = true ∧ small (cy a b c d p q u v) = true ∧ small (cz a b c d p q u v) = true := by
  obtain ⟨ia, ib, ic, id⟩ := in1_seg h1
  obtain ⟨ip, iq, iu, iv⟩ := in1_seg h2
  have bx : -9000000000000000000 ≤ cX a b c d p q u v ∧ cX a b c d p q u v ≤ 9000000000000000000 := bnd_x a b c d p q u v ia ib ic id ip iq iu iv
  have by' : -9000000000000000000 ≤ cY a b c d p q u v ∧ cY a b c d p q u v ≤ 9000000000000000000 := bnd_y a b c d p q u v ia ib ic id ip iq iu iv
  have bw : -8000000000000 ≤ cW a b c d p q u v ∧ cW a b c d p q u v ≤ 8000000000000 := bnd_w a b c d p q u v ia ib ic id ip iq iu iv
  have hg : 0 < cG a b c d p q u v := by
    have := Int.gcd_pos_of_ne_zero_right (Int.gcd (cX a b c d p q u v) (cY a b c d p q u v) : Int) hw
    unfold cG
    omega
  unfold cx cy cz small
  have s1 := share_abs (n := cX a b c d p q u v) (b := decide (cW a b c d p q u v < 0)) hg
  have s2 := share_abs (n := cY a b c d p q u v) (b := decide (cW a b c d p q u v < 0)) hg
  have s3 := share_abs (n := cW a b c d p q u v) (b := decide (cW a b c d p q u v < 0)) hg
  refine ⟨decide_eq_true (by omega), decide_eq_true (by omega), decide_eq_true (by omega)⟩
/-- Ahead of a point on a line that goes upwards. -/
theorem ahead {e f g h k s : Int} (hl : 0 < g ∨ (g = 0 ∧ 0 < h)) (hk : 0 < k) (hs : 0 ≤ s) (e1 : e * k = g * s) (e2 : f * k = h * s) : 0 < e ∨ (e = 0 ∧ 0 ≤ f) := by
  have nn : ∀ {z : Int}, 0 ≤ z * k → 0 ≤ z := fun {z} hz => by
    apply Decidable.byContradiction
    intro hn
    have := Int.mul_neg_of_neg_of_pos (a := z) (b := k) (by omega) hk
    omega
  have zz : ∀ {z : Int}, z * k = 0 → z = 0 := fun {z} hz => by
    rcases Int.mul_eq_zero.1 hz with h' | h'
    · exact h'
    · omega
  rcases hl with hg | ⟨hg, hh⟩
  · have h1 : 0 ≤ e := nn (by rw [e1]; exact Int.mul_nonneg (by omega) hs)
    by_cases h0 : e = 0
    · have : g * s = 0 := by rw [← e1, h0, Int.zero_mul]
      have hs0 : s = 0 := by
        rcases Int.mul_eq_zero.1 this with h' | h'
        · omega
        · exact h'
      have hf : f = 0 := zz (by rw [e2, hs0, Int.mul_zero])
      exact .inr ⟨h0, by omega⟩
    · exact .inl (by omega)
  · have he : e = 0 := zz (by rw [e1, hg, Int.zero_mul])
    exact .inr ⟨he, nn (by rw [e2]; exact Int.mul_nonneg (by omega) hs)⟩
theorem c_lines (a b c d p q u v : Int) : cX a b c d p q u v - a * cW a b c d p q u v = (c - a) * turnZ p q u v a b ∧ cY a b c d p q u v - b * cW a b c d p q u v = (d - b) * turnZ p q u v a b ∧ cW a b c d p q u v = turnZ p q u v a b - turnZ p q u v c d := by
  unfold cX cY cW turnZ
  refine ⟨by grind, by grind, by grind⟩
end Go.Proofs.Ytpmnmlhfaoajdaa

/- Two segments and where they meet: the whole of what the law asks. -/
namespace Go.Proofs.Ytpmnmlhfaoajdaa
open Go.RowKit
theorem seg_lt {a b c d : Int} (h : segOk a b c d = true) : lessI a b c d = true := (less_iff _ _ _ _).2 (seg_less h)
theorem ends_same {a b p q : Int} : (if lessI p q a b = true then a else p) = (if lessI a b p q = true then p else a) ∧ (if lessI p q a b = true then b else q) = (if lessI a b p q = true then q else b) := by
  constructor <;> split <;> rename_i r1 <;> split <;> rename_i r2 <;> rw [less_iff] at r1 r2 <;> omega
theorem ends_min {c d u v : Int} : (if lessI c d u v = true then c else u) = (if lessI u v c d = true then u else c) ∧ (if lessI c d u v = true then d else v) = (if lessI u v c d = true then v else d) := by
  constructor <;> split <;> rename_i r1 <;> split <;> rename_i r2 <;> rw [less_iff] at r1 r2 <;> omega
theorem along_swap {a b c d p q u v : Int} (h1 : lessI a b c d = true) (h2 : lessI p q u v = true) (h0 : cW a b c d p q u v = 0) : alongV p q u v a b c d = alongV a b c d p q u v := by
  have h0' : ((q - v) * (c - a) - (b - d) * (u - p)) = 0 := by unfold cW at h0; omega
  have hi : (turnZ p q u v a b ≠ 0 ∨ lessI (if lessI u v c d = true then u else c) (if lessI u v c d = true then v else d) (if lessI a b p q = true then p else a) (if lessI a b p q = true then q else b) = true) ↔ (turnZ a b c d p q ≠ 0 ∨ lessI (if lessI u v c d = true then u else c) (if lessI u v c d = true then v else d) (if lessI a b p q = true then p else a) (if lessI a b p q = true then q else b) = true) :=
    or_congr ⟨fun h h' => h (turn_par h0 (less_ne h1) h'), fun h h' => h (turn_par h0' (less_ne h2) h')⟩ Iff.rfl
  obtain ⟨e1, e2⟩ := ends_same (a := a) (b := b) (p := p) (q := q)
  obtain ⟨e3, e4⟩ := ends_min (c := c) (d := d) (u := u) (v := v)
  unfold alongV
  rw [e1, e2, e3, e4]
  by_cases h : turnZ a b c d p q ≠ 0 ∨ lessI (if lessI u v c d = true then u else c) (if lessI u v c d = true then v else d) (if lessI a b p q = true then p else a) (if lessI a b p q = true then q else b) = true
  · rw [if_pos (hi.2 h), if_pos h]
  · rw [if_neg (fun k => h (hi.1 k)), if_neg h]
theorem meet_swap {a b c d p q u v : Int} (h1 : segOk a b c d = true) (h2 : segOk p q u v = true) : meetW p q u v a b c d = meetW a b c d p q u v := by
  have e3 := (c_swap a b c d p q u v).2.2
  by_cases hw : cW a b c d p q u v = 0
  · have hw' : cW p q u v a b c d = 0 := by omega
    unfold meetW
    rw [if_pos (show (q - v) * (c - a) - (b - d) * (u - p) = 0 from hw'), if_pos (show (b - d) * (u - p) - (q - v) * (c - a) = 0 from hw)]
    exact along_swap (seg_lt h1) (seg_lt h2) hw
  · have hw' : ¬ cW p q u v a b c d = 0 := by omega
    obtain ⟨k1, k2, k3⟩ := c_point_swap hw
    unfold meetW
    rw [if_neg (show ¬ (q - v) * (c - a) - (b - d) * (u - p) = 0 from hw'), if_neg (show ¬ (b - d) * (u - p) - (q - v) * (c - a) = 0 from hw), Bool.and_comm]
    change (if _ then Value.tuple #[.int .i64 1, (PV (cx p q u v a b c d) (cy p q u v a b c d) (cz p q u v a b c d)), _] else _) = (if _ then Value.tuple #[.int .i64 1, (PV (cx a b c d p q u v) (cy a b c d p q u v) (cz a b c d p q u v)), _] else _)
    rw [k1, k2, k3]
end Go.Proofs.Ytpmnmlhfaoajdaa

/- Segments that are quiet: the reckoning. -/
namespace Go.Proofs.Ytpmnmlhfaoajdaa
open Go.RowKit
/-- Two segments have an end in common. -/
def shP (a b c d p q u v : Int) : Prop := (a = p ∧ b = q) ∨ (a = u ∧ b = v) ∨ (c = p ∧ d = q) ∨ (c = u ∧ d = v)
/-- Two segments are quiet. -/
def qtP (a b c d p q u v : Int) : Prop := kndZ a b c d p q u v = 0 ∨ (kndZ a b c d p q u v = 1 ∧ shP a b c d p q u v)
theorem unit_of {X Y Z e f : Int} (hx : X = e * Z) (hy : Y = f * Z) (hz : 0 < Z) (hg : Int.gcd (Int.gcd X Y : Int) Z = 1) : X = e ∧ Y = f ∧ Z = 1 := by
  have d1 : Z ∣ X := ⟨e, by rw [hx, Int.mul_comm]⟩
  have d2 : Z ∣ Y := ⟨f, by rw [hy, Int.mul_comm]⟩
  have d3 : Z ∣ (Int.gcd X Y : Int) := Int.dvd_coe_gcd d1 d2
  have d4 : Z ∣ (Int.gcd (Int.gcd X Y : Int) Z : Int) := Int.dvd_coe_gcd d3 (Int.dvd_refl _)
  rw [hg] at d4
  have h1 : Z = 1 := by
    have := Int.le_of_dvd (by decide) d4
    simp at this
    omega
  subst h1
  exact ⟨by omega, by omega, rfl⟩
theorem cancel_of {x g s X Z k : Int} (hg : 0 < g) (h1 : x * g = s * X) (h2 : Z * g = s * k) (e : Int) (hX : X = e * k) : x = e * Z := by
  have h3 : (x - e * Z) * g = 0 := by
    have : e * Z * g = e * (s * k) := by rw [Int.mul_assoc, h2]
    rw [Int.sub_mul, h1, this, hX]
    have := Int.mul_left_comm s e k
    omega
  rcases Int.mul_eq_zero.1 h3 with h | h <;> omega
theorem turn_self (p q u v : Int) : turnZ p q u v p q = 0 ∧ turnZ p q u v u v = 0 := by
  unfold turnZ
  constructor
  · simp
  · rw [Int.mul_comm]; omega
/-- Where two lines cross, and both have a point, it is that. -/
theorem cross_at {a b c d p q u v : Int} (hw : cW a b c d p q u v ≠ 0) (e f : Int) (hX : cX a b c d p q u v = e * cW a b c d p q u v) (hY : cY a b c d p q u v = f * cW a b c d p q u v) : cx a b c d p q u v = e ∧ cy a b c d p q u v = f ∧ cz a b c d p q u v = 1 := by
  obtain ⟨g, s, hg, _, h1, h2, h3, hz, _, hgc⟩ := c_parts hw
  exact unit_of (cancel_of hg h1 h3 e hX) (cancel_of hg h2 h3 f hY) hz hgc
theorem cross_sh {a b c d p q u v : Int} (hw : cW a b c d p q u v ≠ 0) :
    ((turnZ p q u v a b = 0 → cx a b c d p q u v = a ∧ cy a b c d p q u v = b ∧ cz a b c d p q u v = 1) ∧ (turnZ p q u v c d = 0 → cx a b c d p q u v = c ∧ cy a b c d p q u v = d ∧ cz a b c d p q u v = 1)) := by
  obtain ⟨l1, l2, l3⟩ := c_lines a b c d p q u v
  refine ⟨fun h => cross_at hw a b ?_ ?_, fun h => cross_at hw c d ?_ ?_⟩
  · rw [h, Int.mul_zero] at l1; omega
  · rw [h, Int.mul_zero] at l2; omega
  · have : turnZ p q u v a b = cW a b c d p q u v := by omega
    rw [this, Int.sub_mul] at l1; omega
  · have : turnZ p q u v a b = cW a b c d p q u v := by omega
    rw [this, Int.sub_mul] at l2; omega
/-- The one point in which two segments meet, and their ends. -/
theorem meet_one {a b c d p q u v : Int} (h1 : segOk a b c d = true) (h2 : segOk p q u v = true) (hk : kndZ a b c d p q u v = 1) :
    ∃ x y z r0 r1 r2, meetW a b c d p q u v = .tuple #[.int .i64 1, PV x y z, PV r0 r1 r2] ∧ (told x = true ∧ told y = true ∧ told z = true) ∧
      ((((x = a ∧ y = b ∧ z = 1) ∨ (x = c ∧ y = d ∧ z = 1)) ∧ ((x = p ∧ y = q ∧ z = 1) ∨ (x = u ∧ y = v ∧ z = 1))) ↔ shP a b c d p q u v) := by
  by_cases hw : cW a b c d p q u v = 0
  · have hw0 : (b - d) * (u - p) - (q - v) * (c - a) = 0 := hw
    unfold kndZ at hk
    rw [if_pos hw0] at hk
    by_cases ha : turnZ a b c d p q ≠ 0 ∨ lessI (if lessI u v c d = true then u else c) (if lessI u v c d = true then v else d) (if lessI a b p q = true then p else a) (if lessI a b p q = true then q else b) = true
    · rw [if_pos ha] at hk; cases hk
    · rw [if_neg ha] at hk
      by_cases hb : (if lessI a b p q = true then p else a) = (if lessI u v c d = true then u else c) ∧ (if lessI a b p q = true then q else b) = (if lessI u v c d = true then v else d)
      · obtain ⟨i1, i2, i3, i4⟩ := in1_seg h1
        obtain ⟨j1, j2, j3, j4⟩ := in1_seg h2
        refine ⟨if lessI a b p q = true then p else a, if lessI a b p q = true then q else b, 1, 0, 0, 0, ?_, ⟨told_small (small_int (by unfold In1 at *; split <;> omega) (by unfold In1 at *; split <;> omega)), told_small (small_int (by unfold In1 at *; split <;> omega) (by unfold In1 at *; split <;> omega)), by decide⟩, ?_⟩
        · unfold meetW
          rw [if_pos hw0]
          unfold alongV
          rw [if_neg ha, if_pos hb]
          rfl
        · have l1 := (less_iff _ _ _ _).1 (seg_lt h1)
          have l2 := (less_iff _ _ _ _).1 (seg_lt h2)
          have k1 := less_iff a b p q
          have k2 := less_iff u v c d
          unfold shP
          clear ha hk hw hw0
          generalize lessI a b p q = s1 at hb k1 ⊢
          generalize lessI u v c d = s2 at hb k2 ⊢
          cases s1 <;> cases s2
          all_goals simp only [if_true, if_false, true_iff, false_iff, Bool.false_eq_true] at hb k1 k2 ⊢
          all_goals simp only [true_and, and_true, true_or]
          all_goals omega
      · rw [if_neg hb] at hk; cases hk
  · have hw0 : ¬ (b - d) * (u - p) - (q - v) * (c - a) = 0 := hw
    unfold kndZ at hk
    rw [if_neg hw0] at hk
    by_cases hb : (pt2 (turnZ a b c d p q) (turnZ a b c d u v) && pt2 (turnZ p q u v a b) (turnZ p q u v c d)) = true
    · obtain ⟨s1, s2, s3⟩ := c_small hw h1 h2
      refine ⟨cx a b c d p q u v, cy a b c d p q u v, cz a b c d p q u v, 0, 0, 0, ?_, ⟨told_small s1, told_small s2, told_small s3⟩, ?_⟩
      · unfold meetW
        rw [if_neg hw0, if_pos hb]
        rfl
      · obtain ⟨t1, t2⟩ := cross_sh hw
        obtain ⟨z1, z2⟩ := turn_self p q u v
        unfold shP
        constructor
        · omega
        · rintro (⟨e1, e2⟩ | ⟨e1, e2⟩ | ⟨e1, e2⟩ | ⟨e1, e2⟩)
          · have := t1 (by rw [e1, e2]; exact z1); omega
          · have := t1 (by rw [e1, e2]; exact z2); omega
          · have := t2 (by rw [e1, e2]; exact z1); omega
          · have := t2 (by rw [e1, e2]; exact z2); omega
    · rw [if_neg hb] at hk; cases hk
/-- The kind does not ask which stands first. -/
theorem knd_either {a b c d p q u v : Int} (h1 : segOk a b c d = true) (h2 : segOk p q u v = true) : kndZ p q u v a b c d = kndZ a b c d p q u v := by
  obtain ⟨r, s, e1⟩ := meetW_kind p q u v a b c d
  obtain ⟨r', s', e2⟩ := meetW_kind a b c d p q u v
  rw [meet_swap h1 h2, e2] at e1
  simp only [Value.tuple.injEq] at e1
  have := congrArg (fun l => l[0]?) e1
  simpa using this.symm
theorem sh_either {a b c d p q u v : Int} : shP p q u v a b c d ↔ shP a b c d p q u v := by unfold shP; omega
theorem qt_either {a b c d p q u v : Int} (h1 : segOk a b c d = true) (h2 : segOk p q u v = true) : qtP p q u v a b c d ↔ qtP a b c d p q u v := by
  unfold qtP
  rw [knd_either h1 h2, sh_either]
end Go.Proofs.Ytpmnmlhfaoajdaa

/- Segments that are quiet: what the program asks of two. -/
namespace Go.Proofs.Ytpmnmlhfaoajdaa
open Go.RowKit
set_option maxRecDepth 100000 in
set_option maxHeartbeats 8000000 in
theorem endsAt_det (a b c d x y z : Int) (i1 : In1 a) (i2 : In1 b) (i3 : In1 c) (i4 : In1 d) (tx : told x = true) (ty : told y = true) (tz : told z = true) (r : Bool) (hr : r = true ↔ ((x = a ∧ y = b ∧ z = 1) ∨ (x = c ∧ y = d ∧ z = 1))) (w : World) : Calls Try.prog 64 #[Sg a b c d, PV x y z] w (VP (.bool r) w) := by
  unfold In1 at i1 i2 i3 i4
  have T0 : ArgsB w ((w.alloc (.cells #[.int .i64 a, .int .i64 b, .int .i64 c, .int .i64 d] 64)).alloc (.cells #[.int .u64 (ww3 x), .int .u64 (ww2 x), .int .u64 (ww1 x), .int .u64 (ww0 x), .int .u64 (ww3 y), .int .u64 (ww2 y), .int .u64 (ww1 y), .int .u64 (ww0 y), .int .u64 (ww3 z), .int .u64 (ww2 z), .int .u64 (ww1 z), .int .u64 (ww0 z)] 41)) [[.int .i64 a, .int .i64 b, .int .i64 c, .int .i64 d], [.int .u64 (ww3 x), .int .u64 (ww2 x), .int .u64 (ww1 x), .int .u64 (ww0 x), .int .u64 (ww3 y), .int .u64 (ww2 y), .int .u64 (ww1 y), .int .u64 (ww0 y), .int .u64 (ww3 z), .int .u64 (ww2 z), .int .u64 (ww1 z), .int .u64 (ww0 z)]] := ar2 _ _ _ _ w
  have EN := fun w => ends_det a b c d (by omega) (by omega) (by omega) (by omega) (by omega) (by omega) (by omega) (by omega) w
  obtain ⟨b1, hb1⟩ : ∃ b1 : Bool, b1 = (decide (a = x) && decide (b = y) && decide (1 = z)) := ⟨_, rfl⟩
  obtain ⟨b2, hb2⟩ : ∃ b2 : Bool, b2 = (decide (c = x) && decide (d = y) && decide (1 = z)) := ⟨_, rfl⟩
  have E1 : ∀ w, (Op.equalIn 10000 41 (.agg #[.int .u64 (ww3 a), .int .u64 (ww2 a), .int .u64 (ww1 a), .int .u64 (ww0 a), .int .u64 (ww3 b), .int .u64 (ww2 b), .int .u64 (ww1 b), .int .u64 (ww0 b), .int .u64 (ww3 1), .int .u64 (ww2 1), .int .u64 (ww1 1), .int .u64 (ww0 1)]) (.agg #[.int .u64 (ww3 x), .int .u64 (ww2 x), .int .u64 (ww1 x), .int .u64 (ww0 x), .int .u64 (ww3 y), .int .u64 (ww2 y), .int .u64 (ww1 y), .int .u64 (ww0 y), .int .u64 (ww3 z), .int .u64 (ww2 z), .int .u64 (ww1 z), .int .u64 (ww0 z)])).run Try.prog w = .ok b1 w := fun w => by rw [hb1]; exact eqPV a b 1 x y z (told_small (small_int (by omega) (by omega))) (told_small (small_int (by omega) (by omega))) (by decide) tx ty tz w
  have E2 : ∀ w, (Op.equalIn 10000 41 (.agg #[.int .u64 (ww3 c), .int .u64 (ww2 c), .int .u64 (ww1 c), .int .u64 (ww0 c), .int .u64 (ww3 d), .int .u64 (ww2 d), .int .u64 (ww1 d), .int .u64 (ww0 d), .int .u64 (ww3 1), .int .u64 (ww2 1), .int .u64 (ww1 1), .int .u64 (ww0 1)]) (.agg #[.int .u64 (ww3 x), .int .u64 (ww2 x), .int .u64 (ww1 x), .int .u64 (ww0 x), .int .u64 (ww3 y), .int .u64 (ww2 y), .int .u64 (ww1 y), .int .u64 (ww0 y), .int .u64 (ww3 z), .int .u64 (ww2 z), .int .u64 (ww1 z), .int .u64 (ww0 z)])).run Try.prog w = .ok b2 w := fun w => by rw [hb2]; exact eqPV c d 1 x y z (told_small (small_int (by omega) (by omega))) (told_small (small_int (by omega) (by omega))) (by decide) tx ty tz w
  have HR : Hid (r = (b1 || b2)) := by
    show _ = _
    rw [Bool.eq_iff_iff, hr, hb1, hb2]
    simp only [Bool.or_eq_true, Bool.and_eq_true, decide_eq_true_eq]
    omega
  clear hb1 hb2 hr i1 i2 i3 i4 tx ty tz
  go_enter Try.func64, Try.ntmps64
  have Y1 : Blk _ w.heap.size _ := T0.b 0 rfl
  obtain ⟨g0, g1, g2, g3⟩ := Y1.cs4
  clear Y1
  go_wp2_with fail
  generalize ((w.alloc (.cells #[.int .i64 a, .int .i64 b, .int .i64 c, .int .i64 d] 64)).alloc (.cells #[.int .u64 (ww3 x), .int .u64 (ww2 x), .int .u64 (ww1 x), .int .u64 (ww0 x), .int .u64 (ww3 y), .int .u64 (ww2 y), .int .u64 (ww1 y), .int .u64 (ww0 y), .int .u64 (ww3 z), .int .u64 (ww2 z), .int .u64 (ww1 z), .int .u64 (ww0 z)] 41)) = W at *
  refine (EN _).mono ?_
  rintro e w1 ⟨rfl, hB⟩
  replace T0 := T0.step hB
  clear hB EN g0 g1 g2 g3
  have X1 := (Blk.new w1 [.int .u64 (ww3 a), .int .u64 (ww2 a), .int .u64 (ww1 a), .int .u64 (ww0 a), .int .u64 (ww3 b), .int .u64 (ww2 b), .int .u64 (ww1 b), .int .u64 (ww0 b), .int .u64 (ww3 1), .int .u64 (ww2 1), .int .u64 (ww1 1), .int .u64 (ww0 1)] 41 rfl).alloc (.cells #[.int .u64 (ww3 c), .int .u64 (ww2 c), .int .u64 (ww1 c), .int .u64 (ww0 c), .int .u64 (ww3 d), .int .u64 (ww2 d), .int .u64 (ww1 d), .int .u64 (ww0 d), .int .u64 (ww3 1), .int .u64 (ww2 1), .int .u64 (ww1 1), .int .u64 (ww0 1)] 41)
  have X2 := Blk.new (w1.alloc (.cells #[.int .u64 (ww3 a), .int .u64 (ww2 a), .int .u64 (ww1 a), .int .u64 (ww0 a), .int .u64 (ww3 b), .int .u64 (ww2 b), .int .u64 (ww1 b), .int .u64 (ww0 b), .int .u64 (ww3 1), .int .u64 (ww2 1), .int .u64 (ww1 1), .int .u64 (ww0 1)] 41)) [.int .u64 (ww3 c), .int .u64 (ww2 c), .int .u64 (ww1 c), .int .u64 (ww0 c), .int .u64 (ww3 d), .int .u64 (ww2 d), .int .u64 (ww1 d), .int .u64 (ww0 d), .int .u64 (ww3 1), .int .u64 (ww2 1), .int .u64 (ww1 1), .int .u64 (ww0 1)] 41 rfl
  have x2e : (w1.alloc (.cells #[.int .u64 (ww3 a), .int .u64 (ww2 a), .int .u64 (ww1 a), .int .u64 (ww0 a), .int .u64 (ww3 b), .int .u64 (ww2 b), .int .u64 (ww1 b), .int .u64 (ww0 b), .int .u64 (ww3 1), .int .u64 (ww2 1), .int .u64 (ww1 1), .int .u64 (ww0 1)] 41)).heap.size = w1.heap.size + 1 := by simp
  rw [x2e] at X2
  clear x2e
  replace T0 := (T0.alloc (.cells #[.int .u64 (ww3 a), .int .u64 (ww2 a), .int .u64 (ww1 a), .int .u64 (ww0 a), .int .u64 (ww3 b), .int .u64 (ww2 b), .int .u64 (ww1 b), .int .u64 (ww0 b), .int .u64 (ww3 1), .int .u64 (ww2 1), .int .u64 (ww1 1), .int .u64 (ww0 1)] 41)).alloc (.cells #[.int .u64 (ww3 c), .int .u64 (ww2 c), .int .u64 (ww1 c), .int .u64 (ww0 c), .int .u64 (ww3 d), .int .u64 (ww2 d), .int .u64 (ww1 d), .int .u64 (ww0 d), .int .u64 (ww3 1), .int .u64 (ww2 1), .int .u64 (ww1 1), .int .u64 (ww0 1)] 41)
  have Y0 : Blk _ (w.heap.size + 1) _ := T0.b 1 rfl
  obtain ⟨q0, q1, q2, q3, q4, q5, q6, q7, q8, q9, q10, q11⟩ := Y0.cs12
  obtain ⟨k0, k1, k2, k3, k4, k5, k6, k7, k8, k9, k10, k11⟩ := X1.cs12
  obtain ⟨l0, l1, l2, l3, l4, l5, l6, l7, l8, l9, l10, l11⟩ := X2.cs12
  have HB := T0.below
  clear T0 Y0 X1 X2
  cases b1 <;> cases b2
  all_goals go_wp2
  all_goals go_ret
  all_goals exact ⟨by rw [HR.out]; rfl, HB⟩
set_option maxRecDepth 100000 in
set_option maxHeartbeats 8000000 in
theorem areQuiet_det (a b c d p q u v : Int) (h1 : segOk a b c d = true) (h2 : segOk p q u v = true) (r : Bool) (hr : r = true ↔ qtP a b c d p q u v) (w : World) : Calls Try.prog 35 #[Sg a b c d, Sg p q u v] w (VP (.bool r) w) := by
  have T0 : ArgsB w ((w.alloc (.cells #[.int .i64 a, .int .i64 b, .int .i64 c, .int .i64 d] 64)).alloc (.cells #[.int .i64 p, .int .i64 q, .int .i64 u, .int .i64 v] 64)) [[.int .i64 a, .int .i64 b, .int .i64 c, .int .i64 d], [.int .i64 p, .int .i64 q, .int .i64 u, .int .i64 v]] := ar2 _ _ _ _ w
  obtain ⟨i1, i2, i3, i4⟩ := in1_seg h1
  obtain ⟨j1, j2, j3, j4⟩ := in1_seg h2
  go_enter Try.func35, Try.ntmps35
  rcases knd_in a b c d p q u v with hk | hk | hk
  · obtain ⟨r0, r1, r2, r3, r4, r5, r6, r7, r8, r9, r10, r11, s0, s1, s2, s3, s4, s5, s6, s7, s8, s9, s10, s11, hW12⟩ := meetW_12 a b c d p q u v
    rw [hk] at hW12
    have MT := meet_det a b c d p q u v i1 i2 i3 i4 j1 j2 j3 j4
    rw [hW12] at MT
    have HR : Hid (r = true) := by
      show _ = _
      exact hr.2 (.inl hk)
    clear hk hW12 h1 h2
    have Y1 : Blk _ w.heap.size _ := T0.b 0 rfl; obtain ⟨g0, g1, g2, g3⟩ := Y1.cs4; have Y0 : Blk _ (w.heap.size + 1) _ := T0.b 1 rfl; obtain ⟨h0, h1, h2, h3⟩ := Y0.cs4
    go_wp2_with fail
    generalize ((w.alloc (.cells #[.int .i64 a, .int .i64 b, .int .i64 c, .int .i64 d] 64)).alloc (.cells #[.int .i64 p, .int .i64 q, .int .i64 u, .int .i64 v] 64)) = W at *
    refine (MT _).mono ?_
    rintro e w1 ⟨rfl, hB⟩
    have HB := T0.below.trans (hB.mono T0.below.size)
    replace HB := (HB.alloc HB.size (.cells #[.int .u64 r0, .int .u64 r1, .int .u64 r2, .int .u64 r3, .int .u64 r4, .int .u64 r5, .int .u64 r6, .int .u64 r7, .int .u64 r8, .int .u64 r9, .int .u64 r10, .int .u64 r11] 41)).alloc (Nat.le_trans HB.size (by simp)) (.cells #[.int .u64 s0, .int .u64 s1, .int .u64 s2, .int .u64 s3, .int .u64 s4, .int .u64 s5, .int .u64 s6, .int .u64 s7, .int .u64 s8, .int .u64 s9, .int .u64 s10, .int .u64 s11] 41)
    clear hB T0 MT g0 g1 g2 g3 h0 h1 h2 h3 Y1 Y0
    go_wp2
    go_ret
    exact ⟨by rw [HR.out]; rfl, HB⟩
  · obtain ⟨x, y, z, e0, e1, e2, hW, ⟨tx, ty, tz⟩, hsh⟩ := meet_one h1 h2 hk
    have MT := meet_det a b c d p q u v i1 i2 i3 i4 j1 j2 j3 j4
    rw [hW] at MT
    obtain ⟨ra, hra⟩ : ∃ ra : Bool, ra = true ↔ ((x = a ∧ y = b ∧ z = 1) ∨ (x = c ∧ y = d ∧ z = 1)) := ⟨_, decide_eq_true_iff⟩
    obtain ⟨rb, hrb⟩ : ∃ rb : Bool, rb = true ↔ ((x = p ∧ y = q ∧ z = 1) ∨ (x = u ∧ y = v ∧ z = 1)) := ⟨_, decide_eq_true_iff⟩
    have C1 := endsAt_det a b c d x y z i1 i2 i3 i4 tx ty tz ra hra
    have C2 := endsAt_det p q u v x y z j1 j2 j3 j4 tx ty tz rb hrb
    have HR : Hid (r = (ra && rb)) := by
      show _ = _
      rw [Bool.eq_iff_iff, hr, Bool.and_eq_true, hra, hrb, hsh]
      unfold qtP
      rw [hk]
      simp
    clear hk hW h1 h2 hr hra hrb hsh tx ty tz i1 i2 i3 i4 j1 j2 j3 j4
    have Y1 : Blk _ w.heap.size _ := T0.b 0 rfl; obtain ⟨g0, g1, g2, g3⟩ := Y1.cs4; have Y0 : Blk _ (w.heap.size + 1) _ := T0.b 1 rfl; obtain ⟨h0, h1, h2, h3⟩ := Y0.cs4
    go_wp2_with fail
    generalize ((w.alloc (.cells #[.int .i64 a, .int .i64 b, .int .i64 c, .int .i64 d] 64)).alloc (.cells #[.int .i64 p, .int .i64 q, .int .i64 u, .int .i64 v] 64)) = W at *
    refine (MT _).mono ?_
    rintro e w1 ⟨rfl, hB⟩
    replace T0 := T0.step hB
    clear hB MT g0 g1 g2 g3 h0 h1 h2 h3 Y1 Y0
    have X1 := (Blk.new w1 [.int .u64 (ww3 x), .int .u64 (ww2 x), .int .u64 (ww1 x), .int .u64 (ww0 x), .int .u64 (ww3 y), .int .u64 (ww2 y), .int .u64 (ww1 y), .int .u64 (ww0 y), .int .u64 (ww3 z), .int .u64 (ww2 z), .int .u64 (ww1 z), .int .u64 (ww0 z)] 41 rfl).alloc (.cells #[.int .u64 (ww3 e0), .int .u64 (ww2 e0), .int .u64 (ww1 e0), .int .u64 (ww0 e0), .int .u64 (ww3 e1), .int .u64 (ww2 e1), .int .u64 (ww1 e1), .int .u64 (ww0 e1), .int .u64 (ww3 e2), .int .u64 (ww2 e2), .int .u64 (ww1 e2), .int .u64 (ww0 e2)] 41)
    replace T0 := (T0.alloc (.cells #[.int .u64 (ww3 x), .int .u64 (ww2 x), .int .u64 (ww1 x), .int .u64 (ww0 x), .int .u64 (ww3 y), .int .u64 (ww2 y), .int .u64 (ww1 y), .int .u64 (ww0 y), .int .u64 (ww3 z), .int .u64 (ww2 z), .int .u64 (ww1 z), .int .u64 (ww0 z)] 41)).alloc (.cells #[.int .u64 (ww3 e0), .int .u64 (ww2 e0), .int .u64 (ww1 e0), .int .u64 (ww0 e0), .int .u64 (ww3 e1), .int .u64 (ww2 e1), .int .u64 (ww1 e1), .int .u64 (ww0 e1), .int .u64 (ww3 e2), .int .u64 (ww2 e2), .int .u64 (ww1 e2), .int .u64 (ww0 e2)] 41)
    have Y1 : Blk _ w.heap.size _ := T0.b 0 rfl; obtain ⟨g0, g1, g2, g3⟩ := Y1.cs4; have Y0 : Blk _ (w.heap.size + 1) _ := T0.b 1 rfl; obtain ⟨h0, h1, h2, h3⟩ := Y0.cs4
    obtain ⟨k0, k1, k2, k3, k4, k5, k6, k7, k8, k9, k10, k11⟩ := X1.cs12
    go_wp2_with fail
    generalize ((w1.alloc (.cells #[.int .u64 (ww3 x), .int .u64 (ww2 x), .int .u64 (ww1 x), .int .u64 (ww0 x), .int .u64 (ww3 y), .int .u64 (ww2 y), .int .u64 (ww1 y), .int .u64 (ww0 y), .int .u64 (ww3 z), .int .u64 (ww2 z), .int .u64 (ww1 z), .int .u64 (ww0 z)] 41)).alloc (.cells #[.int .u64 (ww3 e0), .int .u64 (ww2 e0), .int .u64 (ww1 e0), .int .u64 (ww0 e0), .int .u64 (ww3 e1), .int .u64 (ww2 e1), .int .u64 (ww1 e1), .int .u64 (ww0 e1), .int .u64 (ww3 e2), .int .u64 (ww2 e2), .int .u64 (ww1 e2), .int .u64 (ww0 e2)] 41)) = W1 at *
    refine (C1 _).mono ?_
    rintro e w2 ⟨rfl, hB⟩
    replace T0 := T0.step hB
    replace X1 := X1.step hB
    clear hB C1 g0 g1 g2 g3 h0 h1 h2 h3 Y1 Y0 k0 k1 k2 k3 k4 k5 k6 k7 k8 k9 k10 k11
    cases ra
    · have HB := T0.below
      clear T0 X1 C2
      go_wp2
      go_ret
      exact ⟨by rw [HR.out]; rfl, HB⟩
    · have Y1 : Blk _ w.heap.size _ := T0.b 0 rfl; obtain ⟨g0, g1, g2, g3⟩ := Y1.cs4; have Y0 : Blk _ (w.heap.size + 1) _ := T0.b 1 rfl; obtain ⟨h0, h1, h2, h3⟩ := Y0.cs4
      obtain ⟨k0, k1, k2, k3, k4, k5, k6, k7, k8, k9, k10, k11⟩ := X1.cs12
      go_wp2_with fail
      refine (C2 _).mono ?_
      rintro e w3 ⟨rfl, hB⟩
      have HB := T0.below.trans (hB.mono T0.below.size)
      clear hB C2 g0 g1 g2 g3 h0 h1 h2 h3 Y1 Y0 k0 k1 k2 k3 k4 k5 k6 k7 k8 k9 k10 k11 T0 X1
      cases rb
      all_goals go_wp2
      all_goals go_ret
      all_goals exact ⟨by rw [HR.out]; rfl, HB⟩
  · obtain ⟨r0, r1, r2, r3, r4, r5, r6, r7, r8, r9, r10, r11, s0, s1, s2, s3, s4, s5, s6, s7, s8, s9, s10, s11, hW12⟩ := meetW_12 a b c d p q u v
    rw [hk] at hW12
    have MT := meet_det a b c d p q u v i1 i2 i3 i4 j1 j2 j3 j4
    rw [hW12] at MT
    have HR : Hid (r = false) := by
      show _ = _
      rw [Bool.eq_false_iff]
      intro h
      have := hr.1 h
      unfold qtP at this
      omega
    clear hk hW12 h1 h2
    have Y1 : Blk _ w.heap.size _ := T0.b 0 rfl; obtain ⟨g0, g1, g2, g3⟩ := Y1.cs4; have Y0 : Blk _ (w.heap.size + 1) _ := T0.b 1 rfl; obtain ⟨h0, h1, h2, h3⟩ := Y0.cs4
    go_wp2_with fail
    generalize ((w.alloc (.cells #[.int .i64 a, .int .i64 b, .int .i64 c, .int .i64 d] 64)).alloc (.cells #[.int .i64 p, .int .i64 q, .int .i64 u, .int .i64 v] 64)) = W at *
    refine (MT _).mono ?_
    rintro e w1 ⟨rfl, hB⟩
    have HB := T0.below.trans (hB.mono T0.below.size)
    replace HB := (HB.alloc HB.size (.cells #[.int .u64 r0, .int .u64 r1, .int .u64 r2, .int .u64 r3, .int .u64 r4, .int .u64 r5, .int .u64 r6, .int .u64 r7, .int .u64 r8, .int .u64 r9, .int .u64 r10, .int .u64 r11] 41)).alloc (Nat.le_trans HB.size (by simp)) (.cells #[.int .u64 s0, .int .u64 s1, .int .u64 s2, .int .u64 s3, .int .u64 s4, .int .u64 s5, .int .u64 s6, .int .u64 s7, .int .u64 s8, .int .u64 s9, .int .u64 s10, .int .u64 s11] 41)
    clear hB T0 MT g0 g1 g2 g3 h0 h1 h2 h3 Y1 Y0
    go_wp2
    go_ret
    exact ⟨by rw [HR.out]; rfl, HB⟩
end Go.Proofs.Ytpmnmlhfaoajdaa

/- A drawn region that appends one element to a row of the call's own: what every operation keeps. -/
namespace Go.Proofs.Ytpmnmlhfaoajdaa
open Go.RowKit
theorem getD_tf {l : Array Bool} {i : Nat} (h : l.getD i true = false) : l.getD i false = false := by
  rw [Array.getD_eq_getD_getElem?] at *
  cases hh : l[i]? with
  | none => rw [hh] at h; cases h
  | some b => rw [hh] at h; exact h
theorem getD_set_neq {l : Array Bool} {i j : Nat} (h : i ≠ j) : (l.setIfInBounds i true).getD j false = l.getD j false := by
  simp [Array.getD_eq_getD_getElem?, Array.getElem?_setIfInBounds_ne h]
theorem ownA_step {w w' : World} {base n : Nat} {e : TypeId} {size : Nat} {v : Value} {xs : List Value} (h : w.ownsRow base e size v n xs) (hB : Below w.heap.size w w') : w'.ownsRow base e size v n xs := by
  rcases h with ⟨h0, h1 | ⟨g, cap, cur, h1, h2, h3, h4⟩⟩
  · exact ⟨h0, .inl h1⟩
  · refine ⟨h0, .inr ⟨g, cap, cur, h1, h2, ?_, h4⟩⟩
    rw [hB.block g (Array.getElem?_eq_some_iff.1 h3).1]
    exact h3
/-- ib builds the element (slot de), ia appends it (slot da), iz assigns the row (slot dr), all others being ahead of that. -/
def AppI (n ib ia iz dr de da base : Nat) (T : TypeId) (size : Nat) (o : Value) (c : Nat) (Lz news : List Value) (lz : Array Bool) (az : Act) (W : World) : Prop :=
  (lz.getD iz false = true → ∀ j, j < n → lz.getD j false = true) ∧ (lz.getD iz false = false → az.tmps.getD dr undef = o) ∧
  (lz.getD ia false = false → W.ownsRow base T size o c Lz ∧ (lz.getD ib false = true → ∃ g cp, az.tmps.getD de undef = .slice (some ⟨g, 0, none⟩) 1 cp ∧ Blk W g news)) ∧
  (lz.getD ia false = true → W.ownsRow base T size (az.tmps.getD da undef) (c + 1) (Lz ++ news)) ∧ (lz.getD iz false = true → az.tmps.getD dr undef = az.tmps.getD da undef)
theorem AppI.off {n ib ia iz dr de da base : Nat} {T : TypeId} {size : Nat} {o : Value} {c : Nat} {Lz news : List Value} {lz : Array Bool} {az : Act} {W : World} (h : AppI n ib ia iz dr de da base T size o c Lz news lz az W) {i : Nat} (hi : i < n) (hl : lz.getD i true = false) : lz.getD iz false = false := by
  cases hh : lz.getD iz false with
  | false => rfl
  | true => have := h.1 hh i hi; rw [getD_tf hl] at this; cases this
theorem AppI.quiet {n ib ia iz dr de da base : Nat} {T : TypeId} {size : Nat} {o : Value} {c : Nat} {Lz news : List Value} {lz : Array Bool} {az : Act} {W W2 : World} (h : AppI n ib ia iz dr de da base T size o c Lz news lz az W) (i d : Nat) (v : Value) (hi : i < n) (hl : lz.getD i true = false) (h1 : i ≠ ib) (h2 : i ≠ ia) (h3 : i ≠ iz) (e1 : d ≠ dr) (e2 : d ≠ de) (e3 : d ≠ da) (hB : Below W.heap.size W W2) :
    AppI n ib ia iz dr de da base T size o c Lz news (lz.setIfInBounds i true) (az.put (some d) v) W2 := by
  have hz := h.off hi hl
  obtain ⟨a1, a2, a3, a4, a5⟩ := h
  unfold AppI
  rw [getD_set_neq h3, getD_set_neq h2, getD_set_neq h1, put_getD_ne e1, put_getD_ne e2, put_getD_ne e3]
  refine ⟨(fun h => by rw [hz] at h; cases h), a2, fun h => ⟨ownA_step (a3 h).1 hB, fun hb => ?_⟩, fun h => ownA_step (a4 h) hB, (fun h => by rw [hz] at h; cases h)⟩
  obtain ⟨g, cp, e, X⟩ := (a3 h).2 hb
  exact ⟨g, cp, e, X.step hB⟩
theorem AppI.done {n ib ia iz dr de da base : Nat} {T : TypeId} {size : Nat} {o : Value} {c : Nat} {Lz news : List Value} {lz : Array Bool} {az : Act} {W : World} (h : AppI n ib ia iz dr de da base T size o c Lz news lz az W) (hia : ia < n) (hl : lz.getD iz false = true) : W.ownsRow base T size (az.tmps.getD dr undef) (c + 1) (Lz ++ news) := by
  rw [h.2.2.2.2 hl]
  exact h.2.2.2.1 (h.1 hl ia hia)
end Go.Proofs.Ytpmnmlhfaoajdaa

/- Segments that are quiet: the document. -/
namespace Go.Proofs.Ytpmnmlhfaoajdaa
open Go.RowKit
def VqtSr (A off n cap ci ck : Nat) (xa xb xc xd ya yb yc yd : Int) (B : Nat) : Nat → Value → World → Prop
  | 0, v, _ => v = .slice (some ⟨A, off, none⟩) n cap
  | 1, v, _ => v = .int .i64 (ci : Nat)
  | 2, v, _ => v = .pointer (some ⟨A, off + ci * 4, none⟩)
  | 3, v, _ => v = .agg #[.int .i64 xa, .int .i64 xb, .int .i64 xc, .int .i64 xd]
  | 4, v, _ => v = .slice (some ⟨A, off, none⟩) n cap
  | 5, v, _ => v = .int .i64 (ck : Nat)
  | 6, v, _ => v = .pointer (some ⟨A, off + ck * 4, none⟩)
  | 7, v, _ => v = .agg #[.int .i64 ya, .int .i64 yb, .int .i64 yc, .int .i64 yd]
  | 8, v, _ => ∃ x y, Lp6 x ∧ Lp6 y ∧ v = .tuple #[.int .i64 (kndZ xa xb xc xd ya yb yc yd), x, y]
  | 9, v, _ => ∃ x y, Lp6 x ∧ Lp6 y ∧ v = .tuple #[.int .i64 (kndZ xa xb xc xd ya yb yc yd), x, y]
  | 10, v, _ => v = .int .i64 (kndZ xa xb xc xd ya yb yc yd)
  | 11, v, _ => Lp6 v
  | 12, v, _ => Lp6 v
  | 13, v, W => ∃ g, v = .pointer (some ⟨g, 0, none⟩) ∧ B ≤ g ∧ BlkN W g 6
  | 14, v, W => ∃ g, v = .pointer (some ⟨g, 0, none⟩) ∧ B ≤ g ∧ BlkN W g 6
  | 15, v, _ => v = .int .i64 (kndZ xa xb xc xd ya yb yc yd)
  | _, _, _ => True
theorem VqtSr.mono {A off n cap ci ck : Nat} {xa xb xc xd ya yb yc yd : Int} {B j : Nat} {v : Value} {W W2 : World} (hS : ∀ g k, BlkN W g k → BlkN W2 g k) (h : VqtSr A off n cap ci ck xa xb xc xd ya yb yc yd B j v W) : VqtSr A off n cap ci ck xa xb xc xd ya yb yc yd B j v W2 := by
  unfold VqtSr at *
  split <;> simp only at h <;> first | exact h | (obtain ⟨g, h1, h2, h3⟩ := h; exact ⟨g, h1, h2, hS g _ h3⟩) | trivial
set_option maxRecDepth 100000 in
set_option maxHeartbeats 4000000 in
theorem qtSr {Q : Exit → Act → World → Prop} {A off n cap ci ck : Nat} {xa xb xc xd ya yb yc yd : Int}  {w0 : World} {a0 : Act} {idq : Nat} {t0 t1 t2 t3 t4 t5 t6 t7 t8 t9 t10 t11 t12 t13 t14 t15 t16 t17 : TypeId} {q0 q1 q2 q3 q4 q5 q6 q7 q8 q9 q10 q11 q12 q13 q14 q15 q16 q17 : String}
    (cn : (ci : Int) < (n : Int)) (kn : (ck : Int) < (n : Int)) (i1 : In1 xa) (i2 : In1 xb) (i3 : In1 xc) (i4 : In1 xd) (j1 : In1 ya) (j2 : In1 yb) (j3 : In1 yc) (j4 : In1 yd) (h0 : a0.tmps[0]? = some (.slice (some ⟨A, off, none⟩) n cap)) (h3 : a0.tmps[3]? = some (.int .i64 (ci : Nat))) (h4 : a0.tmps[4]? = some (.int .i64 (ck : Nat))) (k0 : w0.cell? ⟨A, off + ci * 4, none⟩ = some (.int .i64 xa)) (l0 : (⟨A, off + ci * 4, none⟩ : Addr).block < w0.heap.size) (k1 : w0.cell? ⟨A, off + ci * 4 + 1, none⟩ = some (.int .i64 xb)) (l1 : (⟨A, off + ci * 4 + 1, none⟩ : Addr).block < w0.heap.size) (k2 : w0.cell? ⟨A, off + ci * 4 + 2, none⟩ = some (.int .i64 xc)) (l2 : (⟨A, off + ci * 4 + 2, none⟩ : Addr).block < w0.heap.size) (k3 : w0.cell? ⟨A, off + ci * 4 + 3, none⟩ = some (.int .i64 xd)) (l3 : (⟨A, off + ci * 4 + 3, none⟩ : Addr).block < w0.heap.size) (k4 : w0.cell? ⟨A, off + ck * 4, none⟩ = some (.int .i64 ya)) (l4 : (⟨A, off + ck * 4, none⟩ : Addr).block < w0.heap.size) (k5 : w0.cell? ⟨A, off + ck * 4 + 1, none⟩ = some (.int .i64 yb)) (l5 : (⟨A, off + ck * 4 + 1, none⟩ : Addr).block < w0.heap.size) (k6 : w0.cell? ⟨A, off + ck * 4 + 2, none⟩ = some (.int .i64 yc)) (l6 : (⟨A, off + ck * 4 + 2, none⟩ : Addr).block < w0.heap.size) (k7 : w0.cell? ⟨A, off + ck * 4 + 3, none⟩ = some (.int .i64 yd)) (l7 : (⟨A, off + ck * 4 + 3, none⟩ : Addr).block < w0.heap.size) (hz : a0.tmps.size = 79)
    (hQ : ∀ aq W, aq.tmps.size = a0.tmps.size → aq.defers = a0.defers → (∀ e, e ∉ ([25, 26, 27, 28, 29, 30, 31, 32, 33, 24, 34, 35, 36, 6, 7, 5] : List Nat) → aq.tmps[e]? = a0.tmps[e]?) → VqtSr A off n cap ci ck xa xb xc xd ya yb yc yd w0.heap.size 15 (aq.tmps.getD 5 undef) W → Below w0.heap.size w0 W → Q .normal aq W) :
    (Code.region idq #[{ dst := some 25, op := Op.move (Operand.tmp 0), type := t0, pos := q0, after := #[], guard := none },
    { dst := some 26, op := Op.move (Operand.tmp 3), type := t1, pos := q1, after := #[], guard := none },
    { dst := some 27, op := Op.indexAddr 27 (Operand.tmp 25) (Operand.tmp 26), type := t2, pos := q2, after := #[{ on := 0, ground := Ground.data }, { on := 1, ground := Ground.data }], guard := none },
    { dst := some 28, op := Op.load 64 (Operand.tmp 27), type := t3, pos := q3, after := #[{ on := 2, ground := Ground.data }], guard := none },
    { dst := some 29, op := Op.move (Operand.tmp 0), type := t4, pos := q4, after := #[], guard := none },
    { dst := some 30, op := Op.move (Operand.tmp 4), type := t5, pos := q5, after := #[], guard := none },
    { dst := some 31, op := Op.indexAddr 27 (Operand.tmp 29) (Operand.tmp 30), type := t6, pos := q6, after := #[{ on := 4, ground := Ground.data }, { on := 5, ground := Ground.data }], guard := none },
    { dst := some 32, op := Op.load 64 (Operand.tmp 31), type := t7, pos := q7, after := #[{ on := 6, ground := Ground.data }], guard := none },
    { dst := some 33, op := Op.call { callee := Callee.value (Operand.func 28), args := #[Operand.tmp 28, Operand.tmp 32], argTypes := #[64, 64] }, type := t8, pos := q8, after := #[{ on := 3, ground := Ground.data }, { on := 7, ground := Ground.data }], guard := none },
    { dst := some 24, op := Op.move (Operand.tmp 33), type := t9, pos := q9, after := #[{ on := 8, ground := Ground.data }], guard := none },
    { dst := some 34, op := Op.extract (Operand.tmp 24) 0, type := t10, pos := q10, after := #[{ on := 9, ground := Ground.data }], guard := none },
    { dst := some 35, op := Op.extract (Operand.tmp 24) 1, type := t11, pos := q11, after := #[{ on := 9, ground := Ground.data }, { on := 15, ground := Ground.gcOnly Departure.lateStores }], guard := none },
    { dst := some 36, op := Op.extract (Operand.tmp 24) 2, type := t12, pos := q12, after := #[{ on := 9, ground := Ground.data }, { on := 16, ground := Ground.gcOnly Departure.lateStores }], guard := none },
    { dst := some 6, op := Op.alloc 58, type := t13, pos := q13, after := #[], guard := none },
    { dst := some 7, op := Op.alloc 58, type := t14, pos := q14, after := #[], guard := none },
    { dst := some 5, op := Op.assign (Operand.tmp 34), type := t15, pos := q15, after := #[{ on := 10, ground := Ground.data }, { on := 8, ground := Ground.chain }, { on := 0, ground := Ground.phase }, { on := 1, ground := Ground.phase }, { on := 2, ground := Ground.phase }, { on := 3, ground := Ground.phase }, { on := 4, ground := Ground.phase }, { on := 5, ground := Ground.phase }, { on := 6, ground := Ground.phase }, { on := 7, ground := Ground.phase }, { on := 8, ground := Ground.phase }, { on := 9, ground := Ground.phase }, { on := 10, ground := Ground.phase }, { on := 11, ground := Ground.textOnly Departure.lateStores }, { on := 12, ground := Ground.textOnly Departure.lateStores }, { on := 13, ground := Ground.phase }, { on := 14, ground := Ground.phase }], guard := none },
    { dst := none, op := Op.store 58 (Operand.tmp 6) (Operand.tmp 35), type := t16, pos := q16, after := #[{ on := 13, ground := Ground.data }, { on := 11, ground := Ground.data }, { on := 15, ground := Ground.chain }, { on := 0, ground := Ground.phase }, { on := 1, ground := Ground.phase }, { on := 2, ground := Ground.phase }, { on := 3, ground := Ground.phase }, { on := 4, ground := Ground.phase }, { on := 5, ground := Ground.phase }, { on := 6, ground := Ground.phase }, { on := 7, ground := Ground.phase }, { on := 8, ground := Ground.phase }, { on := 9, ground := Ground.phase }, { on := 10, ground := Ground.phase }, { on := 11, ground := Ground.phase }, { on := 12, ground := Ground.textOnly Departure.lateStores }, { on := 13, ground := Ground.phase }, { on := 14, ground := Ground.phase }, { on := 15, ground := Ground.phase }], guard := none },
    { dst := none, op := Op.store 58 (Operand.tmp 7) (Operand.tmp 36), type := t17, pos := q17, after := #[{ on := 14, ground := Ground.data }, { on := 12, ground := Ground.data }, { on := 16, ground := Ground.chain }, { on := 0, ground := Ground.phase }, { on := 1, ground := Ground.phase }, { on := 2, ground := Ground.phase }, { on := 3, ground := Ground.phase }, { on := 4, ground := Ground.phase }, { on := 5, ground := Ground.phase }, { on := 6, ground := Ground.phase }, { on := 7, ground := Ground.phase }, { on := 8, ground := Ground.phase }, { on := 9, ground := Ground.phase }, { on := 10, ground := Ground.phase }, { on := 11, ground := Ground.phase }, { on := 12, ground := Ground.phase }, { on := 13, ground := Ground.phase }, { on := 14, ground := Ground.phase }, { on := 15, ground := Ground.phase }, { on := 16, ground := Ground.phase }], guard := none }] true).wp Try.prog Q a0 w0 := by
  have hS : distS [some 25, some 26, some 27, some 28, some 29, some 30, some 31, some 32, some 33, some 24, some 34, some 35, some 36, some 6, some 7, some 5, none, none] = true := rfl
  refine wp_region_q (by kernel_rfl) w0.heap.size [some 25, some 26, some 27, some 28, some 29, some 30, some 31, some 32, some 33, some 24, some 34, some 35, some 36, some 6, some 7, some 5, none, none] (VqtSr A off n cap ci ck xa xb xc xd ya yb yc yd w0.heap.size) rfl ?_ ?_
  · intro Q lq aq W iq oq hJ hl ho hall
    have hJ2 := hJ
    obtain ⟨z1, z2, z3, z4, z5, z6, z7⟩ := hJ
    have g0 : aq.tmps.getD 0 undef = .slice (some ⟨A, off, none⟩) n cap := by rw [Array.getD_eq_getD_getElem?, z4 0 (by decide), h0]; rfl
    have g3 : aq.tmps.getD 3 undef = .int .i64 (ci : Nat) := by rw [Array.getD_eq_getD_getElem?, z4 3 (by decide), h3]; rfl
    have g4 : aq.tmps.getD 4 undef = .int .i64 (ck : Nat) := by rw [Array.getD_eq_getD_getElem?, z4 4 (by decide), h4]; rfl
    have c0 : W.cell? ⟨A, off + ci * 4, none⟩ = some (.int .i64 xa) := (z5.cell l0).trans k0
    have c1 : W.cell? ⟨A, off + ci * 4 + 1, none⟩ = some (.int .i64 xb) := (z5.cell l1).trans k1
    have c2 : W.cell? ⟨A, off + ci * 4 + 2, none⟩ = some (.int .i64 xc) := (z5.cell l2).trans k2
    have c3 : W.cell? ⟨A, off + ci * 4 + 3, none⟩ = some (.int .i64 xd) := (z5.cell l3).trans k3
    have c4 : W.cell? ⟨A, off + ck * 4, none⟩ = some (.int .i64 ya) := (z5.cell l4).trans k4
    have c5 : W.cell? ⟨A, off + ck * 4 + 1, none⟩ = some (.int .i64 yb) := (z5.cell l5).trans k5
    have c6 : W.cell? ⟨A, off + ck * 4 + 2, none⟩ = some (.int .i64 yc) := (z5.cell l6).trans k6
    have c7 : W.cell? ⟨A, off + ck * 4 + 3, none⟩ = some (.int .i64 yd) := (z5.cell l7).trans k7
    match iq, ho with
    | 0, ho =>
      cases ho
      refine wpOp_of rfl rfl ?_
      have hK := fun (v : Value) (W2 : World) hW hT hv => hJ2.put hS 0 25 rfl (by omega) (W' := W2) hW hT v hv
      clear ho hall hl hQ
      generalize InvQ _ _ _ w0 a0 (lq.setIfInBounds 0 true) = K at hK ⊢
      clear hJ2 hS z1 z2 z3 z4 z6 z7
      go_simp
      exact hK _ _ z5 (fun _ _ h => h) rfl
    | 1, ho =>
      cases ho
      refine wpOp_of rfl rfl ?_
      have hK := fun (v : Value) (W2 : World) hW hT hv => hJ2.put hS 1 26 rfl (by omega) (W' := W2) hW hT v hv
      clear ho hall hl hQ
      generalize InvQ _ _ _ w0 a0 (lq.setIfInBounds 1 true) = K at hK ⊢
      clear hJ2 hS z1 z2 z3 z4 z6 z7
      go_simp
      exact hK _ _ z5 (fun _ _ h => h) rfl
    | 2, ho =>
      cases ho
      refine wpOp_of rfl rfl ?_
      have f0 : (aq.tmps.getD 25 undef) = .slice (some ⟨A, off, none⟩) n cap := z6 0 25 (hall { on := 0, ground := Ground.data } (by simp) rfl) rfl
      have f1 : (aq.tmps.getD 26 undef) = .int .i64 (ci : Nat) := z6 1 26 (hall { on := 1, ground := Ground.data } (by simp) rfl) rfl
      have hK := fun (v : Value) (W2 : World) hW hT hv => hJ2.put hS 2 27 rfl (by omega) (W' := W2) hW hT v hv
      clear ho hall hl hQ
      generalize InvQ _ _ _ w0 a0 (lq.setIfInBounds 2 true) = K at hK ⊢
      clear hJ2 hS z1 z2 z3 z4 z6 z7
      go_simp
      exact hK _ _ z5 (fun _ _ h => h) rfl
    | 3, ho =>
      cases ho
      refine wpOp_of rfl rfl ?_
      have f2 : (aq.tmps.getD 27 undef) = .pointer (some ⟨A, off + ci * 4, none⟩) := z6 2 27 (hall { on := 2, ground := Ground.data } (by simp) rfl) rfl
      have hK := fun (v : Value) (W2 : World) hW hT hv => hJ2.put hS 3 28 rfl (by omega) (W' := W2) hW hT v hv
      clear ho hall hl hQ
      generalize InvQ _ _ _ w0 a0 (lq.setIfInBounds 3 true) = K at hK ⊢
      clear hJ2 hS z1 z2 z3 z4 z6 z7
      go_simp
      exact hK _ _ z5 (fun _ _ h => h) rfl
    | 4, ho =>
      cases ho
      refine wpOp_of rfl rfl ?_
      have hK := fun (v : Value) (W2 : World) hW hT hv => hJ2.put hS 4 29 rfl (by omega) (W' := W2) hW hT v hv
      clear ho hall hl hQ
      generalize InvQ _ _ _ w0 a0 (lq.setIfInBounds 4 true) = K at hK ⊢
      clear hJ2 hS z1 z2 z3 z4 z6 z7
      go_simp
      exact hK _ _ z5 (fun _ _ h => h) rfl
    | 5, ho =>
      cases ho
      refine wpOp_of rfl rfl ?_
      have hK := fun (v : Value) (W2 : World) hW hT hv => hJ2.put hS 5 30 rfl (by omega) (W' := W2) hW hT v hv
      clear ho hall hl hQ
      generalize InvQ _ _ _ w0 a0 (lq.setIfInBounds 5 true) = K at hK ⊢
      clear hJ2 hS z1 z2 z3 z4 z6 z7
      go_simp
      exact hK _ _ z5 (fun _ _ h => h) rfl
    | 6, ho =>
      cases ho
      refine wpOp_of rfl rfl ?_
      have f4 : (aq.tmps.getD 29 undef) = .slice (some ⟨A, off, none⟩) n cap := z6 4 29 (hall { on := 4, ground := Ground.data } (by simp) rfl) rfl
      have f5 : (aq.tmps.getD 30 undef) = .int .i64 (ck : Nat) := z6 5 30 (hall { on := 5, ground := Ground.data } (by simp) rfl) rfl
      have hK := fun (v : Value) (W2 : World) hW hT hv => hJ2.put hS 6 31 rfl (by omega) (W' := W2) hW hT v hv
      clear ho hall hl hQ
      generalize InvQ _ _ _ w0 a0 (lq.setIfInBounds 6 true) = K at hK ⊢
      clear hJ2 hS z1 z2 z3 z4 z6 z7
      go_simp
      exact hK _ _ z5 (fun _ _ h => h) rfl
    | 7, ho =>
      cases ho
      refine wpOp_of rfl rfl ?_
      have f6 : (aq.tmps.getD 31 undef) = .pointer (some ⟨A, off + ck * 4, none⟩) := z6 6 31 (hall { on := 6, ground := Ground.data } (by simp) rfl) rfl
      have hK := fun (v : Value) (W2 : World) hW hT hv => hJ2.put hS 7 32 rfl (by omega) (W' := W2) hW hT v hv
      clear ho hall hl hQ
      generalize InvQ _ _ _ w0 a0 (lq.setIfInBounds 7 true) = K at hK ⊢
      clear hJ2 hS z1 z2 z3 z4 z6 z7
      go_simp
      exact hK _ _ z5 (fun _ _ h => h) rfl
    | 8, ho =>
      cases ho
      refine wpOp_of rfl rfl ?_
      have f3 : (aq.tmps.getD 28 undef) = .agg #[.int .i64 xa, .int .i64 xb, .int .i64 xc, .int .i64 xd] := z6 3 28 (hall { on := 3, ground := Ground.data } (by simp) rfl) rfl
      have f7 : (aq.tmps.getD 32 undef) = .agg #[.int .i64 ya, .int .i64 yb, .int .i64 yc, .int .i64 yd] := z6 7 32 (hall { on := 7, ground := Ground.data } (by simp) rfl) rfl
      have hK := fun (v : Value) (W2 : World) hW hT hv => hJ2.put hS 8 33 rfl (by omega) (W' := W2) hW hT v hv
      clear ho hall hl hQ
      generalize InvQ _ _ _ w0 a0 (lq.setIfInBounds 8 true) = K at hK ⊢
      clear hJ2 hS z1 z2 z3 z4 z6 z7
      go_simp
      refine (l4Meet_any xa xb xc xd ya yb yc yd i1 i2 i3 i4 j1 j2 j3 j4 W).mono ?_
      rintro e v3 hmt
      obtain ⟨⟨f1, f2, f3, g1, g2, g3, k1, k2, k3, l1, l2, l3, m1, m2, m3, x1, x2, x3, y1, y2, y3, z1, z2, z3, rfl⟩, hBv⟩ := mtP_kind hmt
      exact hK _ _ (z5.trans (hBv.mono z5.size)) (fun j v h => h.mono fun g k hg => hg.step hBv) ⟨_, _, ⟨_, _, _, _, _, _, _, _, _, _, _, _, rfl⟩, ⟨_, _, _, _, _, _, _, _, _, _, _, _, rfl⟩, rfl⟩
    | 9, ho =>
      cases ho
      refine wpOp_of rfl rfl ?_
      have f8 : ∃ x y, Lp6 x ∧ Lp6 y ∧ (aq.tmps.getD 33 undef) = .tuple #[.int .i64 (kndZ xa xb xc xd ya yb yc yd), x, y] := z6 8 33 (hall { on := 8, ground := Ground.data } (by simp) rfl) rfl
      obtain ⟨x, y, hx, hy, he⟩ := f8
      have hK := fun (v : Value) (W2 : World) hW hT hv => hJ2.put hS 9 24 rfl (by omega) (W' := W2) hW hT v hv
      clear ho hall hl hQ
      generalize InvQ _ _ _ w0 a0 (lq.setIfInBounds 9 true) = K at hK ⊢
      clear hJ2 hS z1 z2 z3 z4 z6 z7
      go_simp
      exact hK _ _ z5 (fun _ _ h => h) ⟨x, y, hx, hy, rfl⟩
    | 10, ho =>
      cases ho
      refine wpOp_of rfl rfl ?_
      have f9 : ∃ x y, Lp6 x ∧ Lp6 y ∧ (aq.tmps.getD 24 undef) = .tuple #[.int .i64 (kndZ xa xb xc xd ya yb yc yd), x, y] := z6 9 24 (hall { on := 9, ground := Ground.data } (by simp) rfl) rfl
      obtain ⟨x, y, hx, hy, he⟩ := f9
      have hK := fun (v : Value) (W2 : World) hW hT hv => hJ2.put hS 10 34 rfl (by omega) (W' := W2) hW hT v hv
      clear ho hall hl hQ
      generalize InvQ _ _ _ w0 a0 (lq.setIfInBounds 10 true) = K at hK ⊢
      clear hJ2 hS z1 z2 z3 z4 z6 z7
      go_simp
      exact hK _ _ z5 (fun _ _ h => h) rfl
    | 11, ho =>
      cases ho
      refine wpOp_of rfl rfl ?_
      have f9 : ∃ x y, Lp6 x ∧ Lp6 y ∧ (aq.tmps.getD 24 undef) = .tuple #[.int .i64 (kndZ xa xb xc xd ya yb yc yd), x, y] := z6 9 24 (hall { on := 9, ground := Ground.data } (by simp) rfl) rfl
      obtain ⟨x, y, hx, hy, he⟩ := f9
      have hK := fun (v : Value) (W2 : World) hW hT hv => hJ2.put hS 11 35 rfl (by omega) (W' := W2) hW hT v hv
      clear ho hall hl hQ
      generalize InvQ _ _ _ w0 a0 (lq.setIfInBounds 11 true) = K at hK ⊢
      clear hJ2 hS z1 z2 z3 z4 z6 z7
      go_simp
      exact hK _ _ z5 (fun _ _ h => h) hx
    | 12, ho =>
      cases ho
      refine wpOp_of rfl rfl ?_
      have f9 : ∃ x y, Lp6 x ∧ Lp6 y ∧ (aq.tmps.getD 24 undef) = .tuple #[.int .i64 (kndZ xa xb xc xd ya yb yc yd), x, y] := z6 9 24 (hall { on := 9, ground := Ground.data } (by simp) rfl) rfl
      obtain ⟨x, y, hx, hy, he⟩ := f9
      have hK := fun (v : Value) (W2 : World) hW hT hv => hJ2.put hS 12 36 rfl (by omega) (W' := W2) hW hT v hv
      clear ho hall hl hQ
      generalize InvQ _ _ _ w0 a0 (lq.setIfInBounds 12 true) = K at hK ⊢
      clear hJ2 hS z1 z2 z3 z4 z6 z7
      go_simp
      exact hK _ _ z5 (fun _ _ h => h) hy
    | 13, ho =>
      cases ho
      refine wpOp_of rfl rfl ?_
      have hK := fun (v : Value) (W2 : World) hW hT hv => hJ2.put hS 13 6 rfl (by omega) (W' := W2) hW hT v hv
      clear ho hall hl hQ
      generalize InvQ _ _ _ w0 a0 (lq.setIfInBounds 13 true) = K at hK ⊢
      clear hJ2 hS z1 z2 z3 z4 z6 z7
      go_simp
      exact hK _ _ (z5.alloc z5.size _) (fun j v h => h.mono fun g k hg => hg.step ((Below.refl _ _).alloc (Nat.le_refl _) _)) ⟨_, rfl, z5.size, _, rfl, Blk.new W [.bool false, .slice none 0 0, .bool false, .slice none 0 0, .bool false, .slice none 0 0] 58 rfl⟩
    | 14, ho =>
      cases ho
      refine wpOp_of rfl rfl ?_
      have hK := fun (v : Value) (W2 : World) hW hT hv => hJ2.put hS 14 7 rfl (by omega) (W' := W2) hW hT v hv
      clear ho hall hl hQ
      generalize InvQ _ _ _ w0 a0 (lq.setIfInBounds 14 true) = K at hK ⊢
      clear hJ2 hS z1 z2 z3 z4 z6 z7
      go_simp
      exact hK _ _ (z5.alloc z5.size _) (fun j v h => h.mono fun g k hg => hg.step ((Below.refl _ _).alloc (Nat.le_refl _) _)) ⟨_, rfl, z5.size, _, rfl, Blk.new W [.bool false, .slice none 0 0, .bool false, .slice none 0 0, .bool false, .slice none 0 0] 58 rfl⟩
    | 15, ho =>
      cases ho
      refine wpOp_of rfl rfl ?_
      have f10 : (aq.tmps.getD 34 undef) = .int .i64 (kndZ xa xb xc xd ya yb yc yd) := z6 10 34 (hall { on := 10, ground := Ground.data } (by simp) rfl) rfl
      have hK := fun (v : Value) (W2 : World) hW hT hv => hJ2.put hS 15 5 rfl (by omega) (W' := W2) hW hT v hv
      clear ho hall hl hQ
      generalize InvQ _ _ _ w0 a0 (lq.setIfInBounds 15 true) = K at hK ⊢
      clear hJ2 hS z1 z2 z3 z4 z6 z7
      go_simp
      exact hK _ _ z5 (fun _ _ h => h) rfl
    | 16, ho =>
      cases ho
      refine wpOp_of rfl rfl ?_
      have f13 : ∃ g, (aq.tmps.getD 6 undef) = .pointer (some ⟨g, 0, none⟩) ∧ w0.heap.size ≤ g ∧ BlkN W g 6 := z6 13 6 (hall { on := 13, ground := Ground.data } (by simp) rfl) rfl
      obtain ⟨g, hg, hgB, vs, hvs, G⟩ := f13
      have f11 : Lp6 (aq.tmps.getD 35 undef) := z6 11 35 (hall { on := 11, ground := Ground.data } (by simp) rfl) rfl
      obtain ⟨s1, s2, s3, k1, k2, k3, m1, m2, m3, x1, x2, x3, hx⟩ := f11
      have hK := fun (W2 : World) hW hT hv => hJ2.world 16 rfl (W' := W2) hW hT hv
      clear ho hall hl hQ
      generalize InvQ _ _ _ w0 a0 (lq.setIfInBounds 16 true) = K at hK ⊢
      clear hJ2 hS z1 z2 z3 z4 z6 z7
      obtain ⟨v0, v1, v2, v3, v4, v5, rfl⟩ : ∃ v0 v1 v2 v3 v4 v5, vs = [v0, v1, v2, v3, v4, v5] := by match vs, hvs with | [v0, v1, v2, v3, v4, v5], _ => exact ⟨_, _, _, _, _, _, rfl⟩
      have b0 := G.c 0 rfl; have r0 := G.f 0 rfl
      have b1 := G.c 1 rfl; have r1 := G.f 1 rfl
      have b2 := G.c 2 rfl; have r2 := G.f 2 rfl
      have b3 := G.c 3 rfl; have r3 := G.f 3 rfl
      have b4 := G.c 4 rfl; have r4 := G.f 4 rfl
      have b5 := G.c 5 rfl; have r5 := G.f 5 rfl
      have hlt := G.lt
      clear G
      go_simp
      exact hK _ (below_set6 z5 hgB) (fun j v h => h.mono fun g2 k hg => ((((((hg.set _ 0 _).set _ 1 _).set _ 2 _).set _ 3 _).set _ 4 _).set _ 5 _)) trivial
    | 17, ho =>
      cases ho
      refine wpOp_of rfl rfl ?_
      have f14 : ∃ g, (aq.tmps.getD 7 undef) = .pointer (some ⟨g, 0, none⟩) ∧ w0.heap.size ≤ g ∧ BlkN W g 6 := z6 14 7 (hall { on := 14, ground := Ground.data } (by simp) rfl) rfl
      obtain ⟨g, hg, hgB, vs, hvs, G⟩ := f14
      have f12 : Lp6 (aq.tmps.getD 36 undef) := z6 12 36 (hall { on := 12, ground := Ground.data } (by simp) rfl) rfl
      obtain ⟨s1, s2, s3, k1, k2, k3, m1, m2, m3, x1, x2, x3, hx⟩ := f12
      have hK := fun (W2 : World) hW hT hv => hJ2.world 17 rfl (W' := W2) hW hT hv
      clear ho hall hl hQ
      generalize InvQ _ _ _ w0 a0 (lq.setIfInBounds 17 true) = K at hK ⊢
      clear hJ2 hS z1 z2 z3 z4 z6 z7
      obtain ⟨v0, v1, v2, v3, v4, v5, rfl⟩ : ∃ v0 v1 v2 v3 v4 v5, vs = [v0, v1, v2, v3, v4, v5] := by match vs, hvs with | [v0, v1, v2, v3, v4, v5], _ => exact ⟨_, _, _, _, _, _, rfl⟩
      have b0 := G.c 0 rfl; have r0 := G.f 0 rfl
      have b1 := G.c 1 rfl; have r1 := G.f 1 rfl
      have b2 := G.c 2 rfl; have r2 := G.f 2 rfl
      have b3 := G.c 3 rfl; have r3 := G.f 3 rfl
      have b4 := G.c 4 rfl; have r4 := G.f 4 rfl
      have b5 := G.c 5 rfl; have r5 := G.f 5 rfl
      have hlt := G.lt
      clear G
      go_simp
      exact hK _ (below_set6 z5 hgB) (fun j v h => h.mono fun g2 k hg => ((((((hg.set _ 0 _).set _ 1 _).set _ 2 _).set _ 3 _).set _ 4 _).set _ 5 _)) trivial
    | iq + 18, ho => simp at ho
  · intro lq aq W hJ hr
    obtain ⟨z1, z2, z3, z4, z5, z6, z7⟩ := hJ
    have hl := listed_of hr [0, 1, 2, 3, 4, 5, 6, 7, 8, 9, 10, 13, 14, 15] [] (by simp) (by kernel_rfl) (by rw [z1]; decide)
    exact hQ aq W z2 z3 (fun e he => z4 e (by simpa using he)) (z6 15 5 (hl 15 (by simp)) rfl) z5
/-- Two segments of a row are quiet. -/
def qtS (x : Nat → Int) (i k : Nat) : Prop := qtP (x (i * 4)) (x (i * 4 + 1)) (x (i * 4 + 2)) (x (i * 4 + 3)) (x (k * 4)) (x (k * 4 + 1)) (x (k * 4 + 2)) (x (k * 4 + 3))
/-- All segments of a row are quiet, by twos. -/
def qtA (n : Nat) (x : Nat → Int) : Prop := sgI n x = 0 ∧ ∀ i, i < n → ∀ k, k < i → qtS x i k
theorem eqSpq (x y u v : Int) (w : World) : (Op.equalIn 10000 62 (.agg #[.int .i64 x, .int .i64 y]) (.agg #[.int .i64 u, .int .i64 v])).run Try.prog w = .ok (decide (x = u) && decide (y = v)) w := eqSp x y u v w
set_option maxRecDepth 100000 in
set_option maxHeartbeats 8000000 in
theorem specQuiet_any (ao : Option Addr) (n cap : Nat) (x : Nat → Int) (r : Bool) (hr : r = true ↔ qtA n x) (w : World) (hS : SegIn w ao n x) : Calls Try.prog 15 #[.slice ao n cap] w (VP (.bool r) w) := by
  have HS : Hid (SegIn w ao n x) := hS
  have C1 := l7Ok_any ao n cap x w hS
  clear hS
  go_enter Try.func15, Try.ntmps15
  go_wp2_with fail
  refine C1.mono ?_
  rintro e w1 ⟨rfl, hB⟩
  clear C1
  by_cases hsg : sgI n x = 0
  · rw [decide_eq_true hsg]
    obtain ⟨h40, hall⟩ := sgI_zero hsg
    have HR : Hid (r = true ↔ ∀ i, i < n → ∀ k, k < i → qtS x i k) := by
      show _ ↔ _
      rw [hr]
      unfold qtA
      simp only [hsg, true_and]
    have HA : Hid (∀ i, i < n → segOk (x (i * 4)) (x (i * 4 + 1)) (x (i * 4 + 2)) (x (i * 4 + 3)) = true) := hall
    have hnI : (n : Int) ≤ 40 := by omega
    have hsz := hB.size
    clear hall hsg hr
    go_wp2_with fail
    go_loopw [3] (fun i wr => ∃ c : Nat, c ≤ n ∧ i = .int .i64 c ∧ (∀ i, i < c → ∀ k, k < i → qtS x i k) ∧ Below w.heap.size w wr) (fun i _ => n - (intOf i).toNat)
    case atStart => exact ⟨0, by omega, rfl, fun i hi => by omega, hB⟩
    case round =>
      clear hB hsz
      obtain ⟨c, hc, rfl, hq, hB⟩ := hrel
      have HQ : Hid (∀ i, i < c → ∀ k, k < i → qtS x i k) := hq
      clear hq
      by_cases hcn : c < n
      · have hcI : (c : Int) < n := by omega
        have HOB : Hid (Below w.heap.size w wr) := hB
        clear hB
        go_wp2_with fail
        go_loopw [4] (fun i wr => ∃ d : Nat, d ≤ c ∧ i = .int .i64 d ∧ (∀ k, k < d → qtS x c k) ∧ Below w.heap.size w wr) (fun i _ => c - (intOf i).toNat)
        case atStart => exact ⟨0, by omega, by go_num, fun k hk => by omega, HOB.out⟩
        case round =>
          clear HOB
          obtain ⟨d, hd, rfl, hq, hB⟩ := hrel
          have HQ2 : Hid (∀ k, k < d → qtS x c k) := hq
          clear hq
          by_cases hdn : d < c
          · have hdc : (d : Int) < c := by omega
            have hdI : (d : Int) < n := by omega
            obtain ⟨A, off, rfl, hA, hcell⟩ := HS.out c hcn
            obtain ⟨A', off', e, _, hcell2⟩ := HS.out d (by omega)
            cases e
            have e0 : ∀ o, wr.cell? ⟨A, o, none⟩ = w.cell? ⟨A, o, none⟩ := fun o => hB.cell (p := ⟨A, o, none⟩) hA
            have q0 := (e0 _).trans (hcell 0 (by omega)); have q1 := (e0 _).trans (hcell 1 (by omega)); have q2 := (e0 _).trans (hcell 2 (by omega)); have q3 := (e0 _).trans (hcell 3 (by omega))
            have p0 := (e0 _).trans (hcell2 0 (by omega)); have p1 := (e0 _).trans (hcell2 1 (by omega)); have p2 := (e0 _).trans (hcell2 2 (by omega)); have p3 := (e0 _).trans (hcell2 3 (by omega))
            simp only [Nat.add_zero] at q0 p0
            have hA' : A < wr.heap.size := Nat.lt_of_lt_of_le hA hB.size
            obtain ⟨i1, i2, i3, i4⟩ := in1_segS (HA.out c hcn)
            obtain ⟨j1, j2, j3, j4⟩ := in1_segS (HA.out d (by omega))
            have HD : Hid (qtS x c d ↔ qtP (x (c * 4)) (x (c * 4 + 1)) (x (c * 4 + 2)) (x (c * 4 + 3)) (x (d * 4)) (x (d * 4 + 1)) (x (d * 4 + 2)) (x (d * 4 + 3))) := Iff.rfl
            go_upto_region 9 with fail
            refine qtSr (A := A) (off := off) (n := n) (cap := cap) (ci := c) (ck := d) hcI hdI i1 i2 i3 i4 j1 j2 j3 j4 rfl rfl rfl q0 hA' q1 hA' q2 hA' q3 hA' p0 hA' p1 hA' p2 hA' p3 hA' rfl ?_
            rintro ⟨tm, df⟩ w3 hz hdf hoff hV hB1
            simp only at hz hdf hoff hV
            subst hdf
            have hV2 : tm.getD 5 undef = .int .i64 (kndZ (x (c * 4)) (x (c * 4 + 1)) (x (c * 4 + 2)) (x (c * 4 + 3)) (x (d * 4)) (x (d * 4 + 1)) (x (d * 4 + 2)) (x (d * 4 + 3))) := hV
            clear hV
            have htm := tmps_fold [25, 26, 27, 28, 29, 30, 31, 32, 33, 24, 34, 35, 36, 6, 7, 5] tm _ hz hoff
            simp only [List.foldl, List.setIfInBounds_toArray, List.set_cons_zero, List.set_cons_succ, hV2] at htm
            clear hz hoff
            generalize tm.getD 25 undef = tz0, tm.getD 26 undef = tz1, tm.getD 27 undef = tz2, tm.getD 28 undef = tz3, tm.getD 29 undef = tz4, tm.getD 30 undef = tz5, tm.getD 31 undef = tz6, tm.getD 32 undef = tz7, tm.getD 33 undef = tz8, tm.getD 24 undef = tz9, tm.getD 34 undef = tz10, tm.getD 35 undef = tz11, tm.getD 36 undef = tz12, tm.getD 6 undef = tz13, tm.getD 7 undef = tz14 at htm
            clear hV2
            subst htm
            have hs3 := hB1.size
            have e1 : ∀ o, w3.cell? ⟨A, o, none⟩ = wr.cell? ⟨A, o, none⟩ := fun o => hB1.cell (p := ⟨A, o, none⟩) hA'
            have HBN := hB.trans (hB1.mono hB.size)
            replace q0 := (e1 _).trans q0; replace q1 := (e1 _).trans q1; replace q2 := (e1 _).trans q2; replace q3 := (e1 _).trans q3; replace p0 := (e1 _).trans p0; replace p1 := (e1 _).trans p1; replace p2 := (e1 _).trans p2; replace p3 := (e1 _).trans p3
            have hA3 : A < w3.heap.size := Nat.lt_of_lt_of_le hA' hs3
            clear hB1 hB hcell hcell2 e0 e1 hA hA' i1 i2 i3 i4 j1 j2 j3 j4
            obtain ⟨xa, gxa⟩ : ∃ z, z = x (c * 4) := ⟨_, rfl⟩
            obtain ⟨xb, gxb⟩ : ∃ z, z = x (c * 4 + 1) := ⟨_, rfl⟩
            obtain ⟨xc, gxc⟩ : ∃ z, z = x (c * 4 + 2) := ⟨_, rfl⟩
            obtain ⟨xd, gxd⟩ : ∃ z, z = x (c * 4 + 3) := ⟨_, rfl⟩
            obtain ⟨ya, gya⟩ : ∃ z, z = x (d * 4) := ⟨_, rfl⟩
            obtain ⟨yb, gyb⟩ : ∃ z, z = x (d * 4 + 1) := ⟨_, rfl⟩
            obtain ⟨yc, gyc⟩ : ∃ z, z = x (d * 4 + 2) := ⟨_, rfl⟩
            obtain ⟨yd, gyd⟩ : ∃ z, z = x (d * 4 + 3) := ⟨_, rfl⟩
            rw [← gxa, ← gxb, ← gxc, ← gxd, ← gya, ← gyb, ← gyc, ← gyd] at HD ⊢
            rw [← gxa] at q0; rw [← gxb] at q1; rw [← gxc] at q2; rw [← gxd] at q3; rw [← gya] at p0; rw [← gyb] at p1; rw [← gyc] at p2; rw [← gyd] at p3
            clear gxa gxb gxc gxd gya gyb gyc gyd
            have HY := HD.out
            clear HD
            have hXA : Blk ((w3.alloc (.cells #[.int .i64 xa, .int .i64 xb, .int .i64 xc, .int .i64 xd] 64)).alloc (.cells #[.int .i64 ya, .int .i64 yb, .int .i64 yc, .int .i64 yd] 64)) w3.heap.size [.int .i64 xa, .int .i64 xb, .int .i64 xc, .int .i64 xd] := (Blk.new w3 [.int .i64 xa, .int .i64 xb, .int .i64 xc, .int .i64 xd] 64 rfl).alloc _
            rcases knd_in xa xb xc xd ya yb yc yd with hk | hk | hk
            · have HN : Hid (qtS x c d) := HY.2 (.inl hk)
              rw [hk]
              clear hk HY hXA
              go_wp2
              go_roundw
              case rel => exact ⟨d + 1, by omega, by go_num, fun k hk => by
                rcases Nat.lt_or_ge k d with h | h
                · exact HQ2.out k h
                · rw [show k = d by omega]; exact HN.out, (HBN.alloc HBN.size _).alloc (Nat.le_trans HBN.size (by simp)) _⟩
              case measure => simp [intOf]; omega
            · by_cases hsh : shP xa xb xc xd ya yb yc yd
              · have HN : Hid (qtS x c d) := HY.2 (.inr ⟨hk, hsh⟩)
                have HSH : Hid (shP xa xb xc xd ya yb yc yd) := hsh
                rw [hk]
                clear hk HY hXA hsh
                obtain ⟨b0, hb0⟩ : ∃ b0 : Bool, b0 = (decide (xa = ya) && decide (xb = yb)) := ⟨_, rfl⟩
                obtain ⟨b1, hb1⟩ : ∃ b1 : Bool, b1 = (decide (xa = yc) && decide (xb = yd)) := ⟨_, rfl⟩
                obtain ⟨b2, hb2⟩ : ∃ b2 : Bool, b2 = (decide (xc = ya) && decide (xd = yb)) := ⟨_, rfl⟩
                obtain ⟨b3, hb3⟩ : ∃ b3 : Bool, b3 = (decide (xc = yc) && decide (xd = yd)) := ⟨_, rfl⟩
                have E0 : ∀ w, (Op.equalIn 10000 62 (.agg #[.int .i64 xa, .int .i64 xb]) (.agg #[.int .i64 ya, .int .i64 yb])).run Try.prog w = .ok b0 w := fun w => by rw [hb0]; exact eqSpq _ _ _ _ w
                have E1 : ∀ w, (Op.equalIn 10000 62 (.agg #[.int .i64 xa, .int .i64 xb]) (.agg #[.int .i64 yc, .int .i64 yd])).run Try.prog w = .ok b1 w := fun w => by rw [hb1]; exact eqSpq _ _ _ _ w
                have E2 : ∀ w, (Op.equalIn 10000 62 (.agg #[.int .i64 xc, .int .i64 xd]) (.agg #[.int .i64 ya, .int .i64 yb])).run Try.prog w = .ok b2 w := fun w => by rw [hb2]; exact eqSpq _ _ _ _ w
                have E3 : ∀ w, (Op.equalIn 10000 62 (.agg #[.int .i64 xc, .int .i64 xd]) (.agg #[.int .i64 yc, .int .i64 yd])).run Try.prog w = .ok b3 w := fun w => by rw [hb3]; exact eqSpq _ _ _ _ w
                have HO : (b0 || b1 || b2 || b3) = true := by
                  have := HSH.out
                  unfold shP at this
                  rw [hb0, hb1, hb2, hb3]
                  simp only [Bool.or_eq_true, Bool.and_eq_true, decide_eq_true_eq]
                  omega
                clear hb0 hb1 hb2 hb3 HSH
                cases b0 with
                | true =>
                  clear HO
                  go_wp2
                  go_roundw
                  case rel => exact ⟨d + 1, by omega, by go_num, fun k hk => by
                    rcases Nat.lt_or_ge k d with h | h
                    · exact HQ2.out k h
                    · rw [show k = d by omega]; exact HN.out, (HBN.alloc HBN.size _).alloc (Nat.le_trans HBN.size (by simp)) _⟩
                  case measure => simp [intOf]; omega
                | false =>
                  cases b1 with
                  | true =>
                    clear HO
                    go_wp2
                    go_roundw
                    case rel => exact ⟨d + 1, by omega, by go_num, fun k hk => by
                      rcases Nat.lt_or_ge k d with h | h
                      · exact HQ2.out k h
                      · rw [show k = d by omega]; exact HN.out, (HBN.alloc HBN.size _).alloc (Nat.le_trans HBN.size (by simp)) _⟩
                    case measure => simp [intOf]; omega
                  | false =>
                    cases b2 with
                    | true =>
                      clear HO
                      go_wp2
                      go_roundw
                      case rel => exact ⟨d + 1, by omega, by go_num, fun k hk => by
                        rcases Nat.lt_or_ge k d with h | h
                        · exact HQ2.out k h
                        · rw [show k = d by omega]; exact HN.out, (HBN.alloc HBN.size _).alloc (Nat.le_trans HBN.size (by simp)) _⟩
                      case measure => simp [intOf]; omega
                    | false =>
                      cases b3 with
                      | true =>
                        clear HO
                        go_wp2
                        go_roundw
                        case rel => exact ⟨d + 1, by omega, by go_num, fun k hk => by
                          rcases Nat.lt_or_ge k d with h | h
                          · exact HQ2.out k h
                          · rw [show k = d by omega]; exact HN.out, (HBN.alloc HBN.size _).alloc (Nat.le_trans HBN.size (by simp)) _⟩
                        case measure => simp [intOf]; omega
                      | false =>
                        simp at HO
              · have HN : Hid (¬ qtS x c d) := fun h => by
                  rcases HY.1 h with h | h
                  · omega
                  · exact hsh h.2
                rw [hk]
                clear hk HY hXA
                have E0 : ∀ w, (Op.equalIn 10000 62 (.agg #[.int .i64 xa, .int .i64 xb]) (.agg #[.int .i64 ya, .int .i64 yb])).run Try.prog w = .ok false w := fun w => by rw [eqSpq]; congr 1; have := hsh; unfold shP at this; rw [Bool.and_eq_false_iff, decide_eq_false_iff_not, decide_eq_false_iff_not]; omega
                have E1 : ∀ w, (Op.equalIn 10000 62 (.agg #[.int .i64 xa, .int .i64 xb]) (.agg #[.int .i64 yc, .int .i64 yd])).run Try.prog w = .ok false w := fun w => by rw [eqSpq]; congr 1; have := hsh; unfold shP at this; rw [Bool.and_eq_false_iff, decide_eq_false_iff_not, decide_eq_false_iff_not]; omega
                have E2 : ∀ w, (Op.equalIn 10000 62 (.agg #[.int .i64 xc, .int .i64 xd]) (.agg #[.int .i64 ya, .int .i64 yb])).run Try.prog w = .ok false w := fun w => by rw [eqSpq]; congr 1; have := hsh; unfold shP at this; rw [Bool.and_eq_false_iff, decide_eq_false_iff_not, decide_eq_false_iff_not]; omega
                have E3 : ∀ w, (Op.equalIn 10000 62 (.agg #[.int .i64 xc, .int .i64 xd]) (.agg #[.int .i64 yc, .int .i64 yd])).run Try.prog w = .ok false w := fun w => by rw [eqSpq]; congr 1; have := hsh; unfold shP at this; rw [Bool.and_eq_false_iff, decide_eq_false_iff_not, decide_eq_false_iff_not]; omega
                have HF : Hid (r = false) := by
                  show _ = _
                  rw [Bool.eq_false_iff]
                  intro h
                  exact HN.out (HR.out.1 h c hcn d hdn)
                clear hsh
                go_wp2
                go_ret
                exact ⟨(by rw [HF.out]; try rfl), (HBN.alloc HBN.size _).alloc (Nat.le_trans HBN.size (by simp)) _⟩
            · have HN : Hid (¬ qtS x c d) := fun h => by
                rcases HY.1 h with h | h <;> omega
              rw [hk]
              clear hk HY hXA
              have HF : Hid (r = false) := by
                show _ = _
                rw [Bool.eq_false_iff]
                intro h
                exact HN.out (HR.out.1 h c hcn d hdn)
              go_wp2
              go_ret
              exact ⟨(by rw [HF.out]; try rfl), (HBN.alloc HBN.size _).alloc (Nat.le_trans HBN.size (by simp)) _⟩
          · obtain rfl : d = c := by omega
            go_wp2
            go_roundw
            case rel => exact ⟨d + 1, by omega, by go_num, fun i hi k hk => by
              rcases Nat.lt_or_ge i d with h | h
              · exact HQ.out i h k hk
              · obtain rfl : i = d := by omega
                exact HQ2.out k hk, hB⟩
            case measure => simp [intOf]; omega
      · obtain rfl : c = n := by omega
        have HF : Hid (r = true) := HR.out.2 HQ.out
        go_wp2
        go_ret
        exact ⟨(by rw [HF.out]; try rfl), hB⟩
  · rw [decide_eq_false hsg]
    have HF : Hid (r = false) := by
      show _ = _
      rw [Bool.eq_false_iff]
      intro h
      exact hsg (hr.1 h).1
    clear hsg hr
    go_wp2
    go_ret
    exact ⟨(by rw [HF.out]; try rfl), hB⟩
end Go.Proofs.Ytpmnmlhfaoajdaa
