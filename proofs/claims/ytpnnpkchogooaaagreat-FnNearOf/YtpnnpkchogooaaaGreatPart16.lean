/- Part 16 of the walks that the proof leans on. -/
import Derived.Test.YtpnnpkchogooaaaGreatPart15
import Derived.Test.YtpnnpkchogooaaaGreatPart10
import Derived.Test.YtpnnpkchogooaaaGreatPart14
import Derived.Test.YtpnnpkchogooaaaGreatPart13
import Derived.Test.YtpnnpkchogooaaaGreatPart9
import Derived.Test.YtpnnpkchogooaaaGreatRows
import Derived.ProofKit
import Derived.Lib.SmallJoins
/- A segment's distance held against those of its ends and of its middle. -/
namespace Go.Proofs.YtpnnpkchogooaaaGreat
open Go.RowKit
theorem cmpI_le0 {x y : Int} : cmpI x y ≤ 0 ↔ x ≤ y := by unfold cmpI; repeat' split <;> omega
theorem ratio_le {X Y N D : Int} (hY : 0 < Y) (hD : 0 < D) (h : X * D ≤ N * Y) : cmpI (lowN X Y * lowD N D) (lowN N D * lowD X Y) ≤ 0 := by
  obtain ⟨g, hg, e1, e2, _⟩ := low_parts (n := X) hY
  obtain ⟨k, hk, e3, e4, _⟩ := low_parts (n := N) hD
  rw [cmpI_le0]
  have i1 : X * D = lowN X Y * lowD N D * (g * k) := by
    conv => lhs; rw [e1, e4]
    grind
  have i2 : N * Y = lowN N D * lowD X Y * (g * k) := by
    conv => lhs; rw [e3, e2]
    grind
  rw [i1, i2] at h
  exact Int.le_of_mul_le_mul_right h (Int.mul_pos hg hk)
theorem spot_pt {x y : Int} (h : spotOk x y = true) : ptB x y 1 = true := by
  unfold spotOk at h
  simp only [decide_eq_true_eq] at h
  unfold ptB small
  have h1 : Int.gcd (Int.gcd x y : Int) 1 = 1 := by simp
  rw [h1]
  have a1 : ((x.natAbs : Int) < 1208925819614629174706176) := by omega
  have a2 : ((y.natAbs : Int) < 1208925819614629174706176) := by omega
  rw [decide_eq_true a1, decide_eq_true a2]
  decide
/-- The middle of two right spots is told. -/
theorem mid_one {a b c d : Int} (h1 : spotOk a b = true) (h2 : spotOk c d = true) : ∃ m1 m2 m3 g, midV a b 1 c d 1 = .tuple #[PV m1 m2 m3, .bool true] ∧ 0 < g ∧ a + c = m1 * g ∧ b + d = m2 * g ∧ 2 = m3 * g ∧ ptB m1 m2 m3 = true := by
  rcases mid_cases a b 1 c d 1 with h | ⟨_, _, m1, m2, m3, g, e0, hg, e1, e2, e3, hp⟩
  · exfalso
    have p1 := spot_pt h1
    have p2 := spot_pt h2
    unfold spotOk at h1 h2
    simp only [decide_eq_true_eq] at h1 h2
    unfold midV at h
    rw [p1, p2, Bool.and_self, if_pos rfl] at h
    simp only [Int.mul_one] at h
    unfold pmV at h
    rw [if_neg (by decide)] at h
    obtain ⟨g, hgg⟩ : ∃ g, (Int.gcd (Int.gcd (a + c) (b + d) : Int) 2 : Int) = g := ⟨_, rfl⟩
    have g0 : 0 < g := by
      have := Int.gcd_pos_of_ne_zero_right (Int.gcd (a + c) (b + d) : Int) (show (2 : Int) ≠ 0 by decide)
      omega
    have bnd : ∀ z : Int, -2000000 ≤ z → z ≤ 2000000 → small (shareZ z g (decide ((2 : Int) < 0))) = true := fun z hz1 hz2 => by
      have q1 : 0 ≤ (z.natAbs : Int) / g := Int.ediv_nonneg (by omega) (by omega)
      have q2 : (z.natAbs : Int) / g ≤ z.natAbs := Int.ediv_le_self _ (by omega)
      unfold small shareZ
      rw [decide_eq_true_eq]
      split <;> omega
    rw [hgg] at h
    unfold ptV at h
    rw [bnd _ (by omega) (by omega), bnd _ (by omega) (by omega), bnd 2 (by decide) (by decide)] at h
    simp at h
  · simp only [Int.mul_one] at e1 e2 e3
    exact ⟨m1, m2, m3, g, e0, hg, e1, e2, e3, hp⟩
theorem seg_spots {a b c d : Int} (h : segOk a b c d = true) : spotOk a b = true ∧ spotOk c d = true := by
  unfold segOk at h
  simp only [Bool.and_eq_true] at h
  exact h.1
/-- What is asked of each of the three points. -/
def FarP (U V x y X Y W : Int) : Prop := ∃ N D, distV x y 1 X Y W = .tuple #[RV N D, .bool true] ∧ told N = true ∧ told D = true ∧ rightB N D = true ∧ cmpI (U * D) (N * V) ≤ 0
theorem far_of {a b c d x y X Y W : Int} (h1 : segOk a b c d = true) (h2 : spotOk x y = true) (hp : ptB X Y W = true) (hW : W = 1 ∨ W = 2) (hX : -2000000 ≤ X ∧ X ≤ 2000000) (hY : -2000000 ≤ Y ∧ Y ≤ 2000000) (hle : nrX a b c d x y * (W * W) ≤ ((x * W - X) * (x * W - X) + (y * W - Y) * (y * W - Y)) * nrY a b c d x y) : FarP (nU a b c d x y) (nV a b c d x y) x y X Y W := by
  have hq := spot_pt h2
  obtain ⟨_, _, b3, _⟩ := nr_bounds h1 h2
  unfold spotOk at h2
  simp only [decide_eq_true_eq] at h2
  have hW2 : W * W = 1 ∨ W * W = 4 := by rcases hW with rfl | rfl <;> decide
  have c1 : -4000000 ≤ x * W - X ∧ x * W - X ≤ 4000000 := by rcases hW with rfl | rfl <;> omega
  have c2 : -4000000 ≤ y * W - Y ∧ y * W - Y ≤ 4000000 := by rcases hW with rfl | rfl <;> omega
  have s1 := sq_in c1.1 c1.2
  have s2 := sq_in c2.1 c2.2
  have hN : 0 ≤ (x * W - X) * (x * W - X) + (y * W - Y) * (y * W - Y) ∧ (x * W - X) * (x * W - X) + (y * W - Y) * (y * W - Y) ≤ 32000000000000 := by omega
  clear s1 s2
  have e0 : distV x y 1 X Y W = ratV ((x * W - X) * (x * W - X) + (y * W - Y) * (y * W - Y)) (W * W) := by
    unfold distV
    rw [hq, hp, Bool.and_self, if_pos rfl]
    simp only [Int.one_mul]
  generalize (x * W - X) * (x * W - X) + (y * W - Y) * (y * W - Y) = N at *
  generalize W * W = D at *
  have hD : 0 < D := by omega
  obtain ⟨l1, l2, l3, l4⟩ := low_bounds (n := N) (d := D) (by omega) hD
  have t1 : told (lowN N D) = true := told_big ⟨by omega, by omega⟩
  have t2 : told (lowD N D) = true := told_big ⟨by omega, by omega⟩
  obtain ⟨_, _, _, _, hr⟩ := low_parts (n := N) hD
  refine ⟨lowN N D, lowD N D, ?_, t1, t2, hr, ratio_le b3 hD hle⟩
  rw [e0]
  unfold ratV
  rw [if_pos ⟨by omega, t1, t2⟩]
theorem far_three {a b c d x y : Int} (h1 : segOk a b c d = true) (h2 : spotOk x y = true) : ∃ m1 m2 m3, midV a b 1 c d 1 = .tuple #[PV m1 m2 m3, .bool true] ∧ told m1 = true ∧ told m2 = true ∧ told m3 = true ∧ FarP (nU a b c d x y) (nV a b c d x y) x y a b 1 ∧ FarP (nU a b c d x y) (nV a b c d x y) x y c d 1 ∧ FarP (nU a b c d x y) (nV a b c d x y) x y m1 m2 m3 := by
  obtain ⟨s1, s2⟩ := seg_spots h1
  obtain ⟨m1, m2, m3, g, e0, hg, e1, e2, e3, hp⟩ := mid_one s1 s2
  have r1 := s1
  have r2 := s2
  unfold spotOk at r1 r2
  simp only [decide_eq_true_eq] at r1 r2
  obtain ⟨q1, q2⟩ := nr_q a b c d x y
  have hg2 : (g = 1 ∧ m3 = 2) ∨ (g = 2 ∧ m3 = 1) := by
    have hm : 0 < m3 := by
      apply Decidable.byContradiction
      intro hn
      have := Int.mul_nonneg (a := -m3) (b := g) (by omega) (by omega)
      have e : -m3 * g = -(m3 * g) := by grind
      omega
    have h3 : m3 ≤ 2 := by
      have : m3 * 1 ≤ m3 * g := Int.mul_le_mul_of_nonneg_left (by omega) (by omega)
      omega
    rcases (show m3 = 1 ∨ m3 = 2 by omega) with rfl | rfl
    · exact .inr ⟨by omega, rfl⟩
    · exact .inl ⟨by omega, rfl⟩
  have hm1 : -2000000 ≤ m1 ∧ m1 ≤ 2000000 := by rcases hg2 with ⟨rfl, _⟩ | ⟨rfl, _⟩ <;> omega
  have hm2 : -2000000 ≤ m2 ∧ m2 ≤ 2000000 := by rcases hg2 with ⟨rfl, _⟩ | ⟨rfl, _⟩ <;> omega
  have hm3 : m3 = 1 ∨ m3 = 2 := by omega
  refine ⟨m1, m2, m3, e0, told_big ⟨by omega, by omega⟩, told_big ⟨by omega, by omega⟩, told_big ⟨by omega, by omega⟩, ?_, ?_, ?_⟩
  · refine far_of h1 h2 (spot_pt s1) (.inl rfl) (by omega) (by omega) ?_
    rw [q1, q2]
    simp only [Int.mul_one]
    exact q_a _ _ _ _
  · refine far_of h1 h2 (spot_pt s2) (.inl rfl) (by omega) (by omega) ?_
    rw [q1, q2]
    simp only [Int.mul_one]
    have := q_b (x - a) (y - b) (c - a) (d - b)
    rw [show x - a - (c - a) = x - c by omega, show y - b - (d - b) = y - d by omega] at this
    exact this
  · refine far_of h1 h2 hp hm3 hm1 hm2 ?_
    rw [q1, q2]
    have hq := q_m (x - a) (y - b) (c - a) (d - b)
    rcases hg2 with ⟨rfl, rfl⟩ | ⟨rfl, rfl⟩
    · rw [show 2 * (x - a) - (c - a) = x * 2 - m1 by omega, show 2 * (y - b) - (d - b) = y * 2 - m2 by omega] at hq
      omega
    · have i1 : 2 * (x - a) - (c - a) = 2 * (x * 1 - m1) := by omega
      have i2 : 2 * (y - b) - (d - b) = 2 * (y * 1 - m2) := by omega
      rw [i1, i2, show 2 * (x * 1 - m1) * (2 * (x * 1 - m1)) + 2 * (y * 1 - m2) * (2 * (y * 1 - m2)) = 4 * ((x * 1 - m1) * (x * 1 - m1) + (y * 1 - m2) * (y * 1 - m2)) by grind, Int.mul_assoc] at hq
      omega
theorem nU_zero {a b c d x y : Int} (h1 : segOk a b c d = true) (h2 : spotOk x y = true) : nU a b c d x y = 0 ↔ onI a b c d x y 1 = true := by
  rw [← near_on h1 (spot_pt h2)]
  obtain ⟨_, _, b3, _⟩ := nr_bounds h1 h2
  obtain ⟨g, hg, e1, _, _⟩ := low_parts (n := nrX a b c d x y) b3
  unfold nU
  constructor
  · intro h
    rw [e1, h, Int.zero_mul]
  · intro h
    rw [h] at e1
    rcases Int.mul_eq_zero.1 e1.symm with h' | h'
    · rw [h]; exact h'
    · omega
end Go.Proofs.YtpnnpkchogooaaaGreat

/- What is told of a distance; a distance held against another. -/
namespace Go.Proofs.YtpnnpkchogooaaaGreat
open Go.RowKit
theorem nearV_told (a b c d x y : Int) : ∃ (U V : Int) (f : Bool), nearV a b c d x y = .tuple #[.agg #[.int .u64 (ww3 U), .int .u64 (ww2 U), .int .u64 (ww1 U), .int .u64 (ww0 U), .int .u64 (ww3 V), .int .u64 (ww2 V), .int .u64 (ww1 V), .int .u64 (ww0 V)], .bool f] ∧ told U = true ∧ told V = true ∧ (f = true → segOk a b c d = true ∧ spotOk x y = true ∧ U = nU a b c d x y ∧ V = nV a b c d x y) ∧ (f = false → segOk a b c d = true → spotOk x y = false) := by
  by_cases h : (segOk a b c d && spotOk x y) = true
  · have h' : segOk a b c d = true ∧ spotOk x y = true := by simpa using h
    obtain ⟨t1, t2, _, e⟩ := near_nums h'.1 h'.2
    refine ⟨nU a b c d x y, nV a b c d x y, true, ?_, t1, t2, fun _ => ⟨h'.1, h'.2, rfl, rfl⟩, fun h => by cases h⟩
    unfold nearV
    rw [if_pos h]
    exact e
  · refine ⟨0, 0, false, ?_, by decide, by decide, fun h => (by cases h), fun _ h1 => ?_⟩
    · unfold nearV
      rw [if_neg h]
      rfl
    · rw [h1] at h
      simpa using h
theorem near_right {a b c d x y : Int} (h1 : segOk a b c d = true) (h2 : spotOk x y = true) : rightB (nU a b c d x y) (nV a b c d x y) = true := by
  obtain ⟨_, _, b3, _⟩ := nr_bounds h1 h2
  obtain ⟨_, _, _, _, hr⟩ := low_parts (n := nrX a b c d x y) b3
  exact hr
theorem rcmp_det {U V N D : Int} (tU : told U = true) (tV : told V = true) (tN : told N = true) (tD : told D = true) (r1 : rightB U V = true) (r2 : rightB N D = true) (w : World) : Calls Tryz.prog 14 #[.agg #[.int .u64 (ww3 U), .int .u64 (ww2 U), .int .u64 (ww1 U), .int .u64 (ww0 U), .int .u64 (ww3 V), .int .u64 (ww2 V), .int .u64 (ww1 V), .int .u64 (ww0 V)], .agg #[.int .u64 (ww3 N), .int .u64 (ww2 N), .int .u64 (ww1 N), .int .u64 (ww0 N), .int .u64 (ww3 D), .int .u64 (ww2 D), .int .u64 (ww1 D), .int .u64 (ww0 D)]] w (VP (.tuple #[.int .i64 (cmpI (U * D) (N * V)), .bool true]) w) := by
  obtain ⟨a3, a2, a1, a0⟩ := ww_words U
  obtain ⟨b3, b2, b1, b0⟩ := ww_words V
  obtain ⟨c3, c2, c1, c0⟩ := ww_words N
  obtain ⟨d3, d2, d1, d0⟩ := ww_words D
  have H := implRatioCmp_any _ _ _ _ _ _ _ _ _ _ _ _ _ _ _ _ a3 a2 a1 a0 b3 b2 b1 b0 c3 c2 c1 c0 d3 d2 d1 d0 w
  rw [ww_sw tU, ww_sw tV, ww_sw tN, ww_sw tD, ratCmp_yes r1 r2] at H
  exact H.mono fun e w' hh => hh
theorem eqRtN (n d : Int) (hn : told n = true) (hd : told d = true) (w : World) : (Op.equalIn 10000 34 (.agg #[.int .u64 (ww3 n), .int .u64 (ww2 n), .int .u64 (ww1 n), .int .u64 (ww0 n), .int .u64 (ww3 d), .int .u64 (ww2 d), .int .u64 (ww1 d), .int .u64 (ww0 d)]) (.agg #[.int .u64 (ww3 n), .int .u64 (ww2 n), .int .u64 (ww1 n), .int .u64 (ww0 n), .int .u64 (ww3 d), .int .u64 (ww2 d), .int .u64 (ww1 d), .int .u64 (ww0 d)])).run Tryz.prog w = .ok true w := eqRV n d hn hd w
end Go.Proofs.YtpnnpkchogooaaaGreat

/- The square of the distance of a spot and a segment: the program's walk. -/
namespace Go.Proofs.YtpnnpkchogooaaaGreat
open Go.RowKit
theorem nt_cells {C m n : Int} {W : World} {gT gM : Nat} (BT : Blk W gT [.int .u64 (ww3 C), .int .u64 (ww2 C), .int .u64 (ww1 C), .int .u64 (ww0 C)]) (BM : Blk W gM [.int .i64 m, .int .i64 n]) : (fun w' => w'.cell? ⟨gT, 0, none⟩ = some (.int .u64 (ww3 C)) ∧ w'.cell? ⟨gT, 1, none⟩ = some (.int .u64 (ww2 C)) ∧ w'.cell? ⟨gT, 2, none⟩ = some (.int .u64 (ww1 C)) ∧ w'.cell? ⟨gT, 3, none⟩ = some (.int .u64 (ww0 C)) ∧ w'.cell? ⟨gM, 0, none⟩ = some (.int .i64 m) ∧ w'.cell? ⟨gM, 1, none⟩ = some (.int .i64 n)) W := ⟨BT.c 0 rfl, BT.c 1 rfl, BT.c 2 rfl, BT.c 3 rfl, BM.c 0 rfl, BM.c 1 rfl⟩
theorem nt_cells8 {C m n : Int} {W : World} {gT gM g : Nat} {v0 v1 v2 v3 v4 v5 v6 v7 : Value} (BT : Blk W gT [.int .u64 (ww3 C), .int .u64 (ww2 C), .int .u64 (ww1 C), .int .u64 (ww0 C)]) (BM : Blk W gM [.int .i64 m, .int .i64 n]) (hT : gT ≠ g) (hM : gM ≠ g) : (fun w' => w'.cell? ⟨gT, 0, none⟩ = some (.int .u64 (ww3 C)) ∧ w'.cell? ⟨gT, 1, none⟩ = some (.int .u64 (ww2 C)) ∧ w'.cell? ⟨gT, 2, none⟩ = some (.int .u64 (ww1 C)) ∧ w'.cell? ⟨gT, 3, none⟩ = some (.int .u64 (ww0 C)) ∧ w'.cell? ⟨gM, 0, none⟩ = some (.int .i64 m) ∧ w'.cell? ⟨gM, 1, none⟩ = some (.int .i64 n)) ((((((((W.setCell ⟨g, 0, none⟩ v0).setCell ⟨g, 1, none⟩ v1).setCell ⟨g, 2, none⟩ v2).setCell ⟨g, 3, none⟩ v3).setCell ⟨g, 4, none⟩ v4).setCell ⟨g, 5, none⟩ v5).setCell ⟨g, 6, none⟩ v6).setCell ⟨g, 7, none⟩ v7) := ⟨(BT.set8 hT).c 0 rfl, (BT.set8 hT).c 1 rfl, (BT.set8 hT).c 2 rfl, (BT.set8 hT).c 3 rfl, (BM.set8 hM).c 0 rfl, (BM.set8 hM).c 1 rfl⟩
set_option maxRecDepth 100000 in
set_option maxHeartbeats 8000000 in
theorem implNear2_det (a b c d x y : Int) (w : World) : Calls Tryz.prog 7 #[Sg a b c d, Sp x y] w (VP (nearV a b c d x y) w) := by
  have T0 : ArgsB w (((w.alloc (.cells #[.int .i64 a, .int .i64 b, .int .i64 c, .int .i64 d] 27)).alloc (.cells #[.int .i64 x, .int .i64 y] 25)).alloc (.cells #[.int .u64 0, .int .u64 0, .int .u64 0, .int .u64 0, .int .u64 0, .int .u64 0, .int .u64 0, .int .u64 0] 34)) [[.int .i64 a, .int .i64 b, .int .i64 c, .int .i64 d], [.int .i64 x, .int .i64 y], [.int .u64 0, .int .u64 0, .int .u64 0, .int .u64 0, .int .u64 0, .int .u64 0, .int .u64 0, .int .u64 0]] := ar3 _ _ _ _ _ _ w
  have SO := fun w => implSegOk_any a b c d _ rfl w
  have PO := fun w => implSpotOk_any x y _ rfl w
  go_enter Tryz.func7, Tryz.ntmps7
  go_wp2_with fail
  generalize (((w.alloc (.cells #[.int .i64 a, .int .i64 b, .int .i64 c, .int .i64 d] 27)).alloc (.cells #[.int .i64 x, .int .i64 y] 25)).alloc (.cells #[.int .u64 0, .int .u64 0, .int .u64 0, .int .u64 0, .int .u64 0, .int .u64 0, .int .u64 0, .int .u64 0] 34)) = WW at *
  refine (SO _).mono ?_
  rintro e w1 ⟨rfl, hB⟩
  replace T0 := T0.step hB
  clear hB
  by_cases hs : segOk a b c d = true
  · rw [hs]
    have Y0 : Blk _ (w.heap.size + 1) _ := T0.b 1 rfl; have q0 := Y0.c 0 rfl; have q1 := Y0.c 1 rfl; clear Y0
    go_wp2_with fail
    refine (PO _).mono ?_
    rintro e w2 ⟨rfl, hB⟩
    replace T0 := T0.step hB
    clear hB q0 q1
    by_cases hp : spotOk x y = true
    · rw [hp]
      have HW : Hid (nearV a b c d x y = nearW a b c d x y) := by show _ = _; unfold nearV; rw [hs, hp]; rfl
      obtain ⟨i1, i2, i3, i4⟩ := in6_seg hs
      obtain ⟨i5, i6⟩ := in1_spot hp
      have M1 := minusS_det c d a b i3 i4 i1 i2
      have M2 := minusS_det x y a b i5 i6 i1 i2
      have M3 := minusS_det x y c d i5 i6 i3 i4
      have hm2 : In2 (c - a) := ⟨by omega, by omega⟩
      have hn2 : In2 (d - b) := ⟨by omega, by omega⟩
      have hi2 : In2 (x - a) := ⟨by omega, by omega⟩
      have hj2 : In2 (y - b) := ⟨by omega, by omega⟩
      have hk2 : In2 (x - c) := ⟨by omega, by omega⟩
      have hl2 : In2 (y - d) := ⟨by omega, by omega⟩
      have HJ : Hid (nearW a b c d x y = if (x - a) * (c - a) + (y - b) * (d - b) ≤ 0 then ratV ((x - a) * (x - a) + (y - b) * (y - b)) 1 else if (x - c) * (c - a) + (y - d) * (d - b) ≥ 0 then ratV ((x - c) * (x - c) + (y - d) * (y - d)) 1 else ratV (((c - a) * (y - b) - (d - b) * (x - a)) * ((c - a) * (y - b) - (d - b) * (x - a))) ((c - a) * (c - a) + (d - b) * (d - b))) := rfl
      generalize hm : c - a = m at *
      generalize hn : d - b = n at *
      generalize hi : x - a = i at *
      generalize hj : y - b = j at *
      generalize hk : x - c = k at *
      generalize hl : y - d = l at *
      clear hm hn hi hj hk hl i1 i2 i3 i4 i5 i6 hs hp SO PO
      have D1 := dot_det i j m n hi2 hj2 hm2 hn2
      have D2 := dot_det i j i j hi2 hj2 hi2 hj2
      have D3 := dot_det k l m n hk2 hl2 hm2 hn2
      have D4 := dot_det k l k l hk2 hl2 hk2 hl2
      have D5 := cross_det m n i j hm2 hn2 hi2 hj2
      have D6 := dot_det m n m n hm2 hn2 hm2 hn2
      have b1 := prod2 hi2 hi2; have b2 := prod2 hj2 hj2; have b3 := prod2 hk2 hk2; have b4 := prod2 hl2 hl2; have b5 := prod2 hm2 hj2; have b6 := prod2 hn2 hi2; have b7 := prod2 hm2 hm2; have b8 := prod2 hn2 hn2
      clear hm2 hn2 hi2 hj2 hk2 hl2
      obtain ⟨z0, z1, z2, z3, z4, z5, z6, z7, f, hf⟩ := nearW_ex a b c d x y
      have HO : Hid (nearV a b c d x y = .tuple #[.agg #[.int .u64 z0, .int .u64 z1, .int .u64 z2, .int .u64 z3, .int .u64 z4, .int .u64 z5, .int .u64 z6, .int .u64 z7], .bool f]) := HW.out.trans hf
      rw [HJ.out] at hf
      clear HW HJ
      have Y1 : Blk _ w.heap.size _ := T0.b 0 rfl; have g0 := Y1.c 0 rfl; have g1 := Y1.c 1 rfl; have g2 := Y1.c 2 rfl; have g3 := Y1.c 3 rfl; clear Y1
      go_wp2_with fail
      refine (M1 _).mono ?_
      rintro e w3 ⟨rfl, hB⟩
      have hgM : w.heap.size + 2 < w3.heap.size := ((T0.step hB).b 2 rfl).lt
      replace T0 := (T0.step hB).alloc (.cells #[.int .i64 m, .int .i64 n] 25)
      have BM := Blk.new w3 [.int .i64 m, .int .i64 n] 25 rfl
      clear hB M1 g0 g1 g2 g3
      have tok1 : True := trivial
      go_upto_region 4 with fail
      generalize w3.alloc (.cells #[.int .i64 m, .int .i64 n] 25) = W3 at *
      generalize w3.heap.size = gM at *
      have hl0 := (T0.b 2 rfl).lt
      have hlM := BM.lt
      go_cut [7, 8] (fun p q wx => CutG w wx [[.int .i64 a, .int .i64 b, .int .i64 c, .int .i64 d], [.int .i64 x, .int .i64 y], [.int .u64 0, .int .u64 0, .int .u64 0, .int .u64 0, .int .u64 0, .int .u64 0, .int .u64 0, .int .u64 0]] [.int .i64 i, .int .i64 j] [.int .i64 k, .int .i64 l] p q ∧ Blk wx gM [.int .i64 m, .int .i64 n])
      case first =>
        go_region_held3 (fun w' => w'.cell? ⟨w.heap.size, 0, none⟩ = some (.int .i64 a) ∧ w'.cell? ⟨w.heap.size, 1, none⟩ = some (.int .i64 b) ∧ w'.cell? ⟨w.heap.size, 2, none⟩ = some (.int .i64 c) ∧ w'.cell? ⟨w.heap.size, 3, none⟩ = some (.int .i64 d) ∧ w'.cell? ⟨w.heap.size + 1, 0, none⟩ = some (.int .i64 x) ∧ w'.cell? ⟨w.heap.size + 1, 1, none⟩ = some (.int .i64 y)) ((refine nr_cells ?_ <;> repeat (first | (with_reducible exact T0) | (with_reducible refine ArgsB.drew ?_) | (with_reducible refine ArgsB.alloc ?_ _) | (with_reducible refine ArgsB.set2 ?_ (by simp; omega) _ _))))
          (first
            | (go_at_call 27; have _t := tok1; refine (M2 _).mono ?_; rintro e w4 ⟨rfl, hB⟩; (first | (have T1 : ArgsB w w4 [[.int .i64 a, .int .i64 b, .int .i64 c, .int .i64 d], [.int .i64 x, .int .i64 y], [.int .u64 0, .int .u64 0, .int .u64 0, .int .u64 0, .int .u64 0, .int .u64 0, .int .u64 0, .int .u64 0]] := (by with_reducible exact T0.step hB); have tltw4 := (T0.b 2 rfl).lt; have lBMw4 := BM.lt; replace BM := BM.step hB; (try (replace G0 := G0.step hB; have j0c := G0.c 0 rfl; have j0f := G0.f 0 rfl; have j1c := G0.c 1 rfl; have j1f := G0.f 1 rfl; have jlt := G0.lt)); (try (replace G1 := G1.step hB; have k0c := G1.c 0 rfl; have k0f := G1.f 0 rfl; have k1c := G1.c 1 rfl; have k1f := G1.f 1 rfl; have klt := G1.lt))) | (have T1 : ArgsB w w4 [[.int .i64 a, .int .i64 b, .int .i64 c, .int .i64 d], [.int .i64 x, .int .i64 y], [.int .u64 0, .int .u64 0, .int .u64 0, .int .u64 0, .int .u64 0, .int .u64 0, .int .u64 0, .int .u64 0]] := (by with_reducible exact T0.drew.step hB); have tltw4 := (T0.b 2 rfl).lt; have lBMw4 := BM.lt; replace BM := BM.drew.step hB; (try (replace G0 := G0.drew.step hB; have j0c := G0.c 0 rfl; have j0f := G0.f 0 rfl; have j1c := G0.c 1 rfl; have j1f := G0.f 1 rfl; have jlt := G0.lt)); (try (replace G1 := G1.drew.step hB; have k0c := G1.c 0 rfl; have k0f := G1.f 0 rfl; have k1c := G1.c 1 rfl; have k1f := G1.f 1 rfl; have klt := G1.lt))) | (have T1 : ArgsB w w4 [[.int .i64 a, .int .i64 b, .int .i64 c, .int .i64 d], [.int .i64 x, .int .i64 y], [.int .u64 0, .int .u64 0, .int .u64 0, .int .u64 0, .int .u64 0, .int .u64 0, .int .u64 0, .int .u64 0]] := (by with_reducible exact (T0.alloc _).step hB); have tltw4 := (T0.b 2 rfl).lt; have lBMw4 := BM.lt; replace BM := (BM.alloc _).step hB; (first | (have G1 := (Blk.new _ [.int .i64 0, .int .i64 0] _ rfl).step hB; have hgg := G0.lt; replace G0 := (G0.alloc _).step hB; have j0c := G0.c 0 rfl; have j0f := G0.f 0 rfl; have j1c := G0.c 1 rfl; have j1f := G0.f 1 rfl; have jlt := G0.lt; have k0c := G1.c 0 rfl; have k0f := G1.f 0 rfl; have k1c := G1.c 1 rfl; have k1f := G1.f 1 rfl; have klt := G1.lt) | (have G0 := (Blk.new _ [.int .i64 0, .int .i64 0] _ rfl).step hB; have j0c := G0.c 0 rfl; have j0f := G0.f 0 rfl; have j1c := G0.c 1 rfl; have j1f := G0.f 1 rfl; have jlt := G0.lt))) | (have T1 : ArgsB w w4 [[.int .i64 a, .int .i64 b, .int .i64 c, .int .i64 d], [.int .i64 x, .int .i64 y], [.int .u64 0, .int .u64 0, .int .u64 0, .int .u64 0, .int .u64 0, .int .u64 0, .int .u64 0, .int .u64 0]] := (by with_reducible exact (T0.alloc _).drew.step hB); have tltw4 := (T0.b 2 rfl).lt; have lBMw4 := BM.lt; replace BM := (BM.alloc _).drew.step hB; (first | (have G1 := (Blk.new _ [.int .i64 0, .int .i64 0] _ rfl).drew.step hB; have hgg := G0.lt; replace G0 := (G0.alloc _).drew.step hB; have j0c := G0.c 0 rfl; have j0f := G0.f 0 rfl; have j1c := G0.c 1 rfl; have j1f := G0.f 1 rfl; have jlt := G0.lt; have k0c := G1.c 0 rfl; have k0f := G1.f 0 rfl; have k1c := G1.c 1 rfl; have k1f := G1.f 1 rfl; have klt := G1.lt) | (have G0 := (Blk.new _ [.int .i64 0, .int .i64 0] _ rfl).drew.step hB; have j0c := G0.c 0 rfl; have j0f := G0.f 0 rfl; have j1c := G0.c 1 rfl; have j1f := G0.f 1 rfl; have jlt := G0.lt))) | (have T1 : ArgsB w w4 [[.int .i64 a, .int .i64 b, .int .i64 c, .int .i64 d], [.int .i64 x, .int .i64 y], [.int .u64 0, .int .u64 0, .int .u64 0, .int .u64 0, .int .u64 0, .int .u64 0, .int .u64 0, .int .u64 0]] := (by with_reducible exact ((T0.alloc _).alloc _).step hB); have tltw4 := (T0.b 2 rfl).lt; have lBMw4 := BM.lt; replace BM := ((BM.alloc _).alloc _).step hB; have G0 := ((Blk.new _ [.int .i64 0, .int .i64 0] _ rfl).alloc _).step hB; have G1 := (Blk.newS _ _ [.int .i64 0, .int .i64 0] _).step hB; have j0c := G0.c 0 rfl; have j0f := G0.f 0 rfl; have j1c := G0.c 1 rfl; have j1f := G0.f 1 rfl; have jlt := G0.lt; have k0c := G1.c 0 rfl; have k0f := G1.f 0 rfl; have k1c := G1.c 1 rfl; have k1f := G1.f 1 rfl; have klt := G1.lt) | (have T1 : ArgsB w w4 [[.int .i64 a, .int .i64 b, .int .i64 c, .int .i64 d], [.int .i64 x, .int .i64 y], [.int .u64 0, .int .u64 0, .int .u64 0, .int .u64 0, .int .u64 0, .int .u64 0, .int .u64 0, .int .u64 0]] := (by with_reducible exact ((T0.alloc _).alloc _).drew.step hB); have tltw4 := (T0.b 2 rfl).lt; have lBMw4 := BM.lt; replace BM := ((BM.alloc _).alloc _).drew.step hB; have G0 := ((Blk.new _ [.int .i64 0, .int .i64 0] _ rfl).alloc _).drew.step hB; have G1 := (Blk.newS _ _ [.int .i64 0, .int .i64 0] _).drew.step hB; have j0c := G0.c 0 rfl; have j0f := G0.f 0 rfl; have j1c := G0.c 1 rfl; have j1f := G0.f 1 rfl; have jlt := G0.lt; have k0c := G1.c 0 rfl; have k0f := G1.f 0 rfl; have k1c := G1.c 1 rfl; have k1f := G1.f 1 rfl; have klt := G1.lt)); clear T0; have T0 := T1; clear T1; clear hB tok1 _t)
            | (go_at_call 27; refine (M3 _).mono ?_; rintro e w5 ⟨rfl, hB⟩; (first | (have T1 : ArgsB w w5 [[.int .i64 a, .int .i64 b, .int .i64 c, .int .i64 d], [.int .i64 x, .int .i64 y], [.int .u64 0, .int .u64 0, .int .u64 0, .int .u64 0, .int .u64 0, .int .u64 0, .int .u64 0, .int .u64 0]] := (by with_reducible exact T0.step hB); have tltw5 := (T0.b 2 rfl).lt; have lBMw5 := BM.lt; replace BM := BM.step hB; (try (replace G0 := G0.step hB; have j0c := G0.c 0 rfl; have j0f := G0.f 0 rfl; have j1c := G0.c 1 rfl; have j1f := G0.f 1 rfl; have jlt := G0.lt)); (try (replace G1 := G1.step hB; have k0c := G1.c 0 rfl; have k0f := G1.f 0 rfl; have k1c := G1.c 1 rfl; have k1f := G1.f 1 rfl; have klt := G1.lt))) | (have T1 : ArgsB w w5 [[.int .i64 a, .int .i64 b, .int .i64 c, .int .i64 d], [.int .i64 x, .int .i64 y], [.int .u64 0, .int .u64 0, .int .u64 0, .int .u64 0, .int .u64 0, .int .u64 0, .int .u64 0, .int .u64 0]] := (by with_reducible exact T0.drew.step hB); have tltw5 := (T0.b 2 rfl).lt; have lBMw5 := BM.lt; replace BM := BM.drew.step hB; (try (replace G0 := G0.drew.step hB; have j0c := G0.c 0 rfl; have j0f := G0.f 0 rfl; have j1c := G0.c 1 rfl; have j1f := G0.f 1 rfl; have jlt := G0.lt)); (try (replace G1 := G1.drew.step hB; have k0c := G1.c 0 rfl; have k0f := G1.f 0 rfl; have k1c := G1.c 1 rfl; have k1f := G1.f 1 rfl; have klt := G1.lt))) | (have T1 : ArgsB w w5 [[.int .i64 a, .int .i64 b, .int .i64 c, .int .i64 d], [.int .i64 x, .int .i64 y], [.int .u64 0, .int .u64 0, .int .u64 0, .int .u64 0, .int .u64 0, .int .u64 0, .int .u64 0, .int .u64 0]] := (by with_reducible exact (T0.alloc _).step hB); have tltw5 := (T0.b 2 rfl).lt; have lBMw5 := BM.lt; replace BM := (BM.alloc _).step hB; (first | (have G1 := (Blk.new _ [.int .i64 0, .int .i64 0] _ rfl).step hB; have hgg := G0.lt; replace G0 := (G0.alloc _).step hB; have j0c := G0.c 0 rfl; have j0f := G0.f 0 rfl; have j1c := G0.c 1 rfl; have j1f := G0.f 1 rfl; have jlt := G0.lt; have k0c := G1.c 0 rfl; have k0f := G1.f 0 rfl; have k1c := G1.c 1 rfl; have k1f := G1.f 1 rfl; have klt := G1.lt) | (have G0 := (Blk.new _ [.int .i64 0, .int .i64 0] _ rfl).step hB; have j0c := G0.c 0 rfl; have j0f := G0.f 0 rfl; have j1c := G0.c 1 rfl; have j1f := G0.f 1 rfl; have jlt := G0.lt))) | (have T1 : ArgsB w w5 [[.int .i64 a, .int .i64 b, .int .i64 c, .int .i64 d], [.int .i64 x, .int .i64 y], [.int .u64 0, .int .u64 0, .int .u64 0, .int .u64 0, .int .u64 0, .int .u64 0, .int .u64 0, .int .u64 0]] := (by with_reducible exact (T0.alloc _).drew.step hB); have tltw5 := (T0.b 2 rfl).lt; have lBMw5 := BM.lt; replace BM := (BM.alloc _).drew.step hB; (first | (have G1 := (Blk.new _ [.int .i64 0, .int .i64 0] _ rfl).drew.step hB; have hgg := G0.lt; replace G0 := (G0.alloc _).drew.step hB; have j0c := G0.c 0 rfl; have j0f := G0.f 0 rfl; have j1c := G0.c 1 rfl; have j1f := G0.f 1 rfl; have jlt := G0.lt; have k0c := G1.c 0 rfl; have k0f := G1.f 0 rfl; have k1c := G1.c 1 rfl; have k1f := G1.f 1 rfl; have klt := G1.lt) | (have G0 := (Blk.new _ [.int .i64 0, .int .i64 0] _ rfl).drew.step hB; have j0c := G0.c 0 rfl; have j0f := G0.f 0 rfl; have j1c := G0.c 1 rfl; have j1f := G0.f 1 rfl; have jlt := G0.lt))) | (have T1 : ArgsB w w5 [[.int .i64 a, .int .i64 b, .int .i64 c, .int .i64 d], [.int .i64 x, .int .i64 y], [.int .u64 0, .int .u64 0, .int .u64 0, .int .u64 0, .int .u64 0, .int .u64 0, .int .u64 0, .int .u64 0]] := (by with_reducible exact ((T0.alloc _).alloc _).step hB); have tltw5 := (T0.b 2 rfl).lt; have lBMw5 := BM.lt; replace BM := ((BM.alloc _).alloc _).step hB; have G0 := ((Blk.new _ [.int .i64 0, .int .i64 0] _ rfl).alloc _).step hB; have G1 := (Blk.newS _ _ [.int .i64 0, .int .i64 0] _).step hB; have j0c := G0.c 0 rfl; have j0f := G0.f 0 rfl; have j1c := G0.c 1 rfl; have j1f := G0.f 1 rfl; have jlt := G0.lt; have k0c := G1.c 0 rfl; have k0f := G1.f 0 rfl; have k1c := G1.c 1 rfl; have k1f := G1.f 1 rfl; have klt := G1.lt) | (have T1 : ArgsB w w5 [[.int .i64 a, .int .i64 b, .int .i64 c, .int .i64 d], [.int .i64 x, .int .i64 y], [.int .u64 0, .int .u64 0, .int .u64 0, .int .u64 0, .int .u64 0, .int .u64 0, .int .u64 0, .int .u64 0]] := (by with_reducible exact ((T0.alloc _).alloc _).drew.step hB); have tltw5 := (T0.b 2 rfl).lt; have lBMw5 := BM.lt; replace BM := ((BM.alloc _).alloc _).drew.step hB; have G0 := ((Blk.new _ [.int .i64 0, .int .i64 0] _ rfl).alloc _).drew.step hB; have G1 := (Blk.newS _ _ [.int .i64 0, .int .i64 0] _).drew.step hB; have j0c := G0.c 0 rfl; have j0f := G0.f 0 rfl; have j1c := G0.c 1 rfl; have j1f := G0.f 1 rfl; have jlt := G0.lt; have k0c := G1.c 0 rfl; have k0f := G1.f 0 rfl; have k1c := G1.c 1 rfl; have k1f := G1.f 1 rfl; have klt := G1.lt)); clear T0; have T0 := T1; clear T1; clear hB))
        all_goals go_wp2_with fail
        all_goals go_meet
        all_goals have hl3 : w.heap.size + ([[.int .i64 a, .int .i64 b, .int .i64 c, .int .i64 d], [.int .i64 x, .int .i64 y], [.int .u64 0, .int .u64 0, .int .u64 0, .int .u64 0, .int .u64 0, .int .u64 0, .int .u64 0, .int .u64 0]] : List (List Value)).length ≤ w5.heap.size := (T0.b 2 rfl).lt
        all_goals have hlb := BM.lt
        all_goals first | (with_reducible exact ⟨cutG_nn T0 hl3, (BM.alloc _).alloc _⟩) | (with_reducible exact ⟨cutG_nn' T0 hl3, (BM.alloc _).alloc _⟩) | (with_reducible exact ⟨cutG_sn T0 G0 (by simp; omega) hl3, (BM.set2 (by omega)).alloc _⟩) | (with_reducible exact ⟨cutG_sn' T0 G0 (by simp; omega) hl3, (BM.set2 (by omega)).alloc _⟩) | (with_reducible exact ⟨cutG_ss T0 G0 G1 (by simp; omega) (by simp; omega) (by omega), (BM.set2 (by omega)).set2 (by omega)⟩) | (with_reducible exact ⟨cutG_ss T0 G1 G0 (by simp; omega) (by simp; omega) (by omega), (BM.set2 (by omega)).set2 (by omega)⟩)
      case rest =>
        clear T0 BM tok1 M2 M3 hl0 hlM
        obtain ⟨⟨gA, gB, hp, hq, hne, hgA, hgB, T0, BA, BB⟩, BM⟩ := hcut
        subst hp; subst hq
        have bm0 := BM.c 0 rfl; have bm1 := BM.c 1 rfl; have ba0 := BA.c 0 rfl; have ba1 := BA.c 1 rfl; have bb0 := BB.c 0 rfl; have bb1 := BB.c 1 rfl
        go_wp2_with fail
        refine (D1 _).mono ?_
        rintro e w6 ⟨rfl, hB⟩
        replace T0 := T0.step hB; replace BM := BM.step hB; replace BA := BA.step hB; replace BB := BB.step hB
        clear hB bm0 bm1 ba0 ba1 bb0 bb1
        have bm0 := BM.c 0 rfl; have bm1 := BM.c 1 rfl; have ba0 := BA.c 0 rfl; have ba1 := BA.c 1 rfl; have bb0 := BB.c 0 rfl; have bb1 := BB.c 1 rfl
        by_cases h1 : i * m + j * n ≤ 0
        · rw [if_pos h1] at hf
          have E1 := implOf_det (i * i + j * j)
          have E2 := implOf_det 1
          have E3 := implRatioOf_det (i * i + j * j) 1 (told_big (by omega)) (by decide)
          rw [hf] at E3
          generalize i * m + j * n = o1 at *
          obtain ⟨b1l, b1u⟩ : -8000000000000 ≤ i * i + j * j ∧ i * i + j * j ≤ 8000000000000 := by omega
          replace E1 := fun w => E1 w (by omega) (by omega)
          replace E2 := fun w => E2 w (by decide) (by decide)
          clear b1 b2 b3 b4 b5 b6 b7 b8 D1 D3 D4 D5 D6 hf
          generalize i * i + j * j = o2 at *
          go_wp2_with fail
          refine (D2 _).mono ?_
          rintro e w7 ⟨rfl, hB⟩
          replace T0 := T0.step hB; replace BM := BM.step hB; replace BA := BA.step hB; replace BB := BB.step hB
          clear hB bm0 bm1 ba0 ba1 bb0 bb1
          have bm0 := BM.c 0 rfl; have bm1 := BM.c 1 rfl; have ba0 := BA.c 0 rfl; have ba1 := BA.c 1 rfl; have bb0 := BB.c 0 rfl; have bb1 := BB.c 1 rfl
          go_wp2_with fail
          refine (E1 _).mono ?_
          rintro e w8 ⟨rfl, hB⟩
          replace T0 := T0.step hB; replace BM := BM.step hB; replace BA := BA.step hB; replace BB := BB.step hB
          clear hB bm0 bm1 ba0 ba1 bb0 bb1
          have bm0 := BM.c 0 rfl; have bm1 := BM.c 1 rfl; have ba0 := BA.c 0 rfl; have ba1 := BA.c 1 rfl; have bb0 := BB.c 0 rfl; have bb1 := BB.c 1 rfl
          go_wp2_with fail
          refine (E2 _).mono ?_
          rintro e w9 ⟨rfl, hB⟩
          replace T0 := T0.step hB; replace BM := BM.step hB; replace BA := BA.step hB; replace BB := BB.step hB
          clear hB bm0 bm1 ba0 ba1 bb0 bb1
          have bm0 := BM.c 0 rfl; have bm1 := BM.c 1 rfl; have ba0 := BA.c 0 rfl; have ba1 := BA.c 1 rfl; have bb0 := BB.c 0 rfl; have bb1 := BB.c 1 rfl
          go_wp2_with fail
          refine (E3 _).mono ?_
          rintro e w10 ⟨rfl, hB⟩
          replace T0 := T0.step hB
          have o0 := (T0.b 2 rfl).c 0 rfl; have r0 := (T0.b 2 rfl).f 0 rfl; have o1 := (T0.b 2 rfl).c 1 rfl; have r1 := (T0.b 2 rfl).f 1 rfl; have o2 := (T0.b 2 rfl).c 2 rfl; have r2 := (T0.b 2 rfl).f 2 rfl; have o3 := (T0.b 2 rfl).c 3 rfl; have r3 := (T0.b 2 rfl).f 3 rfl; have o4 := (T0.b 2 rfl).c 4 rfl; have r4 := (T0.b 2 rfl).f 4 rfl; have o5 := (T0.b 2 rfl).c 5 rfl; have r5 := (T0.b 2 rfl).f 5 rfl; have o6 := (T0.b 2 rfl).c 6 rfl; have r6 := (T0.b 2 rfl).f 6 rfl; have o7 := (T0.b 2 rfl).c 7 rfl; have r7 := (T0.b 2 rfl).f 7 rfl; have olt := (T0.b 2 rfl).lt
          have HB := T0.below
          clear hB T0 BM BA BB bm0 bm1 ba0 ba1 bb0 bb1
          go_wp2
          refine bodyPost_ret (v := .tuple #[.agg #[.int .u64 z0, .int .u64 z1, .int .u64 z2, .int .u64 z3, .int .u64 z4, .int .u64 z5, .int .u64 z6, .int .u64 z7], .bool f]) (by simp [results, Tryz.results7, go_sem, o0, o1, o2, o3, o4, o5, o6, o7]) rfl ?_
          refine ⟨by rw [HO.out], ?_⟩
          repeat' (refine Below.setCell ?_ (by simp; try omega) _)
          exact HB
        · rw [if_neg h1] at hf
          generalize i * m + j * n = o1 at *
          go_wp2_with fail
          refine (D3 _).mono ?_
          rintro e w7 ⟨rfl, hB⟩
          replace T0 := T0.step hB; replace BM := BM.step hB; replace BA := BA.step hB; replace BB := BB.step hB
          clear hB bm0 bm1 ba0 ba1 bb0 bb1
          have bm0 := BM.c 0 rfl; have bm1 := BM.c 1 rfl; have ba0 := BA.c 0 rfl; have ba1 := BA.c 1 rfl; have bb0 := BB.c 0 rfl; have bb1 := BB.c 1 rfl
          by_cases h2 : k * m + l * n ≥ 0
          · rw [if_pos h2] at hf
            have E1 := implOf_det (k * k + l * l)
            have E2 := implOf_det 1
            have E3 := implRatioOf_det (k * k + l * l) 1 (told_big (by omega)) (by decide)
            rw [hf] at E3
            generalize k * m + l * n = o3 at *
            obtain ⟨b1l, b1u⟩ : -8000000000000 ≤ k * k + l * l ∧ k * k + l * l ≤ 8000000000000 := by omega
            replace E1 := fun w => E1 w (by omega) (by omega)
            replace E2 := fun w => E2 w (by decide) (by decide)
            clear b1 b2 b3 b4 b5 b6 b7 b8 D1 D3 D2 D5 D6 hf
            generalize k * k + l * l = o2 at *
            go_wp2_with fail
            refine (D4 _).mono ?_
            rintro e w8 ⟨rfl, hB⟩
            replace T0 := T0.step hB; replace BM := BM.step hB; replace BA := BA.step hB; replace BB := BB.step hB
            clear hB bm0 bm1 ba0 ba1 bb0 bb1
            have bm0 := BM.c 0 rfl; have bm1 := BM.c 1 rfl; have ba0 := BA.c 0 rfl; have ba1 := BA.c 1 rfl; have bb0 := BB.c 0 rfl; have bb1 := BB.c 1 rfl
            go_wp2_with fail
            refine (E1 _).mono ?_
            rintro e w9 ⟨rfl, hB⟩
            replace T0 := T0.step hB; replace BM := BM.step hB; replace BA := BA.step hB; replace BB := BB.step hB
            clear hB bm0 bm1 ba0 ba1 bb0 bb1
            have bm0 := BM.c 0 rfl; have bm1 := BM.c 1 rfl; have ba0 := BA.c 0 rfl; have ba1 := BA.c 1 rfl; have bb0 := BB.c 0 rfl; have bb1 := BB.c 1 rfl
            go_wp2_with fail
            refine (E2 _).mono ?_
            rintro e w10 ⟨rfl, hB⟩
            replace T0 := T0.step hB; replace BM := BM.step hB; replace BA := BA.step hB; replace BB := BB.step hB
            clear hB bm0 bm1 ba0 ba1 bb0 bb1
            have bm0 := BM.c 0 rfl; have bm1 := BM.c 1 rfl; have ba0 := BA.c 0 rfl; have ba1 := BA.c 1 rfl; have bb0 := BB.c 0 rfl; have bb1 := BB.c 1 rfl
            go_wp2_with fail
            refine (E3 _).mono ?_
            rintro e w11 ⟨rfl, hB⟩
            replace T0 := T0.step hB
            have o0 := (T0.b 2 rfl).c 0 rfl; have r0 := (T0.b 2 rfl).f 0 rfl; have o1 := (T0.b 2 rfl).c 1 rfl; have r1 := (T0.b 2 rfl).f 1 rfl; have o2 := (T0.b 2 rfl).c 2 rfl; have r2 := (T0.b 2 rfl).f 2 rfl; have o3 := (T0.b 2 rfl).c 3 rfl; have r3 := (T0.b 2 rfl).f 3 rfl; have o4 := (T0.b 2 rfl).c 4 rfl; have r4 := (T0.b 2 rfl).f 4 rfl; have o5 := (T0.b 2 rfl).c 5 rfl; have r5 := (T0.b 2 rfl).f 5 rfl; have o6 := (T0.b 2 rfl).c 6 rfl; have r6 := (T0.b 2 rfl).f 6 rfl; have o7 := (T0.b 2 rfl).c 7 rfl; have r7 := (T0.b 2 rfl).f 7 rfl; have olt := (T0.b 2 rfl).lt
            have HB := T0.below
            clear hB T0 BM BA BB bm0 bm1 ba0 ba1 bb0 bb1
            go_wp2
            refine bodyPost_ret (v := .tuple #[.agg #[.int .u64 z0, .int .u64 z1, .int .u64 z2, .int .u64 z3, .int .u64 z4, .int .u64 z5, .int .u64 z6, .int .u64 z7], .bool f]) (by simp [results, Tryz.results7, go_sem, o0, o1, o2, o3, o4, o5, o6, o7]) rfl ?_
            refine ⟨by rw [HO.out], ?_⟩
            repeat' (refine Below.setCell ?_ (by simp; try omega) _)
            exact HB
          · rw [if_neg h2] at hf
            generalize k * m + l * n = o3 at *
            obtain ⟨c1l, c1u⟩ : -8000000000000 ≤ m * j - n * i ∧ m * j - n * i ≤ 8000000000000 := by omega
            obtain ⟨c2l, c2u⟩ : -8000000000000 ≤ m * m + n * n ∧ m * m + n * n ≤ 8000000000000 := by omega
            clear b1 b2 b3 b4 b5 b6 b7 b8 D1 D2 D3 D4
            generalize m * j - n * i = C at *
            generalize m * m + n * n = G at *
            have c3 := mul_in (p := C) (q := C) (M := 8000000000000) (N := 8000000000000) c1l c1u c1l c1u
            have E1 := fun w => implOf_det C w (by omega) (by omega)
            have E2 := fun w => implOf_det G w (by omega) (by omega)
            have E3 := times_det C C (told_big (by omega)) (told_big (by omega))
            have E4 := toldI_det (C * C) (told_big (by omega))
            have E5 := implRatioOf_det (C * C) G (told_big (by omega)) (told_big (by omega))
            rw [hf] at E5
            clear hf c1l c1u c2l c2u c3
            generalize C * C = CC at *
            go_wp2_with fail
            refine (D5 _).mono ?_
            rintro e w8 ⟨rfl, hB⟩
            replace T0 := T0.step hB; replace BM := BM.step hB; replace BA := BA.step hB; replace BB := BB.step hB
            clear hB bm0 bm1 ba0 ba1 bb0 bb1
            have bm0 := BM.c 0 rfl; have bm1 := BM.c 1 rfl; have ba0 := BA.c 0 rfl; have ba1 := BA.c 1 rfl; have bb0 := BB.c 0 rfl; have bb1 := BB.c 1 rfl
            go_wp2_with fail
            refine (E1 _).mono ?_
            rintro e w9 ⟨rfl, hB⟩
            have hgT : w.heap.size + 2 < w9.heap.size := ((T0.step hB).b 2 rfl).lt
            replace T0 := (T0.step hB).alloc (.cells #[.int .u64 (ww3 C), .int .u64 (ww2 C), .int .u64 (ww1 C), .int .u64 (ww0 C)] 32)
            replace BM := (BM.step hB).alloc (.cells #[.int .u64 (ww3 C), .int .u64 (ww2 C), .int .u64 (ww1 C), .int .u64 (ww0 C)] 32)
            have BT := Blk.new w9 [.int .u64 (ww3 C), .int .u64 (ww2 C), .int .u64 (ww1 C), .int .u64 (ww0 C)] 32 rfl
            clear hB BA BB bm0 bm1 ba0 ba1 bb0 bb1 E1
            go_upto_region 10 with fail
            generalize w9.alloc (.cells #[.int .u64 (ww3 C), .int .u64 (ww2 C), .int .u64 (ww1 C), .int .u64 (ww0 C)] 32) = W9 at *
            generalize w9.heap.size = gT at *
            go_region_held3 (fun w' => w'.cell? ⟨gT, 0, none⟩ = some (.int .u64 (ww3 C)) ∧ w'.cell? ⟨gT, 1, none⟩ = some (.int .u64 (ww2 C)) ∧ w'.cell? ⟨gT, 2, none⟩ = some (.int .u64 (ww1 C)) ∧ w'.cell? ⟨gT, 3, none⟩ = some (.int .u64 (ww0 C)) ∧ w'.cell? ⟨gM, 0, none⟩ = some (.int .i64 m) ∧ w'.cell? ⟨gM, 1, none⟩ = some (.int .i64 n)) (first | (with_reducible exact nt_cells BT BM) | (with_reducible exact nt_cells BT.drew BM.drew) | (with_reducible exact nt_cells8 BT BM (by omega) (by omega)))
              (first
                | (go_at_call 33; refine (E3 _).mono ?_; rintro e k1 ⟨rfl, hB⟩; (first | (replace BT := BT.step hB; replace BM := BM.step hB; replace T0 := T0.step hB) | (replace BT := BT.drew.step hB; replace BM := BM.drew.step hB; replace T0 := T0.drew.step hB)); clear hB)
                | (go_at_call 32; refine (E4 _).mono ?_; rintro e k2 ⟨rfl, hB⟩; (first | (replace BT := BT.step hB; replace BM := BM.step hB; replace T0 := T0.step hB) | (replace BT := BT.drew.step hB; replace BM := BM.drew.step hB; replace T0 := T0.drew.step hB)); clear hB)
                | (go_at_call 28; refine (D6 _).mono ?_; rintro e k3 ⟨rfl, hB⟩; (first | (replace BT := BT.step hB; replace BM := BM.step hB; replace T0 := T0.step hB) | (replace BT := BT.drew.step hB; replace BM := BM.drew.step hB; replace T0 := T0.drew.step hB)); clear hB)
                | (go_at_call 30; refine (E2 _).mono ?_; rintro e k4 ⟨rfl, hB⟩; (first | (replace BT := BT.step hB; replace BM := BM.step hB; replace T0 := T0.step hB) | (replace BT := BT.drew.step hB; replace BM := BM.drew.step hB; replace T0 := T0.drew.step hB)); clear hB)
                | (go_at_call 29; refine (E5 _).mono ?_; rintro e k5 ⟨rfl, hB⟩; (first | (replace BT := BT.step hB; replace BM := BM.step hB; replace T0 := T0.step hB) | (replace BT := BT.drew.step hB; replace BM := BM.drew.step hB; replace T0 := T0.drew.step hB)); clear hB; have o0 := (T0.b 2 rfl).c 0 rfl; have r0 := (T0.b 2 rfl).f 0 rfl; have o1 := (T0.b 2 rfl).c 1 rfl; have r1 := (T0.b 2 rfl).f 1 rfl; have o2 := (T0.b 2 rfl).c 2 rfl; have r2 := (T0.b 2 rfl).f 2 rfl; have o3 := (T0.b 2 rfl).c 3 rfl; have r3 := (T0.b 2 rfl).f 3 rfl; have o4 := (T0.b 2 rfl).c 4 rfl; have r4 := (T0.b 2 rfl).f 4 rfl; have o5 := (T0.b 2 rfl).c 5 rfl; have r5 := (T0.b 2 rfl).f 5 rfl; have o6 := (T0.b 2 rfl).c 6 rfl; have r6 := (T0.b 2 rfl).f 6 rfl; have o7 := (T0.b 2 rfl).c 7 rfl; have r7 := (T0.b 2 rfl).f 7 rfl; have olt := (T0.b 2 rfl).lt))
            all_goals have HB := T0.below
            all_goals clear BM BT T0
            all_goals go_wp2
            all_goals refine bodyPost_ret (v := .tuple #[.agg #[.int .u64 z0, .int .u64 z1, .int .u64 z2, .int .u64 z3, .int .u64 z4, .int .u64 z5, .int .u64 z6, .int .u64 z7], .bool f]) (by simp [results, Tryz.results7, go_sem, o0, o1, o2, o3, o4, o5, o6, o7]) rfl ?_
            all_goals refine ⟨by rw [HO.out], ?_⟩
            all_goals repeat' (refine Below.setCell ?_ (by simp; try omega) _)
            all_goals first | exact HB | exact HB.drew
    · replace hp := Bool.eq_false_iff.2 hp
      rw [hp]
      have HO : Hid (nearV a b c d x y = .tuple #[.agg #[.int .u64 0, .int .u64 0, .int .u64 0, .int .u64 0, .int .u64 0, .int .u64 0, .int .u64 0, .int .u64 0], .bool false]) := by show _ = _; unfold nearV; rw [hp]; simp
      have o0 := (T0.b 2 rfl).c 0 rfl; have r0 := (T0.b 2 rfl).f 0 rfl; have o1 := (T0.b 2 rfl).c 1 rfl; have r1 := (T0.b 2 rfl).f 1 rfl; have o2 := (T0.b 2 rfl).c 2 rfl; have r2 := (T0.b 2 rfl).f 2 rfl; have o3 := (T0.b 2 rfl).c 3 rfl; have r3 := (T0.b 2 rfl).f 3 rfl; have o4 := (T0.b 2 rfl).c 4 rfl; have r4 := (T0.b 2 rfl).f 4 rfl; have o5 := (T0.b 2 rfl).c 5 rfl; have r5 := (T0.b 2 rfl).f 5 rfl; have o6 := (T0.b 2 rfl).c 6 rfl; have r6 := (T0.b 2 rfl).f 6 rfl; have o7 := (T0.b 2 rfl).c 7 rfl; have r7 := (T0.b 2 rfl).f 7 rfl; have olt := (T0.b 2 rfl).lt
      have HB := T0.below
      clear T0
      go_wp2
      refine bodyPost_ret (v := .tuple #[.agg #[.int .u64 0, .int .u64 0, .int .u64 0, .int .u64 0, .int .u64 0, .int .u64 0, .int .u64 0, .int .u64 0], .bool false]) (by simp [results, Tryz.results7, go_sem, o0, o1, o2, o3, o4, o5, o6, o7]) rfl ?_
      refine ⟨by rw [HO.out], ?_⟩
      repeat' (refine Below.setCell ?_ (by simp; try omega) _)
      exact HB
  · replace hs := Bool.eq_false_iff.2 hs
    rw [hs]
    have HO : Hid (nearV a b c d x y = .tuple #[.agg #[.int .u64 0, .int .u64 0, .int .u64 0, .int .u64 0, .int .u64 0, .int .u64 0, .int .u64 0, .int .u64 0], .bool false]) := by show _ = _; unfold nearV; rw [hs]; simp
    have o0 := (T0.b 2 rfl).c 0 rfl; have r0 := (T0.b 2 rfl).f 0 rfl; have o1 := (T0.b 2 rfl).c 1 rfl; have r1 := (T0.b 2 rfl).f 1 rfl; have o2 := (T0.b 2 rfl).c 2 rfl; have r2 := (T0.b 2 rfl).f 2 rfl; have o3 := (T0.b 2 rfl).c 3 rfl; have r3 := (T0.b 2 rfl).f 3 rfl; have o4 := (T0.b 2 rfl).c 4 rfl; have r4 := (T0.b 2 rfl).f 4 rfl; have o5 := (T0.b 2 rfl).c 5 rfl; have r5 := (T0.b 2 rfl).f 5 rfl; have o6 := (T0.b 2 rfl).c 6 rfl; have r6 := (T0.b 2 rfl).f 6 rfl; have o7 := (T0.b 2 rfl).c 7 rfl; have r7 := (T0.b 2 rfl).f 7 rfl; have olt := (T0.b 2 rfl).lt
    have HB := T0.below
    clear T0
    go_wp2
    refine bodyPost_ret (v := .tuple #[.agg #[.int .u64 0, .int .u64 0, .int .u64 0, .int .u64 0, .int .u64 0, .int .u64 0, .int .u64 0, .int .u64 0], .bool false]) (by simp [results, Tryz.results7, go_sem, o0, o1, o2, o3, o4, o5, o6, o7]) rfl ?_
    refine ⟨by rw [HO.out], ?_⟩
    repeat' (refine Below.setCell ?_ (by simp; try omega) _)
    exact HB
end Go.Proofs.YtpnnpkchogooaaaGreat

/- A segment is no nearer than is told: the law over drawn ones. -/
namespace Go.Proofs.YtpnnpkchogooaaaGreat
open Go.RowKit
theorem bigF_any (ao : Option Addr) (n cap : Nat) (w : World) (z : Bool) (hz : decide (1048576 < n) = z) : Calls Tryz.prog 5 #[.slice ao n cap] w (BoolP z w) := by
  subst hz
  go_enter Tryz.func5, Tryz.ntmps5
  go_wp2
  go_ret
  exact ⟨by simp; try omega, Below.refl _ _⟩
theorem told_i {a : Int} (h : I64 a) : told a = true := decide_eq_true (by have := h.1; have := h.2; omega)
set_option maxRecDepth 100000 in
set_option maxHeartbeats 8000000 in
theorem lawNearOf_any (ao : Option Addr) (n cap : Nat) (cs : List Int) (w : World) (h : n ≤ 1048576 → Code w ao n cs) : Calls Tryz.prog 3 #[.slice ao n cap] w (BoolP true w) := by
  by_cases hn : 1048576 < n
  · go_enter Tryz.func3, Tryz.ntmps3
    go_wp2_with fail
    refine (bigF_any ao n cap _ true (by simpa using hn)).mono ?_
    rintro e w1 ⟨rfl, hB⟩
    clear h
    go_wp2
    go_ret
    exact ⟨rfl, hB⟩
  · have hc := h (by omega)
    clear h
    go_enter Tryz.func3, Tryz.ntmps3
    go_wp2_with fail
    refine (bigF_any ao n cap _ false (by simpa using hn)).mono ?_
    rintro e w1 ⟨rfl, HB⟩
    replace hc := hc.below HB
    go_wp2_with fail
    refine (drawNear2_any ao n cap cs _ hc).mono ?_
    rintro e w2 ⟨a, b, c, d, x, y, rfl, ia, ib, ic, id, ix, iy, hB⟩
    replace HB := HB.trans (hB.mono HB.size)
    clear hB hc hn
    obtain ⟨U, V, f, hv, tU, tV, hf, hf0⟩ := nearV_told a b c d x y
    have EQ := eqRtN U V tU tV
    have e1 : (f != f) = false := by simp
    have CI := implNear2_det a b c d x y
    have CS := specNear2_det a b c d x y
    rw [hv] at CI CS
    clear hv
    have X3 := (Blk.new w2 [.int .i64 a, .int .i64 b, .int .i64 c, .int .i64 d] 27 rfl).alloc (.cells #[.int .i64 x, .int .i64 y] 25)
    have X4 := Blk.new (w2.alloc (.cells #[.int .i64 a, .int .i64 b, .int .i64 c, .int .i64 d] 27)) [.int .i64 x, .int .i64 y] 25 (g := w2.heap.size + 1) (by simp)
    rw [show ([.int .i64 a, .int .i64 b, .int .i64 c, .int .i64 d] : List Value).toArray = #[.int .i64 a, .int .i64 b, .int .i64 c, .int .i64 d] from rfl] at X3 X4
    rw [show ([.int .i64 x, .int .i64 y] : List Value).toArray = #[.int .i64 x, .int .i64 y] from rfl] at X4
    have ha : Below w2.heap.size w2 ((w2.alloc (.cells #[.int .i64 a, .int .i64 b, .int .i64 c, .int .i64 d] 27)).alloc (.cells #[.int .i64 x, .int .i64 y] 25)) := ((Below.refl _ _).alloc (Nat.le_refl _) _).alloc (by simp) _
    replace HB := HB.trans (ha.mono HB.size)
    clear ha
    go_upto_region 4 with fail
    revert X3 X4 HB
    generalize ((w2.alloc (.cells #[.int .i64 a, .int .i64 b, .int .i64 c, .int .i64 d] 27)).alloc (.cells #[.int .i64 x, .int .i64 y] 25)) = W2
    generalize w2.heap.size + 1 = A4
    generalize w2.heap.size = A3
    intro X3 X4 HB
    obtain ⟨p0, p1⟩ := X4.cs2
    obtain ⟨q0, q1, q2, q3⟩ := X3.cs4
    go_wp2_with fail
    clear p0 p1 q0 q1 q2 q3
    refine (CI _).mono ?_
    rintro e w4 ⟨rfl, hB⟩
    replace HB := HB.trans (hB.mono HB.size)
    replace X3 := X3.step hB
    replace X4 := X4.step hB
    clear hB
    have X5 := Blk.new w4 [.int .u64 (ww3 U), .int .u64 (ww2 U), .int .u64 (ww1 U), .int .u64 (ww0 U), .int .u64 (ww3 V), .int .u64 (ww2 V), .int .u64 (ww1 V), .int .u64 (ww0 V)] 34 rfl
    rw [show ([.int .u64 (ww3 U), .int .u64 (ww2 U), .int .u64 (ww1 U), .int .u64 (ww0 U), .int .u64 (ww3 V), .int .u64 (ww2 V), .int .u64 (ww1 V), .int .u64 (ww0 V)] : List Value).toArray = #[.int .u64 (ww3 U), .int .u64 (ww2 U), .int .u64 (ww1 U), .int .u64 (ww0 U), .int .u64 (ww3 V), .int .u64 (ww2 V), .int .u64 (ww1 V), .int .u64 (ww0 V)] from rfl] at X5
    replace HB := HB.alloc HB.size (.cells #[.int .u64 (ww3 U), .int .u64 (ww2 U), .int .u64 (ww1 U), .int .u64 (ww0 U), .int .u64 (ww3 V), .int .u64 (ww2 V), .int .u64 (ww1 V), .int .u64 (ww0 V)] 34)
    replace X3 := X3.alloc (.cells #[.int .u64 (ww3 U), .int .u64 (ww2 U), .int .u64 (ww1 U), .int .u64 (ww0 U), .int .u64 (ww3 V), .int .u64 (ww2 V), .int .u64 (ww1 V), .int .u64 (ww0 V)] 34)
    replace X4 := X4.alloc (.cells #[.int .u64 (ww3 U), .int .u64 (ww2 U), .int .u64 (ww1 U), .int .u64 (ww0 U), .int .u64 (ww3 V), .int .u64 (ww2 V), .int .u64 (ww1 V), .int .u64 (ww0 V)] 34)
    go_upto_region 5 with fail
    revert X5 HB X3 X4
    generalize (w4.alloc (.cells #[.int .u64 (ww3 U), .int .u64 (ww2 U), .int .u64 (ww1 U), .int .u64 (ww0 U), .int .u64 (ww3 V), .int .u64 (ww2 V), .int .u64 (ww1 V), .int .u64 (ww0 V)] 34)) = W4
    generalize w4.heap.size = A5
    intro X5 HB X3 X4
    obtain ⟨p0, p1⟩ := X4.cs2
    obtain ⟨q0, q1, q2, q3⟩ := X3.cs4
    go_wp2_with fail
    clear p0 p1 q0 q1 q2 q3
    refine (CS _).mono ?_
    rintro e w5 ⟨rfl, hB⟩
    replace HB := HB.trans (hB.mono HB.size)
    replace X3 := X3.step hB
    replace X4 := X4.step hB
    replace X5 := X5.step hB
    clear hB
    have X7 := Blk.new w5 [.int .u64 (ww3 U), .int .u64 (ww2 U), .int .u64 (ww1 U), .int .u64 (ww0 U), .int .u64 (ww3 V), .int .u64 (ww2 V), .int .u64 (ww1 V), .int .u64 (ww0 V)] 34 rfl
    rw [show ([.int .u64 (ww3 U), .int .u64 (ww2 U), .int .u64 (ww1 U), .int .u64 (ww0 U), .int .u64 (ww3 V), .int .u64 (ww2 V), .int .u64 (ww1 V), .int .u64 (ww0 V)] : List Value).toArray = #[.int .u64 (ww3 U), .int .u64 (ww2 U), .int .u64 (ww1 U), .int .u64 (ww0 U), .int .u64 (ww3 V), .int .u64 (ww2 V), .int .u64 (ww1 V), .int .u64 (ww0 V)] from rfl] at X7
    replace HB := HB.alloc HB.size (.cells #[.int .u64 (ww3 U), .int .u64 (ww2 U), .int .u64 (ww1 U), .int .u64 (ww0 U), .int .u64 (ww3 V), .int .u64 (ww2 V), .int .u64 (ww1 V), .int .u64 (ww0 V)] 34)
    replace X3 := X3.alloc (.cells #[.int .u64 (ww3 U), .int .u64 (ww2 U), .int .u64 (ww1 U), .int .u64 (ww0 U), .int .u64 (ww3 V), .int .u64 (ww2 V), .int .u64 (ww1 V), .int .u64 (ww0 V)] 34)
    replace X4 := X4.alloc (.cells #[.int .u64 (ww3 U), .int .u64 (ww2 U), .int .u64 (ww1 U), .int .u64 (ww0 U), .int .u64 (ww3 V), .int .u64 (ww2 V), .int .u64 (ww1 V), .int .u64 (ww0 V)] 34)
    replace X5 := X5.alloc (.cells #[.int .u64 (ww3 U), .int .u64 (ww2 U), .int .u64 (ww1 U), .int .u64 (ww0 U), .int .u64 (ww3 V), .int .u64 (ww2 V), .int .u64 (ww1 V), .int .u64 (ww0 V)] 34)
    go_upto_region 6 with fail
    revert X7 HB X3 X4 X5
    generalize (w5.alloc (.cells #[.int .u64 (ww3 U), .int .u64 (ww2 U), .int .u64 (ww1 U), .int .u64 (ww0 U), .int .u64 (ww3 V), .int .u64 (ww2 V), .int .u64 (ww1 V), .int .u64 (ww0 V)] 34)) = W5
    generalize w5.heap.size = A7
    intro X7 HB X3 X4 X5
    clear CI CS
    obtain ⟨c0, c1, c2, c3, c4, c5, c6, c7⟩ := X5.cs8
    obtain ⟨d0, d1, d2, d3, d4, d5, d6, d7⟩ := X7.cs8
    go_upto_region 8 with fail
    clear c0 c1 c2 c3 c4 c5 c6 c7 d0 d1 d2 d3 d4 d5 d6 d7 X7
    cases f
    · have hs := hf0 rfl
      have SO := fun w => implSegOk_any a b c d _ rfl w
      have PO := fun w => implSpotOk_any x y _ rfl w
      obtain ⟨q0, q1, q2, q3⟩ := X3.cs4
      go_wp2_with fail
      clear q0 q1 q2 q3
      refine (SO _).mono ?_
      rintro e w6 ⟨rfl, hB⟩
      replace HB := HB.trans (hB.mono HB.size)
      replace X3 := X3.step hB
      replace X4 := X4.step hB
      clear hB
      cases hso : segOk a b c d
      · go_wp2
        go_ret
        exact ⟨rfl, HB⟩
      · have hsp := hs hso
        obtain ⟨p0, p1⟩ := X4.cs2
        go_wp2_with fail
        clear p0 p1
        refine (PO _).mono ?_
        rintro e w7 ⟨rfl, hB⟩
        replace HB := HB.trans (hB.mono HB.size)
        clear hB
        rw [hsp]
        go_wp2
        go_ret
        exact ⟨rfl, HB⟩
    · obtain ⟨hsg, hsp, hU, hV⟩ := hf rfl
      clear hf hf0
      obtain ⟨m1, m2, m3, hmid, t1, t2, t3, F1, F2, F3⟩ := far_three hsg hsp
      have hon := nU_zero hsg hsp
      have hrt := near_right hsg hsp
      rw [← hU, ← hV] at F1 F2 F3 hrt
      rw [← hU] at hon
      clear hU hV hsg hsp
      have PP := implPointOf_any x y ix.1 ix.2 iy.1 iy.2
      have PA := implPointOf_any a b ia.1 ia.2 ib.1 ib.2
      have PB := implPointOf_any c d ic.1 ic.2 id.1 id.2
      have CM := implMiddle_det a b 1 c d 1 (told_i ia) (told_i ib) (by decide) (told_i ic) (told_i id) (by decide)
      rw [hmid] at CM
      have CO := implOnSeg_det a b c d x y 1 ia ib ic id (told_i ix) (told_i iy) (by decide)
      have CW := sign_det U tU
      obtain ⟨p0, p1⟩ := X4.cs2
      go_wp2_with fail
      clear p0 p1 X4
      refine (PP _).mono ?_
      rintro e w6 ⟨rfl, hB⟩
      replace HB := HB.trans (hB.mono HB.size)
      replace X3 := X3.step hB
      replace X5 := X5.step hB
      clear hB
      have X9 := Blk.new w6 [.int .u64 (ww3 x), .int .u64 (ww2 x), .int .u64 (ww1 x), .int .u64 (ww0 x), .int .u64 (ww3 y), .int .u64 (ww2 y), .int .u64 (ww1 y), .int .u64 (ww0 y), .int .u64 (ww3 1), .int .u64 (ww2 1), .int .u64 (ww1 1), .int .u64 (ww0 1)] 40 rfl
      rw [show ([.int .u64 (ww3 x), .int .u64 (ww2 x), .int .u64 (ww1 x), .int .u64 (ww0 x), .int .u64 (ww3 y), .int .u64 (ww2 y), .int .u64 (ww1 y), .int .u64 (ww0 y), .int .u64 (ww3 1), .int .u64 (ww2 1), .int .u64 (ww1 1), .int .u64 (ww0 1)] : List Value).toArray = #[.int .u64 (ww3 x), .int .u64 (ww2 x), .int .u64 (ww1 x), .int .u64 (ww0 x), .int .u64 (ww3 y), .int .u64 (ww2 y), .int .u64 (ww1 y), .int .u64 (ww0 y), .int .u64 (ww3 1), .int .u64 (ww2 1), .int .u64 (ww1 1), .int .u64 (ww0 1)] from rfl] at X9
      replace HB := HB.alloc HB.size (.cells #[.int .u64 (ww3 x), .int .u64 (ww2 x), .int .u64 (ww1 x), .int .u64 (ww0 x), .int .u64 (ww3 y), .int .u64 (ww2 y), .int .u64 (ww1 y), .int .u64 (ww0 y), .int .u64 (ww3 1), .int .u64 (ww2 1), .int .u64 (ww1 1), .int .u64 (ww0 1)] 40)
      replace X3 := X3.alloc (.cells #[.int .u64 (ww3 x), .int .u64 (ww2 x), .int .u64 (ww1 x), .int .u64 (ww0 x), .int .u64 (ww3 y), .int .u64 (ww2 y), .int .u64 (ww1 y), .int .u64 (ww0 y), .int .u64 (ww3 1), .int .u64 (ww2 1), .int .u64 (ww1 1), .int .u64 (ww0 1)] 40)
      replace X5 := X5.alloc (.cells #[.int .u64 (ww3 x), .int .u64 (ww2 x), .int .u64 (ww1 x), .int .u64 (ww0 x), .int .u64 (ww3 y), .int .u64 (ww2 y), .int .u64 (ww1 y), .int .u64 (ww0 y), .int .u64 (ww3 1), .int .u64 (ww2 1), .int .u64 (ww1 1), .int .u64 (ww0 1)] 40)
      go_upto_region 11 with fail
      revert X9 HB X3 X5
      generalize (w6.alloc (.cells #[.int .u64 (ww3 x), .int .u64 (ww2 x), .int .u64 (ww1 x), .int .u64 (ww0 x), .int .u64 (ww3 y), .int .u64 (ww2 y), .int .u64 (ww1 y), .int .u64 (ww0 y), .int .u64 (ww3 1), .int .u64 (ww2 1), .int .u64 (ww1 1), .int .u64 (ww0 1)] 40)) = W6
      generalize w6.heap.size = A9
      intro X9 HB X3 X5
      obtain ⟨q0, q1, q2, q3⟩ := X3.cs4
      go_wp2_with fail
      clear q0 q1 q2 q3
      refine (PA _).mono ?_
      rintro e w7 ⟨rfl, hB⟩
      replace HB := HB.trans (hB.mono HB.size)
      replace X3 := X3.step hB
      replace X5 := X5.step hB
      replace X9 := X9.step hB
      clear hB
      have X10 := Blk.new w7 [.int .u64 (ww3 a), .int .u64 (ww2 a), .int .u64 (ww1 a), .int .u64 (ww0 a), .int .u64 (ww3 b), .int .u64 (ww2 b), .int .u64 (ww1 b), .int .u64 (ww0 b), .int .u64 (ww3 1), .int .u64 (ww2 1), .int .u64 (ww1 1), .int .u64 (ww0 1)] 40 rfl
      rw [show ([.int .u64 (ww3 a), .int .u64 (ww2 a), .int .u64 (ww1 a), .int .u64 (ww0 a), .int .u64 (ww3 b), .int .u64 (ww2 b), .int .u64 (ww1 b), .int .u64 (ww0 b), .int .u64 (ww3 1), .int .u64 (ww2 1), .int .u64 (ww1 1), .int .u64 (ww0 1)] : List Value).toArray = #[.int .u64 (ww3 a), .int .u64 (ww2 a), .int .u64 (ww1 a), .int .u64 (ww0 a), .int .u64 (ww3 b), .int .u64 (ww2 b), .int .u64 (ww1 b), .int .u64 (ww0 b), .int .u64 (ww3 1), .int .u64 (ww2 1), .int .u64 (ww1 1), .int .u64 (ww0 1)] from rfl] at X10
      replace HB := HB.alloc HB.size (.cells #[.int .u64 (ww3 a), .int .u64 (ww2 a), .int .u64 (ww1 a), .int .u64 (ww0 a), .int .u64 (ww3 b), .int .u64 (ww2 b), .int .u64 (ww1 b), .int .u64 (ww0 b), .int .u64 (ww3 1), .int .u64 (ww2 1), .int .u64 (ww1 1), .int .u64 (ww0 1)] 40)
      replace X3 := X3.alloc (.cells #[.int .u64 (ww3 a), .int .u64 (ww2 a), .int .u64 (ww1 a), .int .u64 (ww0 a), .int .u64 (ww3 b), .int .u64 (ww2 b), .int .u64 (ww1 b), .int .u64 (ww0 b), .int .u64 (ww3 1), .int .u64 (ww2 1), .int .u64 (ww1 1), .int .u64 (ww0 1)] 40)
      replace X5 := X5.alloc (.cells #[.int .u64 (ww3 a), .int .u64 (ww2 a), .int .u64 (ww1 a), .int .u64 (ww0 a), .int .u64 (ww3 b), .int .u64 (ww2 b), .int .u64 (ww1 b), .int .u64 (ww0 b), .int .u64 (ww3 1), .int .u64 (ww2 1), .int .u64 (ww1 1), .int .u64 (ww0 1)] 40)
      replace X9 := X9.alloc (.cells #[.int .u64 (ww3 a), .int .u64 (ww2 a), .int .u64 (ww1 a), .int .u64 (ww0 a), .int .u64 (ww3 b), .int .u64 (ww2 b), .int .u64 (ww1 b), .int .u64 (ww0 b), .int .u64 (ww3 1), .int .u64 (ww2 1), .int .u64 (ww1 1), .int .u64 (ww0 1)] 40)
      go_upto_region 12 with fail
      revert X10 HB X3 X5 X9
      generalize (w7.alloc (.cells #[.int .u64 (ww3 a), .int .u64 (ww2 a), .int .u64 (ww1 a), .int .u64 (ww0 a), .int .u64 (ww3 b), .int .u64 (ww2 b), .int .u64 (ww1 b), .int .u64 (ww0 b), .int .u64 (ww3 1), .int .u64 (ww2 1), .int .u64 (ww1 1), .int .u64 (ww0 1)] 40)) = W7
      generalize w7.heap.size = A10
      intro X10 HB X3 X5 X9
      obtain ⟨q0, q1, q2, q3⟩ := X3.cs4
      go_wp2_with fail
      clear q0 q1 q2 q3
      refine (PB _).mono ?_
      rintro e w8 ⟨rfl, hB⟩
      replace HB := HB.trans (hB.mono HB.size)
      replace X3 := X3.step hB
      replace X5 := X5.step hB
      replace X9 := X9.step hB
      replace X10 := X10.step hB
      clear hB
      have X11 := Blk.new w8 [.int .u64 (ww3 c), .int .u64 (ww2 c), .int .u64 (ww1 c), .int .u64 (ww0 c), .int .u64 (ww3 d), .int .u64 (ww2 d), .int .u64 (ww1 d), .int .u64 (ww0 d), .int .u64 (ww3 1), .int .u64 (ww2 1), .int .u64 (ww1 1), .int .u64 (ww0 1)] 40 rfl
      rw [show ([.int .u64 (ww3 c), .int .u64 (ww2 c), .int .u64 (ww1 c), .int .u64 (ww0 c), .int .u64 (ww3 d), .int .u64 (ww2 d), .int .u64 (ww1 d), .int .u64 (ww0 d), .int .u64 (ww3 1), .int .u64 (ww2 1), .int .u64 (ww1 1), .int .u64 (ww0 1)] : List Value).toArray = #[.int .u64 (ww3 c), .int .u64 (ww2 c), .int .u64 (ww1 c), .int .u64 (ww0 c), .int .u64 (ww3 d), .int .u64 (ww2 d), .int .u64 (ww1 d), .int .u64 (ww0 d), .int .u64 (ww3 1), .int .u64 (ww2 1), .int .u64 (ww1 1), .int .u64 (ww0 1)] from rfl] at X11
      replace HB := HB.alloc HB.size (.cells #[.int .u64 (ww3 c), .int .u64 (ww2 c), .int .u64 (ww1 c), .int .u64 (ww0 c), .int .u64 (ww3 d), .int .u64 (ww2 d), .int .u64 (ww1 d), .int .u64 (ww0 d), .int .u64 (ww3 1), .int .u64 (ww2 1), .int .u64 (ww1 1), .int .u64 (ww0 1)] 40)
      replace X3 := X3.alloc (.cells #[.int .u64 (ww3 c), .int .u64 (ww2 c), .int .u64 (ww1 c), .int .u64 (ww0 c), .int .u64 (ww3 d), .int .u64 (ww2 d), .int .u64 (ww1 d), .int .u64 (ww0 d), .int .u64 (ww3 1), .int .u64 (ww2 1), .int .u64 (ww1 1), .int .u64 (ww0 1)] 40)
      replace X5 := X5.alloc (.cells #[.int .u64 (ww3 c), .int .u64 (ww2 c), .int .u64 (ww1 c), .int .u64 (ww0 c), .int .u64 (ww3 d), .int .u64 (ww2 d), .int .u64 (ww1 d), .int .u64 (ww0 d), .int .u64 (ww3 1), .int .u64 (ww2 1), .int .u64 (ww1 1), .int .u64 (ww0 1)] 40)
      replace X9 := X9.alloc (.cells #[.int .u64 (ww3 c), .int .u64 (ww2 c), .int .u64 (ww1 c), .int .u64 (ww0 c), .int .u64 (ww3 d), .int .u64 (ww2 d), .int .u64 (ww1 d), .int .u64 (ww0 d), .int .u64 (ww3 1), .int .u64 (ww2 1), .int .u64 (ww1 1), .int .u64 (ww0 1)] 40)
      replace X10 := X10.alloc (.cells #[.int .u64 (ww3 c), .int .u64 (ww2 c), .int .u64 (ww1 c), .int .u64 (ww0 c), .int .u64 (ww3 d), .int .u64 (ww2 d), .int .u64 (ww1 d), .int .u64 (ww0 d), .int .u64 (ww3 1), .int .u64 (ww2 1), .int .u64 (ww1 1), .int .u64 (ww0 1)] 40)
      go_upto_region 13 with fail
      revert X11 HB X3 X5 X9 X10
      generalize (w8.alloc (.cells #[.int .u64 (ww3 c), .int .u64 (ww2 c), .int .u64 (ww1 c), .int .u64 (ww0 c), .int .u64 (ww3 d), .int .u64 (ww2 d), .int .u64 (ww1 d), .int .u64 (ww0 d), .int .u64 (ww3 1), .int .u64 (ww2 1), .int .u64 (ww1 1), .int .u64 (ww0 1)] 40)) = W8
      generalize w8.heap.size = A11
      intro X11 HB X3 X5 X9 X10
      have p0 := X10.c 0 rfl; have p1 := X10.c 1 rfl; have p2 := X10.c 2 rfl; have p3 := X10.c 3 rfl; have p4 := X10.c 4 rfl; have p5 := X10.c 5 rfl; have p6 := X10.c 6 rfl; have p7 := X10.c 7 rfl; have p8 := X10.c 8 rfl; have p9 := X10.c 9 rfl; have p10 := X10.c 10 rfl; have p11 := X10.c 11 rfl
      have q0 := X11.c 0 rfl; have q1 := X11.c 1 rfl; have q2 := X11.c 2 rfl; have q3 := X11.c 3 rfl; have q4 := X11.c 4 rfl; have q5 := X11.c 5 rfl; have q6 := X11.c 6 rfl; have q7 := X11.c 7 rfl; have q8 := X11.c 8 rfl; have q9 := X11.c 9 rfl; have q10 := X11.c 10 rfl; have q11 := X11.c 11 rfl
      go_wp2_with fail
      clear p0 p1 p2 p3 p4 p5 p6 p7 p8 p9 p10 p11 q0 q1 q2 q3 q4 q5 q6 q7 q8 q9 q10 q11
      refine (CM _).mono ?_
      rintro e w9 ⟨rfl, hB⟩
      replace HB := HB.trans (hB.mono HB.size)
      replace X3 := X3.step hB
      replace X5 := X5.step hB
      replace X9 := X9.step hB
      replace X10 := X10.step hB
      replace X11 := X11.step hB
      clear hB
      have X12 := Blk.new w9 [.int .u64 (ww3 m1), .int .u64 (ww2 m1), .int .u64 (ww1 m1), .int .u64 (ww0 m1), .int .u64 (ww3 m2), .int .u64 (ww2 m2), .int .u64 (ww1 m2), .int .u64 (ww0 m2), .int .u64 (ww3 m3), .int .u64 (ww2 m3), .int .u64 (ww1 m3), .int .u64 (ww0 m3)] 40 rfl
      rw [show ([.int .u64 (ww3 m1), .int .u64 (ww2 m1), .int .u64 (ww1 m1), .int .u64 (ww0 m1), .int .u64 (ww3 m2), .int .u64 (ww2 m2), .int .u64 (ww1 m2), .int .u64 (ww0 m2), .int .u64 (ww3 m3), .int .u64 (ww2 m3), .int .u64 (ww1 m3), .int .u64 (ww0 m3)] : List Value).toArray = #[.int .u64 (ww3 m1), .int .u64 (ww2 m1), .int .u64 (ww1 m1), .int .u64 (ww0 m1), .int .u64 (ww3 m2), .int .u64 (ww2 m2), .int .u64 (ww1 m2), .int .u64 (ww0 m2), .int .u64 (ww3 m3), .int .u64 (ww2 m3), .int .u64 (ww1 m3), .int .u64 (ww0 m3)] from rfl] at X12
      replace HB := HB.alloc HB.size (.cells #[.int .u64 (ww3 m1), .int .u64 (ww2 m1), .int .u64 (ww1 m1), .int .u64 (ww0 m1), .int .u64 (ww3 m2), .int .u64 (ww2 m2), .int .u64 (ww1 m2), .int .u64 (ww0 m2), .int .u64 (ww3 m3), .int .u64 (ww2 m3), .int .u64 (ww1 m3), .int .u64 (ww0 m3)] 40)
      replace X3 := X3.alloc (.cells #[.int .u64 (ww3 m1), .int .u64 (ww2 m1), .int .u64 (ww1 m1), .int .u64 (ww0 m1), .int .u64 (ww3 m2), .int .u64 (ww2 m2), .int .u64 (ww1 m2), .int .u64 (ww0 m2), .int .u64 (ww3 m3), .int .u64 (ww2 m3), .int .u64 (ww1 m3), .int .u64 (ww0 m3)] 40)
      replace X5 := X5.alloc (.cells #[.int .u64 (ww3 m1), .int .u64 (ww2 m1), .int .u64 (ww1 m1), .int .u64 (ww0 m1), .int .u64 (ww3 m2), .int .u64 (ww2 m2), .int .u64 (ww1 m2), .int .u64 (ww0 m2), .int .u64 (ww3 m3), .int .u64 (ww2 m3), .int .u64 (ww1 m3), .int .u64 (ww0 m3)] 40)
      replace X9 := X9.alloc (.cells #[.int .u64 (ww3 m1), .int .u64 (ww2 m1), .int .u64 (ww1 m1), .int .u64 (ww0 m1), .int .u64 (ww3 m2), .int .u64 (ww2 m2), .int .u64 (ww1 m2), .int .u64 (ww0 m2), .int .u64 (ww3 m3), .int .u64 (ww2 m3), .int .u64 (ww1 m3), .int .u64 (ww0 m3)] 40)
      replace X10 := X10.alloc (.cells #[.int .u64 (ww3 m1), .int .u64 (ww2 m1), .int .u64 (ww1 m1), .int .u64 (ww0 m1), .int .u64 (ww3 m2), .int .u64 (ww2 m2), .int .u64 (ww1 m2), .int .u64 (ww0 m2), .int .u64 (ww3 m3), .int .u64 (ww2 m3), .int .u64 (ww1 m3), .int .u64 (ww0 m3)] 40)
      replace X11 := X11.alloc (.cells #[.int .u64 (ww3 m1), .int .u64 (ww2 m1), .int .u64 (ww1 m1), .int .u64 (ww0 m1), .int .u64 (ww3 m2), .int .u64 (ww2 m2), .int .u64 (ww1 m2), .int .u64 (ww0 m2), .int .u64 (ww3 m3), .int .u64 (ww2 m3), .int .u64 (ww1 m3), .int .u64 (ww0 m3)] 40)
      go_upto_region 14 with fail
      revert X12 HB X3 X5 X9 X10 X11
      generalize (w9.alloc (.cells #[.int .u64 (ww3 m1), .int .u64 (ww2 m1), .int .u64 (ww1 m1), .int .u64 (ww0 m1), .int .u64 (ww3 m2), .int .u64 (ww2 m2), .int .u64 (ww1 m2), .int .u64 (ww0 m2), .int .u64 (ww3 m3), .int .u64 (ww2 m3), .int .u64 (ww1 m3), .int .u64 (ww0 m3)] 40)) = W9
      generalize w9.heap.size = A12
      intro X12 HB X3 X5 X9 X10 X11
      clear PP PA PB CM hmid
      have p0 := X10.c 0 rfl; have p1 := X10.c 1 rfl; have p2 := X10.c 2 rfl; have p3 := X10.c 3 rfl; have p4 := X10.c 4 rfl; have p5 := X10.c 5 rfl; have p6 := X10.c 6 rfl; have p7 := X10.c 7 rfl; have p8 := X10.c 8 rfl; have p9 := X10.c 9 rfl; have p10 := X10.c 10 rfl; have p11 := X10.c 11 rfl
      have q0 := X11.c 0 rfl; have q1 := X11.c 1 rfl; have q2 := X11.c 2 rfl; have q3 := X11.c 3 rfl; have q4 := X11.c 4 rfl; have q5 := X11.c 5 rfl; have q6 := X11.c 6 rfl; have q7 := X11.c 7 rfl; have q8 := X11.c 8 rfl; have q9 := X11.c 9 rfl; have q10 := X11.c 10 rfl; have q11 := X11.c 11 rfl
      have r0 := X12.c 0 rfl; have r1 := X12.c 1 rfl; have r2 := X12.c 2 rfl; have r3 := X12.c 3 rfl; have r4 := X12.c 4 rfl; have r5 := X12.c 5 rfl; have r6 := X12.c 6 rfl; have r7 := X12.c 7 rfl; have r8 := X12.c 8 rfl; have r9 := X12.c 9 rfl; have r10 := X12.c 10 rfl; have r11 := X12.c 11 rfl
      have GS := Blk.new W9 [.int .u64 (ww3 a), .int .u64 (ww2 a), .int .u64 (ww1 a), .int .u64 (ww0 a), .int .u64 (ww3 b), .int .u64 (ww2 b), .int .u64 (ww1 b), .int .u64 (ww0 b), .int .u64 (ww3 1), .int .u64 (ww2 1), .int .u64 (ww1 1), .int .u64 (ww0 1), .int .u64 (ww3 c), .int .u64 (ww2 c), .int .u64 (ww1 c), .int .u64 (ww0 c), .int .u64 (ww3 d), .int .u64 (ww2 d), .int .u64 (ww1 d), .int .u64 (ww0 d), .int .u64 (ww3 1), .int .u64 (ww2 1), .int .u64 (ww1 1), .int .u64 (ww0 1), .int .u64 (ww3 m1), .int .u64 (ww2 m1), .int .u64 (ww1 m1), .int .u64 (ww0 m1), .int .u64 (ww3 m2), .int .u64 (ww2 m2), .int .u64 (ww1 m2), .int .u64 (ww0 m2), .int .u64 (ww3 m3), .int .u64 (ww2 m3), .int .u64 (ww1 m3), .int .u64 (ww0 m3)] 40 rfl
      rw [show ([.int .u64 (ww3 a), .int .u64 (ww2 a), .int .u64 (ww1 a), .int .u64 (ww0 a), .int .u64 (ww3 b), .int .u64 (ww2 b), .int .u64 (ww1 b), .int .u64 (ww0 b), .int .u64 (ww3 1), .int .u64 (ww2 1), .int .u64 (ww1 1), .int .u64 (ww0 1), .int .u64 (ww3 c), .int .u64 (ww2 c), .int .u64 (ww1 c), .int .u64 (ww0 c), .int .u64 (ww3 d), .int .u64 (ww2 d), .int .u64 (ww1 d), .int .u64 (ww0 d), .int .u64 (ww3 1), .int .u64 (ww2 1), .int .u64 (ww1 1), .int .u64 (ww0 1), .int .u64 (ww3 m1), .int .u64 (ww2 m1), .int .u64 (ww1 m1), .int .u64 (ww0 m1), .int .u64 (ww3 m2), .int .u64 (ww2 m2), .int .u64 (ww1 m2), .int .u64 (ww0 m2), .int .u64 (ww3 m3), .int .u64 (ww2 m3), .int .u64 (ww1 m3), .int .u64 (ww0 m3)] : List Value).toArray = #[.int .u64 (ww3 a), .int .u64 (ww2 a), .int .u64 (ww1 a), .int .u64 (ww0 a), .int .u64 (ww3 b), .int .u64 (ww2 b), .int .u64 (ww1 b), .int .u64 (ww0 b), .int .u64 (ww3 1), .int .u64 (ww2 1), .int .u64 (ww1 1), .int .u64 (ww0 1), .int .u64 (ww3 c), .int .u64 (ww2 c), .int .u64 (ww1 c), .int .u64 (ww0 c), .int .u64 (ww3 d), .int .u64 (ww2 d), .int .u64 (ww1 d), .int .u64 (ww0 d), .int .u64 (ww3 1), .int .u64 (ww2 1), .int .u64 (ww1 1), .int .u64 (ww0 1), .int .u64 (ww3 m1), .int .u64 (ww2 m1), .int .u64 (ww1 m1), .int .u64 (ww0 m1), .int .u64 (ww3 m2), .int .u64 (ww2 m2), .int .u64 (ww1 m2), .int .u64 (ww0 m2), .int .u64 (ww3 m3), .int .u64 (ww2 m3), .int .u64 (ww1 m3), .int .u64 (ww0 m3)] from rfl] at GS
      replace HB := HB.alloc HB.size (.cells #[.int .u64 (ww3 a), .int .u64 (ww2 a), .int .u64 (ww1 a), .int .u64 (ww0 a), .int .u64 (ww3 b), .int .u64 (ww2 b), .int .u64 (ww1 b), .int .u64 (ww0 b), .int .u64 (ww3 1), .int .u64 (ww2 1), .int .u64 (ww1 1), .int .u64 (ww0 1), .int .u64 (ww3 c), .int .u64 (ww2 c), .int .u64 (ww1 c), .int .u64 (ww0 c), .int .u64 (ww3 d), .int .u64 (ww2 d), .int .u64 (ww1 d), .int .u64 (ww0 d), .int .u64 (ww3 1), .int .u64 (ww2 1), .int .u64 (ww1 1), .int .u64 (ww0 1), .int .u64 (ww3 m1), .int .u64 (ww2 m1), .int .u64 (ww1 m1), .int .u64 (ww0 m1), .int .u64 (ww3 m2), .int .u64 (ww2 m2), .int .u64 (ww1 m2), .int .u64 (ww0 m2), .int .u64 (ww3 m3), .int .u64 (ww2 m3), .int .u64 (ww1 m3), .int .u64 (ww0 m3)] 40)
      replace X3 := X3.alloc (.cells #[.int .u64 (ww3 a), .int .u64 (ww2 a), .int .u64 (ww1 a), .int .u64 (ww0 a), .int .u64 (ww3 b), .int .u64 (ww2 b), .int .u64 (ww1 b), .int .u64 (ww0 b), .int .u64 (ww3 1), .int .u64 (ww2 1), .int .u64 (ww1 1), .int .u64 (ww0 1), .int .u64 (ww3 c), .int .u64 (ww2 c), .int .u64 (ww1 c), .int .u64 (ww0 c), .int .u64 (ww3 d), .int .u64 (ww2 d), .int .u64 (ww1 d), .int .u64 (ww0 d), .int .u64 (ww3 1), .int .u64 (ww2 1), .int .u64 (ww1 1), .int .u64 (ww0 1), .int .u64 (ww3 m1), .int .u64 (ww2 m1), .int .u64 (ww1 m1), .int .u64 (ww0 m1), .int .u64 (ww3 m2), .int .u64 (ww2 m2), .int .u64 (ww1 m2), .int .u64 (ww0 m2), .int .u64 (ww3 m3), .int .u64 (ww2 m3), .int .u64 (ww1 m3), .int .u64 (ww0 m3)] 40)
      replace X5 := X5.alloc (.cells #[.int .u64 (ww3 a), .int .u64 (ww2 a), .int .u64 (ww1 a), .int .u64 (ww0 a), .int .u64 (ww3 b), .int .u64 (ww2 b), .int .u64 (ww1 b), .int .u64 (ww0 b), .int .u64 (ww3 1), .int .u64 (ww2 1), .int .u64 (ww1 1), .int .u64 (ww0 1), .int .u64 (ww3 c), .int .u64 (ww2 c), .int .u64 (ww1 c), .int .u64 (ww0 c), .int .u64 (ww3 d), .int .u64 (ww2 d), .int .u64 (ww1 d), .int .u64 (ww0 d), .int .u64 (ww3 1), .int .u64 (ww2 1), .int .u64 (ww1 1), .int .u64 (ww0 1), .int .u64 (ww3 m1), .int .u64 (ww2 m1), .int .u64 (ww1 m1), .int .u64 (ww0 m1), .int .u64 (ww3 m2), .int .u64 (ww2 m2), .int .u64 (ww1 m2), .int .u64 (ww0 m2), .int .u64 (ww3 m3), .int .u64 (ww2 m3), .int .u64 (ww1 m3), .int .u64 (ww0 m3)] 40)
      replace X9 := X9.alloc (.cells #[.int .u64 (ww3 a), .int .u64 (ww2 a), .int .u64 (ww1 a), .int .u64 (ww0 a), .int .u64 (ww3 b), .int .u64 (ww2 b), .int .u64 (ww1 b), .int .u64 (ww0 b), .int .u64 (ww3 1), .int .u64 (ww2 1), .int .u64 (ww1 1), .int .u64 (ww0 1), .int .u64 (ww3 c), .int .u64 (ww2 c), .int .u64 (ww1 c), .int .u64 (ww0 c), .int .u64 (ww3 d), .int .u64 (ww2 d), .int .u64 (ww1 d), .int .u64 (ww0 d), .int .u64 (ww3 1), .int .u64 (ww2 1), .int .u64 (ww1 1), .int .u64 (ww0 1), .int .u64 (ww3 m1), .int .u64 (ww2 m1), .int .u64 (ww1 m1), .int .u64 (ww0 m1), .int .u64 (ww3 m2), .int .u64 (ww2 m2), .int .u64 (ww1 m2), .int .u64 (ww0 m2), .int .u64 (ww3 m3), .int .u64 (ww2 m3), .int .u64 (ww1 m3), .int .u64 (ww0 m3)] 40)
      clear X10 X11 X12
      go_wp2_with fail
      clear p0 p1 p2 p3 p4 p5 p6 p7 p8 p9 p10 p11 q0 q1 q2 q3 q4 q5 q6 q7 q8 q9 q10 q11 r0 r1 r2 r3 r4 r5 r6 r7 r8 r9 r10 r11
      revert GS HB X3 X5 X9
      generalize (W9.alloc (.cells #[.int .u64 (ww3 a), .int .u64 (ww2 a), .int .u64 (ww1 a), .int .u64 (ww0 a), .int .u64 (ww3 b), .int .u64 (ww2 b), .int .u64 (ww1 b), .int .u64 (ww0 b), .int .u64 (ww3 1), .int .u64 (ww2 1), .int .u64 (ww1 1), .int .u64 (ww0 1), .int .u64 (ww3 c), .int .u64 (ww2 c), .int .u64 (ww1 c), .int .u64 (ww0 c), .int .u64 (ww3 d), .int .u64 (ww2 d), .int .u64 (ww1 d), .int .u64 (ww0 d), .int .u64 (ww3 1), .int .u64 (ww2 1), .int .u64 (ww1 1), .int .u64 (ww0 1), .int .u64 (ww3 m1), .int .u64 (ww2 m1), .int .u64 (ww1 m1), .int .u64 (ww0 m1), .int .u64 (ww3 m2), .int .u64 (ww2 m2), .int .u64 (ww1 m2), .int .u64 (ww0 m2), .int .u64 (ww3 m3), .int .u64 (ww2 m3), .int .u64 (ww1 m3), .int .u64 (ww0 m3)] 40)) = W10
      generalize W9.heap.size = AS
      intro GS HB X3 X5 X9
      go_loopw [76] (fun i wr => ∃ k : Nat, k ≤ 3 ∧ i = .int .i64 k ∧ Below W10.heap.size W10 wr) (fun i _ => 3 - (intOf i).toNat)
      case atStart => exact ⟨0, by omega, rfl, Below.refl _ _⟩
      case round =>
        obtain ⟨k, hk, rfl, hB⟩ := hrel
        replace HB := HB.trans (hB.mono HB.size)
        replace GS := GS.step hB
        replace X3 := X3.step hB
        replace X5 := X5.step hB
        replace X9 := X9.step hB
        by_cases hk3 : k < 3
        · rcases (by omega : k = 0 ∨ k = 1 ∨ k = 2) with rfl | rfl | rfl
          · obtain ⟨N, D, hd, tN, tD, rN, hle⟩ := F1
            have CD := implDist2_det x y 1 a b 1 (told_i ix) (told_i iy) (by decide) (told_i ia) (told_i ib) (by decide)
            rw [hd] at CD
            have CR := rcmp_det tU tV tN tD hrt rN
            generalize cmpI (U * D) (N * V) = C at CR hle
            have r1 : ¬ 0 < C := by omega
            clear F2 F3 hon CO CW hd hle hk hk3 X3
            have g0 := GS.c 0 rfl; have g1 := GS.c 1 rfl; have g2 := GS.c 2 rfl; have g3 := GS.c 3 rfl; have g4 := GS.c 4 rfl; have g5 := GS.c 5 rfl; have g6 := GS.c 6 rfl; have g7 := GS.c 7 rfl; have g8 := GS.c 8 rfl; have g9 := GS.c 9 rfl; have g10 := GS.c 10 rfl; have g11 := GS.c 11 rfl
            have X15 := Blk.new wr [.int .u64 (ww3 a), .int .u64 (ww2 a), .int .u64 (ww1 a), .int .u64 (ww0 a), .int .u64 (ww3 b), .int .u64 (ww2 b), .int .u64 (ww1 b), .int .u64 (ww0 b), .int .u64 (ww3 1), .int .u64 (ww2 1), .int .u64 (ww1 1), .int .u64 (ww0 1)] 40 rfl
            rw [show ([.int .u64 (ww3 a), .int .u64 (ww2 a), .int .u64 (ww1 a), .int .u64 (ww0 a), .int .u64 (ww3 b), .int .u64 (ww2 b), .int .u64 (ww1 b), .int .u64 (ww0 b), .int .u64 (ww3 1), .int .u64 (ww2 1), .int .u64 (ww1 1), .int .u64 (ww0 1)] : List Value).toArray = #[.int .u64 (ww3 a), .int .u64 (ww2 a), .int .u64 (ww1 a), .int .u64 (ww0 a), .int .u64 (ww3 b), .int .u64 (ww2 b), .int .u64 (ww1 b), .int .u64 (ww0 b), .int .u64 (ww3 1), .int .u64 (ww2 1), .int .u64 (ww1 1), .int .u64 (ww0 1)] from rfl] at X15
            replace HB := HB.alloc HB.size (.cells #[.int .u64 (ww3 a), .int .u64 (ww2 a), .int .u64 (ww1 a), .int .u64 (ww0 a), .int .u64 (ww3 b), .int .u64 (ww2 b), .int .u64 (ww1 b), .int .u64 (ww0 b), .int .u64 (ww3 1), .int .u64 (ww2 1), .int .u64 (ww1 1), .int .u64 (ww0 1)] 40)
            replace X5 := X5.alloc (.cells #[.int .u64 (ww3 a), .int .u64 (ww2 a), .int .u64 (ww1 a), .int .u64 (ww0 a), .int .u64 (ww3 b), .int .u64 (ww2 b), .int .u64 (ww1 b), .int .u64 (ww0 b), .int .u64 (ww3 1), .int .u64 (ww2 1), .int .u64 (ww1 1), .int .u64 (ww0 1)] 40)
            replace X9 := X9.alloc (.cells #[.int .u64 (ww3 a), .int .u64 (ww2 a), .int .u64 (ww1 a), .int .u64 (ww0 a), .int .u64 (ww3 b), .int .u64 (ww2 b), .int .u64 (ww1 b), .int .u64 (ww0 b), .int .u64 (ww3 1), .int .u64 (ww2 1), .int .u64 (ww1 1), .int .u64 (ww0 1)] 40)
            replace hB := hB.alloc hB.size (.cells #[.int .u64 (ww3 a), .int .u64 (ww2 a), .int .u64 (ww1 a), .int .u64 (ww0 a), .int .u64 (ww3 b), .int .u64 (ww2 b), .int .u64 (ww1 b), .int .u64 (ww0 b), .int .u64 (ww3 1), .int .u64 (ww2 1), .int .u64 (ww1 1), .int .u64 (ww0 1)] 40)
            go_upto_region 17 with fail
            clear g0 g1 g2 g3 g4 g5 g6 g7 g8 g9 g10 g11 GS
            revert X15 HB X5 X9 hB
            generalize (wr.alloc (.cells #[.int .u64 (ww3 a), .int .u64 (ww2 a), .int .u64 (ww1 a), .int .u64 (ww0 a), .int .u64 (ww3 b), .int .u64 (ww2 b), .int .u64 (ww1 b), .int .u64 (ww0 b), .int .u64 (ww3 1), .int .u64 (ww2 1), .int .u64 (ww1 1), .int .u64 (ww0 1)] 40)) = W15
            generalize wr.heap.size = A15
            intro X15 HB X5 X9 hB
            have p0 := X9.c 0 rfl; have p1 := X9.c 1 rfl; have p2 := X9.c 2 rfl; have p3 := X9.c 3 rfl; have p4 := X9.c 4 rfl; have p5 := X9.c 5 rfl; have p6 := X9.c 6 rfl; have p7 := X9.c 7 rfl; have p8 := X9.c 8 rfl; have p9 := X9.c 9 rfl; have p10 := X9.c 10 rfl; have p11 := X9.c 11 rfl
            have q0 := X15.c 0 rfl; have q1 := X15.c 1 rfl; have q2 := X15.c 2 rfl; have q3 := X15.c 3 rfl; have q4 := X15.c 4 rfl; have q5 := X15.c 5 rfl; have q6 := X15.c 6 rfl; have q7 := X15.c 7 rfl; have q8 := X15.c 8 rfl; have q9 := X15.c 9 rfl; have q10 := X15.c 10 rfl; have q11 := X15.c 11 rfl
            go_wp2_with fail
            clear p0 p1 p2 p3 p4 p5 p6 p7 p8 p9 p10 p11 q0 q1 q2 q3 q4 q5 q6 q7 q8 q9 q10 q11 X9 X15
            refine (CD _).mono ?_
            rintro e w11 ⟨rfl, hB9⟩
            replace HB := HB.trans (hB9.mono HB.size)
            replace hB := hB.trans (hB9.mono hB.size)
            replace X5 := X5.step hB9
            clear hB9
            have X16 := Blk.new w11 [.int .u64 (ww3 N), .int .u64 (ww2 N), .int .u64 (ww1 N), .int .u64 (ww0 N), .int .u64 (ww3 D), .int .u64 (ww2 D), .int .u64 (ww1 D), .int .u64 (ww0 D)] 34 rfl
            rw [show ([.int .u64 (ww3 N), .int .u64 (ww2 N), .int .u64 (ww1 N), .int .u64 (ww0 N), .int .u64 (ww3 D), .int .u64 (ww2 D), .int .u64 (ww1 D), .int .u64 (ww0 D)] : List Value).toArray = #[.int .u64 (ww3 N), .int .u64 (ww2 N), .int .u64 (ww1 N), .int .u64 (ww0 N), .int .u64 (ww3 D), .int .u64 (ww2 D), .int .u64 (ww1 D), .int .u64 (ww0 D)] from rfl] at X16
            replace HB := HB.alloc HB.size (.cells #[.int .u64 (ww3 N), .int .u64 (ww2 N), .int .u64 (ww1 N), .int .u64 (ww0 N), .int .u64 (ww3 D), .int .u64 (ww2 D), .int .u64 (ww1 D), .int .u64 (ww0 D)] 34)
            replace X5 := X5.alloc (.cells #[.int .u64 (ww3 N), .int .u64 (ww2 N), .int .u64 (ww1 N), .int .u64 (ww0 N), .int .u64 (ww3 D), .int .u64 (ww2 D), .int .u64 (ww1 D), .int .u64 (ww0 D)] 34)
            replace hB := hB.alloc hB.size (.cells #[.int .u64 (ww3 N), .int .u64 (ww2 N), .int .u64 (ww1 N), .int .u64 (ww0 N), .int .u64 (ww3 D), .int .u64 (ww2 D), .int .u64 (ww1 D), .int .u64 (ww0 D)] 34)
            go_upto_region 18 with fail
            revert X16 HB X5 hB
            generalize (w11.alloc (.cells #[.int .u64 (ww3 N), .int .u64 (ww2 N), .int .u64 (ww1 N), .int .u64 (ww0 N), .int .u64 (ww3 D), .int .u64 (ww2 D), .int .u64 (ww1 D), .int .u64 (ww0 D)] 34)) = W16
            generalize w11.heap.size = A16
            intro X16 HB X5 hB
            obtain ⟨c0, c1, c2, c3, c4, c5, c6, c7⟩ := X5.cs8
            obtain ⟨d0, d1, d2, d3, d4, d5, d6, d7⟩ := X16.cs8
            go_wp2_with fail
            clear c0 c1 c2 c3 c4 c5 c6 c7 d0 d1 d2 d3 d4 d5 d6 d7 X5 X16
            refine (CR _).mono ?_
            rintro e w12 ⟨rfl, hB9⟩
            replace HB := HB.trans (hB9.mono HB.size)
            replace hB := hB.trans (hB9.mono hB.size)
            clear hB9
            go_wp2
            go_roundw
            case rel => exact ⟨1, by omega, rfl, hB⟩
            case measure => simp [intOf]
          · obtain ⟨N, D, hd, tN, tD, rN, hle⟩ := F2
            have CD := implDist2_det x y 1 c d 1 (told_i ix) (told_i iy) (by decide) (told_i ic) (told_i id) (by decide)
            rw [hd] at CD
            have CR := rcmp_det tU tV tN tD hrt rN
            generalize cmpI (U * D) (N * V) = C at CR hle
            have r1 : ¬ 0 < C := by omega
            clear F1 F3 hon CO CW hd hle hk hk3 X3
            have g0 := GS.c 12 rfl; have g1 := GS.c 13 rfl; have g2 := GS.c 14 rfl; have g3 := GS.c 15 rfl; have g4 := GS.c 16 rfl; have g5 := GS.c 17 rfl; have g6 := GS.c 18 rfl; have g7 := GS.c 19 rfl; have g8 := GS.c 20 rfl; have g9 := GS.c 21 rfl; have g10 := GS.c 22 rfl; have g11 := GS.c 23 rfl
            have X15 := Blk.new wr [.int .u64 (ww3 c), .int .u64 (ww2 c), .int .u64 (ww1 c), .int .u64 (ww0 c), .int .u64 (ww3 d), .int .u64 (ww2 d), .int .u64 (ww1 d), .int .u64 (ww0 d), .int .u64 (ww3 1), .int .u64 (ww2 1), .int .u64 (ww1 1), .int .u64 (ww0 1)] 40 rfl
            rw [show ([.int .u64 (ww3 c), .int .u64 (ww2 c), .int .u64 (ww1 c), .int .u64 (ww0 c), .int .u64 (ww3 d), .int .u64 (ww2 d), .int .u64 (ww1 d), .int .u64 (ww0 d), .int .u64 (ww3 1), .int .u64 (ww2 1), .int .u64 (ww1 1), .int .u64 (ww0 1)] : List Value).toArray = #[.int .u64 (ww3 c), .int .u64 (ww2 c), .int .u64 (ww1 c), .int .u64 (ww0 c), .int .u64 (ww3 d), .int .u64 (ww2 d), .int .u64 (ww1 d), .int .u64 (ww0 d), .int .u64 (ww3 1), .int .u64 (ww2 1), .int .u64 (ww1 1), .int .u64 (ww0 1)] from rfl] at X15
            replace HB := HB.alloc HB.size (.cells #[.int .u64 (ww3 c), .int .u64 (ww2 c), .int .u64 (ww1 c), .int .u64 (ww0 c), .int .u64 (ww3 d), .int .u64 (ww2 d), .int .u64 (ww1 d), .int .u64 (ww0 d), .int .u64 (ww3 1), .int .u64 (ww2 1), .int .u64 (ww1 1), .int .u64 (ww0 1)] 40)
            replace X5 := X5.alloc (.cells #[.int .u64 (ww3 c), .int .u64 (ww2 c), .int .u64 (ww1 c), .int .u64 (ww0 c), .int .u64 (ww3 d), .int .u64 (ww2 d), .int .u64 (ww1 d), .int .u64 (ww0 d), .int .u64 (ww3 1), .int .u64 (ww2 1), .int .u64 (ww1 1), .int .u64 (ww0 1)] 40)
            replace X9 := X9.alloc (.cells #[.int .u64 (ww3 c), .int .u64 (ww2 c), .int .u64 (ww1 c), .int .u64 (ww0 c), .int .u64 (ww3 d), .int .u64 (ww2 d), .int .u64 (ww1 d), .int .u64 (ww0 d), .int .u64 (ww3 1), .int .u64 (ww2 1), .int .u64 (ww1 1), .int .u64 (ww0 1)] 40)
            replace hB := hB.alloc hB.size (.cells #[.int .u64 (ww3 c), .int .u64 (ww2 c), .int .u64 (ww1 c), .int .u64 (ww0 c), .int .u64 (ww3 d), .int .u64 (ww2 d), .int .u64 (ww1 d), .int .u64 (ww0 d), .int .u64 (ww3 1), .int .u64 (ww2 1), .int .u64 (ww1 1), .int .u64 (ww0 1)] 40)
            go_upto_region 17 with fail
            clear g0 g1 g2 g3 g4 g5 g6 g7 g8 g9 g10 g11 GS
            revert X15 HB X5 X9 hB
            generalize (wr.alloc (.cells #[.int .u64 (ww3 c), .int .u64 (ww2 c), .int .u64 (ww1 c), .int .u64 (ww0 c), .int .u64 (ww3 d), .int .u64 (ww2 d), .int .u64 (ww1 d), .int .u64 (ww0 d), .int .u64 (ww3 1), .int .u64 (ww2 1), .int .u64 (ww1 1), .int .u64 (ww0 1)] 40)) = W15
            generalize wr.heap.size = A15
            intro X15 HB X5 X9 hB
            have p0 := X9.c 0 rfl; have p1 := X9.c 1 rfl; have p2 := X9.c 2 rfl; have p3 := X9.c 3 rfl; have p4 := X9.c 4 rfl; have p5 := X9.c 5 rfl; have p6 := X9.c 6 rfl; have p7 := X9.c 7 rfl; have p8 := X9.c 8 rfl; have p9 := X9.c 9 rfl; have p10 := X9.c 10 rfl; have p11 := X9.c 11 rfl
            have q0 := X15.c 0 rfl; have q1 := X15.c 1 rfl; have q2 := X15.c 2 rfl; have q3 := X15.c 3 rfl; have q4 := X15.c 4 rfl; have q5 := X15.c 5 rfl; have q6 := X15.c 6 rfl; have q7 := X15.c 7 rfl; have q8 := X15.c 8 rfl; have q9 := X15.c 9 rfl; have q10 := X15.c 10 rfl; have q11 := X15.c 11 rfl
            go_wp2_with fail
            clear p0 p1 p2 p3 p4 p5 p6 p7 p8 p9 p10 p11 q0 q1 q2 q3 q4 q5 q6 q7 q8 q9 q10 q11 X9 X15
            refine (CD _).mono ?_
            rintro e w11 ⟨rfl, hB9⟩
            replace HB := HB.trans (hB9.mono HB.size)
            replace hB := hB.trans (hB9.mono hB.size)
            replace X5 := X5.step hB9
            clear hB9
            have X16 := Blk.new w11 [.int .u64 (ww3 N), .int .u64 (ww2 N), .int .u64 (ww1 N), .int .u64 (ww0 N), .int .u64 (ww3 D), .int .u64 (ww2 D), .int .u64 (ww1 D), .int .u64 (ww0 D)] 34 rfl
            rw [show ([.int .u64 (ww3 N), .int .u64 (ww2 N), .int .u64 (ww1 N), .int .u64 (ww0 N), .int .u64 (ww3 D), .int .u64 (ww2 D), .int .u64 (ww1 D), .int .u64 (ww0 D)] : List Value).toArray = #[.int .u64 (ww3 N), .int .u64 (ww2 N), .int .u64 (ww1 N), .int .u64 (ww0 N), .int .u64 (ww3 D), .int .u64 (ww2 D), .int .u64 (ww1 D), .int .u64 (ww0 D)] from rfl] at X16
            replace HB := HB.alloc HB.size (.cells #[.int .u64 (ww3 N), .int .u64 (ww2 N), .int .u64 (ww1 N), .int .u64 (ww0 N), .int .u64 (ww3 D), .int .u64 (ww2 D), .int .u64 (ww1 D), .int .u64 (ww0 D)] 34)
            replace X5 := X5.alloc (.cells #[.int .u64 (ww3 N), .int .u64 (ww2 N), .int .u64 (ww1 N), .int .u64 (ww0 N), .int .u64 (ww3 D), .int .u64 (ww2 D), .int .u64 (ww1 D), .int .u64 (ww0 D)] 34)
            replace hB := hB.alloc hB.size (.cells #[.int .u64 (ww3 N), .int .u64 (ww2 N), .int .u64 (ww1 N), .int .u64 (ww0 N), .int .u64 (ww3 D), .int .u64 (ww2 D), .int .u64 (ww1 D), .int .u64 (ww0 D)] 34)
            go_upto_region 18 with fail
            revert X16 HB X5 hB
            generalize (w11.alloc (.cells #[.int .u64 (ww3 N), .int .u64 (ww2 N), .int .u64 (ww1 N), .int .u64 (ww0 N), .int .u64 (ww3 D), .int .u64 (ww2 D), .int .u64 (ww1 D), .int .u64 (ww0 D)] 34)) = W16
            generalize w11.heap.size = A16
            intro X16 HB X5 hB
            obtain ⟨c0, c1, c2, c3, c4, c5, c6, c7⟩ := X5.cs8
            obtain ⟨d0, d1, d2, d3, d4, d5, d6, d7⟩ := X16.cs8
            go_wp2_with fail
            clear c0 c1 c2 c3 c4 c5 c6 c7 d0 d1 d2 d3 d4 d5 d6 d7 X5 X16
            refine (CR _).mono ?_
            rintro e w12 ⟨rfl, hB9⟩
            replace HB := HB.trans (hB9.mono HB.size)
            replace hB := hB.trans (hB9.mono hB.size)
            clear hB9
            go_wp2
            go_roundw
            case rel => exact ⟨2, by omega, rfl, hB⟩
            case measure => simp [intOf]
          · obtain ⟨N, D, hd, tN, tD, rN, hle⟩ := F3
            have CD := implDist2_det x y 1 m1 m2 m3 (told_i ix) (told_i iy) (by decide) t1 t2 t3
            rw [hd] at CD
            have CR := rcmp_det tU tV tN tD hrt rN
            generalize cmpI (U * D) (N * V) = C at CR hle
            have r1 : ¬ 0 < C := by omega
            clear F1 F2 hon CO CW hd hle hk hk3 X3
            have g0 := GS.c 24 rfl; have g1 := GS.c 25 rfl; have g2 := GS.c 26 rfl; have g3 := GS.c 27 rfl; have g4 := GS.c 28 rfl; have g5 := GS.c 29 rfl; have g6 := GS.c 30 rfl; have g7 := GS.c 31 rfl; have g8 := GS.c 32 rfl; have g9 := GS.c 33 rfl; have g10 := GS.c 34 rfl; have g11 := GS.c 35 rfl
            have X15 := Blk.new wr [.int .u64 (ww3 m1), .int .u64 (ww2 m1), .int .u64 (ww1 m1), .int .u64 (ww0 m1), .int .u64 (ww3 m2), .int .u64 (ww2 m2), .int .u64 (ww1 m2), .int .u64 (ww0 m2), .int .u64 (ww3 m3), .int .u64 (ww2 m3), .int .u64 (ww1 m3), .int .u64 (ww0 m3)] 40 rfl
            rw [show ([.int .u64 (ww3 m1), .int .u64 (ww2 m1), .int .u64 (ww1 m1), .int .u64 (ww0 m1), .int .u64 (ww3 m2), .int .u64 (ww2 m2), .int .u64 (ww1 m2), .int .u64 (ww0 m2), .int .u64 (ww3 m3), .int .u64 (ww2 m3), .int .u64 (ww1 m3), .int .u64 (ww0 m3)] : List Value).toArray = #[.int .u64 (ww3 m1), .int .u64 (ww2 m1), .int .u64 (ww1 m1), .int .u64 (ww0 m1), .int .u64 (ww3 m2), .int .u64 (ww2 m2), .int .u64 (ww1 m2), .int .u64 (ww0 m2), .int .u64 (ww3 m3), .int .u64 (ww2 m3), .int .u64 (ww1 m3), .int .u64 (ww0 m3)] from rfl] at X15
            replace HB := HB.alloc HB.size (.cells #[.int .u64 (ww3 m1), .int .u64 (ww2 m1), .int .u64 (ww1 m1), .int .u64 (ww0 m1), .int .u64 (ww3 m2), .int .u64 (ww2 m2), .int .u64 (ww1 m2), .int .u64 (ww0 m2), .int .u64 (ww3 m3), .int .u64 (ww2 m3), .int .u64 (ww1 m3), .int .u64 (ww0 m3)] 40)
            replace X5 := X5.alloc (.cells #[.int .u64 (ww3 m1), .int .u64 (ww2 m1), .int .u64 (ww1 m1), .int .u64 (ww0 m1), .int .u64 (ww3 m2), .int .u64 (ww2 m2), .int .u64 (ww1 m2), .int .u64 (ww0 m2), .int .u64 (ww3 m3), .int .u64 (ww2 m3), .int .u64 (ww1 m3), .int .u64 (ww0 m3)] 40)
            replace X9 := X9.alloc (.cells #[.int .u64 (ww3 m1), .int .u64 (ww2 m1), .int .u64 (ww1 m1), .int .u64 (ww0 m1), .int .u64 (ww3 m2), .int .u64 (ww2 m2), .int .u64 (ww1 m2), .int .u64 (ww0 m2), .int .u64 (ww3 m3), .int .u64 (ww2 m3), .int .u64 (ww1 m3), .int .u64 (ww0 m3)] 40)
            replace hB := hB.alloc hB.size (.cells #[.int .u64 (ww3 m1), .int .u64 (ww2 m1), .int .u64 (ww1 m1), .int .u64 (ww0 m1), .int .u64 (ww3 m2), .int .u64 (ww2 m2), .int .u64 (ww1 m2), .int .u64 (ww0 m2), .int .u64 (ww3 m3), .int .u64 (ww2 m3), .int .u64 (ww1 m3), .int .u64 (ww0 m3)] 40)
            go_upto_region 17 with fail
            clear g0 g1 g2 g3 g4 g5 g6 g7 g8 g9 g10 g11 GS
            revert X15 HB X5 X9 hB
            generalize (wr.alloc (.cells #[.int .u64 (ww3 m1), .int .u64 (ww2 m1), .int .u64 (ww1 m1), .int .u64 (ww0 m1), .int .u64 (ww3 m2), .int .u64 (ww2 m2), .int .u64 (ww1 m2), .int .u64 (ww0 m2), .int .u64 (ww3 m3), .int .u64 (ww2 m3), .int .u64 (ww1 m3), .int .u64 (ww0 m3)] 40)) = W15
            generalize wr.heap.size = A15
            intro X15 HB X5 X9 hB
            have p0 := X9.c 0 rfl; have p1 := X9.c 1 rfl; have p2 := X9.c 2 rfl; have p3 := X9.c 3 rfl; have p4 := X9.c 4 rfl; have p5 := X9.c 5 rfl; have p6 := X9.c 6 rfl; have p7 := X9.c 7 rfl; have p8 := X9.c 8 rfl; have p9 := X9.c 9 rfl; have p10 := X9.c 10 rfl; have p11 := X9.c 11 rfl
            have q0 := X15.c 0 rfl; have q1 := X15.c 1 rfl; have q2 := X15.c 2 rfl; have q3 := X15.c 3 rfl; have q4 := X15.c 4 rfl; have q5 := X15.c 5 rfl; have q6 := X15.c 6 rfl; have q7 := X15.c 7 rfl; have q8 := X15.c 8 rfl; have q9 := X15.c 9 rfl; have q10 := X15.c 10 rfl; have q11 := X15.c 11 rfl
            go_wp2_with fail
            clear p0 p1 p2 p3 p4 p5 p6 p7 p8 p9 p10 p11 q0 q1 q2 q3 q4 q5 q6 q7 q8 q9 q10 q11 X9 X15
            refine (CD _).mono ?_
            rintro e w11 ⟨rfl, hB9⟩
            replace HB := HB.trans (hB9.mono HB.size)
            replace hB := hB.trans (hB9.mono hB.size)
            replace X5 := X5.step hB9
            clear hB9
            have X16 := Blk.new w11 [.int .u64 (ww3 N), .int .u64 (ww2 N), .int .u64 (ww1 N), .int .u64 (ww0 N), .int .u64 (ww3 D), .int .u64 (ww2 D), .int .u64 (ww1 D), .int .u64 (ww0 D)] 34 rfl
            rw [show ([.int .u64 (ww3 N), .int .u64 (ww2 N), .int .u64 (ww1 N), .int .u64 (ww0 N), .int .u64 (ww3 D), .int .u64 (ww2 D), .int .u64 (ww1 D), .int .u64 (ww0 D)] : List Value).toArray = #[.int .u64 (ww3 N), .int .u64 (ww2 N), .int .u64 (ww1 N), .int .u64 (ww0 N), .int .u64 (ww3 D), .int .u64 (ww2 D), .int .u64 (ww1 D), .int .u64 (ww0 D)] from rfl] at X16
            replace HB := HB.alloc HB.size (.cells #[.int .u64 (ww3 N), .int .u64 (ww2 N), .int .u64 (ww1 N), .int .u64 (ww0 N), .int .u64 (ww3 D), .int .u64 (ww2 D), .int .u64 (ww1 D), .int .u64 (ww0 D)] 34)
            replace X5 := X5.alloc (.cells #[.int .u64 (ww3 N), .int .u64 (ww2 N), .int .u64 (ww1 N), .int .u64 (ww0 N), .int .u64 (ww3 D), .int .u64 (ww2 D), .int .u64 (ww1 D), .int .u64 (ww0 D)] 34)
            replace hB := hB.alloc hB.size (.cells #[.int .u64 (ww3 N), .int .u64 (ww2 N), .int .u64 (ww1 N), .int .u64 (ww0 N), .int .u64 (ww3 D), .int .u64 (ww2 D), .int .u64 (ww1 D), .int .u64 (ww0 D)] 34)
            go_upto_region 18 with fail
            revert X16 HB X5 hB
            generalize (w11.alloc (.cells #[.int .u64 (ww3 N), .int .u64 (ww2 N), .int .u64 (ww1 N), .int .u64 (ww0 N), .int .u64 (ww3 D), .int .u64 (ww2 D), .int .u64 (ww1 D), .int .u64 (ww0 D)] 34)) = W16
            generalize w11.heap.size = A16
            intro X16 HB X5 hB
            obtain ⟨c0, c1, c2, c3, c4, c5, c6, c7⟩ := X5.cs8
            obtain ⟨d0, d1, d2, d3, d4, d5, d6, d7⟩ := X16.cs8
            go_wp2_with fail
            clear c0 c1 c2 c3 c4 c5 c6 c7 d0 d1 d2 d3 d4 d5 d6 d7 X5 X16
            refine (CR _).mono ?_
            rintro e w12 ⟨rfl, hB9⟩
            replace HB := HB.trans (hB9.mono HB.size)
            replace hB := hB.trans (hB9.mono hB.size)
            clear hB9
            go_wp2
            go_roundw
            case rel => exact ⟨3, by omega, rfl, hB⟩
            case measure => simp [intOf]
        · obtain rfl : k = 3 := by omega
          have ht : (cmpI U 0 == 0) = onI a b c d x y 1 := by
            rw [Bool.eq_iff_iff, ← hon, beq_iff_eq]
            exact cmpI_zero
          clear F1 F2 F3 GS hon
          go_upto_region 22 with fail
          refine nfL (A3 := A3) (A9 := A9) (A5 := A5) (a := a) (b := b) (c := c) (d := d) (x := x) (y := y) (U := U) (sg := cmpI U 0) (t := onI a b c d x y 1) ht CW CO rfl rfl rfl (X5.c 0 rfl) X5.lt (X5.c 1 rfl) X5.lt (X5.c 2 rfl) X5.lt (X5.c 3 rfl) X5.lt (X3.c 0 rfl) X3.lt (X3.c 1 rfl) X3.lt (X3.c 2 rfl) X3.lt (X3.c 3 rfl) X3.lt (X9.c 0 rfl) X9.lt (X9.c 1 rfl) X9.lt (X9.c 2 rfl) X9.lt (X9.c 3 rfl) X9.lt (X9.c 4 rfl) X9.lt (X9.c 5 rfl) X9.lt (X9.c 6 rfl) X9.lt (X9.c 7 rfl) X9.lt (X9.c 8 rfl) X9.lt (X9.c 9 rfl) X9.lt (X9.c 10 rfl) X9.lt (X9.c 11 rfl) X9.lt rfl ?_
          rintro ⟨tm, df⟩ W11 hz hdf hoff h2 hBz
          simp only at hz hdf hoff
          change tm.getD 2 undef = .bool true at h2
          subst hdf
          have htm := tmps_fold [99, 100, 101, 102, 103, 104, 105, 106, 2] tm _ hz hoff
          simp only [List.foldl, List.setIfInBounds_toArray, List.set_cons_zero, List.set_cons_succ, h2] at htm
          clear hz hoff
          generalize tm.getD 99 undef = sl0, tm.getD 100 undef = sl1, tm.getD 101 undef = sl2, tm.getD 102 undef = sl3, tm.getD 103 undef = sl4, tm.getD 104 undef = sl5, tm.getD 105 undef = sl6, tm.getD 106 undef = sl7 at htm
          clear h2
          subst htm
          replace HB := HB.trans (hBz.mono HB.size)
          clear hBz X3 X5 X9
          go_wp2
          go_ret
          exact ⟨rfl, HB⟩
end Go.Proofs.YtpnnpkchogooaaaGreat

/- What the row of a law asks of the program as a whole, each by itself. -/
namespace Go.Proofs.YtpnnpkchogooaaaGreat
open Go.ChangeShapes Go.WideShapes Go.ChangeAt Go.RowKit Go.Joins
theorem jn_laid : laidOutB Tryz.pinned.checked.prog = true := by kernel_rfl
theorem jn_maps : mapsRowed Tryz.pinned.checked.prog = true := by kernel_rfl
theorem jn_enter : Tryz.pinned.checked.prog.mayEnter = true := by kernel_rfl
theorem jn_heard : Tryz.pinned.checked.prog.stopsHeard = true := by kernel_rfl
end Go.Proofs.YtpnnpkchogooaaaGreat
