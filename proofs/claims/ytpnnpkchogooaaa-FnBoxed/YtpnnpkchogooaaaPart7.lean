/- Part 7 of the walks that the proof leans on. -/
import Derived.Test.YtpnnpkchogooaaaPart6
import Derived.Test.YtpnnpkchogooaaaPart1
import Derived.Test.YtpnnpkchogooaaaPart5
import Derived.Test.YtpnnpkchogooaaaRows
import Derived.ProofKit
import Derived.Lib.SmallJoins
/- Whether a segment meets a box: the walk of the program. -/
namespace Go.Proofs.Ytpnnpkchogooaaa
open Go.RowKit
set_option maxRecDepth 100000 in
set_option maxHeartbeats 2000000 in
theorem isBox_any (x y u v : Int) (w : World) : Calls Try.prog 15 #[Sp x y, Sp u v] w (BoolP (boxOk x y u v) w) := by
  have B0 := (Blk.new w [.int .i64 x, .int .i64 y] 25 rfl).alloc (.cells #[.int .i64 u, .int .i64 v] 25)
  have B1 := Blk.new (w.alloc (.cells #[.int .i64 x, .int .i64 y] 25)) [.int .i64 u, .int .i64 v] 25 (g := w.heap.size + 1) (by simp)
  have HB : Below w.heap.size w ((w.alloc (.cells #[.int .i64 x, .int .i64 y] 25)).alloc (.cells #[.int .i64 u, .int .i64 v] 25)) := ((Below.refl _ w).alloc (Nat.le_refl _) _).alloc (by simp) _
  go_enter Try.func15, Try.ntmps15
  go_upto_region 1 with fail
  generalize ((w.alloc (.cells #[.int .i64 x, .int .i64 y] 25)).alloc (.cells #[.int .i64 u, .int .i64 v] 25)) = W at *
  have b0 := B0.c 0 rfl; have b1 := B0.c 1 rfl; have c0 := B1.c 0 rfl; have c1 := B1.c 1 rfl
  by_cases h2 : spotOk x y = true
  · by_cases h3 : spotOk u v = true
    · skip
      go_wp2_with fail
      refine (implSpotOk_any _ _ true h2 _).mono ?_
      rintro e w1 ⟨rfl, hB⟩
      replace B0 := B0.step hB; replace B1 := B1.step hB; replace HB := HB.trans (hB.mono HB.size)
      clear hB
      clear b0 b1 c0 c1
      have b0 := B0.c 0 rfl; have b1 := B0.c 1 rfl; have c0 := B1.c 0 rfl; have c1 := B1.c 1 rfl
      go_wp2_with fail
      refine (implSpotOk_any _ _ true h3 _).mono ?_
      rintro e w2 ⟨rfl, hB⟩
      replace B0 := B0.step hB; replace B1 := B1.step hB; replace HB := HB.trans (hB.mono HB.size)
      clear hB
      clear b0 b1 c0 c1
      have b0 := B0.c 0 rfl; have b1 := B0.c 1 rfl; have c0 := B1.c 0 rfl; have c1 := B1.c 1 rfl
      by_cases h4 : x ≤ u
      · have HO : Hid (boxOk x y u v = decide (y ≤ v)) := by show _ = _; simp [boxOk, h2, h3, h4]
        clear h2 h3
        go_wp2
        all_goals go_ret
        all_goals exact ⟨ret_bool (by rw [HO.out]), HB⟩
      · have HO : Hid (boxOk x y u v = false) := by show _ = _; simp [boxOk, h4]
        have h4' : u < x := by omega
        clear h2 h3 h4
        go_wp2
        all_goals go_ret
        all_goals exact ⟨ret_bool (by rw [HO.out]), HB⟩
    · have h3 := Bool.eq_false_iff.2 h3
      have HO : Hid (boxOk x y u v = false) := by show _ = _; simp [boxOk, h3]
      go_wp2_with fail
      refine (implSpotOk_any _ _ true h2 _).mono ?_
      rintro e w1 ⟨rfl, hB⟩
      replace B0 := B0.step hB; replace B1 := B1.step hB; replace HB := HB.trans (hB.mono HB.size)
      clear hB
      clear b0 b1 c0 c1
      have b0 := B0.c 0 rfl; have b1 := B0.c 1 rfl; have c0 := B1.c 0 rfl; have c1 := B1.c 1 rfl
      go_wp2_with fail
      refine (implSpotOk_any _ _ false h3 _).mono ?_
      rintro e w2 ⟨rfl, hB⟩
      replace B0 := B0.step hB; replace B1 := B1.step hB; replace HB := HB.trans (hB.mono HB.size)
      clear hB
      clear b0 b1 c0 c1 h2 h3
      go_wp2
      all_goals go_ret
      all_goals exact ⟨ret_bool (by rw [HO.out]), HB⟩
  · have h2 := Bool.eq_false_iff.2 h2
    have HO : Hid (boxOk x y u v = false) := by show _ = _; simp [boxOk, h2]
    go_wp2_with fail
    refine (implSpotOk_any _ _ false h2 _).mono ?_
    rintro e w1 ⟨rfl, hB⟩
    replace B0 := B0.step hB; replace B1 := B1.step hB; replace HB := HB.trans (hB.mono HB.size)
    clear hB
    clear b0 b1 c0 c1 h2
    go_wp2
    all_goals go_ret
    all_goals exact ⟨ret_bool (by rw [HO.out]), HB⟩
set_option maxRecDepth 100000 in
set_option maxHeartbeats 2000000 in
theorem meetsBox_any (a b c d x y u v : Int) (ha : In6 a) (hb : In6 b) (hc : In6 c) (hd : In6 d) (hx : In6 x) (hy : In6 y) (hu : In6 u) (hv : In6 v) (w : World) : Calls Try.prog 16 #[Sg a b c d, Sp x y, Sp u v] w (BoolP (!boxOut a b c d x y u v && (lefts [turnSp a b c d x y, turnSp a b c d u v, turnSp a b c d x v, turnSp a b c d u y] 4 && rights [turnSp a b c d x y, turnSp a b c d u v, turnSp a b c d x v, turnSp a b c d u y] 4)) w) := by
  have T0 := box_start a b c d x y u v w 27 25 25
  go_enter Try.func16, Try.ntmps16
  go_upto_region 1 with fail
  generalize (((w.alloc (.cells #[.int .i64 a, .int .i64 b, .int .i64 c, .int .i64 d] 27)).alloc (.cells #[.int .i64 x, .int .i64 y] 25)).alloc (.cells #[.int .i64 u, .int .i64 v] 25)) = W at *
  have a0 := (T0.b 0 rfl).c 0 rfl; have a1 := (T0.b 0 rfl).c 1 rfl; have a2 := (T0.b 0 rfl).c 2 rfl; have a3 := (T0.b 0 rfl).c 3 rfl; have b0 := (T0.b 1 rfl).c 0 rfl; have b1 := (T0.b 1 rfl).c 1 rfl; have c0 := (T0.b 2 rfl).c 0 rfl; have c1 := (T0.b 2 rfl).c 1 rfl; have alt := (T0.b 2 rfl).lt; simp only [Nat.add_zero] at a0 a1 a2 a3
  go_cut [44] (fun q wx => q = .bool (boxOut a b c d x y u v) ∧ ArgsB w wx [[.int .i64 a, .int .i64 b, .int .i64 c, .int .i64 d], [.int .i64 x, .int .i64 y], [.int .i64 u, .int .i64 v]])
  case first =>
    go_wp2
    all_goals go_meet
    all_goals refine ⟨?_, T0⟩
    all_goals (apply congrArg Value.bool; unfold boxOut; rw [Bool.eq_iff_iff]; simp; try omega)
  case rest =>
    clear a0 a1 a2 a3 b0 b1 c0 c1 alt T0
    obtain ⟨hq, T0⟩ := hcut
    subst hq
    have a0 := (T0.b 0 rfl).c 0 rfl; have a1 := (T0.b 0 rfl).c 1 rfl; have a2 := (T0.b 0 rfl).c 2 rfl; have a3 := (T0.b 0 rfl).c 3 rfl; have b0 := (T0.b 1 rfl).c 0 rfl; have b1 := (T0.b 1 rfl).c 1 rfl; have c0 := (T0.b 2 rfl).c 0 rfl; have c1 := (T0.b 2 rfl).c 1 rfl; have alt := (T0.b 2 rfl).lt; simp only [Nat.add_zero] at a0 a1 a2 a3
    obtain ⟨M, hM⟩ : ∃ M, boxOut a b c d x y u v = M := ⟨_, rfl⟩
    rw [hM]
    cases M
    · go_wp2_with fail
      refine (parts_any a b c d x y u v x v u y ha hb hc hd hx hy hu hv hx hv hu hy wc.heap.size _ (Blk.new wc [.int .i64 x, .int .i64 y, .int .i64 u, .int .i64 v, .int .i64 x, .int .i64 v, .int .i64 u, .int .i64 y] 25 rfl)).mono ?_
      rintro e w4 ⟨rfl, hB⟩
      have HB : Below w.heap.size w w4 := (T0.alloc _).below.trans (hB.mono (T0.alloc _).below.size)
      clear hB a0 a1 a2 a3 b0 b1 c0 c1 alt T0
      go_wp2
      go_ret
      exact ⟨ret_bool (by simp [hM]), HB⟩
    · have HBF := T0.below
      clear a0 a1 a2 a3 b0 b1 c0 c1 alt T0
      go_wp2
      go_ret
      exact ⟨ret_bool (by simp [hM]), HBF⟩
set_option maxRecDepth 100000 in
set_option maxHeartbeats 2000000 in
theorem implMeetsBox_any (a b c d x y u v : Int) (z : Bool) (hz : meetsBx a b c d x y u v = z) (w : World) : Calls Try.prog 6 #[Sg a b c d, Sp x y, Sp u v] w (BoolP z w) := by
  have T0 := box_start a b c d x y u v w 27 25 25
  go_enter Try.func6, Try.ntmps6
  go_upto_region 1 with fail
  generalize (((w.alloc (.cells #[.int .i64 a, .int .i64 b, .int .i64 c, .int .i64 d] 27)).alloc (.cells #[.int .i64 x, .int .i64 y] 25)).alloc (.cells #[.int .i64 u, .int .i64 v] 25)) = W at *
  have a0 := (T0.b 0 rfl).c 0 rfl; have a1 := (T0.b 0 rfl).c 1 rfl; have a2 := (T0.b 0 rfl).c 2 rfl; have a3 := (T0.b 0 rfl).c 3 rfl; have b0 := (T0.b 1 rfl).c 0 rfl; have b1 := (T0.b 1 rfl).c 1 rfl; have c0 := (T0.b 2 rfl).c 0 rfl; have c1 := (T0.b 2 rfl).c 1 rfl; have alt := (T0.b 2 rfl).lt; simp only [Nat.add_zero] at a0 a1 a2 a3
  by_cases h1 : segOk a b c d = true
  · go_wp2_with fail
    refine (implSegOk_any _ _ _ _ true h1 _).mono ?_
    rintro e w1 ⟨rfl, hB⟩
    replace T0 := T0.step hB
    clear hB a0 a1 a2 a3 b0 b1 c0 c1 alt
    have a0 := (T0.b 0 rfl).c 0 rfl; have a1 := (T0.b 0 rfl).c 1 rfl; have a2 := (T0.b 0 rfl).c 2 rfl; have a3 := (T0.b 0 rfl).c 3 rfl; have b0 := (T0.b 1 rfl).c 0 rfl; have b1 := (T0.b 1 rfl).c 1 rfl; have c0 := (T0.b 2 rfl).c 0 rfl; have c1 := (T0.b 2 rfl).c 1 rfl; have alt := (T0.b 2 rfl).lt; simp only [Nat.add_zero] at a0 a1 a2 a3
    have IB := isBox_any x y u v
    by_cases h2 : boxOk x y u v = true
    · rw [h2] at IB
      go_wp2_with fail
      refine (IB _).mono ?_
      rintro e w2 ⟨rfl, hB⟩
      replace T0 := T0.step hB
      clear hB a0 a1 a2 a3 b0 b1 c0 c1 alt IB
      have a0 := (T0.b 0 rfl).c 0 rfl; have a1 := (T0.b 0 rfl).c 1 rfl; have a2 := (T0.b 0 rfl).c 2 rfl; have a3 := (T0.b 0 rfl).c 3 rfl; have b0 := (T0.b 1 rfl).c 0 rfl; have b1 := (T0.b 1 rfl).c 1 rfl; have c0 := (T0.b 2 rfl).c 0 rfl; have c1 := (T0.b 2 rfl).c 1 rfl; have alt := (T0.b 2 rfl).lt; simp only [Nat.add_zero] at a0 a1 a2 a3
      have s12 : spotOk x y = true ∧ spotOk u v = true := by
        have := h2
        simp only [boxOk, Bool.and_eq_true] at this
        exact ⟨this.1.1.1, this.1.1.2⟩
      obtain ⟨s1, s2⟩ := spots_of_seg h1
      obtain ⟨ha, hb⟩ := in6_of_spot s1
      obtain ⟨hc, hd⟩ := in6_of_spot s2
      obtain ⟨hx, hy⟩ := in6_of_spot s12.1
      obtain ⟨hu, hv⟩ := in6_of_spot s12.2
      have HO : Hid (z = (!boxOut a b c d x y u v && (lefts [turnSp a b c d x y, turnSp a b c d u v, turnSp a b c d x v, turnSp a b c d u y] 4 && rights [turnSp a b c d x y, turnSp a b c d u v, turnSp a b c d x v, turnSp a b c d u y] 4))) := by show _ = _; rw [← hz]; simp only [meetsBx, h1, h2, Bool.true_and]
      have MB := meetsBox_any a b c d x y u v ha hb hc hd hx hy hu hv
      clear ha hb hc hd hx hy hu hv s1 s2 s12 h1 h2 hz
      generalize (!boxOut a b c d x y u v && (lefts [turnSp a b c d x y, turnSp a b c d u v, turnSp a b c d x v, turnSp a b c d u y] 4 && rights [turnSp a b c d x y, turnSp a b c d u v, turnSp a b c d x v, turnSp a b c d u y] 4)) = m at *
      go_wp2_with fail
      refine (MB _).mono ?_
      rintro e w3 ⟨rfl, hB⟩
      replace T0 := T0.step hB
      clear hB a0 a1 a2 a3 b0 b1 c0 c1 alt MB
      have HBF := T0.below
      clear T0
      go_wp2
      go_ret
      exact ⟨ret_bool HO.out, HBF⟩
    · have h2 := Bool.eq_false_iff.2 h2
      rw [h2] at IB
      have HO : Hid (z = false) := by show _ = _; rw [← hz]; simp [meetsBx, h2]
      go_wp2_with fail
      refine (IB _).mono ?_
      rintro e w2 ⟨rfl, hB⟩
      replace T0 := T0.step hB
      have HBF := T0.below
      clear hB a0 a1 a2 a3 b0 b1 c0 c1 alt IB T0
      go_wp2
      go_ret
      exact ⟨ret_bool (by rw [HO.out]), HBF⟩
  · have h1 := Bool.eq_false_iff.2 h1
    have HO : Hid (z = false) := by show _ = _; rw [← hz]; simp [meetsBx, h1]
    go_wp2_with fail
    refine (implSegOk_any _ _ _ _ false h1 _).mono ?_
    rintro e w1 ⟨rfl, hB⟩
    replace T0 := T0.step hB
    have HBF := T0.below
    clear hB a0 a1 a2 a3 b0 b1 c0 c1 alt T0
    go_wp2
    go_ret
    exact ⟨ret_bool (by rw [HO.out]), HBF⟩
end Go.Proofs.Ytpnnpkchogooaaa

/- Segments that meet a box, by their numbers: both sides. -/
namespace Go.Proofs.Ytpnnpkchogooaaa
open Go.RowKit
/-- A right segment meets a box. -/
def hitB (a b c d x y u v : Int) : Bool := !boxOut a b c d x y u v && (lefts [turnSp a b c d x y, turnSp a b c d u v, turnSp a b c d x v, turnSp a b c d u y] 4 && rights [turnSp a b c d x y, turnSp a b c d u v, turnSp a b c d x v, turnSp a b c d u y] 4)
theorem NoOwn.mono {w : World} {b b' : Nat} {v : Value} {L : List Int} (h : NoOwn w b' v L) (hb : b ≤ b') : NoOwn w b v L := by
  rcases h with h | ⟨g, cap, f, h1, h2, h3⟩
  · exact .inl h
  · exact .inr ⟨g, cap, f, h1, by omega, h3⟩
end Go.Proofs.Ytpnnpkchogooaaa

/- What a window shows: a wider one shows no less: the reckoning. -/
namespace Go.Proofs.Ytpnnpkchogooaaa
open Go.RowKit
theorem turn_parts (a b c d X Y P Q : Int) : turnSp a b c d P Q = turnSp a b c d X Y + (c - a) * (Q - Y) + (d - b) * (X - P) := by
  unfold turnSp
  grind
theorem mul_nn {p q : Int} (hp : 0 ≤ p) (hq : 0 ≤ q) : 0 ≤ p * q := Int.mul_nonneg hp hq
theorem mul_pp {p q : Int} (hp : p ≤ 0) (hq : q ≤ 0) : 0 ≤ p * q := Int.mul_nonneg_of_nonpos_of_nonpos hp hq
theorem mul_np {p q : Int} (hp : 0 ≤ p) (hq : q ≤ 0) : p * q ≤ 0 := Int.mul_nonpos_of_nonneg_of_nonpos hp hq
theorem mul_pn {p q : Int} (hp : p ≤ 0) (hq : 0 ≤ q) : p * q ≤ 0 := Int.mul_nonpos_of_nonpos_of_nonneg hp hq
theorem turn_up {a b c d X Y x y u v : Int} (h1 : x ≤ X) (h2 : X ≤ u) (h3 : y ≤ Y) (h4 : Y ≤ v) (h : 0 ≤ turnSp a b c d X Y) : 0 ≤ turnSp a b c d x y ∨ 0 ≤ turnSp a b c d u v ∨ 0 ≤ turnSp a b c d x v ∨ 0 ≤ turnSp a b c d u y := by
  rcases Int.le_total 0 (c - a) with hA | hA <;> rcases Int.le_total 0 (d - b) with hD | hD
  · refine .inr (.inr (.inl ?_))
    rw [turn_parts a b c d X Y]
    have := mul_nn hA (show 0 ≤ v - Y by omega)
    have := mul_nn hD (show 0 ≤ X - x by omega)
    omega
  · refine .inr (.inl ?_)
    rw [turn_parts a b c d X Y]
    have := mul_nn hA (show 0 ≤ v - Y by omega)
    have := mul_pp hD (show X - u ≤ 0 by omega)
    omega
  · refine .inl ?_
    rw [turn_parts a b c d X Y]
    have := mul_pp hA (show y - Y ≤ 0 by omega)
    have := mul_nn hD (show 0 ≤ X - x by omega)
    omega
  · refine .inr (.inr (.inr ?_))
    rw [turn_parts a b c d X Y]
    have := mul_pp hA (show y - Y ≤ 0 by omega)
    have := mul_pp hD (show X - u ≤ 0 by omega)
    omega
theorem turn_down {a b c d X Y x y u v : Int} (h1 : x ≤ X) (h2 : X ≤ u) (h3 : y ≤ Y) (h4 : Y ≤ v) (h : turnSp a b c d X Y ≤ 0) : turnSp a b c d x y ≤ 0 ∨ turnSp a b c d u v ≤ 0 ∨ turnSp a b c d x v ≤ 0 ∨ turnSp a b c d u y ≤ 0 := by
  rcases Int.le_total 0 (c - a) with hA | hA <;> rcases Int.le_total 0 (d - b) with hD | hD
  · refine .inr (.inr (.inr ?_))
    rw [turn_parts a b c d X Y]
    have := mul_np hA (show y - Y ≤ 0 by omega)
    have := mul_np hD (show X - u ≤ 0 by omega)
    omega
  · refine .inl ?_
    rw [turn_parts a b c d X Y]
    have := mul_np hA (show y - Y ≤ 0 by omega)
    have := mul_pn hD (show 0 ≤ X - x by omega)
    omega
  · refine .inr (.inl ?_)
    rw [turn_parts a b c d X Y]
    have := mul_pn hA (show 0 ≤ v - Y by omega)
    have := mul_np hD (show X - u ≤ 0 by omega)
    omega
  · refine .inr (.inr (.inl ?_))
    rw [turn_parts a b c d X Y]
    have := mul_pn hA (show 0 ≤ v - Y by omega)
    have := mul_pn hD (show 0 ≤ X - x by omega)
    omega
theorem lefts4 (p q r s : Int) : lefts [p, q, r, s] 4 = true ↔ 0 ≤ p ∨ 0 ≤ q ∨ 0 ≤ r ∨ 0 ≤ s := by simp [lefts]
theorem rights4 (p q r s : Int) : rights [p, q, r, s] 4 = true ↔ p ≤ 0 ∨ q ≤ 0 ∨ r ≤ 0 ∨ s ≤ 0 := by simp [rights]
theorem hit_wider {a b c d x y u v x' y' u' v' : Int} (hx : x' ≤ x) (hy : y' ≤ y) (hu : u ≤ u') (hv : v ≤ v') (hxu : x ≤ u) (hyv : y ≤ v) (h : hitB a b c d x y u v = true) : hitB a b c d x' y' u' v' = true := by
  unfold hitB at h ⊢
  simp only [Bool.and_eq_true, Bool.not_eq_true', lefts4, rights4] at h ⊢
  obtain ⟨h1, h2, h3⟩ := h
  refine ⟨?_, ?_, ?_⟩
  · unfold boxOut at h1 ⊢
    rw [decide_eq_false_iff_not] at h1 ⊢
    omega
  · rcases h2 with h2 | h2 | h2 | h2 <;> exact turn_up (by omega) (by omega) (by omega) (by omega) h2
  · rcases h3 with h3 | h3 | h3 | h3 <;> exact turn_down (by omega) (by omega) (by omega) (by omega) h3
end Go.Proofs.Ytpnnpkchogooaaa

/- A segment meets a box just where it meets one of its sides or begins in it: the reckoning. -/
namespace Go.Proofs.Ytpnnpkchogooaaa
open Go.RowKit
theorem hit_iff {a b c d x y u v : Int} : hitB a b c d x y u v = true ↔ ((x ≤ c ∧ a ≤ u ∧ ¬ (b < y ∧ d < y) ∧ ¬ (v < b ∧ v < d)) ∧ (0 ≤ turnSp a b c d x y ∨ 0 ≤ turnSp a b c d u v ∨ 0 ≤ turnSp a b c d x v ∨ 0 ≤ turnSp a b c d u y) ∧ (turnSp a b c d x y ≤ 0 ∨ turnSp a b c d u v ≤ 0 ∨ turnSp a b c d x v ≤ 0 ∨ turnSp a b c d u y ≤ 0)) := by
  unfold hitB boxOut
  simp only [Bool.and_eq_true, Bool.not_eq_true', lefts4, rights4, decide_eq_false_iff_not]
  constructor
  · rintro ⟨h1, h2⟩
    exact ⟨by omega, h2⟩
  · rintro ⟨h1, h2⟩
    exact ⟨by omega, h2⟩
/-- Both bs on one side of a level, of which a part lies between: so does what lies between. -/
theorem mix_pos {p q r s : Int} (hp : 0 ≤ p) (hq : 0 ≤ q) (hpq : 0 < p + q) (hr : 0 < r) (hs : 0 < s) : 0 < p * r + q * s := by
  rcases Int.lt_or_le 0 p with h | h
  · have := Int.mul_pos h hr
    have := Int.mul_nonneg hq (Int.le_of_lt hs)
    omega
  · have h0 : p = 0 := by omega
    have := Int.mul_pos (show 0 < q by omega) hs
    rw [h0]
    omega
theorem turn_mix (a b c d x y : Int) : turnSp a b c d x y = (c - x) * (y - b) + (x - a) * (y - d) := by unfold turnSp; grind
theorem turn_miy (a b c d x y : Int) : turnSp a b c d x y = (d - y) * (a - x) + (y - b) * (c - x) := by unfold turnSp; grind
/-- A box that a segment meets, and in which it does not begin, has a side that it meets. -/
theorem hit_side {a b c d x y u v : Int} (hl : a < c ∨ (a = c ∧ b < d)) (hxu : x < u) (hyv : y < v) (h : hitB a b c d x y u v = true) (hin : ¬ (x ≤ a ∧ a ≤ u ∧ y ≤ b ∧ b ≤ v)) : hitB a b c d x y x v = true ∨ hitB a b c d x y u y = true ∨ hitB a b c d x v u v = true := by
  obtain ⟨⟨h1, h2, h3, h4⟩, hL, hR⟩ := hit_iff.1 h
  have m1 := turn_parts a b c d x y u y
  have m2 := turn_parts a b c d x v u v
  have m3 := turn_parts a b c d x y x v
  have m4 := turn_parts a b c d u y u v
  rw [Int.sub_self, Int.mul_zero] at m1 m2
  rw [show x - x = 0 by omega, Int.mul_zero] at m3
  rw [show u - u = 0 by omega, Int.mul_zero] at m4
  rcases Int.lt_or_le a x with ha | ha
  · -- it begins to the left
    have hca : 0 < c - a := by omega
    have k1 := Int.mul_pos hca (show 0 < v - y by omega)
    by_cases q1 : 0 < turnSp a b c d x y
    · -- below the corner
      have q2 : turnSp a b c d u y ≤ 0 := by omega
      refine .inr (.inl (hit_iff.2 ⟨⟨h1, h2, h3, ?_⟩, .inl (Int.le_of_lt q1), .inr (.inl q2)⟩))
      rintro ⟨r1, r2⟩
      rw [turn_mix] at q1
      have := mix_pos (show 0 ≤ c - x by omega) (show 0 ≤ x - a by omega) (by omega) (show 0 < b - y by omega) (show 0 < d - y by omega)
      have e : (c - x) * (y - b) + (x - a) * (y - d) = -((c - x) * (b - y) + (x - a) * (d - y)) := by grind
      omega
    · by_cases q3 : turnSp a b c d x v < 0
      · have q4 : 0 ≤ turnSp a b c d u v := by omega
        refine .inr (.inr (hit_iff.2 ⟨⟨h1, h2, ?_, h4⟩, .inr (.inl q4), .inl (Int.le_of_lt q3)⟩))
        rintro ⟨r1, r2⟩
        rw [turn_mix] at q3
        have := mix_pos (show 0 ≤ c - x by omega) (show 0 ≤ x - a by omega) (by omega) (show 0 < v - b by omega) (show 0 < v - d by omega)
        omega
      · exact .inl (hit_iff.2 ⟨⟨h1, by omega, h3, h4⟩, .inr (.inl (by omega)), .inl (by omega)⟩)
  · rcases Int.lt_or_le b y with hb | hb
    · -- it begins below
      have hd : 0 < d - b := by omega
      have k2 := Int.mul_pos hd (show 0 < u - x by omega)
      have k1 := Int.mul_nonneg (show 0 ≤ c - a by omega) (show 0 ≤ v - y by omega)
      have e2 : (d - b) * (x - u) = -((d - b) * (u - x)) := by grind
      have f1 : 0 ≤ turnSp a b c d x y := by
        unfold turnSp
        have := Int.mul_nonneg (show 0 ≤ c - a by omega) (show 0 ≤ y - b by omega)
        have := Int.mul_nonneg (show 0 ≤ d - b by omega) (show 0 ≤ a - x by omega)
        have e : (d - b) * (x - a) = -((d - b) * (a - x)) := by grind
        omega
      have f2 : turnSp a b c d u y ≤ 0 := by omega
      exact .inr (.inl (hit_iff.2 ⟨⟨h1, h2, h3, by omega⟩, .inl f1, .inr (.inl f2)⟩))
    · -- it begins above
      have hb2 : v < b := by omega
      have hd : 0 < b - d := by omega
      have k2 := Int.mul_pos hd (show 0 < u - x by omega)
      have k1 := Int.mul_nonneg (show 0 ≤ c - a by omega) (show 0 ≤ v - y by omega)
      have e2 : (d - b) * (x - u) = (b - d) * (u - x) := by grind
      have f1 : turnSp a b c d x v ≤ 0 := by
        unfold turnSp
        have := Int.mul_nonneg (show 0 ≤ c - a by omega) (show 0 ≤ b - v by omega)
        have := Int.mul_nonneg (show 0 ≤ b - d by omega) (show 0 ≤ a - x by omega)
        have e : (c - a) * (v - b) = -((c - a) * (b - v)) := by grind
        have e' : (d - b) * (x - a) = (b - d) * (a - x) := by grind
        omega
      have f2 : 0 ≤ turnSp a b c d u v := by omega
      exact .inr (.inr (hit_iff.2 ⟨⟨h1, h2, by omega, h4⟩, .inr (.inl f2), .inl f1⟩))
/-- A segment meets a level side just where it meets the side as a box. -/
theorem knd_level {a b c d p u q : Int} (hl : a < c ∨ (a = c ∧ b < d)) (hpu : p < u) : kndZ a b c d p q u q ≠ 0 ↔ hitB a b c d p q u q = true := by
  rw [Ne, knd_zero, hit_iff]
  have z1 : (b - d) * (u - p) - (q - q) * (c - a) = (b - d) * (u - p) := by rw [Int.sub_self, Int.zero_mul]; omega
  rw [z1]
  by_cases h0 : b = d
  · subst h0
    rw [if_pos (by rw [Int.sub_self, Int.zero_mul])]
    have t1 : ∀ x y, turnSp a b c b x y = (c - a) * (y - b) := fun x y => by unfold turnSp; rw [Int.sub_self, Int.zero_mul]; omega
    have t2 : turnZ a b c b p q = (c - a) * (q - b) := t1 p q
    simp only [t1, t2]
    have hca : 0 < c - a := by omega
    have t3 : (c - a) * (q - b) = 0 ↔ q = b := by
      rw [Int.mul_eq_zero]
      omega
    have key : ¬ (lessI (if lessI u q c b = true then u else c) (if lessI u q c b = true then q else b) (if lessI a b p q = true then p else a) (if lessI a b p q = true then q else b) = true) ∨ q ≠ b ∨ (c < p ∨ u < a) := by
      by_cases hq : q = b
      · subst hq
        by_cases hr : c < p ∨ u < a
        · exact .inr (.inr hr)
        · refine .inl ?_
          rw [less_iff]
          split <;> rename_i r1 <;> split <;> rename_i r2 <;> rw [less_iff] at r1 r2 <;> omega
      · exact .inr (.inl hq)
    have key2 : q = b → (c < p ∨ u < a) → lessI (if lessI u q c b = true then u else c) (if lessI u q c b = true then q else b) (if lessI a b p q = true then p else a) (if lessI a b p q = true then q else b) = true := by
      intro hq hr
      subst hq
      rw [less_iff]
      split <;> rename_i r1 <;> split <;> rename_i r2 <;> rw [less_iff] at r1 r2 <;> omega
    constructor
    · intro hn
      have n1 : q = b := t3.1 (Decidable.byContradiction fun h => hn (.inl h))
      have n2 : ¬ (c < p ∨ u < a) := fun h => hn (.inr (key2 n1 h))
      have n3 := t3.2 n1
      exact ⟨by omega, by omega, by omega⟩
    · rintro ⟨⟨r1, r2, r3, r4⟩, _, _⟩ hn
      have n1 : q = b := by omega
      rcases hn with hn | hn
      · exact hn (t3.2 n1)
      · rcases key with k | k | k
        · exact k hn
        · exact k n1
        · omega
  · have h1 : ¬ (b - d) * (u - p) = 0 := by
      rw [Int.mul_eq_zero]
      omega
    rw [if_neg h1, Classical.not_not, Bool.and_eq_true, pt2_iff, pt2_iff]
    have s1 : turnZ p q u q a b = (u - p) * (b - q) := by show (u - p) * (b - q) - (q - q) * (a - p) = _; rw [Int.sub_self, Int.zero_mul]; omega
    have s2 : turnZ p q u q c d = (u - p) * (d - q) := by show (u - p) * (d - q) - (q - q) * (c - p) = _; rw [Int.sub_self, Int.zero_mul]; omega
    have hup : 0 < u - p := by omega
    have sg : ∀ z : Int, (0 ≤ (u - p) * z ↔ 0 ≤ z) ∧ ((u - p) * z ≤ 0 ↔ z ≤ 0) := fun z => by
      constructor
      · exact ⟨fun h => Int.le_of_mul_le_mul_left (by rw [Int.mul_zero]; exact h) hup, fun h => Int.mul_nonneg (by omega) h⟩
      · exact ⟨fun h => Int.le_of_mul_le_mul_left (by rw [Int.mul_zero]; exact h) hup, fun h => Int.mul_nonpos_of_nonneg_of_nonpos (by omega) h⟩
    rw [s1, s2, (sg _).1, (sg _).1, (sg _).2, (sg _).2]
    show ((0 ≤ turnSp a b c d p q ∨ 0 ≤ turnSp a b c d u q) ∧ (turnSp a b c d p q ≤ 0 ∨ turnSp a b c d u q ≤ 0)) ∧ _ ↔ _
    constructor
    · rintro ⟨⟨r1, r2⟩, r3, r4⟩
      have e1 := turn_miy a b c d p q
      have e2 := turn_miy a b c d u q
      -- the point of the segment on that level lies between the two ends
      have hx : p ≤ c ∧ a ≤ u := by
        rcases Int.lt_or_le b d with hbd | hbd
        · have w1 : 0 ≤ d - q := by omega
          have w2 : 0 ≤ q - b := by omega
          constructor
          · apply Decidable.byContradiction
            intro hn
            have k1 := mix_pos w1 w2 (by omega) (show 0 < p - a by omega) (show 0 < p - c by omega)
            have k2 := mix_pos w1 w2 (by omega) (show 0 < u - a by omega) (show 0 < u - c by omega)
            have g1 : (d - q) * (a - p) + (q - b) * (c - p) = -((d - q) * (p - a) + (q - b) * (p - c)) := by grind
            have g2 : (d - q) * (a - u) + (q - b) * (c - u) = -((d - q) * (u - a) + (q - b) * (u - c)) := by grind
            omega
          · apply Decidable.byContradiction
            intro hn
            have k1 := mix_pos w1 w2 (by omega) (show 0 < a - p by omega) (show 0 < c - p by omega)
            have k2 := mix_pos w1 w2 (by omega) (show 0 < a - u by omega) (show 0 < c - u by omega)
            omega
        · have w1 : 0 ≤ q - d := by omega
          have w2 : 0 ≤ b - q := by omega
          constructor
          · apply Decidable.byContradiction
            intro hn
            have k1 := mix_pos w1 w2 (by omega) (show 0 < p - a by omega) (show 0 < p - c by omega)
            have k2 := mix_pos w1 w2 (by omega) (show 0 < u - a by omega) (show 0 < u - c by omega)
            have g1 : (d - q) * (a - p) + (q - b) * (c - p) = (q - d) * (p - a) + (b - q) * (p - c) := by grind
            have g2 : (d - q) * (a - u) + (q - b) * (c - u) = (q - d) * (u - a) + (b - q) * (u - c) := by grind
            omega
          · apply Decidable.byContradiction
            intro hn
            have k1 := mix_pos w1 w2 (by omega) (show 0 < a - p by omega) (show 0 < c - p by omega)
            have k2 := mix_pos w1 w2 (by omega) (show 0 < a - u by omega) (show 0 < c - u by omega)
            have g1 : (d - q) * (a - p) + (q - b) * (c - p) = -((q - d) * (a - p) + (b - q) * (c - p)) := by grind
            have g2 : (d - q) * (a - u) + (q - b) * (c - u) = -((q - d) * (a - u) + (b - q) * (c - u)) := by grind
            omega
      exact ⟨⟨hx.1, hx.2, by omega, by omega⟩, by omega, by omega⟩
    · rintro ⟨⟨r1, r2, r3, r4⟩, r5, r6⟩
      exact ⟨⟨by omega, by omega⟩, by omega, by omega⟩
/-- A segment meets an upright side just where it meets the side as a box. -/
theorem knd_upright {a b c d p q v : Int} (hl : a < c ∨ (a = c ∧ b < d)) (hqv : q < v) : kndZ a b c d p q p v ≠ 0 ↔ hitB a b c d p q p v = true := by
  rw [Ne, knd_zero, hit_iff]
  have z1 : (b - d) * (p - p) - (q - v) * (c - a) = (v - q) * (c - a) := by rw [Int.sub_self, Int.mul_zero]; grind
  rw [z1]
  by_cases h0 : a = c
  · subst h0
    rw [if_pos (by rw [Int.sub_self, Int.mul_zero])]
    have t1 : ∀ x y, turnSp a b a d x y = (d - b) * (a - x) := fun x y => by unfold turnSp; rw [Int.sub_self, Int.zero_mul]; grind
    have t2 : turnZ a b a d p q = (d - b) * (a - p) := t1 p q
    simp only [t1, t2]
    have hdb : 0 < d - b := by omega
    have t3 : (d - b) * (a - p) = 0 ↔ p = a := by
      rw [Int.mul_eq_zero]
      omega
    have key : p = a → (lessI (if lessI p v a d = true then p else a) (if lessI p v a d = true then v else d) (if lessI a b p q = true then p else a) (if lessI a b p q = true then q else b) = true ↔ (d < q ∨ v < b)) := by
      intro hp
      subst hp
      rw [less_iff]
      split <;> rename_i r1 <;> split <;> rename_i r2 <;> rw [less_iff] at r1 r2 <;> omega
    constructor
    · intro hn
      have n1 : p = a := t3.1 (Decidable.byContradiction fun h => hn (.inl h))
      have n2 : ¬ (d < q ∨ v < b) := fun h => hn (.inr ((key n1).2 h))
      have n3 := t3.2 n1
      exact ⟨by omega, by omega, by omega⟩
    · rintro ⟨⟨r1, r2, r3, r4⟩, _, _⟩ hn
      have n1 : p = a := by omega
      rcases hn with hn | hn
      · exact hn (t3.2 n1)
      · have := (key n1).1 hn
        omega
  · have h1 : ¬ (v - q) * (c - a) = 0 := by
      rw [Int.mul_eq_zero]
      omega
    rw [if_neg h1, Classical.not_not, Bool.and_eq_true, pt2_iff, pt2_iff]
    have s1 : turnZ p q p v a b = (v - q) * (p - a) := by show (p - p) * (b - q) - (v - q) * (a - p) = _; rw [Int.sub_self, Int.zero_mul]; grind
    have s2 : turnZ p q p v c d = (v - q) * (p - c) := by show (p - p) * (d - q) - (v - q) * (c - p) = _; rw [Int.sub_self, Int.zero_mul]; grind
    have hvq : 0 < v - q := by omega
    have sg : ∀ z : Int, (0 ≤ (v - q) * z ↔ 0 ≤ z) ∧ ((v - q) * z ≤ 0 ↔ z ≤ 0) := fun z => by
      constructor
      · exact ⟨fun h => Int.le_of_mul_le_mul_left (by rw [Int.mul_zero]; exact h) hvq, fun h => Int.mul_nonneg (by omega) h⟩
      · exact ⟨fun h => Int.le_of_mul_le_mul_left (by rw [Int.mul_zero]; exact h) hvq, fun h => Int.mul_nonpos_of_nonneg_of_nonpos (by omega) h⟩
    rw [s1, s2, (sg _).1, (sg _).1, (sg _).2, (sg _).2]
    show ((0 ≤ turnSp a b c d p q ∨ 0 ≤ turnSp a b c d p v) ∧ (turnSp a b c d p q ≤ 0 ∨ turnSp a b c d p v ≤ 0)) ∧ _ ↔ _
    constructor
    · rintro ⟨⟨r1, r2⟩, r3, r4⟩
      have e1 := turn_mix a b c d p q
      have e2 := turn_mix a b c d p v
      have w1 : 0 ≤ c - p := by omega
      have w2 : 0 ≤ p - a := by omega
      have hy : ¬ (b < q ∧ d < q) ∧ ¬ (v < b ∧ v < d) := by
        constructor
        · rintro ⟨n1, n2⟩
          have k1 := mix_pos w1 w2 (by omega) (show 0 < q - b by omega) (show 0 < q - d by omega)
          have k2 := mix_pos w1 w2 (by omega) (show 0 < v - b by omega) (show 0 < v - d by omega)
          omega
        · rintro ⟨n1, n2⟩
          have k1 := mix_pos w1 w2 (by omega) (show 0 < b - q by omega) (show 0 < d - q by omega)
          have k2 := mix_pos w1 w2 (by omega) (show 0 < b - v by omega) (show 0 < d - v by omega)
          have g1 : (c - p) * (q - b) + (p - a) * (q - d) = -((c - p) * (b - q) + (p - a) * (d - q)) := by grind
          have g2 : (c - p) * (v - b) + (p - a) * (v - d) = -((c - p) * (b - v) + (p - a) * (d - v)) := by grind
          omega
      exact ⟨⟨by omega, by omega, hy.1, hy.2⟩, by omega, by omega⟩
    · rintro ⟨⟨r1, r2, r3, r4⟩, r5, r6⟩
      exact ⟨⟨by omega, by omega⟩, by omega, by omega⟩
/-- What the law asks: whether a segment meets a box, by its ends and the box's sides. -/
theorem box_sides {a b c d x y u v : Int} (hl : a < c ∨ (a = c ∧ b < d)) (hxu : x < u) (hyv : y < v) : hitB a b c d x y u v = true ↔ ((x ≤ a ∧ a ≤ u ∧ y ≤ b ∧ b ≤ v) ∨ kndZ a b c d x y u y ≠ 0 ∨ kndZ a b c d u y u v ≠ 0 ∨ kndZ a b c d x v u v ≠ 0 ∨ kndZ a b c d x y x v ≠ 0 ∨ (x ≤ c ∧ c ≤ u ∧ y ≤ d ∧ d ≤ v)) := by
  rw [knd_level hl hxu, knd_level hl hxu, knd_upright hl hyv, knd_upright hl hyv]
  constructor
  · intro h
    by_cases hin : x ≤ a ∧ a ≤ u ∧ y ≤ b ∧ b ≤ v
    · exact .inl hin
    · rcases hit_side hl hxu hyv h hin with h1 | h1 | h1
      · exact .inr (.inr (.inr (.inr (.inl h1))))
      · exact .inr (.inl h1)
      · exact .inr (.inr (.inr (.inl h1)))
  · rintro (h | h | h | h | h | h)
    · have hp : hitB a b c d a b a b = true := hit_iff.2 ⟨by omega, .inl (by rw [show turnSp a b c d a b = 0 by unfold turnSp; rw [Int.sub_self, Int.sub_self, Int.mul_zero, Int.mul_zero]; rfl]; decide), .inl (by rw [show turnSp a b c d a b = 0 by unfold turnSp; rw [Int.sub_self, Int.sub_self, Int.mul_zero, Int.mul_zero]; rfl]; decide)⟩
      exact hit_wider (by omega) (by omega) (by omega) (by omega) (Int.le_refl _) (Int.le_refl _) hp
    · exact hit_wider (by omega) (by omega) (by omega) (by omega) (by omega) (by omega) h
    · exact hit_wider (by omega) (by omega) (by omega) (by omega) (by omega) (by omega) h
    · exact hit_wider (by omega) (by omega) (by omega) (by omega) (by omega) (by omega) h
    · exact hit_wider (by omega) (by omega) (by omega) (by omega) (by omega) (by omega) h
    · have z : turnSp a b c d c d = 0 := by unfold turnSp; grind
      have hp : hitB a b c d c d c d = true := hit_iff.2 ⟨by omega, .inl (by rw [z]; decide), .inl (by rw [z]; decide)⟩
      exact hit_wider (by omega) (by omega) (by omega) (by omega) (Int.le_refl _) (Int.le_refl _) hp
end Go.Proofs.Ytpnnpkchogooaaa

/- A segment of two spots: the program's walk. -/
namespace Go.Proofs.Ytpnnpkchogooaaa
open Go.RowKit
set_option maxRecDepth 100000 in
set_option maxHeartbeats 400000 in
theorem implSegOf_any (x y u v A B C D : Int) (l k : Bool) (hl : lessI u v x y = l) (hk : segOk A B C D = k) (hA : cond l u x = A) (hB : cond l v y = B) (hC : cond l x u = C) (hD : cond l y v = D) (w : World) :
    Calls Try.prog 10 #[Sp x y, Sp u v] w (VP (.tuple #[Sg (cond k A 0) (cond k B 0) (cond k C 0) (cond k D 0), .bool k]) w) := by
  cases l <;> simp only [cond_true, cond_false] at hA hB hC hD <;> subst hA hB hC hD
  · have B0 := Blk.new w [.int .i64 x, .int .i64 y] 25 rfl
    have HB0 : Below w.heap.size w _ := (Below.refl _ w).alloc (Nat.le_refl _) (.cells #[.int .i64 x, .int .i64 y] 25)
    have B1 := Blk.new (w.alloc (.cells #[.int .i64 x, .int .i64 y] 25)) [.int .i64 u, .int .i64 v] 25 (g := w.heap.size + 1) (by simp)
    replace B0 := B0.alloc (.cells #[.int .i64 u, .int .i64 v] 25)
    replace HB0 := HB0.alloc (by simp) (.cells #[.int .i64 u, .int .i64 v] 25)
    have B2 := Blk.new ((w.alloc (.cells #[.int .i64 x, .int .i64 y] 25)).alloc (.cells #[.int .i64 u, .int .i64 v] 25)) [.int .i64 0, .int .i64 0, .int .i64 0, .int .i64 0] 27 (g := w.heap.size + 1 + 1) (by simp)
    replace B0 := B0.alloc (.cells #[.int .i64 0, .int .i64 0, .int .i64 0, .int .i64 0] 27)
    replace B1 := B1.alloc (.cells #[.int .i64 0, .int .i64 0, .int .i64 0, .int .i64 0] 27)
    replace HB0 := HB0.alloc (by simp; omega) (.cells #[.int .i64 0, .int .i64 0, .int .i64 0, .int .i64 0] 27)
    have B3 := Blk.new (((w.alloc (.cells #[.int .i64 x, .int .i64 y] 25)).alloc (.cells #[.int .i64 u, .int .i64 v] 25)).alloc (.cells #[.int .i64 0, .int .i64 0, .int .i64 0, .int .i64 0] 27)) [.int .i64 x, .int .i64 y, .int .i64 u, .int .i64 v] 27 (g := w.heap.size + 1 + 1 + 1) (by simp)
    replace B0 := B0.alloc (.cells #[.int .i64 x, .int .i64 y, .int .i64 u, .int .i64 v] 27)
    replace B1 := B1.alloc (.cells #[.int .i64 x, .int .i64 y, .int .i64 u, .int .i64 v] 27)
    replace B2 := B2.alloc (.cells #[.int .i64 x, .int .i64 y, .int .i64 u, .int .i64 v] 27)
    replace HB0 := HB0.alloc (by simp; omega) (.cells #[.int .i64 x, .int .i64 y, .int .i64 u, .int .i64 v] 27)
    go_enter Try.func10, Try.ntmps10
    go_wp2_with fail
    refine (isAhead_any _ _ _ _ false hl _).mono ?_
    rintro e w1 ⟨rfl, hB⟩
    replace B0 := B0.step hB; replace B1 := B1.step hB; replace B2 := B2.step hB; replace B3 := B3.step hB
    have HB : Below w.heap.size w w1 := HB0.trans (hB.mono HB0.size)
    clear hB HB0
    have cB00 := B0.c 0 rfl; have fB00 := B0.f 0 rfl; have cB01 := B0.c 1 rfl; have fB01 := B0.f 1 rfl; have cB10 := B1.c 0 rfl; have fB10 := B1.f 0 rfl; have cB11 := B1.c 1 rfl; have fB11 := B1.f 1 rfl; have cB20 := B2.c 0 rfl; have fB20 := B2.f 0 rfl; have cB21 := B2.c 1 rfl; have fB21 := B2.f 1 rfl; have cB22 := B2.c 2 rfl; have fB22 := B2.f 2 rfl; have cB23 := B2.c 3 rfl; have fB23 := B2.f 3 rfl; have cB30 := B3.c 0 rfl; have fB30 := B3.f 0 rfl; have cB31 := B3.c 1 rfl; have fB31 := B3.f 1 rfl; have cB32 := B3.c 2 rfl; have fB32 := B3.f 2 rfl; have cB33 := B3.c 3 rfl; have fB33 := B3.f 3 rfl; have ltB0 := B0.lt; have ltB1 := B1.lt; have ltB2 := B2.lt; have ltB3 := B3.lt
    go_wp2_with fail
    have D2 := B2
    have D3 := B3
    have HC := HB
    refine (implSegOk_any _ _ _ _ k hk _).mono ?_
    rintro e w2 ⟨rfl, hB⟩
    replace D2 := D2.step hB
    replace D3 := D3.step hB
    have HD : Below w.heap.size w w2 := HC.trans (hB.mono HC.size)
    clear hB HC HB B0 B1 B2 B3 cB00 fB00 cB01 fB01 cB10 fB10 cB11 fB11 cB20 fB20 cB21 fB21 cB22 fB22 cB23 fB23 cB30 fB30 cB31 fB31 cB32 fB32 cB33 fB33 ltB0 ltB1 ltB2 ltB3
    have cD20 := D2.c 0 rfl; have fD20 := D2.f 0 rfl; have cD21 := D2.c 1 rfl; have fD21 := D2.f 1 rfl; have cD22 := D2.c 2 rfl; have fD22 := D2.f 2 rfl; have cD23 := D2.c 3 rfl; have fD23 := D2.f 3 rfl; have cD30 := D3.c 0 rfl; have fD30 := D3.f 0 rfl; have cD31 := D3.c 1 rfl; have fD31 := D3.f 1 rfl; have cD32 := D3.c 2 rfl; have fD32 := D3.f 2 rfl; have cD33 := D3.c 3 rfl; have fD33 := D3.f 3 rfl
    have ltD2 := D2.lt; have ltD3 := D3.lt
    cases k
    · go_wp2
      refine bodyPost_ret (v := .tuple #[Sg 0 0 0 0, .bool false]) (by simp [results, Try.results10, go_sem, cD20, cD21, cD22, cD23]) rfl ?_
      refine ⟨rfl, ?_⟩
      repeat' (refine Below.setCell ?_ (by simp; try omega) _)
      exact HD
    · go_wp2
      refine bodyPost_ret (v := .tuple #[Sg x y u v, .bool true]) (by simp [results, Try.results10, go_sem, cD20, cD21, cD22, cD23]) rfl ?_
      refine ⟨rfl, ?_⟩
      repeat' (refine Below.setCell ?_ (by simp; try omega) _)
      exact HD
  · have B0 := Blk.new w [.int .i64 x, .int .i64 y] 25 rfl
    have HB0 : Below w.heap.size w _ := (Below.refl _ w).alloc (Nat.le_refl _) (.cells #[.int .i64 x, .int .i64 y] 25)
    have B1 := Blk.new (w.alloc (.cells #[.int .i64 x, .int .i64 y] 25)) [.int .i64 u, .int .i64 v] 25 (g := w.heap.size + 1) (by simp)
    replace B0 := B0.alloc (.cells #[.int .i64 u, .int .i64 v] 25)
    replace HB0 := HB0.alloc (by simp) (.cells #[.int .i64 u, .int .i64 v] 25)
    have B2 := Blk.new ((w.alloc (.cells #[.int .i64 x, .int .i64 y] 25)).alloc (.cells #[.int .i64 u, .int .i64 v] 25)) [.int .i64 0, .int .i64 0, .int .i64 0, .int .i64 0] 27 (g := w.heap.size + 1 + 1) (by simp)
    replace B0 := B0.alloc (.cells #[.int .i64 0, .int .i64 0, .int .i64 0, .int .i64 0] 27)
    replace B1 := B1.alloc (.cells #[.int .i64 0, .int .i64 0, .int .i64 0, .int .i64 0] 27)
    replace HB0 := HB0.alloc (by simp; omega) (.cells #[.int .i64 0, .int .i64 0, .int .i64 0, .int .i64 0] 27)
    have B3 := Blk.new (((w.alloc (.cells #[.int .i64 x, .int .i64 y] 25)).alloc (.cells #[.int .i64 u, .int .i64 v] 25)).alloc (.cells #[.int .i64 0, .int .i64 0, .int .i64 0, .int .i64 0] 27)) [.int .i64 x, .int .i64 y, .int .i64 u, .int .i64 v] 27 (g := w.heap.size + 1 + 1 + 1) (by simp)
    replace B0 := B0.alloc (.cells #[.int .i64 x, .int .i64 y, .int .i64 u, .int .i64 v] 27)
    replace B1 := B1.alloc (.cells #[.int .i64 x, .int .i64 y, .int .i64 u, .int .i64 v] 27)
    replace B2 := B2.alloc (.cells #[.int .i64 x, .int .i64 y, .int .i64 u, .int .i64 v] 27)
    replace HB0 := HB0.alloc (by simp; omega) (.cells #[.int .i64 x, .int .i64 y, .int .i64 u, .int .i64 v] 27)
    go_enter Try.func10, Try.ntmps10
    go_wp2_with fail
    refine (isAhead_any _ _ _ _ true hl _).mono ?_
    rintro e w1 ⟨rfl, hB⟩
    replace B0 := B0.step hB; replace B1 := B1.step hB; replace B2 := B2.step hB; replace B3 := B3.step hB
    have HB : Below w.heap.size w w1 := HB0.trans (hB.mono HB0.size)
    clear hB HB0
    have cB00 := B0.c 0 rfl; have fB00 := B0.f 0 rfl; have cB01 := B0.c 1 rfl; have fB01 := B0.f 1 rfl; have cB10 := B1.c 0 rfl; have fB10 := B1.f 0 rfl; have cB11 := B1.c 1 rfl; have fB11 := B1.f 1 rfl; have cB20 := B2.c 0 rfl; have fB20 := B2.f 0 rfl; have cB21 := B2.c 1 rfl; have fB21 := B2.f 1 rfl; have cB22 := B2.c 2 rfl; have fB22 := B2.f 2 rfl; have cB23 := B2.c 3 rfl; have fB23 := B2.f 3 rfl; have cB30 := B3.c 0 rfl; have fB30 := B3.f 0 rfl; have cB31 := B3.c 1 rfl; have fB31 := B3.f 1 rfl; have cB32 := B3.c 2 rfl; have fB32 := B3.f 2 rfl; have cB33 := B3.c 3 rfl; have fB33 := B3.f 3 rfl; have ltB0 := B0.lt; have ltB1 := B1.lt; have ltB2 := B2.lt; have ltB3 := B3.lt
    go_wp2_with fail
    have D2 := ((((B2.setO (p := ⟨w.heap.size + 1 + 1 + 1, 0, none⟩) (by simp) (.int .i64 u)).setO (p := ⟨w.heap.size + 1 + 1 + 1, 1, none⟩) (by simp) (.int .i64 v)).setO (p := ⟨w.heap.size + 1 + 1 + 1, 2, none⟩) (by simp) (.int .i64 x)).setO (p := ⟨w.heap.size + 1 + 1 + 1, 3, none⟩) (by simp) (.int .i64 y))
    have D3 := ((((B3.setI 0 (by simp) (.int .i64 u)).setI 1 (by simp) (.int .i64 v)).setI 2 (by simp) (.int .i64 x)).setI 3 (by simp) (.int .i64 y))
    simp only [List.set_cons_zero, List.set_cons_succ] at D3
    have HC := ((((HB.setCell (p := ⟨w.heap.size + 1 + 1 + 1, 0, none⟩) (by simp; omega) (.int .i64 u)).setCell (p := ⟨w.heap.size + 1 + 1 + 1, 1, none⟩) (by simp; omega) (.int .i64 v)).setCell (p := ⟨w.heap.size + 1 + 1 + 1, 2, none⟩) (by simp; omega) (.int .i64 x)).setCell (p := ⟨w.heap.size + 1 + 1 + 1, 3, none⟩) (by simp; omega) (.int .i64 y))
    refine (implSegOk_any _ _ _ _ k hk _).mono ?_
    rintro e w2 ⟨rfl, hB⟩
    replace D2 := D2.step hB
    replace D3 := D3.step hB
    have HD : Below w.heap.size w w2 := HC.trans (hB.mono HC.size)
    clear hB HC HB B0 B1 B2 B3 cB00 fB00 cB01 fB01 cB10 fB10 cB11 fB11 cB20 fB20 cB21 fB21 cB22 fB22 cB23 fB23 cB30 fB30 cB31 fB31 cB32 fB32 cB33 fB33 ltB0 ltB1 ltB2 ltB3
    have cD20 := D2.c 0 rfl; have fD20 := D2.f 0 rfl; have cD21 := D2.c 1 rfl; have fD21 := D2.f 1 rfl; have cD22 := D2.c 2 rfl; have fD22 := D2.f 2 rfl; have cD23 := D2.c 3 rfl; have fD23 := D2.f 3 rfl; have cD30 := D3.c 0 rfl; have fD30 := D3.f 0 rfl; have cD31 := D3.c 1 rfl; have fD31 := D3.f 1 rfl; have cD32 := D3.c 2 rfl; have fD32 := D3.f 2 rfl; have cD33 := D3.c 3 rfl; have fD33 := D3.f 3 rfl
    have ltD2 := D2.lt; have ltD3 := D3.lt
    cases k
    · go_wp2
      refine bodyPost_ret (v := .tuple #[Sg 0 0 0 0, .bool false]) (by simp [results, Try.results10, go_sem, cD20, cD21, cD22, cD23]) rfl ?_
      refine ⟨rfl, ?_⟩
      repeat' (refine Below.setCell ?_ (by simp; try omega) _)
      exact HD
    · go_wp2
      refine bodyPost_ret (v := .tuple #[Sg u v x y, .bool true]) (by simp [results, Try.results10, go_sem, cD20, cD21, cD22, cD23]) rfl ?_
      refine ⟨rfl, ?_⟩
      repeat' (refine Below.setCell ?_ (by simp; try omega) _)
      exact HD
end Go.Proofs.Ytpnnpkchogooaaa

/- A segment and a box: the law over drawn ones. -/
namespace Go.Proofs.Ytpnnpkchogooaaa
open Go.RowKit
theorem bigX_any (ao : Option Addr) (n cap : Nat) (w : World) (z : Bool) (hz : decide (1048576 < n) = z) : Calls Try.prog 4 #[.slice ao n cap] w (BoolP z w) := by
  subst hz
  go_enter Try.func4, Try.ntmps4
  go_wp2
  go_ret
  exact ⟨by simp; try omega, Below.refl _ _⟩
/-- A side of a right box, and whether a segment meets it. -/
def SideP (a b c d x y u v p q r s : Int) : Prop := (∀ w, Calls Try.prog 10 #[.agg #[.int .i64 x, .int .i64 y], .agg #[.int .i64 u, .int .i64 v]] w (VP (.tuple #[.agg #[.int .i64 p, .int .i64 q, .int .i64 r, .int .i64 s], .bool true]) w)) ∧ ∃ (r0 r1 r2 r3 r4 r5 r6 r7 r8 r9 r10 r11 s0 s1 s2 s3 s4 s5 s6 s7 s8 s9 s10 s11 : Int), ∀ w, Calls Try.prog 11 #[.agg #[.int .i64 a, .int .i64 b, .int .i64 c, .int .i64 d], .agg #[.int .i64 p, .int .i64 q, .int .i64 r, .int .i64 s]] w (VP (.tuple #[.int .i64 (kndZ a b c d p q r s), .agg #[.int .u64 r0, .int .u64 r1, .int .u64 r2, .int .u64 r3, .int .u64 r4, .int .u64 r5, .int .u64 r6, .int .u64 r7, .int .u64 r8, .int .u64 r9, .int .u64 r10, .int .u64 r11], .agg #[.int .u64 s0, .int .u64 s1, .int .u64 s2, .int .u64 s3, .int .u64 s4, .int .u64 s5, .int .u64 s6, .int .u64 s7, .int .u64 s8, .int .u64 s9, .int .u64 s10, .int .u64 s11]]) w)
theorem side_of {a b c d x y u v p q r s : Int} (l : Bool) (h1 : segOk a b c d = true) (h2 : segOk p q r s = true) (hl : lessI u v x y = l) (hA : cond l u x = p) (hB : cond l v y = q) (hC : cond l x u = r) (hD : cond l y v = s) : SideP a b c d x y u v p q r s := by
  refine ⟨fun w => ?_, ?_⟩
  · have := implSegOf_any x y u v p q r s l true hl h2 hA hB hC hD w
    simpa using this
  · obtain ⟨r0, r1, r2, r3, r4, r5, r6, r7, r8, r9, r10, r11, s0, s1, s2, s3, s4, s5, s6, s7, s8, s9, s10, s11, e⟩ := meetW_12 a b c d p q r s
    refine ⟨r0, r1, r2, r3, r4, r5, r6, r7, r8, r9, r10, r11, s0, s1, s2, s3, s4, s5, s6, s7, s8, s9, s10, s11, fun w => ?_⟩
    have := implMeet_det a b c d p q r s w
    rw [show meetV a b c d p q r s = meetW a b c d p q r s by unfold meetV; rw [h1, h2]; rfl, e] at this
    exact this
theorem seg_lessX {a b c d : Int} (h : segOk a b c d = true) : a < c ∨ (a = c ∧ b < d) := by
  unfold segOk lessI at h
  simp only [Bool.and_eq_true, decide_eq_true_eq] at h
  exact h.2
theorem four_sides {a b c d x y u v : Int} (h1 : segOk a b c d = true) (h2 : spotOk x y = true) (h3 : spotOk u v = true) (hx : x < u) (hy : y < v) : SideP a b c d x y u y x y u y ∧ SideP a b c d u y u v u y u v ∧ SideP a b c d u v x v x v u v ∧ SideP a b c d x v x y x y x v := by
  have k : ∀ p q r s : Int, spotOk p q = true → spotOk r s = true → (p < r ∨ (p = r ∧ q < s)) → segOk p q r s = true := fun p q r s a1 a2 a3 => by
    unfold segOk
    rw [a1, a2, (less_iff _ _ _ _).2 a3]
    rfl
  have sp : spotOk u y = true ∧ spotOk x v = true := by
    unfold spotOk at *
    simp only [decide_eq_true_eq] at *
    omega
  refine ⟨side_of false h1 (k _ _ _ _ h2 sp.1 (by omega)) ?_ rfl rfl rfl rfl, side_of false h1 (k _ _ _ _ sp.1 h3 (by omega)) ?_ rfl rfl rfl rfl, side_of true h1 (k _ _ _ _ sp.2 h3 (by omega)) ?_ rfl rfl rfl rfl, side_of true h1 (k _ _ _ _ h2 sp.2 (by omega)) ?_ rfl rfl rfl rfl⟩
  · rw [← Bool.not_eq_true, less_iff]; omega
  · rw [← Bool.not_eq_true, less_iff]; omega
  · rw [less_iff]; omega
  · rw [less_iff]; omega
set_option maxRecDepth 100000 in
set_option maxHeartbeats 8000000 in
theorem lawBoxed_any (ao : Option Addr) (n cap : Nat) (cs : List Int) (w : World) (h : n ≤ 1048576 → Code w ao n cs) : Calls Try.prog 3 #[.slice ao n cap] w (BoolP true w) := by
  by_cases hn : 1048576 < n
  · go_enter Try.func3, Try.ntmps3
    go_wp2_with fail
    refine (bigX_any ao n cap _ true (by simpa using hn)).mono ?_
    rintro e w1 ⟨rfl, hB⟩
    clear h
    go_wp2
    go_ret
    exact ⟨rfl, hB⟩
  · have hc := h (by omega)
    clear h
    go_enter Try.func3, Try.ntmps3
    go_wp2_with fail
    refine (bigX_any ao n cap _ false (by simpa using hn)).mono ?_
    rintro e w1 ⟨rfl, HB⟩
    replace hc := hc.below HB
    go_wp2_with fail
    refine (drawMeetsBox_any ao n cap cs _ hc).mono ?_
    rintro e w2 ⟨a, b, c, d, x, y, u, v, rfl, ia, ib, ic, id, hx, hy, hu, hv, hB⟩
    replace HB := HB.trans (hB.mono HB.size)
    clear hB hc hn ia ib ic id hx hy hu hv
    have X3 := ((Blk.new w2 [.int .i64 a, .int .i64 b, .int .i64 c, .int .i64 d] 27 rfl).alloc (.cells #[.int .i64 x, .int .i64 y] 25)).alloc (.cells #[.int .i64 u, .int .i64 v] 25)
    have X4 := (Blk.new (w2.alloc (.cells #[.int .i64 a, .int .i64 b, .int .i64 c, .int .i64 d] 27)) [.int .i64 x, .int .i64 y] 25 (g := w2.heap.size + 1) (by simp)).alloc (.cells #[.int .i64 u, .int .i64 v] 25)
    have X5 := Blk.new ((w2.alloc (.cells #[.int .i64 a, .int .i64 b, .int .i64 c, .int .i64 d] 27)).alloc (.cells #[.int .i64 x, .int .i64 y] 25)) [.int .i64 u, .int .i64 v] 25 (g := w2.heap.size + 1 + 1) (by simp)
    rw [show ([.int .i64 a, .int .i64 b, .int .i64 c, .int .i64 d] : List Value).toArray = #[.int .i64 a, .int .i64 b, .int .i64 c, .int .i64 d] from rfl] at X3 X4 X5
    rw [show ([.int .i64 x, .int .i64 y] : List Value).toArray = #[.int .i64 x, .int .i64 y] from rfl] at X4 X5
    rw [show ([.int .i64 u, .int .i64 v] : List Value).toArray = #[.int .i64 u, .int .i64 v] from rfl] at X5
    have ha : Below w2.heap.size w2 (((w2.alloc (.cells #[.int .i64 a, .int .i64 b, .int .i64 c, .int .i64 d] 27)).alloc (.cells #[.int .i64 x, .int .i64 y] 25)).alloc (.cells #[.int .i64 u, .int .i64 v] 25)) := (((Below.refl _ _).alloc (Nat.le_refl _) _).alloc (by simp) _).alloc (by simp; omega) _
    replace HB := HB.trans (ha.mono HB.size)
    clear ha
    go_upto_region 4 with fail
    revert X3 X4 X5 HB
    generalize (((w2.alloc (.cells #[.int .i64 a, .int .i64 b, .int .i64 c, .int .i64 d] 27)).alloc (.cells #[.int .i64 x, .int .i64 y] 25)).alloc (.cells #[.int .i64 u, .int .i64 v] 25)) = W2
    generalize w2.heap.size + 1 + 1 = A5
    generalize w2.heap.size + 1 = A4
    generalize w2.heap.size = A3
    intro X3 X4 X5 HB
    have CI := implMeetsBox_any a b c d x y u v _ rfl
    have CS := specMeetsBox_any a b c d x y u v _ rfl
    have SO := implSegOk_any a b c d _ rfl
    have P1 := implSpotOk_any x y _ rfl
    have P2 := implSpotOk_any u v _ rfl
    obtain ⟨mb, hmb⟩ : ∃ mb, meetsBx a b c d x y u v = mb := ⟨_, rfl⟩
    rw [hmb] at CI CS
    have e1 : (mb != mb) = false := by simp
    obtain ⟨q0, q1, q2, q3⟩ := X3.cs4
    obtain ⟨p0, p1⟩ := X4.cs2
    obtain ⟨s0, s1⟩ := X5.cs2
    go_wp2_with fail
    clear q0 q1 q2 q3 p0 p1 s0 s1
    refine (CI _).mono ?_
    rintro e w4 ⟨rfl, hB⟩
    replace HB := HB.trans (hB.mono HB.size)
    replace X3 := X3.step hB
    replace X4 := X4.step hB
    replace X5 := X5.step hB
    clear hB
    obtain ⟨q0, q1, q2, q3⟩ := X3.cs4
    obtain ⟨p0, p1⟩ := X4.cs2
    obtain ⟨s0, s1⟩ := X5.cs2
    go_wp2_with fail
    clear q0 q1 q2 q3 p0 p1 s0 s1
    refine (CS _).mono ?_
    rintro e w5 ⟨rfl, hB⟩
    replace HB := HB.trans (hB.mono HB.size)
    replace X3 := X3.step hB
    replace X4 := X4.step hB
    replace X5 := X5.step hB
    clear hB
    obtain ⟨q0, q1, q2, q3⟩ := X3.cs4
    obtain ⟨p0, p1⟩ := X4.cs2
    obtain ⟨s0, s1⟩ := X5.cs2
    go_wp2_with fail
    clear q0 q1 q2 q3 p0 p1 s0 s1
    refine (SO _).mono ?_
    rintro e w6 ⟨rfl, hB⟩
    replace HB := HB.trans (hB.mono HB.size)
    replace X3 := X3.step hB
    replace X4 := X4.step hB
    replace X5 := X5.step hB
    clear hB
    cases hso : segOk a b c d
    · go_wp2
      go_ret
      exact ⟨rfl, HB⟩
    · obtain ⟨p0, p1⟩ := X4.cs2
      go_wp2_with fail
      clear p0 p1
      refine (P1 _).mono ?_
      rintro e w7 ⟨rfl, hB⟩
      replace HB := HB.trans (hB.mono HB.size)
      replace X3 := X3.step hB
      replace X4 := X4.step hB
      replace X5 := X5.step hB
      clear hB
      cases hs1 : spotOk x y
      · go_wp2
        go_ret
        exact ⟨rfl, HB⟩
      · obtain ⟨s0, s1⟩ := X5.cs2
        go_wp2_with fail
        clear s0 s1
        refine (P2 _).mono ?_
        rintro e w8 ⟨rfl, hB⟩
        replace HB := HB.trans (hB.mono HB.size)
        replace X3 := X3.step hB
        replace X4 := X4.step hB
        replace X5 := X5.step hB
        clear hB
        cases hs2 : spotOk u v
        · go_wp2
          go_ret
          exact ⟨rfl, HB⟩
        · obtain ⟨p0, p1⟩ := X4.cs2
          obtain ⟨s0, s1⟩ := X5.cs2
          by_cases hxu : x < u
          · have g1 : ¬ u ≤ x := by omega
            by_cases hyv : y < v
            · have g2 : ¬ v ≤ y := by omega
              obtain ⟨⟨SA0, MA0⟩, ⟨SA1, MA1⟩, ⟨SA2, MA2⟩, SA3, MA3⟩ := four_sides hso hs1 hs2 hxu hyv
              have hl := seg_lessX hso
              have hbs : mb = true ↔ ((x ≤ a ∧ a ≤ u ∧ y ≤ b ∧ b ≤ v) ∨ kndZ a b c d x y u y ≠ 0 ∨ kndZ a b c d u y u v ≠ 0 ∨ kndZ a b c d x v u v ≠ 0 ∨ kndZ a b c d x y x v ≠ 0 ∨ (x ≤ c ∧ c ≤ u ∧ y ≤ d ∧ d ≤ v)) := by
                rw [← hmb]
                unfold meetsBx boxOk
                rw [hso, hs1, hs2, decide_eq_true (Int.le_of_lt hxu), decide_eq_true (Int.le_of_lt hyv)]
                show hitB a b c d x y u v = true ↔ _
                exact box_sides hl hxu hyv
              generalize kndZ a b c d x y u y = K0 at hbs MA0
              generalize kndZ a b c d u y u v = K1 at hbs MA1
              generalize kndZ a b c d x v u v = K2 at hbs MA2
              generalize kndZ a b c d x y x v = K3 at hbs MA3
              clear CI CS SO P1 P2 hmb hso hs1 hs2 hl
              go_upto_region 9 with fail
              clear p0 p1 s0 s1
              go_cut [7] (fun pv wx => wx = w8 ∧ ∃ t : Bool, pv = .bool t ∧ (t = true ↔ (x ≤ a ∧ a ≤ u ∧ y ≤ b ∧ b ≤ v)))
              case first =>
                obtain ⟨q0, q1, q2, q3⟩ := X3.cs4
                obtain ⟨p0, p1⟩ := X4.cs2
                obtain ⟨s0, s1⟩ := X5.cs2
                by_cases c0 : x ≤ a
                · by_cases c1 : a ≤ u
                  · by_cases c2 : y ≤ b
                    · by_cases c3 : b ≤ v
                      · go_wp2
                        go_meet
                        case rel => exact ⟨rfl, true, rfl, by simp only [true_iff]; omega⟩
                      · go_wp2
                        go_meet
                        case rel => exact ⟨rfl, false, rfl, by simp only [Bool.false_eq_true, false_iff]; omega⟩
                    · go_wp2
                      go_meet
                      case rel => exact ⟨rfl, false, rfl, by simp only [Bool.false_eq_true, false_iff]; omega⟩
                  · go_wp2
                    go_meet
                    case rel => exact ⟨rfl, false, rfl, by simp only [Bool.false_eq_true, false_iff]; omega⟩
                · go_wp2
                  go_meet
                  case rel => exact ⟨rfl, false, rfl, by simp only [Bool.false_eq_true, false_iff]; omega⟩
              case rest =>
                obtain ⟨rfl, t, rfl, ht⟩ := hcut
                obtain ⟨p0, p1⟩ := X4.cs2
                obtain ⟨s0, s1⟩ := X5.cs2
                go_wp2_with fail
                clear p0 p1 s0 s1
                have GS := Blk.new wc [.int .i64 x, .int .i64 y, .int .i64 u, .int .i64 y, .int .i64 u, .int .i64 v, .int .i64 x, .int .i64 v] 25 rfl
                rw [show ([.int .i64 x, .int .i64 y, .int .i64 u, .int .i64 y, .int .i64 u, .int .i64 v, .int .i64 x, .int .i64 v] : List Value).toArray = #[.int .i64 x, .int .i64 y, .int .i64 u, .int .i64 y, .int .i64 u, .int .i64 v, .int .i64 x, .int .i64 v] from rfl] at GS
                replace HB := HB.alloc HB.size (.cells #[.int .i64 x, .int .i64 y, .int .i64 u, .int .i64 y, .int .i64 u, .int .i64 v, .int .i64 x, .int .i64 v] 25)
                replace X3 := X3.alloc (.cells #[.int .i64 x, .int .i64 y, .int .i64 u, .int .i64 y, .int .i64 u, .int .i64 v, .int .i64 x, .int .i64 v] 25)
                replace X4 := X4.alloc (.cells #[.int .i64 x, .int .i64 y, .int .i64 u, .int .i64 y, .int .i64 u, .int .i64 v, .int .i64 x, .int .i64 v] 25)
                replace X5 := X5.alloc (.cells #[.int .i64 x, .int .i64 y, .int .i64 u, .int .i64 y, .int .i64 u, .int .i64 v, .int .i64 x, .int .i64 v] 25)
                revert GS HB X3 X4 X5
                generalize (wc.alloc (.cells #[.int .i64 x, .int .i64 y, .int .i64 u, .int .i64 y, .int .i64 u, .int .i64 v, .int .i64 x, .int .i64 v] 25)) = W10
                generalize wc.heap.size = AS
                intro GS HB X3 X4 X5
                go_loopw [7, 9] (fun o i wr => ∃ (k : Nat) (t : Bool), k ≤ 4 ∧ i = .int .i64 k ∧ o = .bool t ∧ (t = true ↔ ((x ≤ a ∧ a ≤ u ∧ y ≤ b ∧ b ≤ v) ∨ (0 < k ∧ K0 ≠ 0) ∨ (1 < k ∧ K1 ≠ 0) ∨ (2 < k ∧ K2 ≠ 0) ∨ (3 < k ∧ K3 ≠ 0))) ∧ Below W10.heap.size W10 wr) (fun _ i _ => 4 - (intOf i).toNat)
                case atStart => exact ⟨0, t, by omega, rfl, rfl, by rw [ht]; omega, Below.refl _ _⟩
                case round =>
                  clear ht
                  obtain ⟨k, t, hk, rfl, rfl, ht, hB⟩ := hrel
                  replace HB := HB.trans (hB.mono HB.size)
                  replace GS := GS.step hB
                  replace X3 := X3.step hB
                  replace X4 := X4.step hB
                  replace X5 := X5.step hB
                  by_cases hk4 : k < 4
                  · rcases (by omega : k = 0 ∨ k = 1 ∨ k = 2 ∨ k = 3) with rfl | rfl | rfl | rfl
                    · obtain ⟨r0, r1, r2, r3, r4, r5, r6, r7, r8, r9, r10, r11, s0, s1, s2, s3, s4, s5, s6, s7, s8, s9, s10, s11, MC⟩ := MA0
                      clear SA1 MA1 SA2 MA2 SA3 MA3 hk hk4 hbs X4 X5
                      go_upto_region 14 with fail
                      refine bxL0 (B4 := wr.heap.size) (AS := AS) (x := x) (y := y) (u := u) (vv := y) (a := x) (b := y) (c := u) (d := y) rfl SA0 rfl rfl (GS.c 0 rfl) GS.lt (GS.c 1 rfl) GS.lt (GS.c 2 rfl) GS.lt (GS.c 3 rfl) GS.lt rfl ?_
                      rintro ⟨tm, df⟩ W14 hz hdf hoff h15 h11 hBz ⟨gz, h10, hgz, GZ⟩
                      simp only at hz hdf hoff
                      change tm.getD 11 undef = .bool true at h11
                      change tm.getD 10 undef = .pointer (some ⟨gz, 0, none⟩) at h10
                      subst hdf
                      have htm := tmps_fold [108, 109, 110, 111, 112, 113, 114, 115, 116, 117, 118, 107, 119, 120, 10, 11] tm _ hz hoff
                      simp only [List.foldl, List.setIfInBounds_toArray, List.set_cons_zero, List.set_cons_succ, h10, h11] at htm
                      clear hz hoff
                      generalize tm.getD 108 undef = sl0, tm.getD 109 undef = sl1, tm.getD 110 undef = sl2, tm.getD 111 undef = sl3, tm.getD 112 undef = sl4, tm.getD 113 undef = sl5, tm.getD 114 undef = sl6, tm.getD 115 undef = sl7, tm.getD 116 undef = sl8, tm.getD 117 undef = sl9, tm.getD 118 undef = sl10, tm.getD 107 undef = sl11, tm.getD 119 undef = sl12, tm.getD 120 undef = sl13 at htm
                      clear h10 h11
                      subst htm
                      replace hB := hB.trans (hBz.mono hB.size)
                      replace X3 := X3.step hBz
                      clear hBz h15 hgz GS HB SA0
                      obtain ⟨q0, q1, q2, q3⟩ := X3.cs4
                      obtain ⟨g0, g1', g2', g3⟩ := GZ.cs4
                      go_wp2_with fail
                      clear q0 q1 q2 q3 g0 g1' g2' g3 X3 GZ
                      refine (MC _).mono ?_
                      rintro e w15 ⟨rfl, hB9⟩
                      replace hB := hB.trans (hB9.mono hB.size)
                      clear hB9 MC
                      have HL : Below W10.heap.size W10 ((w15.alloc (.cells #[.int .u64 r0, .int .u64 r1, .int .u64 r2, .int .u64 r3, .int .u64 r4, .int .u64 r5, .int .u64 r6, .int .u64 r7, .int .u64 r8, .int .u64 r9, .int .u64 r10, .int .u64 r11] 40)).alloc (.cells #[.int .u64 s0, .int .u64 s1, .int .u64 s2, .int .u64 s3, .int .u64 s4, .int .u64 s5, .int .u64 s6, .int .u64 s7, .int .u64 s8, .int .u64 s9, .int .u64 s10, .int .u64 s11] 40)) := (hB.alloc hB.size _).alloc (hB.alloc hB.size _).size _
                      clear hB
                      cases t
                      · by_cases hK : K0 = 0
                        · have hK' : (K0 != 0) = false := by simp [hK]
                          have HT : Hid (false = true ↔ ((x ≤ a ∧ a ≤ u ∧ y ≤ b ∧ b ≤ v) ∨ (0 < 1 ∧ K0 ≠ 0) ∨ (1 < 1 ∧ K1 ≠ 0) ∨ (2 < 1 ∧ K2 ≠ 0) ∨ (3 < 1 ∧ K3 ≠ 0))) := by show _ ↔ _; rw [ht]; omega
                          clear ht hK
                          go_wp2
                          go_roundw
                          case rel => exact ⟨1, false, by omega, rfl, rfl, HT.out, HL⟩
                          case measure => simp [intOf]
                        · have hK' : (K0 != 0) = true := by simp [hK]
                          have HT : Hid (((x ≤ a ∧ a ≤ u ∧ y ≤ b ∧ b ≤ v) ∨ (0 < 1 ∧ K0 ≠ 0) ∨ (1 < 1 ∧ K1 ≠ 0) ∨ (2 < 1 ∧ K2 ≠ 0) ∨ (3 < 1 ∧ K3 ≠ 0))) := by show _ ∨ _; omega
                          clear ht hK
                          go_wp2
                          go_roundw
                          case rel => exact ⟨1, true, by omega, rfl, rfl, ⟨fun _ => HT.out, fun _ => rfl⟩, HL⟩
                          case measure => simp [intOf]
                      · have HT : Hid (((x ≤ a ∧ a ≤ u ∧ y ≤ b ∧ b ≤ v) ∨ (0 < 1 ∧ K0 ≠ 0) ∨ (1 < 1 ∧ K1 ≠ 0) ∨ (2 < 1 ∧ K2 ≠ 0) ∨ (3 < 1 ∧ K3 ≠ 0))) := by show _ ∨ _; have := ht.1 rfl; omega
                        clear ht
                        go_wp2
                        go_roundw
                        case rel => exact ⟨1, true, by omega, rfl, rfl, ⟨fun _ => HT.out, fun _ => rfl⟩, HL⟩
                        case measure => simp [intOf]
                    · obtain ⟨r0, r1, r2, r3, r4, r5, r6, r7, r8, r9, r10, r11, s0, s1, s2, s3, s4, s5, s6, s7, s8, s9, s10, s11, MC⟩ := MA1
                      clear SA0 MA0 SA2 MA2 SA3 MA3 hk hk4 hbs X4 X5
                      go_upto_region 14 with fail
                      refine bxL1 (B4 := wr.heap.size) (AS := AS) (x := u) (y := y) (u := u) (vv := v) (a := u) (b := y) (c := u) (d := v) rfl SA1 rfl rfl (GS.c 2 rfl) GS.lt (GS.c 3 rfl) GS.lt (GS.c 4 rfl) GS.lt (GS.c 5 rfl) GS.lt rfl ?_
                      rintro ⟨tm, df⟩ W14 hz hdf hoff h15 h11 hBz ⟨gz, h10, hgz, GZ⟩
                      simp only at hz hdf hoff
                      change tm.getD 11 undef = .bool true at h11
                      change tm.getD 10 undef = .pointer (some ⟨gz, 0, none⟩) at h10
                      subst hdf
                      have htm := tmps_fold [108, 109, 110, 111, 112, 113, 114, 115, 116, 117, 118, 107, 119, 120, 10, 11] tm _ hz hoff
                      simp only [List.foldl, List.setIfInBounds_toArray, List.set_cons_zero, List.set_cons_succ, h10, h11] at htm
                      clear hz hoff
                      generalize tm.getD 108 undef = sl0, tm.getD 109 undef = sl1, tm.getD 110 undef = sl2, tm.getD 111 undef = sl3, tm.getD 112 undef = sl4, tm.getD 113 undef = sl5, tm.getD 114 undef = sl6, tm.getD 115 undef = sl7, tm.getD 116 undef = sl8, tm.getD 117 undef = sl9, tm.getD 118 undef = sl10, tm.getD 107 undef = sl11, tm.getD 119 undef = sl12, tm.getD 120 undef = sl13 at htm
                      clear h10 h11
                      subst htm
                      replace hB := hB.trans (hBz.mono hB.size)
                      replace X3 := X3.step hBz
                      clear hBz h15 hgz GS HB SA1
                      obtain ⟨q0, q1, q2, q3⟩ := X3.cs4
                      obtain ⟨g0, g1', g2', g3⟩ := GZ.cs4
                      go_wp2_with fail
                      clear q0 q1 q2 q3 g0 g1' g2' g3 X3 GZ
                      refine (MC _).mono ?_
                      rintro e w15 ⟨rfl, hB9⟩
                      replace hB := hB.trans (hB9.mono hB.size)
                      clear hB9 MC
                      have HL : Below W10.heap.size W10 ((w15.alloc (.cells #[.int .u64 r0, .int .u64 r1, .int .u64 r2, .int .u64 r3, .int .u64 r4, .int .u64 r5, .int .u64 r6, .int .u64 r7, .int .u64 r8, .int .u64 r9, .int .u64 r10, .int .u64 r11] 40)).alloc (.cells #[.int .u64 s0, .int .u64 s1, .int .u64 s2, .int .u64 s3, .int .u64 s4, .int .u64 s5, .int .u64 s6, .int .u64 s7, .int .u64 s8, .int .u64 s9, .int .u64 s10, .int .u64 s11] 40)) := (hB.alloc hB.size _).alloc (hB.alloc hB.size _).size _
                      clear hB
                      cases t
                      · by_cases hK : K1 = 0
                        · have hK' : (K1 != 0) = false := by simp [hK]
                          have HT : Hid (false = true ↔ ((x ≤ a ∧ a ≤ u ∧ y ≤ b ∧ b ≤ v) ∨ (0 < 2 ∧ K0 ≠ 0) ∨ (1 < 2 ∧ K1 ≠ 0) ∨ (2 < 2 ∧ K2 ≠ 0) ∨ (3 < 2 ∧ K3 ≠ 0))) := by show _ ↔ _; rw [ht]; omega
                          clear ht hK
                          go_wp2
                          go_roundw
                          case rel => exact ⟨2, false, by omega, rfl, rfl, HT.out, HL⟩
                          case measure => simp [intOf]
                        · have hK' : (K1 != 0) = true := by simp [hK]
                          have HT : Hid (((x ≤ a ∧ a ≤ u ∧ y ≤ b ∧ b ≤ v) ∨ (0 < 2 ∧ K0 ≠ 0) ∨ (1 < 2 ∧ K1 ≠ 0) ∨ (2 < 2 ∧ K2 ≠ 0) ∨ (3 < 2 ∧ K3 ≠ 0))) := by show _ ∨ _; omega
                          clear ht hK
                          go_wp2
                          go_roundw
                          case rel => exact ⟨2, true, by omega, rfl, rfl, ⟨fun _ => HT.out, fun _ => rfl⟩, HL⟩
                          case measure => simp [intOf]
                      · have HT : Hid (((x ≤ a ∧ a ≤ u ∧ y ≤ b ∧ b ≤ v) ∨ (0 < 2 ∧ K0 ≠ 0) ∨ (1 < 2 ∧ K1 ≠ 0) ∨ (2 < 2 ∧ K2 ≠ 0) ∨ (3 < 2 ∧ K3 ≠ 0))) := by show _ ∨ _; have := ht.1 rfl; omega
                        clear ht
                        go_wp2
                        go_roundw
                        case rel => exact ⟨2, true, by omega, rfl, rfl, ⟨fun _ => HT.out, fun _ => rfl⟩, HL⟩
                        case measure => simp [intOf]
                    · obtain ⟨r0, r1, r2, r3, r4, r5, r6, r7, r8, r9, r10, r11, s0, s1, s2, s3, s4, s5, s6, s7, s8, s9, s10, s11, MC⟩ := MA2
                      clear SA0 MA0 SA1 MA1 SA3 MA3 hk hk4 hbs X4 X5
                      go_upto_region 14 with fail
                      refine bxL2 (B4 := wr.heap.size) (AS := AS) (x := u) (y := v) (u := x) (vv := v) (a := x) (b := v) (c := u) (d := v) rfl SA2 rfl rfl (GS.c 4 rfl) GS.lt (GS.c 5 rfl) GS.lt (GS.c 6 rfl) GS.lt (GS.c 7 rfl) GS.lt rfl ?_
                      rintro ⟨tm, df⟩ W14 hz hdf hoff h15 h11 hBz ⟨gz, h10, hgz, GZ⟩
                      simp only at hz hdf hoff
                      change tm.getD 11 undef = .bool true at h11
                      change tm.getD 10 undef = .pointer (some ⟨gz, 0, none⟩) at h10
                      subst hdf
                      have htm := tmps_fold [108, 109, 110, 111, 112, 113, 114, 115, 116, 117, 118, 107, 119, 120, 10, 11] tm _ hz hoff
                      simp only [List.foldl, List.setIfInBounds_toArray, List.set_cons_zero, List.set_cons_succ, h10, h11] at htm
                      clear hz hoff
                      generalize tm.getD 108 undef = sl0, tm.getD 109 undef = sl1, tm.getD 110 undef = sl2, tm.getD 111 undef = sl3, tm.getD 112 undef = sl4, tm.getD 113 undef = sl5, tm.getD 114 undef = sl6, tm.getD 115 undef = sl7, tm.getD 116 undef = sl8, tm.getD 117 undef = sl9, tm.getD 118 undef = sl10, tm.getD 107 undef = sl11, tm.getD 119 undef = sl12, tm.getD 120 undef = sl13 at htm
                      clear h10 h11
                      subst htm
                      replace hB := hB.trans (hBz.mono hB.size)
                      replace X3 := X3.step hBz
                      clear hBz h15 hgz GS HB SA2
                      obtain ⟨q0, q1, q2, q3⟩ := X3.cs4
                      obtain ⟨g0, g1', g2', g3⟩ := GZ.cs4
                      go_wp2_with fail
                      clear q0 q1 q2 q3 g0 g1' g2' g3 X3 GZ
                      refine (MC _).mono ?_
                      rintro e w15 ⟨rfl, hB9⟩
                      replace hB := hB.trans (hB9.mono hB.size)
                      clear hB9 MC
                      have HL : Below W10.heap.size W10 ((w15.alloc (.cells #[.int .u64 r0, .int .u64 r1, .int .u64 r2, .int .u64 r3, .int .u64 r4, .int .u64 r5, .int .u64 r6, .int .u64 r7, .int .u64 r8, .int .u64 r9, .int .u64 r10, .int .u64 r11] 40)).alloc (.cells #[.int .u64 s0, .int .u64 s1, .int .u64 s2, .int .u64 s3, .int .u64 s4, .int .u64 s5, .int .u64 s6, .int .u64 s7, .int .u64 s8, .int .u64 s9, .int .u64 s10, .int .u64 s11] 40)) := (hB.alloc hB.size _).alloc (hB.alloc hB.size _).size _
                      clear hB
                      cases t
                      · by_cases hK : K2 = 0
                        · have hK' : (K2 != 0) = false := by simp [hK]
                          have HT : Hid (false = true ↔ ((x ≤ a ∧ a ≤ u ∧ y ≤ b ∧ b ≤ v) ∨ (0 < 3 ∧ K0 ≠ 0) ∨ (1 < 3 ∧ K1 ≠ 0) ∨ (2 < 3 ∧ K2 ≠ 0) ∨ (3 < 3 ∧ K3 ≠ 0))) := by show _ ↔ _; rw [ht]; omega
                          clear ht hK
                          go_wp2
                          go_roundw
                          case rel => exact ⟨3, false, by omega, rfl, rfl, HT.out, HL⟩
                          case measure => simp [intOf]
                        · have hK' : (K2 != 0) = true := by simp [hK]
                          have HT : Hid (((x ≤ a ∧ a ≤ u ∧ y ≤ b ∧ b ≤ v) ∨ (0 < 3 ∧ K0 ≠ 0) ∨ (1 < 3 ∧ K1 ≠ 0) ∨ (2 < 3 ∧ K2 ≠ 0) ∨ (3 < 3 ∧ K3 ≠ 0))) := by show _ ∨ _; omega
                          clear ht hK
                          go_wp2
                          go_roundw
                          case rel => exact ⟨3, true, by omega, rfl, rfl, ⟨fun _ => HT.out, fun _ => rfl⟩, HL⟩
                          case measure => simp [intOf]
                      · have HT : Hid (((x ≤ a ∧ a ≤ u ∧ y ≤ b ∧ b ≤ v) ∨ (0 < 3 ∧ K0 ≠ 0) ∨ (1 < 3 ∧ K1 ≠ 0) ∨ (2 < 3 ∧ K2 ≠ 0) ∨ (3 < 3 ∧ K3 ≠ 0))) := by show _ ∨ _; have := ht.1 rfl; omega
                        clear ht
                        go_wp2
                        go_roundw
                        case rel => exact ⟨3, true, by omega, rfl, rfl, ⟨fun _ => HT.out, fun _ => rfl⟩, HL⟩
                        case measure => simp [intOf]
                    · obtain ⟨r0, r1, r2, r3, r4, r5, r6, r7, r8, r9, r10, r11, s0, s1, s2, s3, s4, s5, s6, s7, s8, s9, s10, s11, MC⟩ := MA3
                      clear SA0 MA0 SA1 MA1 SA2 MA2 hk hk4 hbs X4 X5
                      go_upto_region 14 with fail
                      refine bxL3 (B4 := wr.heap.size) (AS := AS) (x := x) (y := v) (u := x) (vv := y) (a := x) (b := y) (c := x) (d := v) rfl SA3 rfl rfl (GS.c 6 rfl) GS.lt (GS.c 7 rfl) GS.lt (GS.c 0 rfl) GS.lt (GS.c 1 rfl) GS.lt rfl ?_
                      rintro ⟨tm, df⟩ W14 hz hdf hoff h15 h11 hBz ⟨gz, h10, hgz, GZ⟩
                      simp only at hz hdf hoff
                      change tm.getD 11 undef = .bool true at h11
                      change tm.getD 10 undef = .pointer (some ⟨gz, 0, none⟩) at h10
                      subst hdf
                      have htm := tmps_fold [108, 109, 110, 111, 112, 113, 114, 115, 116, 117, 118, 107, 119, 120, 10, 11] tm _ hz hoff
                      simp only [List.foldl, List.setIfInBounds_toArray, List.set_cons_zero, List.set_cons_succ, h10, h11] at htm
                      clear hz hoff
                      generalize tm.getD 108 undef = sl0, tm.getD 109 undef = sl1, tm.getD 110 undef = sl2, tm.getD 111 undef = sl3, tm.getD 112 undef = sl4, tm.getD 113 undef = sl5, tm.getD 114 undef = sl6, tm.getD 115 undef = sl7, tm.getD 116 undef = sl8, tm.getD 117 undef = sl9, tm.getD 118 undef = sl10, tm.getD 107 undef = sl11, tm.getD 119 undef = sl12, tm.getD 120 undef = sl13 at htm
                      clear h10 h11
                      subst htm
                      replace hB := hB.trans (hBz.mono hB.size)
                      replace X3 := X3.step hBz
                      clear hBz h15 hgz GS HB SA3
                      obtain ⟨q0, q1, q2, q3⟩ := X3.cs4
                      obtain ⟨g0, g1', g2', g3⟩ := GZ.cs4
                      go_wp2_with fail
                      clear q0 q1 q2 q3 g0 g1' g2' g3 X3 GZ
                      refine (MC _).mono ?_
                      rintro e w15 ⟨rfl, hB9⟩
                      replace hB := hB.trans (hB9.mono hB.size)
                      clear hB9 MC
                      have HL : Below W10.heap.size W10 ((w15.alloc (.cells #[.int .u64 r0, .int .u64 r1, .int .u64 r2, .int .u64 r3, .int .u64 r4, .int .u64 r5, .int .u64 r6, .int .u64 r7, .int .u64 r8, .int .u64 r9, .int .u64 r10, .int .u64 r11] 40)).alloc (.cells #[.int .u64 s0, .int .u64 s1, .int .u64 s2, .int .u64 s3, .int .u64 s4, .int .u64 s5, .int .u64 s6, .int .u64 s7, .int .u64 s8, .int .u64 s9, .int .u64 s10, .int .u64 s11] 40)) := (hB.alloc hB.size _).alloc (hB.alloc hB.size _).size _
                      clear hB
                      cases t
                      · by_cases hK : K3 = 0
                        · have hK' : (K3 != 0) = false := by simp [hK]
                          have HT : Hid (false = true ↔ ((x ≤ a ∧ a ≤ u ∧ y ≤ b ∧ b ≤ v) ∨ (0 < 4 ∧ K0 ≠ 0) ∨ (1 < 4 ∧ K1 ≠ 0) ∨ (2 < 4 ∧ K2 ≠ 0) ∨ (3 < 4 ∧ K3 ≠ 0))) := by show _ ↔ _; rw [ht]; omega
                          clear ht hK
                          go_wp2
                          go_roundw
                          case rel => exact ⟨4, false, by omega, rfl, rfl, HT.out, HL⟩
                          case measure => simp [intOf]
                        · have hK' : (K3 != 0) = true := by simp [hK]
                          have HT : Hid (((x ≤ a ∧ a ≤ u ∧ y ≤ b ∧ b ≤ v) ∨ (0 < 4 ∧ K0 ≠ 0) ∨ (1 < 4 ∧ K1 ≠ 0) ∨ (2 < 4 ∧ K2 ≠ 0) ∨ (3 < 4 ∧ K3 ≠ 0))) := by show _ ∨ _; omega
                          clear ht hK
                          go_wp2
                          go_roundw
                          case rel => exact ⟨4, true, by omega, rfl, rfl, ⟨fun _ => HT.out, fun _ => rfl⟩, HL⟩
                          case measure => simp [intOf]
                      · have HT : Hid (((x ≤ a ∧ a ≤ u ∧ y ≤ b ∧ b ≤ v) ∨ (0 < 4 ∧ K0 ≠ 0) ∨ (1 < 4 ∧ K1 ≠ 0) ∨ (2 < 4 ∧ K2 ≠ 0) ∨ (3 < 4 ∧ K3 ≠ 0))) := by show _ ∨ _; have := ht.1 rfl; omega
                        clear ht
                        go_wp2
                        go_roundw
                        case rel => exact ⟨4, true, by omega, rfl, rfl, ⟨fun _ => HT.out, fun _ => rfl⟩, HL⟩
                        case measure => simp [intOf]
                  · obtain rfl : k = 4 := by omega
                    clear GS SA0 SA1 SA2 SA3 MA0 MA1 MA2 MA3
                    go_upto_region 17 with fail
                    go_cut [7] (fun pv wx => wx = wr ∧ ∃ t2 : Bool, pv = .bool t2 ∧ (t2 = true ↔ mb = true))
                    case first =>
                      obtain ⟨q0, q1, q2, q3⟩ := X3.cs4
                      obtain ⟨p0, p1⟩ := X4.cs2
                      obtain ⟨s0, s1⟩ := X5.cs2
                      cases t
                      · have hn : ¬ ((x ≤ a ∧ a ≤ u ∧ y ≤ b ∧ b ≤ v) ∨ (0 < 4 ∧ K0 ≠ 0) ∨ (1 < 4 ∧ K1 ≠ 0) ∨ (2 < 4 ∧ K2 ≠ 0) ∨ (3 < 4 ∧ K3 ≠ 0)) := fun h => absurd (ht.2 h) (by decide)
                        clear ht
                        by_cases c0 : x ≤ c
                        · by_cases c1 : c ≤ u
                          · by_cases c2 : y ≤ d
                            · by_cases c3 : d ≤ v
                              · go_wp2
                                go_meet
                                case rel => exact ⟨rfl, true, rfl, by rw [hbs]; exact ⟨fun _ => by omega, fun _ => rfl⟩⟩
                              · go_wp2
                                go_meet
                                case rel => exact ⟨rfl, false, rfl, by rw [hbs]; exact ⟨fun h => (by cases h), fun h => (by exfalso; apply hn; omega)⟩⟩
                            · go_wp2
                              go_meet
                              case rel => exact ⟨rfl, false, rfl, by rw [hbs]; exact ⟨fun h => (by cases h), fun h => (by exfalso; apply hn; omega)⟩⟩
                          · go_wp2
                            go_meet
                            case rel => exact ⟨rfl, false, rfl, by rw [hbs]; exact ⟨fun h => (by cases h), fun h => (by exfalso; apply hn; omega)⟩⟩
                        · go_wp2
                          go_meet
                          case rel => exact ⟨rfl, false, rfl, by rw [hbs]; exact ⟨fun h => (by cases h), fun h => (by exfalso; apply hn; omega)⟩⟩
                      · have hy' := ht.1 rfl
                        clear ht
                        go_wp2
                        go_meet
                        case rel => exact ⟨rfl, true, rfl, by rw [hbs]; exact ⟨fun _ => by omega, fun _ => rfl⟩⟩
                    case rest =>
                      obtain ⟨rfl, t2, rfl, ht2⟩ := hcut
                      obtain rfl : t2 = mb := by rw [Bool.eq_iff_iff]; exact ht2
                      have e2 : (t2 == t2) = true := by simp
                      clear ht hbs X3 X4 X5
                      go_wp2
                      go_ret
                      exact ⟨rfl, HB⟩
            · have g2 : v ≤ y := by omega
              go_wp2
              go_ret
              exact ⟨rfl, HB⟩
          · have g1 : u ≤ x := by omega
            go_wp2
            go_ret
            exact ⟨rfl, HB⟩
end Go.Proofs.Ytpnnpkchogooaaa

/- What the row of a law asks of the program as a whole, each by itself. -/
namespace Go.Proofs.Ytpnnpkchogooaaa
open Go.ChangeShapes Go.WideShapes Go.ChangeAt Go.RowKit Go.Joins
theorem jn_laid : laidOutB Try.pinned.checked.prog = true := by kernel_rfl
theorem jn_maps : mapsRowed Try.pinned.checked.prog = true := by kernel_rfl
theorem jn_enter : Try.pinned.checked.prog.mayEnter = true := by kernel_rfl
theorem jn_heard : Try.pinned.checked.prog.stopsHeard = true := by kernel_rfl
end Go.Proofs.Ytpnnpkchogooaaa
