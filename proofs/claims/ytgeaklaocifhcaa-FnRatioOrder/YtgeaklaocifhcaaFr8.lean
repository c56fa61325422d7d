/- Part 8 of the walks that the proof leans on. -/
import Derived.Test.YtgeaklaocifhcaaFr7
/- Quotients with their signs: the reckoning, and the walks of the pieces. -/
namespace Go.Proofs.Ytgeaklaocifhcaa
open Go.RowKit
theorem sl_of_val {z0 z1 z2 z3 z4 z5 z6 z7 : Int} (hz : Words [z0, z1, z2, z3, z4, z5, z6, z7]) (h : val64 [z0, z1, z2, z3, z4, z5, z6, z7] < 6703903964971298549787012499102923063739682910296196688861780721860882015036773488400937149083451713845015929093243025426876941405973284973216824503042048) : sl z0 z1 z2 z3 z4 z5 z6 z7 = val64 [z0, z1, z2, z3, z4, z5, z6, z7] := by
  obtain ⟨t1, t2, t3⟩ := sl_top hz
  unfold sl
  rw [if_pos (t1.2 h)]
  omega
/-- The number with its sign turned where b holds. -/
theorem signedL_any (x0 x1 x2 x3 x4 x5 x6 x7 : Int) (b : Bool) (wx : Words [x0, x1, x2, x3, x4, x5, x6, x7]) (hv : val64 [x0, x1, x2, x3, x4, x5, x6, x7] < 6703903964971298549787012499102923063739682910296196688861780721860882015036773488400937149083451713845015929093243025426876941405973284973216824503042048) (w : World) : Calls Try.prog 68 #[L8 x0 x1 x2 x3 x4 x5 x6 x7, .bool b] w (TimesP (if b then -val64 [x0, x1, x2, x3, x4, x5, x6, x7] else val64 [x0, x1, x2, x3, x4, x5, x6, x7]) w) := by
  refine (signed_any x0 x1 x2 x3 x4 x5 x6 x7 b wx w).mono ?_
  rintro e w1 ⟨z0, z1, z2, z3, z4, z5, z6, z7, rfl, wz, ⟨c, c0, c1, hz⟩, hB⟩
  refine ⟨z0, z1, z2, z3, z4, z5, z6, z7, rfl, wz, ?_, hB⟩
  obtain ⟨t1, t2, t3⟩ := sl_top wz
  have v0 := val64_nonneg wx
  unfold sl
  generalize val64 [z0, z1, z2, z3, z4, z5, z6, z7] = Z at *
  generalize val64 [x0, x1, x2, x3, x4, x5, x6, x7] = X at *
  simp only [t1]
  clear t1
  cases b
  · simp only [Bool.false_eq_true, if_false] at hz ⊢
    rw [if_pos (by omega)]
    omega
  · simp only [if_true] at hz ⊢
    obtain rfl | rfl : c = 0 ∨ c = 1 := by omega
    · rw [if_pos (by omega)]; omega
    · rw [if_neg (by omega)]; omega
theorem plusL_any (x0 x1 x2 x3 x4 x5 x6 x7 y0 y1 y2 y3 y4 y5 y6 y7 : Int) (wx : Words [x0, x1, x2, x3, x4, x5, x6, x7]) (wy : Words [y0, y1, y2, y3, y4, y5, y6, y7]) (hb : val64 [x0, x1, x2, x3, x4, x5, x6, x7] + val64 [y0, y1, y2, y3, y4, y5, y6, y7] < 6703903964971298549787012499102923063739682910296196688861780721860882015036773488400937149083451713845015929093243025426876941405973284973216824503042048) (w : World) : Calls Try.prog 47 #[L8 x0 x1 x2 x3 x4 x5 x6 x7, L8 y0 y1 y2 y3 y4 y5 y6 y7] w (AggP 8 (val64 [x0, x1, x2, x3, x4, x5, x6, x7] + val64 [y0, y1, y2, y3, y4, y5, y6, y7]) w) := by
  refine (plus8 x0 x1 x2 x3 x4 x5 x6 x7 y0 y1 y2 y3 y4 y5 y6 y7 wx wy w).mono ?_
  rintro e w1 ⟨zs, c, rfl, q1, q2, q3, q4, q5, hB⟩
  have q1' : zs.length = 8 := q1
  have q5' : val64 zs + c * pw64 8 = val64 [x0, x1, x2, x3, x4, x5, x6, x7] + val64 [y0, y1, y2, y3, y4, y5, y6, y7] := q5
  refine ⟨zs, rfl, q1', q2, ?_, hB⟩
  rw [pw64_8] at q5'
  have h0 := val64_nonneg q2
  obtain rfl | rfl : c = 0 ∨ c = 1 := by omega
  · omega
  · omega
theorem minusV_any (x0 x1 x2 x3 x4 x5 x6 x7 y0 y1 y2 y3 y4 y5 y6 y7 : Int) (wx : Words [x0, x1, x2, x3, x4, x5, x6, x7]) (wy : Words [y0, y1, y2, y3, y4, y5, y6, y7]) (hb : val64 [y0, y1, y2, y3, y4, y5, y6, y7] ≤ val64 [x0, x1, x2, x3, x4, x5, x6, x7]) (w : World) : Calls Try.prog 35 #[L8 x0 x1 x2 x3 x4 x5 x6 x7, L8 y0 y1 y2 y3 y4 y5 y6 y7] w (AggP 8 (val64 [x0, x1, x2, x3, x4, x5, x6, x7] - val64 [y0, y1, y2, y3, y4, y5, y6, y7]) w) := by
  refine (minus8 x0 x1 x2 x3 x4 x5 x6 x7 y0 y1 y2 y3 y4 y5 y6 y7 wx wy w).mono ?_
  rintro e w1 ⟨zs, c, rfl, q1, q2, q3, q4, q5, hB⟩
  exact ⟨zs, rfl, q1, q2, kn_left q2 q1 q3 q4 q5 hb, hB⟩
/-- What is told, its words known ahead. -/
def tellV (z : Int) : Value := if told z then .tuple #[W4 z, .bool true] else .tuple #[W4 0, .bool false]
theorem tellWide_det (x0 x1 x2 x3 x4 x5 x6 x7 : Int) (wx : Words [x0, x1, x2, x3, x4, x5, x6, x7]) (z : Int) (hz : sl x0 x1 x2 x3 x4 x5 x6 x7 = z) (w : World) : Calls Try.prog 67 #[L8 x0 x1 x2 x3 x4 x5 x6 x7] w (VP (tellV z) w) := by
  refine (tellWide_any x0 x1 x2 x3 x4 x5 x6 x7 wx w).mono ?_
  rw [hz]
  rintro e w' ⟨hB, ⟨ht, a3, a2, a1, a0, rfl, g3, g2, g1, g0, hs⟩ | ⟨ht, rfl⟩⟩
  · obtain ⟨rfl, rfl, rfl, rfl⟩ := wd_of g3 g2 g1 g0 hs
    exact ⟨by unfold tellV; rw [ht]; rfl, hB⟩
  · exact ⟨by unfold tellV; rw [ht]; rfl, hB⟩
set_option maxRecDepth 100000 in
set_option maxHeartbeats 2000000 in
theorem eqZ4 (b3 b2 b1 b0 : Int) (w : World) : (Op.equalIn 10000 26 (.agg #[.int .u64 b3, .int .u64 b2, .int .u64 b1, .int .u64 b0]) (.agg #[.int .u64 0, .int .u64 0, .int .u64 0, .int .u64 0])).run Try.prog w = .ok (b3 == 0 && b2 == 0 && b1 == 0 && b0 == 0) w := by
  have u3 := Try.underlying24
  have a3 := Try.isAgg24
  have z3 := Try.sizeOf24
  rw [show (10000 : Nat) = 9999 + 1 from rfl, Op.equalIn]
  simp only [Sem.run_bind, run_underlying Try.underlying26, Result.andThen_ok]
  go_simp
  by_cases hb3 : b3 = 0
  · subst hb3
    by_cases hb2 : b2 = 0
    · subst hb2
      by_cases hb1 : b1 = 0
      · subst hb1
        by_cases hb0 : b0 = 0
        · subst hb0
          simp
        · simp [hb0]
      · simp [hb1]
    · simp [hb2]
  · simp [hb3]
theorem zero4 {b3 b2 b1 b0 : Int} (h3 : Word b3) (h2 : Word b2) (h1 : Word b1) (h0 : Word b0) : (b3 == 0 && b2 == 0 && b1 == 0 && b0 == 0) = decide (sw b3 b2 b1 b0 = 0) := by
  rw [Bool.eq_iff_iff]
  simp only [Bool.and_eq_true, beq_iff_eq, decide_eq_true_eq]
  unfold sw uw Word at *
  split <;> omega
/-- Quotient and rest out of those without their signs. -/
theorem div_sign {x y q r : Int} (hy : y ≠ 0) (hq : q = (x.natAbs : Int) / (y.natAbs : Int)) (hr : r = (x.natAbs : Int) % (y.natAbs : Int)) :
    (if (decide (x < 0) != decide (y < 0)) = true then -(if x < 0 ∧ r ≠ 0 then q + 1 else q) else (if x < 0 ∧ r ≠ 0 then q + 1 else q)) = x / y ∧ (if x < 0 ∧ r ≠ 0 then (y.natAbs : Int) - r else r) = x % y ∧ 0 ≤ q ∧ q ≤ (x.natAbs : Int) ∧ 0 ≤ r ∧ r < (y.natAbs : Int) := by
  have Y0 : 0 < (y.natAbs : Int) := by omega
  have r0 := Int.emod_nonneg (x.natAbs : Int) (b := (y.natAbs : Int)) (by omega)
  have r1 := Int.emod_lt_of_pos (x.natAbs : Int) Y0
  have e := Int.mul_ediv_add_emod (x.natAbs : Int) (y.natAbs : Int)
  have q0 := Int.ediv_nonneg (a := (x.natAbs : Int)) (b := (y.natAbs : Int)) (by omega) (by omega)
  have q1 := Int.ediv_le_self (a := (x.natAbs : Int)) (y.natAbs : Int) (by omega)
  rw [← hq] at e q0 q1
  rw [← hr] at e r0 r1
  have he : (x.natAbs : Int) = q * (y.natAbs : Int) + r := by rw [← e, Int.mul_comm]
  obtain ⟨d1, d2, d3, d4, d5, d6⟩ := div_signs hy r0 r1 he
  refine ⟨?_, ?_, q0, q1, r0, r1⟩
  · rcases (show x < 0 ∨ 0 ≤ x by omega) with hx | hx
    · rcases (show y < 0 ∨ 0 ≤ y by omega) with hy' | hy'
      · have hs : (decide (x < 0) != decide (y < 0)) = false := by simp [hx, hy']
        rw [hs]
        simp only [Bool.false_eq_true, if_false]
        by_cases h0 : r = 0
        · rw [if_neg (by omega), (d4 hx h0 hy').1]
        · rw [if_pos ⟨hx, h0⟩, (d6 hx (by omega) hy').1]
      · have hs : (decide (x < 0) != decide (y < 0)) = true := by simp [hx, hy']
        rw [hs]
        simp only [if_true]
        by_cases h0 : r = 0
        · rw [if_neg (by omega), (d3 hx h0 (by omega)).1]
        · rw [if_pos ⟨hx, h0⟩, (d5 hx (by omega) (by omega)).1]
          omega
    · rcases (show y < 0 ∨ 0 ≤ y by omega) with hy' | hy'
      · have hs : (decide (x < 0) != decide (y < 0)) = true := by simp [hx, hy']
        rw [hs]
        simp only [if_true]
        rw [if_neg (by omega), (d2 hx hy').1]
      · have hs : (decide (x < 0) != decide (y < 0)) = false := by rw [decide_eq_false (show ¬ x < 0 by omega), decide_eq_false (show ¬ y < 0 by omega)]; rfl
        rw [hs]
        simp only [Bool.false_eq_true, if_false]
        rw [if_neg (by omega), (d1 hx (by omega)).1]
  · rcases (show x < 0 ∨ 0 ≤ x by omega) with hx | hx
    · by_cases h0 : r = 0
      · rw [if_neg (by omega)]
        rcases (show y < 0 ∨ 0 ≤ y by omega) with hy' | hy'
        · rw [(d4 hx h0 hy').2, h0]
        · rw [(d3 hx h0 (by omega)).2, h0]
      · rw [if_pos ⟨hx, h0⟩]
        rcases (show y < 0 ∨ 0 ≤ y by omega) with hy' | hy'
        · rw [(d6 hx (by omega) hy').2]; omega
        · rw [(d5 hx (by omega) (by omega)).2]; omega
    · rw [if_neg (by omega)]
      rcases (show y < 0 ∨ 0 ≤ y by omega) with hy' | hy'
      · rw [(d2 hx hy').2]
      · rw [(d1 hx (by omega)).2]
end Go.Proofs.Ytgeaklaocifhcaa

/- The program's quotient of two numbers of four words: what lies in memory around the division. -/
namespace Go.Proofs.Ytgeaklaocifhcaa
open Go.RowKit
theorem ArgsB.set8 {w W : World} {a b c d : List Value} (h : ArgsB w W [a, b, c, d]) {g : Nat} (hg : w.heap.size + 3 < g) (v0 v1 v2 v3 v4 v5 v6 v7 : Value) : ArgsB w ((((((((W.setCell ⟨g, 0, none⟩ v0).setCell ⟨g, 1, none⟩ v1).setCell ⟨g, 2, none⟩ v2).setCell ⟨g, 3, none⟩ v3).setCell ⟨g, 4, none⟩ v4).setCell ⟨g, 5, none⟩ v5).setCell ⟨g, 6, none⟩ v6).setCell ⟨g, 7, none⟩ v7) [a, b, c, d] :=
  ((((((((h.set (by exact hg) _).set (by exact hg) _).set (by exact hg) _).set (by exact hg) _).set (by exact hg) _).set (by exact hg) _).set (by exact hg) _).set (by exact hg) _)
/-- The divisor, and two rows laid behind it. -/
def CutE (w wx : World) (vss : List (List Value)) (gs : Nat) (ys qs rs : List Value) (p q : Value) : Prop :=
  ∃ g g', p = .pointer (some ⟨g, 0, none⟩) ∧ q = .pointer (some ⟨g', 0, none⟩) ∧ g ≠ g' ∧ gs < g ∧ gs < g' ∧ ArgsB w wx vss ∧ Blk wx gs ys ∧ Blk wx g qs ∧ Blk wx g' rs
theorem cutE_nn {w X : World} {gs : Nat} {a b c d ys qs rs : List Value} {T T' : TypeId} (h : ArgsB w X [a, b, c, d]) (Y : Blk X gs ys) : CutE w ((X.alloc (.cells qs.toArray T)).alloc (.cells rs.toArray T')) [a, b, c, d] gs ys qs rs (.pointer (some ⟨X.heap.size, 0, none⟩)) (.pointer (some ⟨X.heap.size + 1, 0, none⟩)) :=
  ⟨_, _, rfl, rfl, by omega, Y.lt, by have := Y.lt; omega, (h.alloc _).alloc _, (Y.alloc _).alloc _, (Blk.new _ _ _ rfl).alloc _, Blk.newS _ _ _ _⟩
theorem cutE_nn' {w X : World} {gs : Nat} {a b c d ys qs rs : List Value} {T T' : TypeId} (h : ArgsB w X [a, b, c, d]) (Y : Blk X gs ys) : CutE w ((X.alloc (.cells rs.toArray T)).alloc (.cells qs.toArray T')) [a, b, c, d] gs ys qs rs (.pointer (some ⟨X.heap.size + 1, 0, none⟩)) (.pointer (some ⟨X.heap.size, 0, none⟩)) :=
  ⟨_, _, rfl, rfl, by omega, by have := Y.lt; omega, Y.lt, (h.alloc _).alloc _, (Y.alloc _).alloc _, Blk.newS _ _ _ _, (Blk.new _ _ _ rfl).alloc _⟩
theorem cutE_sn {w X : World} {gs : Nat} {a b c d ys : List Value} {v0 v1 v2 v3 v4 v5 v6 v7 z0 z1 z2 z3 z4 z5 z6 z7 : Value} {rs : List Value} {T : TypeId} {g : Nat} (h : ArgsB w X [a, b, c, d]) (Y : Blk X gs ys) (G : Blk X g [z0, z1, z2, z3, z4, z5, z6, z7]) (hg : gs < g) (hw : w.heap.size + 3 < gs) : CutE w (((((((((X.setCell ⟨g, 0, none⟩ v0).setCell ⟨g, 1, none⟩ v1).setCell ⟨g, 2, none⟩ v2).setCell ⟨g, 3, none⟩ v3).setCell ⟨g, 4, none⟩ v4).setCell ⟨g, 5, none⟩ v5).setCell ⟨g, 6, none⟩ v6).setCell ⟨g, 7, none⟩ v7).alloc (.cells rs.toArray T)) [a, b, c, d] gs ys [v0, v1, v2, v3, v4, v5, v6, v7] rs (.pointer (some ⟨g, 0, none⟩)) (.pointer (some ⟨X.heap.size, 0, none⟩)) :=
  ⟨_, _, rfl, rfl, by have := G.lt; omega, hg, Y.lt, (h.set8 (by omega) _ _ _ _ _ _ _ _).alloc _, (Y.set8 (by omega)).alloc _, (G.stored8 _ _ _ _ _ _ _ _).alloc _, Blk.new _ _ _ (by simp)⟩
theorem cutE_sn' {w X : World} {gs : Nat} {a b c d ys : List Value} {v0 v1 v2 v3 v4 v5 v6 v7 z0 z1 z2 z3 z4 z5 z6 z7 : Value} {qs : List Value} {T : TypeId} {g : Nat} (h : ArgsB w X [a, b, c, d]) (Y : Blk X gs ys) (G : Blk X g [z0, z1, z2, z3, z4, z5, z6, z7]) (hg : gs < g) (hw : w.heap.size + 3 < gs) : CutE w (((((((((X.setCell ⟨g, 0, none⟩ v0).setCell ⟨g, 1, none⟩ v1).setCell ⟨g, 2, none⟩ v2).setCell ⟨g, 3, none⟩ v3).setCell ⟨g, 4, none⟩ v4).setCell ⟨g, 5, none⟩ v5).setCell ⟨g, 6, none⟩ v6).setCell ⟨g, 7, none⟩ v7).alloc (.cells qs.toArray T)) [a, b, c, d] gs ys qs [v0, v1, v2, v3, v4, v5, v6, v7] (.pointer (some ⟨X.heap.size, 0, none⟩)) (.pointer (some ⟨g, 0, none⟩)) :=
  ⟨_, _, rfl, rfl, by have := G.lt; omega, Y.lt, hg, (h.set8 (by omega) _ _ _ _ _ _ _ _).alloc _, (Y.set8 (by omega)).alloc _, Blk.new _ _ _ (by simp), (G.stored8 _ _ _ _ _ _ _ _).alloc _⟩
theorem cutE_ss {w X : World} {gs : Nat} {a b c d ys : List Value} {v0 v1 v2 v3 v4 v5 v6 v7 u0 u1 u2 u3 u4 u5 u6 u7 z0 z1 z2 z3 z4 z5 z6 z7 y0 y1 y2 y3 y4 y5 y6 y7 : Value} {g g' : Nat} (h : ArgsB w X [a, b, c, d]) (Y : Blk X gs ys) (G : Blk X g [z0, z1, z2, z3, z4, z5, z6, z7]) (G' : Blk X g' [y0, y1, y2, y3, y4, y5, y6, y7]) (hg : gs < g) (hg' : gs < g') (hne : g ≠ g') (hw : w.heap.size + 3 < gs) :
    CutE w ((((((((((((((((X.setCell ⟨g, 0, none⟩ v0).setCell ⟨g, 1, none⟩ v1).setCell ⟨g, 2, none⟩ v2).setCell ⟨g, 3, none⟩ v3).setCell ⟨g, 4, none⟩ v4).setCell ⟨g, 5, none⟩ v5).setCell ⟨g, 6, none⟩ v6).setCell ⟨g, 7, none⟩ v7).setCell ⟨g', 0, none⟩ u0).setCell ⟨g', 1, none⟩ u1).setCell ⟨g', 2, none⟩ u2).setCell ⟨g', 3, none⟩ u3).setCell ⟨g', 4, none⟩ u4).setCell ⟨g', 5, none⟩ u5).setCell ⟨g', 6, none⟩ u6).setCell ⟨g', 7, none⟩ u7) [a, b, c, d] gs ys [v0, v1, v2, v3, v4, v5, v6, v7] [u0, u1, u2, u3, u4, u5, u6, u7] (.pointer (some ⟨g, 0, none⟩)) (.pointer (some ⟨g', 0, none⟩)) :=
  ⟨_, _, rfl, rfl, hne, hg, hg', (h.set8 (by omega) _ _ _ _ _ _ _ _).set8 (by omega) _ _ _ _ _ _ _ _, (Y.set8 (by omega)).set8 (by omega), (G.stored8 _ _ _ _ _ _ _ _).set8 hne, (G'.set8 (fun e => hne e.symm)).stored8 _ _ _ _ _ _ _ _⟩
theorem id_args (a3 a2 a1 a0 b3 b2 b1 b0 : Int) (w : World) : ArgsB w ((((w.alloc (.cells #[.int .u64 a3, .int .u64 a2, .int .u64 a1, .int .u64 a0] 26)).alloc (.cells #[.int .u64 b3, .int .u64 b2, .int .u64 b1, .int .u64 b0] 26)).alloc (.cells #[.int .u64 0, .int .u64 0, .int .u64 0, .int .u64 0] 26)).alloc (.cells #[.int .u64 0, .int .u64 0, .int .u64 0, .int .u64 0] 26)) [[.int .u64 a3, .int .u64 a2, .int .u64 a1, .int .u64 a0], [.int .u64 b3, .int .u64 b2, .int .u64 b1, .int .u64 b0], [.int .u64 0, .int .u64 0, .int .u64 0, .int .u64 0], [.int .u64 0, .int .u64 0, .int .u64 0, .int .u64 0]] := by
  refine ⟨((((Below.refl _ _).alloc (Nat.le_refl _) _).alloc (by simp) _).alloc (by simp; omega) _).alloc (by simp; omega) _, fun j vs hj => ?_⟩
  match j, hj with
  | 0, hj => cases hj; exact (((Blk.new w [.int .u64 a3, .int .u64 a2, .int .u64 a1, .int .u64 a0] 26 rfl).alloc _).alloc _).alloc _
  | 1, hj => cases hj; exact ((Blk.new (w.alloc (.cells #[.int .u64 a3, .int .u64 a2, .int .u64 a1, .int .u64 a0] 26)) [.int .u64 b3, .int .u64 b2, .int .u64 b1, .int .u64 b0] 26 (by simp)).alloc _).alloc _
  | 2, hj => cases hj; exact (Blk.new ((w.alloc (.cells #[.int .u64 a3, .int .u64 a2, .int .u64 a1, .int .u64 a0] 26)).alloc (.cells #[.int .u64 b3, .int .u64 b2, .int .u64 b1, .int .u64 b0] 26)) [.int .u64 0, .int .u64 0, .int .u64 0, .int .u64 0] 26 (by simp)).alloc _
  | 3, hj => cases hj; exact Blk.new (((w.alloc (.cells #[.int .u64 a3, .int .u64 a2, .int .u64 a1, .int .u64 a0] 26)).alloc (.cells #[.int .u64 b3, .int .u64 b2, .int .u64 b1, .int .u64 b0] 26)).alloc (.cells #[.int .u64 0, .int .u64 0, .int .u64 0, .int .u64 0] 26)) [.int .u64 0, .int .u64 0, .int .u64 0, .int .u64 0] 26 (by simp)
  | j + 4, hj => simp at hj
theorem sizeL_det (a3 a2 a1 a0 : Int) (h3 : Word a3) (h2 : Word a2) (h1 : Word a1) (h0 : Word a0) (u0 u1 u2 u3 u4 u5 u6 u7 : Int) (hu : Words [u0, u1, u2, u3, u4, u5, u6, u7]) (hv : val64 [u0, u1, u2, u3, u4, u5, u6, u7] = ((sw a3 a2 a1 a0).natAbs : Int)) (w : World) : Calls Try.prog 50 #[L8 a0 a1 a2 a3 (fillW a3) (fillW a3) (fillW a3) (fillW a3)] w (VP (L8 u0 u1 u2 u3 u4 u5 u6 u7) w) := by
  refine (sizeL_any a0 a1 a2 a3 (fillW a3) (fillW a3) (fillW a3) (fillW a3) (words_fill h3 h2 h1 h0) w).mono ?_
  rintro e w1 ⟨zs, rfl, zl, zw, zv, hB⟩
  rw [sl_fill] at zv
  obtain rfl : zs = [u0, u1, u2, u3, u4, u5, u6, u7] := val64_inj zw hu (zl.trans rfl) (zv.trans hv.symm)
  exact ⟨rfl, hB⟩
theorem divL_det (x0 x1 x2 x3 x4 x5 x6 x7 y0 y1 y2 y3 y4 y5 y6 y7 q0 q1 q2 q3 q4 q5 q6 q7 r0 r1 r2 r3 r4 r5 r6 r7 : Int) (wx : Words [x0, x1, x2, x3, x4, x5, x6, x7]) (wy : Words [y0, y1, y2, y3, y4, y5, y6, y7]) (wq : Words [q0, q1, q2, q3, q4, q5, q6, q7]) (wr : Words [r0, r1, r2, r3, r4, r5, r6, r7]) (h0 : 0 < val64 [y0, y1, y2, y3, y4, y5, y6, y7]) (hq : val64 [q0, q1, q2, q3, q4, q5, q6, q7] = val64 [x0, x1, x2, x3, x4, x5, x6, x7] / val64 [y0, y1, y2, y3, y4, y5, y6, y7]) (hr : val64 [r0, r1, r2, r3, r4, r5, r6, r7] = val64 [x0, x1, x2, x3, x4, x5, x6, x7] % val64 [y0, y1, y2, y3, y4, y5, y6, y7]) (w : World) : Calls Try.prog 66 #[L8 x0 x1 x2 x3 x4 x5 x6 x7, L8 y0 y1 y2 y3 y4 y5 y6 y7] w (VP (.tuple #[L8 q0 q1 q2 q3 q4 q5 q6 q7, L8 r0 r1 r2 r3 r4 r5 r6 r7]) w) := by
  refine (divideLong_any [x0, x1, x2, x3, x4, x5, x6, x7] [y0, y1, y2, y3, y4, y5, y6, y7] rfl rfl wx wy h0 w).mono ?_
  rintro e w1 ⟨qs, rs, rfl, ql, rl, qw, rw', qv, rv, hB⟩
  obtain rfl : qs = [q0, q1, q2, q3, q4, q5, q6, q7] := val64_inj qw wq (ql.trans rfl) (qv.trans hq.symm)
  obtain rfl : rs = [r0, r1, r2, r3, r4, r5, r6, r7] := val64_inj rw' wr (rl.trans rfl) (rv.trans hr.symm)
  exact ⟨rfl, hB⟩
end Go.Proofs.Ytgeaklaocifhcaa
