/- Quotients with their signs: the reckoning, and the walks of the pieces. -/
import Derived.Test.YtddniklhpkagmaaRatC
import Derived.Test.YtddniklhpkagmaaImplGcd
import Derived.Test.YtddniklhpkagmaaWw
import Derived.Test.YtddniklhpkagmaaDivN
namespace Go.Proofs.Ytddniklhpkagmaa
open Go.RowKit
/-- The number with its sign turned where b holds. -/
theorem signedL_any (x0 x1 x2 x3 x4 x5 x6 x7 : Int) (b : Bool) (wx : Words [x0, x1, x2, x3, x4, x5, x6, x7]) (hv : val64 [x0, x1, x2, x3, x4, x5, x6, x7] < 6703903964971298549787012499102923063739682910296196688861780721860882015036773488400937149083451713845015929093243025426876941405973284973216824503042048) (w : World) : Calls Try.prog 61 #[L8 x0 x1 x2 x3 x4 x5 x6 x7, .bool b] w (TimesP (if b then -val64 [x0, x1, x2, x3, x4, x5, x6, x7] else val64 [x0, x1, x2, x3, x4, x5, x6, x7]) w) := by
  refine (signed_any x0 x1 x2 x3 x4 x5 x6 x7 b wx w).mono ?_
  rintro e w1 ⟨z0, z1, z2, z3, z4, z5, z6, z7, rfl, wz, ⟨c, c0, c1, hz⟩, hB⟩
  refine ⟨z0, z1, z2, z3, z4, z5, z6, z7, rfl, wz, ?_, hB⟩
  obtain ⟨t1, t2, t3⟩ := sl_top wz
  have v0 := val64_nonneg wx
  unfold sl
  generalize val64 [z0, z1, z2, z3, z4, z5, z6, z7] = Z at *
  generalize val64 [x0, x1, x2, x3, x4, x5, x6, x7] = X at *
  simp only [t1]
  clear t1
  cases b
  · simp only [Bool.false_eq_true, if_false] at hz ⊢
    rw [if_pos (by omega)]
    omega
  · simp only [if_true] at hz ⊢
    obtain rfl | rfl : c = 0 ∨ c = 1 := by omega
    · rw [if_pos (by omega)]; omega
    · rw [if_neg (by omega)]; omega
/-- What is told, its words known ahead. -/
def tellV (z : Int) : Value := if told z then .tuple #[W4 z, .bool true] else .tuple #[W4 0, .bool false]
theorem tellWide_det (x0 x1 x2 x3 x4 x5 x6 x7 : Int) (wx : Words [x0, x1, x2, x3, x4, x5, x6, x7]) (z : Int) (hz : sl x0 x1 x2 x3 x4 x5 x6 x7 = z) (w : World) : Calls Try.prog 52 #[L8 x0 x1 x2 x3 x4 x5 x6 x7] w (VP (tellV z) w) := by
  refine (tellWide_any x0 x1 x2 x3 x4 x5 x6 x7 wx w).mono ?_
  rw [hz]
  rintro e w' ⟨hB, ⟨ht, a3, a2, a1, a0, rfl, g3, g2, g1, g0, hs⟩ | ⟨ht, rfl⟩⟩
  · obtain ⟨rfl, rfl, rfl, rfl⟩ := wd_of g3 g2 g1 g0 hs
    exact ⟨by unfold tellV; rw [ht]; rfl, hB⟩
  · exact ⟨by unfold tellV; rw [ht]; rfl, hB⟩
set_option maxRecDepth 100000 in
set_option maxHeartbeats 2000000 in
theorem eqZ4 (b3 b2 b1 b0 : Int) (w : World) : (Op.equalIn 10000 25 (.agg #[.int .u64 b3, .int .u64 b2, .int .u64 b1, .int .u64 b0]) (.agg #[.int .u64 0, .int .u64 0, .int .u64 0, .int .u64 0])).run Try.prog w = .ok (b3 == 0 && b2 == 0 && b1 == 0 && b0 == 0) w := by
  have u3 := Try.underlying22
  have a3 := Try.isAgg22
  have z3 := Try.sizeOf22
  rw [show (10000 : Nat) = 9999 + 1 from rfl, Op.equalIn]
  simp only [Sem.run_bind, run_underlying Try.underlying25, Result.andThen_ok]
  go_simp
  by_cases hb3 : b3 = 0
  · subst hb3
    by_cases hb2 : b2 = 0
    · subst hb2
      by_cases hb1 : b1 = 0
      · subst hb1
        by_cases hb0 : b0 = 0
        · subst hb0
          simp
        · simp [hb0]
      · simp [hb1]
    · simp [hb2]
  · simp [hb3]
theorem zero4 {b3 b2 b1 b0 : Int} (h3 : Word b3) (h2 : Word b2) (h1 : Word b1) (h0 : Word b0) : (b3 == 0 && b2 == 0 && b1 == 0 && b0 == 0) = decide (sw b3 b2 b1 b0 = 0) := by
  rw [Bool.eq_iff_iff]
  simp only [Bool.and_eq_true, beq_iff_eq, decide_eq_true_eq]
  unfold sw uw Word at *
  split <;> omega
end Go.Proofs.Ytddniklhpkagmaa
