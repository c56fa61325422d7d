/- The walk of the program's quotient and rest of two numbers of four words. -/
import Derived.Test.YtddniklhpkagmaaDivY
namespace Go.Proofs.Ytddniklhpkagmaa
open Go.RowKit
theorem W40 : W4 0 = .agg #[.int .u64 0, .int .u64 0, .int .u64 0, .int .u64 0] := by simp [ww3, ww2, ww1, ww0]
theorem tellV_ex (z : Int) : ∃ c3 c2 c1 c0 : Int, tellV z = .tuple #[.agg #[.int .u64 c3, .int .u64 c2, .int .u64 c1, .int .u64 c0], .bool (told z)] ∧ (told z → W4 z = .agg #[.int .u64 c3, .int .u64 c2, .int .u64 c1, .int .u64 c0]) := by
  by_cases h : told z
  · exact ⟨ww3 z, ww2 z, ww1 z, ww0 z, by unfold tellV; rw [if_pos h, h], fun _ => rfl⟩
  · exact ⟨0, 0, 0, 0, by unfold tellV; rw [if_neg h, Bool.eq_false_iff.2 h, W40], fun h' => absurd h' h⟩
theorem words8_ex (v : Int) (h0 : 0 ≤ v) (h1 : v < 13407807929942597099574024998205846127479365820592393377723561443721764030073546976801874298166903427690031858186486050853753882811946569946433649006084096) : ∃ z0 z1 z2 z3 z4 z5 z6 z7, Words [z0, z1, z2, z3, z4, z5, z6, z7] ∧ val64 [z0, z1, z2, z3, z4, z5, z6, z7] = v := by
  obtain ⟨zs, hl, hw, hv⟩ := words_ex 8 v h0 (by rw [pw64_8]; exact h1)
  obtain ⟨z0, z1, z2, z3, z4, z5, z6, z7, rfl⟩ := list8' hl
  exact ⟨z0, z1, z2, z3, z4, z5, z6, z7, hw, hv⟩
end Go.Proofs.Ytddniklhpkagmaa
