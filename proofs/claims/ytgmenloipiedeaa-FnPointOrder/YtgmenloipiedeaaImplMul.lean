/- The walk of the program's product of four words, told as four. -/
import Derived.Test.YtgmenloipiedeaaBase7
namespace Go.Proofs.Ytgmenloipiedeaa
open Go.RowKit
theorem im_args (a3 a2 a1 a0 b3 b2 b1 b0 : Int) (w : World) : ArgsB w (((w.alloc (.cells #[.int .u64 a3, .int .u64 a2, .int .u64 a1, .int .u64 a0] 26)).alloc (.cells #[.int .u64 b3, .int .u64 b2, .int .u64 b1, .int .u64 b0] 26)).alloc (.cells #[.int .u64 0, .int .u64 0, .int .u64 0, .int .u64 0] 26)) [[.int .u64 a3, .int .u64 a2, .int .u64 a1, .int .u64 a0], [.int .u64 b3, .int .u64 b2, .int .u64 b1, .int .u64 b0], [.int .u64 0, .int .u64 0, .int .u64 0, .int .u64 0]] := by
  refine ⟨(((Below.refl _ _).alloc (Nat.le_refl _) _).alloc (by simp) _).alloc (by simp; omega) _, fun j vs hj => ?_⟩
  match j, hj with
  | 0, hj => cases hj; exact ((Blk.new w [.int .u64 a3, .int .u64 a2, .int .u64 a1, .int .u64 a0] 26 rfl).alloc _).alloc _
  | 1, hj => cases hj; exact (Blk.new (w.alloc (.cells #[.int .u64 a3, .int .u64 a2, .int .u64 a1, .int .u64 a0] 26)) [.int .u64 b3, .int .u64 b2, .int .u64 b1, .int .u64 b0] 26 (by simp)).alloc _
  | 2, hj => cases hj; exact Blk.new ((w.alloc (.cells #[.int .u64 a3, .int .u64 a2, .int .u64 a1, .int .u64 a0] 26)).alloc (.cells #[.int .u64 b3, .int .u64 b2, .int .u64 b1, .int .u64 b0] 26)) [.int .u64 0, .int .u64 0, .int .u64 0, .int .u64 0] 26 (by simp)
  | j + 3, hj => simp at hj
set_option maxRecDepth 100000 in
set_option maxHeartbeats 1000000 in
theorem implMul_any (a3 a2 a1 a0 b3 b2 b1 b0 : Int) (h3 : Word a3) (h2 : Word a2) (h1 : Word a1) (h0 : Word a0) (k3 : Word b3) (k2 : Word b2) (k1 : Word b1) (k0 : Word b0) (w : World) :
    Calls Try.prog 20 #[.agg #[.int .u64 a3, .int .u64 a2, .int .u64 a1, .int .u64 a0], .agg #[.int .u64 b3, .int .u64 b2, .int .u64 b1, .int .u64 b0]] w (TellP (sw a3 a2 a1 a0 * sw b3 b2 b1 b0) w) := by
  have T0 := im_args a3 a2 a1 a0 b3 b2 b1 b0 w
  go_enter Try.func20, Try.ntmps20
  go_wp2_with fail
  refine (times_any a3 a2 a1 a0 b3 b2 b1 b0 h3 h2 h1 h0 k3 k2 k1 k0 _).mono ?_
  rintro e w1 ⟨z0, z1, z2, z3, z4, z5, z6, z7, rfl, wz, hz, hB⟩
  replace T0 := T0.step hB
  clear hB
  go_wp2_with fail
  refine (tellWide_any z0 z1 z2 z3 z4 z5 z6 z7 wz _).mono ?_
  intro e w2 hT
  have hTT := tellP_from T0.below hT
  replace T0 := T0.step hT.1
  obtain ⟨x3, x2, x1, x0, p, rfl⟩ := tellP_shape hT
  have c0 := (T0.b 2 rfl).c 0 rfl; have f0 := (T0.b 2 rfl).f 0 rfl; have c1 := (T0.b 2 rfl).c 1 rfl; have f1 := (T0.b 2 rfl).f 1 rfl; have c2 := (T0.b 2 rfl).c 2 rfl; have f2 := (T0.b 2 rfl).f 2 rfl; have c3 := (T0.b 2 rfl).c 3 rfl; have f3 := (T0.b 2 rfl).f 3 rfl
  have lt := (T0.b 2 rfl).lt
  rw [hz] at hTT
  clear hT T0 hz wz
  go_wp2
  refine bodyPost_ret (v := .tuple #[.agg #[.int .u64 x3, .int .u64 x2, .int .u64 x1, .int .u64 x0], .bool p]) (by simp [results, Try.results20, go_sem, c0, c1, c2, c3]) rfl ?_
  exact tellP_set (by omega) hTT
end Go.Proofs.Ytgmenloipiedeaa
