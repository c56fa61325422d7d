/- Part 12 of the walks that the proof leans on. -/
import Derived.Test.YtppbfdpdcgjfcaaPart11
/- The law on whether a point is right. -/
namespace Go.Proofs.Ytppbfdpdcgjfcaa
open Go.RowKit
set_option maxRecDepth 100000 in
set_option maxHeartbeats 2000000 in
theorem lawPointOk_any (x y z : Int) (hx : told x = true) (hy : told y = true) (hz : told z = true) (w : World) : Calls Try.prog 3 #[PV x y z] w (BoolP true w) := by
  have X0 : Blk (w.alloc (.cells #[.int .u64 (ww3 x), .int .u64 (ww2 x), .int .u64 (ww1 x), .int .u64 (ww0 x), .int .u64 (ww3 y), .int .u64 (ww2 y), .int .u64 (ww1 y), .int .u64 (ww0 y), .int .u64 (ww3 z), .int .u64 (ww2 z), .int .u64 (ww1 z), .int .u64 (ww0 z)] 26)) w.heap.size [.int .u64 (ww3 x), .int .u64 (ww2 x), .int .u64 (ww1 x), .int .u64 (ww0 x), .int .u64 (ww3 y), .int .u64 (ww2 y), .int .u64 (ww1 y), .int .u64 (ww0 y), .int .u64 (ww3 z), .int .u64 (ww2 z), .int .u64 (ww1 z), .int .u64 (ww0 z)] := Blk.new w _ _ rfl
  have HB := (Below.refl _ w).alloc (Nat.le_refl _) (.cells #[.int .u64 (ww3 x), .int .u64 (ww2 x), .int .u64 (ww1 x), .int .u64 (ww0 x), .int .u64 (ww3 y), .int .u64 (ww2 y), .int .u64 (ww1 y), .int .u64 (ww0 y), .int .u64 (ww3 z), .int .u64 (ww2 z), .int .u64 (ww1 z), .int .u64 (ww0 z)] 26)
  obtain ⟨b, hb⟩ : ∃ b, ptB x y z = b := ⟨_, rfl⟩
  have SP := specPointOk_det x y z hx hy hz
  have IM := implPointOk_det x y z hx hy hz
  rw [hb] at SP IM
  clear hb hx hy hz
  go_enter Try.func3, Try.ntmps3
  go_wp2_with fail
  refine (toPoint_det x y z _).mono ?_
  rintro e w1 ⟨rfl, hB⟩
  replace X0 := X0.step hB; replace HB := HB.trans (hB.mono HB.size)
  clear hB
  go_wp2_with fail
  refine (SP _).mono ?_
  rintro e w2 ⟨rfl, hB⟩
  replace X0 := X0.step hB; replace HB := HB.trans (hB.mono HB.size)
  clear hB
  have q0 := X0.c 0 rfl; have q1 := X0.c 1 rfl; have q2 := X0.c 2 rfl; have q3 := X0.c 3 rfl; have q4 := X0.c 4 rfl; have q5 := X0.c 5 rfl; have q6 := X0.c 6 rfl; have q7 := X0.c 7 rfl; have q8 := X0.c 8 rfl; have q9 := X0.c 9 rfl; have q10 := X0.c 10 rfl; have q11 := X0.c 11 rfl
  go_wp2_with fail
  refine (toPoint_det x y z _).mono ?_
  rintro e w3 ⟨rfl, hB⟩
  replace HB := HB.trans (hB.mono HB.size)
  clear hB X0 q0 q1 q2 q3 q4 q5 q6 q7 q8 q9 q10 q11
  go_wp2_with fail
  refine (IM _).mono ?_
  rintro e w4 ⟨rfl, hB⟩
  replace HB := HB.trans (hB.mono HB.size)
  clear hB SP IM
  go_wp2
  go_ret
  exact ⟨rfl, HB⟩
end Go.Proofs.Ytppbfdpdcgjfcaa
