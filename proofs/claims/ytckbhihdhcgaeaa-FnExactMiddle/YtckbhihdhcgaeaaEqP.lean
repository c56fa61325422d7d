/- Two points that are one: the walk of the law's comparison. -/
import Derived.Test.YtckbhihdhcgaeaaBas12
namespace Go.Proofs.Ytckbhihdhcgaeaa
open Go.RowKit
set_option maxRecDepth 100000 in
set_option maxHeartbeats 2000000 in
theorem eqPoint_same (a0 a1 a2 a3 a4 a5 a6 a7 a8 a9 a10 a11 : Int) (w : World) : Calls Try.prog 23 #[.agg #[.int .u64 a0, .int .u64 a1, .int .u64 a2, .int .u64 a3, .int .u64 a4, .int .u64 a5, .int .u64 a6, .int .u64 a7, .int .u64 a8, .int .u64 a9, .int .u64 a10, .int .u64 a11], .agg #[.int .u64 a0, .int .u64 a1, .int .u64 a2, .int .u64 a3, .int .u64 a4, .int .u64 a5, .int .u64 a6, .int .u64 a7, .int .u64 a8, .int .u64 a9, .int .u64 a10, .int .u64 a11]] w (BoolP true w) := by
  have B0 := (Blk.new w [.int .u64 a0, .int .u64 a1, .int .u64 a2, .int .u64 a3, .int .u64 a4, .int .u64 a5, .int .u64 a6, .int .u64 a7, .int .u64 a8, .int .u64 a9, .int .u64 a10, .int .u64 a11] 30 rfl).alloc (.cells #[.int .u64 a0, .int .u64 a1, .int .u64 a2, .int .u64 a3, .int .u64 a4, .int .u64 a5, .int .u64 a6, .int .u64 a7, .int .u64 a8, .int .u64 a9, .int .u64 a10, .int .u64 a11] 30)
  have B1 := Blk.new (w.alloc (.cells #[.int .u64 a0, .int .u64 a1, .int .u64 a2, .int .u64 a3, .int .u64 a4, .int .u64 a5, .int .u64 a6, .int .u64 a7, .int .u64 a8, .int .u64 a9, .int .u64 a10, .int .u64 a11] 30)) [.int .u64 a0, .int .u64 a1, .int .u64 a2, .int .u64 a3, .int .u64 a4, .int .u64 a5, .int .u64 a6, .int .u64 a7, .int .u64 a8, .int .u64 a9, .int .u64 a10, .int .u64 a11] 30 (g := w.heap.size + 1) (by simp)
  have HB0 : Below w.heap.size w ((w.alloc (.cells #[.int .u64 a0, .int .u64 a1, .int .u64 a2, .int .u64 a3, .int .u64 a4, .int .u64 a5, .int .u64 a6, .int .u64 a7, .int .u64 a8, .int .u64 a9, .int .u64 a10, .int .u64 a11] 30)).alloc (.cells #[.int .u64 a0, .int .u64 a1, .int .u64 a2, .int .u64 a3, .int .u64 a4, .int .u64 a5, .int .u64 a6, .int .u64 a7, .int .u64 a8, .int .u64 a9, .int .u64 a10, .int .u64 a11] 30)) := ((Below.refl _ _).alloc (Nat.le_refl _) _).alloc (by simp) _
  go_enter Try.func23, Try.ntmps23
  go_wp2_with fail
  refine (eqWide_same _ _ _ _ _).mono ?_
  rintro e w1 ⟨rfl, hB⟩
  replace B0 := B0.step hB; replace B1 := B1.step hB
  have HB1 : Below w.heap.size w w1 := HB0.trans (hB.mono HB0.size)
  clear hB
  have ma0 := B0.c 0 rfl; have mb0 := B1.c 0 rfl; have ma1 := B0.c 1 rfl; have mb1 := B1.c 1 rfl; have ma2 := B0.c 2 rfl; have mb2 := B1.c 2 rfl; have ma3 := B0.c 3 rfl; have mb3 := B1.c 3 rfl; have ma4 := B0.c 4 rfl; have mb4 := B1.c 4 rfl; have ma5 := B0.c 5 rfl; have mb5 := B1.c 5 rfl; have ma6 := B0.c 6 rfl; have mb6 := B1.c 6 rfl; have ma7 := B0.c 7 rfl; have mb7 := B1.c 7 rfl; have ma8 := B0.c 8 rfl; have mb8 := B1.c 8 rfl; have ma9 := B0.c 9 rfl; have mb9 := B1.c 9 rfl; have ma10 := B0.c 10 rfl; have mb10 := B1.c 10 rfl; have ma11 := B0.c 11 rfl; have mb11 := B1.c 11 rfl
  go_wp2_with fail
  refine (eqWide_same _ _ _ _ _).mono ?_
  rintro e w2 ⟨rfl, hB⟩
  replace B0 := B0.step hB; replace B1 := B1.step hB
  have HB2 : Below w.heap.size w w2 := HB1.trans (hB.mono HB1.size)
  clear hB ma0 mb0 ma1 mb1 ma2 mb2 ma3 mb3 ma4 mb4 ma5 mb5 ma6 mb6 ma7 mb7 ma8 mb8 ma9 mb9 ma10 mb10 ma11 mb11
  have ma0 := B0.c 0 rfl; have mb0 := B1.c 0 rfl; have ma1 := B0.c 1 rfl; have mb1 := B1.c 1 rfl; have ma2 := B0.c 2 rfl; have mb2 := B1.c 2 rfl; have ma3 := B0.c 3 rfl; have mb3 := B1.c 3 rfl; have ma4 := B0.c 4 rfl; have mb4 := B1.c 4 rfl; have ma5 := B0.c 5 rfl; have mb5 := B1.c 5 rfl; have ma6 := B0.c 6 rfl; have mb6 := B1.c 6 rfl; have ma7 := B0.c 7 rfl; have mb7 := B1.c 7 rfl; have ma8 := B0.c 8 rfl; have mb8 := B1.c 8 rfl; have ma9 := B0.c 9 rfl; have mb9 := B1.c 9 rfl; have ma10 := B0.c 10 rfl; have mb10 := B1.c 10 rfl; have ma11 := B0.c 11 rfl; have mb11 := B1.c 11 rfl
  go_wp2_with fail
  refine (eqWide_same _ _ _ _ _).mono ?_
  rintro e w3 ⟨rfl, hB⟩
  replace B0 := B0.step hB; replace B1 := B1.step hB
  have HB3 : Below w.heap.size w w3 := HB2.trans (hB.mono HB2.size)
  clear hB ma0 mb0 ma1 mb1 ma2 mb2 ma3 mb3 ma4 mb4 ma5 mb5 ma6 mb6 ma7 mb7 ma8 mb8 ma9 mb9 ma10 mb10 ma11 mb11
  clear B0 B1
  go_wp2
  go_ret
  exact ⟨rfl, HB3⟩
end Go.Proofs.Ytckbhihdhcgaeaa
