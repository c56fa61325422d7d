/- Part 15 of the walks that the proof leans on. -/
import Derived.Test.YtniccikkhddofaaGreatPart13
import Derived.Test.YtniccikkhddofaaGreatPart14
import Derived.Test.YtniccikkhddofaaGreatRows
import Derived.ProofKit
import Derived.Lib.SmallJoins
/- A segment over a point: the law over drawn ones. -/
namespace Go.Proofs.YtniccikkhddofaaGreat
open Go.RowKit
theorem bigt_any (ao : Option Addr) (n cap : Nat) (w : World) (z : Bool) (hz : decide (1048576 < n) = z) : Calls Tryz.prog 4 #[.slice ao n cap] w (BoolP z w) := by
  subst hz
  go_enter Tryz.func4, Tryz.ntmps4
  go_wp2
  go_ret
  exact ⟨by simp; try omega, Below.refl _ _⟩
set_option maxRecDepth 100000 in
set_option maxHeartbeats 8000000 in
theorem lawOver_any (ao : Option Addr) (n cap : Nat) (cs : List Int) (w : World) (h : n ≤ 1048576 → Code w ao n cs) : Calls Tryz.prog 3 #[.slice ao n cap] w (BoolP true w) := by
  by_cases hn : 1048576 < n
  · go_enter Tryz.func3, Tryz.ntmps3
    go_wp2_with fail
    refine (bigt_any ao n cap _ true (by simpa using hn)).mono ?_
    rintro e w1 ⟨rfl, hB⟩
    clear h
    go_wp2
    go_ret
    exact ⟨rfl, hB⟩
  · have hc := h (by omega)
    clear h
    go_enter Tryz.func3, Tryz.ntmps3
    go_wp2_with fail
    refine (bigt_any ao n cap _ false (by simpa using hn)).mono ?_
    rintro e w1 ⟨rfl, hB⟩
    replace hc := hc.below hB
    have HB := hB
    clear hB
    go_wp2_with fail
    refine (drawOverAt_any ao n cap cs _ hc).mono ?_
    rintro e w2 ⟨a, b, c, d, x, y, z, rfl, ⟨ia, ib, ic, id⟩, ⟨tx, ty, tz⟩, hB⟩
    replace HB := HB.trans (hB.mono HB.size)
    clear hB hc
    have X1 := (Blk.new w2 [.int .i64 a, .int .i64 b, .int .i64 c, .int .i64 d] 27 rfl).alloc (.cells #[.int .u64 (ww3 x), .int .u64 (ww2 x), .int .u64 (ww1 x), .int .u64 (ww0 x), .int .u64 (ww3 y), .int .u64 (ww2 y), .int .u64 (ww1 y), .int .u64 (ww0 y), .int .u64 (ww3 z), .int .u64 (ww2 z), .int .u64 (ww1 z), .int .u64 (ww0 z)] 32)
    have X2 := Blk.new (w2.alloc (.cells #[.int .i64 a, .int .i64 b, .int .i64 c, .int .i64 d] 27)) [.int .u64 (ww3 x), .int .u64 (ww2 x), .int .u64 (ww1 x), .int .u64 (ww0 x), .int .u64 (ww3 y), .int .u64 (ww2 y), .int .u64 (ww1 y), .int .u64 (ww0 y), .int .u64 (ww3 z), .int .u64 (ww2 z), .int .u64 (ww1 z), .int .u64 (ww0 z)] 32 (g := w2.heap.size + 1) (by simp)
    rw [show ([.int .i64 a, .int .i64 b, .int .i64 c, .int .i64 d] : List Value).toArray = #[.int .i64 a, .int .i64 b, .int .i64 c, .int .i64 d] from rfl] at X1 X2
    rw [show ([.int .u64 (ww3 x), .int .u64 (ww2 x), .int .u64 (ww1 x), .int .u64 (ww0 x), .int .u64 (ww3 y), .int .u64 (ww2 y), .int .u64 (ww1 y), .int .u64 (ww0 y), .int .u64 (ww3 z), .int .u64 (ww2 z), .int .u64 (ww1 z), .int .u64 (ww0 z)] : List Value).toArray = #[.int .u64 (ww3 x), .int .u64 (ww2 x), .int .u64 (ww1 x), .int .u64 (ww0 x), .int .u64 (ww3 y), .int .u64 (ww2 y), .int .u64 (ww1 y), .int .u64 (ww0 y), .int .u64 (ww3 z), .int .u64 (ww2 z), .int .u64 (ww1 z), .int .u64 (ww0 z)] from rfl] at X2
    replace HB := (HB.alloc HB.size (.cells #[.int .i64 a, .int .i64 b, .int .i64 c, .int .i64 d] 27)).alloc (HB.alloc HB.size (.cells #[.int .i64 a, .int .i64 b, .int .i64 c, .int .i64 d] 27)).size (.cells #[.int .u64 (ww3 x), .int .u64 (ww2 x), .int .u64 (ww1 x), .int .u64 (ww0 x), .int .u64 (ww3 y), .int .u64 (ww2 y), .int .u64 (ww1 y), .int .u64 (ww0 y), .int .u64 (ww3 z), .int .u64 (ww2 z), .int .u64 (ww1 z), .int .u64 (ww0 z)] 32)
    have CI := implOverAt_det a b c d x y z tx ty tz
    have CS := specOverAt_det a b c d x y z tx ty tz
    have CO := implOnSeg_det a b c d x y z ia ib ic id tx ty tz
    have CD := implSideOf_det a b c d x y z tx ty tz
    have hon := over_on a b c d x y z
    have hin := over_in a b c d x y z
    have hsi := side_in a b c d x y z
    have hsd : overI a b c d x y z ≠ 2 → a ≠ c → overI a b c d x y z = -sideI a b c d x y z := fun h1 h2 => over_side h1 h2
    generalize overI a b c d x y z = m at *
    generalize onI a b c d x y z = q at *
    generalize sideI a b c d x y z = sd at *
    have e0 : (m != m) = false := by simp
    have e1 : (q != q) = false := by simp
    go_upto_region 4 with fail
    generalize ((w2.alloc (.cells #[.int .i64 a, .int .i64 b, .int .i64 c, .int .i64 d] 27)).alloc (.cells #[.int .u64 (ww3 x), .int .u64 (ww2 x), .int .u64 (ww1 x), .int .u64 (ww0 x), .int .u64 (ww3 y), .int .u64 (ww2 y), .int .u64 (ww1 y), .int .u64 (ww0 y), .int .u64 (ww3 z), .int .u64 (ww2 z), .int .u64 (ww1 z), .int .u64 (ww0 z)] 32)) = W2 at *
    generalize w2.heap.size + 1 = g4 at *
    generalize w2.heap.size = g3 at *
    obtain ⟨c0, c1, c2, c3⟩ := X1.cs4
    obtain ⟨d0, d1, d2, d3, d4, d5, d6, d7, d8, d9, d10, d11⟩ := X2.cs12
    go_wp2_with fail
    clear c0 c1 c2 c3 d0 d1 d2 d3 d4 d5 d6 d7 d8 d9 d10 d11
    refine (CI _).mono ?_
    rintro e w3 ⟨rfl, hB⟩
    replace HB := HB.trans (hB.mono HB.size)
    replace X1 := X1.step hB
    replace X2 := X2.step hB
    clear hB CI
    obtain ⟨c0, c1, c2, c3⟩ := X1.cs4
    obtain ⟨d0, d1, d2, d3, d4, d5, d6, d7, d8, d9, d10, d11⟩ := X2.cs12
    go_wp2_with fail
    clear c0 c1 c2 c3 d0 d1 d2 d3 d4 d5 d6 d7 d8 d9 d10 d11
    refine (CS _).mono ?_
    rintro e w4 ⟨rfl, hB⟩
    replace HB := HB.trans (hB.mono HB.size)
    replace X1 := X1.step hB
    replace X2 := X2.step hB
    clear hB CS
    obtain ⟨c0, c1, c2, c3⟩ := X1.cs4
    obtain ⟨d0, d1, d2, d3, d4, d5, d6, d7, d8, d9, d10, d11⟩ := X2.cs12
    go_wp2_with fail
    clear c0 c1 c2 c3 d0 d1 d2 d3 d4 d5 d6 d7 d8 d9 d10 d11
    refine (CO _).mono ?_
    rintro e w5 ⟨rfl, hB⟩
    replace HB := HB.trans (hB.mono HB.size)
    replace X1 := X1.step hB
    replace X2 := X2.step hB
    clear hB CO
    obtain ⟨c0, c1, c2, c3⟩ := X1.cs4
    obtain ⟨d0, d1, d2, d3, d4, d5, d6, d7, d8, d9, d10, d11⟩ := X2.cs12
    by_cases h2 : m = 2
    · subst h2
      go_wp2
      go_ret
      exact ⟨rfl, HB⟩
    · have b2 : (m == 2) = false := beq_eq_false_iff_ne.2 h2
      by_cases hac : a = c
      · have b3 : (a == c) = true := beq_iff_eq.2 hac
        clear hsd hon
        subst hac
        go_wp2
        go_ret
        exact ⟨rfl, HB⟩
      · have b3 : (a == c) = false := beq_eq_false_iff_ne.2 hac
        have hm := hsd h2 hac
        have wn : IntKind.i64.wrap (-sd) = -sd := by rw [IntKind.wrap_i64]; omega
        have b4 : (m == -sd) = true := beq_iff_eq.2 hm
        clear hsd hon hm
        go_wp2_with fail
        clear c0 c1 c2 c3 d0 d1 d2 d3 d4 d5 d6 d7 d8 d9 d10 d11
        refine (CD _).mono ?_
        rintro e w6 ⟨rfl, hB⟩
        replace HB := HB.trans (hB.mono HB.size)
        replace X1 := X1.step hB
        replace X2 := X2.step hB
        clear hB CD
        go_wp2
        go_ret
        exact ⟨rfl, HB⟩
end Go.Proofs.YtniccikkhddofaaGreat

/- What the row of a law asks of the program as a whole, each by itself. -/
namespace Go.Proofs.YtniccikkhddofaaGreat
open Go.ChangeShapes Go.WideShapes Go.ChangeAt Go.RowKit Go.Joins
theorem jn_laid : laidOutB Tryz.pinned.checked.prog = true := by kernel_rfl
theorem jn_maps : mapsRowed Tryz.pinned.checked.prog = true := by kernel_rfl
theorem jn_enter : Tryz.pinned.checked.prog.mayEnter = true := by kernel_rfl
theorem jn_heard : Tryz.pinned.checked.prog.stopsHeard = true := by kernel_rfl
end Go.Proofs.YtniccikkhddofaaGreat
