/- Part 19 of the walks that the proof leans on. -/
import Derived.Test.YtpnnpkchogooaaaGreatPart14
import Derived.Test.YtpnnpkchogooaaaGreatPart17
import Derived.Test.YtpnnpkchogooaaaGreatPart18
import Derived.Test.YtpnnpkchogooaaaGreatPart11
import Derived.Test.YtpnnpkchogooaaaGreatPart8
import Derived.Test.YtpnnpkchogooaaaGreatRows
import Derived.ProofKit
import Derived.Lib.SmallJoins
set_option maxRecDepth 100000
set_option maxHeartbeats 8000000
namespace Go.Proofs.YtpnnpkchogooaaaGreat
open Go.RowKit
theorem bigM_any (ao : Option Addr) (n cap : Nat) (w : World) (z : Bool) (hz : decide (1048576 < n) = z) : Calls Tryz.prog 5 #[.slice ao n cap] w (BoolP z w) := by
 subst hz
 go_enter Tryz.func5, Tryz.ntmps5
 go_wp2
 go_ret
 exact ⟨by simp; try omega, Below.refl _ _⟩
theorem told_m {a : Int} (h : I64 a) : told a = true := decide_eq_true (by have := h.1; have := h.2; omega)
theorem lawMeetBoth_any (ao : Option Addr) (n cap : Nat) (cs : List Int) (w : World) (h : n ≤ 1048576 → Code w ao n cs) : Calls Tryz.prog 4 #[.slice ao n cap] w (BoolP true w) := by
 by_cases hn : 1048576 < n
 · go_enter Tryz.func4, Tryz.ntmps4
   go_wp2_with fail
   refine (bigM_any ao n cap _ true (by simpa using hn)).mono ?_
   rintro e w1 ⟨rfl, hB⟩
   clear h
   go_wp2
   go_ret
   exact ⟨rfl, hB⟩
 · have hc := h (by omega)
   clear h
   go_enter Tryz.func4, Tryz.ntmps4
   go_wp2_with fail
   refine (bigM_any ao n cap _ false (by simpa using hn)).mono ?_
   rintro e w1 ⟨rfl, HB⟩
   replace hc := hc.below HB
   go_wp2_with fail
   refine (drawMeet_any ao n cap cs _ hc).mono ?_
   rintro e w2 ⟨a, b, c, d, p, q, u, v, rfl, ⟨ia, ib, ic, id⟩, ⟨ip, iq, iu, iv⟩, hB⟩
   replace HB := HB.trans (hB.mono HB.size)
   clear hB hc hn
   obtain ⟨k, x, y, z, e, f, g, hv, hv', ⟨tx, ty, tz⟩, ⟨te, tf, tg⟩, hno, hyes⟩ := meetV_told a b c d p q u v
   have CI := implMeet_det a b c d p q u v
   have CJ := implMeet_det p q u v a b c d
   have CS := specMeet_det a b c d p q u v
   rw [hv] at CI CS
   rw [hv'] at CJ
   clear hv hv'
   have E1 := eqPtS x y z tx ty tz
   have E2 := eqPtS e f g te tf tg
   have e0 : (k != k) = false := by simp
   have X3 := (Blk.new w2 [.int .i64 a, .int .i64 b, .int .i64 c, .int .i64 d] 27 rfl).alloc (.cells #[.int .i64 p, .int .i64 q, .int .i64 u, .int .i64 v] 27)
   have X4 := Blk.new (w2.alloc (.cells #[.int .i64 a, .int .i64 b, .int .i64 c, .int .i64 d] 27)) [.int .i64 p, .int .i64 q, .int .i64 u, .int .i64 v] 27 (g := w2.heap.size + 1) (by simp)
   rw [show ([.int .i64 a, .int .i64 b, .int .i64 c, .int .i64 d] : List Value).toArray = #[.int .i64 a, .int .i64 b, .int .i64 c, .int .i64 d] from rfl] at X3 X4
   rw [show ([.int .i64 p, .int .i64 q, .int .i64 u, .int .i64 v] : List Value).toArray = #[.int .i64 p, .int .i64 q, .int .i64 u, .int .i64 v] from rfl] at X4
   have ha : Below w2.heap.size w2 ((w2.alloc (.cells #[.int .i64 a, .int .i64 b, .int .i64 c, .int .i64 d] 27)).alloc (.cells #[.int .i64 p, .int .i64 q, .int .i64 u, .int .i64 v] 27)) := ((Below.refl _ _).alloc (Nat.le_refl _) _).alloc (by simp) _
   replace HB := HB.trans (ha.mono HB.size)
   clear ha
   go_upto_region 4 with fail
   revert X3 X4 HB
   generalize ((w2.alloc (.cells #[.int .i64 a, .int .i64 b, .int .i64 c, .int .i64 d] 27)).alloc (.cells #[.int .i64 p, .int .i64 q, .int .i64 u, .int .i64 v] 27)) = W2
   generalize w2.heap.size + 1 = A4
   generalize w2.heap.size = A3
   intro X3 X4 HB
   obtain ⟨q0, q1, q2, q3⟩ := X3.cs4
   obtain ⟨t0, t1, t2, t3⟩ := X4.cs4
   go_wp2_with fail
   clear q0 q1 q2 q3 t0 t1 t2 t3
   refine (CI _).mono ?_
   rintro ee w4 ⟨rfl, hB⟩
   replace HB := HB.trans (hB.mono HB.size)
   replace X3 := X3.step hB
   replace X4 := X4.step hB
   clear hB
   have X6 := (Blk.new w4 [.int .u64 (ww3 x), .int .u64 (ww2 x), .int .u64 (ww1 x), .int .u64 (ww0 x), .int .u64 (ww3 y), .int .u64 (ww2 y), .int .u64 (ww1 y), .int .u64 (ww0 y), .int .u64 (ww3 z), .int .u64 (ww2 z), .int .u64 (ww1 z), .int .u64 (ww0 z)] 40 rfl).alloc (.cells #[.int .u64 (ww3 e), .int .u64 (ww2 e), .int .u64 (ww1 e), .int .u64 (ww0 e), .int .u64 (ww3 f), .int .u64 (ww2 f), .int .u64 (ww1 f), .int .u64 (ww0 f), .int .u64 (ww3 g), .int .u64 (ww2 g), .int .u64 (ww1 g), .int .u64 (ww0 g)] 40)
   have X7 := Blk.new (w4.alloc (.cells #[.int .u64 (ww3 x), .int .u64 (ww2 x), .int .u64 (ww1 x), .int .u64 (ww0 x), .int .u64 (ww3 y), .int .u64 (ww2 y), .int .u64 (ww1 y), .int .u64 (ww0 y), .int .u64 (ww3 z), .int .u64 (ww2 z), .int .u64 (ww1 z), .int .u64 (ww0 z)] 40)) [.int .u64 (ww3 e), .int .u64 (ww2 e), .int .u64 (ww1 e), .int .u64 (ww0 e), .int .u64 (ww3 f), .int .u64 (ww2 f), .int .u64 (ww1 f), .int .u64 (ww0 f), .int .u64 (ww3 g), .int .u64 (ww2 g), .int .u64 (ww1 g), .int .u64 (ww0 g)] 40 (g := w4.heap.size + 1) (by simp)
   rw [show ([.int .u64 (ww3 x), .int .u64 (ww2 x), .int .u64 (ww1 x), .int .u64 (ww0 x), .int .u64 (ww3 y), .int .u64 (ww2 y), .int .u64 (ww1 y), .int .u64 (ww0 y), .int .u64 (ww3 z), .int .u64 (ww2 z), .int .u64 (ww1 z), .int .u64 (ww0 z)] : List Value).toArray = #[.int .u64 (ww3 x), .int .u64 (ww2 x), .int .u64 (ww1 x), .int .u64 (ww0 x), .int .u64 (ww3 y), .int .u64 (ww2 y), .int .u64 (ww1 y), .int .u64 (ww0 y), .int .u64 (ww3 z), .int .u64 (ww2 z), .int .u64 (ww1 z), .int .u64 (ww0 z)] from rfl] at X6 X7
   rw [show ([.int .u64 (ww3 e), .int .u64 (ww2 e), .int .u64 (ww1 e), .int .u64 (ww0 e), .int .u64 (ww3 f), .int .u64 (ww2 f), .int .u64 (ww1 f), .int .u64 (ww0 f), .int .u64 (ww3 g), .int .u64 (ww2 g), .int .u64 (ww1 g), .int .u64 (ww0 g)] : List Value).toArray = #[.int .u64 (ww3 e), .int .u64 (ww2 e), .int .u64 (ww1 e), .int .u64 (ww0 e), .int .u64 (ww3 f), .int .u64 (ww2 f), .int .u64 (ww1 f), .int .u64 (ww0 f), .int .u64 (ww3 g), .int .u64 (ww2 g), .int .u64 (ww1 g), .int .u64 (ww0 g)] from rfl] at X7
   have ha : Below w4.heap.size w4 ((w4.alloc (.cells #[.int .u64 (ww3 x), .int .u64 (ww2 x), .int .u64 (ww1 x), .int .u64 (ww0 x), .int .u64 (ww3 y), .int .u64 (ww2 y), .int .u64 (ww1 y), .int .u64 (ww0 y), .int .u64 (ww3 z), .int .u64 (ww2 z), .int .u64 (ww1 z), .int .u64 (ww0 z)] 40)).alloc (.cells #[.int .u64 (ww3 e), .int .u64 (ww2 e), .int .u64 (ww1 e), .int .u64 (ww0 e), .int .u64 (ww3 f), .int .u64 (ww2 f), .int .u64 (ww1 f), .int .u64 (ww0 f), .int .u64 (ww3 g), .int .u64 (ww2 g), .int .u64 (ww1 g), .int .u64 (ww0 g)] 40)) := ((Below.refl _ _).alloc (Nat.le_refl _) _).alloc (by simp) _
   replace HB := HB.trans (ha.mono HB.size)
   replace X3 := X3.step ha
   replace X4 := X4.step ha
   clear ha
   go_upto_region 5 with fail
   revert X6 X7 HB X3 X4
   generalize ((w4.alloc (.cells #[.int .u64 (ww3 x), .int .u64 (ww2 x), .int .u64 (ww1 x), .int .u64 (ww0 x), .int .u64 (ww3 y), .int .u64 (ww2 y), .int .u64 (ww1 y), .int .u64 (ww0 y), .int .u64 (ww3 z), .int .u64 (ww2 z), .int .u64 (ww1 z), .int .u64 (ww0 z)] 40)).alloc (.cells #[.int .u64 (ww3 e), .int .u64 (ww2 e), .int .u64 (ww1 e), .int .u64 (ww0 e), .int .u64 (ww3 f), .int .u64 (ww2 f), .int .u64 (ww1 f), .int .u64 (ww0 f), .int .u64 (ww3 g), .int .u64 (ww2 g), .int .u64 (ww1 g), .int .u64 (ww0 g)] 40)) = W4
   generalize w4.heap.size + 1 = A7
   generalize w4.heap.size = A6
   intro X6 X7 HB X3 X4
   obtain ⟨q0, q1, q2, q3⟩ := X3.cs4
   obtain ⟨t0, t1, t2, t3⟩ := X4.cs4
   go_wp2_with fail
   clear q0 q1 q2 q3 t0 t1 t2 t3
   refine (CJ _).mono ?_
   rintro ee w5 ⟨rfl, hB⟩
   replace HB := HB.trans (hB.mono HB.size)
   replace X3 := X3.step hB
   replace X4 := X4.step hB
   replace X6 := X6.step hB
   replace X7 := X7.step hB
   clear hB
   have X9 := (Blk.new w5 [.int .u64 (ww3 x), .int .u64 (ww2 x), .int .u64 (ww1 x), .int .u64 (ww0 x), .int .u64 (ww3 y), .int .u64 (ww2 y), .int .u64 (ww1 y), .int .u64 (ww0 y), .int .u64 (ww3 z), .int .u64 (ww2 z), .int .u64 (ww1 z), .int .u64 (ww0 z)] 40 rfl).alloc (.cells #[.int .u64 (ww3 e), .int .u64 (ww2 e), .int .u64 (ww1 e), .int .u64 (ww0 e), .int .u64 (ww3 f), .int .u64 (ww2 f), .int .u64 (ww1 f), .int .u64 (ww0 f), .int .u64 (ww3 g), .int .u64 (ww2 g), .int .u64 (ww1 g), .int .u64 (ww0 g)] 40)
   have X10 := Blk.new (w5.alloc (.cells #[.int .u64 (ww3 x), .int .u64 (ww2 x), .int .u64 (ww1 x), .int .u64 (ww0 x), .int .u64 (ww3 y), .int .u64 (ww2 y), .int .u64 (ww1 y), .int .u64 (ww0 y), .int .u64 (ww3 z), .int .u64 (ww2 z), .int .u64 (ww1 z), .int .u64 (ww0 z)] 40)) [.int .u64 (ww3 e), .int .u64 (ww2 e), .int .u64 (ww1 e), .int .u64 (ww0 e), .int .u64 (ww3 f), .int .u64 (ww2 f), .int .u64 (ww1 f), .int .u64 (ww0 f), .int .u64 (ww3 g), .int .u64 (ww2 g), .int .u64 (ww1 g), .int .u64 (ww0 g)] 40 (g := w5.heap.size + 1) (by simp)
   rw [show ([.int .u64 (ww3 x), .int .u64 (ww2 x), .int .u64 (ww1 x), .int .u64 (ww0 x), .int .u64 (ww3 y), .int .u64 (ww2 y), .int .u64 (ww1 y), .int .u64 (ww0 y), .int .u64 (ww3 z), .int .u64 (ww2 z), .int .u64 (ww1 z), .int .u64 (ww0 z)] : List Value).toArray = #[.int .u64 (ww3 x), .int .u64 (ww2 x), .int .u64 (ww1 x), .int .u64 (ww0 x), .int .u64 (ww3 y), .int .u64 (ww2 y), .int .u64 (ww1 y), .int .u64 (ww0 y), .int .u64 (ww3 z), .int .u64 (ww2 z), .int .u64 (ww1 z), .int .u64 (ww0 z)] from rfl] at X9 X10
   rw [show ([.int .u64 (ww3 e), .int .u64 (ww2 e), .int .u64 (ww1 e), .int .u64 (ww0 e), .int .u64 (ww3 f), .int .u64 (ww2 f), .int .u64 (ww1 f), .int .u64 (ww0 f), .int .u64 (ww3 g), .int .u64 (ww2 g), .int .u64 (ww1 g), .int .u64 (ww0 g)] : List Value).toArray = #[.int .u64 (ww3 e), .int .u64 (ww2 e), .int .u64 (ww1 e), .int .u64 (ww0 e), .int .u64 (ww3 f), .int .u64 (ww2 f), .int .u64 (ww1 f), .int .u64 (ww0 f), .int .u64 (ww3 g), .int .u64 (ww2 g), .int .u64 (ww1 g), .int .u64 (ww0 g)] from rfl] at X10
   have ha : Below w5.heap.size w5 ((w5.alloc (.cells #[.int .u64 (ww3 x), .int .u64 (ww2 x), .int .u64 (ww1 x), .int .u64 (ww0 x), .int .u64 (ww3 y), .int .u64 (ww2 y), .int .u64 (ww1 y), .int .u64 (ww0 y), .int .u64 (ww3 z), .int .u64 (ww2 z), .int .u64 (ww1 z), .int .u64 (ww0 z)] 40)).alloc (.cells #[.int .u64 (ww3 e), .int .u64 (ww2 e), .int .u64 (ww1 e), .int .u64 (ww0 e), .int .u64 (ww3 f), .int .u64 (ww2 f), .int .u64 (ww1 f), .int .u64 (ww0 f), .int .u64 (ww3 g), .int .u64 (ww2 g), .int .u64 (ww1 g), .int .u64 (ww0 g)] 40)) := ((Below.refl _ _).alloc (Nat.le_refl _) _).alloc (by simp) _
   replace HB := HB.trans (ha.mono HB.size)
   replace X3 := X3.step ha
   replace X4 := X4.step ha
   replace X6 := X6.step ha
   replace X7 := X7.step ha
   clear ha
   go_upto_region 6 with fail
   revert X9 X10 HB X3 X4 X6 X7
   generalize ((w5.alloc (.cells #[.int .u64 (ww3 x), .int .u64 (ww2 x), .int .u64 (ww1 x), .int .u64 (ww0 x), .int .u64 (ww3 y), .int .u64 (ww2 y), .int .u64 (ww1 y), .int .u64 (ww0 y), .int .u64 (ww3 z), .int .u64 (ww2 z), .int .u64 (ww1 z), .int .u64 (ww0 z)] 40)).alloc (.cells #[.int .u64 (ww3 e), .int .u64 (ww2 e), .int .u64 (ww1 e), .int .u64 (ww0 e), .int .u64 (ww3 f), .int .u64 (ww2 f), .int .u64 (ww1 f), .int .u64 (ww0 f), .int .u64 (ww3 g), .int .u64 (ww2 g), .int .u64 (ww1 g), .int .u64 (ww0 g)] 40)) = W5
   generalize w5.heap.size + 1 = A10
   generalize w5.heap.size = A9
   intro X9 X10 HB X3 X4 X6 X7
   obtain ⟨q0, q1, q2, q3⟩ := X3.cs4
   obtain ⟨t0, t1, t2, t3⟩ := X4.cs4
   go_wp2_with fail
   clear q0 q1 q2 q3 t0 t1 t2 t3
   refine (CS _).mono ?_
   rintro ee w6 ⟨rfl, hB⟩
   replace HB := HB.trans (hB.mono HB.size)
   replace X3 := X3.step hB
   replace X4 := X4.step hB
   replace X6 := X6.step hB
   replace X7 := X7.step hB
   replace X9 := X9.step hB
   replace X10 := X10.step hB
   clear hB
   have X12 := (Blk.new w6 [.int .u64 (ww3 x), .int .u64 (ww2 x), .int .u64 (ww1 x), .int .u64 (ww0 x), .int .u64 (ww3 y), .int .u64 (ww2 y), .int .u64 (ww1 y), .int .u64 (ww0 y), .int .u64 (ww3 z), .int .u64 (ww2 z), .int .u64 (ww1 z), .int .u64 (ww0 z)] 40 rfl).alloc (.cells #[.int .u64 (ww3 e), .int .u64 (ww2 e), .int .u64 (ww1 e), .int .u64 (ww0 e), .int .u64 (ww3 f), .int .u64 (ww2 f), .int .u64 (ww1 f), .int .u64 (ww0 f), .int .u64 (ww3 g), .int .u64 (ww2 g), .int .u64 (ww1 g), .int .u64 (ww0 g)] 40)
   have X13 := Blk.new (w6.alloc (.cells #[.int .u64 (ww3 x), .int .u64 (ww2 x), .int .u64 (ww1 x), .int .u64 (ww0 x), .int .u64 (ww3 y), .int .u64 (ww2 y), .int .u64 (ww1 y), .int .u64 (ww0 y), .int .u64 (ww3 z), .int .u64 (ww2 z), .int .u64 (ww1 z), .int .u64 (ww0 z)] 40)) [.int .u64 (ww3 e), .int .u64 (ww2 e), .int .u64 (ww1 e), .int .u64 (ww0 e), .int .u64 (ww3 f), .int .u64 (ww2 f), .int .u64 (ww1 f), .int .u64 (ww0 f), .int .u64 (ww3 g), .int .u64 (ww2 g), .int .u64 (ww1 g), .int .u64 (ww0 g)] 40 (g := w6.heap.size + 1) (by simp)
   rw [show ([.int .u64 (ww3 x), .int .u64 (ww2 x), .int .u64 (ww1 x), .int .u64 (ww0 x), .int .u64 (ww3 y), .int .u64 (ww2 y), .int .u64 (ww1 y), .int .u64 (ww0 y), .int .u64 (ww3 z), .int .u64 (ww2 z), .int .u64 (ww1 z), .int .u64 (ww0 z)] : List Value).toArray = #[.int .u64 (ww3 x), .int .u64 (ww2 x), .int .u64 (ww1 x), .int .u64 (ww0 x), .int .u64 (ww3 y), .int .u64 (ww2 y), .int .u64 (ww1 y), .int .u64 (ww0 y), .int .u64 (ww3 z), .int .u64 (ww2 z), .int .u64 (ww1 z), .int .u64 (ww0 z)] from rfl] at X12 X13
   rw [show ([.int .u64 (ww3 e), .int .u64 (ww2 e), .int .u64 (ww1 e), .int .u64 (ww0 e), .int .u64 (ww3 f), .int .u64 (ww2 f), .int .u64 (ww1 f), .int .u64 (ww0 f), .int .u64 (ww3 g), .int .u64 (ww2 g), .int .u64 (ww1 g), .int .u64 (ww0 g)] : List Value).toArray = #[.int .u64 (ww3 e), .int .u64 (ww2 e), .int .u64 (ww1 e), .int .u64 (ww0 e), .int .u64 (ww3 f), .int .u64 (ww2 f), .int .u64 (ww1 f), .int .u64 (ww0 f), .int .u64 (ww3 g), .int .u64 (ww2 g), .int .u64 (ww1 g), .int .u64 (ww0 g)] from rfl] at X13
   have ha : Below w6.heap.size w6 ((w6.alloc (.cells #[.int .u64 (ww3 x), .int .u64 (ww2 x), .int .u64 (ww1 x), .int .u64 (ww0 x), .int .u64 (ww3 y), .int .u64 (ww2 y), .int .u64 (ww1 y), .int .u64 (ww0 y), .int .u64 (ww3 z), .int .u64 (ww2 z), .int .u64 (ww1 z), .int .u64 (ww0 z)] 40)).alloc (.cells #[.int .u64 (ww3 e), .int .u64 (ww2 e), .int .u64 (ww1 e), .int .u64 (ww0 e), .int .u64 (ww3 f), .int .u64 (ww2 f), .int .u64 (ww1 f), .int .u64 (ww0 f), .int .u64 (ww3 g), .int .u64 (ww2 g), .int .u64 (ww1 g), .int .u64 (ww0 g)] 40)) := ((Below.refl _ _).alloc (Nat.le_refl _) _).alloc (by simp) _
   replace HB := HB.trans (ha.mono HB.size)
   replace X3 := X3.step ha
   replace X4 := X4.step ha
   replace X6 := X6.step ha
   replace X7 := X7.step ha
   replace X9 := X9.step ha
   replace X10 := X10.step ha
   clear ha
   go_upto_region 7 with fail
   revert X12 X13 HB X3 X4 X6 X7 X9 X10
   generalize ((w6.alloc (.cells #[.int .u64 (ww3 x), .int .u64 (ww2 x), .int .u64 (ww1 x), .int .u64 (ww0 x), .int .u64 (ww3 y), .int .u64 (ww2 y), .int .u64 (ww1 y), .int .u64 (ww0 y), .int .u64 (ww3 z), .int .u64 (ww2 z), .int .u64 (ww1 z), .int .u64 (ww0 z)] 40)).alloc (.cells #[.int .u64 (ww3 e), .int .u64 (ww2 e), .int .u64 (ww1 e), .int .u64 (ww0 e), .int .u64 (ww3 f), .int .u64 (ww2 f), .int .u64 (ww1 f), .int .u64 (ww0 f), .int .u64 (ww3 g), .int .u64 (ww2 g), .int .u64 (ww1 g), .int .u64 (ww0 g)] 40)) = W6
   generalize w6.heap.size + 1 = A13
   generalize w6.heap.size = A12
   intro X12 X13 HB X3 X4 X6 X7 X9 X10
   clear CI CJ CS
   obtain ⟨h0, h1, h2, h3, h4, h5, h6, h7, h8, h9, h10, h11⟩ := X6.cs12
   obtain ⟨i0, i1, i2, i3, i4, i5, i6, i7, i8, i9, i10, i11⟩ := X7.cs12
   obtain ⟨j0, j1, j2, j3, j4, j5, j6, j7, j8, j9, j10, j11⟩ := X9.cs12
   obtain ⟨l0, l1, l2, l3, l4, l5, l6, l7, l8, l9, l10, l11⟩ := X10.cs12
   obtain ⟨m0, m1, m2, m3, m4, m5, m6, m7, m8, m9, m10, m11⟩ := X12.cs12
   obtain ⟨o0, o1, o2, o3, o4, o5, o6, o7, o8, o9, o10, o11⟩ := X13.cs12
   clear X9 X10 X12 X13
   go_upto_region 9 with fail
   clear h0 h1 h2 h3 h4 h5 h6 h7 h8 h9 h10 h11 i0 i1 i2 i3 i4 i5 i6 i7 i8 i9 i10 i11 j0 j1 j2 j3 j4 j5 j6 j7 j8 j9 j10 j11 l0 l1 l2 l3 l4 l5 l6 l7 l8 l9 l10 l11 m0 m1 m2 m3 m4 m5 m6 m7 m8 m9 m10 m11 o0 o1 o2 o3 o4 o5 o6 o7 o8 o9 o10 o11 E1 E2 e0
   have S1 := implSegOk_any a b c d _ rfl
   have S2 := implSegOk_any p q u v _ rfl
   obtain ⟨q0, q1, q2, q3⟩ := X3.cs4
   go_wp2_with fail
   clear q0 q1 q2 q3
   refine (S1 _).mono ?_
   rintro ee w7 ⟨rfl, hB⟩
   replace HB := HB.trans (hB.mono HB.size)
   replace X3 := X3.step hB
   replace X4 := X4.step hB
   replace X6 := X6.step hB
   replace X7 := X7.step hB
   clear hB
   cases hs1 : segOk a b c d
   · have hk0 := hno (.inl hs1)
     subst hk0
     clear hyes
     go_wp2
     go_ret
     exact ⟨rfl, HB⟩
   · obtain ⟨t0, t1, t2, t3⟩ := X4.cs4
     go_wp2_with fail
     clear t0 t1 t2 t3
     refine (S2 _).mono ?_
     rintro ee w8 ⟨rfl, hB⟩
     replace HB := HB.trans (hB.mono HB.size)
     replace X3 := X3.step hB
     replace X4 := X4.step hB
     replace X6 := X6.step hB
     replace X7 := X7.step hB
     clear hB
     cases hs2 : segOk p q u v
     · have hk0 := hno (.inr hs2)
       subst hk0
       clear hyes
       go_wp2
       go_ret
       exact ⟨rfl, HB⟩
     · have PP := implPointOf_any p q ip.1 ip.2 iq.1 iq.2
       have PU := implPointOf_any u v iu.1 iu.2 iv.1 iv.2
       have PA := implPointOf_any a b ia.1 ia.2 ib.1 ib.2
       have PC := implPointOf_any c d ic.1 ic.2 id.1 id.2
       have one : told 1 = true := by decide
       clear S1 S2 hno
       rcases hyes hs1 hs2 with ⟨rfl, n1, n2, n3, n4, n5⟩ | ⟨rfl, o1, o2⟩ | ⟨rfl, rfl, rfl, hcm, o1, o2, o3, o4, d1, d2⟩
       · obtain ⟨m1, m2, m3, gg, hmid, hg, g1, g2, g3, hpt⟩ := mid_one (seg_spots hs2).1 (seg_spots hs2).2
         obtain ⟨_, k1, k2, k3⟩ := ptB_small hpt
         have n6 := n5 m1 m2 m3 gg hg g1 g2 g3
         have CM := implMiddle_det p q 1 u v 1 (told_m ip) (told_m iq) one (told_m iu) (told_m iv) one
         rw [hmid] at CM
         have O1 := implOnSeg_det a b c d p q 1 ia ib ic id (told_m ip) (told_m iq) one
         have O2 := implOnSeg_det a b c d u v 1 ia ib ic id (told_m iu) (told_m iv) one
         have O3 := implOnSeg_det p q u v a b 1 ip iq iu iv (told_m ia) (told_m ib) one
         have O4 := implOnSeg_det p q u v c d 1 ip iq iu iv (told_m ic) (told_m id) one
         have O5 := implOnSeg_det a b c d m1 m2 m3 ia ib ic id (told_small k1) (told_small k2) (told_small k3)
         rw [n1] at O1
         rw [n2] at O2
         rw [n3] at O3
         rw [n4] at O4
         rw [n6] at O5
         clear hyes n1 n2 n3 n4 n5 n6 hmid g1 g2 g3 hpt X6 X7
         go_upto_region 16 with fail
         refine mbM (B4 := w8.heap.size) (A4 := A4) (p := p) (q := q) (u := u) (w := v) (m1 := m1) (m2 := m2) (m3 := m3) rfl PP PU CM rfl (X4.c 0 rfl) X4.lt (X4.c 1 rfl) X4.lt (X4.c 2 rfl) X4.lt (X4.c 3 rfl) X4.lt rfl ?_
         rintro ⟨tm, df⟩ W9 hz hdf hoff h11 h15 hBz ⟨gz, h14, hgz, GZ⟩
         simp only at hz hdf hoff
         change tm.getD 15 undef = .bool true at h15
         change tm.getD 14 undef = .pointer (some ⟨gz, 0, none⟩) at h14
         subst hdf
         have htm := tmps_fold [136, 137, 138, 139, 140, 141, 142, 135, 143, 144, 14, 15] tm _ hz hoff
         simp only [List.foldl, List.setIfInBounds_toArray, List.set_cons_zero, List.set_cons_succ, h14, h15] at htm
         clear hz hoff
         generalize tm.getD 136 undef = sl0, tm.getD 137 undef = sl1, tm.getD 138 undef = sl2, tm.getD 139 undef = sl3, tm.getD 140 undef = sl4, tm.getD 141 undef = sl5, tm.getD 142 undef = sl6, tm.getD 135 undef = sl7, tm.getD 143 undef = sl8, tm.getD 144 undef = sl9 at htm
         clear h14 h15
         subst htm
         replace HB := HB.trans (hBz.mono HB.size)
         replace X3 := X3.step hBz
         replace X4 := X4.step hBz
         clear hBz h11 hgz CM
         go_upto_region 17 with fail
         refine mbN (A3 := A3) (A4 := A4) (A14 := gz) (a := a) (b := b) (c := c) (d := d) (p := p) (q := q) (u := u) (w := v) (m1 := m1) (m2 := m2) (m3 := m3) PP PU PA PC O1 O2 O3 O4 O5 rfl rfl rfl (X3.c 0 rfl) X3.lt (X3.c 1 rfl) X3.lt (X3.c 2 rfl) X3.lt (X3.c 3 rfl) X3.lt (X4.c 0 rfl) X4.lt (X4.c 1 rfl) X4.lt (X4.c 2 rfl) X4.lt (X4.c 3 rfl) X4.lt (GZ.c 0 rfl) GZ.lt (GZ.c 1 rfl) GZ.lt (GZ.c 2 rfl) GZ.lt (GZ.c 3 rfl) GZ.lt (GZ.c 4 rfl) GZ.lt (GZ.c 5 rfl) GZ.lt (GZ.c 6 rfl) GZ.lt (GZ.c 7 rfl) GZ.lt (GZ.c 8 rfl) GZ.lt (GZ.c 9 rfl) GZ.lt (GZ.c 10 rfl) GZ.lt (GZ.c 11 rfl) GZ.lt rfl ?_
         rintro ⟨tm, df⟩ W10 hz hdf hoff h2 hBz
         simp only at hz hdf hoff
         change tm.getD 2 undef = .bool true at h2
         subst hdf
         have htm := tmps_fold [145, 146, 147, 148, 149, 150, 151, 152, 153, 154, 155, 156, 157, 158, 159, 160, 161, 162, 163, 164, 165, 166, 167, 168, 169, 170, 171, 172, 173, 174, 175, 176, 177, 178, 179, 180, 2] tm _ hz hoff
         simp only [List.foldl, List.setIfInBounds_toArray, List.set_cons_zero, List.set_cons_succ, h2] at htm
         clear hz hoff
         generalize tm.getD 145 undef = sk0, tm.getD 146 undef = sk1, tm.getD 147 undef = sk2, tm.getD 148 undef = sk3, tm.getD 149 undef = sk4, tm.getD 150 undef = sk5, tm.getD 151 undef = sk6, tm.getD 152 undef = sk7, tm.getD 153 undef = sk8, tm.getD 154 undef = sk9, tm.getD 155 undef = sk10, tm.getD 156 undef = sk11, tm.getD 157 undef = sk12, tm.getD 158 undef = sk13, tm.getD 159 undef = sk14, tm.getD 160 undef = sk15, tm.getD 161 undef = sk16, tm.getD 162 undef = sk17, tm.getD 163 undef = sk18, tm.getD 164 undef = sk19, tm.getD 165 undef = sk20, tm.getD 166 undef = sk21, tm.getD 167 undef = sk22, tm.getD 168 undef = sk23, tm.getD 169 undef = sk24, tm.getD 170 undef = sk25, tm.getD 171 undef = sk26, tm.getD 172 undef = sk27, tm.getD 173 undef = sk28, tm.getD 174 undef = sk29, tm.getD 175 undef = sk30, tm.getD 176 undef = sk31, tm.getD 177 undef = sk32, tm.getD 178 undef = sk33, tm.getD 179 undef = sk34, tm.getD 180 undef = sk35 at htm
         clear h2
         subst htm
         replace HB := HB.trans (hBz.mono HB.size)
         clear hBz X3 X4 GZ
         go_wp2
         go_ret
         exact ⟨rfl, HB⟩
       · have O1 := implOnSeg_det a b c d x y z ia ib ic id tx ty tz
         have O2 := implOnSeg_det p q u v x y z ip iq iu iv tx ty tz
         rw [o1] at O1
         rw [o2] at O2
         clear hyes PP PU PA PC X7
         obtain ⟨q0, q1, q2, q3⟩ := X3.cs4
         obtain ⟨h0, h1, h2, h3, h4, h5, h6, h7, h8, h9, h10, h11⟩ := X6.cs12
         go_wp2_with fail
         clear q0 q1 q2 q3 h0 h1 h2 h3 h4 h5 h6 h7 h8 h9 h10 h11
         refine (O1 _).mono ?_
         rintro ee w9 ⟨rfl, hB⟩
         replace HB := HB.trans (hB.mono HB.size)
         replace X3 := X3.step hB
         replace X4 := X4.step hB
         replace X6 := X6.step hB
         clear hB
         obtain ⟨t0, t1, t2, t3⟩ := X4.cs4
         obtain ⟨h0, h1, h2, h3, h4, h5, h6, h7, h8, h9, h10, h11⟩ := X6.cs12
         go_wp2_with fail
         clear t0 t1 t2 t3 h0 h1 h2 h3 h4 h5 h6 h7 h8 h9 h10 h11
         refine (O2 _).mono ?_
         rintro ee w10 ⟨rfl, hB⟩
         replace HB := HB.trans (hB.mono HB.size)
         clear hB X3 X4 X6
         go_wp2
         go_ret
         exact ⟨rfl, HB⟩
       · have O1 := implOnSeg_det a b c d x y 1 ia ib ic id tx ty one
         have O2 := implOnSeg_det p q u v x y 1 ip iq iu iv tx ty one
         have O3 := implOnSeg_det a b c d e f 1 ia ib ic id te tf one
         have O4 := implOnSeg_det p q u v e f 1 ip iq iu iv te tf one
         have D1 := implSideOf_det a b c d p q 1 (told_m ip) (told_m iq) one
         have D2 := implSideOf_det a b c d u v 1 (told_m iu) (told_m iv) one
         have CM := implPointCmp_det x y 1 e f 1 tx ty one te tf one
         rw [o1] at O1
         rw [o2] at O2
         rw [o3] at O3
         rw [o4] at O4
         rw [d1] at D1
         rw [d2] at D2
         clear hyes PA PC
         go_upto_region 15 with fail
         refine mbS (A3 := A3) (A4 := A4) (A6 := A6) (A7 := A7) (a := a) (b := b) (c := c) (d := d) (p := p) (q := q) (u := u) (w := v) (x := x) (y := y) (e := e) (f := f) (cm := ptCmp x y 1 e f 1) hcm CM O1 O2 O3 O4 PP PU D1 D2 rfl rfl rfl rfl (X3.c 0 rfl) X3.lt (X3.c 1 rfl) X3.lt (X3.c 2 rfl) X3.lt (X3.c 3 rfl) X3.lt (X4.c 0 rfl) X4.lt (X4.c 1 rfl) X4.lt (X4.c 2 rfl) X4.lt (X4.c 3 rfl) X4.lt (X6.c 0 rfl) X6.lt (X6.c 1 rfl) X6.lt (X6.c 2 rfl) X6.lt (X6.c 3 rfl) X6.lt (X6.c 4 rfl) X6.lt (X6.c 5 rfl) X6.lt (X6.c 6 rfl) X6.lt (X6.c 7 rfl) X6.lt (X6.c 8 rfl) X6.lt (X6.c 9 rfl) X6.lt (X6.c 10 rfl) X6.lt (X6.c 11 rfl) X6.lt (X7.c 0 rfl) X7.lt (X7.c 1 rfl) X7.lt (X7.c 2 rfl) X7.lt (X7.c 3 rfl) X7.lt (X7.c 4 rfl) X7.lt (X7.c 5 rfl) X7.lt (X7.c 6 rfl) X7.lt (X7.c 7 rfl) X7.lt (X7.c 8 rfl) X7.lt (X7.c 9 rfl) X7.lt (X7.c 10 rfl) X7.lt (X7.c 11 rfl) X7.lt rfl ?_
         rintro ⟨tm, df⟩ W10 hz hdf hoff h2 hBz
         simp only at hz hdf hoff
         change tm.getD 2 undef = .bool true at h2
         subst hdf
         have htm := tmps_fold [95, 96, 97, 98, 99, 100, 101, 102, 103, 104, 105, 106, 107, 108, 109, 110, 111, 112, 113, 114, 115, 116, 117, 118, 119, 120, 121, 122, 123, 124, 125, 126, 127, 128, 129, 130, 131, 132, 133, 134, 2] tm _ hz hoff
         simp only [List.foldl, List.setIfInBounds_toArray, List.set_cons_zero, List.set_cons_succ, h2] at htm
         clear hz hoff
         generalize tm.getD 95 undef = sk0, tm.getD 96 undef = sk1, tm.getD 97 undef = sk2, tm.getD 98 undef = sk3, tm.getD 99 undef = sk4, tm.getD 100 undef = sk5, tm.getD 101 undef = sk6, tm.getD 102 undef = sk7, tm.getD 103 undef = sk8, tm.getD 104 undef = sk9, tm.getD 105 undef = sk10, tm.getD 106 undef = sk11, tm.getD 107 undef = sk12, tm.getD 108 undef = sk13, tm.getD 109 undef = sk14, tm.getD 110 undef = sk15, tm.getD 111 undef = sk16, tm.getD 112 undef = sk17, tm.getD 113 undef = sk18, tm.getD 114 undef = sk19, tm.getD 115 undef = sk20, tm.getD 116 undef = sk21, tm.getD 117 undef = sk22, tm.getD 118 undef = sk23, tm.getD 119 undef = sk24, tm.getD 120 undef = sk25, tm.getD 121 undef = sk26, tm.getD 122 undef = sk27, tm.getD 123 undef = sk28, tm.getD 124 undef = sk29, tm.getD 125 undef = sk30, tm.getD 126 undef = sk31, tm.getD 127 undef = sk32, tm.getD 128 undef = sk33, tm.getD 129 undef = sk34, tm.getD 130 undef = sk35, tm.getD 131 undef = sk36, tm.getD 132 undef = sk37, tm.getD 133 undef = sk38, tm.getD 134 undef = sk39 at htm
         clear h2
         subst htm
         replace HB := HB.trans (hBz.mono HB.size)
         clear hBz X3 X4 X6 X7
         go_wp2
         go_ret
         exact ⟨rfl, HB⟩
open Go.ChangeShapes Go.WideShapes Go.ChangeAt Go.RowKit Go.Joins
theorem jn_laid : laidOutB Tryz.pinned.checked.prog = true := by kernel_rfl
theorem jn_maps : mapsRowed Tryz.pinned.checked.prog = true := by kernel_rfl
theorem jn_enter : Tryz.pinned.checked.prog.mayEnter = true := by kernel_rfl
theorem jn_heard : Tryz.pinned.checked.prog.stopsHeard = true := by kernel_rfl
end Go.Proofs.YtpnnpkchogooaaaGreat
