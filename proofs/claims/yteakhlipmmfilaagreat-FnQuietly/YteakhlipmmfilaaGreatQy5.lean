/- Part 5 of the walks that the proof leans on. -/
import Derived.Test.YteakhlipmmfilaaGreatQy4
import Derived.Test.YteakhlipmmfilaaGreatQy3
import Derived.RangeFuncNested
import Derived.RangeFuncBound
import Derived.RangeFuncCalls
import Derived.RangeFuncLeaves
import Derived.Shelf.Abstract
import Derived.Shelf.RegionOpen
import Derived.WalkKit
import Derived.OwnWalkIn
import Derived.TacticsInMore
import Derived.LoopNIn
import Derived.LoopIn
namespace Go.Proofs.YteakhlipmmfilaaGreat
open Go.RowKit
def meetW (a b c d p q u v : Int) : Value := if ((b - d) * (u - p) - (q - v) * (c - a)) = 0 then alongV a b c d p q u v else if pt2 (turnZ a b c d p q) (turnZ a b c d u v) && pt2 (turnZ p q u v a b) (turnZ p q u v c d) then .tuple #[.int .i64 1, .agg #[.int .u64 (ww3 (shareZ ((c - a) * (p * v - q * u) - (u - p) * (a * d - b * c)) (Int.gcd (Int.gcd ((c - a) * (p * v - q * u) - (u - p) * (a * d - b * c)) ((a * d - b * c) * (q - v) - (p * v - q * u) * (b - d)) : Int) ((b - d) * (u - p) - (q - v) * (c - a)) : Int) (decide (((b - d) * (u - p) - (q - v) * (c - a)) < 0)))), .int .u64 (ww2 (shareZ ((c - a) * (p * v - q * u) - (u - p) * (a * d - b * c)) (Int.gcd (Int.gcd ((c - a) * (p * v - q * u) - (u - p) * (a * d - b * c)) ((a * d - b * c) * (q - v) - (p * v - q * u) * (b - d)) : Int) ((b - d) * (u - p) - (q - v) * (c - a)) : Int) (decide (((b - d) * (u - p) - (q - v) * (c - a)) < 0)))), .int .u64 (ww1 (shareZ ((c - a) * (p * v - q * u) - (u - p) * (a * d - b * c)) (Int.gcd (Int.gcd ((c - a) * (p * v - q * u) - (u - p) * (a * d - b * c)) ((a * d - b * c) * (q - v) - (p * v - q * u) * (b - d)) : Int) ((b - d) * (u - p) - (q - v) * (c - a)) : Int) (decide (((b - d) * (u - p) - (q - v) * (c - a)) < 0)))), .int .u64 (ww0 (shareZ ((c - a) * (p * v - q * u) - (u - p) * (a * d - b * c)) (Int.gcd (Int.gcd ((c - a) * (p * v - q * u) - (u - p) * (a * d - b * c)) ((a * d - b * c) * (q - v) - (p * v - q * u) * (b - d)) : Int) ((b - d) * (u - p) - (q - v) * (c - a)) : Int) (decide (((b - d) * (u - p) - (q - v) * (c - a)) < 0)))), .int .u64 (ww3 (shareZ ((a * d - b * c) * (q - v) - (p * v - q * u) * (b - d)) (Int.gcd (Int.gcd ((c - a) * (p * v - q * u) - (u - p) * (a * d - b * c)) ((a * d - b * c) * (q - v) - (p * v - q * u) * (b - d)) : Int) ((b - d) * (u - p) - (q - v) * (c - a)) : Int) (decide (((b - d) * (u - p) - (q - v) * (c - a)) < 0)))), .int .u64 (ww2 (shareZ ((a * d - b * c) * (q - v) - (p * v - q * u) * (b - d)) (Int.gcd (Int.gcd ((c - a) * (p * v - q * u) - (u - p) * (a * d - b * c)) ((a * d - b * c) * (q - v) - (p * v - q * u) * (b - d)) : Int) ((b - d) * (u - p) - (q - v) * (c - a)) : Int) (decide (((b - d) * (u - p) - (q - v) * (c - a)) < 0)))), .int .u64 (ww1 (shareZ ((a * d - b * c) * (q - v) - (p * v - q * u) * (b - d)) (Int.gcd (Int.gcd ((c - a) * (p * v - q * u) - (u - p) * (a * d - b * c)) ((a * d - b * c) * (q - v) - (p * v - q * u) * (b - d)) : Int) ((b - d) * (u - p) - (q - v) * (c - a)) : Int) (decide (((b - d) * (u - p) - (q - v) * (c - a)) < 0)))), .int .u64 (ww0 (shareZ ((a * d - b * c) * (q - v) - (p * v - q * u) * (b - d)) (Int.gcd (Int.gcd ((c - a) * (p * v - q * u) - (u - p) * (a * d - b * c)) ((a * d - b * c) * (q - v) - (p * v - q * u) * (b - d)) : Int) ((b - d) * (u - p) - (q - v) * (c - a)) : Int) (decide (((b - d) * (u - p) - (q - v) * (c - a)) < 0)))), .int .u64 (ww3 (shareZ ((b - d) * (u - p) - (q - v) * (c - a)) (Int.gcd (Int.gcd ((c - a) * (p * v - q * u) - (u - p) * (a * d - b * c)) ((a * d - b * c) * (q - v) - (p * v - q * u) * (b - d)) : Int) ((b - d) * (u - p) - (q - v) * (c - a)) : Int) (decide (((b - d) * (u - p) - (q - v) * (c - a)) < 0)))), .int .u64 (ww2 (shareZ ((b - d) * (u - p) - (q - v) * (c - a)) (Int.gcd (Int.gcd ((c - a) * (p * v - q * u) - (u - p) * (a * d - b * c)) ((a * d - b * c) * (q - v) - (p * v - q * u) * (b - d)) : Int) ((b - d) * (u - p) - (q - v) * (c - a)) : Int) (decide (((b - d) * (u - p) - (q - v) * (c - a)) < 0)))), .int .u64 (ww1 (shareZ ((b - d) * (u - p) - (q - v) * (c - a)) (Int.gcd (Int.gcd ((c - a) * (p * v - q * u) - (u - p) * (a * d - b * c)) ((a * d - b * c) * (q - v) - (p * v - q * u) * (b - d)) : Int) ((b - d) * (u - p) - (q - v) * (c - a)) : Int) (decide (((b - d) * (u - p) - (q - v) * (c - a)) < 0)))), .int .u64 (ww0 (shareZ ((b - d) * (u - p) - (q - v) * (c - a)) (Int.gcd (Int.gcd ((c - a) * (p * v - q * u) - (u - p) * (a * d - b * c)) ((a * d - b * c) * (q - v) - (p * v - q * u) * (b - d)) : Int) ((b - d) * (u - p) - (q - v) * (c - a)) : Int) (decide (((b - d) * (u - p) - (q - v) * (c - a)) < 0))))], .agg #[.int .u64 0, .int .u64 0, .int .u64 0, .int .u64 0, .int .u64 0, .int .u64 0, .int .u64 0, .int .u64 0, .int .u64 0, .int .u64 0, .int .u64 0, .int .u64 0]] else .tuple #[.int .i64 0, .agg #[.int .u64 0, .int .u64 0, .int .u64 0, .int .u64 0, .int .u64 0, .int .u64 0, .int .u64 0, .int .u64 0, .int .u64 0, .int .u64 0, .int .u64 0, .int .u64 0], .agg #[.int .u64 0, .int .u64 0, .int .u64 0, .int .u64 0, .int .u64 0, .int .u64 0, .int .u64 0, .int .u64 0, .int .u64 0, .int .u64 0, .int .u64 0, .int .u64 0]]
theorem along_ex (a b c d p q u v : Int) : ∃ (k : Int) (r0 r1 r2 r3 r4 r5 r6 r7 r8 r9 r10 r11 s0 s1 s2 s3 s4 s5 s6 s7 s8 s9 s10 s11 : Int), alongV a b c d p q u v = .tuple #[.int .i64 k, .agg #[.int .u64 r0, .int .u64 r1, .int .u64 r2, .int .u64 r3, .int .u64 r4, .int .u64 r5, .int .u64 r6, .int .u64 r7, .int .u64 r8, .int .u64 r9, .int .u64 r10, .int .u64 r11], .agg #[.int .u64 s0, .int .u64 s1, .int .u64 s2, .int .u64 s3, .int .u64 s4, .int .u64 s5, .int .u64 s6, .int .u64 s7, .int .u64 s8, .int .u64 s9, .int .u64 s10, .int .u64 s11]] := by
 unfold alongV
 generalize (if lessI a b p q = true then p else a) = fx
 generalize (if lessI a b p q = true then q else b) = fy
 generalize (if lessI u v c d = true then u else c) = lx
 generalize (if lessI u v c d = true then v else d) = ly
 split
 · exact ⟨_, _, _, _, _, _, _, _, _, _, _, _, _, _, _, _, _, _, _, _, _, _, _, _, _, rfl⟩
 · split
   · exact ⟨_, _, _, _, _, _, _, _, _, _, _, _, _, _, _, _, _, _, _, _, _, _, _, _, _, rfl⟩
   · exact ⟨_, _, _, _, _, _, _, _, _, _, _, _, _, _, _, _, _, _, _, _, _, _, _, _, _, rfl⟩
theorem meetW_ex (a b c d p q u v : Int) : ∃ (k : Int) (r0 r1 r2 r3 r4 r5 r6 r7 r8 r9 r10 r11 s0 s1 s2 s3 s4 s5 s6 s7 s8 s9 s10 s11 : Int), meetW a b c d p q u v = .tuple #[.int .i64 k, .agg #[.int .u64 r0, .int .u64 r1, .int .u64 r2, .int .u64 r3, .int .u64 r4, .int .u64 r5, .int .u64 r6, .int .u64 r7, .int .u64 r8, .int .u64 r9, .int .u64 r10, .int .u64 r11], .agg #[.int .u64 s0, .int .u64 s1, .int .u64 s2, .int .u64 s3, .int .u64 s4, .int .u64 s5, .int .u64 s6, .int .u64 s7, .int .u64 s8, .int .u64 s9, .int .u64 s10, .int .u64 s11]] := by
 unfold meetW
 split
 · exact along_ex a b c d p q u v
 · split
   · exact ⟨_, _, _, _, _, _, _, _, _, _, _, _, _, _, _, _, _, _, _, _, _, _, _, _, _, rfl⟩
   · exact ⟨_, _, _, _, _, _, _, _, _, _, _, _, _, _, _, _, _, _, _, _, _, _, _, _, _, rfl⟩
set_option maxRecDepth 100000 in
set_option maxHeartbeats 8000000 in
theorem meet_det (a b c d p q u v : Int) (ha : In1 a) (hb : In1 b) (hc : In1 c) (hd : In1 d) (hp : In1 p) (hq : In1 q) (hu : In1 u) (hv : In1 v) (w : World) : Calls Tryz.prog 86 #[Sg a b c d, Sg p q u v] w (VP (meetW a b c d p q u v) w) := by
 have LS := lineOf_det a b c d ha hb hc hd
 have LT := lineOf_det p q u v hp hq hu hv
 obtain ⟨x1, x2⟩ := mul_in (p := a) (q := d) (M := 1000000) (N := 1000000) ha.1 ha.2 hd.1 hd.2
 obtain ⟨x3, x4⟩ := mul_in (p := b) (q := c) (M := 1000000) (N := 1000000) hb.1 hb.2 hc.1 hc.2
 obtain ⟨y1, y2⟩ := mul_in (p := p) (q := v) (M := 1000000) (N := 1000000) hp.1 hp.2 hv.1 hv.2
 obtain ⟨y3, y4⟩ := mul_in (p := q) (q := u) (M := 1000000) (N := 1000000) hq.1 hq.2 hu.1 hu.2
 have i1 : In2 (b - d) := ⟨by omega, by omega⟩
 have i2 : In2 (c - a) := ⟨by omega, by omega⟩
 have i3 : In3 (a * d - b * c) := ⟨by omega, by omega⟩
 have j1 : In2 (q - v) := ⟨by omega, by omega⟩
 have j2 : In2 (u - p) := ⟨by omega, by omega⟩
 have j3 : In3 (p * v - q * u) := ⟨by omega, by omega⟩
 have CR := crossing_det (b - d) (c - a) (a * d - b * c) (q - v) (u - p) (p * v - q * u) i1 i2 i3 j1 j2 j3
 have bX : -9000000000000000000 ≤ ((c - a) * (p * v - q * u) - (u - p) * (a * d - b * c)) ∧ ((c - a) * (p * v - q * u) - (u - p) * (a * d - b * c)) ≤ 9000000000000000000 := by
   have e1 := mul_in (p := c - a) (q := p * v - q * u) (M := 2000000) (N := 2000000000000) i2.1 i2.2 j3.1 j3.2
   have e2 := mul_in (p := u - p) (q := a * d - b * c) (M := 2000000) (N := 2000000000000) j2.1 j2.2 i3.1 i3.2
   omega
 have bY : -9000000000000000000 ≤ ((a * d - b * c) * (q - v) - (p * v - q * u) * (b - d)) ∧ ((a * d - b * c) * (q - v) - (p * v - q * u) * (b - d)) ≤ 9000000000000000000 := by
   have e1 := mul_in (p := a * d - b * c) (q := q - v) (M := 2000000000000) (N := 2000000) i3.1 i3.2 j1.1 j1.2
   have e2 := mul_in (p := p * v - q * u) (q := b - d) (M := 2000000000000) (N := 2000000) j3.1 j3.2 i1.1 i1.2
   omega
 have bW : -8000000000000 ≤ ((b - d) * (u - p) - (q - v) * (c - a)) ∧ ((b - d) * (u - p) - (q - v) * (c - a)) ≤ 8000000000000 := by
   have e1 := mul_in (p := b - d) (q := u - p) (M := 2000000) (N := 2000000) i1.1 i1.2 j2.1 j2.2
   have e2 := mul_in (p := q - v) (q := c - a) (M := 2000000) (N := 2000000) j1.1 j1.2 i2.1 i2.2
   omega
 have SM := smallPoint_det ((c - a) * (p * v - q * u) - (u - p) * (a * d - b * c)) ((a * d - b * c) * (q - v) - (p * v - q * u) * (b - d)) ((b - d) * (u - p) - (q - v) * (c - a)) bX bY bW
 have AL := meetAlong_det a b c d p q u v ha hb hc hd hp hq hu hv
 have P1 := fun g w h => parts2_det a b c d p q u v ha hb hc hd hp hq hu hv g w h
 have P2 := fun g w h => parts2_det p q u v a b c d hp hq hu hv ha hb hc hd g w h
 have HV : Hid (meetW a b c d p q u v = if ((b - d) * (u - p) - (q - v) * (c - a)) = 0 then alongV a b c d p q u v else if pt2 (turnZ a b c d p q) (turnZ a b c d u v) && pt2 (turnZ p q u v a b) (turnZ p q u v c d) then .tuple #[.int .i64 1, .agg #[.int .u64 (ww3 (shareZ ((c - a) * (p * v - q * u) - (u - p) * (a * d - b * c)) (Int.gcd (Int.gcd ((c - a) * (p * v - q * u) - (u - p) * (a * d - b * c)) ((a * d - b * c) * (q - v) - (p * v - q * u) * (b - d)) : Int) ((b - d) * (u - p) - (q - v) * (c - a)) : Int) (decide (((b - d) * (u - p) - (q - v) * (c - a)) < 0)))), .int .u64 (ww2 (shareZ ((c - a) * (p * v - q * u) - (u - p) * (a * d - b * c)) (Int.gcd (Int.gcd ((c - a) * (p * v - q * u) - (u - p) * (a * d - b * c)) ((a * d - b * c) * (q - v) - (p * v - q * u) * (b - d)) : Int) ((b - d) * (u - p) - (q - v) * (c - a)) : Int) (decide (((b - d) * (u - p) - (q - v) * (c - a)) < 0)))), .int .u64 (ww1 (shareZ ((c - a) * (p * v - q * u) - (u - p) * (a * d - b * c)) (Int.gcd (Int.gcd ((c - a) * (p * v - q * u) - (u - p) * (a * d - b * c)) ((a * d - b * c) * (q - v) - (p * v - q * u) * (b - d)) : Int) ((b - d) * (u - p) - (q - v) * (c - a)) : Int) (decide (((b - d) * (u - p) - (q - v) * (c - a)) < 0)))), .int .u64 (ww0 (shareZ ((c - a) * (p * v - q * u) - (u - p) * (a * d - b * c)) (Int.gcd (Int.gcd ((c - a) * (p * v - q * u) - (u - p) * (a * d - b * c)) ((a * d - b * c) * (q - v) - (p * v - q * u) * (b - d)) : Int) ((b - d) * (u - p) - (q - v) * (c - a)) : Int) (decide (((b - d) * (u - p) - (q - v) * (c - a)) < 0)))), .int .u64 (ww3 (shareZ ((a * d - b * c) * (q - v) - (p * v - q * u) * (b - d)) (Int.gcd (Int.gcd ((c - a) * (p * v - q * u) - (u - p) * (a * d - b * c)) ((a * d - b * c) * (q - v) - (p * v - q * u) * (b - d)) : Int) ((b - d) * (u - p) - (q - v) * (c - a)) : Int) (decide (((b - d) * (u - p) - (q - v) * (c - a)) < 0)))), .int .u64 (ww2 (shareZ ((a * d - b * c) * (q - v) - (p * v - q * u) * (b - d)) (Int.gcd (Int.gcd ((c - a) * (p * v - q * u) - (u - p) * (a * d - b * c)) ((a * d - b * c) * (q - v) - (p * v - q * u) * (b - d)) : Int) ((b - d) * (u - p) - (q - v) * (c - a)) : Int) (decide (((b - d) * (u - p) - (q - v) * (c - a)) < 0)))), .int .u64 (ww1 (shareZ ((a * d - b * c) * (q - v) - (p * v - q * u) * (b - d)) (Int.gcd (Int.gcd ((c - a) * (p * v - q * u) - (u - p) * (a * d - b * c)) ((a * d - b * c) * (q - v) - (p * v - q * u) * (b - d)) : Int) ((b - d) * (u - p) - (q - v) * (c - a)) : Int) (decide (((b - d) * (u - p) - (q - v) * (c - a)) < 0)))), .int .u64 (ww0 (shareZ ((a * d - b * c) * (q - v) - (p * v - q * u) * (b - d)) (Int.gcd (Int.gcd ((c - a) * (p * v - q * u) - (u - p) * (a * d - b * c)) ((a * d - b * c) * (q - v) - (p * v - q * u) * (b - d)) : Int) ((b - d) * (u - p) - (q - v) * (c - a)) : Int) (decide (((b - d) * (u - p) - (q - v) * (c - a)) < 0)))), .int .u64 (ww3 (shareZ ((b - d) * (u - p) - (q - v) * (c - a)) (Int.gcd (Int.gcd ((c - a) * (p * v - q * u) - (u - p) * (a * d - b * c)) ((a * d - b * c) * (q - v) - (p * v - q * u) * (b - d)) : Int) ((b - d) * (u - p) - (q - v) * (c - a)) : Int) (decide (((b - d) * (u - p) - (q - v) * (c - a)) < 0)))), .int .u64 (ww2 (shareZ ((b - d) * (u - p) - (q - v) * (c - a)) (Int.gcd (Int.gcd ((c - a) * (p * v - q * u) - (u - p) * (a * d - b * c)) ((a * d - b * c) * (q - v) - (p * v - q * u) * (b - d)) : Int) ((b - d) * (u - p) - (q - v) * (c - a)) : Int) (decide (((b - d) * (u - p) - (q - v) * (c - a)) < 0)))), .int .u64 (ww1 (shareZ ((b - d) * (u - p) - (q - v) * (c - a)) (Int.gcd (Int.gcd ((c - a) * (p * v - q * u) - (u - p) * (a * d - b * c)) ((a * d - b * c) * (q - v) - (p * v - q * u) * (b - d)) : Int) ((b - d) * (u - p) - (q - v) * (c - a)) : Int) (decide (((b - d) * (u - p) - (q - v) * (c - a)) < 0)))), .int .u64 (ww0 (shareZ ((b - d) * (u - p) - (q - v) * (c - a)) (Int.gcd (Int.gcd ((c - a) * (p * v - q * u) - (u - p) * (a * d - b * c)) ((a * d - b * c) * (q - v) - (p * v - q * u) * (b - d)) : Int) ((b - d) * (u - p) - (q - v) * (c - a)) : Int) (decide (((b - d) * (u - p) - (q - v) * (c - a)) < 0))))], .agg #[.int .u64 0, .int .u64 0, .int .u64 0, .int .u64 0, .int .u64 0, .int .u64 0, .int .u64 0, .int .u64 0, .int .u64 0, .int .u64 0, .int .u64 0, .int .u64 0]] else .tuple #[.int .i64 0, .agg #[.int .u64 0, .int .u64 0, .int .u64 0, .int .u64 0, .int .u64 0, .int .u64 0, .int .u64 0, .int .u64 0, .int .u64 0, .int .u64 0, .int .u64 0, .int .u64 0], .agg #[.int .u64 0, .int .u64 0, .int .u64 0, .int .u64 0, .int .u64 0, .int .u64 0, .int .u64 0, .int .u64 0, .int .u64 0, .int .u64 0, .int .u64 0, .int .u64 0]]) := rfl
 generalize pt2 (turnZ a b c d p q) (turnZ a b c d u v) = f1 at *
 generalize pt2 (turnZ p q u v a b) (turnZ p q u v c d) = f2 at *
 clear x1 x2 x3 x4 y1 y2 y3 y4 i1 i2 i3 j1 j2 j3 bX bY
 generalize ((c - a) * (p * v - q * u) - (u - p) * (a * d - b * c)) = cx at *
 generalize ((a * d - b * c) * (q - v) - (p * v - q * u) * (b - d)) = cy at *
 generalize ((b - d) * (u - p) - (q - v) * (c - a)) = cw at *
 generalize b - d = l1 at *
 generalize c - a = l2 at *
 generalize a * d - b * c = l3 at *
 generalize q - v = m1 at *
 generalize u - p = m2 at *
 generalize p * v - q * u = m3 at *
 clear ha hb hc hd hp hq hu hv
 have tok1 : True := trivial
 have T0 : ArgsB w ((((w.alloc (.cells #[.int .i64 a, .int .i64 b, .int .i64 c, .int .i64 d] 53)).alloc (.cells #[.int .i64 p, .int .i64 q, .int .i64 u, .int .i64 v] 53)).alloc (.cells #[.int .u64 0, .int .u64 0, .int .u64 0, .int .u64 0, .int .u64 0, .int .u64 0, .int .u64 0, .int .u64 0, .int .u64 0, .int .u64 0, .int .u64 0, .int .u64 0] 44)).alloc (.cells #[.int .u64 0, .int .u64 0, .int .u64 0, .int .u64 0, .int .u64 0, .int .u64 0, .int .u64 0, .int .u64 0, .int .u64 0, .int .u64 0, .int .u64 0, .int .u64 0] 44)) [[.int .i64 a, .int .i64 b, .int .i64 c, .int .i64 d], [.int .i64 p, .int .i64 q, .int .i64 u, .int .i64 v], [.int .u64 0, .int .u64 0, .int .u64 0, .int .u64 0, .int .u64 0, .int .u64 0, .int .u64 0, .int .u64 0, .int .u64 0, .int .u64 0, .int .u64 0, .int .u64 0], [.int .u64 0, .int .u64 0, .int .u64 0, .int .u64 0, .int .u64 0, .int .u64 0, .int .u64 0, .int .u64 0, .int .u64 0, .int .u64 0, .int .u64 0, .int .u64 0]] := ar4 _ _ _ _ _ _ _ _ w
 go_enter Tryz.func86, Tryz.ntmps86
 go_upto_region 1 with fail
 generalize ((((w.alloc (.cells #[.int .i64 a, .int .i64 b, .int .i64 c, .int .i64 d] 53)).alloc (.cells #[.int .i64 p, .int .i64 q, .int .i64 u, .int .i64 v] 53)).alloc (.cells #[.int .u64 0, .int .u64 0, .int .u64 0, .int .u64 0, .int .u64 0, .int .u64 0, .int .u64 0, .int .u64 0, .int .u64 0, .int .u64 0, .int .u64 0, .int .u64 0] 44)).alloc (.cells #[.int .u64 0, .int .u64 0, .int .u64 0, .int .u64 0, .int .u64 0, .int .u64 0, .int .u64 0, .int .u64 0, .int .u64 0, .int .u64 0, .int .u64 0, .int .u64 0] 44)) = W at *
 go_region_held3 (fun w' => w'.cell? ⟨w.heap.size, 0, none⟩ = some (.int .i64 a) ∧ w'.cell? ⟨w.heap.size, 1, none⟩ = some (.int .i64 b) ∧ w'.cell? ⟨w.heap.size, 2, none⟩ = some (.int .i64 c) ∧ w'.cell? ⟨w.heap.size, 3, none⟩ = some (.int .i64 d) ∧ w'.cell? ⟨w.heap.size + 1, 0, none⟩ = some (.int .i64 p) ∧ w'.cell? ⟨w.heap.size + 1, 1, none⟩ = some (.int .i64 q) ∧ w'.cell? ⟨w.heap.size + 1, 2, none⟩ = some (.int .i64 u) ∧ w'.cell? ⟨w.heap.size + 1, 3, none⟩ = some (.int .i64 v)) ((refine ml_cells ?_ <;> repeat (first | (with_reducible exact T0) | (with_reducible refine ArgsB.drew ?_))))
   (first
     | (go_at_call 135; have _t := tok1; refine (LS _).mono ?_; rintro e w1 ⟨rfl, hB⟩; (first | (have T1 := T0.step hB) | (have T1 := T0.drew.step hB)); clear T0; have T0 := T1; clear T1 hB tok1 _t)
     | (go_at_call 135; refine (LT _).mono ?_; rintro e w2 ⟨rfl, hB⟩; (first | (have T1 := T0.step hB) | (have T1 := T0.drew.step hB)); clear T0; have T0 := T1; clear T1 hB)
     | (go_at_call 136; refine (CR _).mono ?_; rintro e w3 ⟨rfl, hB⟩; (first | (have T1 := T0.step hB) | (have T1 := T0.drew.step hB)); clear T0; have T0 := T1; clear T1 hB))
 all_goals clear LS LT CR
 all_goals (
   have BS : Blk _ w.heap.size _ := T0.b 0 rfl; have BT : Blk _ (w.heap.size + 1) _ := T0.b 1 rfl; have BP : Blk _ (w.heap.size + 1 + 1) _ := T0.b 2 rfl; have BQ : Blk _ (w.heap.size + 1 + 1 + 1) _ := T0.b 3 rfl; have HB := T0.below
   clear T0
   by_cases h0 : cw = 0
   · have HO1 : Hid (meetW a b c d p q u v = alongV a b c d p q u v) := by show _ = _; rw [HV.out, if_pos h0]
     obtain ⟨k, r0, r1, r2, r3, r4, r5, r6, r7, r8, r9, r10, r11, s0, s1, s2, s3, s4, s5, s6, s7, s8, s9, s10, s11, hk⟩ := along_ex a b c d p q u v
     have HO : Hid (meetW a b c d p q u v = .tuple #[.int .i64 k, .agg #[.int .u64 r0, .int .u64 r1, .int .u64 r2, .int .u64 r3, .int .u64 r4, .int .u64 r5, .int .u64 r6, .int .u64 r7, .int .u64 r8, .int .u64 r9, .int .u64 r10, .int .u64 r11], .agg #[.int .u64 s0, .int .u64 s1, .int .u64 s2, .int .u64 s3, .int .u64 s4, .int .u64 s5, .int .u64 s6, .int .u64 s7, .int .u64 s8, .int .u64 s9, .int .u64 s10, .int .u64 s11]]) := HO1.out.trans hk
     rw [hk] at AL
     subst h0
     clear HV hk HO1 SM P1 P2 bW
     obtain ⟨sc0, sc1, sc2, sc3⟩ := BS.cs4; have sl := BS.lt; obtain ⟨tc0, tc1, tc2, tc3⟩ := BT.cs4; have tl := BT.lt
     go_wp2_with fail
     refine (AL _).mono ?_
     rintro e w4 ⟨rfl, hB⟩
     replace BS := BS.step hB
     replace BT := BT.step hB
     replace BP := BP.step hB
     replace BQ := BQ.step hB
     replace HB := HB.trans (hB.mono HB.size)
     clear hB sc0 sc1 sc2 sc3 sl tc0 tc1 tc2 tc3 tl
     clear BS BT AL
     obtain ⟨xc0, xf0, xc1, xf1, xc2, xf2, xc3, xf3, xc4, xf4, xc5, xf5, xc6, xf6, xc7, xf7, xc8, xf8, xc9, xf9, xc10, xf10, xc11, xf11⟩ := BP.cf12; have xl := BP.lt; obtain ⟨yc0, yf0, yc1, yf1, yc2, yf2, yc3, yf3, yc4, yf4, yc5, yf5, yc6, yf6, yc7, yf7, yc8, yf8, yc9, yf9, yc10, yf10, yc11, yf11⟩ := BQ.cf12; have yl := BQ.lt
     go_wp2
     refine put24_ret BP BQ (by omega) (by omega) (by omega) HB fun WF F0 F1 HBF => ?_
     clear BP BQ HB xc0 xf0 xc1 xf1 xc2 xf2 xc3 xf3 xc4 xf4 xc5 xf5 xc6 xf6 xc7 xf7 xc8 xf8 xc9 xf9 xc10 xf10 xc11 xf11 xl yc0 yf0 yc1 yf1 yc2 yf2 yc3 yf3 yc4 yf4 yc5 yf5 yc6 yf6 yc7 yf7 yc8 yf8 yc9 yf9 yc10 yf10 yc11 yf11 yl
     have m0 := F0.c 0 rfl; have n0 := F1.c 0 rfl; have m1 := F0.c 1 rfl; have n1 := F1.c 1 rfl; have m2 := F0.c 2 rfl; have n2 := F1.c 2 rfl; have m3 := F0.c 3 rfl; have n3 := F1.c 3 rfl; have m4 := F0.c 4 rfl; have n4 := F1.c 4 rfl; have m5 := F0.c 5 rfl; have n5 := F1.c 5 rfl; have m6 := F0.c 6 rfl; have n6 := F1.c 6 rfl; have m7 := F0.c 7 rfl; have n7 := F1.c 7 rfl; have m8 := F0.c 8 rfl; have n8 := F1.c 8 rfl; have m9 := F0.c 9 rfl; have n9 := F1.c 9 rfl; have m10 := F0.c 10 rfl; have n10 := F1.c 10 rfl; have m11 := F0.c 11 rfl; have n11 := F1.c 11 rfl
     refine bodyPost_ret (v := .tuple #[.int .i64 k, .agg #[.int .u64 r0, .int .u64 r1, .int .u64 r2, .int .u64 r3, .int .u64 r4, .int .u64 r5, .int .u64 r6, .int .u64 r7, .int .u64 r8, .int .u64 r9, .int .u64 r10, .int .u64 r11], .agg #[.int .u64 s0, .int .u64 s1, .int .u64 s2, .int .u64 s3, .int .u64 s4, .int .u64 s5, .int .u64 s6, .int .u64 s7, .int .u64 s8, .int .u64 s9, .int .u64 s10, .int .u64 s11]]) (by simp [results, Tryz.results86, go_sem, m0, n0, m1, n1, m2, n2, m3, n3, m4, n4, m5, n5, m6, n6, m7, n7, m8, n8, m9, n9, m10, n10, m11, n11]) rfl ?_
     exact ⟨by rw [HO.out], by first | exact HBF | exact HBF.drew⟩
   · have SM := SM h0
     obtain ⟨sc0, sc1, sc2, sc3⟩ := BS.cs4; have sl := BS.lt; obtain ⟨tc0, tc1, tc2, tc3⟩ := BT.cs4; have tl := BT.lt
     go_wp2_with fail
     refine (P1 _ _ (Blk.new _ _ _ rfl)).mono ?_
     rintro e w4 ⟨rfl, hB⟩
     replace BS := (BS.alloc _).step hB; replace BT := (BT.alloc _).step hB; replace BP := (BP.alloc _).step hB; replace BQ := (BQ.alloc _).step hB; replace HB := (HB.alloc HB.size _).trans (hB.mono (HB.alloc HB.size _).size)
     clear hB sc0 sc1 sc2 sc3 sl tc0 tc1 tc2 tc3 tl P1
     cases f1
     · have HO : Hid (meetW a b c d p q u v = .tuple #[.int .i64 0, .agg #[.int .u64 0, .int .u64 0, .int .u64 0, .int .u64 0, .int .u64 0, .int .u64 0, .int .u64 0, .int .u64 0, .int .u64 0, .int .u64 0, .int .u64 0, .int .u64 0], .agg #[.int .u64 0, .int .u64 0, .int .u64 0, .int .u64 0, .int .u64 0, .int .u64 0, .int .u64 0, .int .u64 0, .int .u64 0, .int .u64 0, .int .u64 0, .int .u64 0]]) := by show _ = _; rw [HV.out, if_neg h0]; rfl
       clear BS BT AL SM P2 HV bW
       obtain ⟨xc0, xf0, xc1, xf1, xc2, xf2, xc3, xf3, xc4, xf4, xc5, xf5, xc6, xf6, xc7, xf7, xc8, xf8, xc9, xf9, xc10, xf10, xc11, xf11⟩ := BP.cf12; have xl := BP.lt; obtain ⟨yc0, yf0, yc1, yf1, yc2, yf2, yc3, yf3, yc4, yf4, yc5, yf5, yc6, yf6, yc7, yf7, yc8, yf8, yc9, yf9, yc10, yf10, yc11, yf11⟩ := BQ.cf12; have yl := BQ.lt
       go_wp2
       refine put24_ret BP BQ (by omega) (by omega) (by omega) HB fun WF F0 F1 HBF => ?_
       clear BP BQ HB xc0 xf0 xc1 xf1 xc2 xf2 xc3 xf3 xc4 xf4 xc5 xf5 xc6 xf6 xc7 xf7 xc8 xf8 xc9 xf9 xc10 xf10 xc11 xf11 xl yc0 yf0 yc1 yf1 yc2 yf2 yc3 yf3 yc4 yf4 yc5 yf5 yc6 yf6 yc7 yf7 yc8 yf8 yc9 yf9 yc10 yf10 yc11 yf11 yl
       have m0 := F0.c 0 rfl; have n0 := F1.c 0 rfl; have m1 := F0.c 1 rfl; have n1 := F1.c 1 rfl; have m2 := F0.c 2 rfl; have n2 := F1.c 2 rfl; have m3 := F0.c 3 rfl; have n3 := F1.c 3 rfl; have m4 := F0.c 4 rfl; have n4 := F1.c 4 rfl; have m5 := F0.c 5 rfl; have n5 := F1.c 5 rfl; have m6 := F0.c 6 rfl; have n6 := F1.c 6 rfl; have m7 := F0.c 7 rfl; have n7 := F1.c 7 rfl; have m8 := F0.c 8 rfl; have n8 := F1.c 8 rfl; have m9 := F0.c 9 rfl; have n9 := F1.c 9 rfl; have m10 := F0.c 10 rfl; have n10 := F1.c 10 rfl; have m11 := F0.c 11 rfl; have n11 := F1.c 11 rfl
       refine bodyPost_ret (v := .tuple #[.int .i64 0, .agg #[.int .u64 0, .int .u64 0, .int .u64 0, .int .u64 0, .int .u64 0, .int .u64 0, .int .u64 0, .int .u64 0, .int .u64 0, .int .u64 0, .int .u64 0, .int .u64 0], .agg #[.int .u64 0, .int .u64 0, .int .u64 0, .int .u64 0, .int .u64 0, .int .u64 0, .int .u64 0, .int .u64 0, .int .u64 0, .int .u64 0, .int .u64 0, .int .u64 0]]) (by simp [results, Tryz.results86, go_sem, m0, n0, m1, n1, m2, n2, m3, n3, m4, n4, m5, n5, m6, n6, m7, n7, m8, n8, m9, n9, m10, n10, m11, n11]) rfl ?_
       exact ⟨by rw [HO.out], by first | exact HBF | exact HBF.drew⟩
     · obtain ⟨sc0, sc1, sc2, sc3⟩ := BS.cs4; have sl := BS.lt; obtain ⟨tc0, tc1, tc2, tc3⟩ := BT.cs4; have tl := BT.lt
       go_wp2_with fail
       refine (P2 _ _ (Blk.new _ _ _ rfl)).mono ?_
       rintro e w5 ⟨rfl, hB⟩
       replace BP := (BP.alloc _).step hB; replace BQ := (BQ.alloc _).step hB; replace HB := (HB.alloc HB.size _).trans (hB.mono (HB.alloc HB.size _).size)
       clear hB sc0 sc1 sc2 sc3 sl tc0 tc1 tc2 tc3 tl P2 BS BT
       cases f2
       · have HO : Hid (meetW a b c d p q u v = .tuple #[.int .i64 0, .agg #[.int .u64 0, .int .u64 0, .int .u64 0, .int .u64 0, .int .u64 0, .int .u64 0, .int .u64 0, .int .u64 0, .int .u64 0, .int .u64 0, .int .u64 0, .int .u64 0], .agg #[.int .u64 0, .int .u64 0, .int .u64 0, .int .u64 0, .int .u64 0, .int .u64 0, .int .u64 0, .int .u64 0, .int .u64 0, .int .u64 0, .int .u64 0, .int .u64 0]]) := by show _ = _; rw [HV.out, if_neg h0]; rfl
         clear AL SM HV bW
         obtain ⟨xc0, xf0, xc1, xf1, xc2, xf2, xc3, xf3, xc4, xf4, xc5, xf5, xc6, xf6, xc7, xf7, xc8, xf8, xc9, xf9, xc10, xf10, xc11, xf11⟩ := BP.cf12; have xl := BP.lt; obtain ⟨yc0, yf0, yc1, yf1, yc2, yf2, yc3, yf3, yc4, yf4, yc5, yf5, yc6, yf6, yc7, yf7, yc8, yf8, yc9, yf9, yc10, yf10, yc11, yf11⟩ := BQ.cf12; have yl := BQ.lt
         go_wp2
         refine put24_ret BP BQ (by omega) (by omega) (by omega) HB fun WF F0 F1 HBF => ?_
         clear BP BQ HB xc0 xf0 xc1 xf1 xc2 xf2 xc3 xf3 xc4 xf4 xc5 xf5 xc6 xf6 xc7 xf7 xc8 xf8 xc9 xf9 xc10 xf10 xc11 xf11 xl yc0 yf0 yc1 yf1 yc2 yf2 yc3 yf3 yc4 yf4 yc5 yf5 yc6 yf6 yc7 yf7 yc8 yf8 yc9 yf9 yc10 yf10 yc11 yf11 yl
         have m0 := F0.c 0 rfl; have n0 := F1.c 0 rfl; have m1 := F0.c 1 rfl; have n1 := F1.c 1 rfl; have m2 := F0.c 2 rfl; have n2 := F1.c 2 rfl; have m3 := F0.c 3 rfl; have n3 := F1.c 3 rfl; have m4 := F0.c 4 rfl; have n4 := F1.c 4 rfl; have m5 := F0.c 5 rfl; have n5 := F1.c 5 rfl; have m6 := F0.c 6 rfl; have n6 := F1.c 6 rfl; have m7 := F0.c 7 rfl; have n7 := F1.c 7 rfl; have m8 := F0.c 8 rfl; have n8 := F1.c 8 rfl; have m9 := F0.c 9 rfl; have n9 := F1.c 9 rfl; have m10 := F0.c 10 rfl; have n10 := F1.c 10 rfl; have m11 := F0.c 11 rfl; have n11 := F1.c 11 rfl
         refine bodyPost_ret (v := .tuple #[.int .i64 0, .agg #[.int .u64 0, .int .u64 0, .int .u64 0, .int .u64 0, .int .u64 0, .int .u64 0, .int .u64 0, .int .u64 0, .int .u64 0, .int .u64 0, .int .u64 0, .int .u64 0], .agg #[.int .u64 0, .int .u64 0, .int .u64 0, .int .u64 0, .int .u64 0, .int .u64 0, .int .u64 0, .int .u64 0, .int .u64 0, .int .u64 0, .int .u64 0, .int .u64 0]]) (by simp [results, Tryz.results86, go_sem, m0, n0, m1, n1, m2, n2, m3, n3, m4, n4, m5, n5, m6, n6, m7, n7, m8, n8, m9, n9, m10, n10, m11, n11]) rfl ?_
         exact ⟨by rw [HO.out], by first | exact HBF | exact HBF.drew⟩
       · have HO : Hid (meetW a b c d p q u v = .tuple #[.int .i64 1, .agg #[.int .u64 (ww3 (shareZ cx (Int.gcd (Int.gcd cx cy : Int) cw : Int) (decide (cw < 0)))), .int .u64 (ww2 (shareZ cx (Int.gcd (Int.gcd cx cy : Int) cw : Int) (decide (cw < 0)))), .int .u64 (ww1 (shareZ cx (Int.gcd (Int.gcd cx cy : Int) cw : Int) (decide (cw < 0)))), .int .u64 (ww0 (shareZ cx (Int.gcd (Int.gcd cx cy : Int) cw : Int) (decide (cw < 0)))), .int .u64 (ww3 (shareZ cy (Int.gcd (Int.gcd cx cy : Int) cw : Int) (decide (cw < 0)))), .int .u64 (ww2 (shareZ cy (Int.gcd (Int.gcd cx cy : Int) cw : Int) (decide (cw < 0)))), .int .u64 (ww1 (shareZ cy (Int.gcd (Int.gcd cx cy : Int) cw : Int) (decide (cw < 0)))), .int .u64 (ww0 (shareZ cy (Int.gcd (Int.gcd cx cy : Int) cw : Int) (decide (cw < 0)))), .int .u64 (ww3 (shareZ cw (Int.gcd (Int.gcd cx cy : Int) cw : Int) (decide (cw < 0)))), .int .u64 (ww2 (shareZ cw (Int.gcd (Int.gcd cx cy : Int) cw : Int) (decide (cw < 0)))), .int .u64 (ww1 (shareZ cw (Int.gcd (Int.gcd cx cy : Int) cw : Int) (decide (cw < 0)))), .int .u64 (ww0 (shareZ cw (Int.gcd (Int.gcd cx cy : Int) cw : Int) (decide (cw < 0))))], .agg #[.int .u64 0, .int .u64 0, .int .u64 0, .int .u64 0, .int .u64 0, .int .u64 0, .int .u64 0, .int .u64 0, .int .u64 0, .int .u64 0, .int .u64 0, .int .u64 0]]) := by show _ = _; rw [HV.out, if_neg h0]; rfl
         generalize (shareZ cx (Int.gcd (Int.gcd cx cy : Int) cw : Int) (decide (cw < 0))) = sx at *
         generalize (shareZ cy (Int.gcd (Int.gcd cx cy : Int) cw : Int) (decide (cw < 0))) = sy at *
         generalize (shareZ cw (Int.gcd (Int.gcd cx cy : Int) cw : Int) (decide (cw < 0))) = sz at *
         clear AL HV bW
         go_wp2_with fail
         refine (SM _).mono ?_
         rintro e w6 ⟨rfl, hB⟩
         replace BP := BP.step hB; replace BQ := BQ.step hB; replace HB := HB.trans (hB.mono HB.size)
         clear hB SM
         obtain ⟨xc0, xf0, xc1, xf1, xc2, xf2, xc3, xf3, xc4, xf4, xc5, xf5, xc6, xf6, xc7, xf7, xc8, xf8, xc9, xf9, xc10, xf10, xc11, xf11⟩ := BP.cf12; have xl := BP.lt; obtain ⟨yc0, yf0, yc1, yf1, yc2, yf2, yc3, yf3, yc4, yf4, yc5, yf5, yc6, yf6, yc7, yf7, yc8, yf8, yc9, yf9, yc10, yf10, yc11, yf11⟩ := BQ.cf12; have yl := BQ.lt
         go_wp2
         refine put24_ret BP BQ (by omega) (by omega) (by omega) HB fun WF F0 F1 HBF => ?_
         clear BP BQ HB xc0 xf0 xc1 xf1 xc2 xf2 xc3 xf3 xc4 xf4 xc5 xf5 xc6 xf6 xc7 xf7 xc8 xf8 xc9 xf9 xc10 xf10 xc11 xf11 xl yc0 yf0 yc1 yf1 yc2 yf2 yc3 yf3 yc4 yf4 yc5 yf5 yc6 yf6 yc7 yf7 yc8 yf8 yc9 yf9 yc10 yf10 yc11 yf11 yl
         have m0 := F0.c 0 rfl; have n0 := F1.c 0 rfl; have m1 := F0.c 1 rfl; have n1 := F1.c 1 rfl; have m2 := F0.c 2 rfl; have n2 := F1.c 2 rfl; have m3 := F0.c 3 rfl; have n3 := F1.c 3 rfl; have m4 := F0.c 4 rfl; have n4 := F1.c 4 rfl; have m5 := F0.c 5 rfl; have n5 := F1.c 5 rfl; have m6 := F0.c 6 rfl; have n6 := F1.c 6 rfl; have m7 := F0.c 7 rfl; have n7 := F1.c 7 rfl; have m8 := F0.c 8 rfl; have n8 := F1.c 8 rfl; have m9 := F0.c 9 rfl; have n9 := F1.c 9 rfl; have m10 := F0.c 10 rfl; have n10 := F1.c 10 rfl; have m11 := F0.c 11 rfl; have n11 := F1.c 11 rfl
         refine bodyPost_ret (v := .tuple #[.int .i64 1, .agg #[.int .u64 (ww3 sx), .int .u64 (ww2 sx), .int .u64 (ww1 sx), .int .u64 (ww0 sx), .int .u64 (ww3 sy), .int .u64 (ww2 sy), .int .u64 (ww1 sy), .int .u64 (ww0 sy), .int .u64 (ww3 sz), .int .u64 (ww2 sz), .int .u64 (ww1 sz), .int .u64 (ww0 sz)], .agg #[.int .u64 0, .int .u64 0, .int .u64 0, .int .u64 0, .int .u64 0, .int .u64 0, .int .u64 0, .int .u64 0, .int .u64 0, .int .u64 0, .int .u64 0, .int .u64 0]]) (by simp [results, Tryz.results86, go_sem, m0, n0, m1, n1, m2, n2, m3, n3, m4, n4, m5, n5, m6, n6, m7, n7, m8, n8, m9, n9, m10, n10, m11, n11]) rfl ?_
         exact ⟨by rw [HO.out], by first | exact HBF | exact HBF.drew⟩)
theorem in1_seg {a b c d : Int} (h : segOk a b c d = true) : In1 a ∧ In1 b ∧ In1 c ∧ In1 d := by
 unfold segOk spotOk at h
 simp only [Bool.and_eq_true, decide_eq_true_eq] at h
 obtain ⟨⟨h1, h2⟩, -⟩ := h
 exact ⟨⟨h1.1, h1.2.1⟩, ⟨h1.2.2.1, h1.2.2.2⟩, ⟨h2.1, h2.2.1⟩, ⟨h2.2.2.1, h2.2.2.2⟩⟩
theorem Blk.set6 {W : World} {vs : List Value} {v0 v1 v2 v3 v4 v5 : Value} {g g' : Nat} (G : Blk W g' vs) (hg : g' ≠ g) : Blk ((((((W.setCell ⟨g, 0, none⟩ (v0)).setCell ⟨g, 1, none⟩ (v1)).setCell ⟨g, 2, none⟩ (v2)).setCell ⟨g, 3, none⟩ (v3)).setCell ⟨g, 4, none⟩ (v4)).setCell ⟨g, 5, none⟩ (v5)) g' vs := (((((G.setO (by exact hg) _).setO (by exact hg) _).setO (by exact hg) _).setO (by exact hg) _).setO (by exact hg) _).setO (by exact hg) _
def L3A (w : World) (v : Value) (x y z : Int) : Prop :=
 ∃ (s1 : Bool) (o1 : Option Addr) (n1 c1 : Nat) (d1 : List Int) (s2 : Bool) (o2 : Option Addr) (n2 c2 : Nat) (d2 : List Int) (s3 : Bool) (o3 : Option Addr) (n3 c3 : Nat) (d3 : List Int), v = .agg #[.bool s1, .slice o1 n1 c1, .bool s2, .slice o2 n2 c2, .bool s3, .slice o3 n3 c3] ∧ IsNum w s1 o1 n1 c1 d1 x 8 ∧ IsNum w s2 o2 n2 c2 d2 y 8 ∧ IsNum w s3 o3 n3 c3 d3 z 8
def MtP (a b c d p q u v : Int) (w : World) (e : Ending) (w' : World) : Prop := Below w.heap.size w w' ∧
 ((meetW a b c d p q u v = .tuple #[.int .i64 0, .agg #[.int .u64 0, .int .u64 0, .int .u64 0, .int .u64 0, .int .u64 0, .int .u64 0, .int .u64 0, .int .u64 0, .int .u64 0, .int .u64 0, .int .u64 0, .int .u64 0], .agg #[.int .u64 0, .int .u64 0, .int .u64 0, .int .u64 0, .int .u64 0, .int .u64 0, .int .u64 0, .int .u64 0, .int .u64 0, .int .u64 0, .int .u64 0, .int .u64 0]] ∧ e = .returned (.tuple #[.int .i64 0, .agg #[.bool false, .slice none 0 0, .bool false, .slice none 0 0, .bool false, .slice none 0 0], .agg #[.bool false, .slice none 0 0, .bool false, .slice none 0 0, .bool false, .slice none 0 0]])) ∨
  (∃ (x y z : Int) (r : Value), meetW a b c d p q u v = .tuple #[.int .i64 1, .agg #[.int .u64 (ww3 x), .int .u64 (ww2 x), .int .u64 (ww1 x), .int .u64 (ww0 x), .int .u64 (ww3 y), .int .u64 (ww2 y), .int .u64 (ww1 y), .int .u64 (ww0 y), .int .u64 (ww3 z), .int .u64 (ww2 z), .int .u64 (ww1 z), .int .u64 (ww0 z)], .agg #[.int .u64 0, .int .u64 0, .int .u64 0, .int .u64 0, .int .u64 0, .int .u64 0, .int .u64 0, .int .u64 0, .int .u64 0, .int .u64 0, .int .u64 0, .int .u64 0]] ∧ small x = true ∧ small y = true ∧ small z = true ∧ e = .returned (.tuple #[.int .i64 1, r, .agg #[.bool false, .slice none 0 0, .bool false, .slice none 0 0, .bool false, .slice none 0 0]]) ∧ L3A w' r x y z) ∨
  (∃ (x y x' y' : Int) (r r' : Value), meetW a b c d p q u v = .tuple #[.int .i64 2, .agg #[.int .u64 (ww3 x), .int .u64 (ww2 x), .int .u64 (ww1 x), .int .u64 (ww0 x), .int .u64 (ww3 y), .int .u64 (ww2 y), .int .u64 (ww1 y), .int .u64 (ww0 y), .int .u64 (ww3 1), .int .u64 (ww2 1), .int .u64 (ww1 1), .int .u64 (ww0 1)], .agg #[.int .u64 (ww3 x'), .int .u64 (ww2 x'), .int .u64 (ww1 x'), .int .u64 (ww0 x'), .int .u64 (ww3 y'), .int .u64 (ww2 y'), .int .u64 (ww1 y'), .int .u64 (ww0 y'), .int .u64 (ww3 1), .int .u64 (ww2 1), .int .u64 (ww1 1), .int .u64 (ww0 1)]] ∧ small x = true ∧ small y = true ∧ small x' = true ∧ small y' = true ∧ e = .returned (.tuple #[.int .i64 2, r, r']) ∧ L3A w' r x y 1 ∧ L3A w' r' x' y' 1))
theorem turn_diff (a b c d p q u v : Int) : turnZ a b c d u v - turnZ a b c d p q = ((b - d) * (u - p) - (q - v) * (c - a)) := by unfold turnZ; grind
theorem sgZ_z {t : Int} : sgZ t = 0 ↔ t = 0 := by unfold sgZ; repeat' split <;> omega
theorem sgZ_mul (t t' : Int) : (0 < sgZ t * sgZ t' ↔ (0 < t ∧ 0 < t') ∨ (t < 0 ∧ t' < 0)) ∧ -1 ≤ sgZ t * sgZ t' ∧ sgZ t * sgZ t' ≤ 1 := by
 have e : ∀ t, (t < 0 ∧ sgZ t = -1) ∨ (t = 0 ∧ sgZ t = 0) ∨ (0 < t ∧ sgZ t = 1) := by
   intro t
   unfold sgZ
   repeat' split
   all_goals omega
 rcases e t with ⟨h, e1⟩ | ⟨h, e1⟩ | ⟨h, e1⟩ <;> rcases e t' with ⟨h', e2⟩ | ⟨h', e2⟩ | ⟨h', e2⟩ <;> rw [e1, e2] <;> omega
theorem pt2_no {t t' : Int} (h : 0 < sgZ t * sgZ t') : pt2 t t' = false := by
 have := (sgZ_mul t t').1.1 h
 unfold pt2
 rcases this with ⟨h1, h2⟩ | ⟨h1, h2⟩
 · rw [decide_eq_false (show ¬ t ≤ 0 by omega), decide_eq_false (show ¬ t' ≤ 0 by omega)]; simp
 · rw [decide_eq_false (show ¬ 0 ≤ t by omega), decide_eq_false (show ¬ 0 ≤ t' by omega)]; simp
theorem pt2_yes {t t' : Int} (h : ¬ 0 < sgZ t * sgZ t') : pt2 t t' = true := by
 have h0 : ¬ ((0 < t ∧ 0 < t') ∨ (t < 0 ∧ t' < 0)) := fun k => h ((sgZ_mul t t').1.2 k)
 unfold pt2
 simp only [Bool.and_eq_true, Bool.or_eq_true, decide_eq_true_eq]
 omega
theorem meet_w0 {a b c d p q u v : Int} (h : ¬ (turnZ a b c d p q = 0 ∧ turnZ a b c d u v = 0)) (g : ¬ 0 < sgZ (turnZ a b c d p q) * sgZ (turnZ a b c d u v)) : ((b - d) * (u - p) - (q - v) * (c - a)) ≠ 0 := by
 intro h0
 have hd := turn_diff a b c d p q u v
 rw [h0] at hd
 have hh : turnZ a b c d u v = turnZ a b c d p q := by omega
 rw [hh] at h g
 apply g
 apply (sgZ_mul _ _).1.2
 omega
theorem meet_none1 {a b c d p q u v : Int} (h : ¬ (turnZ a b c d p q = 0 ∧ turnZ a b c d u v = 0)) (g : 0 < sgZ (turnZ a b c d p q) * sgZ (turnZ a b c d u v)) : meetW a b c d p q u v = .tuple #[.int .i64 0, .agg #[.int .u64 0, .int .u64 0, .int .u64 0, .int .u64 0, .int .u64 0, .int .u64 0, .int .u64 0, .int .u64 0, .int .u64 0, .int .u64 0, .int .u64 0, .int .u64 0], .agg #[.int .u64 0, .int .u64 0, .int .u64 0, .int .u64 0, .int .u64 0, .int .u64 0, .int .u64 0, .int .u64 0, .int .u64 0, .int .u64 0, .int .u64 0, .int .u64 0]] := by
 unfold meetW
 by_cases h0 : ((b - d) * (u - p) - (q - v) * (c - a)) = 0
 · rw [if_pos h0]
   have hd := turn_diff a b c d p q u v
   rw [h0] at hd
   unfold alongV
   rw [if_pos (Or.inl (by omega))]
 · rw [if_neg h0, pt2_no g]
   rfl
theorem meet_none2 {a b c d p q u v : Int} (h : ¬ (turnZ a b c d p q = 0 ∧ turnZ a b c d u v = 0)) (g : ¬ 0 < sgZ (turnZ a b c d p q) * sgZ (turnZ a b c d u v)) (g' : 0 < sgZ (turnZ p q u v a b) * sgZ (turnZ p q u v c d)) : meetW a b c d p q u v = .tuple #[.int .i64 0, .agg #[.int .u64 0, .int .u64 0, .int .u64 0, .int .u64 0, .int .u64 0, .int .u64 0, .int .u64 0, .int .u64 0, .int .u64 0, .int .u64 0, .int .u64 0, .int .u64 0], .agg #[.int .u64 0, .int .u64 0, .int .u64 0, .int .u64 0, .int .u64 0, .int .u64 0, .int .u64 0, .int .u64 0, .int .u64 0, .int .u64 0, .int .u64 0, .int .u64 0]] := by
 unfold meetW
 rw [if_neg (meet_w0 h g), pt2_no g', Bool.and_false]
 rfl
theorem meet_pt {a b c d p q u v : Int} (h : ¬ (turnZ a b c d p q = 0 ∧ turnZ a b c d u v = 0)) (g : ¬ 0 < sgZ (turnZ a b c d p q) * sgZ (turnZ a b c d u v)) (g' : ¬ 0 < sgZ (turnZ p q u v a b) * sgZ (turnZ p q u v c d)) : meetW a b c d p q u v = .tuple #[.int .i64 1, .agg #[.int .u64 (ww3 (shareZ ((c - a) * (p * v - q * u) - (u - p) * (a * d - b * c)) (Int.gcd (Int.gcd ((c - a) * (p * v - q * u) - (u - p) * (a * d - b * c)) ((a * d - b * c) * (q - v) - (p * v - q * u) * (b - d)) : Int) ((b - d) * (u - p) - (q - v) * (c - a)) : Int) (decide (((b - d) * (u - p) - (q - v) * (c - a)) < 0)))), .int .u64 (ww2 (shareZ ((c - a) * (p * v - q * u) - (u - p) * (a * d - b * c)) (Int.gcd (Int.gcd ((c - a) * (p * v - q * u) - (u - p) * (a * d - b * c)) ((a * d - b * c) * (q - v) - (p * v - q * u) * (b - d)) : Int) ((b - d) * (u - p) - (q - v) * (c - a)) : Int) (decide (((b - d) * (u - p) - (q - v) * (c - a)) < 0)))), .int .u64 (ww1 (shareZ ((c - a) * (p * v - q * u) - (u - p) * (a * d - b * c)) (Int.gcd (Int.gcd ((c - a) * (p * v - q * u) - (u - p) * (a * d - b * c)) ((a * d - b * c) * (q - v) - (p * v - q * u) * (b - d)) : Int) ((b - d) * (u - p) - (q - v) * (c - a)) : Int) (decide (((b - d) * (u - p) - (q - v) * (c - a)) < 0)))), .int .u64 (ww0 (shareZ ((c - a) * (p * v - q * u) - (u - p) * (a * d - b * c)) (Int.gcd (Int.gcd ((c - a) * (p * v - q * u) - (u - p) * (a * d - b * c)) ((a * d - b * c) * (q - v) - (p * v - q * u) * (b - d)) : Int) ((b - d) * (u - p) - (q - v) * (c - a)) : Int) (decide (((b - d) * (u - p) - (q - v) * (c - a)) < 0)))), .int .u64 (ww3 (shareZ ((a * d - b * c) * (q - v) - (p * v - q * u) * (b - d)) (Int.gcd (Int.gcd ((c - a) * (p * v - q * u) - (u - p) * (a * d - b * c)) ((a * d - b * c) * (q - v) - (p * v - q * u) * (b - d)) : Int) ((b - d) * (u - p) - (q - v) * (c - a)) : Int) (decide (((b - d) * (u - p) - (q - v) * (c - a)) < 0)))), .int .u64 (ww2 (shareZ ((a * d - b * c) * (q - v) - (p * v - q * u) * (b - d)) (Int.gcd (Int.gcd ((c - a) * (p * v - q * u) - (u - p) * (a * d - b * c)) ((a * d - b * c) * (q - v) - (p * v - q * u) * (b - d)) : Int) ((b - d) * (u - p) - (q - v) * (c - a)) : Int) (decide (((b - d) * (u - p) - (q - v) * (c - a)) < 0)))), .int .u64 (ww1 (shareZ ((a * d - b * c) * (q - v) - (p * v - q * u) * (b - d)) (Int.gcd (Int.gcd ((c - a) * (p * v - q * u) - (u - p) * (a * d - b * c)) ((a * d - b * c) * (q - v) - (p * v - q * u) * (b - d)) : Int) ((b - d) * (u - p) - (q - v) * (c - a)) : Int) (decide (((b - d) * (u - p) - (q - v) * (c - a)) < 0)))), .int .u64 (ww0 (shareZ ((a * d - b * c) * (q - v) - (p * v - q * u) * (b - d)) (Int.gcd (Int.gcd ((c - a) * (p * v - q * u) - (u - p) * (a * d - b * c)) ((a * d - b * c) * (q - v) - (p * v - q * u) * (b - d)) : Int) ((b - d) * (u - p) - (q - v) * (c - a)) : Int) (decide (((b - d) * (u - p) - (q - v) * (c - a)) < 0)))), .int .u64 (ww3 (shareZ ((b - d) * (u - p) - (q - v) * (c - a)) (Int.gcd (Int.gcd ((c - a) * (p * v - q * u) - (u - p) * (a * d - b * c)) ((a * d - b * c) * (q - v) - (p * v - q * u) * (b - d)) : Int) ((b - d) * (u - p) - (q - v) * (c - a)) : Int) (decide (((b - d) * (u - p) - (q - v) * (c - a)) < 0)))), .int .u64 (ww2 (shareZ ((b - d) * (u - p) - (q - v) * (c - a)) (Int.gcd (Int.gcd ((c - a) * (p * v - q * u) - (u - p) * (a * d - b * c)) ((a * d - b * c) * (q - v) - (p * v - q * u) * (b - d)) : Int) ((b - d) * (u - p) - (q - v) * (c - a)) : Int) (decide (((b - d) * (u - p) - (q - v) * (c - a)) < 0)))), .int .u64 (ww1 (shareZ ((b - d) * (u - p) - (q - v) * (c - a)) (Int.gcd (Int.gcd ((c - a) * (p * v - q * u) - (u - p) * (a * d - b * c)) ((a * d - b * c) * (q - v) - (p * v - q * u) * (b - d)) : Int) ((b - d) * (u - p) - (q - v) * (c - a)) : Int) (decide (((b - d) * (u - p) - (q - v) * (c - a)) < 0)))), .int .u64 (ww0 (shareZ ((b - d) * (u - p) - (q - v) * (c - a)) (Int.gcd (Int.gcd ((c - a) * (p * v - q * u) - (u - p) * (a * d - b * c)) ((a * d - b * c) * (q - v) - (p * v - q * u) * (b - d)) : Int) ((b - d) * (u - p) - (q - v) * (c - a)) : Int) (decide (((b - d) * (u - p) - (q - v) * (c - a)) < 0))))], .agg #[.int .u64 0, .int .u64 0, .int .u64 0, .int .u64 0, .int .u64 0, .int .u64 0, .int .u64 0, .int .u64 0, .int .u64 0, .int .u64 0, .int .u64 0, .int .u64 0]] := by
 unfold meetW
 rw [if_neg (meet_w0 h g), pt2_yes g, pt2_yes g', if_pos (by rfl)]
theorem meet_along {a b c d p q u v : Int} (h : turnZ a b c d p q = 0) (h' : turnZ a b c d u v = 0) : meetW a b c d p q u v = alongV a b c d p q u v := by
 have hd := turn_diff a b c d p q u v
 unfold meetW
 rw [if_pos (by omega)]
theorem bnd_x (a b c d p q u v : Int) (ha : In1 a) (hb : In1 b) (hc : In1 c) (hd : In1 d) (hp : In1 p) (hq : In1 q) (hu : In1 u) (hv : In1 v) : -9000000000000000000 ≤ ((c - a) * (p * v - q * u) - (u - p) * (a * d - b * c)) ∧ ((c - a) * (p * v - q * u) - (u - p) * (a * d - b * c)) ≤ 9000000000000000000 := by
 obtain ⟨x1, x2⟩ := mul_in (p := a) (q := d) (M := 1000000) (N := 1000000) ha.1 ha.2 hd.1 hd.2
 obtain ⟨x3, x4⟩ := mul_in (p := b) (q := c) (M := 1000000) (N := 1000000) hb.1 hb.2 hc.1 hc.2
 obtain ⟨y1, y2⟩ := mul_in (p := p) (q := v) (M := 1000000) (N := 1000000) hp.1 hp.2 hv.1 hv.2
 obtain ⟨y3, y4⟩ := mul_in (p := q) (q := u) (M := 1000000) (N := 1000000) hq.1 hq.2 hu.1 hu.2
 have e1 := mul_in (p := c - a) (q := p * v - q * u) (M := 2000000) (N := 2000000000000) (by omega) (by omega) (by omega) (by omega)
 have e2 := mul_in (p := u - p) (q := a * d - b * c) (M := 2000000) (N := 2000000000000) (by omega) (by omega) (by omega) (by omega)
 omega
theorem bnd_y (a b c d p q u v : Int) (ha : In1 a) (hb : In1 b) (hc : In1 c) (hd : In1 d) (hp : In1 p) (hq : In1 q) (hu : In1 u) (hv : In1 v) : -9000000000000000000 ≤ ((a * d - b * c) * (q - v) - (p * v - q * u) * (b - d)) ∧ ((a * d - b * c) * (q - v) - (p * v - q * u) * (b - d)) ≤ 9000000000000000000 := by
 obtain ⟨x1, x2⟩ := mul_in (p := a) (q := d) (M := 1000000) (N := 1000000) ha.1 ha.2 hd.1 hd.2
 obtain ⟨x3, x4⟩ := mul_in (p := b) (q := c) (M := 1000000) (N := 1000000) hb.1 hb.2 hc.1 hc.2
 obtain ⟨y1, y2⟩ := mul_in (p := p) (q := v) (M := 1000000) (N := 1000000) hp.1 hp.2 hv.1 hv.2
 obtain ⟨y3, y4⟩ := mul_in (p := q) (q := u) (M := 1000000) (N := 1000000) hq.1 hq.2 hu.1 hu.2
 have e1 := mul_in (p := a * d - b * c) (q := q - v) (M := 2000000000000) (N := 2000000) (by omega) (by omega) (by omega) (by omega)
 have e2 := mul_in (p := p * v - q * u) (q := b - d) (M := 2000000000000) (N := 2000000) (by omega) (by omega) (by omega) (by omega)
 omega
theorem bnd_w (a b c d p q u v : Int) (ha : In1 a) (hb : In1 b) (hc : In1 c) (hd : In1 d) (hp : In1 p) (hq : In1 q) (hu : In1 u) (hv : In1 v) : -8000000000000 ≤ ((b - d) * (u - p) - (q - v) * (c - a)) ∧ ((b - d) * (u - p) - (q - v) * (c - a)) ≤ 8000000000000 := by
 obtain ⟨x1, x2⟩ := mul_in (p := a) (q := d) (M := 1000000) (N := 1000000) ha.1 ha.2 hd.1 hd.2
 obtain ⟨x3, x4⟩ := mul_in (p := b) (q := c) (M := 1000000) (N := 1000000) hb.1 hb.2 hc.1 hc.2
 obtain ⟨y1, y2⟩ := mul_in (p := p) (q := v) (M := 1000000) (N := 1000000) hp.1 hp.2 hv.1 hv.2
 obtain ⟨y3, y4⟩ := mul_in (p := q) (q := u) (M := 1000000) (N := 1000000) hq.1 hq.2 hu.1 hu.2
 have e1 := mul_in (p := b - d) (q := u - p) (M := 2000000) (N := 2000000) (by omega) (by omega) (by omega) (by omega)
 have e2 := mul_in (p := q - v) (q := c - a) (M := 2000000) (N := 2000000) (by omega) (by omega) (by omega) (by omega)
 omega
theorem m4_keep0 {a b c d p q u v : Int} {w W : World} {gd gn : Nat} {ds ns : Bool} {do1 no : Option Addr} {dn dc nn nc : Nat} (T0 : ArgsB w W [[.int .i64 a, .int .i64 b, .int .i64 c, .int .i64 d], [.int .i64 p, .int .i64 q, .int .i64 u, .int .i64 v], [.bool false, .slice none 0 0, .bool false, .slice none 0 0, .bool false, .slice none 0 0], [.bool false, .slice none 0 0, .bool false, .slice none 0 0, .bool false, .slice none 0 0]]) (Bd : Blk W gd [.bool ds, .slice do1 dn dc]) (Bn : Blk W gn [.bool ns, .slice no nn nc]) : (fun w' => w'.cell? ⟨w.heap.size, 0, none⟩ = some (.int .i64 a) ∧ w'.cell? ⟨gd, 0, none⟩ = some (.bool ds) ∧ w'.cell? ⟨gd, 1, none⟩ = some (.slice do1 dn dc) ∧ w'.cell? ⟨gn, 0, none⟩ = some (.bool ns) ∧ w'.cell? ⟨gn, 1, none⟩ = some (.slice no nn nc)) W := ⟨(T0.b 0 rfl).c 0 rfl, Bd.c 0 rfl, Bd.c 1 rfl, Bn.c 0 rfl, Bn.c 1 rfl⟩
theorem m4_keep1 {a b c d p q u v : Int} {w W : World} {gd gn : Nat} {ds ns : Bool} {do1 no : Option Addr} {dn dc nn nc : Nat} (T0 : ArgsB w W [[.int .i64 a, .int .i64 b, .int .i64 c, .int .i64 d], [.int .i64 p, .int .i64 q, .int .i64 u, .int .i64 v], [.bool false, .slice none 0 0, .bool false, .slice none 0 0, .bool false, .slice none 0 0], [.bool false, .slice none 0 0, .bool false, .slice none 0 0, .bool false, .slice none 0 0]]) (Bd : Blk W gd [.bool ds, .slice do1 dn dc]) (Bn : Blk W gn [.bool ns, .slice no nn nc]) : (fun w' => w'.cell? ⟨w.heap.size, 1, none⟩ = some (.int .i64 b) ∧ w'.cell? ⟨gd, 0, none⟩ = some (.bool ds) ∧ w'.cell? ⟨gd, 1, none⟩ = some (.slice do1 dn dc) ∧ w'.cell? ⟨gn, 0, none⟩ = some (.bool ns) ∧ w'.cell? ⟨gn, 1, none⟩ = some (.slice no nn nc)) W := ⟨(T0.b 0 rfl).c 1 rfl, Bd.c 0 rfl, Bd.c 1 rfl, Bn.c 0 rfl, Bn.c 1 rfl⟩
def kndZ (a b c d p q u v : Int) : Int :=
 if ((b - d) * (u - p) - (q - v) * (c - a)) = 0 then
   (if turnZ a b c d p q ≠ 0 ∨ lessI (if lessI u v c d = true then u else c) (if lessI u v c d = true then v else d) (if lessI a b p q = true then p else a) (if lessI a b p q = true then q else b) = true then 0
    else if (if lessI a b p q = true then p else a) = (if lessI u v c d = true then u else c) ∧ (if lessI a b p q = true then q else b) = (if lessI u v c d = true then v else d) then 1 else 2)
 else if (pt2 (turnZ a b c d p q) (turnZ a b c d u v) && pt2 (turnZ p q u v a b) (turnZ p q u v c d)) = true then 1 else 0
theorem knd_in (a b c d p q u v : Int) : kndZ a b c d p q u v = 0 ∨ kndZ a b c d p q u v = 1 ∨ kndZ a b c d p q u v = 2 := by
 unfold kndZ
 repeat' split
 all_goals simp
theorem pt2_zl (t : Int) : pt2 0 t = true := by simp [pt2]
theorem pt2_zr (t : Int) : pt2 t 0 = true := by simp [pt2]
theorem turn_at1 (a b c d : Int) : turnZ a b c d a b = 0 := by unfold turnZ; simp
theorem turn_at2 (a b c d : Int) : turnZ a b c d c d = 0 := by unfold turnZ; grind
theorem less_iff (x y u v : Int) : lessI x y u v = true ↔ x < u ∨ x = u ∧ y < v := by unfold lessI; exact decide_eq_true_iff
theorem knd_share {a b c d p q u v : Int} (h1 : lessI a b c d = true) (h2 : lessI p q u v = true) (hs : (a = p ∧ b = q) ∨ (a = u ∧ b = v) ∨ (c = p ∧ d = q) ∨ (c = u ∧ d = v)) : kndZ a b c d p q u v ≠ 0 := by
 have hd := turn_diff a b c d p q u v
 have t1 := turn_at1 a b c d
 have t2 := turn_at2 a b c d
 have s1 := turn_at1 p q u v
 have s2 := turn_at2 p q u v
 have P : (pt2 (turnZ a b c d p q) (turnZ a b c d u v) && pt2 (turnZ p q u v a b) (turnZ p q u v c d)) = true := by
   rcases hs with ⟨rfl, rfl⟩ | ⟨rfl, rfl⟩ | ⟨rfl, rfl⟩ | ⟨rfl, rfl⟩ <;> simp only [t1, t2, s1, s2, pt2_zl, pt2_zr, Bool.and_self]
 unfold kndZ
 rw [P]
 by_cases h0 : ((b - d) * (u - p) - (q - v) * (c - a)) = 0
 · rw [if_pos h0]
   have T : turnZ a b c d p q = 0 := by
     rcases hs with ⟨rfl, rfl⟩ | ⟨rfl, rfl⟩ | ⟨rfl, rfl⟩ | ⟨rfl, rfl⟩ <;> omega
   clear P hd t1 t2 s1 s2 h0
   rw [less_iff] at h1 h2
   have N : ¬ lessI (if lessI u v c d = true then u else c) (if lessI u v c d = true then v else d) (if lessI a b p q = true then p else a) (if lessI a b p q = true then q else b) = true := by
     simp only [less_iff]
     split <;> split <;> omega
   rw [if_neg (fun h => h.elim (fun k => k T) N)]
   by_cases hq : (if lessI a b p q = true then p else a) = (if lessI u v c d = true then u else c) ∧ (if lessI a b p q = true then q else b) = (if lessI u v c d = true then v else d)
   · rw [if_pos hq]; decide
   · rw [if_neg hq]; decide
 · rw [if_neg h0, if_pos rfl]
   decide
def kdA (n : Nat) (p : Ps) (i k : Nat) : Int := kndZ (sdA n p i).1 (sdA n p i).2.1 (sdA n p i).2.2.1 (sdA n p i).2.2.2 (sdA n p k).1 (sdA n p k).2.1 (sdA n p k).2.2.1 (sdA n p k).2.2.2
def nxB (n i k : Nat) : Bool := decide (k + 1 = i) || (decide (k = 0) && decide (i + 1 = n))
def bdB (n : Nat) (p : Ps) (i k : Nat) : Bool := decide ((if nxB n i k = true then 1 else 0) < kdA n p i k)
theorem one_ne {n : Nat} {p : Ps} (h : OneN n p) {i k : Nat} (hi : i < n) (hk : k < n) (hne : i ≠ k) : p i ≠ p k := by
 rcases Nat.lt_or_ge k i with h' | h'
 · exact h i hi k h'
 · exact fun e => h k hk i (by omega) e.symm
theorem sd_less {n : Nat} {p : Ps} (h : OneN n p) (hn : 3 ≤ n) {i : Nat} (hi : i < n) : lessI (sdA n p i).1 (sdA n p i).2.1 (sdA n p i).2.2.1 (sdA n p i).2.2.2 = true := by
 have hm : (i + 1) % n < n := Nat.mod_lt _ (by omega)
 have hne : (i + 1) % n ≠ i := by
   rcases Nat.lt_or_ge (i + 1) n with h' | h'
   · rw [Nat.mod_eq_of_lt h']; omega
   · obtain rfl : n = i + 1 := by omega
     rw [Nat.mod_self]; omega
 have hp := one_ne h hm hi hne
 unfold sdA
 by_cases hl : lessI (p ((i + 1) % n)).1 (p ((i + 1) % n)).2 (p i).1 (p i).2 = true
 · rw [if_pos hl]; exact hl
 · rw [if_neg hl]
   rw [less_iff] at hl ⊢
   generalize p ((i + 1) % n) = A at *
   generalize p i = B at *
   obtain ⟨x, y⟩ := A
   obtain ⟨u, v⟩ := B
   simp only at hl ⊢
   have : ¬ (x = u ∧ y = v) := fun ⟨e1, e2⟩ => hp (by rw [e1, e2])
   omega
theorem sd_ends (n : Nat) (p : Ps) (i : Nat) : ((sdA n p i).1 = (p i).1 ∧ (sdA n p i).2.1 = (p i).2 ∧ (sdA n p i).2.2.1 = (p ((i + 1) % n)).1 ∧ (sdA n p i).2.2.2 = (p ((i + 1) % n)).2) ∨ ((sdA n p i).1 = (p ((i + 1) % n)).1 ∧ (sdA n p i).2.1 = (p ((i + 1) % n)).2 ∧ (sdA n p i).2.2.1 = (p i).1 ∧ (sdA n p i).2.2.2 = (p i).2) := by
 unfold sdA
 split
 · exact .inr ⟨rfl, rfl, rfl, rfl⟩
 · exact .inl ⟨rfl, rfl, rfl, rfl⟩
theorem kd_next {n : Nat} {p : Ps} (h : OneN n p) (hn : 3 ≤ n) {i k : Nat} (hi : i < n) (hk : k < i) (hx : nxB n i k = true) : kdA n p i k ≠ 0 := by
 unfold kdA
 refine knd_share (sd_less h hn hi) (sd_less h hn (by omega)) ?_
 have E1 := sd_ends n p i
 have E2 := sd_ends n p k
 have hc : ((k + 1) % n = i) ∨ ((i + 1) % n = k) := by
   simp only [nxB, Bool.or_eq_true, Bool.and_eq_true, decide_eq_true_iff] at hx
   rcases hx with hx | ⟨hx, hx'⟩
   · exact .inl (by rw [hx]; exact Nat.mod_eq_of_lt hi)
   · exact .inr (by rw [hx', hx, Nat.mod_self])
 rcases hc with hc | hc
 · rw [hc] at E2
   rcases E1 with ⟨e1, e2, e3, e4⟩ | ⟨e1, e2, e3, e4⟩ <;> rcases E2 with ⟨f1, f2, f3, f4⟩ | ⟨f1, f2, f3, f4⟩ <;> omega
 · rw [hc] at E1
   rcases E1 with ⟨e1, e2, e3, e4⟩ | ⟨e1, e2, e3, e4⟩ <;> rcases E2 with ⟨f1, f2, f3, f4⟩ | ⟨f1, f2, f3, f4⟩ <;> omega
theorem bd_same {n : Nat} {p : Ps} (h : OneN n p) (hn : 3 ≤ n) {i k : Nat} (hi : i < n) (hk : k < i) : bdB n p i k = ((nxB n i k && !(decide (kdA n p i k = 1))) || (!(nxB n i k) && !(decide (kdA n p i k = 0)))) := by
 have hin : kdA n p i k = 0 ∨ kdA n p i k = 1 ∨ kdA n p i k = 2 := knd_in _ _ _ _ _ _ _ _
 have hx := kd_next h hn hi hk
 unfold bdB
 generalize kdA n p i k = z at *
 cases hb : nxB n i k
 · rcases hin with rfl | rfl | rfl <;> simp
 · have := hx hb
   rcases hin with rfl | rfl | rfl
   · exact absurd rfl this
   · simp
   · simp
def rgF (n : Nat) (p : Ps) : Int := if n < 3 then 1 else if 12 < n then 2 else if ¬ (∀ i, i < n → spotOk (p i).1 (p i).2 = true) then 3 else if ¬ OneN n p then 4 else if ¬ (∀ i, i < n → ∀ k, k < i → bdB n p i k = false) then 5 else 0
theorem meetW_kind (a b c d p q u v : Int) : ∃ r s, meetW a b c d p q u v = .tuple #[.int .i64 (kndZ a b c d p q u v), r, s] := by
 unfold meetW kndZ
 by_cases h0 : ((b - d) * (u - p) - (q - v) * (c - a)) = 0
 · rw [if_pos h0, if_pos h0]
   unfold alongV
   by_cases h1 : turnZ a b c d p q ≠ 0 ∨ lessI (if lessI u v c d = true then u else c) (if lessI u v c d = true then v else d) (if lessI a b p q = true then p else a) (if lessI a b p q = true then q else b) = true
   · rw [if_pos h1, if_pos h1]
     exact ⟨_, _, rfl⟩
   · rw [if_neg h1, if_neg h1]
     by_cases h2 : (if lessI a b p q = true then p else a) = (if lessI u v c d = true then u else c) ∧ (if lessI a b p q = true then q else b) = (if lessI u v c d = true then v else d)
     · rw [if_pos h2, if_pos h2]
       exact ⟨_, _, rfl⟩
     · rw [if_neg h2, if_neg h2]
       exact ⟨_, _, rfl⟩
 · rw [if_neg h0, if_neg h0]
   by_cases h3 : (pt2 (turnZ a b c d p q) (turnZ a b c d u v) && pt2 (turnZ p q u v a b) (turnZ p q u v c d)) = true
   · rw [if_pos h3, if_pos h3]
     exact ⟨_, _, rfl⟩
   · rw [if_neg h3, if_neg h3]
     exact ⟨_, _, rfl⟩
theorem mtP_kind {a b c d p q u v : Int} {w w' : World} {e : Ending} (h : MtP a b c d p q u v w e w') : (∃ (f1 f2 f3 g1 g2 g3 : Bool) (k1 k2 k3 l1 l2 l3 : Option Addr) (m1 m2 m3 x1 x2 x3 y1 y2 y3 z1 z2 z3 : Nat), e = .returned (.tuple #[.int .i64 (kndZ a b c d p q u v), .agg #[.bool f1, .slice k1 m1 x1, .bool f2, .slice k2 m2 x2, .bool f3, .slice k3 m3 x3], .agg #[.bool g1, .slice l1 y1 z1, .bool g2, .slice l2 y2 z2, .bool g3, .slice l3 y3 z3]])) ∧ Below w.heap.size w w' := by
 obtain ⟨hB, h⟩ := h
 obtain ⟨r, s, hk⟩ := meetW_kind a b c d p q u v
 refine ⟨?_, hB⟩
 rcases h with ⟨hm, he⟩ | ⟨x, y, z, r', hm, -, -, -, he, L⟩ | ⟨x, y, x', y', r', s', hm, -, -, -, -, he, L, L'⟩
 · rw [hk] at hm
   simp at hm
   rw [hm.1]
   exact ⟨_, _, _, _, _, _, _, _, _, _, _, _, _, _, _, _, _, _, _, _, _, _, _, _, he⟩
 · rw [hk] at hm
   simp at hm
   rw [hm.1]
   obtain ⟨s1, o1, n1, c1, d1, s2, o2, n2, c2, d2, s3, o3, n3, c3, d3, rfl, -, -, -⟩ := L
   exact ⟨_, _, _, _, _, _, _, _, _, _, _, _, _, _, _, _, _, _, _, _, _, _, _, _, he⟩
 · rw [hk] at hm
   simp at hm
   rw [hm.1]
   obtain ⟨s1, o1, n1, c1, d1, s2, o2, n2, c2, d2, s3, o3, n3, c3, d3, rfl, -, -, -⟩ := L
   obtain ⟨t1, q1, m1, b1, f1, t2, q2, m2, b2, f2, t3, q3, m3, b3, f3, rfl, -, -, -⟩ := L'
   exact ⟨_, _, _, _, _, _, _, _, _, _, _, _, _, _, _, _, _, _, _, _, _, _, _, _, he⟩
theorem meetW_12 (a b c d p q u v : Int) : ∃ (r0 r1 r2 r3 r4 r5 r6 r7 r8 r9 r10 r11 s0 s1 s2 s3 s4 s5 s6 s7 s8 s9 s10 s11 : Int), meetW a b c d p q u v = .tuple #[.int .i64 (kndZ a b c d p q u v), .agg #[.int .u64 r0, .int .u64 r1, .int .u64 r2, .int .u64 r3, .int .u64 r4, .int .u64 r5, .int .u64 r6, .int .u64 r7, .int .u64 r8, .int .u64 r9, .int .u64 r10, .int .u64 r11], .agg #[.int .u64 s0, .int .u64 s1, .int .u64 s2, .int .u64 s3, .int .u64 s4, .int .u64 s5, .int .u64 s6, .int .u64 s7, .int .u64 s8, .int .u64 s9, .int .u64 s10, .int .u64 s11]] := by
 obtain ⟨r, s, hk⟩ := meetW_kind a b c d p q u v
 obtain ⟨k, r0, r1, r2, r3, r4, r5, r6, r7, r8, r9, r10, r11, s0, s1, s2, s3, s4, s5, s6, s7, s8, s9, s10, s11, hx⟩ := meetW_ex a b c d p q u v
 have he := hx
 rw [hk] at he
 simp at he
 exact ⟨r0, r1, r2, r3, r4, r5, r6, r7, r8, r9, r10, r11, s0, s1, s2, s3, s4, s5, s6, s7, s8, s9, s10, s11, by rw [hx, he.1]⟩
open Go.RowKit Go.Shelf
attribute [local go_sem] Oper.semAt_some
structure KpB (m b : Nat) (W W' : World) : Prop where
 size : W.heap.size ≤ W'.heap.size
 low : ∀ k, k < m → W'.heap[k]? = W.heap[k]?
 box : W'.heap[b]? = W.heap[b]?
theorem KpB.trans {m b : Nat} {X Y Z : World} (h : KpB m b X Y) (k : KpB m b Y Z) : KpB m b X Z := ⟨Nat.le_trans h.size k.size, fun i hi => (k.low i hi).trans (h.low i hi), k.box.trans h.box⟩
theorem KpB.of {m b : Nat} {W W' : World} (h : Below W.heap.size W W') (hm : m ≤ W.heap.size) (hb : b < W.heap.size) : KpB m b W W' := ⟨h.size, fun k hk => h.block k (by omega), h.block b hb⟩
theorem KpB.put {m b : Nat} {w : World} (hm : m ≤ w.heap.size) (hb : b < w.heap.size) (W : World) (l : Nat) (o o' : Obj) (hl : w.heap.size ≤ l) (_h : W.heap[l]? = some o) (_c : o.isCells = false) (_k : o.isWalk = false) : KpB m b W (W.putObj l o') := ⟨by simp, fun k hk => World.putObj_heap_other (by omega), World.putObj_heap_other (by omega)⟩
def SpB (m : Nat) (w : World) (ao : Option Addr) (n : Nat) (p : Ps) : Prop :=
 ∀ i, i < n → ∃ A off, ao = some ⟨A, off, none⟩ ∧ A < m ∧ w.cell? ⟨A, off + i * 2, none⟩ = some (.int .i64 (p i).1) ∧ w.cell? ⟨A, off + i * 2 + 1, none⟩ = some (.int .i64 (p i).2)
theorem SpIn.low {w : World} {ao : Option Addr} {n : Nat} {p : Ps} (h : SpIn w ao n p) : SpB w.heap.size w ao n p := h
theorem SpB.high {m : Nat} {w : World} {ao : Option Addr} {n : Nat} {p : Ps} (h : SpB m w ao n p) (hm : m ≤ w.heap.size) : SpIn w ao n p := fun i hi => by
 obtain ⟨A, off, e, hA, h0, h1⟩ := h i hi
 exact ⟨A, off, e, by omega, h0, h1⟩
theorem SpB.keep {m : Nat} {w w' : World} {ao : Option Addr} {n : Nat} {p : Ps} (h : SpB m w ao n p) (hk : ∀ k, k < m → w'.heap[k]? = w.heap[k]?) : SpB m w' ao n p := fun i hi => by
 obtain ⟨A, off, e, hA, h0, h1⟩ := h i hi
 exact ⟨A, off, e, hA, (World.cell?_of_block (a := ⟨A, off + i * 2, none⟩) (hk A hA)).trans h0, (World.cell?_of_block (a := ⟨A, off + i * 2 + 1, none⟩) (hk A hA)).trans h1⟩
def upTo (n c : Nat) : List (Fin n) := (List.finRange n).take c
theorem upTo_succ {n c : Nat} (h : c < n) : upTo n (c + 1) = upTo n c ++ [⟨c, h⟩] := by
 have hl : c < (List.finRange n).length := by simpa using h
 unfold upTo
 rw [List.take_succ_eq_append_getElem hl]
 simp
theorem upTo_all (n : Nat) : upTo n n = List.finRange n := by
 unfold upTo
 exact List.take_of_length_le (by simp)
theorem upTo_len {n c : Nat} (h : c ≤ n) : (upTo n c).length = c := by
 unfold upTo
 simp
 omega
theorem below_grown {W W' : World} (h : Below W.heap.size W W') : W.grownBy W' none := ⟨h.os, h.tape, h.output, h.size, fun k hk _ => h.block k hk⟩
def enS (n : Nat) (p : Ps) (x : Fin n) : Array Value := #[.int .i64 (x.1 : Int), Sg (sdA n p x.1).1 (sdA n p x.1).2.1 (sdA n p x.1).2.2.1 (sdA n p x.1).2.2.2]
theorem side_ok {n : Nat} {p : Ps} (hok : ∀ i, i < n → spotOk (p i).1 (p i).2 = true) (hone : OneN n p) (hn : 3 ≤ n) {i : Nat} (hi : i < n) : segOk (sdA n p i).1 (sdA n p i).2.1 (sdA n p i).2.2.1 (sdA n p i).2.2.2 = true := by
 have h1 := sd_less hone hn hi
 have h2 := hok i hi
 have h3 := hok ((i + 1) % n) (Nat.mod_lt _ (by omega))
 unfold segOk
 rw [h1, Bool.and_true]
 unfold sdA
 split
 · rw [h3, h2]; rfl
 · rw [h2, h3]; rfl
theorem segOf_side {n : Nat} {p : Ps} (hok : ∀ i, i < n → spotOk (p i).1 (p i).2 = true) (hone : OneN n p) (hn : 3 ≤ n) {c : Nat} (hi : c < n) (w : World) : Calls Tryz.prog 67 #[Sp (p c).1 (p c).2, Sp (p ((c + 1) % n)).1 (p ((c + 1) % n)).2] w (VP (.tuple #[Sg (sdA n p c).1 (sdA n p c).2.1 (sdA n p c).2.2.1 (sdA n p c).2.2.2, .bool true]) w) := by
 have hk := side_ok hok hone hn hi
 have h := implSegOf_any (p c).1 (p c).2 (p ((c + 1) % n)).1 (p ((c + 1) % n)).2 (sdA n p c).1 (sdA n p c).2.1 (sdA n p c).2.2.1 (sdA n p c).2.2.2 (lessI (p ((c + 1) % n)).1 (p ((c + 1) % n)).2 (p c).1 (p c).2) true rfl hk (by unfold sdA; split <;> simp_all) (by unfold sdA; split <;> simp_all) (by unfold sdA; split <;> simp_all) (by unfold sdA; split <;> simp_all) w
 exact h
open Go.RowKit Go.Shelf
attribute [local go_sem] Oper.semAt_some
set_option maxRecDepth 100000 in
set_option maxHeartbeats 4000000 in
theorem sides1_in (m n₁ l Bn : Nat) (ao : Option Addr) (n cap : Nat) (p : Ps) (hn3 : 3 ≤ n) (hn : n ≤ 12) (hok : ∀ i, i < n → spotOk (p i).1 (p i).2 = true) (hone : OneN n p) (J Jx : List (Fin n) → World → Prop)
   (hJ : ∀ s W W', J s W → Below W.heap.size W W' → J s W')
   (hY : ∀ pre x W, J pre W → pre.length < n → YieldAt Fence.wide (m - 1) Tryz.prog l (enS n p x) W fun e W' => (e = .returned (.bool true) ∧ J (pre ++ [x]) W' ∧ KpB n₁ Bn W W') ∨ (e = .returned (.bool false) ∧ Jx (pre ++ [x]) W'))
   (W : World) (hBl : Bn < W.heap.size) (hn1 : n₁ ≤ W.heap.size) (hBn : W.cell? ⟨Bn, 0, none⟩ = some (.slice ao n cap)) (hS : SpB n₁ W ao n p) (h0 : J [] W) :
   CallsIn Fence.wide m Tryz.prog 66 #[.func (.yield l) #[] #[], .pointer (some ⟨Bn, 0, none⟩)] W fun e W' => (∃ v, e = .returned v) ∧ ((∃ ys, ys = List.finRange n ∧ J ys W') ∨ (∃ pre, pre <+: List.finRange n ∧ Jx pre W')) := by
 refine callsIn_of_wp Tryz.func66 rfl trivial ?_ rfl
 simp only [Tryz.ntmps66, List.size_toArray, List.length_cons, List.length_nil, Nat.reduceAdd, Nat.reduceSub, Array.replicate_succ, Array.replicate_zero, List.push_toArray, List.append_toArray, List.nil_append, List.cons_append]
 have hnI : (n : Int) ≤ 12 := by omega
 gi_wp2
 gi_loopw [10] (fun i wr => ∃ c : Nat, c ≤ n ∧ i = .int .i64 c ∧ J (upTo n c) wr ∧ KpB n₁ Bn W wr) (fun i _ => n - (intOf i).toNat)
 case atStart => exact ⟨0, by omega, rfl, h0, ⟨Nat.le_refl _, fun _ _ => rfl, rfl⟩⟩
 case round =>
   obtain ⟨c, hc, rfl, hj, hk⟩ := hrel
   by_cases hcn : c < n
   · have hSr := hS.keep hk.low
     have hbox := (World.cell?_of_block (a := ⟨Bn, 0, none⟩) hk.box).trans hBn
     obtain ⟨A, off, rfl, hA, q0, q1⟩ := hSr c hcn
     have hcI : (c : Int) < n := by omega
     have hsz : W.heap.size ≤ wr.heap.size := hk.size
     have hB2 : Below wr.heap.size wr (wr.alloc (.cells #[.int .i64 (p c).1, .int .i64 (p c).2] 51)) := (Below.refl _ _).alloc (Nat.le_refl _) _
     have Bs := Blk.new wr [.int .i64 (p c).1, .int .i64 (p c).2] 51 rfl
     have hjA := hJ _ _ _ hj hB2
     have hkA := hk.trans (KpB.of hB2 (by omega) (by omega))
     have hboxA := (hB2.cell (p := ⟨Bn, 0, none⟩) (show Bn < wr.heap.size by omega)).trans hbox
     have SA := fun w h => spotAfter_any (some ⟨A, off, none⟩) n cap p c hcn (by omega) w h
     have SO := segOf_side hok hone hn3 hcn
     have hSI : SpIn (wr.alloc (.cells #[.int .i64 (p c).1, .int .i64 (p c).2] 51)) (some ⟨A, off, none⟩) n p := (hSr.high (by omega)).step hB2
     gi_wp2
     have hBW : Bn < (wr.alloc (.cells #[.int .i64 (p c).1, .int .i64 (p c).2] 51)).heap.size := Nat.lt_of_lt_of_le (show Bn < wr.heap.size by omega) hB2.size
     generalize (wr.alloc (.cells #[.int .i64 (p c).1, .int .i64 (p c).2] 51)) = W2 at *
     refine wpIn_wide.2 ?_
     go_cut [5] (fun q wx => ∃ g, q = .pointer (some ⟨g, 0, none⟩) ∧ Blk wx g [.int .i64 (sdA n p c).1, .int .i64 (sdA n p c).2.1, .int .i64 (sdA n p c).2.2.1, .int .i64 (sdA n p c).2.2.2] ∧ Below W2.heap.size W2 wx)
     case first =>
       have H0 : Below W2.heap.size W2 W2 := Below.refl _ _
       have HK : ∀ V, Below W2.heap.size W2 V → (fun w' : World => w'.cell? ⟨wr.heap.size, 0, none⟩ = some (.int .i64 (p c).1) ∧ w'.cell? ⟨wr.heap.size, 1, none⟩ = some (.int .i64 (p c).2) ∧ w'.cell? ⟨Bn, 0, none⟩ = some (.slice (some ⟨A, off, none⟩) n cap)) V := fun V h => ⟨(Bs.step h).c 0 rfl, (Bs.step h).c 1 rfl, (h.cell (p := ⟨Bn, 0, none⟩) hBW).trans hboxA⟩
       clear hjA hkA hY hJ hj hk h0
       go_region_held3 (fun w' : World => w'.cell? ⟨wr.heap.size, 0, none⟩ = some (.int .i64 (p c).1) ∧ w'.cell? ⟨wr.heap.size, 1, none⟩ = some (.int .i64 (p c).2) ∧ w'.cell? ⟨Bn, 0, none⟩ = some (.slice (some ⟨A, off, none⟩) n cap)) (refine HK _ ?_ <;> repeat (first | (with_reducible exact H0) | (with_reducible refine Below.drew ?_) | (with_reducible refine Below.alloc ?_ (by first | exact H0.size | simp) _) | (with_reducible refine Below.setCell ?_ (by first | exact H0.size | exact hgl | exact Nat.le_refl _ | simp) _)))
         (first
           | (go_at_call 68; refine (SA _ (hSI.step (by with_reducible first | exact H0 | exact H0.drew | exact H0.alloc H0.size _ | exact (H0.alloc H0.size _).drew))).mono ?_; rintro e v1 ⟨rfl, hB⟩; (first | (have Hn : Below W2.heap.size W2 v1 := (by with_reducible exact H0.trans (hB.mono H0.size)); (try (have G1 := G0.step hB; clear G0; have G0 := G1; clear G1; have j0 := G0.c 0 rfl; have j1 := G0.c 1 rfl; have j2 := G0.c 2 rfl; have j3 := G0.c 3 rfl; have f0 := G0.f 0 rfl; have f1 := G0.f 1 rfl; have f2 := G0.f 2 rfl; have f3 := G0.f 3 rfl; have jl := G0.lt))) | (have Hn : Below W2.heap.size W2 v1 := (by with_reducible exact H0.drew.trans (hB.mono H0.drew.size)); (try (have G1 := G0.drew.step hB; clear G0; have G0 := G1; clear G1; have j0 := G0.c 0 rfl; have j1 := G0.c 1 rfl; have j2 := G0.c 2 rfl; have j3 := G0.c 3 rfl; have f0 := G0.f 0 rfl; have f1 := G0.f 1 rfl; have f2 := G0.f 2 rfl; have f3 := G0.f 3 rfl; have jl := G0.lt))) | (have Hn : Below W2.heap.size W2 v1 := (by with_reducible exact (H0.alloc H0.size _).trans (hB.mono (H0.alloc H0.size _).size)); have G0 := (Blk.new _ [.int .i64 0, .int .i64 0, .int .i64 0, .int .i64 0] _ rfl).step hB; have hgl : W2.heap.size ≤ _ := H0.size; have j0 := G0.c 0 rfl; have j1 := G0.c 1 rfl; have j2 := G0.c 2 rfl; have j3 := G0.c 3 rfl; have f0 := G0.f 0 rfl; have f1 := G0.f 1 rfl; have f2 := G0.f 2 rfl; have f3 := G0.f 3 rfl; have jl := G0.lt) | (have Hn : Below W2.heap.size W2 v1 := (by with_reducible exact (H0.alloc H0.size _).drew.trans (hB.mono (H0.alloc H0.size _).drew.size)); have G0 := (Blk.new _ [.int .i64 0, .int .i64 0, .int .i64 0, .int .i64 0] _ rfl).drew.step hB; have hgl : W2.heap.size ≤ _ := H0.size; have j0 := G0.c 0 rfl; have j1 := G0.c 1 rfl; have j2 := G0.c 2 rfl; have j3 := G0.c 3 rfl; have f0 := G0.f 0 rfl; have f1 := G0.f 1 rfl; have f2 := G0.f 2 rfl; have f3 := G0.f 3 rfl; have jl := G0.lt)); clear hB H0; have H0 := Hn; clear Hn)
           | (go_at_call 67; refine (SO _).mono ?_; rintro e v2 ⟨rfl, hB⟩; (first | (have Hn : Below W2.heap.size W2 v2 := (by with_reducible exact H0.trans (hB.mono H0.size)); (try (have G1 := G0.step hB; clear G0; have G0 := G1; clear G1; have j0 := G0.c 0 rfl; have j1 := G0.c 1 rfl; have j2 := G0.c 2 rfl; have j3 := G0.c 3 rfl; have f0 := G0.f 0 rfl; have f1 := G0.f 1 rfl; have f2 := G0.f 2 rfl; have f3 := G0.f 3 rfl; have jl := G0.lt))) | (have Hn : Below W2.heap.size W2 v2 := (by with_reducible exact H0.drew.trans (hB.mono H0.drew.size)); (try (have G1 := G0.drew.step hB; clear G0; have G0 := G1; clear G1; have j0 := G0.c 0 rfl; have j1 := G0.c 1 rfl; have j2 := G0.c 2 rfl; have j3 := G0.c 3 rfl; have f0 := G0.f 0 rfl; have f1 := G0.f 1 rfl; have f2 := G0.f 2 rfl; have f3 := G0.f 3 rfl; have jl := G0.lt))) | (have Hn : Below W2.heap.size W2 v2 := (by with_reducible exact (H0.alloc H0.size _).trans (hB.mono (H0.alloc H0.size _).size)); have G0 := (Blk.new _ [.int .i64 0, .int .i64 0, .int .i64 0, .int .i64 0] _ rfl).step hB; have hgl : W2.heap.size ≤ _ := H0.size; have j0 := G0.c 0 rfl; have j1 := G0.c 1 rfl; have j2 := G0.c 2 rfl; have j3 := G0.c 3 rfl; have f0 := G0.f 0 rfl; have f1 := G0.f 1 rfl; have f2 := G0.f 2 rfl; have f3 := G0.f 3 rfl; have jl := G0.lt) | (have Hn : Below W2.heap.size W2 v2 := (by with_reducible exact (H0.alloc H0.size _).drew.trans (hB.mono (H0.alloc H0.size _).drew.size)); have G0 := (Blk.new _ [.int .i64 0, .int .i64 0, .int .i64 0, .int .i64 0] _ rfl).drew.step hB; have hgl : W2.heap.size ≤ _ := H0.size; have j0 := G0.c 0 rfl; have j1 := G0.c 1 rfl; have j2 := G0.c 2 rfl; have j3 := G0.c 3 rfl; have f0 := G0.f 0 rfl; have f1 := G0.f 1 rfl; have f2 := G0.f 2 rfl; have f3 := G0.f 3 rfl; have jl := G0.lt)); clear hB H0; have H0 := Hn; clear Hn))
       all_goals go_wp2_with fail
       all_goals go_meet
       all_goals first
         | (with_reducible exact ⟨_, rfl, Blk.new _ [.int .i64 (sdA n p c).1, .int .i64 (sdA n p c).2.1, .int .i64 (sdA n p c).2.2.1, .int .i64 (sdA n p c).2.2.2] _ rfl, H0.alloc H0.size _⟩)
         | exact ⟨_, rfl, (((G0.setI 0 (by simp) _).setI 1 (by simp) _).setI 2 (by simp) _).setI 3 (by simp) _, (((H0.setCell (by first | exact hgl | exact Nat.le_refl _) _).setCell (by first | exact hgl | exact Nat.le_refl _) _).setCell (by first | exact hgl | exact Nat.le_refl _) _).setCell (by first | exact hgl | exact Nat.le_refl _) _⟩
     case rest =>
       obtain ⟨g, hq, BG, hB⟩ := hcut
       subst hq
       have hsz2 := hB.size
       have hkN := hkA.trans (KpB.of hB (Nat.le_trans hn1 hkA.size) hBW)
       obtain ⟨fn, tmps, assign, body, hy, hR⟩ := hY (upTo n c) ⟨c, hcn⟩ _ (hJ _ _ _ hjA hB) (by rw [upTo_len hc]; exact hcn)
       unfold enS at hy
       dsimp only at hy
       have g0 := BG.c 0 rfl; have g1 := BG.c 1 rfl; have g2 := BG.c 2 rfl; have g3 := BG.c 3 rfl
       gi_wp2
       refine ⟨fun h => absurd h (by simp [Fence.wide]), hR.mono ?_⟩
       rintro e W3 (⟨rfl, hJ3, hk3⟩ | ⟨rfl, hJx3⟩)
       · gi_wp2
         go_roundw
         case rel => exact ⟨c + 1, by omega, by go_num, by rw [upTo_succ hcn]; exact hJ3, hkN.trans hk3⟩
         case measure => simp [intOf]; omega
       · gi_wp2
         refine bodyPost_ret (results_none rfl _ _ _) rfl ?_
         exact ⟨⟨_, rfl⟩, .inr ⟨_, by rw [← upTo_succ hcn]; exact List.take_prefix _ _, hJx3⟩⟩
   · obtain rfl : c = n := by omega
     gi_wp2
     go_end0
     exact ⟨⟨_, rfl⟩, .inl ⟨_, upTo_all c, hj⟩⟩
open Go.RowKit Go.Shelf
attribute [local go_sem] Oper.semAt_some
theorem sides_any (ao : Option Addr) (n cap : Nat) (w : World) : Calls Tryz.prog 33 #[.agg #[.slice ao n cap]] w (fun e w' => e = .returned (.func (.func 66) #[] #[.pointer (some ⟨w.heap.size, 0, none⟩)]) ∧ w' = w.alloc (.cells #[.slice ao n cap] 57)) := by
 go_enter Tryz.func33, Tryz.ntmps33
 go_wp2
 go_ret
 exact ⟨rfl, rfl⟩
theorem sides_stops (m n₁ Bn : Nat) (ao : Option Addr) (n cap : Nat) (p : Ps) (hn3 : 3 ≤ n) (hn : n ≤ 12) (hok : ∀ i, i < n → spotOk (p i).1 (p i).2 = true) (hone : OneN n p) (w : World) (hBl : Bn < w.heap.size) (hn1 : n₁ ≤ w.heap.size) (hBn : w.cell? ⟨Bn, 0, none⟩ = some (.slice ao n cap)) (hS : SpB n₁ w ao n p) :
   SeqStopsK Fence.wide m Tryz.prog 66 #[.pointer (some ⟨Bn, 0, none⟩)] (enS n p) (KpB n₁ Bn) (fun ys => ys = List.finRange n) (fun pre => pre <+: List.finRange n) n w := fun l J Jx W hW hJ _ hY h0 =>
 sides1_in m n₁ l Bn ao n cap p hn3 hn hok hone J Jx (fun s A B hs hB => hJ s A B none hs (below_grown hB) (fun r e => by cases e)) hY W (Nat.lt_of_lt_of_le hBl hW.size) (Nat.le_trans hn1 hW.size) ((hW.cell (p := ⟨Bn, 0, none⟩) hBl).trans hBn) (hS.keep (fun k hk => hW.block k (by omega))) h0
def BoxV (W : World) (B : Nat) (t : TypeId) (vs : List Value) : Prop := W.heap[B]? = some (.cells vs.toArray t (0, 0))
theorem BoxV.lt {W : World} {B : Nat} {t : TypeId} {vs : List Value} (h : BoxV W B t vs) : B < W.heap.size := (Array.getElem?_eq_some_iff.1 h).1
theorem BoxV.blk {W : World} {B : Nat} {t : TypeId} {vs : List Value} (h : BoxV W B t vs) : Blk W B vs := ⟨h.lt, fun i v hi => ⟨by simp [World.cell?, show W.heap[B]? = _ from h, hi], by simp [World.frozen?, show W.heap[B]? = _ from h]⟩⟩
theorem BoxV.new (W : World) (t : TypeId) (vs : List Value) : BoxV (W.alloc (.cells vs.toArray t)) W.heap.size t vs := World.alloc_heap_new W _
theorem BoxV.step {W W' : World} {B : Nat} {t : TypeId} {vs : List Value} (h : BoxV W B t vs) (hB : Below W.heap.size W W') : BoxV W' B t vs := (hB.block B h.lt).trans h
theorem boxV_own {β : Type} (B : Nat) (t : TypeId) (f : β → List Value) : Own (fun s W => BoxV W B t (f s)) := fun s X Y row hs hg hrow =>
 (hg.block B hs.lt (fun e' => by obtain ⟨o, ho, hc⟩ := hrow B e'.symm; rw [show X.heap[B]? = _ from hs] at ho; cases ho; cases hc)).trans hs
theorem boxed_step {W W' : World} {B : Nat} {t : TypeId} {v : Value} (h : Boxed W B t v) (hB : Below W.heap.size W W') : Boxed W' B t v := (hB.block B h.lt).trans h
theorem below_keeps {B : Nat} {W W' : World} (h : Below W.heap.size W W') : KeepsFrom B W W' := ⟨h.size, fun k _ _ hk _ => (h.block k (Array.getElem?_eq_some_iff.1 hk).1).trans hk⟩
def bdI (n : Nat) (p : Ps) (i j : Nat) : Prop := moI n i j < kdA n p i j
theorem prefix_range {n : Nat} {pre : List (Fin n)} (h : pre <+: List.finRange n) : pre = upTo n pre.length := by
 obtain ⟨t, ht⟩ := h
 unfold upTo
 rw [← ht]
 simp
theorem mem_upTo {n c : Nat} {x : Fin n} : x ∈ upTo n c ↔ x.1 < c := by
 unfold upTo
 constructor
 · intro h
   obtain ⟨i, hi, e⟩ := List.mem_take_iff_getElem.1 h
   simp at e
   have : i < c := by simp at hi; omega
   rw [← e]
   exact this
 · intro h
   exact List.mem_take_iff_getElem.2 ⟨x.1, by simp; omega, by simp⟩
theorem bdI_iff {n : Nat} {p : Ps} {i k : Nat} (hi : i < n) (hk : k < i) : bdI n p i k ↔ bdB n p i k = true := by
 unfold bdI bdB
 rw [decide_eq_true_iff]
 have : moI n i k = if nxB n i k = true then 1 else 0 := by
   unfold moI nxB
   by_cases h : k + 1 = i ∨ (k = 0 ∧ i + 1 = n)
   · rw [if_pos (by omega), if_pos (by simp; omega)]
   · rw [if_neg (by omega), if_neg (by simp; omega)]
 rw [this]
set_option maxRecDepth 100000 in
set_option maxHeartbeats 8000000 in
theorem crosses_any (ao : Option Addr) (n cap : Nat) (p : Ps) (hn3 : 3 ≤ n) (hn : n ≤ 12) (hok : ∀ i, i < n → spotOk (p i).1 (p i).2 = true) (hone : OneN n p) (w : World) (hS : SpIn w ao n p) : Calls Tryz.prog 83 #[.agg #[.slice ao n cap]] w (VP (.bool (decide (¬ (∀ i, i < n → ∀ k, k < i → bdB n p i k = false)))) w) := by
 refine (callsIn_wide (n := 12)).1 ?_
 refine callsIn_of_wp_marks Tryz.func83 rfl trivial ?_ rfl
 simp only [Tryz.ntmps83, List.size_toArray, List.length_cons, List.length_nil, Nat.reduceAdd, Nat.reduceSub, Array.replicate_succ, Array.replicate_zero, List.push_toArray, List.append_toArray, List.nil_append, List.cons_append]
 gi_wp2_with (refine ⟨trivial, ?_⟩; gi_at_call 33; refine (callsIn_wide.2 (sides_any _ _ _ _)).mono ?_; rintro e w' ⟨rfl, rfl⟩)
 have bA := ((Boxed.new w 57 (.slice ao n cap)).alloc (.cells #[.bool false] 4)).alloc (.cells #[.slice ao n cap] 57)
 have bR := (Boxed.new (w.alloc (.cells #[.slice ao n cap] 57)) 4 (.bool false)).alloc (.cells #[.slice ao n cap] 57)
 have bN := Boxed.new ((w.alloc (.cells #[.slice ao n cap] 57)).alloc (.cells #[.bool false] 4)) 57 (.slice ao n cap)
 simp only [World.size_alloc] at bR bN
 have hB0 : Below w.heap.size w (((w.alloc (.cells #[.slice ao n cap] 57)).alloc (.cells #[.bool false] 4)).alloc (.cells #[.slice ao n cap] 57)) := (((Below.refl _ w).alloc (Nat.le_refl _) _).alloc (by simp) _).alloc (by simp; omega) _
 have hsz : (((w.alloc (.cells #[.slice ao n cap] 57)).alloc (.cells #[.bool false] 4)).alloc (.cells #[.slice ao n cap] 57)).heap.size = w.heap.size + 3 := by simp
 obtain ⟨W0, hW0⟩ : ∃ W0, (((w.alloc (.cells #[.slice ao n cap] 57)).alloc (.cells #[.bool false] 4)).alloc (.cells #[.slice ao n cap] 57)) = W0 := ⟨_, rfl⟩
 rw [hW0] at bA bR bN hB0 hsz ⊢
 clear hW0
 have hS0 : SpB w.heap.size W0 ao n p := (hS.low).keep (fun k hk => hB0.block k hk)
 refine wpIn_rangeFunc_ownH rfl (by omega) (gf := 66) (lb := #[.pointer (some ⟨w.heap.size + 1 + 1, 0, none⟩)]) rfl trivial (enters_of Tryz.func66 (by kernel_rfl) rfl)
   (sides_stops (12 - 1) w.heap.size (w.heap.size + 1 + 1) ao n cap p hn3 hn hok hone W0 (by omega) (by omega) bN.cell hS0) (fun h k => h.trans k) (KpB.put (by omega) (by omega)) (Below.refl _ _) (fun _ => rfl)
   (fun pre W => (∀ i ∈ pre, ∀ k, k < i.1 → bdB n p i.1 k = false) ∧ Below W0.heap.size W0 W)
   (fun c pre W => ((c = .ret ∧ ∃ i ∈ pre, ∃ k, k < i.1 ∧ bdB n p i.1 k = true) ∧ Boxed W (w.heap.size + 1) 4 (.bool true)) ∧ Below w.heap.size w W)
   (OwnFrom.and (ownFrom_pure _ _) (ownFrom_below (Nat.le_refl _) (Nat.le_refl _)))
   (fun c => OwnFrom.and (OwnFrom.and (ownFrom_pure _ _) (Own.from (boxed_own _ _ _) _)) (ownFrom_below (Nat.le_refl _) (by omega)))
   ⟨by simp, Below.refl _ _⟩
   (fun x a' W => ∃ Bi Bs, Boxed W Bi 3 (.int .i64 (x.1 : Int)) ∧ BoxV W Bs 53 [.int .i64 (sdA n p x.1).1, .int .i64 (sdA n p x.1).2.1, .int .i64 (sdA n p x.1).2.2.1, .int .i64 (sdA n p x.1).2.2.2] ∧ a' = { tmps := #[.agg #[.slice ao n cap], .pointer (some ⟨w.heap.size, 0, none⟩), .pointer (some ⟨w.heap.size + 1, 0, none⟩), .pointer (some ⟨Bi, 0, none⟩), .pointer (some ⟨Bs, 0, none⟩), undef, undef, undef, undef, undef, .agg #[.slice ao n cap], .func (.func 66) #[] #[.pointer (some ⟨w.heap.size + 1 + 1, 0, none⟩)], .int .i64 (x.1 : Int), Sg (sdA n p x.1).1 (sdA n p x.1).2.1 (sdA n p x.1).2.2.1 (sdA n p x.1).2.2.2, undef, undef, undef, undef, undef, undef, undef, undef, undef, undef, undef, undef, undef, undef, undef, undef, undef, undef, undef, undef], defers := [] })
   (fun x a' _ X Y row hs hg hr => by obtain ⟨Bi, Bs, e3, e4, e5⟩ := hs; exact ⟨Bi, Bs, boxed_own Bi 3 (fun (_ : Unit) => Value.int .i64 (x.1 : Int)) () X Y row e3 hg (fun r e => (hr r e).2), boxV_own Bs 53 (fun (_ : Unit) => [.int .i64 (sdA n p x.1).1, .int .i64 (sdA n p x.1).2.1, .int .i64 (sdA n p x.1).2.2.1, .int .i64 (sdA n p x.1).2.2.2]) () X Y row e4 hg (fun r e => (hr r e).2), e5⟩)
   ?assign ?body ?done ?stop
 case assign =>
   rintro l pre x W K ⟨hp, hB1⟩ hK
   unfold enS
   gi_wp2
   have hB2 : Below W.heap.size W ((W.alloc (.cells #[.int .i64 (x.1 : Int)] 3)).alloc (.cells #[.int .i64 (sdA n p x.1).1, .int .i64 (sdA n p x.1).2.1, .int .i64 (sdA n p x.1).2.2.1, .int .i64 (sdA n p x.1).2.2.2] 53)) := ((Below.refl _ W).alloc (Nat.le_refl _) _).alloc (by simp) _
   have hsW := hB1.size
   have b1 := (Boxed.new W 3 (.int .i64 (x.1 : Int))).alloc (.cells #[.int .i64 (sdA n p x.1).1, .int .i64 (sdA n p x.1).2.1, .int .i64 (sdA n p x.1).2.2.1, .int .i64 (sdA n p x.1).2.2.2] 53)
   have b2 := BoxV.new (W.alloc (.cells #[.int .i64 (x.1 : Int)] 3)) 53 [.int .i64 (sdA n p x.1).1, .int .i64 (sdA n p x.1).2.1, .int .i64 (sdA n p x.1).2.2.1, .int .i64 (sdA n p x.1).2.2.2]
   rw [World.size_alloc] at b2
   exact hK _ _ (below_keeps hB2) (KpB.of hB2 (by omega) (by omega)) ⟨hp, hB1.trans (hB2.mono hB1.size)⟩ ⟨_, _, b1, b2, rfl⟩
 case body =>
   rintro l pre x a' W hl ⟨r, hr⟩ ⟨hp, hB1⟩ ⟨Bi, Bs, bI, bS, rfl⟩ hlt
   have bA1 := boxed_step bA hB1
   have cA := bA1.cell
   have h1' : 1 ≤ 12 - 1 - 1 := by omega
   gi_wp2_with (refine ⟨trivial, ?_⟩; gi_at_call 33; refine (CallsIn.inRound l (callsIn_wide.2 (sides_any _ _ _ _))).mono ?_; rintro e w' ⟨rfl, rfl⟩)
   have hsW := hB1.size
   have bN1 := Boxed.new W 57 (.slice ao n cap)
   have hr' : (W.alloc (.cells #[.slice ao n cap] 57)).heap[l]? = some (.loop r) := (Below.heap_alloc W _ l (Array.getElem?_eq_some_iff.1 hr).1).trans hr
   have hBR : Below W.heap.size W (W.alloc (.cells #[.slice ao n cap] 57)) := (Below.refl _ W).alloc (Nat.le_refl _) _
   have hSW : SpB w.heap.size (W.alloc (.cells #[.slice ao n cap] 57)) ao n p := hS0.keep (fun k hk => (hBR.block k (by omega)).trans (hB1.block k (by omega)))
   have hbR := boxed_step bR hB1
   have hxn := x.2
   have hs1 : (W.alloc (.cells #[.slice ao n cap] 57)).heap.size = W.heap.size + 1 := by simp
   obtain ⟨W1, hW1⟩ : ∃ W1, W.alloc (.cells #[.slice ao n cap] 57) = W1 := ⟨_, rfl⟩
   rw [hW1] at bN1 hr' hBR hSW hs1 ⊢
   clear hW1
   refine wpIn_rangeFunc_ownN (l₀ := l) (r₀ := r) rfl hr' h1' (gf := 66) (lb := #[.pointer (some ⟨W.heap.size, 0, none⟩)]) rfl trivial (enters_of Tryz.func66 (by kernel_rfl) rfl)
     ((sides_stops (12 - 1 - 1 - 1) w.heap.size W.heap.size ao n cap p hn3 hn hok hone W1 (by omega) (by omega) bN1.cell hSW).inRound l) (fun h k => h.trans k) (KpB.put (by omega) (by omega)) (Below.refl _ _) (fun _ => rfl)
     (fun pre' W' => (∀ y ∈ pre', y.1 ≠ x.1 ∧ ¬ bdI n p x.1 y.1) ∧ Below W1.heap.size W1 W')
     (fun c pre' W' => ((c = .exit 2 ∧ ∃ q, pre' = q ++ [x] ∧ ∀ y ∈ q, y.1 ≠ x.1 ∧ ¬ bdI n p x.1 y.1) ∧ Below W1.heap.size W1 W') ∨ (((c = .ret ∧ ∃ q y, pre' = q ++ [y] ∧ (∀ z ∈ q, z.1 ≠ x.1) ∧ y.1 ≠ x.1 ∧ bdI n p x.1 y.1) ∧ Boxed W' (w.heap.size + 1) 4 (.bool true)) ∧ Below w.heap.size W W' ∧ KeepsFrom W0.heap.size W W'))
     (OwnFrom.and (ownFrom_pure _ _) (ownFrom_below (Nat.le_refl _) (Nat.le_refl _)))
     (fun c t X Y row hs hg hrw => by
       rcases hs with hs | hs
       · exact .inl (OwnFrom.and (ownFrom_pure _ (fun pre' : List (Fin n) => c = Code.exit 2 ∧ ∃ q, pre' = q ++ [x] ∧ ∀ y ∈ q, y.1 ≠ x.1 ∧ ¬ bdI n p x.1 y.1)) (ownFrom_below (Nat.le_refl _) (Nat.le_refl _)) t X Y row hs hg hrw)
       · have hOr : OwnFrom W1.heap.size (fun (pre' : List (Fin n)) W' => ((c = Code.ret ∧ ∃ q y, pre' = q ++ [y] ∧ (∀ z ∈ q, z.1 ≠ x.1) ∧ y.1 ≠ x.1 ∧ bdI n p x.1 y.1) ∧ Boxed W' (w.heap.size + 1) 4 (.bool true)) ∧ Below w.heap.size W W' ∧ KeepsFrom W0.heap.size W W') := OwnFrom.and (OwnFrom.and (ownFrom_pure _ _) (Own.from (boxed_own _ _ _) _)) (OwnFrom.and (ownFrom_below (by omega) (by omega)) (ownFrom_keepsFrom (by omega)))
         exact .inr (hOr t X Y row hs hg hrw))
     ⟨by simp, Below.refl _ _⟩
     (fun y a'' W' => ∃ Bt, BoxV W' Bt 53 [.int .i64 (sdA n p y.1).1, .int .i64 (sdA n p y.1).2.1, .int .i64 (sdA n p y.1).2.2.1, .int .i64 (sdA n p y.1).2.2.2] ∧ a'' = { tmps := #[.agg #[.slice ao n cap], .pointer (some ⟨w.heap.size, 0, none⟩), .pointer (some ⟨w.heap.size + 1, 0, none⟩), .pointer (some ⟨Bi, 0, none⟩), .pointer (some ⟨Bs, 0, none⟩), .int .i64 (y.1 : Int), .pointer (some ⟨Bt, 0, none⟩), undef, undef, undef, .agg #[.slice ao n cap], .func (.func 66) #[] #[.pointer (some ⟨w.heap.size + 1 + 1, 0, none⟩)], .int .i64 (x.1 : Int), Sg (sdA n p x.1).1 (sdA n p x.1).2.1 (sdA n p x.1).2.2.1 (sdA n p x.1).2.2.2, .agg #[.slice ao n cap], .func (.func 66) #[] #[.pointer (some ⟨W.heap.size, 0, none⟩)], .int .i64 (y.1 : Int), Sg (sdA n p y.1).1 (sdA n p y.1).2.1 (sdA n p y.1).2.2.1 (sdA n p y.1).2.2.2, undef, undef, undef, undef, undef, undef, undef, undef, undef, undef, undef, undef, undef, undef, undef, undef], defers := [] })
     (fun y a'' _ X Y row hs hg hrw => by obtain ⟨Bt, e4, e5⟩ := hs; exact ⟨Bt, boxV_own Bt 53 (fun (_ : Unit) => [.int .i64 (sdA n p y.1).1, .int .i64 (sdA n p y.1).2.1, .int .i64 (sdA n p y.1).2.2.1, .int .i64 (sdA n p y.1).2.2.2]) () X Y row e4 hg (fun r e => (hrw r e).2), e5⟩)
     ?assign2 ?body2 ?done2 ?stop2
   case assign2 =>
     rintro l2 pre' y W' K ⟨hq, hBW⟩ hK
     unfold enS
     gi_wp2
     have hB2 : Below W'.heap.size W' (W'.alloc (.cells #[.int .i64 (sdA n p y.1).1, .int .i64 (sdA n p y.1).2.1, .int .i64 (sdA n p y.1).2.2.1, .int .i64 (sdA n p y.1).2.2.2] 53)) := (Below.refl _ W').alloc (Nat.le_refl _) _
     have hsW2 := hBW.size
     have b2 := BoxV.new W' 53 [.int .i64 (sdA n p y.1).1, .int .i64 (sdA n p y.1).2.1, .int .i64 (sdA n p y.1).2.2.1, .int .i64 (sdA n p y.1).2.2.2]
     exact hK _ _ (below_keeps hB2) (KpB.of hB2 (by omega) (by omega)) ⟨hq, hBW.trans (hB2.mono hBW.size)⟩ ⟨_, b2, rfl⟩
   case body2 =>
     rintro l2 pre' y a'' W' _ _ ⟨hq, hBW⟩ ⟨Bt, bT, rfl⟩ _
     have hBX : Below W.heap.size W W' := hBR.trans (hBW.mono hBR.size)
     have bA2 := boxed_step bA1 hBX
     have bI2 := boxed_step bI hBX
     have bS2 := (bS.step hBX).blk
     have bT2 := bT.blk
     have bR2 := boxed_step hbR hBX
     have cA2 := bA2.cell
     have cI2 := bI2.cell
     have s0' := bS2.c 0 rfl; have s1' := bS2.c 1 rfl; have s2' := bS2.c 2 rfl; have s3' := bS2.c 3 rfl
     have t0' := bT2.c 0 rfl; have t1' := bT2.c 1 rfl; have t2' := bT2.c 2 rfl; have t3' := bT2.c 3 rfl
     have hsX := hBW.size
     by_cases hxy : y.1 = x.1
     · have e1 : ((y.1 : Int) == (x.1 : Int)) = true := by rw [hxy]; exact beq_self_eq_true _
       gi_wp2
       exact ⟨KeepsFrom.refl _ _, .inl ⟨⟨rfl, pre', by rw [Fin.ext hxy], hq⟩, hBW⟩⟩
     · have e1 : ((y.1 : Int) == (x.1 : Int)) = false := beq_eq_false_iff_ne.2 (by omega)
       obtain ⟨i1, i2, i3, i4⟩ := in1_seg (side_ok hok hone hn3 x.2)
       obtain ⟨j1, j2, j3, j4⟩ := in1_seg (side_ok hok hone hn3 y.2)
       obtain ⟨r0, r1, r2, r3, r4, r5, r6, r7, r8, r9, r10, r11, s0, s1, s2, s3, s4, s5, s6, s7, s8, s9, s10, s11, hW12⟩ := meetW_12 (sdA n p x.1).1 (sdA n p x.1).2.1 (sdA n p x.1).2.2.1 (sdA n p x.1).2.2.2 (sdA n p y.1).1 (sdA n p y.1).2.1 (sdA n p y.1).2.2.1 (sdA n p y.1).2.2.2
       have MT := meet_det (sdA n p x.1).1 (sdA n p x.1).2.1 (sdA n p x.1).2.2.1 (sdA n p x.1).2.2.2 (sdA n p y.1).1 (sdA n p y.1).2.1 (sdA n p y.1).2.2.1 (sdA n p y.1).2.2.2 i1 i2 i3 i4 j1 j2 j3 j4
       rw [hW12] at MT
       have hkd : kndZ (sdA n p x.1).1 (sdA n p x.1).2.1 (sdA n p x.1).2.2.1 (sdA n p x.1).2.2.2 (sdA n p y.1).1 (sdA n p y.1).2.1 (sdA n p y.1).2.2.1 (sdA n p y.1).2.2.2 = kdA n p x.1 y.1 := rfl
       rw [hkd] at MT
       have MO := most_any ao n cap x.1 y.1 x.2 y.2 (by omega) (by omega)
       clear i1 i2 i3 i4 j1 j2 j3 j4 hW12 hkd
       generalize hzk : kdA n p x.1 y.1 = zk at *
       generalize hzm : moI n x.1 y.1 = zm at *
       gi_wp2_with (first
         | (refine ⟨trivial, ?_⟩; gi_at_call 86; refine (CallsIn.inRound l2 (CallsIn.inRound l (callsIn_wide.2 (MT _)))).mono ?_; rintro e v1 ⟨rfl, hBm⟩; have cA3 := (boxed_step bA2 hBm).cell; have cI3 := (boxed_step bI2 hBm).cell; have lA3 := (boxed_step bA2 hBm).lt; have lI3 := (boxed_step bI2 hBm).lt)
         | (refine ⟨trivial, ?_⟩; gi_at_call 134; refine (CallsIn.inRound l2 (CallsIn.inRound l (callsIn_wide.2 (MO _)))).mono ?_; rintro e v2 ⟨rfl, hBo⟩; have hBN : Below W'.heap.size W' v2 := ((hBm.alloc hBm.size _).alloc (Nat.le_trans hBm.size (by simp)) _).trans (hBo.mono (Nat.le_trans hBm.size (by simp; omega))); have bR3 := boxed_step bR2 hBN; have cR3 := bR3.cell; have fR3 := bR3.frozen))
       · rename_i hlt2
         have hXN : Below W.heap.size W v2 := hBX.trans (hBN.mono hBX.size)
         exact ⟨(below_keeps hBN).trans ((KeepsOthers.setCell _ _ _).from _), .inr ⟨⟨⟨rfl, pre', y, rfl, fun z hz => (hq z hz).1, hxy, by show moI n x.1 y.1 < kdA n p x.1 y.1; rw [hzm, hzk]; omega⟩, bR3.set _⟩, (hXN.mono (show w.heap.size ≤ W.heap.size by omega)).setCell (p := ⟨w.heap.size + 1, 0, none⟩) (by simp) _, (below_keeps hXN).trans ((KeepsOthers.setCell _ _ _).from _)⟩⟩
       · rename_i hlt2
         refine ⟨below_keeps hBN, KpB.of hBN (by omega) (by omega), fun z hz => ?_, hBW.trans (hBN.mono hBW.size)⟩
         rcases List.mem_append.1 hz with h | h
         · exact hq z h
         · simp at h
           subst h
           exact ⟨hxy, by show ¬ moI n x.1 z.1 < kdA n p x.1 z.1; rw [hzm, hzk]; omega⟩
   case done2 =>
     rintro ys' W' rfl ⟨hq, hBW⟩
     exact absurd rfl (hq x (List.mem_finRange x)).1
   case stop2 =>
     rintro c pre' W' hpre (⟨⟨rfl, q, rfl, hq⟩, hBW⟩ | ⟨⟨⟨rfl, q, y, rfl, hq, hyx, hbd⟩, bR2⟩, hBW, hKF⟩)
     · have hBX : Below W.heap.size W W' := hBR.trans (hBW.mono hBR.size)
       have hpx : q = upTo n x.1 := by
         have e := prefix_range hpre
         have hl : (q ++ [x]).length = q.length + 1 := by simp
         rw [hl, upTo_succ (by have := hpre.length_le; simp at this; omega)] at e
         have e2 := List.append_inj' e rfl
         have e3 : x.1 = q.length := by have := congrArg (fun z => z.1) (List.singleton_inj.1 e2.2); exact this
         rw [e3]
         exact e2.1
       gi_wp2
       refine ⟨below_keeps hBX, KpB.of hBX (by omega) (by omega), fun i hi => ?_, hB1.trans (hBX.mono hB1.size)⟩
       rcases List.mem_append.1 hi with h | h
       · exact hp i h
       · simp at h
         subst h
         intro k hk
         have := (hq ⟨k, by omega⟩ (by rw [hpx]; exact mem_upTo.2 hk)).2
         rw [bdI_iff i.2 hk] at this
         exact Bool.eq_false_iff.2 this
     · have hyx2 : y.1 < x.1 := by
         have e := prefix_range hpre
         have hl : (q ++ [y]).length = q.length + 1 := by simp
         rw [hl, upTo_succ (by have := hpre.length_le; simp at this; omega)] at e
         have e2 := List.append_inj' e rfl
         have e3 : y.1 = q.length := by have := congrArg (fun z => z.1) (List.singleton_inj.1 e2.2); exact this
         have e4 : q = upTo n y.1 := by rw [e3]; exact e2.1
         rcases Nat.lt_or_ge y.1 x.1 with h | h
         · exact h
         · exact absurd rfl (hq x (by rw [e4]; exact mem_upTo.2 (by omega)))
       gi_wp2
       exact ⟨hKF, ⟨⟨rfl, x, List.mem_append.2 (.inr (by simp)), y.1, hyx2, (bdI_iff x.2 hyx2).1 hbd⟩, bR2⟩, (hB0.trans (hB1.mono (by omega))).trans hBW⟩
 case done =>
   rintro D zs W hD rfl ⟨hp, hB1⟩ hK
   have bR1 := boxed_step bR hB1
   have cR := bR1.cell
   have fR := bR1.frozen
   gi_wp2
   have hK' := (KeepsOthers.setCell W ⟨w.heap.size + 1, 0, none⟩ (.bool false)).same D _ hK rfl
   refine ⟨by simp, .inl ⟨_, _, rfl, run_takeDeferred hK', ?_⟩⟩
   have hc5 := cell_kept (bR1.set (.bool false)).cell (grownBy_putObj' _ D (.deferred none)) (fun r e => by cases e; exact ⟨_, hK', rfl⟩)
   have hBW : Below w.heap.size w W := hB0.trans (hB1.mono (by omega))
   refine ⟨.bool false, ?_, by rw [decide_eq_false (fun h => h (fun i hi k hk => hp ⟨i, hi⟩ (List.mem_finRange _) k hk))], (hBW.setCell (p := ⟨w.heap.size + 1, 0, none⟩) (by simp) _).trans (belowK_b (w := w) (Nat.le_refl _) _ D _ _ (by omega) hK' rfl rfl)⟩
   simp [results, Tryz.results83, go_sem, hc5]
 case stop =>
   rintro D c pre W hD hpre ⟨⟨⟨rfl, i, hi, k, hk, hbd⟩, bR1⟩, hB1⟩ hK
   have cR := bR1.cell
   gi_wp2
   refine ⟨by simp, .inl ⟨_, _, rfl, run_takeDeferred hK, ?_⟩⟩
   have hc5 := cell_kept bR1.cell (grownBy_putObj' _ D (.deferred none)) (fun r e => by cases e; exact ⟨_, hK, rfl⟩)
   have hd : decide (¬ (∀ i, i < n → ∀ k, k < i → bdB n p i k = false)) = true := decide_eq_true (fun h => by have := h i.1 i.2 k hk; rw [hbd] at this; cases this)
   refine ⟨.bool true, ?_, by rw [hd], hB1.trans (belowK_b (w := w) (Nat.le_refl _) _ D _ _ (by omega) hK rfl rfl)⟩
   simp [results, Tryz.results83, go_sem, hc5]
set_option maxRecDepth 100000 in
set_option maxHeartbeats 4000000 in
theorem implRingFault_any (ao : Option Addr) (n cap : Nat) (p : Ps) (hn : n ≤ 1048576) (hcap : n ≤ cap) (hcap2 : cap ≤ 9223372036854775807) (w : World) (hS : SpIn w ao n p) : Calls Tryz.prog 44 #[.agg #[.slice ao n cap]] w (VP (.int .i64 (rgF n p)) w) := by
 have B0 := Blk.new w [.slice ao n cap] 57 rfl
 have HB : Below w.heap.size w (w.alloc (.cells #[.slice ao n cap] 57)) := (Below.refl _ w).alloc (Nat.le_refl _) _
 have HS := hS.step HB
 have b0 := B0.c 0 rfl
 have hnI : (n : Int) ≤ 1048576 := by omega
 clear hS
 go_enter Tryz.func44, Tryz.ntmps44
 go_upto_region 1 with fail
 generalize (w.alloc (.cells #[.slice ao n cap] 57)) = W at *
 by_cases h1 : n < 3
 · have HO : Hid (rgF n p = 1) := by show _ = _; unfold rgF; rw [if_pos h1]
   have h1I : (n : Int) < 3 := by omega
   clear HS B0
   go_wp2
   go_ret
   exact ⟨by rw [HO.out]; rfl, HB⟩
 by_cases h2 : 12 < n
 · have HO : Hid (rgF n p = 2) := by show _ = _; unfold rgF; rw [if_neg h1, if_pos h2]
   have h1I : (3 : Int) ≤ n := by omega
   have h2I : (12 : Int) < n := by omega
   clear HS B0
   go_wp2
   go_ret
   exact ⟨by rw [HO.out]; rfl, HB⟩
 have h1I : (3 : Int) ≤ n := by omega
 have h2I : (n : Int) ≤ 12 := by omega
 have WR := fun w h => wrong_any ao n cap p hn w h
 have TW := fun w h => twice_any ao n cap p hn w h hcap hcap2
 go_wp2_with fail
 refine (WR _ HS).mono ?_
 rintro e w1 ⟨rfl, hB⟩
 replace HB := HB.trans (hB.mono HB.size); replace HS := HS.step hB; replace B0 := B0.step hB
 clear hB b0 WR
 by_cases h3 : ∀ i, i < n → spotOk (p i).1 (p i).2 = true
 · have d3 : decide (¬ (∀ i, i < n → spotOk (p i).1 (p i).2 = true)) = false := decide_eq_false (fun h => h h3)
   rw [d3]
   have b0 := B0.c 0 rfl
   clear d3
   go_wp2_with fail
   refine (TW _ HS).mono ?_
   rintro e w2 ⟨rfl, hB⟩
   replace HB := HB.trans (hB.mono HB.size); replace HS := HS.step hB; replace B0 := B0.step hB
   clear hB b0 TW
   by_cases h4 : OneN n p
   · have d4 : decide (¬ OneN n p) = false := decide_eq_false (fun h => h h4)
     rw [d4]
     have b0 := B0.c 0 rfl
     have CR := fun w h => crosses_any ao n cap p (by omega) (by omega) h3 h4 w h
     clear d4
     go_wp2_with fail
     refine (CR _ HS).mono ?_
     rintro e w3 ⟨rfl, hB⟩
     replace HB := HB.trans (hB.mono HB.size)
     clear hB b0 CR HS B0
     by_cases h5 : ∀ i, i < n → ∀ k, k < i → bdB n p i k = false
     · have d5 : decide (¬ (∀ i, i < n → ∀ k, k < i → bdB n p i k = false)) = false := decide_eq_false (fun h => h h5)
       have HO : Hid (rgF n p = 0) := by show _ = _; unfold rgF; rw [if_neg h1, if_neg h2, if_neg (fun h => h h3), if_neg (fun h => h h4), if_neg (fun h => h h5)]
       rw [d5]
       clear d5 h3 h4 h5
       go_wp2
       go_ret
       exact ⟨by rw [HO.out]; rfl, HB⟩
     · have d5 : decide (¬ (∀ i, i < n → ∀ k, k < i → bdB n p i k = false)) = true := decide_eq_true h5
       have HO : Hid (rgF n p = 5) := by show _ = _; unfold rgF; rw [if_neg h1, if_neg h2, if_neg (fun h => h h3), if_neg (fun h => h h4), if_pos h5]
       rw [d5]
       clear d5 h3 h4 h5
       go_wp2
       go_ret
       exact ⟨by rw [HO.out]; rfl, HB⟩
   · have d4 : decide (¬ OneN n p) = true := decide_eq_true h4
     have HO : Hid (rgF n p = 4) := by show _ = _; unfold rgF; rw [if_neg h1, if_neg h2, if_neg (fun h => h h3), if_pos h4]
     rw [d4]
     clear d4 h3 h4 HS B0
     go_wp2
     go_ret
     exact ⟨by rw [HO.out]; rfl, HB⟩
 · have d3 : decide (¬ (∀ i, i < n → spotOk (p i).1 (p i).2 = true)) = true := decide_eq_true h3
   have HO : Hid (rgF n p = 3) := by show _ = _; unfold rgF; rw [if_neg h1, if_neg h2, if_pos h3]
   rw [d3]
   clear d3 h3 HS B0 TW
   go_wp2
   go_ret
   exact ⟨by rw [HO.out]; rfl, HB⟩
end Go.Proofs.YteakhlipmmfilaaGreat
