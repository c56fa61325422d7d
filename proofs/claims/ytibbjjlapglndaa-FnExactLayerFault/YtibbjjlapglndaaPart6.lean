/- Part 6 of the walks that the proof leans on. -/
import Derived.Test.YtibbjjlapglndaaPart4
import Derived.Test.YtibbjjlapglndaaPart5
import Derived.Test.YtibbjjlapglndaaPart3
/- Where two segments meet: the program's walk. -/
namespace Go.Proofs.Ytibbjjlapglndaa
open Go.RowKit
/-- Where two right segments meet. -/
def meetW (a b c d p q u v : Int) : Value := if ((b - d) * (u - p) - (q - v) * (c - a)) = 0 then alongV a b c d p q u v else if pt2 (turnZ a b c d p q) (turnZ a b c d u v) && pt2 (turnZ p q u v a b) (turnZ p q u v c d) then .tuple #[.int .i64 1, .agg #[.int .u64 (ww3 (shareZ ((c - a) * (p * v - q * u) - (u - p) * (a * d - b * c)) (Int.gcd (Int.gcd ((c - a) * (p * v - q * u) - (u - p) * (a * d - b * c)) ((a * d - b * c) * (q - v) - (p * v - q * u) * (b - d)) : Int) ((b - d) * (u - p) - (q - v) * (c - a)) : Int) (decide (((b - d) * (u - p) - (q - v) * (c - a)) < 0)))), .int .u64 (ww2 (shareZ ((c - a) * (p * v - q * u) - (u - p) * (a * d - b * c)) (Int.gcd (Int.gcd ((c - a) * (p * v - q * u) - (u - p) * (a * d - b * c)) ((a * d - b * c) * (q - v) - (p * v - q * u) * (b - d)) : Int) ((b - d) * (u - p) - (q - v) * (c - a)) : Int) (decide (((b - d) * (u - p) - (q - v) * (c - a)) < 0)))), .int .u64 (ww1 (shareZ ((c - a) * (p * v - q * u) - (u - p) * (a * d - b * c)) (Int.gcd (Int.gcd ((c - a) * (p * v - q * u) - (u - p) * (a * d - b * c)) ((a * d - b * c) * (q - v) - (p * v - q * u) * (b - d)) : Int) ((b - d) * (u - p) - (q - v) * (c - a)) : Int) (decide (((b - d) * (u - p) - (q - v) * (c - a)) < 0)))), .int .u64 (ww0 (shareZ ((c - a) * (p * v - q * u) - (u - p) * (a * d - b * c)) (Int.gcd (Int.gcd ((c - a) * (p * v - q * u) - (u - p) * (a * d - b * c)) ((a * d - b * c) * (q - v) - (p * v - q * u) * (b - d)) : Int) ((b - d) * (u - p) - (q - v) * (c - a)) : Int) (decide (((b - d) * (u - p) - (q - v) * (c - a)) < 0)))), .int .u64 (ww3 (shareZ ((a * d - b * c) * (q - v) - (p * v - q * u) * (b - d)) (Int.gcd (Int.gcd ((c - a) * (p * v - q * u) - (u - p) * (a * d - b * c)) ((a * d - b * c) * (q - v) - (p * v - q * u) * (b - d)) : Int) ((b - d) * (u - p) - (q - v) * (c - a)) : Int) (decide (((b - d) * (u - p) - (q - v) * (c - a)) < 0)))), .int .u64 (ww2 (shareZ ((a * d - b * c) * (q - v) - (p * v - q * u) * (b - d)) (Int.gcd (Int.gcd ((c - a) * (p * v - q * u) - (u - p) * (a * d - b * c)) ((a * d - b * c) * (q - v) - (p * v - q * u) * (b - d)) : Int) ((b - d) * (u - p) - (q - v) * (c - a)) : Int) (decide (((b - d) * (u - p) - (q - v) * (c - a)) < 0)))), .int .u64 (ww1 (shareZ ((a * d - b * c) * (q - v) - (p * v - q * u) * (b - d)) (Int.gcd (Int.gcd ((c - a) * (p * v - q * u) - (u - p) * (a * d - b * c)) ((a * d - b * c) * (q - v) - (p * v - q * u) * (b - d)) : Int) ((b - d) * (u - p) - (q - v) * (c - a)) : Int) (decide (((b - d) * (u - p) - (q - v) * (c - a)) < 0)))), .int .u64 (ww0 (shareZ ((a * d - b * c) * (q - v) - (p * v - q * u) * (b - d)) (Int.gcd (Int.gcd ((c - a) * (p * v - q * u) - (u - p) * (a * d - b * c)) ((a * d - b * c) * (q - v) - (p * v - q * u) * (b - d)) : Int) ((b - d) * (u - p) - (q - v) * (c - a)) : Int) (decide (((b - d) * (u - p) - (q - v) * (c - a)) < 0)))), .int .u64 (ww3 (shareZ ((b - d) * (u - p) - (q - v) * (c - a)) (Int.gcd (Int.gcd ((c - a) * (p * v - q * u) - (u - p) * (a * d - b * c)) ((a * d - b * c) * (q - v) - (p * v - q * u) * (b - d)) : Int) ((b - d) * (u - p) - (q - v) * (c - a)) : Int) (decide (((b - d) * (u - p) - (q - v) * (c - a)) < 0)))), .int .u64 (ww2 (shareZ ((b - d) * (u - p) - (q - v) * (c - a)) (Int.gcd (Int.gcd ((c - a) * (p * v - q * u) - (u - p) * (a * d - b * c)) ((a * d - b * c) * (q - v) - (p * v - q * u) * (b - d)) : Int) ((b - d) * (u - p) - (q - v) * (c - a)) : Int) (decide (((b - d) * (u - p) - (q - v) * (c - a)) < 0)))), .int .u64 (ww1 (shareZ ((b - d) * (u - p) - (q - v) * (c - a)) (Int.gcd (Int.gcd ((c - a) * (p * v - q * u) - (u - p) * (a * d - b * c)) ((a * d - b * c) * (q - v) - (p * v - q * u) * (b - d)) : Int) ((b - d) * (u - p) - (q - v) * (c - a)) : Int) (decide (((b - d) * (u - p) - (q - v) * (c - a)) < 0)))), .int .u64 (ww0 (shareZ ((b - d) * (u - p) - (q - v) * (c - a)) (Int.gcd (Int.gcd ((c - a) * (p * v - q * u) - (u - p) * (a * d - b * c)) ((a * d - b * c) * (q - v) - (p * v - q * u) * (b - d)) : Int) ((b - d) * (u - p) - (q - v) * (c - a)) : Int) (decide (((b - d) * (u - p) - (q - v) * (c - a)) < 0))))], .agg #[.int .u64 0, .int .u64 0, .int .u64 0, .int .u64 0, .int .u64 0, .int .u64 0, .int .u64 0, .int .u64 0, .int .u64 0, .int .u64 0, .int .u64 0, .int .u64 0]] else .tuple #[.int .i64 0, .agg #[.int .u64 0, .int .u64 0, .int .u64 0, .int .u64 0, .int .u64 0, .int .u64 0, .int .u64 0, .int .u64 0, .int .u64 0, .int .u64 0, .int .u64 0, .int .u64 0], .agg #[.int .u64 0, .int .u64 0, .int .u64 0, .int .u64 0, .int .u64 0, .int .u64 0, .int .u64 0, .int .u64 0, .int .u64 0, .int .u64 0, .int .u64 0, .int .u64 0]]
theorem along_ex (a b c d p q u v : Int) : ∃ (k : Int) (r0 r1 r2 r3 r4 r5 r6 r7 r8 r9 r10 r11 s0 s1 s2 s3 s4 s5 s6 s7 s8 s9 s10 s11 : Int), alongV a b c d p q u v = .tuple #[.int .i64 k, .agg #[.int .u64 r0, .int .u64 r1, .int .u64 r2, .int .u64 r3, .int .u64 r4, .int .u64 r5, .int .u64 r6, .int .u64 r7, .int .u64 r8, .int .u64 r9, .int .u64 r10, .int .u64 r11], .agg #[.int .u64 s0, .int .u64 s1, .int .u64 s2, .int .u64 s3, .int .u64 s4, .int .u64 s5, .int .u64 s6, .int .u64 s7, .int .u64 s8, .int .u64 s9, .int .u64 s10, .int .u64 s11]] := by
  unfold alongV
  generalize (if lessI a b p q = true then p else a) = fx
  generalize (if lessI a b p q = true then q else b) = fy
  generalize (if lessI u v c d = true then u else c) = lx
  generalize (if lessI u v c d = true then v else d) = ly
  split
  · exact ⟨_, _, _, _, _, _, _, _, _, _, _, _, _, _, _, _, _, _, _, _, _, _, _, _, _, rfl⟩
  · split
    · exact ⟨_, _, _, _, _, _, _, _, _, _, _, _, _, _, _, _, _, _, _, _, _, _, _, _, _, rfl⟩
    · exact ⟨_, _, _, _, _, _, _, _, _, _, _, _, _, _, _, _, _, _, _, _, _, _, _, _, _, rfl⟩
theorem meetW_ex (a b c d p q u v : Int) : ∃ (k : Int) (r0 r1 r2 r3 r4 r5 r6 r7 r8 r9 r10 r11 s0 s1 s2 s3 s4 s5 s6 s7 s8 s9 s10 s11 : Int), meetW a b c d p q u v = .tuple #[.int .i64 k, .agg #[.int .u64 r0, .int .u64 r1, .int .u64 r2, .int .u64 r3, .int .u64 r4, .int .u64 r5, .int .u64 r6, .int .u64 r7, .int .u64 r8, .int .u64 r9, .int .u64 r10, .int .u64 r11], .agg #[.int .u64 s0, .int .u64 s1, .int .u64 s2, .int .u64 s3, .int .u64 s4, .int .u64 s5, .int .u64 s6, .int .u64 s7, .int .u64 s8, .int .u64 s9, .int .u64 s10, .int .u64 s11]] := by
  unfold meetW
  split
  · exact along_ex a b c d p q u v
  · split
    · exact ⟨_, _, _, _, _, _, _, _, _, _, _, _, _, _, _, _, _, _, _, _, _, _, _, _, _, rfl⟩
    · exact ⟨_, _, _, _, _, _, _, _, _, _, _, _, _, _, _, _, _, _, _, _, _, _, _, _, _, rfl⟩
set_option maxRecDepth 100000 in
set_option maxHeartbeats 8000000 in
theorem meet_det (a b c d p q u v : Int) (ha : In1 a) (hb : In1 b) (hc : In1 c) (hd : In1 d) (hp : In1 p) (hq : In1 q) (hu : In1 u) (hv : In1 v) (w : World) : Calls Try.prog 47 #[Sg a b c d, Sg p q u v] w (VP (meetW a b c d p q u v) w) := by
  have LS := lineOf_det a b c d ha hb hc hd
  have LT := lineOf_det p q u v hp hq hu hv
  obtain ⟨x1, x2⟩ := mul_in (p := a) (q := d) (M := 1000000) (N := 1000000) ha.1 ha.2 hd.1 hd.2
  obtain ⟨x3, x4⟩ := mul_in (p := b) (q := c) (M := 1000000) (N := 1000000) hb.1 hb.2 hc.1 hc.2
  obtain ⟨y1, y2⟩ := mul_in (p := p) (q := v) (M := 1000000) (N := 1000000) hp.1 hp.2 hv.1 hv.2
  obtain ⟨y3, y4⟩ := mul_in (p := q) (q := u) (M := 1000000) (N := 1000000) hq.1 hq.2 hu.1 hu.2
  have i1 : In2 (b - d) := ⟨by omega, by omega⟩
  have i2 : In2 (c - a) := ⟨by omega, by omega⟩
  have i3 : In3 (a * d - b * c) := ⟨by omega, by omega⟩
  have j1 : In2 (q - v) := ⟨by omega, by omega⟩
  have j2 : In2 (u - p) := ⟨by omega, by omega⟩
  have j3 : In3 (p * v - q * u) := ⟨by omega, by omega⟩
  have CR := crossing_det (b - d) (c - a) (a * d - b * c) (q - v) (u - p) (p * v - q * u) i1 i2 i3 j1 j2 j3
  have bX : -9000000000000000000 ≤ ((c - a) * (p * v - q * u) - (u - p) * (a * d - b * c)) ∧ ((c - a) * (p * v - q * u) - (u - p) * (a * d - b * c)) ≤ 9000000000000000000 := by
    have e1 := mul_in (p := c - a) (q := p * v - q * u) (M := 2000000) (N := 2000000000000) i2.1 i2.2 j3.1 j3.2
    have e2 := mul_in (p := u - p) (q := a * d - b * c) (M := 2000000) (N := 2000000000000) j2.1 j2.2 i3.1 i3.2
    omega
  have bY : -9000000000000000000 ≤ ((a * d - b * c) * (q - v) - (p * v - q * u) * (b - d)) ∧ ((a * d - b * c) * (q - v) - (p * v - q * u) * (b - d)) ≤ 9000000000000000000 := by
    have e1 := mul_in (p := a * d - b * c) (q := q - v) (M := 2000000000000) (N := 2000000) i3.1 i3.2 j1.1 j1.2
    have e2 := mul_in (p := p * v - q * u) (q := b - d) (M := 2000000000000) (N := 2000000) j3.1 j3.2 i1.1 i1.2
    omega
  have bW : -8000000000000 ≤ ((b - d) * (u - p) - (q - v) * (c - a)) ∧ ((b - d) * (u - p) - (q - v) * (c - a)) ≤ 8000000000000 := by
    have e1 := mul_in (p := b - d) (q := u - p) (M := 2000000) (N := 2000000) i1.1 i1.2 j2.1 j2.2
    have e2 := mul_in (p := q - v) (q := c - a) (M := 2000000) (N := 2000000) j1.1 j1.2 i2.1 i2.2
    omega
  have SM := smallPoint_det ((c - a) * (p * v - q * u) - (u - p) * (a * d - b * c)) ((a * d - b * c) * (q - v) - (p * v - q * u) * (b - d)) ((b - d) * (u - p) - (q - v) * (c - a)) bX bY bW
  have AL := meetAlong_det a b c d p q u v ha hb hc hd hp hq hu hv
  have P1 := fun g w h => parts2_det a b c d p q u v ha hb hc hd hp hq hu hv g w h
  have P2 := fun g w h => parts2_det p q u v a b c d hp hq hu hv ha hb hc hd g w h
  have HV : Hid (meetW a b c d p q u v = if ((b - d) * (u - p) - (q - v) * (c - a)) = 0 then alongV a b c d p q u v else if pt2 (turnZ a b c d p q) (turnZ a b c d u v) && pt2 (turnZ p q u v a b) (turnZ p q u v c d) then .tuple #[.int .i64 1, .agg #[.int .u64 (ww3 (shareZ ((c - a) * (p * v - q * u) - (u - p) * (a * d - b * c)) (Int.gcd (Int.gcd ((c - a) * (p * v - q * u) - (u - p) * (a * d - b * c)) ((a * d - b * c) * (q - v) - (p * v - q * u) * (b - d)) : Int) ((b - d) * (u - p) - (q - v) * (c - a)) : Int) (decide (((b - d) * (u - p) - (q - v) * (c - a)) < 0)))), .int .u64 (ww2 (shareZ ((c - a) * (p * v - q * u) - (u - p) * (a * d - b * c)) (Int.gcd (Int.gcd ((c - a) * (p * v - q * u) - (u - p) * (a * d - b * c)) ((a * d - b * c) * (q - v) - (p * v - q * u) * (b - d)) : Int) ((b - d) * (u - p) - (q - v) * (c - a)) : Int) (decide (((b - d) * (u - p) - (q - v) * (c - a)) < 0)))), .int .u64 (ww1 (shareZ ((c - a) * (p * v - q * u) - (u - p) * (a * d - b * c)) (Int.gcd (Int.gcd ((c - a) * (p * v - q * u) - (u - p) * (a * d - b * c)) ((a * d - b * c) * (q - v) - (p * v - q * u) * (b - d)) : Int) ((b - d) * (u - p) - (q - v) * (c - a)) : Int) (decide (((b - d) * (u - p) - (q - v) * (c - a)) < 0)))), .int .u64 (ww0 (shareZ ((c - a) * (p * v - q * u) - (u - p) * (a * d - b * c)) (Int.gcd (Int.gcd ((c - a) * (p * v - q * u) - (u - p) * (a * d - b * c)) ((a * d - b * c) * (q - v) - (p * v - q * u) * (b - d)) : Int) ((b - d) * (u - p) - (q - v) * (c - a)) : Int) (decide (((b - d) * (u - p) - (q - v) * (c - a)) < 0)))), .int .u64 (ww3 (shareZ ((a * d - b * c) * (q - v) - (p * v - q * u) * (b - d)) (Int.gcd (Int.gcd ((c - a) * (p * v - q * u) - (u - p) * (a * d - b * c)) ((a * d - b * c) * (q - v) - (p * v - q * u) * (b - d)) : Int) ((b - d) * (u - p) - (q - v) * (c - a)) : Int) (decide (((b - d) * (u - p) - (q - v) * (c - a)) < 0)))), .int .u64 (ww2 (shareZ ((a * d - b * c) * (q - v) - (p * v - q * u) * (b - d)) (Int.gcd (Int.gcd ((c - a) * (p * v - q * u) - (u - p) * (a * d - b * c)) ((a * d - b * c) * (q - v) - (p * v - q * u) * (b - d)) : Int) ((b - d) * (u - p) - (q - v) * (c - a)) : Int) (decide (((b - d) * (u - p) - (q - v) * (c - a)) < 0)))), .int .u64 (ww1 (shareZ ((a * d - b * c) * (q - v) - (p * v - q * u) * (b - d)) (Int.gcd (Int.gcd ((c - a) * (p * v - q * u) - (u - p) * (a * d - b * c)) ((a * d - b * c) * (q - v) - (p * v - q * u) * (b - d)) : Int) ((b - d) * (u - p) - (q - v) * (c - a)) : Int) (decide (((b - d) * (u - p) - (q - v) * (c - a)) < 0)))), .int .u64 (ww0 (shareZ ((a * d - b * c) * (q - v) - (p * v - q * u) * (b - d)) (Int.gcd (Int.gcd ((c - a) * (p * v - q * u) - (u - p) * (a * d - b * c)) ((a * d - b * c) * (q - v) - (p * v - q * u) * (b - d)) : Int) ((b - d) * (u - p) - (q - v) * (c - a)) : Int) (decide (((b - d) * (u - p) - (q - v) * (c - a)) < 0)))), .int .u64 (ww3 (shareZ ((b - d) * (u - p) - (q - v) * (c - a)) (Int.gcd (Int.gcd ((c - a) * (p * v - q * u) - (u - p) * (a * d - b * c)) ((a * d - b * c) * (q - v) - (p * v - q * u) * (b - d)) : Int) ((b - d) * (u - p) - (q - v) * (c - a)) : Int) (decide (((b - d) * (u - p) - (q - v) * (c - a)) < 0)))), .int .u64 (ww2 (shareZ ((b - d) * (u - p) - (q - v) * (c - a)) (Int.gcd (Int.gcd ((c - a) * (p * v - q * u) - (u - p) * (a * d - b * c)) ((a * d - b * c) * (q - v) - (p * v - q * u) * (b - d)) : Int) ((b - d) * (u - p) - (q - v) * (c - a)) : Int) (decide (((b - d) * (u - p) - (q - v) * (c - a)) < 0)))), .int .u64 (ww1 (shareZ ((b - d) * (u - p) - (q - v) * (c - a)) (Int.gcd (Int.gcd ((c - a) * (p * v - q * u) - (u - p) * (a * d - b * c)) ((a * d - b * c) * (q - v) - (p * v - q * u) * (b - d)) : Int) ((b - d) * (u - p) - (q - v) * (c - a)) : Int) (decide (((b - d) * (u - p) - (q - v) * (c - a)) < 0)))), .int .u64 (ww0 (shareZ ((b - d) * (u - p) - (q - v) * (c - a)) (Int.gcd (Int.gcd ((c - a) * (p * v - q * u) - (u - p) * (a * d - b * c)) ((a * d - b * c) * (q - v) - (p * v - q * u) * (b - d)) : Int) ((b - d) * (u - p) - (q - v) * (c - a)) : Int) (decide (((b - d) * (u - p) - (q - v) * (c - a)) < 0))))], .agg #[.int .u64 0, .int .u64 0, .int .u64 0, .int .u64 0, .int .u64 0, .int .u64 0, .int .u64 0, .int .u64 0, .int .u64 0, .int .u64 0, .int .u64 0, .int .u64 0]] else .tuple #[.int .i64 0, .agg #[.int .u64 0, .int .u64 0, .int .u64 0, .int .u64 0, .int .u64 0, .int .u64 0, .int .u64 0, .int .u64 0, .int .u64 0, .int .u64 0, .int .u64 0, .int .u64 0], .agg #[.int .u64 0, .int .u64 0, .int .u64 0, .int .u64 0, .int .u64 0, .int .u64 0, .int .u64 0, .int .u64 0, .int .u64 0, .int .u64 0, .int .u64 0, .int .u64 0]]) := rfl
  generalize pt2 (turnZ a b c d p q) (turnZ a b c d u v) = f1 at *
  generalize pt2 (turnZ p q u v a b) (turnZ p q u v c d) = f2 at *
  clear x1 x2 x3 x4 y1 y2 y3 y4 i1 i2 i3 j1 j2 j3 bX bY
  generalize ((c - a) * (p * v - q * u) - (u - p) * (a * d - b * c)) = cx at *
  generalize ((a * d - b * c) * (q - v) - (p * v - q * u) * (b - d)) = cy at *
  generalize ((b - d) * (u - p) - (q - v) * (c - a)) = cw at *
  generalize b - d = l1 at *
  generalize c - a = l2 at *
  generalize a * d - b * c = l3 at *
  generalize q - v = m1 at *
  generalize u - p = m2 at *
  generalize p * v - q * u = m3 at *
  clear ha hb hc hd hp hq hu hv
  have tok1 : True := trivial
  have T0 : ArgsB w ((((w.alloc (.cells #[.int .i64 a, .int .i64 b, .int .i64 c, .int .i64 d] 63)).alloc (.cells #[.int .i64 p, .int .i64 q, .int .i64 u, .int .i64 v] 63)).alloc (.cells #[.int .u64 0, .int .u64 0, .int .u64 0, .int .u64 0, .int .u64 0, .int .u64 0, .int .u64 0, .int .u64 0, .int .u64 0, .int .u64 0, .int .u64 0, .int .u64 0] 86)).alloc (.cells #[.int .u64 0, .int .u64 0, .int .u64 0, .int .u64 0, .int .u64 0, .int .u64 0, .int .u64 0, .int .u64 0, .int .u64 0, .int .u64 0, .int .u64 0, .int .u64 0] 86)) [[.int .i64 a, .int .i64 b, .int .i64 c, .int .i64 d], [.int .i64 p, .int .i64 q, .int .i64 u, .int .i64 v], [.int .u64 0, .int .u64 0, .int .u64 0, .int .u64 0, .int .u64 0, .int .u64 0, .int .u64 0, .int .u64 0, .int .u64 0, .int .u64 0, .int .u64 0, .int .u64 0], [.int .u64 0, .int .u64 0, .int .u64 0, .int .u64 0, .int .u64 0, .int .u64 0, .int .u64 0, .int .u64 0, .int .u64 0, .int .u64 0, .int .u64 0, .int .u64 0]] := ar4 _ _ _ _ _ _ _ _ w
  go_enter Try.func47, Try.ntmps47
  go_upto_region 1 with fail
  generalize ((((w.alloc (.cells #[.int .i64 a, .int .i64 b, .int .i64 c, .int .i64 d] 63)).alloc (.cells #[.int .i64 p, .int .i64 q, .int .i64 u, .int .i64 v] 63)).alloc (.cells #[.int .u64 0, .int .u64 0, .int .u64 0, .int .u64 0, .int .u64 0, .int .u64 0, .int .u64 0, .int .u64 0, .int .u64 0, .int .u64 0, .int .u64 0, .int .u64 0] 86)).alloc (.cells #[.int .u64 0, .int .u64 0, .int .u64 0, .int .u64 0, .int .u64 0, .int .u64 0, .int .u64 0, .int .u64 0, .int .u64 0, .int .u64 0, .int .u64 0, .int .u64 0] 86)) = W at *
  go_region_held3 (fun w' => w'.cell? ⟨w.heap.size, 0, none⟩ = some (.int .i64 a) ∧ w'.cell? ⟨w.heap.size, 1, none⟩ = some (.int .i64 b) ∧ w'.cell? ⟨w.heap.size, 2, none⟩ = some (.int .i64 c) ∧ w'.cell? ⟨w.heap.size, 3, none⟩ = some (.int .i64 d) ∧ w'.cell? ⟨w.heap.size + 1, 0, none⟩ = some (.int .i64 p) ∧ w'.cell? ⟨w.heap.size + 1, 1, none⟩ = some (.int .i64 q) ∧ w'.cell? ⟨w.heap.size + 1, 2, none⟩ = some (.int .i64 u) ∧ w'.cell? ⟨w.heap.size + 1, 3, none⟩ = some (.int .i64 v)) ((refine ml_cells ?_ <;> repeat (first | (with_reducible exact T0) | (with_reducible refine ArgsB.drew ?_))))
    (first
      | (go_at_call 62; have _t := tok1; refine (LS _).mono ?_; rintro e w1 ⟨rfl, hB⟩; (first | (have T1 := T0.step hB) | (have T1 := T0.drew.step hB)); clear T0; have T0 := T1; clear T1 hB tok1 _t)
      | (go_at_call 62; refine (LT _).mono ?_; rintro e w2 ⟨rfl, hB⟩; (first | (have T1 := T0.step hB) | (have T1 := T0.drew.step hB)); clear T0; have T0 := T1; clear T1 hB)
      | (go_at_call 63; refine (CR _).mono ?_; rintro e w3 ⟨rfl, hB⟩; (first | (have T1 := T0.step hB) | (have T1 := T0.drew.step hB)); clear T0; have T0 := T1; clear T1 hB))
  all_goals clear LS LT CR
  all_goals (
    have BS : Blk _ w.heap.size _ := T0.b 0 rfl; have BT : Blk _ (w.heap.size + 1) _ := T0.b 1 rfl; have BP : Blk _ (w.heap.size + 1 + 1) _ := T0.b 2 rfl; have BQ : Blk _ (w.heap.size + 1 + 1 + 1) _ := T0.b 3 rfl; have HB := T0.below
    clear T0
    by_cases h0 : cw = 0
    · have HO1 : Hid (meetW a b c d p q u v = alongV a b c d p q u v) := by show _ = _; rw [HV.out, if_pos h0]
      obtain ⟨k, r0, r1, r2, r3, r4, r5, r6, r7, r8, r9, r10, r11, s0, s1, s2, s3, s4, s5, s6, s7, s8, s9, s10, s11, hk⟩ := along_ex a b c d p q u v
      have HO : Hid (meetW a b c d p q u v = .tuple #[.int .i64 k, .agg #[.int .u64 r0, .int .u64 r1, .int .u64 r2, .int .u64 r3, .int .u64 r4, .int .u64 r5, .int .u64 r6, .int .u64 r7, .int .u64 r8, .int .u64 r9, .int .u64 r10, .int .u64 r11], .agg #[.int .u64 s0, .int .u64 s1, .int .u64 s2, .int .u64 s3, .int .u64 s4, .int .u64 s5, .int .u64 s6, .int .u64 s7, .int .u64 s8, .int .u64 s9, .int .u64 s10, .int .u64 s11]]) := HO1.out.trans hk
      rw [hk] at AL
      subst h0
      clear HV hk HO1 SM P1 P2 bW
      obtain ⟨sc0, sc1, sc2, sc3⟩ := BS.cs4; have sl := BS.lt; obtain ⟨tc0, tc1, tc2, tc3⟩ := BT.cs4; have tl := BT.lt
      go_wp2_with fail
      refine (AL _).mono ?_
      rintro e w4 ⟨rfl, hB⟩
      replace BS := BS.step hB
      replace BT := BT.step hB
      replace BP := BP.step hB
      replace BQ := BQ.step hB
      replace HB := HB.trans (hB.mono HB.size)
      clear hB sc0 sc1 sc2 sc3 sl tc0 tc1 tc2 tc3 tl
      clear BS BT AL
      obtain ⟨xc0, xf0, xc1, xf1, xc2, xf2, xc3, xf3, xc4, xf4, xc5, xf5, xc6, xf6, xc7, xf7, xc8, xf8, xc9, xf9, xc10, xf10, xc11, xf11⟩ := BP.cf12; have xl := BP.lt; obtain ⟨yc0, yf0, yc1, yf1, yc2, yf2, yc3, yf3, yc4, yf4, yc5, yf5, yc6, yf6, yc7, yf7, yc8, yf8, yc9, yf9, yc10, yf10, yc11, yf11⟩ := BQ.cf12; have yl := BQ.lt
      go_wp2
      have F0 : Blk ((((((((((((((((((((((((w4.setCell ⟨(w.heap.size + 1 + 1), 0, none⟩ (.int .u64 r0)).setCell ⟨(w.heap.size + 1 + 1), 1, none⟩ (.int .u64 r1)).setCell ⟨(w.heap.size + 1 + 1), 2, none⟩ (.int .u64 r2)).setCell ⟨(w.heap.size + 1 + 1), 3, none⟩ (.int .u64 r3)).setCell ⟨(w.heap.size + 1 + 1), 4, none⟩ (.int .u64 r4)).setCell ⟨(w.heap.size + 1 + 1), 5, none⟩ (.int .u64 r5)).setCell ⟨(w.heap.size + 1 + 1), 6, none⟩ (.int .u64 r6)).setCell ⟨(w.heap.size + 1 + 1), 7, none⟩ (.int .u64 r7)).setCell ⟨(w.heap.size + 1 + 1), 8, none⟩ (.int .u64 r8)).setCell ⟨(w.heap.size + 1 + 1), 9, none⟩ (.int .u64 r9)).setCell ⟨(w.heap.size + 1 + 1), 10, none⟩ (.int .u64 r10)).setCell ⟨(w.heap.size + 1 + 1), 11, none⟩ (.int .u64 r11)).setCell ⟨(w.heap.size + 1 + 1 + 1), 0, none⟩ (.int .u64 s0)).setCell ⟨(w.heap.size + 1 + 1 + 1), 1, none⟩ (.int .u64 s1)).setCell ⟨(w.heap.size + 1 + 1 + 1), 2, none⟩ (.int .u64 s2)).setCell ⟨(w.heap.size + 1 + 1 + 1), 3, none⟩ (.int .u64 s3)).setCell ⟨(w.heap.size + 1 + 1 + 1), 4, none⟩ (.int .u64 s4)).setCell ⟨(w.heap.size + 1 + 1 + 1), 5, none⟩ (.int .u64 s5)).setCell ⟨(w.heap.size + 1 + 1 + 1), 6, none⟩ (.int .u64 s6)).setCell ⟨(w.heap.size + 1 + 1 + 1), 7, none⟩ (.int .u64 s7)).setCell ⟨(w.heap.size + 1 + 1 + 1), 8, none⟩ (.int .u64 s8)).setCell ⟨(w.heap.size + 1 + 1 + 1), 9, none⟩ (.int .u64 s9)).setCell ⟨(w.heap.size + 1 + 1 + 1), 10, none⟩ (.int .u64 s10)).setCell ⟨(w.heap.size + 1 + 1 + 1), 11, none⟩ (.int .u64 s11)) (w.heap.size + 1 + 1) [.int .u64 r0, .int .u64 r1, .int .u64 r2, .int .u64 r3, .int .u64 r4, .int .u64 r5, .int .u64 r6, .int .u64 r7, .int .u64 r8, .int .u64 r9, .int .u64 r10, .int .u64 r11] := (BP.stored12 (.int .u64 r0) (.int .u64 r1) (.int .u64 r2) (.int .u64 r3) (.int .u64 r4) (.int .u64 r5) (.int .u64 r6) (.int .u64 r7) (.int .u64 r8) (.int .u64 r9) (.int .u64 r10) (.int .u64 r11)).set12 (by omega)
      have F1 : Blk ((((((((((((((((((((((((w4.setCell ⟨(w.heap.size + 1 + 1), 0, none⟩ (.int .u64 r0)).setCell ⟨(w.heap.size + 1 + 1), 1, none⟩ (.int .u64 r1)).setCell ⟨(w.heap.size + 1 + 1), 2, none⟩ (.int .u64 r2)).setCell ⟨(w.heap.size + 1 + 1), 3, none⟩ (.int .u64 r3)).setCell ⟨(w.heap.size + 1 + 1), 4, none⟩ (.int .u64 r4)).setCell ⟨(w.heap.size + 1 + 1), 5, none⟩ (.int .u64 r5)).setCell ⟨(w.heap.size + 1 + 1), 6, none⟩ (.int .u64 r6)).setCell ⟨(w.heap.size + 1 + 1), 7, none⟩ (.int .u64 r7)).setCell ⟨(w.heap.size + 1 + 1), 8, none⟩ (.int .u64 r8)).setCell ⟨(w.heap.size + 1 + 1), 9, none⟩ (.int .u64 r9)).setCell ⟨(w.heap.size + 1 + 1), 10, none⟩ (.int .u64 r10)).setCell ⟨(w.heap.size + 1 + 1), 11, none⟩ (.int .u64 r11)).setCell ⟨(w.heap.size + 1 + 1 + 1), 0, none⟩ (.int .u64 s0)).setCell ⟨(w.heap.size + 1 + 1 + 1), 1, none⟩ (.int .u64 s1)).setCell ⟨(w.heap.size + 1 + 1 + 1), 2, none⟩ (.int .u64 s2)).setCell ⟨(w.heap.size + 1 + 1 + 1), 3, none⟩ (.int .u64 s3)).setCell ⟨(w.heap.size + 1 + 1 + 1), 4, none⟩ (.int .u64 s4)).setCell ⟨(w.heap.size + 1 + 1 + 1), 5, none⟩ (.int .u64 s5)).setCell ⟨(w.heap.size + 1 + 1 + 1), 6, none⟩ (.int .u64 s6)).setCell ⟨(w.heap.size + 1 + 1 + 1), 7, none⟩ (.int .u64 s7)).setCell ⟨(w.heap.size + 1 + 1 + 1), 8, none⟩ (.int .u64 s8)).setCell ⟨(w.heap.size + 1 + 1 + 1), 9, none⟩ (.int .u64 s9)).setCell ⟨(w.heap.size + 1 + 1 + 1), 10, none⟩ (.int .u64 s10)).setCell ⟨(w.heap.size + 1 + 1 + 1), 11, none⟩ (.int .u64 s11)) (w.heap.size + 1 + 1 + 1) [.int .u64 s0, .int .u64 s1, .int .u64 s2, .int .u64 s3, .int .u64 s4, .int .u64 s5, .int .u64 s6, .int .u64 s7, .int .u64 s8, .int .u64 s9, .int .u64 s10, .int .u64 s11] := (BQ.set12 (by omega)).stored12 (.int .u64 s0) (.int .u64 s1) (.int .u64 s2) (.int .u64 s3) (.int .u64 s4) (.int .u64 s5) (.int .u64 s6) (.int .u64 s7) (.int .u64 s8) (.int .u64 s9) (.int .u64 s10) (.int .u64 s11)
      have HBF : Below w.heap.size w ((((((((((((((((((((((((w4.setCell ⟨(w.heap.size + 1 + 1), 0, none⟩ (.int .u64 r0)).setCell ⟨(w.heap.size + 1 + 1), 1, none⟩ (.int .u64 r1)).setCell ⟨(w.heap.size + 1 + 1), 2, none⟩ (.int .u64 r2)).setCell ⟨(w.heap.size + 1 + 1), 3, none⟩ (.int .u64 r3)).setCell ⟨(w.heap.size + 1 + 1), 4, none⟩ (.int .u64 r4)).setCell ⟨(w.heap.size + 1 + 1), 5, none⟩ (.int .u64 r5)).setCell ⟨(w.heap.size + 1 + 1), 6, none⟩ (.int .u64 r6)).setCell ⟨(w.heap.size + 1 + 1), 7, none⟩ (.int .u64 r7)).setCell ⟨(w.heap.size + 1 + 1), 8, none⟩ (.int .u64 r8)).setCell ⟨(w.heap.size + 1 + 1), 9, none⟩ (.int .u64 r9)).setCell ⟨(w.heap.size + 1 + 1), 10, none⟩ (.int .u64 r10)).setCell ⟨(w.heap.size + 1 + 1), 11, none⟩ (.int .u64 r11)).setCell ⟨(w.heap.size + 1 + 1 + 1), 0, none⟩ (.int .u64 s0)).setCell ⟨(w.heap.size + 1 + 1 + 1), 1, none⟩ (.int .u64 s1)).setCell ⟨(w.heap.size + 1 + 1 + 1), 2, none⟩ (.int .u64 s2)).setCell ⟨(w.heap.size + 1 + 1 + 1), 3, none⟩ (.int .u64 s3)).setCell ⟨(w.heap.size + 1 + 1 + 1), 4, none⟩ (.int .u64 s4)).setCell ⟨(w.heap.size + 1 + 1 + 1), 5, none⟩ (.int .u64 s5)).setCell ⟨(w.heap.size + 1 + 1 + 1), 6, none⟩ (.int .u64 s6)).setCell ⟨(w.heap.size + 1 + 1 + 1), 7, none⟩ (.int .u64 s7)).setCell ⟨(w.heap.size + 1 + 1 + 1), 8, none⟩ (.int .u64 s8)).setCell ⟨(w.heap.size + 1 + 1 + 1), 9, none⟩ (.int .u64 s9)).setCell ⟨(w.heap.size + 1 + 1 + 1), 10, none⟩ (.int .u64 s10)).setCell ⟨(w.heap.size + 1 + 1 + 1), 11, none⟩ (.int .u64 s11)) := Below.set12 (by omega) (Below.set12 (by omega) HB)
      clear BP BQ HB xc0 xf0 xc1 xf1 xc2 xf2 xc3 xf3 xc4 xf4 xc5 xf5 xc6 xf6 xc7 xf7 xc8 xf8 xc9 xf9 xc10 xf10 xc11 xf11 xl yc0 yf0 yc1 yf1 yc2 yf2 yc3 yf3 yc4 yf4 yc5 yf5 yc6 yf6 yc7 yf7 yc8 yf8 yc9 yf9 yc10 yf10 yc11 yf11 yl
      generalize ((((((((((((((((((((((((w4.setCell ⟨(w.heap.size + 1 + 1), 0, none⟩ (.int .u64 r0)).setCell ⟨(w.heap.size + 1 + 1), 1, none⟩ (.int .u64 r1)).setCell ⟨(w.heap.size + 1 + 1), 2, none⟩ (.int .u64 r2)).setCell ⟨(w.heap.size + 1 + 1), 3, none⟩ (.int .u64 r3)).setCell ⟨(w.heap.size + 1 + 1), 4, none⟩ (.int .u64 r4)).setCell ⟨(w.heap.size + 1 + 1), 5, none⟩ (.int .u64 r5)).setCell ⟨(w.heap.size + 1 + 1), 6, none⟩ (.int .u64 r6)).setCell ⟨(w.heap.size + 1 + 1), 7, none⟩ (.int .u64 r7)).setCell ⟨(w.heap.size + 1 + 1), 8, none⟩ (.int .u64 r8)).setCell ⟨(w.heap.size + 1 + 1), 9, none⟩ (.int .u64 r9)).setCell ⟨(w.heap.size + 1 + 1), 10, none⟩ (.int .u64 r10)).setCell ⟨(w.heap.size + 1 + 1), 11, none⟩ (.int .u64 r11)).setCell ⟨(w.heap.size + 1 + 1 + 1), 0, none⟩ (.int .u64 s0)).setCell ⟨(w.heap.size + 1 + 1 + 1), 1, none⟩ (.int .u64 s1)).setCell ⟨(w.heap.size + 1 + 1 + 1), 2, none⟩ (.int .u64 s2)).setCell ⟨(w.heap.size + 1 + 1 + 1), 3, none⟩ (.int .u64 s3)).setCell ⟨(w.heap.size + 1 + 1 + 1), 4, none⟩ (.int .u64 s4)).setCell ⟨(w.heap.size + 1 + 1 + 1), 5, none⟩ (.int .u64 s5)).setCell ⟨(w.heap.size + 1 + 1 + 1), 6, none⟩ (.int .u64 s6)).setCell ⟨(w.heap.size + 1 + 1 + 1), 7, none⟩ (.int .u64 s7)).setCell ⟨(w.heap.size + 1 + 1 + 1), 8, none⟩ (.int .u64 s8)).setCell ⟨(w.heap.size + 1 + 1 + 1), 9, none⟩ (.int .u64 s9)).setCell ⟨(w.heap.size + 1 + 1 + 1), 10, none⟩ (.int .u64 s10)).setCell ⟨(w.heap.size + 1 + 1 + 1), 11, none⟩ (.int .u64 s11)) = WF at *
      have m0 := F0.c 0 rfl; have n0 := F1.c 0 rfl; have m1 := F0.c 1 rfl; have n1 := F1.c 1 rfl; have m2 := F0.c 2 rfl; have n2 := F1.c 2 rfl; have m3 := F0.c 3 rfl; have n3 := F1.c 3 rfl; have m4 := F0.c 4 rfl; have n4 := F1.c 4 rfl; have m5 := F0.c 5 rfl; have n5 := F1.c 5 rfl; have m6 := F0.c 6 rfl; have n6 := F1.c 6 rfl; have m7 := F0.c 7 rfl; have n7 := F1.c 7 rfl; have m8 := F0.c 8 rfl; have n8 := F1.c 8 rfl; have m9 := F0.c 9 rfl; have n9 := F1.c 9 rfl; have m10 := F0.c 10 rfl; have n10 := F1.c 10 rfl; have m11 := F0.c 11 rfl; have n11 := F1.c 11 rfl
      refine bodyPost_ret (v := .tuple #[.int .i64 k, .agg #[.int .u64 r0, .int .u64 r1, .int .u64 r2, .int .u64 r3, .int .u64 r4, .int .u64 r5, .int .u64 r6, .int .u64 r7, .int .u64 r8, .int .u64 r9, .int .u64 r10, .int .u64 r11], .agg #[.int .u64 s0, .int .u64 s1, .int .u64 s2, .int .u64 s3, .int .u64 s4, .int .u64 s5, .int .u64 s6, .int .u64 s7, .int .u64 s8, .int .u64 s9, .int .u64 s10, .int .u64 s11]]) (by simp [results, Try.results47, go_sem, m0, n0, m1, n1, m2, n2, m3, n3, m4, n4, m5, n5, m6, n6, m7, n7, m8, n8, m9, n9, m10, n10, m11, n11]) rfl ?_
      exact ⟨by rw [HO.out], by first | exact HBF | exact HBF.drew⟩
    · have SM := SM h0
      obtain ⟨sc0, sc1, sc2, sc3⟩ := BS.cs4; have sl := BS.lt; obtain ⟨tc0, tc1, tc2, tc3⟩ := BT.cs4; have tl := BT.lt
      go_wp2_with fail
      refine (P1 _ _ (Blk.new _ _ _ rfl)).mono ?_
      rintro e w4 ⟨rfl, hB⟩
      replace BS := (BS.alloc _).step hB; replace BT := (BT.alloc _).step hB; replace BP := (BP.alloc _).step hB; replace BQ := (BQ.alloc _).step hB; replace HB := (HB.alloc HB.size _).trans (hB.mono (HB.alloc HB.size _).size)
      clear hB sc0 sc1 sc2 sc3 sl tc0 tc1 tc2 tc3 tl P1
      cases f1
      · have HO : Hid (meetW a b c d p q u v = .tuple #[.int .i64 0, .agg #[.int .u64 0, .int .u64 0, .int .u64 0, .int .u64 0, .int .u64 0, .int .u64 0, .int .u64 0, .int .u64 0, .int .u64 0, .int .u64 0, .int .u64 0, .int .u64 0], .agg #[.int .u64 0, .int .u64 0, .int .u64 0, .int .u64 0, .int .u64 0, .int .u64 0, .int .u64 0, .int .u64 0, .int .u64 0, .int .u64 0, .int .u64 0, .int .u64 0]]) := by show _ = _; rw [HV.out, if_neg h0]; rfl
        clear BS BT AL SM P2 HV bW
        obtain ⟨xc0, xf0, xc1, xf1, xc2, xf2, xc3, xf3, xc4, xf4, xc5, xf5, xc6, xf6, xc7, xf7, xc8, xf8, xc9, xf9, xc10, xf10, xc11, xf11⟩ := BP.cf12; have xl := BP.lt; obtain ⟨yc0, yf0, yc1, yf1, yc2, yf2, yc3, yf3, yc4, yf4, yc5, yf5, yc6, yf6, yc7, yf7, yc8, yf8, yc9, yf9, yc10, yf10, yc11, yf11⟩ := BQ.cf12; have yl := BQ.lt
        go_wp2
        have F0 : Blk ((((((((((((((((((((((((w4.setCell ⟨(w.heap.size + 1 + 1), 0, none⟩ (.int .u64 0)).setCell ⟨(w.heap.size + 1 + 1), 1, none⟩ (.int .u64 0)).setCell ⟨(w.heap.size + 1 + 1), 2, none⟩ (.int .u64 0)).setCell ⟨(w.heap.size + 1 + 1), 3, none⟩ (.int .u64 0)).setCell ⟨(w.heap.size + 1 + 1), 4, none⟩ (.int .u64 0)).setCell ⟨(w.heap.size + 1 + 1), 5, none⟩ (.int .u64 0)).setCell ⟨(w.heap.size + 1 + 1), 6, none⟩ (.int .u64 0)).setCell ⟨(w.heap.size + 1 + 1), 7, none⟩ (.int .u64 0)).setCell ⟨(w.heap.size + 1 + 1), 8, none⟩ (.int .u64 0)).setCell ⟨(w.heap.size + 1 + 1), 9, none⟩ (.int .u64 0)).setCell ⟨(w.heap.size + 1 + 1), 10, none⟩ (.int .u64 0)).setCell ⟨(w.heap.size + 1 + 1), 11, none⟩ (.int .u64 0)).setCell ⟨(w.heap.size + 1 + 1 + 1), 0, none⟩ (.int .u64 0)).setCell ⟨(w.heap.size + 1 + 1 + 1), 1, none⟩ (.int .u64 0)).setCell ⟨(w.heap.size + 1 + 1 + 1), 2, none⟩ (.int .u64 0)).setCell ⟨(w.heap.size + 1 + 1 + 1), 3, none⟩ (.int .u64 0)).setCell ⟨(w.heap.size + 1 + 1 + 1), 4, none⟩ (.int .u64 0)).setCell ⟨(w.heap.size + 1 + 1 + 1), 5, none⟩ (.int .u64 0)).setCell ⟨(w.heap.size + 1 + 1 + 1), 6, none⟩ (.int .u64 0)).setCell ⟨(w.heap.size + 1 + 1 + 1), 7, none⟩ (.int .u64 0)).setCell ⟨(w.heap.size + 1 + 1 + 1), 8, none⟩ (.int .u64 0)).setCell ⟨(w.heap.size + 1 + 1 + 1), 9, none⟩ (.int .u64 0)).setCell ⟨(w.heap.size + 1 + 1 + 1), 10, none⟩ (.int .u64 0)).setCell ⟨(w.heap.size + 1 + 1 + 1), 11, none⟩ (.int .u64 0)) (w.heap.size + 1 + 1) [.int .u64 0, .int .u64 0, .int .u64 0, .int .u64 0, .int .u64 0, .int .u64 0, .int .u64 0, .int .u64 0, .int .u64 0, .int .u64 0, .int .u64 0, .int .u64 0] := (BP.stored12 (.int .u64 0) (.int .u64 0) (.int .u64 0) (.int .u64 0) (.int .u64 0) (.int .u64 0) (.int .u64 0) (.int .u64 0) (.int .u64 0) (.int .u64 0) (.int .u64 0) (.int .u64 0)).set12 (by omega)
        have F1 : Blk ((((((((((((((((((((((((w4.setCell ⟨(w.heap.size + 1 + 1), 0, none⟩ (.int .u64 0)).setCell ⟨(w.heap.size + 1 + 1), 1, none⟩ (.int .u64 0)).setCell ⟨(w.heap.size + 1 + 1), 2, none⟩ (.int .u64 0)).setCell ⟨(w.heap.size + 1 + 1), 3, none⟩ (.int .u64 0)).setCell ⟨(w.heap.size + 1 + 1), 4, none⟩ (.int .u64 0)).setCell ⟨(w.heap.size + 1 + 1), 5, none⟩ (.int .u64 0)).setCell ⟨(w.heap.size + 1 + 1), 6, none⟩ (.int .u64 0)).setCell ⟨(w.heap.size + 1 + 1), 7, none⟩ (.int .u64 0)).setCell ⟨(w.heap.size + 1 + 1), 8, none⟩ (.int .u64 0)).setCell ⟨(w.heap.size + 1 + 1), 9, none⟩ (.int .u64 0)).setCell ⟨(w.heap.size + 1 + 1), 10, none⟩ (.int .u64 0)).setCell ⟨(w.heap.size + 1 + 1), 11, none⟩ (.int .u64 0)).setCell ⟨(w.heap.size + 1 + 1 + 1), 0, none⟩ (.int .u64 0)).setCell ⟨(w.heap.size + 1 + 1 + 1), 1, none⟩ (.int .u64 0)).setCell ⟨(w.heap.size + 1 + 1 + 1), 2, none⟩ (.int .u64 0)).setCell ⟨(w.heap.size + 1 + 1 + 1), 3, none⟩ (.int .u64 0)).setCell ⟨(w.heap.size + 1 + 1 + 1), 4, none⟩ (.int .u64 0)).setCell ⟨(w.heap.size + 1 + 1 + 1), 5, none⟩ (.int .u64 0)).setCell ⟨(w.heap.size + 1 + 1 + 1), 6, none⟩ (.int .u64 0)).setCell ⟨(w.heap.size + 1 + 1 + 1), 7, none⟩ (.int .u64 0)).setCell ⟨(w.heap.size + 1 + 1 + 1), 8, none⟩ (.int .u64 0)).setCell ⟨(w.heap.size + 1 + 1 + 1), 9, none⟩ (.int .u64 0)).setCell ⟨(w.heap.size + 1 + 1 + 1), 10, none⟩ (.int .u64 0)).setCell ⟨(w.heap.size + 1 + 1 + 1), 11, none⟩ (.int .u64 0)) (w.heap.size + 1 + 1 + 1) [.int .u64 0, .int .u64 0, .int .u64 0, .int .u64 0, .int .u64 0, .int .u64 0, .int .u64 0, .int .u64 0, .int .u64 0, .int .u64 0, .int .u64 0, .int .u64 0] := (BQ.set12 (by omega)).stored12 (.int .u64 0) (.int .u64 0) (.int .u64 0) (.int .u64 0) (.int .u64 0) (.int .u64 0) (.int .u64 0) (.int .u64 0) (.int .u64 0) (.int .u64 0) (.int .u64 0) (.int .u64 0)
        have HBF : Below w.heap.size w ((((((((((((((((((((((((w4.setCell ⟨(w.heap.size + 1 + 1), 0, none⟩ (.int .u64 0)).setCell ⟨(w.heap.size + 1 + 1), 1, none⟩ (.int .u64 0)).setCell ⟨(w.heap.size + 1 + 1), 2, none⟩ (.int .u64 0)).setCell ⟨(w.heap.size + 1 + 1), 3, none⟩ (.int .u64 0)).setCell ⟨(w.heap.size + 1 + 1), 4, none⟩ (.int .u64 0)).setCell ⟨(w.heap.size + 1 + 1), 5, none⟩ (.int .u64 0)).setCell ⟨(w.heap.size + 1 + 1), 6, none⟩ (.int .u64 0)).setCell ⟨(w.heap.size + 1 + 1), 7, none⟩ (.int .u64 0)).setCell ⟨(w.heap.size + 1 + 1), 8, none⟩ (.int .u64 0)).setCell ⟨(w.heap.size + 1 + 1), 9, none⟩ (.int .u64 0)).setCell ⟨(w.heap.size + 1 + 1), 10, none⟩ (.int .u64 0)).setCell ⟨(w.heap.size + 1 + 1), 11, none⟩ (.int .u64 0)).setCell ⟨(w.heap.size + 1 + 1 + 1), 0, none⟩ (.int .u64 0)).setCell ⟨(w.heap.size + 1 + 1 + 1), 1, none⟩ (.int .u64 0)).setCell ⟨(w.heap.size + 1 + 1 + 1), 2, none⟩ (.int .u64 0)).setCell ⟨(w.heap.size + 1 + 1 + 1), 3, none⟩ (.int .u64 0)).setCell ⟨(w.heap.size + 1 + 1 + 1), 4, none⟩ (.int .u64 0)).setCell ⟨(w.heap.size + 1 + 1 + 1), 5, none⟩ (.int .u64 0)).setCell ⟨(w.heap.size + 1 + 1 + 1), 6, none⟩ (.int .u64 0)).setCell ⟨(w.heap.size + 1 + 1 + 1), 7, none⟩ (.int .u64 0)).setCell ⟨(w.heap.size + 1 + 1 + 1), 8, none⟩ (.int .u64 0)).setCell ⟨(w.heap.size + 1 + 1 + 1), 9, none⟩ (.int .u64 0)).setCell ⟨(w.heap.size + 1 + 1 + 1), 10, none⟩ (.int .u64 0)).setCell ⟨(w.heap.size + 1 + 1 + 1), 11, none⟩ (.int .u64 0)) := Below.set12 (by omega) (Below.set12 (by omega) HB)
        clear BP BQ HB xc0 xf0 xc1 xf1 xc2 xf2 xc3 xf3 xc4 xf4 xc5 xf5 xc6 xf6 xc7 xf7 xc8 xf8 xc9 xf9 xc10 xf10 xc11 xf11 xl yc0 yf0 yc1 yf1 yc2 yf2 yc3 yf3 yc4 yf4 yc5 yf5 yc6 yf6 yc7 yf7 yc8 yf8 yc9 yf9 yc10 yf10 yc11 yf11 yl
        generalize ((((((((((((((((((((((((w4.setCell ⟨(w.heap.size + 1 + 1), 0, none⟩ (.int .u64 0)).setCell ⟨(w.heap.size + 1 + 1), 1, none⟩ (.int .u64 0)).setCell ⟨(w.heap.size + 1 + 1), 2, none⟩ (.int .u64 0)).setCell ⟨(w.heap.size + 1 + 1), 3, none⟩ (.int .u64 0)).setCell ⟨(w.heap.size + 1 + 1), 4, none⟩ (.int .u64 0)).setCell ⟨(w.heap.size + 1 + 1), 5, none⟩ (.int .u64 0)).setCell ⟨(w.heap.size + 1 + 1), 6, none⟩ (.int .u64 0)).setCell ⟨(w.heap.size + 1 + 1), 7, none⟩ (.int .u64 0)).setCell ⟨(w.heap.size + 1 + 1), 8, none⟩ (.int .u64 0)).setCell ⟨(w.heap.size + 1 + 1), 9, none⟩ (.int .u64 0)).setCell ⟨(w.heap.size + 1 + 1), 10, none⟩ (.int .u64 0)).setCell ⟨(w.heap.size + 1 + 1), 11, none⟩ (.int .u64 0)).setCell ⟨(w.heap.size + 1 + 1 + 1), 0, none⟩ (.int .u64 0)).setCell ⟨(w.heap.size + 1 + 1 + 1), 1, none⟩ (.int .u64 0)).setCell ⟨(w.heap.size + 1 + 1 + 1), 2, none⟩ (.int .u64 0)).setCell ⟨(w.heap.size + 1 + 1 + 1), 3, none⟩ (.int .u64 0)).setCell ⟨(w.heap.size + 1 + 1 + 1), 4, none⟩ (.int .u64 0)).setCell ⟨(w.heap.size + 1 + 1 + 1), 5, none⟩ (.int .u64 0)).setCell ⟨(w.heap.size + 1 + 1 + 1), 6, none⟩ (.int .u64 0)).setCell ⟨(w.heap.size + 1 + 1 + 1), 7, none⟩ (.int .u64 0)).setCell ⟨(w.heap.size + 1 + 1 + 1), 8, none⟩ (.int .u64 0)).setCell ⟨(w.heap.size + 1 + 1 + 1), 9, none⟩ (.int .u64 0)).setCell ⟨(w.heap.size + 1 + 1 + 1), 10, none⟩ (.int .u64 0)).setCell ⟨(w.heap.size + 1 + 1 + 1), 11, none⟩ (.int .u64 0)) = WF at *
        have m0 := F0.c 0 rfl; have n0 := F1.c 0 rfl; have m1 := F0.c 1 rfl; have n1 := F1.c 1 rfl; have m2 := F0.c 2 rfl; have n2 := F1.c 2 rfl; have m3 := F0.c 3 rfl; have n3 := F1.c 3 rfl; have m4 := F0.c 4 rfl; have n4 := F1.c 4 rfl; have m5 := F0.c 5 rfl; have n5 := F1.c 5 rfl; have m6 := F0.c 6 rfl; have n6 := F1.c 6 rfl; have m7 := F0.c 7 rfl; have n7 := F1.c 7 rfl; have m8 := F0.c 8 rfl; have n8 := F1.c 8 rfl; have m9 := F0.c 9 rfl; have n9 := F1.c 9 rfl; have m10 := F0.c 10 rfl; have n10 := F1.c 10 rfl; have m11 := F0.c 11 rfl; have n11 := F1.c 11 rfl
        refine bodyPost_ret (v := .tuple #[.int .i64 0, .agg #[.int .u64 0, .int .u64 0, .int .u64 0, .int .u64 0, .int .u64 0, .int .u64 0, .int .u64 0, .int .u64 0, .int .u64 0, .int .u64 0, .int .u64 0, .int .u64 0], .agg #[.int .u64 0, .int .u64 0, .int .u64 0, .int .u64 0, .int .u64 0, .int .u64 0, .int .u64 0, .int .u64 0, .int .u64 0, .int .u64 0, .int .u64 0, .int .u64 0]]) (by simp [results, Try.results47, go_sem, m0, n0, m1, n1, m2, n2, m3, n3, m4, n4, m5, n5, m6, n6, m7, n7, m8, n8, m9, n9, m10, n10, m11, n11]) rfl ?_
        exact ⟨by rw [HO.out], by first | exact HBF | exact HBF.drew⟩
      · obtain ⟨sc0, sc1, sc2, sc3⟩ := BS.cs4; have sl := BS.lt; obtain ⟨tc0, tc1, tc2, tc3⟩ := BT.cs4; have tl := BT.lt
        go_wp2_with fail
        refine (P2 _ _ (Blk.new _ _ _ rfl)).mono ?_
        rintro e w5 ⟨rfl, hB⟩
        replace BP := (BP.alloc _).step hB; replace BQ := (BQ.alloc _).step hB; replace HB := (HB.alloc HB.size _).trans (hB.mono (HB.alloc HB.size _).size)
        clear hB sc0 sc1 sc2 sc3 sl tc0 tc1 tc2 tc3 tl P2 BS BT
        cases f2
        · have HO : Hid (meetW a b c d p q u v = .tuple #[.int .i64 0, .agg #[.int .u64 0, .int .u64 0, .int .u64 0, .int .u64 0, .int .u64 0, .int .u64 0, .int .u64 0, .int .u64 0, .int .u64 0, .int .u64 0, .int .u64 0, .int .u64 0], .agg #[.int .u64 0, .int .u64 0, .int .u64 0, .int .u64 0, .int .u64 0, .int .u64 0, .int .u64 0, .int .u64 0, .int .u64 0, .int .u64 0, .int .u64 0, .int .u64 0]]) := by show _ = _; rw [HV.out, if_neg h0]; rfl
          clear AL SM HV bW
          obtain ⟨xc0, xf0, xc1, xf1, xc2, xf2, xc3, xf3, xc4, xf4, xc5, xf5, xc6, xf6, xc7, xf7, xc8, xf8, xc9, xf9, xc10, xf10, xc11, xf11⟩ := BP.cf12; have xl := BP.lt; obtain ⟨yc0, yf0, yc1, yf1, yc2, yf2, yc3, yf3, yc4, yf4, yc5, yf5, yc6, yf6, yc7, yf7, yc8, yf8, yc9, yf9, yc10, yf10, yc11, yf11⟩ := BQ.cf12; have yl := BQ.lt
          go_wp2
          have F0 : Blk ((((((((((((((((((((((((w5.setCell ⟨(w.heap.size + 1 + 1), 0, none⟩ (.int .u64 0)).setCell ⟨(w.heap.size + 1 + 1), 1, none⟩ (.int .u64 0)).setCell ⟨(w.heap.size + 1 + 1), 2, none⟩ (.int .u64 0)).setCell ⟨(w.heap.size + 1 + 1), 3, none⟩ (.int .u64 0)).setCell ⟨(w.heap.size + 1 + 1), 4, none⟩ (.int .u64 0)).setCell ⟨(w.heap.size + 1 + 1), 5, none⟩ (.int .u64 0)).setCell ⟨(w.heap.size + 1 + 1), 6, none⟩ (.int .u64 0)).setCell ⟨(w.heap.size + 1 + 1), 7, none⟩ (.int .u64 0)).setCell ⟨(w.heap.size + 1 + 1), 8, none⟩ (.int .u64 0)).setCell ⟨(w.heap.size + 1 + 1), 9, none⟩ (.int .u64 0)).setCell ⟨(w.heap.size + 1 + 1), 10, none⟩ (.int .u64 0)).setCell ⟨(w.heap.size + 1 + 1), 11, none⟩ (.int .u64 0)).setCell ⟨(w.heap.size + 1 + 1 + 1), 0, none⟩ (.int .u64 0)).setCell ⟨(w.heap.size + 1 + 1 + 1), 1, none⟩ (.int .u64 0)).setCell ⟨(w.heap.size + 1 + 1 + 1), 2, none⟩ (.int .u64 0)).setCell ⟨(w.heap.size + 1 + 1 + 1), 3, none⟩ (.int .u64 0)).setCell ⟨(w.heap.size + 1 + 1 + 1), 4, none⟩ (.int .u64 0)).setCell ⟨(w.heap.size + 1 + 1 + 1), 5, none⟩ (.int .u64 0)).setCell ⟨(w.heap.size + 1 + 1 + 1), 6, none⟩ (.int .u64 0)).setCell ⟨(w.heap.size + 1 + 1 + 1), 7, none⟩ (.int .u64 0)).setCell ⟨(w.heap.size + 1 + 1 + 1), 8, none⟩ (.int .u64 0)).setCell ⟨(w.heap.size + 1 + 1 + 1), 9, none⟩ (.int .u64 0)).setCell ⟨(w.heap.size + 1 + 1 + 1), 10, none⟩ (.int .u64 0)).setCell ⟨(w.heap.size + 1 + 1 + 1), 11, none⟩ (.int .u64 0)) (w.heap.size + 1 + 1) [.int .u64 0, .int .u64 0, .int .u64 0, .int .u64 0, .int .u64 0, .int .u64 0, .int .u64 0, .int .u64 0, .int .u64 0, .int .u64 0, .int .u64 0, .int .u64 0] := (BP.stored12 (.int .u64 0) (.int .u64 0) (.int .u64 0) (.int .u64 0) (.int .u64 0) (.int .u64 0) (.int .u64 0) (.int .u64 0) (.int .u64 0) (.int .u64 0) (.int .u64 0) (.int .u64 0)).set12 (by omega)
          have F1 : Blk ((((((((((((((((((((((((w5.setCell ⟨(w.heap.size + 1 + 1), 0, none⟩ (.int .u64 0)).setCell ⟨(w.heap.size + 1 + 1), 1, none⟩ (.int .u64 0)).setCell ⟨(w.heap.size + 1 + 1), 2, none⟩ (.int .u64 0)).setCell ⟨(w.heap.size + 1 + 1), 3, none⟩ (.int .u64 0)).setCell ⟨(w.heap.size + 1 + 1), 4, none⟩ (.int .u64 0)).setCell ⟨(w.heap.size + 1 + 1), 5, none⟩ (.int .u64 0)).setCell ⟨(w.heap.size + 1 + 1), 6, none⟩ (.int .u64 0)).setCell ⟨(w.heap.size + 1 + 1), 7, none⟩ (.int .u64 0)).setCell ⟨(w.heap.size + 1 + 1), 8, none⟩ (.int .u64 0)).setCell ⟨(w.heap.size + 1 + 1), 9, none⟩ (.int .u64 0)).setCell ⟨(w.heap.size + 1 + 1), 10, none⟩ (.int .u64 0)).setCell ⟨(w.heap.size + 1 + 1), 11, none⟩ (.int .u64 0)).setCell ⟨(w.heap.size + 1 + 1 + 1), 0, none⟩ (.int .u64 0)).setCell ⟨(w.heap.size + 1 + 1 + 1), 1, none⟩ (.int .u64 0)).setCell ⟨(w.heap.size + 1 + 1 + 1), 2, none⟩ (.int .u64 0)).setCell ⟨(w.heap.size + 1 + 1 + 1), 3, none⟩ (.int .u64 0)).setCell ⟨(w.heap.size + 1 + 1 + 1), 4, none⟩ (.int .u64 0)).setCell ⟨(w.heap.size + 1 + 1 + 1), 5, none⟩ (.int .u64 0)).setCell ⟨(w.heap.size + 1 + 1 + 1), 6, none⟩ (.int .u64 0)).setCell ⟨(w.heap.size + 1 + 1 + 1), 7, none⟩ (.int .u64 0)).setCell ⟨(w.heap.size + 1 + 1 + 1), 8, none⟩ (.int .u64 0)).setCell ⟨(w.heap.size + 1 + 1 + 1), 9, none⟩ (.int .u64 0)).setCell ⟨(w.heap.size + 1 + 1 + 1), 10, none⟩ (.int .u64 0)).setCell ⟨(w.heap.size + 1 + 1 + 1), 11, none⟩ (.int .u64 0)) (w.heap.size + 1 + 1 + 1) [.int .u64 0, .int .u64 0, .int .u64 0, .int .u64 0, .int .u64 0, .int .u64 0, .int .u64 0, .int .u64 0, .int .u64 0, .int .u64 0, .int .u64 0, .int .u64 0] := (BQ.set12 (by omega)).stored12 (.int .u64 0) (.int .u64 0) (.int .u64 0) (.int .u64 0) (.int .u64 0) (.int .u64 0) (.int .u64 0) (.int .u64 0) (.int .u64 0) (.int .u64 0) (.int .u64 0) (.int .u64 0)
          have HBF : Below w.heap.size w ((((((((((((((((((((((((w5.setCell ⟨(w.heap.size + 1 + 1), 0, none⟩ (.int .u64 0)).setCell ⟨(w.heap.size + 1 + 1), 1, none⟩ (.int .u64 0)).setCell ⟨(w.heap.size + 1 + 1), 2, none⟩ (.int .u64 0)).setCell ⟨(w.heap.size + 1 + 1), 3, none⟩ (.int .u64 0)).setCell ⟨(w.heap.size + 1 + 1), 4, none⟩ (.int .u64 0)).setCell ⟨(w.heap.size + 1 + 1), 5, none⟩ (.int .u64 0)).setCell ⟨(w.heap.size + 1 + 1), 6, none⟩ (.int .u64 0)).setCell ⟨(w.heap.size + 1 + 1), 7, none⟩ (.int .u64 0)).setCell ⟨(w.heap.size + 1 + 1), 8, none⟩ (.int .u64 0)).setCell ⟨(w.heap.size + 1 + 1), 9, none⟩ (.int .u64 0)).setCell ⟨(w.heap.size + 1 + 1), 10, none⟩ (.int .u64 0)).setCell ⟨(w.heap.size + 1 + 1), 11, none⟩ (.int .u64 0)).setCell ⟨(w.heap.size + 1 + 1 + 1), 0, none⟩ (.int .u64 0)).setCell ⟨(w.heap.size + 1 + 1 + 1), 1, none⟩ (.int .u64 0)).setCell ⟨(w.heap.size + 1 + 1 + 1), 2, none⟩ (.int .u64 0)).setCell ⟨(w.heap.size + 1 + 1 + 1), 3, none⟩ (.int .u64 0)).setCell ⟨(w.heap.size + 1 + 1 + 1), 4, none⟩ (.int .u64 0)).setCell ⟨(w.heap.size + 1 + 1 + 1), 5, none⟩ (.int .u64 0)).setCell ⟨(w.heap.size + 1 + 1 + 1), 6, none⟩ (.int .u64 0)).setCell ⟨(w.heap.size + 1 + 1 + 1), 7, none⟩ (.int .u64 0)).setCell ⟨(w.heap.size + 1 + 1 + 1), 8, none⟩ (.int .u64 0)).setCell ⟨(w.heap.size + 1 + 1 + 1), 9, none⟩ (.int .u64 0)).setCell ⟨(w.heap.size + 1 + 1 + 1), 10, none⟩ (.int .u64 0)).setCell ⟨(w.heap.size + 1 + 1 + 1), 11, none⟩ (.int .u64 0)) := Below.set12 (by omega) (Below.set12 (by omega) HB)
          clear BP BQ HB xc0 xf0 xc1 xf1 xc2 xf2 xc3 xf3 xc4 xf4 xc5 xf5 xc6 xf6 xc7 xf7 xc8 xf8 xc9 xf9 xc10 xf10 xc11 xf11 xl yc0 yf0 yc1 yf1 yc2 yf2 yc3 yf3 yc4 yf4 yc5 yf5 yc6 yf6 yc7 yf7 yc8 yf8 yc9 yf9 yc10 yf10 yc11 yf11 yl
          generalize ((((((((((((((((((((((((w5.setCell ⟨(w.heap.size + 1 + 1), 0, none⟩ (.int .u64 0)).setCell ⟨(w.heap.size + 1 + 1), 1, none⟩ (.int .u64 0)).setCell ⟨(w.heap.size + 1 + 1), 2, none⟩ (.int .u64 0)).setCell ⟨(w.heap.size + 1 + 1), 3, none⟩ (.int .u64 0)).setCell ⟨(w.heap.size + 1 + 1), 4, none⟩ (.int .u64 0)).setCell ⟨(w.heap.size + 1 + 1), 5, none⟩ (.int .u64 0)).setCell ⟨(w.heap.size + 1 + 1), 6, none⟩ (.int .u64 0)).setCell ⟨(w.heap.size + 1 + 1), 7, none⟩ (.int .u64 0)).setCell ⟨(w.heap.size + 1 + 1), 8, none⟩ (.int .u64 0)).setCell ⟨(w.heap.size + 1 + 1), 9, none⟩ (.int .u64 0)).setCell ⟨(w.heap.size + 1 + 1), 10, none⟩ (.int .u64 0)).setCell ⟨(w.heap.size + 1 + 1), 11, none⟩ (.int .u64 0)).setCell ⟨(w.heap.size + 1 + 1 + 1), 0, none⟩ (.int .u64 0)).setCell ⟨(w.heap.size + 1 + 1 + 1), 1, none⟩ (.int .u64 0)).setCell ⟨(w.heap.size + 1 + 1 + 1), 2, none⟩ (.int .u64 0)).setCell ⟨(w.heap.size + 1 + 1 + 1), 3, none⟩ (.int .u64 0)).setCell ⟨(w.heap.size + 1 + 1 + 1), 4, none⟩ (.int .u64 0)).setCell ⟨(w.heap.size + 1 + 1 + 1), 5, none⟩ (.int .u64 0)).setCell ⟨(w.heap.size + 1 + 1 + 1), 6, none⟩ (.int .u64 0)).setCell ⟨(w.heap.size + 1 + 1 + 1), 7, none⟩ (.int .u64 0)).setCell ⟨(w.heap.size + 1 + 1 + 1), 8, none⟩ (.int .u64 0)).setCell ⟨(w.heap.size + 1 + 1 + 1), 9, none⟩ (.int .u64 0)).setCell ⟨(w.heap.size + 1 + 1 + 1), 10, none⟩ (.int .u64 0)).setCell ⟨(w.heap.size + 1 + 1 + 1), 11, none⟩ (.int .u64 0)) = WF at *
          have m0 := F0.c 0 rfl; have n0 := F1.c 0 rfl; have m1 := F0.c 1 rfl; have n1 := F1.c 1 rfl; have m2 := F0.c 2 rfl; have n2 := F1.c 2 rfl; have m3 := F0.c 3 rfl; have n3 := F1.c 3 rfl; have m4 := F0.c 4 rfl; have n4 := F1.c 4 rfl; have m5 := F0.c 5 rfl; have n5 := F1.c 5 rfl; have m6 := F0.c 6 rfl; have n6 := F1.c 6 rfl; have m7 := F0.c 7 rfl; have n7 := F1.c 7 rfl; have m8 := F0.c 8 rfl; have n8 := F1.c 8 rfl; have m9 := F0.c 9 rfl; have n9 := F1.c 9 rfl; have m10 := F0.c 10 rfl; have n10 := F1.c 10 rfl; have m11 := F0.c 11 rfl; have n11 := F1.c 11 rfl
          refine bodyPost_ret (v := .tuple #[.int .i64 0, .agg #[.int .u64 0, .int .u64 0, .int .u64 0, .int .u64 0, .int .u64 0, .int .u64 0, .int .u64 0, .int .u64 0, .int .u64 0, .int .u64 0, .int .u64 0, .int .u64 0], .agg #[.int .u64 0, .int .u64 0, .int .u64 0, .int .u64 0, .int .u64 0, .int .u64 0, .int .u64 0, .int .u64 0, .int .u64 0, .int .u64 0, .int .u64 0, .int .u64 0]]) (by simp [results, Try.results47, go_sem, m0, n0, m1, n1, m2, n2, m3, n3, m4, n4, m5, n5, m6, n6, m7, n7, m8, n8, m9, n9, m10, n10, m11, n11]) rfl ?_
          exact ⟨by rw [HO.out], by first | exact HBF | exact HBF.drew⟩
        · have HO : Hid (meetW a b c d p q u v = .tuple #[.int .i64 1, .agg #[.int .u64 (ww3 (shareZ cx (Int.gcd (Int.gcd cx cy : Int) cw : Int) (decide (cw < 0)))), .int .u64 (ww2 (shareZ cx (Int.gcd (Int.gcd cx cy : Int) cw : Int) (decide (cw < 0)))), .int .u64 (ww1 (shareZ cx (Int.gcd (Int.gcd cx cy : Int) cw : Int) (decide (cw < 0)))), .int .u64 (ww0 (shareZ cx (Int.gcd (Int.gcd cx cy : Int) cw : Int) (decide (cw < 0)))), .int .u64 (ww3 (shareZ cy (Int.gcd (Int.gcd cx cy : Int) cw : Int) (decide (cw < 0)))), .int .u64 (ww2 (shareZ cy (Int.gcd (Int.gcd cx cy : Int) cw : Int) (decide (cw < 0)))), .int .u64 (ww1 (shareZ cy (Int.gcd (Int.gcd cx cy : Int) cw : Int) (decide (cw < 0)))), .int .u64 (ww0 (shareZ cy (Int.gcd (Int.gcd cx cy : Int) cw : Int) (decide (cw < 0)))), .int .u64 (ww3 (shareZ cw (Int.gcd (Int.gcd cx cy : Int) cw : Int) (decide (cw < 0)))), .int .u64 (ww2 (shareZ cw (Int.gcd (Int.gcd cx cy : Int) cw : Int) (decide (cw < 0)))), .int .u64 (ww1 (shareZ cw (Int.gcd (Int.gcd cx cy : Int) cw : Int) (decide (cw < 0)))), .int .u64 (ww0 (shareZ cw (Int.gcd (Int.gcd cx cy : Int) cw : Int) (decide (cw < 0))))], .agg #[.int .u64 0, .int .u64 0, .int .u64 0, .int .u64 0, .int .u64 0, .int .u64 0, .int .u64 0, .int .u64 0, .int .u64 0, .int .u64 0, .int .u64 0, .int .u64 0]]) := by show _ = _; rw [HV.out, if_neg h0]; rfl
          generalize (shareZ cx (Int.gcd (Int.gcd cx cy : Int) cw : Int) (decide (cw < 0))) = sx at *
          generalize (shareZ cy (Int.gcd (Int.gcd cx cy : Int) cw : Int) (decide (cw < 0))) = sy at *
          generalize (shareZ cw (Int.gcd (Int.gcd cx cy : Int) cw : Int) (decide (cw < 0))) = sz at *
          clear AL HV bW
          go_wp2_with fail
          refine (SM _).mono ?_
          rintro e w6 ⟨rfl, hB⟩
          replace BP := BP.step hB; replace BQ := BQ.step hB; replace HB := HB.trans (hB.mono HB.size)
          clear hB SM
          obtain ⟨xc0, xf0, xc1, xf1, xc2, xf2, xc3, xf3, xc4, xf4, xc5, xf5, xc6, xf6, xc7, xf7, xc8, xf8, xc9, xf9, xc10, xf10, xc11, xf11⟩ := BP.cf12; have xl := BP.lt; obtain ⟨yc0, yf0, yc1, yf1, yc2, yf2, yc3, yf3, yc4, yf4, yc5, yf5, yc6, yf6, yc7, yf7, yc8, yf8, yc9, yf9, yc10, yf10, yc11, yf11⟩ := BQ.cf12; have yl := BQ.lt
          go_wp2
          have F0 : Blk ((((((((((((((((((((((((w6.setCell ⟨(w.heap.size + 1 + 1), 0, none⟩ (.int .u64 (ww3 sx))).setCell ⟨(w.heap.size + 1 + 1), 1, none⟩ (.int .u64 (ww2 sx))).setCell ⟨(w.heap.size + 1 + 1), 2, none⟩ (.int .u64 (ww1 sx))).setCell ⟨(w.heap.size + 1 + 1), 3, none⟩ (.int .u64 (ww0 sx))).setCell ⟨(w.heap.size + 1 + 1), 4, none⟩ (.int .u64 (ww3 sy))).setCell ⟨(w.heap.size + 1 + 1), 5, none⟩ (.int .u64 (ww2 sy))).setCell ⟨(w.heap.size + 1 + 1), 6, none⟩ (.int .u64 (ww1 sy))).setCell ⟨(w.heap.size + 1 + 1), 7, none⟩ (.int .u64 (ww0 sy))).setCell ⟨(w.heap.size + 1 + 1), 8, none⟩ (.int .u64 (ww3 sz))).setCell ⟨(w.heap.size + 1 + 1), 9, none⟩ (.int .u64 (ww2 sz))).setCell ⟨(w.heap.size + 1 + 1), 10, none⟩ (.int .u64 (ww1 sz))).setCell ⟨(w.heap.size + 1 + 1), 11, none⟩ (.int .u64 (ww0 sz))).setCell ⟨(w.heap.size + 1 + 1 + 1), 0, none⟩ (.int .u64 0)).setCell ⟨(w.heap.size + 1 + 1 + 1), 1, none⟩ (.int .u64 0)).setCell ⟨(w.heap.size + 1 + 1 + 1), 2, none⟩ (.int .u64 0)).setCell ⟨(w.heap.size + 1 + 1 + 1), 3, none⟩ (.int .u64 0)).setCell ⟨(w.heap.size + 1 + 1 + 1), 4, none⟩ (.int .u64 0)).setCell ⟨(w.heap.size + 1 + 1 + 1), 5, none⟩ (.int .u64 0)).setCell ⟨(w.heap.size + 1 + 1 + 1), 6, none⟩ (.int .u64 0)).setCell ⟨(w.heap.size + 1 + 1 + 1), 7, none⟩ (.int .u64 0)).setCell ⟨(w.heap.size + 1 + 1 + 1), 8, none⟩ (.int .u64 0)).setCell ⟨(w.heap.size + 1 + 1 + 1), 9, none⟩ (.int .u64 0)).setCell ⟨(w.heap.size + 1 + 1 + 1), 10, none⟩ (.int .u64 0)).setCell ⟨(w.heap.size + 1 + 1 + 1), 11, none⟩ (.int .u64 0)) (w.heap.size + 1 + 1) [.int .u64 (ww3 sx), .int .u64 (ww2 sx), .int .u64 (ww1 sx), .int .u64 (ww0 sx), .int .u64 (ww3 sy), .int .u64 (ww2 sy), .int .u64 (ww1 sy), .int .u64 (ww0 sy), .int .u64 (ww3 sz), .int .u64 (ww2 sz), .int .u64 (ww1 sz), .int .u64 (ww0 sz)] := (BP.stored12 (.int .u64 (ww3 sx)) (.int .u64 (ww2 sx)) (.int .u64 (ww1 sx)) (.int .u64 (ww0 sx)) (.int .u64 (ww3 sy)) (.int .u64 (ww2 sy)) (.int .u64 (ww1 sy)) (.int .u64 (ww0 sy)) (.int .u64 (ww3 sz)) (.int .u64 (ww2 sz)) (.int .u64 (ww1 sz)) (.int .u64 (ww0 sz))).set12 (by omega)
          have F1 : Blk ((((((((((((((((((((((((w6.setCell ⟨(w.heap.size + 1 + 1), 0, none⟩ (.int .u64 (ww3 sx))).setCell ⟨(w.heap.size + 1 + 1), 1, none⟩ (.int .u64 (ww2 sx))).setCell ⟨(w.heap.size + 1 + 1), 2, none⟩ (.int .u64 (ww1 sx))).setCell ⟨(w.heap.size + 1 + 1), 3, none⟩ (.int .u64 (ww0 sx))).setCell ⟨(w.heap.size + 1 + 1), 4, none⟩ (.int .u64 (ww3 sy))).setCell ⟨(w.heap.size + 1 + 1), 5, none⟩ (.int .u64 (ww2 sy))).setCell ⟨(w.heap.size + 1 + 1), 6, none⟩ (.int .u64 (ww1 sy))).setCell ⟨(w.heap.size + 1 + 1), 7, none⟩ (.int .u64 (ww0 sy))).setCell ⟨(w.heap.size + 1 + 1), 8, none⟩ (.int .u64 (ww3 sz))).setCell ⟨(w.heap.size + 1 + 1), 9, none⟩ (.int .u64 (ww2 sz))).setCell ⟨(w.heap.size + 1 + 1), 10, none⟩ (.int .u64 (ww1 sz))).setCell ⟨(w.heap.size + 1 + 1), 11, none⟩ (.int .u64 (ww0 sz))).setCell ⟨(w.heap.size + 1 + 1 + 1), 0, none⟩ (.int .u64 0)).setCell ⟨(w.heap.size + 1 + 1 + 1), 1, none⟩ (.int .u64 0)).setCell ⟨(w.heap.size + 1 + 1 + 1), 2, none⟩ (.int .u64 0)).setCell ⟨(w.heap.size + 1 + 1 + 1), 3, none⟩ (.int .u64 0)).setCell ⟨(w.heap.size + 1 + 1 + 1), 4, none⟩ (.int .u64 0)).setCell ⟨(w.heap.size + 1 + 1 + 1), 5, none⟩ (.int .u64 0)).setCell ⟨(w.heap.size + 1 + 1 + 1), 6, none⟩ (.int .u64 0)).setCell ⟨(w.heap.size + 1 + 1 + 1), 7, none⟩ (.int .u64 0)).setCell ⟨(w.heap.size + 1 + 1 + 1), 8, none⟩ (.int .u64 0)).setCell ⟨(w.heap.size + 1 + 1 + 1), 9, none⟩ (.int .u64 0)).setCell ⟨(w.heap.size + 1 + 1 + 1), 10, none⟩ (.int .u64 0)).setCell ⟨(w.heap.size + 1 + 1 + 1), 11, none⟩ (.int .u64 0)) (w.heap.size + 1 + 1 + 1) [.int .u64 0, .int .u64 0, .int .u64 0, .int .u64 0, .int .u64 0, .int .u64 0, .int .u64 0, .int .u64 0, .int .u64 0, .int .u64 0, .int .u64 0, .int .u64 0] := (BQ.set12 (by omega)).stored12 (.int .u64 0) (.int .u64 0) (.int .u64 0) (.int .u64 0) (.int .u64 0) (.int .u64 0) (.int .u64 0) (.int .u64 0) (.int .u64 0) (.int .u64 0) (.int .u64 0) (.int .u64 0)
          have HBF : Below w.heap.size w ((((((((((((((((((((((((w6.setCell ⟨(w.heap.size + 1 + 1), 0, none⟩ (.int .u64 (ww3 sx))).setCell ⟨(w.heap.size + 1 + 1), 1, none⟩ (.int .u64 (ww2 sx))).setCell ⟨(w.heap.size + 1 + 1), 2, none⟩ (.int .u64 (ww1 sx))).setCell ⟨(w.heap.size + 1 + 1), 3, none⟩ (.int .u64 (ww0 sx))).setCell ⟨(w.heap.size + 1 + 1), 4, none⟩ (.int .u64 (ww3 sy))).setCell ⟨(w.heap.size + 1 + 1), 5, none⟩ (.int .u64 (ww2 sy))).setCell ⟨(w.heap.size + 1 + 1), 6, none⟩ (.int .u64 (ww1 sy))).setCell ⟨(w.heap.size + 1 + 1), 7, none⟩ (.int .u64 (ww0 sy))).setCell ⟨(w.heap.size + 1 + 1), 8, none⟩ (.int .u64 (ww3 sz))).setCell ⟨(w.heap.size + 1 + 1), 9, none⟩ (.int .u64 (ww2 sz))).setCell ⟨(w.heap.size + 1 + 1), 10, none⟩ (.int .u64 (ww1 sz))).setCell ⟨(w.heap.size + 1 + 1), 11, none⟩ (.int .u64 (ww0 sz))).setCell ⟨(w.heap.size + 1 + 1 + 1), 0, none⟩ (.int .u64 0)).setCell ⟨(w.heap.size + 1 + 1 + 1), 1, none⟩ (.int .u64 0)).setCell ⟨(w.heap.size + 1 + 1 + 1), 2, none⟩ (.int .u64 0)).setCell ⟨(w.heap.size + 1 + 1 + 1), 3, none⟩ (.int .u64 0)).setCell ⟨(w.heap.size + 1 + 1 + 1), 4, none⟩ (.int .u64 0)).setCell ⟨(w.heap.size + 1 + 1 + 1), 5, none⟩ (.int .u64 0)).setCell ⟨(w.heap.size + 1 + 1 + 1), 6, none⟩ (.int .u64 0)).setCell ⟨(w.heap.size + 1 + 1 + 1), 7, none⟩ (.int .u64 0)).setCell ⟨(w.heap.size + 1 + 1 + 1), 8, none⟩ (.int .u64 0)).setCell ⟨(w.heap.size + 1 + 1 + 1), 9, none⟩ (.int .u64 0)).setCell ⟨(w.heap.size + 1 + 1 + 1), 10, none⟩ (.int .u64 0)).setCell ⟨(w.heap.size + 1 + 1 + 1), 11, none⟩ (.int .u64 0)) := Below.set12 (by omega) (Below.set12 (by omega) HB)
          clear BP BQ HB xc0 xf0 xc1 xf1 xc2 xf2 xc3 xf3 xc4 xf4 xc5 xf5 xc6 xf6 xc7 xf7 xc8 xf8 xc9 xf9 xc10 xf10 xc11 xf11 xl yc0 yf0 yc1 yf1 yc2 yf2 yc3 yf3 yc4 yf4 yc5 yf5 yc6 yf6 yc7 yf7 yc8 yf8 yc9 yf9 yc10 yf10 yc11 yf11 yl
          generalize ((((((((((((((((((((((((w6.setCell ⟨(w.heap.size + 1 + 1), 0, none⟩ (.int .u64 (ww3 sx))).setCell ⟨(w.heap.size + 1 + 1), 1, none⟩ (.int .u64 (ww2 sx))).setCell ⟨(w.heap.size + 1 + 1), 2, none⟩ (.int .u64 (ww1 sx))).setCell ⟨(w.heap.size + 1 + 1), 3, none⟩ (.int .u64 (ww0 sx))).setCell ⟨(w.heap.size + 1 + 1), 4, none⟩ (.int .u64 (ww3 sy))).setCell ⟨(w.heap.size + 1 + 1), 5, none⟩ (.int .u64 (ww2 sy))).setCell ⟨(w.heap.size + 1 + 1), 6, none⟩ (.int .u64 (ww1 sy))).setCell ⟨(w.heap.size + 1 + 1), 7, none⟩ (.int .u64 (ww0 sy))).setCell ⟨(w.heap.size + 1 + 1), 8, none⟩ (.int .u64 (ww3 sz))).setCell ⟨(w.heap.size + 1 + 1), 9, none⟩ (.int .u64 (ww2 sz))).setCell ⟨(w.heap.size + 1 + 1), 10, none⟩ (.int .u64 (ww1 sz))).setCell ⟨(w.heap.size + 1 + 1), 11, none⟩ (.int .u64 (ww0 sz))).setCell ⟨(w.heap.size + 1 + 1 + 1), 0, none⟩ (.int .u64 0)).setCell ⟨(w.heap.size + 1 + 1 + 1), 1, none⟩ (.int .u64 0)).setCell ⟨(w.heap.size + 1 + 1 + 1), 2, none⟩ (.int .u64 0)).setCell ⟨(w.heap.size + 1 + 1 + 1), 3, none⟩ (.int .u64 0)).setCell ⟨(w.heap.size + 1 + 1 + 1), 4, none⟩ (.int .u64 0)).setCell ⟨(w.heap.size + 1 + 1 + 1), 5, none⟩ (.int .u64 0)).setCell ⟨(w.heap.size + 1 + 1 + 1), 6, none⟩ (.int .u64 0)).setCell ⟨(w.heap.size + 1 + 1 + 1), 7, none⟩ (.int .u64 0)).setCell ⟨(w.heap.size + 1 + 1 + 1), 8, none⟩ (.int .u64 0)).setCell ⟨(w.heap.size + 1 + 1 + 1), 9, none⟩ (.int .u64 0)).setCell ⟨(w.heap.size + 1 + 1 + 1), 10, none⟩ (.int .u64 0)).setCell ⟨(w.heap.size + 1 + 1 + 1), 11, none⟩ (.int .u64 0)) = WF at *
          have m0 := F0.c 0 rfl; have n0 := F1.c 0 rfl; have m1 := F0.c 1 rfl; have n1 := F1.c 1 rfl; have m2 := F0.c 2 rfl; have n2 := F1.c 2 rfl; have m3 := F0.c 3 rfl; have n3 := F1.c 3 rfl; have m4 := F0.c 4 rfl; have n4 := F1.c 4 rfl; have m5 := F0.c 5 rfl; have n5 := F1.c 5 rfl; have m6 := F0.c 6 rfl; have n6 := F1.c 6 rfl; have m7 := F0.c 7 rfl; have n7 := F1.c 7 rfl; have m8 := F0.c 8 rfl; have n8 := F1.c 8 rfl; have m9 := F0.c 9 rfl; have n9 := F1.c 9 rfl; have m10 := F0.c 10 rfl; have n10 := F1.c 10 rfl; have m11 := F0.c 11 rfl; have n11 := F1.c 11 rfl
          refine bodyPost_ret (v := .tuple #[.int .i64 1, .agg #[.int .u64 (ww3 sx), .int .u64 (ww2 sx), .int .u64 (ww1 sx), .int .u64 (ww0 sx), .int .u64 (ww3 sy), .int .u64 (ww2 sy), .int .u64 (ww1 sy), .int .u64 (ww0 sy), .int .u64 (ww3 sz), .int .u64 (ww2 sz), .int .u64 (ww1 sz), .int .u64 (ww0 sz)], .agg #[.int .u64 0, .int .u64 0, .int .u64 0, .int .u64 0, .int .u64 0, .int .u64 0, .int .u64 0, .int .u64 0, .int .u64 0, .int .u64 0, .int .u64 0, .int .u64 0]]) (by simp [results, Try.results47, go_sem, m0, n0, m1, n1, m2, n2, m3, n3, m4, n4, m5, n5, m6, n6, m7, n7, m8, n8, m9, n9, m10, n10, m11, n11]) rfl ?_
          exact ⟨by rw [HO.out], by first | exact HBF | exact HBF.drew⟩)
theorem in1_seg {a b c d : Int} (h : segOk a b c d = true) : In1 a ∧ In1 b ∧ In1 c ∧ In1 d := by
  unfold segOk spotOk at h
  simp only [Bool.and_eq_true, decide_eq_true_eq] at h
  obtain ⟨⟨h1, h2⟩, -⟩ := h
  exact ⟨⟨h1.1, h1.2.1⟩, ⟨h1.2.2.1, h1.2.2.2⟩, ⟨h2.1, h2.2.1⟩, ⟨h2.2.2.1, h2.2.2.2⟩⟩
end Go.Proofs.Ytibbjjlapglndaa

/- Where two segments meet: what is reckoned of the model's walk. -/
namespace Go.Proofs.Ytibbjjlapglndaa
open Go.RowKit
theorem Blk.set6 {W : World} {vs : List Value} {v0 v1 v2 v3 v4 v5 : Value} {g g' : Nat} (G : Blk W g' vs) (hg : g' ≠ g) : Blk ((((((W.setCell ⟨g, 0, none⟩ (v0)).setCell ⟨g, 1, none⟩ (v1)).setCell ⟨g, 2, none⟩ (v2)).setCell ⟨g, 3, none⟩ (v3)).setCell ⟨g, 4, none⟩ (v4)).setCell ⟨g, 5, none⟩ (v5)) g' vs := (((((G.setO (by exact hg) _).setO (by exact hg) _).setO (by exact hg) _).setO (by exact hg) _).setO (by exact hg) _).setO (by exact hg) _
/-- Three numbers of the model, side by side. -/
def L3A (w : World) (v : Value) (x y z : Int) : Prop :=
  ∃ (s1 : Bool) (o1 : Option Addr) (n1 c1 : Nat) (d1 : List Int) (s2 : Bool) (o2 : Option Addr) (n2 c2 : Nat) (d2 : List Int) (s3 : Bool) (o3 : Option Addr) (n3 c3 : Nat) (d3 : List Int), v = .agg #[.bool s1, .slice o1 n1 c1, .bool s2, .slice o2 n2 c2, .bool s3, .slice o3 n3 c3] ∧ IsNum w s1 o1 n1 c1 d1 x 8 ∧ IsNum w s2 o2 n2 c2 d2 y 8 ∧ IsNum w s3 o3 n3 c3 d3 z 8
def MtP (a b c d p q u v : Int) (w : World) (e : Ending) (w' : World) : Prop := Below w.heap.size w w' ∧
  ((meetW a b c d p q u v = .tuple #[.int .i64 0, .agg #[.int .u64 0, .int .u64 0, .int .u64 0, .int .u64 0, .int .u64 0, .int .u64 0, .int .u64 0, .int .u64 0, .int .u64 0, .int .u64 0, .int .u64 0, .int .u64 0], .agg #[.int .u64 0, .int .u64 0, .int .u64 0, .int .u64 0, .int .u64 0, .int .u64 0, .int .u64 0, .int .u64 0, .int .u64 0, .int .u64 0, .int .u64 0, .int .u64 0]] ∧ e = .returned (.tuple #[.int .i64 0, .agg #[.bool false, .slice none 0 0, .bool false, .slice none 0 0, .bool false, .slice none 0 0], .agg #[.bool false, .slice none 0 0, .bool false, .slice none 0 0, .bool false, .slice none 0 0]])) ∨
   (∃ (x y z : Int) (r : Value), meetW a b c d p q u v = .tuple #[.int .i64 1, .agg #[.int .u64 (ww3 x), .int .u64 (ww2 x), .int .u64 (ww1 x), .int .u64 (ww0 x), .int .u64 (ww3 y), .int .u64 (ww2 y), .int .u64 (ww1 y), .int .u64 (ww0 y), .int .u64 (ww3 z), .int .u64 (ww2 z), .int .u64 (ww1 z), .int .u64 (ww0 z)], .agg #[.int .u64 0, .int .u64 0, .int .u64 0, .int .u64 0, .int .u64 0, .int .u64 0, .int .u64 0, .int .u64 0, .int .u64 0, .int .u64 0, .int .u64 0, .int .u64 0]] ∧ small x = true ∧ small y = true ∧ small z = true ∧ e = .returned (.tuple #[.int .i64 1, r, .agg #[.bool false, .slice none 0 0, .bool false, .slice none 0 0, .bool false, .slice none 0 0]]) ∧ L3A w' r x y z) ∨
   (∃ (x y x' y' : Int) (r r' : Value), meetW a b c d p q u v = .tuple #[.int .i64 2, .agg #[.int .u64 (ww3 x), .int .u64 (ww2 x), .int .u64 (ww1 x), .int .u64 (ww0 x), .int .u64 (ww3 y), .int .u64 (ww2 y), .int .u64 (ww1 y), .int .u64 (ww0 y), .int .u64 (ww3 1), .int .u64 (ww2 1), .int .u64 (ww1 1), .int .u64 (ww0 1)], .agg #[.int .u64 (ww3 x'), .int .u64 (ww2 x'), .int .u64 (ww1 x'), .int .u64 (ww0 x'), .int .u64 (ww3 y'), .int .u64 (ww2 y'), .int .u64 (ww1 y'), .int .u64 (ww0 y'), .int .u64 (ww3 1), .int .u64 (ww2 1), .int .u64 (ww1 1), .int .u64 (ww0 1)]] ∧ small x = true ∧ small y = true ∧ small x' = true ∧ small y' = true ∧ e = .returned (.tuple #[.int .i64 2, r, r']) ∧ L3A w' r x y 1 ∧ L3A w' r' x' y' 1))
theorem turn_diff (a b c d p q u v : Int) : turnZ a b c d u v - turnZ a b c d p q = ((b - d) * (u - p) - (q - v) * (c - a)) := by unfold turnZ; grind
theorem sgZ_z {t : Int} : sgZ t = 0 ↔ t = 0 := by unfold sgZ; repeat' split <;> omega
theorem sgZ_mul (t t' : Int) : (0 < sgZ t * sgZ t' ↔ (0 < t ∧ 0 < t') ∨ (t < 0 ∧ t' < 0)) ∧ -1 ≤ sgZ t * sgZ t' ∧ sgZ t * sgZ t' ≤ 1 := by
  have e : ∀ t, (t < 0 ∧ sgZ t = -1) ∨ (t = 0 ∧ sgZ t = 0) ∨ (0 < t ∧ sgZ t = 1) := by
    intro t
    unfold sgZ
    repeat' split
    all_goals omega
  rcases e t with ⟨h, e1⟩ | ⟨h, e1⟩ | ⟨h, e1⟩ <;> rcases e t' with ⟨h', e2⟩ | ⟨h', e2⟩ | ⟨h', e2⟩ <;> rw [e1, e2] <;> omega
theorem pt2_no {t t' : Int} (h : 0 < sgZ t * sgZ t') : pt2 t t' = false := by
  have := (sgZ_mul t t').1.1 h
  unfold pt2
  rcases this with ⟨h1, h2⟩ | ⟨h1, h2⟩
  · rw [decide_eq_false (show ¬ t ≤ 0 by omega), decide_eq_false (show ¬ t' ≤ 0 by omega)]; simp
  · rw [decide_eq_false (show ¬ 0 ≤ t by omega), decide_eq_false (show ¬ 0 ≤ t' by omega)]; simp
theorem pt2_yes {t t' : Int} (h : ¬ 0 < sgZ t * sgZ t') : pt2 t t' = true := by
  have h0 : ¬ ((0 < t ∧ 0 < t') ∨ (t < 0 ∧ t' < 0)) := fun k => h ((sgZ_mul t t').1.2 k)
  unfold pt2
  simp only [Bool.and_eq_true, Bool.or_eq_true, decide_eq_true_eq]
  omega
theorem meet_w0 {a b c d p q u v : Int} (h : ¬ (turnZ a b c d p q = 0 ∧ turnZ a b c d u v = 0)) (g : ¬ 0 < sgZ (turnZ a b c d p q) * sgZ (turnZ a b c d u v)) : ((b - d) * (u - p) - (q - v) * (c - a)) ≠ 0 := by
  intro h0
  have hd := turn_diff a b c d p q u v
  rw [h0] at hd
  have hh : turnZ a b c d u v = turnZ a b c d p q := by omega
  rw [hh] at h g
  apply g
  apply (sgZ_mul _ _).1.2
  omega
theorem meet_none1 {a b c d p q u v : Int} (h : ¬ (turnZ a b c d p q = 0 ∧ turnZ a b c d u v = 0)) (g : 0 < sgZ (turnZ a b c d p q) * sgZ (turnZ a b c d u v)) : meetW a b c d p q u v = .tuple #[.int .i64 0, .agg #[.int .u64 0, .int .u64 0, .int .u64 0, .int .u64 0, .int .u64 0, .int .u64 0, .int .u64 0, .int .u64 0, .int .u64 0, .int .u64 0, .int .u64 0, .int .u64 0], .agg #[.int .u64 0, .int .u64 0, .int .u64 0, .int .u64 0, .int .u64 0, .int .u64 0, .int .u64 0, .int .u64 0, .int .u64 0, .int .u64 0, .int .u64 0, .int .u64 0]] := by
  unfold meetW
  by_cases h0 : ((b - d) * (u - p) - (q - v) * (c - a)) = 0
  · rw [if_pos h0]
    have hd := turn_diff a b c d p q u v
    rw [h0] at hd
    unfold alongV
    rw [if_pos (Or.inl (by omega))]
  · rw [if_neg h0, pt2_no g]
    rfl
theorem meet_none2 {a b c d p q u v : Int} (h : ¬ (turnZ a b c d p q = 0 ∧ turnZ a b c d u v = 0)) (g : ¬ 0 < sgZ (turnZ a b c d p q) * sgZ (turnZ a b c d u v)) (g' : 0 < sgZ (turnZ p q u v a b) * sgZ (turnZ p q u v c d)) : meetW a b c d p q u v = .tuple #[.int .i64 0, .agg #[.int .u64 0, .int .u64 0, .int .u64 0, .int .u64 0, .int .u64 0, .int .u64 0, .int .u64 0, .int .u64 0, .int .u64 0, .int .u64 0, .int .u64 0, .int .u64 0], .agg #[.int .u64 0, .int .u64 0, .int .u64 0, .int .u64 0, .int .u64 0, .int .u64 0, .int .u64 0, .int .u64 0, .int .u64 0, .int .u64 0, .int .u64 0, .int .u64 0]] := by
  unfold meetW
  rw [if_neg (meet_w0 h g), pt2_no g', Bool.and_false]
  rfl
theorem meet_pt {a b c d p q u v : Int} (h : ¬ (turnZ a b c d p q = 0 ∧ turnZ a b c d u v = 0)) (g : ¬ 0 < sgZ (turnZ a b c d p q) * sgZ (turnZ a b c d u v)) (g' : ¬ 0 < sgZ (turnZ p q u v a b) * sgZ (turnZ p q u v c d)) : meetW a b c d p q u v = .tuple #[.int .i64 1, .agg #[.int .u64 (ww3 (shareZ ((c - a) * (p * v - q * u) - (u - p) * (a * d - b * c)) (Int.gcd (Int.gcd ((c - a) * (p * v - q * u) - (u - p) * (a * d - b * c)) ((a * d - b * c) * (q - v) - (p * v - q * u) * (b - d)) : Int) ((b - d) * (u - p) - (q - v) * (c - a)) : Int) (decide (((b - d) * (u - p) - (q - v) * (c - a)) < 0)))), .int .u64 (ww2 (shareZ ((c - a) * (p * v - q * u) - (u - p) * (a * d - b * c)) (Int.gcd (Int.gcd ((c - a) * (p * v - q * u) - (u - p) * (a * d - b * c)) ((a * d - b * c) * (q - v) - (p * v - q * u) * (b - d)) : Int) ((b - d) * (u - p) - (q - v) * (c - a)) : Int) (decide (((b - d) * (u - p) - (q - v) * (c - a)) < 0)))), .int .u64 (ww1 (shareZ ((c - a) * (p * v - q * u) - (u - p) * (a * d - b * c)) (Int.gcd (Int.gcd ((c - a) * (p * v - q * u) - (u - p) * (a * d - b * c)) ((a * d - b * c) * (q - v) - (p * v - q * u) * (b - d)) : Int) ((b - d) * (u - p) - (q - v) * (c - a)) : Int) (decide (((b - d) * (u - p) - (q - v) * (c - a)) < 0)))), .int .u64 (ww0 (shareZ ((c - a) * (p * v - q * u) - (u - p) * (a * d - b * c)) (Int.gcd (Int.gcd ((c - a) * (p * v - q * u) - (u - p) * (a * d - b * c)) ((a * d - b * c) * (q - v) - (p * v - q * u) * (b - d)) : Int) ((b - d) * (u - p) - (q - v) * (c - a)) : Int) (decide (((b - d) * (u - p) - (q - v) * (c - a)) < 0)))), .int .u64 (ww3 (shareZ ((a * d - b * c) * (q - v) - (p * v - q * u) * (b - d)) (Int.gcd (Int.gcd ((c - a) * (p * v - q * u) - (u - p) * (a * d - b * c)) ((a * d - b * c) * (q - v) - (p * v - q * u) * (b - d)) : Int) ((b - d) * (u - p) - (q - v) * (c - a)) : Int) (decide (((b - d) * (u - p) - (q - v) * (c - a)) < 0)))), .int .u64 (ww2 (shareZ ((a * d - b * c) * (q - v) - (p * v - q * u) * (b - d)) (Int.gcd (Int.gcd ((c - a) * (p * v - q * u) - (u - p) * (a * d - b * c)) ((a * d - b * c) * (q - v) - (p * v - q * u) * (b - d)) : Int) ((b - d) * (u - p) - (q - v) * (c - a)) : Int) (decide (((b - d) * (u - p) - (q - v) * (c - a)) < 0)))), .int .u64 (ww1 (shareZ ((a * d - b * c) * (q - v) - (p * v - q * u) * (b - d)) (Int.gcd (Int.gcd ((c - a) * (p * v - q * u) - (u - p) * (a * d - b * c)) ((a * d - b * c) * (q - v) - (p * v - q * u) * (b - d)) : Int) ((b - d) * (u - p) - (q - v) * (c - a)) : Int) (decide (((b - d) * (u - p) - (q - v) * (c - a)) < 0)))), .int .u64 (ww0 (shareZ ((a * d - b * c) * (q - v) - (p * v - q * u) * (b - d)) (Int.gcd (Int.gcd ((c - a) * (p * v - q * u) - (u - p) * (a * d - b * c)) ((a * d - b * c) * (q - v) - (p * v - q * u) * (b - d)) : Int) ((b - d) * (u - p) - (q - v) * (c - a)) : Int) (decide (((b - d) * (u - p) - (q - v) * (c - a)) < 0)))), .int .u64 (ww3 (shareZ ((b - d) * (u - p) - (q - v) * (c - a)) (Int.gcd (Int.gcd ((c - a) * (p * v - q * u) - (u - p) * (a * d - b * c)) ((a * d - b * c) * (q - v) - (p * v - q * u) * (b - d)) : Int) ((b - d) * (u - p) - (q - v) * (c - a)) : Int) (decide (((b - d) * (u - p) - (q - v) * (c - a)) < 0)))), .int .u64 (ww2 (shareZ ((b - d) * (u - p) - (q - v) * (c - a)) (Int.gcd (Int.gcd ((c - a) * (p * v - q * u) - (u - p) * (a * d - b * c)) ((a * d - b * c) * (q - v) - (p * v - q * u) * (b - d)) : Int) ((b - d) * (u - p) - (q - v) * (c - a)) : Int) (decide (((b - d) * (u - p) - (q - v) * (c - a)) < 0)))), .int .u64 (ww1 (shareZ ((b - d) * (u - p) - (q - v) * (c - a)) (Int.gcd (Int.gcd ((c - a) * (p * v - q * u) - (u - p) * (a * d - b * c)) ((a * d - b * c) * (q - v) - (p * v - q * u) * (b - d)) : Int) ((b - d) * (u - p) - (q - v) * (c - a)) : Int) (decide (((b - d) * (u - p) - (q - v) * (c - a)) < 0)))), .int .u64 (ww0 (shareZ ((b - d) * (u - p) - (q - v) * (c - a)) (Int.gcd (Int.gcd ((c - a) * (p * v - q * u) - (u - p) * (a * d - b * c)) ((a * d - b * c) * (q - v) - (p * v - q * u) * (b - d)) : Int) ((b - d) * (u - p) - (q - v) * (c - a)) : Int) (decide (((b - d) * (u - p) - (q - v) * (c - a)) < 0))))], .agg #[.int .u64 0, .int .u64 0, .int .u64 0, .int .u64 0, .int .u64 0, .int .u64 0, .int .u64 0, .int .u64 0, .int .u64 0, .int .u64 0, .int .u64 0, .int .u64 0]] := by
  unfold meetW
  rw [if_neg (meet_w0 h g), pt2_yes g, pt2_yes g', if_pos (by rfl)]
theorem meet_along {a b c d p q u v : Int} (h : turnZ a b c d p q = 0) (h' : turnZ a b c d u v = 0) : meetW a b c d p q u v = alongV a b c d p q u v := by
  have hd := turn_diff a b c d p q u v
  unfold meetW
  rw [if_pos (by omega)]
theorem bnd_x (a b c d p q u v : Int) (ha : In1 a) (hb : In1 b) (hc : In1 c) (hd : In1 d) (hp : In1 p) (hq : In1 q) (hu : In1 u) (hv : In1 v) : -9000000000000000000 ≤ ((c - a) * (p * v - q * u) - (u - p) * (a * d - b * c)) ∧ ((c - a) * (p * v - q * u) - (u - p) * (a * d - b * c)) ≤ 9000000000000000000 := by
  obtain ⟨x1, x2⟩ := mul_in (p := a) (q := d) (M := 1000000) (N := 1000000) ha.1 ha.2 hd.1 hd.2
  obtain ⟨x3, x4⟩ := mul_in (p := b) (q := c) (M := 1000000) (N := 1000000) hb.1 hb.2 hc.1 hc.2
  obtain ⟨y1, y2⟩ := mul_in (p := p) (q := v) (M := 1000000) (N := 1000000) hp.1 hp.2 hv.1 hv.2
  obtain ⟨y3, y4⟩ := mul_in (p := q) (q := u) (M := 1000000) (N := 1000000) hq.1 hq.2 hu.1 hu.2
  have e1 := mul_in (p := c - a) (q := p * v - q * u) (M := 2000000) (N := 2000000000000) (by omega) (by omega) (by omega) (by omega)
  have e2 := mul_in (p := u - p) (q := a * d - b * c) (M := 2000000) (N := 2000000000000) (by omega) (by omega) (by omega) (by omega)
  omega
theorem bnd_y (a b c d p q u v : Int) (ha : In1 a) (hb : In1 b) (hc : In1 c) (hd : In1 d) (hp : In1 p) (hq : In1 q) (hu : In1 u) (hv : In1 v) : -9000000000000000000 ≤ ((a * d - b * c) * (q - v) - (p * v - q * u) * (b - d)) ∧ ((a * d - b * c) * (q - v) - (p * v - q * u) * (b - d)) ≤ 9000000000000000000 := by
  obtain ⟨x1, x2⟩ := mul_in (p := a) (q := d) (M := 1000000) (N := 1000000) ha.1 ha.2 hd.1 hd.2
  obtain ⟨x3, x4⟩ := mul_in (p := b) (q := c) (M := 1000000) (N := 1000000) hb.1 hb.2 hc.1 hc.2
  obtain ⟨y1, y2⟩ := mul_in (p := p) (q := v) (M := 1000000) (N := 1000000) hp.1 hp.2 hv.1 hv.2
  obtain ⟨y3, y4⟩ := mul_in (p := q) (q := u) (M := 1000000) (N := 1000000) hq.1 hq.2 hu.1 hu.2
  have e1 := mul_in (p := a * d - b * c) (q := q - v) (M := 2000000000000) (N := 2000000) (by omega) (by omega) (by omega) (by omega)
  have e2 := mul_in (p := p * v - q * u) (q := b - d) (M := 2000000000000) (N := 2000000) (by omega) (by omega) (by omega) (by omega)
  omega
theorem bnd_w (a b c d p q u v : Int) (ha : In1 a) (hb : In1 b) (hc : In1 c) (hd : In1 d) (hp : In1 p) (hq : In1 q) (hu : In1 u) (hv : In1 v) : -8000000000000 ≤ ((b - d) * (u - p) - (q - v) * (c - a)) ∧ ((b - d) * (u - p) - (q - v) * (c - a)) ≤ 8000000000000 := by
  obtain ⟨x1, x2⟩ := mul_in (p := a) (q := d) (M := 1000000) (N := 1000000) ha.1 ha.2 hd.1 hd.2
  obtain ⟨x3, x4⟩ := mul_in (p := b) (q := c) (M := 1000000) (N := 1000000) hb.1 hb.2 hc.1 hc.2
  obtain ⟨y1, y2⟩ := mul_in (p := p) (q := v) (M := 1000000) (N := 1000000) hp.1 hp.2 hv.1 hv.2
  obtain ⟨y3, y4⟩ := mul_in (p := q) (q := u) (M := 1000000) (N := 1000000) hq.1 hq.2 hu.1 hu.2
  have e1 := mul_in (p := b - d) (q := u - p) (M := 2000000) (N := 2000000) (by omega) (by omega) (by omega) (by omega)
  have e2 := mul_in (p := q - v) (q := c - a) (M := 2000000) (N := 2000000) (by omega) (by omega) (by omega) (by omega)
  omega
theorem m4_keep0 {a b c d p q u v : Int} {w W : World} {gd gn : Nat} {ds ns : Bool} {do1 no : Option Addr} {dn dc nn nc : Nat} (T0 : ArgsB w W [[.int .i64 a, .int .i64 b, .int .i64 c, .int .i64 d], [.int .i64 p, .int .i64 q, .int .i64 u, .int .i64 v], [.bool false, .slice none 0 0, .bool false, .slice none 0 0, .bool false, .slice none 0 0], [.bool false, .slice none 0 0, .bool false, .slice none 0 0, .bool false, .slice none 0 0]]) (Bd : Blk W gd [.bool ds, .slice do1 dn dc]) (Bn : Blk W gn [.bool ns, .slice no nn nc]) : (fun w' => w'.cell? ⟨w.heap.size, 0, none⟩ = some (.int .i64 a) ∧ w'.cell? ⟨gd, 0, none⟩ = some (.bool ds) ∧ w'.cell? ⟨gd, 1, none⟩ = some (.slice do1 dn dc) ∧ w'.cell? ⟨gn, 0, none⟩ = some (.bool ns) ∧ w'.cell? ⟨gn, 1, none⟩ = some (.slice no nn nc)) W := ⟨(T0.b 0 rfl).c 0 rfl, Bd.c 0 rfl, Bd.c 1 rfl, Bn.c 0 rfl, Bn.c 1 rfl⟩
theorem m4_keep1 {a b c d p q u v : Int} {w W : World} {gd gn : Nat} {ds ns : Bool} {do1 no : Option Addr} {dn dc nn nc : Nat} (T0 : ArgsB w W [[.int .i64 a, .int .i64 b, .int .i64 c, .int .i64 d], [.int .i64 p, .int .i64 q, .int .i64 u, .int .i64 v], [.bool false, .slice none 0 0, .bool false, .slice none 0 0, .bool false, .slice none 0 0], [.bool false, .slice none 0 0, .bool false, .slice none 0 0, .bool false, .slice none 0 0]]) (Bd : Blk W gd [.bool ds, .slice do1 dn dc]) (Bn : Blk W gn [.bool ns, .slice no nn nc]) : (fun w' => w'.cell? ⟨w.heap.size, 1, none⟩ = some (.int .i64 b) ∧ w'.cell? ⟨gd, 0, none⟩ = some (.bool ds) ∧ w'.cell? ⟨gd, 1, none⟩ = some (.slice do1 dn dc) ∧ w'.cell? ⟨gn, 0, none⟩ = some (.bool ns) ∧ w'.cell? ⟨gn, 1, none⟩ = some (.slice no nn nc)) W := ⟨(T0.b 0 rfl).c 1 rfl, Bd.c 0 rfl, Bd.c 1 rfl, Bn.c 0 rfl, Bn.c 1 rfl⟩
end Go.Proofs.Ytibbjjlapglndaa

/- Rings by their spots: the kind of meeting of two sides, what is at fault: the reckoning. -/
namespace Go.Proofs.Ytibbjjlapglndaa
open Go.RowKit
/-- The kind of meeting of two segments. -/
def kndZ (a b c d p q u v : Int) : Int :=
  if ((b - d) * (u - p) - (q - v) * (c - a)) = 0 then
    (if turnZ a b c d p q ≠ 0 ∨ lessI (if lessI u v c d = true then u else c) (if lessI u v c d = true then v else d) (if lessI a b p q = true then p else a) (if lessI a b p q = true then q else b) = true then 0
     else if (if lessI a b p q = true then p else a) = (if lessI u v c d = true then u else c) ∧ (if lessI a b p q = true then q else b) = (if lessI u v c d = true then v else d) then 1 else 2)
  else if (pt2 (turnZ a b c d p q) (turnZ a b c d u v) && pt2 (turnZ p q u v a b) (turnZ p q u v c d)) = true then 1 else 0
theorem knd_in (a b c d p q u v : Int) : kndZ a b c d p q u v = 0 ∨ kndZ a b c d p q u v = 1 ∨ kndZ a b c d p q u v = 2 := by
  unfold kndZ
  repeat' split
  all_goals simp
theorem pt2_zl (t : Int) : pt2 0 t = true := by simp [pt2]
theorem pt2_zr (t : Int) : pt2 t 0 = true := by simp [pt2]
theorem turn_at1 (a b c d : Int) : turnZ a b c d a b = 0 := by unfold turnZ; simp
theorem turn_at2 (a b c d : Int) : turnZ a b c d c d = 0 := by unfold turnZ; grind
theorem less_iff (x y u v : Int) : lessI x y u v = true ↔ x < u ∨ x = u ∧ y < v := by unfold lessI; exact decide_eq_true_iff
/-- Segments with a common end meet. -/
theorem knd_share {a b c d p q u v : Int} (h1 : lessI a b c d = true) (h2 : lessI p q u v = true) (hs : (a = p ∧ b = q) ∨ (a = u ∧ b = v) ∨ (c = p ∧ d = q) ∨ (c = u ∧ d = v)) : kndZ a b c d p q u v ≠ 0 := by
  have hd := turn_diff a b c d p q u v
  have t1 := turn_at1 a b c d
  have t2 := turn_at2 a b c d
  have s1 := turn_at1 p q u v
  have s2 := turn_at2 p q u v
  have P : (pt2 (turnZ a b c d p q) (turnZ a b c d u v) && pt2 (turnZ p q u v a b) (turnZ p q u v c d)) = true := by
    rcases hs with ⟨rfl, rfl⟩ | ⟨rfl, rfl⟩ | ⟨rfl, rfl⟩ | ⟨rfl, rfl⟩ <;> simp only [t1, t2, s1, s2, pt2_zl, pt2_zr, Bool.and_self]
  unfold kndZ
  rw [P]
  by_cases h0 : ((b - d) * (u - p) - (q - v) * (c - a)) = 0
  · rw [if_pos h0]
    have T : turnZ a b c d p q = 0 := by
      rcases hs with ⟨rfl, rfl⟩ | ⟨rfl, rfl⟩ | ⟨rfl, rfl⟩ | ⟨rfl, rfl⟩ <;> omega
    clear P hd t1 t2 s1 s2 h0
    rw [less_iff] at h1 h2
    have N : ¬ lessI (if lessI u v c d = true then u else c) (if lessI u v c d = true then v else d) (if lessI a b p q = true then p else a) (if lessI a b p q = true then q else b) = true := by
      simp only [less_iff]
      split <;> split <;> omega
    rw [if_neg (fun h => h.elim (fun k => k T) N)]
    by_cases hq : (if lessI a b p q = true then p else a) = (if lessI u v c d = true then u else c) ∧ (if lessI a b p q = true then q else b) = (if lessI u v c d = true then v else d)
    · rw [if_pos hq]; decide
    · rw [if_neg hq]; decide
  · rw [if_neg h0, if_pos rfl]
    decide
def kdA (n : Nat) (p : Ps) (i k : Nat) : Int := kndZ (sdA n p i).1 (sdA n p i).2.1 (sdA n p i).2.2.1 (sdA n p i).2.2.2 (sdA n p k).1 (sdA n p k).2.1 (sdA n p k).2.2.1 (sdA n p k).2.2.2
/-- Whether two sides are next to one another. -/
def nxB (n i k : Nat) : Bool := decide (k + 1 = i) || (decide (k = 0) && decide (i + 1 = n))
/-- Whether two sides have more in common than they may. -/
def bdB (n : Nat) (p : Ps) (i k : Nat) : Bool := decide ((if nxB n i k = true then 1 else 0) < kdA n p i k)
theorem one_ne {n : Nat} {p : Ps} (h : OneN n p) {i k : Nat} (hi : i < n) (hk : k < n) (hne : i ≠ k) : p i ≠ p k := by
  rcases Nat.lt_or_ge k i with h' | h'
  · exact h i hi k h'
  · exact fun e => h k hk i (by omega) e.symm
theorem sd_less {n : Nat} {p : Ps} (h : OneN n p) (hn : 3 ≤ n) {i : Nat} (hi : i < n) : lessI (sdA n p i).1 (sdA n p i).2.1 (sdA n p i).2.2.1 (sdA n p i).2.2.2 = true := by
  have hm : (i + 1) % n < n := Nat.mod_lt _ (by omega)
  have hne : (i + 1) % n ≠ i := by
    rcases Nat.lt_or_ge (i + 1) n with h' | h'
    · rw [Nat.mod_eq_of_lt h']; omega
    · obtain rfl : n = i + 1 := by omega
      rw [Nat.mod_self]; omega
  have hp := one_ne h hm hi hne
  unfold sdA
  by_cases hl : lessI (p ((i + 1) % n)).1 (p ((i + 1) % n)).2 (p i).1 (p i).2 = true
  · rw [if_pos hl]; exact hl
  · rw [if_neg hl]
    rw [less_iff] at hl ⊢
    generalize p ((i + 1) % n) = A at *
    generalize p i = B at *
    obtain ⟨x, y⟩ := A
    obtain ⟨u, v⟩ := B
    simp only at hl ⊢
    have : ¬ (x = u ∧ y = v) := fun ⟨e1, e2⟩ => hp (by rw [e1, e2])
    omega
theorem sd_ends (n : Nat) (p : Ps) (i : Nat) : ((sdA n p i).1 = (p i).1 ∧ (sdA n p i).2.1 = (p i).2 ∧ (sdA n p i).2.2.1 = (p ((i + 1) % n)).1 ∧ (sdA n p i).2.2.2 = (p ((i + 1) % n)).2) ∨ ((sdA n p i).1 = (p ((i + 1) % n)).1 ∧ (sdA n p i).2.1 = (p ((i + 1) % n)).2 ∧ (sdA n p i).2.2.1 = (p i).1 ∧ (sdA n p i).2.2.2 = (p i).2) := by
  unfold sdA
  split
  · exact .inr ⟨rfl, rfl, rfl, rfl⟩
  · exact .inl ⟨rfl, rfl, rfl, rfl⟩
/-- Sides next to one another meet. -/
theorem kd_next {n : Nat} {p : Ps} (h : OneN n p) (hn : 3 ≤ n) {i k : Nat} (hi : i < n) (hk : k < i) (hx : nxB n i k = true) : kdA n p i k ≠ 0 := by
  unfold kdA
  refine knd_share (sd_less h hn hi) (sd_less h hn (by omega)) ?_
  have E1 := sd_ends n p i
  have E2 := sd_ends n p k
  have hc : ((k + 1) % n = i) ∨ ((i + 1) % n = k) := by
    simp only [nxB, Bool.or_eq_true, Bool.and_eq_true, decide_eq_true_iff] at hx
    rcases hx with hx | ⟨hx, hx'⟩
    · exact .inl (by rw [hx]; exact Nat.mod_eq_of_lt hi)
    · exact .inr (by rw [hx', hx, Nat.mod_self])
  rcases hc with hc | hc
  · rw [hc] at E2
    rcases E1 with ⟨e1, e2, e3, e4⟩ | ⟨e1, e2, e3, e4⟩ <;> rcases E2 with ⟨f1, f2, f3, f4⟩ | ⟨f1, f2, f3, f4⟩ <;> omega
  · rw [hc] at E1
    rcases E1 with ⟨e1, e2, e3, e4⟩ | ⟨e1, e2, e3, e4⟩ <;> rcases E2 with ⟨f1, f2, f3, f4⟩ | ⟨f1, f2, f3, f4⟩ <;> omega
/-- The model's word on two sides is the program's. -/
theorem bd_same {n : Nat} {p : Ps} (h : OneN n p) (hn : 3 ≤ n) {i k : Nat} (hi : i < n) (hk : k < i) : bdB n p i k = ((nxB n i k && !(decide (kdA n p i k = 1))) || (!(nxB n i k) && !(decide (kdA n p i k = 0)))) := by
  have hin : kdA n p i k = 0 ∨ kdA n p i k = 1 ∨ kdA n p i k = 2 := knd_in _ _ _ _ _ _ _ _
  have hx := kd_next h hn hi hk
  unfold bdB
  generalize kdA n p i k = z at *
  cases hb : nxB n i k
  · rcases hin with rfl | rfl | rfl <;> simp
  · have := hx hb
    rcases hin with rfl | rfl | rfl
    · exact absurd rfl this
    · simp
    · simp
/-- What is at fault in a ring. -/
def rgF (n : Nat) (p : Ps) : Int := if n < 3 then 1 else if 12 < n then 2 else if ¬ (∀ i, i < n → spotOk (p i).1 (p i).2 = true) then 3 else if ¬ OneN n p then 4 else if ¬ (∀ i, i < n → ∀ k, k < i → bdB n p i k = false) then 5 else 0
theorem meetW_kind (a b c d p q u v : Int) : ∃ r s, meetW a b c d p q u v = .tuple #[.int .i64 (kndZ a b c d p q u v), r, s] := by
  unfold meetW kndZ
  by_cases h0 : ((b - d) * (u - p) - (q - v) * (c - a)) = 0
  · rw [if_pos h0, if_pos h0]
    unfold alongV
    by_cases h1 : turnZ a b c d p q ≠ 0 ∨ lessI (if lessI u v c d = true then u else c) (if lessI u v c d = true then v else d) (if lessI a b p q = true then p else a) (if lessI a b p q = true then q else b) = true
    · rw [if_pos h1, if_pos h1]
      exact ⟨_, _, rfl⟩
    · rw [if_neg h1, if_neg h1]
      by_cases h2 : (if lessI a b p q = true then p else a) = (if lessI u v c d = true then u else c) ∧ (if lessI a b p q = true then q else b) = (if lessI u v c d = true then v else d)
      · rw [if_pos h2, if_pos h2]
        exact ⟨_, _, rfl⟩
      · rw [if_neg h2, if_neg h2]
        exact ⟨_, _, rfl⟩
  · rw [if_neg h0, if_neg h0]
    by_cases h3 : (pt2 (turnZ a b c d p q) (turnZ a b c d u v) && pt2 (turnZ p q u v a b) (turnZ p q u v c d)) = true
    · rw [if_pos h3, if_pos h3]
      exact ⟨_, _, rfl⟩
    · rw [if_neg h3, if_neg h3]
      exact ⟨_, _, rfl⟩
theorem mtP_kind {a b c d p q u v : Int} {w w' : World} {e : Ending} (h : MtP a b c d p q u v w e w') : (∃ (f1 f2 f3 g1 g2 g3 : Bool) (k1 k2 k3 l1 l2 l3 : Option Addr) (m1 m2 m3 x1 x2 x3 y1 y2 y3 z1 z2 z3 : Nat), e = .returned (.tuple #[.int .i64 (kndZ a b c d p q u v), .agg #[.bool f1, .slice k1 m1 x1, .bool f2, .slice k2 m2 x2, .bool f3, .slice k3 m3 x3], .agg #[.bool g1, .slice l1 y1 z1, .bool g2, .slice l2 y2 z2, .bool g3, .slice l3 y3 z3]])) ∧ Below w.heap.size w w' := by
  obtain ⟨hB, h⟩ := h
  obtain ⟨r, s, hk⟩ := meetW_kind a b c d p q u v
  refine ⟨?_, hB⟩
  rcases h with ⟨hm, he⟩ | ⟨x, y, z, r', hm, -, -, -, he, L⟩ | ⟨x, y, x', y', r', s', hm, -, -, -, -, he, L, L'⟩
  · rw [hk] at hm
    simp at hm
    rw [hm.1]
    exact ⟨_, _, _, _, _, _, _, _, _, _, _, _, _, _, _, _, _, _, _, _, _, _, _, _, he⟩
  · rw [hk] at hm
    simp at hm
    rw [hm.1]
    obtain ⟨s1, o1, n1, c1, d1, s2, o2, n2, c2, d2, s3, o3, n3, c3, d3, rfl, -, -, -⟩ := L
    exact ⟨_, _, _, _, _, _, _, _, _, _, _, _, _, _, _, _, _, _, _, _, _, _, _, _, he⟩
  · rw [hk] at hm
    simp at hm
    rw [hm.1]
    obtain ⟨s1, o1, n1, c1, d1, s2, o2, n2, c2, d2, s3, o3, n3, c3, d3, rfl, -, -, -⟩ := L
    obtain ⟨t1, q1, m1, b1, f1, t2, q2, m2, b2, f2, t3, q3, m3, b3, f3, rfl, -, -, -⟩ := L'
    exact ⟨_, _, _, _, _, _, _, _, _, _, _, _, _, _, _, _, _, _, _, _, _, _, _, _, he⟩
theorem meetW_12 (a b c d p q u v : Int) : ∃ (r0 r1 r2 r3 r4 r5 r6 r7 r8 r9 r10 r11 s0 s1 s2 s3 s4 s5 s6 s7 s8 s9 s10 s11 : Int), meetW a b c d p q u v = .tuple #[.int .i64 (kndZ a b c d p q u v), .agg #[.int .u64 r0, .int .u64 r1, .int .u64 r2, .int .u64 r3, .int .u64 r4, .int .u64 r5, .int .u64 r6, .int .u64 r7, .int .u64 r8, .int .u64 r9, .int .u64 r10, .int .u64 r11], .agg #[.int .u64 s0, .int .u64 s1, .int .u64 s2, .int .u64 s3, .int .u64 s4, .int .u64 s5, .int .u64 s6, .int .u64 s7, .int .u64 s8, .int .u64 s9, .int .u64 s10, .int .u64 s11]] := by
  obtain ⟨r, s, hk⟩ := meetW_kind a b c d p q u v
  obtain ⟨k, r0, r1, r2, r3, r4, r5, r6, r7, r8, r9, r10, r11, s0, s1, s2, s3, s4, s5, s6, s7, s8, s9, s10, s11, hx⟩ := meetW_ex a b c d p q u v
  have he := hx
  rw [hk] at he
  simp at he
  exact ⟨r0, r1, r2, r3, r4, r5, r6, r7, r8, r9, r10, r11, s0, s1, s2, s3, s4, s5, s6, s7, s8, s9, s10, s11, by rw [hx, he.1]⟩
end Go.Proofs.Ytibbjjlapglndaa

/- A segment of two spots: the program's walk. -/
namespace Go.Proofs.Ytibbjjlapglndaa
open Go.RowKit
set_option maxRecDepth 100000 in
set_option maxHeartbeats 400000 in
theorem implSegOf_any (x y u v A B C D : Int) (l k : Bool) (hl : lessI u v x y = l) (hk : segOk A B C D = k) (hA : cond l u x = A) (hB : cond l v y = B) (hC : cond l x u = C) (hD : cond l y v = D) (w : World) :
    Calls Try.prog 60 #[Sp x y, Sp u v] w (VP (.tuple #[Sg (cond k A 0) (cond k B 0) (cond k C 0) (cond k D 0), .bool k]) w) := by
  cases l <;> simp only [cond_true, cond_false] at hA hB hC hD <;> subst hA hB hC hD
  · have B0 := Blk.new w [.int .i64 x, .int .i64 y] 54 rfl
    have HB0 : Below w.heap.size w _ := (Below.refl _ w).alloc (Nat.le_refl _) (.cells #[.int .i64 x, .int .i64 y] 54)
    have B1 := Blk.new (w.alloc (.cells #[.int .i64 x, .int .i64 y] 54)) [.int .i64 u, .int .i64 v] 54 (g := w.heap.size + 1) (by simp)
    replace B0 := B0.alloc (.cells #[.int .i64 u, .int .i64 v] 54)
    replace HB0 := HB0.alloc (by simp) (.cells #[.int .i64 u, .int .i64 v] 54)
    have B2 := Blk.new ((w.alloc (.cells #[.int .i64 x, .int .i64 y] 54)).alloc (.cells #[.int .i64 u, .int .i64 v] 54)) [.int .i64 0, .int .i64 0, .int .i64 0, .int .i64 0] 63 (g := w.heap.size + 1 + 1) (by simp)
    replace B0 := B0.alloc (.cells #[.int .i64 0, .int .i64 0, .int .i64 0, .int .i64 0] 63)
    replace B1 := B1.alloc (.cells #[.int .i64 0, .int .i64 0, .int .i64 0, .int .i64 0] 63)
    replace HB0 := HB0.alloc (by simp; omega) (.cells #[.int .i64 0, .int .i64 0, .int .i64 0, .int .i64 0] 63)
    have B3 := Blk.new (((w.alloc (.cells #[.int .i64 x, .int .i64 y] 54)).alloc (.cells #[.int .i64 u, .int .i64 v] 54)).alloc (.cells #[.int .i64 0, .int .i64 0, .int .i64 0, .int .i64 0] 63)) [.int .i64 x, .int .i64 y, .int .i64 u, .int .i64 v] 63 (g := w.heap.size + 1 + 1 + 1) (by simp)
    replace B0 := B0.alloc (.cells #[.int .i64 x, .int .i64 y, .int .i64 u, .int .i64 v] 63)
    replace B1 := B1.alloc (.cells #[.int .i64 x, .int .i64 y, .int .i64 u, .int .i64 v] 63)
    replace B2 := B2.alloc (.cells #[.int .i64 x, .int .i64 y, .int .i64 u, .int .i64 v] 63)
    replace HB0 := HB0.alloc (by simp; omega) (.cells #[.int .i64 x, .int .i64 y, .int .i64 u, .int .i64 v] 63)
    go_enter Try.func60, Try.ntmps60
    go_wp2_with fail
    refine (isAhead_any _ _ _ _ false hl _).mono ?_
    rintro e w1 ⟨rfl, hB⟩
    replace B0 := B0.step hB; replace B1 := B1.step hB; replace B2 := B2.step hB; replace B3 := B3.step hB
    have HB : Below w.heap.size w w1 := HB0.trans (hB.mono HB0.size)
    clear hB HB0
    have cB00 := B0.c 0 rfl; have fB00 := B0.f 0 rfl; have cB01 := B0.c 1 rfl; have fB01 := B0.f 1 rfl; have cB10 := B1.c 0 rfl; have fB10 := B1.f 0 rfl; have cB11 := B1.c 1 rfl; have fB11 := B1.f 1 rfl; have cB20 := B2.c 0 rfl; have fB20 := B2.f 0 rfl; have cB21 := B2.c 1 rfl; have fB21 := B2.f 1 rfl; have cB22 := B2.c 2 rfl; have fB22 := B2.f 2 rfl; have cB23 := B2.c 3 rfl; have fB23 := B2.f 3 rfl; have cB30 := B3.c 0 rfl; have fB30 := B3.f 0 rfl; have cB31 := B3.c 1 rfl; have fB31 := B3.f 1 rfl; have cB32 := B3.c 2 rfl; have fB32 := B3.f 2 rfl; have cB33 := B3.c 3 rfl; have fB33 := B3.f 3 rfl; have ltB0 := B0.lt; have ltB1 := B1.lt; have ltB2 := B2.lt; have ltB3 := B3.lt
    go_wp2_with fail
    have D2 := B2
    have D3 := B3
    have HC := HB
    refine (implSegOk_any _ _ _ _ k hk _).mono ?_
    rintro e w2 ⟨rfl, hB⟩
    replace D2 := D2.step hB
    replace D3 := D3.step hB
    have HD : Below w.heap.size w w2 := HC.trans (hB.mono HC.size)
    clear hB HC HB B0 B1 B2 B3 cB00 fB00 cB01 fB01 cB10 fB10 cB11 fB11 cB20 fB20 cB21 fB21 cB22 fB22 cB23 fB23 cB30 fB30 cB31 fB31 cB32 fB32 cB33 fB33 ltB0 ltB1 ltB2 ltB3
    have cD20 := D2.c 0 rfl; have fD20 := D2.f 0 rfl; have cD21 := D2.c 1 rfl; have fD21 := D2.f 1 rfl; have cD22 := D2.c 2 rfl; have fD22 := D2.f 2 rfl; have cD23 := D2.c 3 rfl; have fD23 := D2.f 3 rfl; have cD30 := D3.c 0 rfl; have fD30 := D3.f 0 rfl; have cD31 := D3.c 1 rfl; have fD31 := D3.f 1 rfl; have cD32 := D3.c 2 rfl; have fD32 := D3.f 2 rfl; have cD33 := D3.c 3 rfl; have fD33 := D3.f 3 rfl
    have ltD2 := D2.lt; have ltD3 := D3.lt
    cases k
    · go_wp2
      refine bodyPost_ret (v := .tuple #[Sg 0 0 0 0, .bool false]) (by simp [results, Try.results60, go_sem, cD20, cD21, cD22, cD23]) rfl ?_
      refine ⟨rfl, ?_⟩
      repeat' (refine Below.setCell ?_ (by simp; try omega) _)
      exact HD
    · go_wp2
      refine bodyPost_ret (v := .tuple #[Sg x y u v, .bool true]) (by simp [results, Try.results60, go_sem, cD20, cD21, cD22, cD23]) rfl ?_
      refine ⟨rfl, ?_⟩
      repeat' (refine Below.setCell ?_ (by simp; try omega) _)
      exact HD
  · have B0 := Blk.new w [.int .i64 x, .int .i64 y] 54 rfl
    have HB0 : Below w.heap.size w _ := (Below.refl _ w).alloc (Nat.le_refl _) (.cells #[.int .i64 x, .int .i64 y] 54)
    have B1 := Blk.new (w.alloc (.cells #[.int .i64 x, .int .i64 y] 54)) [.int .i64 u, .int .i64 v] 54 (g := w.heap.size + 1) (by simp)
    replace B0 := B0.alloc (.cells #[.int .i64 u, .int .i64 v] 54)
    replace HB0 := HB0.alloc (by simp) (.cells #[.int .i64 u, .int .i64 v] 54)
    have B2 := Blk.new ((w.alloc (.cells #[.int .i64 x, .int .i64 y] 54)).alloc (.cells #[.int .i64 u, .int .i64 v] 54)) [.int .i64 0, .int .i64 0, .int .i64 0, .int .i64 0] 63 (g := w.heap.size + 1 + 1) (by simp)
    replace B0 := B0.alloc (.cells #[.int .i64 0, .int .i64 0, .int .i64 0, .int .i64 0] 63)
    replace B1 := B1.alloc (.cells #[.int .i64 0, .int .i64 0, .int .i64 0, .int .i64 0] 63)
    replace HB0 := HB0.alloc (by simp; omega) (.cells #[.int .i64 0, .int .i64 0, .int .i64 0, .int .i64 0] 63)
    have B3 := Blk.new (((w.alloc (.cells #[.int .i64 x, .int .i64 y] 54)).alloc (.cells #[.int .i64 u, .int .i64 v] 54)).alloc (.cells #[.int .i64 0, .int .i64 0, .int .i64 0, .int .i64 0] 63)) [.int .i64 x, .int .i64 y, .int .i64 u, .int .i64 v] 63 (g := w.heap.size + 1 + 1 + 1) (by simp)
    replace B0 := B0.alloc (.cells #[.int .i64 x, .int .i64 y, .int .i64 u, .int .i64 v] 63)
    replace B1 := B1.alloc (.cells #[.int .i64 x, .int .i64 y, .int .i64 u, .int .i64 v] 63)
    replace B2 := B2.alloc (.cells #[.int .i64 x, .int .i64 y, .int .i64 u, .int .i64 v] 63)
    replace HB0 := HB0.alloc (by simp; omega) (.cells #[.int .i64 x, .int .i64 y, .int .i64 u, .int .i64 v] 63)
    go_enter Try.func60, Try.ntmps60
    go_wp2_with fail
    refine (isAhead_any _ _ _ _ true hl _).mono ?_
    rintro e w1 ⟨rfl, hB⟩
    replace B0 := B0.step hB; replace B1 := B1.step hB; replace B2 := B2.step hB; replace B3 := B3.step hB
    have HB : Below w.heap.size w w1 := HB0.trans (hB.mono HB0.size)
    clear hB HB0
    have cB00 := B0.c 0 rfl; have fB00 := B0.f 0 rfl; have cB01 := B0.c 1 rfl; have fB01 := B0.f 1 rfl; have cB10 := B1.c 0 rfl; have fB10 := B1.f 0 rfl; have cB11 := B1.c 1 rfl; have fB11 := B1.f 1 rfl; have cB20 := B2.c 0 rfl; have fB20 := B2.f 0 rfl; have cB21 := B2.c 1 rfl; have fB21 := B2.f 1 rfl; have cB22 := B2.c 2 rfl; have fB22 := B2.f 2 rfl; have cB23 := B2.c 3 rfl; have fB23 := B2.f 3 rfl; have cB30 := B3.c 0 rfl; have fB30 := B3.f 0 rfl; have cB31 := B3.c 1 rfl; have fB31 := B3.f 1 rfl; have cB32 := B3.c 2 rfl; have fB32 := B3.f 2 rfl; have cB33 := B3.c 3 rfl; have fB33 := B3.f 3 rfl; have ltB0 := B0.lt; have ltB1 := B1.lt; have ltB2 := B2.lt; have ltB3 := B3.lt
    go_wp2_with fail
    have D2 := ((((B2.setO (p := ⟨w.heap.size + 1 + 1 + 1, 0, none⟩) (by simp) (.int .i64 u)).setO (p := ⟨w.heap.size + 1 + 1 + 1, 1, none⟩) (by simp) (.int .i64 v)).setO (p := ⟨w.heap.size + 1 + 1 + 1, 2, none⟩) (by simp) (.int .i64 x)).setO (p := ⟨w.heap.size + 1 + 1 + 1, 3, none⟩) (by simp) (.int .i64 y))
    have D3 := ((((B3.setI 0 (by simp) (.int .i64 u)).setI 1 (by simp) (.int .i64 v)).setI 2 (by simp) (.int .i64 x)).setI 3 (by simp) (.int .i64 y))
    simp only [List.set_cons_zero, List.set_cons_succ] at D3
    have HC := ((((HB.setCell (p := ⟨w.heap.size + 1 + 1 + 1, 0, none⟩) (by simp; omega) (.int .i64 u)).setCell (p := ⟨w.heap.size + 1 + 1 + 1, 1, none⟩) (by simp; omega) (.int .i64 v)).setCell (p := ⟨w.heap.size + 1 + 1 + 1, 2, none⟩) (by simp; omega) (.int .i64 x)).setCell (p := ⟨w.heap.size + 1 + 1 + 1, 3, none⟩) (by simp; omega) (.int .i64 y))
    refine (implSegOk_any _ _ _ _ k hk _).mono ?_
    rintro e w2 ⟨rfl, hB⟩
    replace D2 := D2.step hB
    replace D3 := D3.step hB
    have HD : Below w.heap.size w w2 := HC.trans (hB.mono HC.size)
    clear hB HC HB B0 B1 B2 B3 cB00 fB00 cB01 fB01 cB10 fB10 cB11 fB11 cB20 fB20 cB21 fB21 cB22 fB22 cB23 fB23 cB30 fB30 cB31 fB31 cB32 fB32 cB33 fB33 ltB0 ltB1 ltB2 ltB3
    have cD20 := D2.c 0 rfl; have fD20 := D2.f 0 rfl; have cD21 := D2.c 1 rfl; have fD21 := D2.f 1 rfl; have cD22 := D2.c 2 rfl; have fD22 := D2.f 2 rfl; have cD23 := D2.c 3 rfl; have fD23 := D2.f 3 rfl; have cD30 := D3.c 0 rfl; have fD30 := D3.f 0 rfl; have cD31 := D3.c 1 rfl; have fD31 := D3.f 1 rfl; have cD32 := D3.c 2 rfl; have fD32 := D3.f 2 rfl; have cD33 := D3.c 3 rfl; have fD33 := D3.f 3 rfl
    have ltD2 := D2.lt; have ltD3 := D3.lt
    cases k
    · go_wp2
      refine bodyPost_ret (v := .tuple #[Sg 0 0 0 0, .bool false]) (by simp [results, Try.results60, go_sem, cD20, cD21, cD22, cD23]) rfl ?_
      refine ⟨rfl, ?_⟩
      repeat' (refine Below.setCell ?_ (by simp; try omega) _)
      exact HD
    · go_wp2
      refine bodyPost_ret (v := .tuple #[Sg u v x y, .bool true]) (by simp [results, Try.results60, go_sem, cD20, cD21, cD22, cD23]) rfl ?_
      refine ⟨rfl, ?_⟩
      repeat' (refine Below.setCell ?_ (by simp; try omega) _)
      exact HD
end Go.Proofs.Ytibbjjlapglndaa
