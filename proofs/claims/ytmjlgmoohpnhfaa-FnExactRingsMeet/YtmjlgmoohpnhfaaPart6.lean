/- Part 6 of the walks that the proof leans on. -/
import Derived.Test.YtmjlgmoohpnhfaaPart4
import Derived.Test.YtmjlgmoohpnhfaaPart5
import Derived.Test.YtmjlgmoohpnhfaaPart3
import Derived.Deep.OwnRows
/- Where two segments meet: the program's walk. -/
namespace Go.Proofs.Ytmjlgmoohpnhfaa
open Go.RowKit
/-- Where two right segments meet. -/
def meetW (a b c d p q u v : Int) : Value := if ((b - d) * (u - p) - (q - v) * (c - a)) = 0 then alongV a b c d p q u v else if pt2 (turnZ a b c d p q) (turnZ a b c d u v) && pt2 (turnZ p q u v a b) (turnZ p q u v c d) then .tuple #[.int .i64 1, .agg #[.int .u64 (ww3 (shareZ ((c - a) * (p * v - q * u) - (u - p) * (a * d - b * c)) (Int.gcd (Int.gcd ((c - a) * (p * v - q * u) - (u - p) * (a * d - b * c)) ((a * d - b * c) * (q - v) - (p * v - q * u) * (b - d)) : Int) ((b - d) * (u - p) - (q - v) * (c - a)) : Int) (decide (((b - d) * (u - p) - (q - v) * (c - a)) < 0)))), .int .u64 (ww2 (shareZ ((c - a) * (p * v - q * u) - (u - p) * (a * d - b * c)) (Int.gcd (Int.gcd ((c - a) * (p * v - q * u) - (u - p) * (a * d - b * c)) ((a * d - b * c) * (q - v) - (p * v - q * u) * (b - d)) : Int) ((b - d) * (u - p) - (q - v) * (c - a)) : Int) (decide (((b - d) * (u - p) - (q - v) * (c - a)) < 0)))), .int .u64 (ww1 (shareZ ((c - a) * (p * v - q * u) - (u - p) * (a * d - b * c)) (Int.gcd (Int.gcd ((c - a) * (p * v - q * u) - (u - p) * (a * d - b * c)) ((a * d - b * c) * (q - v) - (p * v - q * u) * (b - d)) : Int) ((b - d) * (u - p) - (q - v) * (c - a)) : Int) (decide (((b - d) * (u - p) - (q - v) * (c - a)) < 0)))), .int .u64 (ww0 (shareZ ((c - a) * (p * v - q * u) - (u - p) * (a * d - b * c)) (Int.gcd (Int.gcd ((c - a) * (p * v - q * u) - (u - p) * (a * d - b * c)) ((a * d - b * c) * (q - v) - (p * v - q * u) * (b - d)) : Int) ((b - d) * (u - p) - (q - v) * (c - a)) : Int) (decide (((b - d) * (u - p) - (q - v) * (c - a)) < 0)))), .int .u64 (ww3 (shareZ ((a * d - b * c) * (q - v) - (p * v - q * u) * (b - d)) (Int.gcd (Int.gcd ((c - a) * (p * v - q * u) - (u - p) * (a * d - b * c)) ((a * d - b * c) * (q - v) - (p * v - q * u) * (b - d)) : Int) ((b - d) * (u - p) - (q - v) * (c - a)) : Int) (decide (((b - d) * (u - p) - (q - v) * (c - a)) < 0)))), .int .u64 (ww2 (shareZ ((a * d - b * c) * (q - v) - (p * v - q * u) * (b - d)) (Int.gcd (Int.gcd ((c - a) * (p * v - q * u) - (u - p) * (a * d - b * c)) ((a * d - b * c) * (q - v) - (p * v - q * u) * (b - d)) : Int) ((b - d) * (u - p) - (q - v) * (c - a)) : Int) (decide (((b - d) * (u - p) - (q - v) * (c - a)) < 0)))), .int .u64 (ww1 (shareZ ((a * d - b * c) * (q - v) - (p * v - q * u) * (b - d)) (Int.gcd (Int.gcd ((c - a) * (p * v - q * u) - (u - p) * (a * d - b * c)) ((a * d - b * c) * (q - v) - (p * v - q * u) * (b - d)) : Int) ((b - d) * (u - p) - (q - v) * (c - a)) : Int) (decide (((b - d) * (u - p) - (q - v) * (c - a)) < 0)))), .int .u64 (ww0 (shareZ ((a * d - b * c) * (q - v) - (p * v - q * u) * (b - d)) (Int.gcd (Int.gcd ((c - a) * (p * v - q * u) - (u - p) * (a * d - b * c)) ((a * d - b * c) * (q - v) - (p * v - q * u) * (b - d)) : Int) ((b - d) * (u - p) - (q - v) * (c - a)) : Int) (decide (((b - d) * (u - p) - (q - v) * (c - a)) < 0)))), .int .u64 (ww3 (shareZ ((b - d) * (u - p) - (q - v) * (c - a)) (Int.gcd (Int.gcd ((c - a) * (p * v - q * u) - (u - p) * (a * d - b * c)) ((a * d - b * c) * (q - v) - (p * v - q * u) * (b - d)) : Int) ((b - d) * (u - p) - (q - v) * (c - a)) : Int) (decide (((b - d) * (u - p) - (q - v) * (c - a)) < 0)))), .int .u64 (ww2 (shareZ ((b - d) * (u - p) - (q - v) * (c - a)) (Int.gcd (Int.gcd ((c - a) * (p * v - q * u) - (u - p) * (a * d - b * c)) ((a * d - b * c) * (q - v) - (p * v - q * u) * (b - d)) : Int) ((b - d) * (u - p) - (q - v) * (c - a)) : Int) (decide (((b - d) * (u - p) - (q - v) * (c - a)) < 0)))), .int .u64 (ww1 (shareZ ((b - d) * (u - p) - (q - v) * (c - a)) (Int.gcd (Int.gcd ((c - a) * (p * v - q * u) - (u - p) * (a * d - b * c)) ((a * d - b * c) * (q - v) - (p * v - q * u) * (b - d)) : Int) ((b - d) * (u - p) - (q - v) * (c - a)) : Int) (decide (((b - d) * (u - p) - (q - v) * (c - a)) < 0)))), .int .u64 (ww0 (shareZ ((b - d) * (u - p) - (q - v) * (c - a)) (Int.gcd (Int.gcd ((c - a) * (p * v - q * u) - (u - p) * (a * d - b * c)) ((a * d - b * c) * (q - v) - (p * v - q * u) * (b - d)) : Int) ((b - d) * (u - p) - (q - v) * (c - a)) : Int) (decide (((b - d) * (u - p) - (q - v) * (c - a)) < 0))))], .agg #[.int .u64 0, .int .u64 0, .int .u64 0, .int .u64 0, .int .u64 0, .int .u64 0, .int .u64 0, .int .u64 0, .int .u64 0, .int .u64 0, .int .u64 0, .int .u64 0]] else .tuple #[.int .i64 0, .agg #[.int .u64 0, .int .u64 0, .int .u64 0, .int .u64 0, .int .u64 0, .int .u64 0, .int .u64 0, .int .u64 0, .int .u64 0, .int .u64 0, .int .u64 0, .int .u64 0], .agg #[.int .u64 0, .int .u64 0, .int .u64 0, .int .u64 0, .int .u64 0, .int .u64 0, .int .u64 0, .int .u64 0, .int .u64 0, .int .u64 0, .int .u64 0, .int .u64 0]]
theorem along_ex (a b c d p q u v : Int) : ∃ (k : Int) (r0 r1 r2 r3 r4 r5 r6 r7 r8 r9 r10 r11 s0 s1 s2 s3 s4 s5 s6 s7 s8 s9 s10 s11 : Int), alongV a b c d p q u v = .tuple #[.int .i64 k, .agg #[.int .u64 r0, .int .u64 r1, .int .u64 r2, .int .u64 r3, .int .u64 r4, .int .u64 r5, .int .u64 r6, .int .u64 r7, .int .u64 r8, .int .u64 r9, .int .u64 r10, .int .u64 r11], .agg #[.int .u64 s0, .int .u64 s1, .int .u64 s2, .int .u64 s3, .int .u64 s4, .int .u64 s5, .int .u64 s6, .int .u64 s7, .int .u64 s8, .int .u64 s9, .int .u64 s10, .int .u64 s11]] := by
  unfold alongV
  generalize (if lessI a b p q = true then p else a) = fx
  generalize (if lessI a b p q = true then q else b) = fy
  generalize (if lessI u v c d = true then u else c) = lx
  generalize (if lessI u v c d = true then v else d) = ly
  split
  · exact ⟨_, _, _, _, _, _, _, _, _, _, _, _, _, _, _, _, _, _, _, _, _, _, _, _, _, rfl⟩
  · split
    · exact ⟨_, _, _, _, _, _, _, _, _, _, _, _, _, _, _, _, _, _, _, _, _, _, _, _, _, rfl⟩
    · exact ⟨_, _, _, _, _, _, _, _, _, _, _, _, _, _, _, _, _, _, _, _, _, _, _, _, _, rfl⟩
theorem meetW_ex (a b c d p q u v : Int) : ∃ (k : Int) (r0 r1 r2 r3 r4 r5 r6 r7 r8 r9 r10 r11 s0 s1 s2 s3 s4 s5 s6 s7 s8 s9 s10 s11 : Int), meetW a b c d p q u v = .tuple #[.int .i64 k, .agg #[.int .u64 r0, .int .u64 r1, .int .u64 r2, .int .u64 r3, .int .u64 r4, .int .u64 r5, .int .u64 r6, .int .u64 r7, .int .u64 r8, .int .u64 r9, .int .u64 r10, .int .u64 r11], .agg #[.int .u64 s0, .int .u64 s1, .int .u64 s2, .int .u64 s3, .int .u64 s4, .int .u64 s5, .int .u64 s6, .int .u64 s7, .int .u64 s8, .int .u64 s9, .int .u64 s10, .int .u64 s11]] := by
  unfold meetW
  split
  · exact along_ex a b c d p q u v
  · split
    · exact ⟨_, _, _, _, _, _, _, _, _, _, _, _, _, _, _, _, _, _, _, _, _, _, _, _, _, rfl⟩
    · exact ⟨_, _, _, _, _, _, _, _, _, _, _, _, _, _, _, _, _, _, _, _, _, _, _, _, _, rfl⟩
set_option maxRecDepth 100000 in
set_option maxHeartbeats 8000000 in
theorem meet_det (a b c d p q u v : Int) (ha : In1 a) (hb : In1 b) (hc : In1 c) (hd : In1 d) (hp : In1 p) (hq : In1 q) (hu : In1 u) (hv : In1 v) (w : World) : Calls Try.prog 87 #[Sg a b c d, Sg p q u v] w (VP (meetW a b c d p q u v) w) := by
  have LS := lineOf_det a b c d ha hb hc hd
  have LT := lineOf_det p q u v hp hq hu hv
  obtain ⟨x1, x2⟩ := mul_in (p := a) (q := d) (M := 1000000) (N := 1000000) ha.1 ha.2 hd.1 hd.2
  obtain ⟨x3, x4⟩ := mul_in (p := b) (q := c) (M := 1000000) (N := 1000000) hb.1 hb.2 hc.1 hc.2
  obtain ⟨y1, y2⟩ := mul_in (p := p) (q := v) (M := 1000000) (N := 1000000) hp.1 hp.2 hv.1 hv.2
  obtain ⟨y3, y4⟩ := mul_in (p := q) (q := u) (M := 1000000) (N := 1000000) hq.1 hq.2 hu.1 hu.2
  have i1 : In2 (b - d) := ⟨by omega, by omega⟩
  have i2 : In2 (c - a) := ⟨by omega, by omega⟩
  have i3 : In3 (a * d - b * c) := ⟨by omega, by omega⟩
  have j1 : In2 (q - v) := ⟨by omega, by omega⟩
  have j2 : In2 (u - p) := ⟨by omega, by omega⟩
  have j3 : In3 (p * v - q * u) := ⟨by omega, by omega⟩
  have CR := crossing_det (b - d) (c - a) (a * d - b * c) (q - v) (u - p) (p * v - q * u) i1 i2 i3 j1 j2 j3
  have bX : -9000000000000000000 ≤ ((c - a) * (p * v - q * u) - (u - p) * (a * d - b * c)) ∧ ((c - a) * (p * v - q * u) - (u - p) * (a * d - b * c)) ≤ 9000000000000000000 := by
    have e1 := mul_in (p := c - a) (q := p * v - q * u) (M := 2000000) (N := 2000000000000) i2.1 i2.2 j3.1 j3.2
    have e2 := mul_in (p := u - p) (q := a * d - b * c) (M := 2000000) (N := 2000000000000) j2.1 j2.2 i3.1 i3.2
    omega
  have bY : -9000000000000000000 ≤ ((a * d - b * c) * (q - v) - (p * v - q * u) * (b - d)) ∧ ((a * d - b * c) * (q - v) - (p * v - q * u) * (b - d)) ≤ 9000000000000000000 := by
    have e1 := mul_in (p := a * d - b * c) (q := q - v) (M := 2000000000000) (N := 2000000) i3.1 i3.2 j1.1 j1.2
    have e2 := mul_in (p := p * v - q * u) (q := b - d) (M := 2000000000000) (N := 2000000) j3.1 j3.2 i1.1 i1.2
    omega
  have bW : -8000000000000 ≤ ((b - d) * (u - p) - (q - v) * (c - a)) ∧ ((b - d) * (u - p) - (q - v) * (c - a)) ≤ 8000000000000 := by
    have e1 := mul_in (p := b - d) (q := u - p) (M := 2000000) (N := 2000000) i1.1 i1.2 j2.1 j2.2
    have e2 := mul_in (p := q - v) (q := c - a) (M := 2000000) (N := 2000000) j1.1 j1.2 i2.1 i2.2
    omega
  have SM := smallPoint_det ((c - a) * (p * v - q * u) - (u - p) * (a * d - b * c)) ((a * d - b * c) * (q - v) - (p * v - q * u) * (b - d)) ((b - d) * (u - p) - (q - v) * (c - a)) bX bY bW
  have AL := meetAlong_det a b c d p q u v ha hb hc hd hp hq hu hv
  have P1 := fun g w h => parts2_det a b c d p q u v ha hb hc hd hp hq hu hv g w h
  have P2 := fun g w h => parts2_det p q u v a b c d hp hq hu hv ha hb hc hd g w h
  have HV : Hid (meetW a b c d p q u v = if ((b - d) * (u - p) - (q - v) * (c - a)) = 0 then alongV a b c d p q u v else if pt2 (turnZ a b c d p q) (turnZ a b c d u v) && pt2 (turnZ p q u v a b) (turnZ p q u v c d) then .tuple #[.int .i64 1, .agg #[.int .u64 (ww3 (shareZ ((c - a) * (p * v - q * u) - (u - p) * (a * d - b * c)) (Int.gcd (Int.gcd ((c - a) * (p * v - q * u) - (u - p) * (a * d - b * c)) ((a * d - b * c) * (q - v) - (p * v - q * u) * (b - d)) : Int) ((b - d) * (u - p) - (q - v) * (c - a)) : Int) (decide (((b - d) * (u - p) - (q - v) * (c - a)) < 0)))), .int .u64 (ww2 (shareZ ((c - a) * (p * v - q * u) - (u - p) * (a * d - b * c)) (Int.gcd (Int.gcd ((c - a) * (p * v - q * u) - (u - p) * (a * d - b * c)) ((a * d - b * c) * (q - v) - (p * v - q * u) * (b - d)) : Int) ((b - d) * (u - p) - (q - v) * (c - a)) : Int) (decide (((b - d) * (u - p) - (q - v) * (c - a)) < 0)))), .int .u64 (ww1 (shareZ ((c - a) * (p * v - q * u) - (u - p) * (a * d - b * c)) (Int.gcd (Int.gcd ((c - a) * (p * v - q * u) - (u - p) * (a * d - b * c)) ((a * d - b * c) * (q - v) - (p * v - q * u) * (b - d)) : Int) ((b - d) * (u - p) - (q - v) * (c - a)) : Int) (decide (((b - d) * (u - p) - (q - v) * (c - a)) < 0)))), .int .u64 (ww0 (shareZ ((c - a) * (p * v - q * u) - (u - p) * (a * d - b * c)) (Int.gcd (Int.gcd ((c - a) * (p * v - q * u) - (u - p) * (a * d - b * c)) ((a * d - b * c) * (q - v) - (p * v - q * u) * (b - d)) : Int) ((b - d) * (u - p) - (q - v) * (c - a)) : Int) (decide (((b - d) * (u - p) - (q - v) * (c - a)) < 0)))), .int .u64 (ww3 (shareZ ((a * d - b * c) * (q - v) - (p * v - q * u) * (b - d)) (Int.gcd (Int.gcd ((c - a) * (p * v - q * u) - (u - p) * (a * d - b * c)) ((a * d - b * c) * (q - v) - (p * v - q * u) * (b - d)) : Int) ((b - d) * (u - p) - (q - v) * (c - a)) : Int) (decide (((b - d) * (u - p) - (q - v) * (c - a)) < 0)))), .int .u64 (ww2 (shareZ ((a * d - b * c) * (q - v) - (p * v - q * u) * (b - d)) (Int.gcd (Int.gcd ((c - a) * (p * v - q * u) - (u - p) * (a * d - b * c)) ((a * d - b * c) * (q - v) - (p * v - q * u) * (b - d)) : Int) ((b - d) * (u - p) - (q - v) * (c - a)) : Int) (decide (((b - d) * (u - p) - (q - v) * (c - a)) < 0)))), .int .u64 (ww1 (shareZ ((a * d - b * c) * (q - v) - (p * v - q * u) * (b - d)) (Int.gcd (Int.gcd ((c - a) * (p * v - q * u) - (u - p) * (a * d - b * c)) ((a * d - b * c) * (q - v) - (p * v - q * u) * (b - d)) : Int) ((b - d) * (u - p) - (q - v) * (c - a)) : Int) (decide (((b - d) * (u - p) - (q - v) * (c - a)) < 0)))), .int .u64 (ww0 (shareZ ((a * d - b * c) * (q - v) - (p * v - q * u) * (b - d)) (Int.gcd (Int.gcd ((c - a) * (p * v - q * u) - (u - p) * (a * d - b * c)) ((a * d - b * c) * (q - v) - (p * v - q * u) * (b - d)) : Int) ((b - d) * (u - p) - (q - v) * (c - a)) : Int) (decide (((b - d) * (u - p) - (q - v) * (c - a)) < 0)))), .int .u64 (ww3 (shareZ ((b - d) * (u - p) - (q - v) * (c - a)) (Int.gcd (Int.gcd ((c - a) * (p * v - q * u) - (u - p) * (a * d - b * c)) ((a * d - b * c) * (q - v) - (p * v - q * u) * (b - d)) : Int) ((b - d) * (u - p) - (q - v) * (c - a)) : Int) (decide (((b - d) * (u - p) - (q - v) * (c - a)) < 0)))), .int .u64 (ww2 (shareZ ((b - d) * (u - p) - (q - v) * (c - a)) (Int.gcd (Int.gcd ((c - a) * (p * v - q * u) - (u - p) * (a * d - b * c)) ((a * d - b * c) * (q - v) - (p * v - q * u) * (b - d)) : Int) ((b - d) * (u - p) - (q - v) * (c - a)) : Int) (decide (((b - d) * (u - p) - (q - v) * (c - a)) < 0)))), .int .u64 (ww1 (shareZ ((b - d) * (u - p) - (q - v) * (c - a)) (Int.gcd (Int.gcd ((c - a) * (p * v - q * u) - (u - p) * (a * d - b * c)) ((a * d - b * c) * (q - v) - (p * v - q * u) * (b - d)) : Int) ((b - d) * (u - p) - (q - v) * (c - a)) : Int) (decide (((b - d) * (u - p) - (q - v) * (c - a)) < 0)))), .int .u64 (ww0 (shareZ ((b - d) * (u - p) - (q - v) * (c - a)) (Int.gcd (Int.gcd ((c - a) * (p * v - q * u) - (u - p) * (a * d - b * c)) ((a * d - b * c) * (q - v) - (p * v - q * u) * (b - d)) : Int) ((b - d) * (u - p) - (q - v) * (c - a)) : Int) (decide (((b - d) * (u - p) - (q - v) * (c - a)) < 0))))], .agg #[.int .u64 0, .int .u64 0, .int .u64 0, .int .u64 0, .int .u64 0, .int .u64 0, .int .u64 0, .int .u64 0, .int .u64 0, .int .u64 0, .int .u64 0, .int .u64 0]] else .tuple #[.int .i64 0, .agg #[.int .u64 0, .int .u64 0, .int .u64 0, .int .u64 0, .int .u64 0, .int .u64 0, .int .u64 0, .int .u64 0, .int .u64 0, .int .u64 0, .int .u64 0, .int .u64 0], .agg #[.int .u64 0, .int .u64 0, .int .u64 0, .int .u64 0, .int .u64 0, .int .u64 0, .int .u64 0, .int .u64 0, .int .u64 0, .int .u64 0, .int .u64 0, .int .u64 0]]) := rfl
  generalize pt2 (turnZ a b c d p q) (turnZ a b c d u v) = f1 at *
  generalize pt2 (turnZ p q u v a b) (turnZ p q u v c d) = f2 at *
  clear x1 x2 x3 x4 y1 y2 y3 y4 i1 i2 i3 j1 j2 j3 bX bY
  generalize ((c - a) * (p * v - q * u) - (u - p) * (a * d - b * c)) = cx at *
  generalize ((a * d - b * c) * (q - v) - (p * v - q * u) * (b - d)) = cy at *
  generalize ((b - d) * (u - p) - (q - v) * (c - a)) = cw at *
  generalize b - d = l1 at *
  generalize c - a = l2 at *
  generalize a * d - b * c = l3 at *
  generalize q - v = m1 at *
  generalize u - p = m2 at *
  generalize p * v - q * u = m3 at *
  clear ha hb hc hd hp hq hu hv
  have tok1 : True := trivial
  have T0 : ArgsB w ((((w.alloc (.cells #[.int .i64 a, .int .i64 b, .int .i64 c, .int .i64 d] 103)).alloc (.cells #[.int .i64 p, .int .i64 q, .int .i64 u, .int .i64 v] 103)).alloc (.cells #[.int .u64 0, .int .u64 0, .int .u64 0, .int .u64 0, .int .u64 0, .int .u64 0, .int .u64 0, .int .u64 0, .int .u64 0, .int .u64 0, .int .u64 0, .int .u64 0] 83)).alloc (.cells #[.int .u64 0, .int .u64 0, .int .u64 0, .int .u64 0, .int .u64 0, .int .u64 0, .int .u64 0, .int .u64 0, .int .u64 0, .int .u64 0, .int .u64 0, .int .u64 0] 83)) [[.int .i64 a, .int .i64 b, .int .i64 c, .int .i64 d], [.int .i64 p, .int .i64 q, .int .i64 u, .int .i64 v], [.int .u64 0, .int .u64 0, .int .u64 0, .int .u64 0, .int .u64 0, .int .u64 0, .int .u64 0, .int .u64 0, .int .u64 0, .int .u64 0, .int .u64 0, .int .u64 0], [.int .u64 0, .int .u64 0, .int .u64 0, .int .u64 0, .int .u64 0, .int .u64 0, .int .u64 0, .int .u64 0, .int .u64 0, .int .u64 0, .int .u64 0, .int .u64 0]] := ar4 _ _ _ _ _ _ _ _ w
  go_enter Try.func87, Try.ntmps87
  go_upto_region 1 with fail
  generalize ((((w.alloc (.cells #[.int .i64 a, .int .i64 b, .int .i64 c, .int .i64 d] 103)).alloc (.cells #[.int .i64 p, .int .i64 q, .int .i64 u, .int .i64 v] 103)).alloc (.cells #[.int .u64 0, .int .u64 0, .int .u64 0, .int .u64 0, .int .u64 0, .int .u64 0, .int .u64 0, .int .u64 0, .int .u64 0, .int .u64 0, .int .u64 0, .int .u64 0] 83)).alloc (.cells #[.int .u64 0, .int .u64 0, .int .u64 0, .int .u64 0, .int .u64 0, .int .u64 0, .int .u64 0, .int .u64 0, .int .u64 0, .int .u64 0, .int .u64 0, .int .u64 0] 83)) = W at *
  go_region_held3 (fun w' => w'.cell? ⟨w.heap.size, 0, none⟩ = some (.int .i64 a) ∧ w'.cell? ⟨w.heap.size, 1, none⟩ = some (.int .i64 b) ∧ w'.cell? ⟨w.heap.size, 2, none⟩ = some (.int .i64 c) ∧ w'.cell? ⟨w.heap.size, 3, none⟩ = some (.int .i64 d) ∧ w'.cell? ⟨w.heap.size + 1, 0, none⟩ = some (.int .i64 p) ∧ w'.cell? ⟨w.heap.size + 1, 1, none⟩ = some (.int .i64 q) ∧ w'.cell? ⟨w.heap.size + 1, 2, none⟩ = some (.int .i64 u) ∧ w'.cell? ⟨w.heap.size + 1, 3, none⟩ = some (.int .i64 v)) ((refine ml_cells ?_ <;> repeat (first | (with_reducible exact T0) | (with_reducible refine ArgsB.drew ?_))))
    (first
      | (go_at_call 128; have _t := tok1; refine (LS _).mono ?_; rintro e w1 ⟨rfl, hB⟩; (first | (have T1 := T0.step hB) | (have T1 := T0.drew.step hB)); clear T0; have T0 := T1; clear T1 hB tok1 _t)
      | (go_at_call 128; refine (LT _).mono ?_; rintro e w2 ⟨rfl, hB⟩; (first | (have T1 := T0.step hB) | (have T1 := T0.drew.step hB)); clear T0; have T0 := T1; clear T1 hB)
      | (go_at_call 129; refine (CR _).mono ?_; rintro e w3 ⟨rfl, hB⟩; (first | (have T1 := T0.step hB) | (have T1 := T0.drew.step hB)); clear T0; have T0 := T1; clear T1 hB))
  all_goals clear LS LT CR
  all_goals (
    have BS : Blk _ w.heap.size _ := T0.b 0 rfl; have BT : Blk _ (w.heap.size + 1) _ := T0.b 1 rfl; have BP : Blk _ (w.heap.size + 1 + 1) _ := T0.b 2 rfl; have BQ : Blk _ (w.heap.size + 1 + 1 + 1) _ := T0.b 3 rfl; have HB := T0.below
    clear T0
    by_cases h0 : cw = 0
    · have HO1 : Hid (meetW a b c d p q u v = alongV a b c d p q u v) := by show _ = _; rw [HV.out, if_pos h0]
      obtain ⟨k, r0, r1, r2, r3, r4, r5, r6, r7, r8, r9, r10, r11, s0, s1, s2, s3, s4, s5, s6, s7, s8, s9, s10, s11, hk⟩ := along_ex a b c d p q u v
      have HO : Hid (meetW a b c d p q u v = .tuple #[.int .i64 k, .agg #[.int .u64 r0, .int .u64 r1, .int .u64 r2, .int .u64 r3, .int .u64 r4, .int .u64 r5, .int .u64 r6, .int .u64 r7, .int .u64 r8, .int .u64 r9, .int .u64 r10, .int .u64 r11], .agg #[.int .u64 s0, .int .u64 s1, .int .u64 s2, .int .u64 s3, .int .u64 s4, .int .u64 s5, .int .u64 s6, .int .u64 s7, .int .u64 s8, .int .u64 s9, .int .u64 s10, .int .u64 s11]]) := HO1.out.trans hk
      rw [hk] at AL
      subst h0
      clear HV hk HO1 SM P1 P2 bW
      have sc0 := BS.c 0 rfl; have sc1 := BS.c 1 rfl; have sc2 := BS.c 2 rfl; have sc3 := BS.c 3 rfl; have sl := BS.lt; have tc0 := BT.c 0 rfl; have tc1 := BT.c 1 rfl; have tc2 := BT.c 2 rfl; have tc3 := BT.c 3 rfl; have tl := BT.lt
      go_wp2_with fail
      refine (AL _).mono ?_
      rintro e w4 ⟨rfl, hB⟩
      replace BS := BS.step hB
      replace BT := BT.step hB
      replace BP := BP.step hB
      replace BQ := BQ.step hB
      replace HB := HB.trans (hB.mono HB.size)
      clear hB sc0 sc1 sc2 sc3 sl tc0 tc1 tc2 tc3 tl
      clear BS BT AL
      have xc0 := BP.c 0 rfl; have xf0 := BP.f 0 rfl; have xc1 := BP.c 1 rfl; have xf1 := BP.f 1 rfl; have xc2 := BP.c 2 rfl; have xf2 := BP.f 2 rfl; have xc3 := BP.c 3 rfl; have xf3 := BP.f 3 rfl; have xc4 := BP.c 4 rfl; have xf4 := BP.f 4 rfl; have xc5 := BP.c 5 rfl; have xf5 := BP.f 5 rfl; have xc6 := BP.c 6 rfl; have xf6 := BP.f 6 rfl; have xc7 := BP.c 7 rfl; have xf7 := BP.f 7 rfl; have xc8 := BP.c 8 rfl; have xf8 := BP.f 8 rfl; have xc9 := BP.c 9 rfl; have xf9 := BP.f 9 rfl; have xc10 := BP.c 10 rfl; have xf10 := BP.f 10 rfl; have xc11 := BP.c 11 rfl; have xf11 := BP.f 11 rfl; have xl := BP.lt; have yc0 := BQ.c 0 rfl; have yf0 := BQ.f 0 rfl; have yc1 := BQ.c 1 rfl; have yf1 := BQ.f 1 rfl; have yc2 := BQ.c 2 rfl; have yf2 := BQ.f 2 rfl; have yc3 := BQ.c 3 rfl; have yf3 := BQ.f 3 rfl; have yc4 := BQ.c 4 rfl; have yf4 := BQ.f 4 rfl; have yc5 := BQ.c 5 rfl; have yf5 := BQ.f 5 rfl; have yc6 := BQ.c 6 rfl; have yf6 := BQ.f 6 rfl; have yc7 := BQ.c 7 rfl; have yf7 := BQ.f 7 rfl; have yc8 := BQ.c 8 rfl; have yf8 := BQ.f 8 rfl; have yc9 := BQ.c 9 rfl; have yf9 := BQ.f 9 rfl; have yc10 := BQ.c 10 rfl; have yf10 := BQ.f 10 rfl; have yc11 := BQ.c 11 rfl; have yf11 := BQ.f 11 rfl; have yl := BQ.lt
      go_wp2
      have F0 : Blk ((((((((((((((((((((((((w4.setCell ⟨(w.heap.size + 1 + 1), 0, none⟩ (.int .u64 r0)).setCell ⟨(w.heap.size + 1 + 1), 1, none⟩ (.int .u64 r1)).setCell ⟨(w.heap.size + 1 + 1), 2, none⟩ (.int .u64 r2)).setCell ⟨(w.heap.size + 1 + 1), 3, none⟩ (.int .u64 r3)).setCell ⟨(w.heap.size + 1 + 1), 4, none⟩ (.int .u64 r4)).setCell ⟨(w.heap.size + 1 + 1), 5, none⟩ (.int .u64 r5)).setCell ⟨(w.heap.size + 1 + 1), 6, none⟩ (.int .u64 r6)).setCell ⟨(w.heap.size + 1 + 1), 7, none⟩ (.int .u64 r7)).setCell ⟨(w.heap.size + 1 + 1), 8, none⟩ (.int .u64 r8)).setCell ⟨(w.heap.size + 1 + 1), 9, none⟩ (.int .u64 r9)).setCell ⟨(w.heap.size + 1 + 1), 10, none⟩ (.int .u64 r10)).setCell ⟨(w.heap.size + 1 + 1), 11, none⟩ (.int .u64 r11)).setCell ⟨(w.heap.size + 1 + 1 + 1), 0, none⟩ (.int .u64 s0)).setCell ⟨(w.heap.size + 1 + 1 + 1), 1, none⟩ (.int .u64 s1)).setCell ⟨(w.heap.size + 1 + 1 + 1), 2, none⟩ (.int .u64 s2)).setCell ⟨(w.heap.size + 1 + 1 + 1), 3, none⟩ (.int .u64 s3)).setCell ⟨(w.heap.size + 1 + 1 + 1), 4, none⟩ (.int .u64 s4)).setCell ⟨(w.heap.size + 1 + 1 + 1), 5, none⟩ (.int .u64 s5)).setCell ⟨(w.heap.size + 1 + 1 + 1), 6, none⟩ (.int .u64 s6)).setCell ⟨(w.heap.size + 1 + 1 + 1), 7, none⟩ (.int .u64 s7)).setCell ⟨(w.heap.size + 1 + 1 + 1), 8, none⟩ (.int .u64 s8)).setCell ⟨(w.heap.size + 1 + 1 + 1), 9, none⟩ (.int .u64 s9)).setCell ⟨(w.heap.size + 1 + 1 + 1), 10, none⟩ (.int .u64 s10)).setCell ⟨(w.heap.size + 1 + 1 + 1), 11, none⟩ (.int .u64 s11)) (w.heap.size + 1 + 1) [.int .u64 r0, .int .u64 r1, .int .u64 r2, .int .u64 r3, .int .u64 r4, .int .u64 r5, .int .u64 r6, .int .u64 r7, .int .u64 r8, .int .u64 r9, .int .u64 r10, .int .u64 r11] := (BP.stored12 (.int .u64 r0) (.int .u64 r1) (.int .u64 r2) (.int .u64 r3) (.int .u64 r4) (.int .u64 r5) (.int .u64 r6) (.int .u64 r7) (.int .u64 r8) (.int .u64 r9) (.int .u64 r10) (.int .u64 r11)).set12 (by omega)
      have F1 : Blk ((((((((((((((((((((((((w4.setCell ⟨(w.heap.size + 1 + 1), 0, none⟩ (.int .u64 r0)).setCell ⟨(w.heap.size + 1 + 1), 1, none⟩ (.int .u64 r1)).setCell ⟨(w.heap.size + 1 + 1), 2, none⟩ (.int .u64 r2)).setCell ⟨(w.heap.size + 1 + 1), 3, none⟩ (.int .u64 r3)).setCell ⟨(w.heap.size + 1 + 1), 4, none⟩ (.int .u64 r4)).setCell ⟨(w.heap.size + 1 + 1), 5, none⟩ (.int .u64 r5)).setCell ⟨(w.heap.size + 1 + 1), 6, none⟩ (.int .u64 r6)).setCell ⟨(w.heap.size + 1 + 1), 7, none⟩ (.int .u64 r7)).setCell ⟨(w.heap.size + 1 + 1), 8, none⟩ (.int .u64 r8)).setCell ⟨(w.heap.size + 1 + 1), 9, none⟩ (.int .u64 r9)).setCell ⟨(w.heap.size + 1 + 1), 10, none⟩ (.int .u64 r10)).setCell ⟨(w.heap.size + 1 + 1), 11, none⟩ (.int .u64 r11)).setCell ⟨(w.heap.size + 1 + 1 + 1), 0, none⟩ (.int .u64 s0)).setCell ⟨(w.heap.size + 1 + 1 + 1), 1, none⟩ (.int .u64 s1)).setCell ⟨(w.heap.size + 1 + 1 + 1), 2, none⟩ (.int .u64 s2)).setCell ⟨(w.heap.size + 1 + 1 + 1), 3, none⟩ (.int .u64 s3)).setCell ⟨(w.heap.size + 1 + 1 + 1), 4, none⟩ (.int .u64 s4)).setCell ⟨(w.heap.size + 1 + 1 + 1), 5, none⟩ (.int .u64 s5)).setCell ⟨(w.heap.size + 1 + 1 + 1), 6, none⟩ (.int .u64 s6)).setCell ⟨(w.heap.size + 1 + 1 + 1), 7, none⟩ (.int .u64 s7)).setCell ⟨(w.heap.size + 1 + 1 + 1), 8, none⟩ (.int .u64 s8)).setCell ⟨(w.heap.size + 1 + 1 + 1), 9, none⟩ (.int .u64 s9)).setCell ⟨(w.heap.size + 1 + 1 + 1), 10, none⟩ (.int .u64 s10)).setCell ⟨(w.heap.size + 1 + 1 + 1), 11, none⟩ (.int .u64 s11)) (w.heap.size + 1 + 1 + 1) [.int .u64 s0, .int .u64 s1, .int .u64 s2, .int .u64 s3, .int .u64 s4, .int .u64 s5, .int .u64 s6, .int .u64 s7, .int .u64 s8, .int .u64 s9, .int .u64 s10, .int .u64 s11] := (BQ.set12 (by omega)).stored12 (.int .u64 s0) (.int .u64 s1) (.int .u64 s2) (.int .u64 s3) (.int .u64 s4) (.int .u64 s5) (.int .u64 s6) (.int .u64 s7) (.int .u64 s8) (.int .u64 s9) (.int .u64 s10) (.int .u64 s11)
      have HBF : Below w.heap.size w ((((((((((((((((((((((((w4.setCell ⟨(w.heap.size + 1 + 1), 0, none⟩ (.int .u64 r0)).setCell ⟨(w.heap.size + 1 + 1), 1, none⟩ (.int .u64 r1)).setCell ⟨(w.heap.size + 1 + 1), 2, none⟩ (.int .u64 r2)).setCell ⟨(w.heap.size + 1 + 1), 3, none⟩ (.int .u64 r3)).setCell ⟨(w.heap.size + 1 + 1), 4, none⟩ (.int .u64 r4)).setCell ⟨(w.heap.size + 1 + 1), 5, none⟩ (.int .u64 r5)).setCell ⟨(w.heap.size + 1 + 1), 6, none⟩ (.int .u64 r6)).setCell ⟨(w.heap.size + 1 + 1), 7, none⟩ (.int .u64 r7)).setCell ⟨(w.heap.size + 1 + 1), 8, none⟩ (.int .u64 r8)).setCell ⟨(w.heap.size + 1 + 1), 9, none⟩ (.int .u64 r9)).setCell ⟨(w.heap.size + 1 + 1), 10, none⟩ (.int .u64 r10)).setCell ⟨(w.heap.size + 1 + 1), 11, none⟩ (.int .u64 r11)).setCell ⟨(w.heap.size + 1 + 1 + 1), 0, none⟩ (.int .u64 s0)).setCell ⟨(w.heap.size + 1 + 1 + 1), 1, none⟩ (.int .u64 s1)).setCell ⟨(w.heap.size + 1 + 1 + 1), 2, none⟩ (.int .u64 s2)).setCell ⟨(w.heap.size + 1 + 1 + 1), 3, none⟩ (.int .u64 s3)).setCell ⟨(w.heap.size + 1 + 1 + 1), 4, none⟩ (.int .u64 s4)).setCell ⟨(w.heap.size + 1 + 1 + 1), 5, none⟩ (.int .u64 s5)).setCell ⟨(w.heap.size + 1 + 1 + 1), 6, none⟩ (.int .u64 s6)).setCell ⟨(w.heap.size + 1 + 1 + 1), 7, none⟩ (.int .u64 s7)).setCell ⟨(w.heap.size + 1 + 1 + 1), 8, none⟩ (.int .u64 s8)).setCell ⟨(w.heap.size + 1 + 1 + 1), 9, none⟩ (.int .u64 s9)).setCell ⟨(w.heap.size + 1 + 1 + 1), 10, none⟩ (.int .u64 s10)).setCell ⟨(w.heap.size + 1 + 1 + 1), 11, none⟩ (.int .u64 s11)) := Below.set12 (by omega) (Below.set12 (by omega) HB)
      clear BP BQ HB xc0 xf0 xc1 xf1 xc2 xf2 xc3 xf3 xc4 xf4 xc5 xf5 xc6 xf6 xc7 xf7 xc8 xf8 xc9 xf9 xc10 xf10 xc11 xf11 xl yc0 yf0 yc1 yf1 yc2 yf2 yc3 yf3 yc4 yf4 yc5 yf5 yc6 yf6 yc7 yf7 yc8 yf8 yc9 yf9 yc10 yf10 yc11 yf11 yl
      generalize ((((((((((((((((((((((((w4.setCell ⟨(w.heap.size + 1 + 1), 0, none⟩ (.int .u64 r0)).setCell ⟨(w.heap.size + 1 + 1), 1, none⟩ (.int .u64 r1)).setCell ⟨(w.heap.size + 1 + 1), 2, none⟩ (.int .u64 r2)).setCell ⟨(w.heap.size + 1 + 1), 3, none⟩ (.int .u64 r3)).setCell ⟨(w.heap.size + 1 + 1), 4, none⟩ (.int .u64 r4)).setCell ⟨(w.heap.size + 1 + 1), 5, none⟩ (.int .u64 r5)).setCell ⟨(w.heap.size + 1 + 1), 6, none⟩ (.int .u64 r6)).setCell ⟨(w.heap.size + 1 + 1), 7, none⟩ (.int .u64 r7)).setCell ⟨(w.heap.size + 1 + 1), 8, none⟩ (.int .u64 r8)).setCell ⟨(w.heap.size + 1 + 1), 9, none⟩ (.int .u64 r9)).setCell ⟨(w.heap.size + 1 + 1), 10, none⟩ (.int .u64 r10)).setCell ⟨(w.heap.size + 1 + 1), 11, none⟩ (.int .u64 r11)).setCell ⟨(w.heap.size + 1 + 1 + 1), 0, none⟩ (.int .u64 s0)).setCell ⟨(w.heap.size + 1 + 1 + 1), 1, none⟩ (.int .u64 s1)).setCell ⟨(w.heap.size + 1 + 1 + 1), 2, none⟩ (.int .u64 s2)).setCell ⟨(w.heap.size + 1 + 1 + 1), 3, none⟩ (.int .u64 s3)).setCell ⟨(w.heap.size + 1 + 1 + 1), 4, none⟩ (.int .u64 s4)).setCell ⟨(w.heap.size + 1 + 1 + 1), 5, none⟩ (.int .u64 s5)).setCell ⟨(w.heap.size + 1 + 1 + 1), 6, none⟩ (.int .u64 s6)).setCell ⟨(w.heap.size + 1 + 1 + 1), 7, none⟩ (.int .u64 s7)).setCell ⟨(w.heap.size + 1 + 1 + 1), 8, none⟩ (.int .u64 s8)).setCell ⟨(w.heap.size + 1 + 1 + 1), 9, none⟩ (.int .u64 s9)).setCell ⟨(w.heap.size + 1 + 1 + 1), 10, none⟩ (.int .u64 s10)).setCell ⟨(w.heap.size + 1 + 1 + 1), 11, none⟩ (.int .u64 s11)) = WF at *
      have m0 := F0.c 0 rfl; have n0 := F1.c 0 rfl; have m1 := F0.c 1 rfl; have n1 := F1.c 1 rfl; have m2 := F0.c 2 rfl; have n2 := F1.c 2 rfl; have m3 := F0.c 3 rfl; have n3 := F1.c 3 rfl; have m4 := F0.c 4 rfl; have n4 := F1.c 4 rfl; have m5 := F0.c 5 rfl; have n5 := F1.c 5 rfl; have m6 := F0.c 6 rfl; have n6 := F1.c 6 rfl; have m7 := F0.c 7 rfl; have n7 := F1.c 7 rfl; have m8 := F0.c 8 rfl; have n8 := F1.c 8 rfl; have m9 := F0.c 9 rfl; have n9 := F1.c 9 rfl; have m10 := F0.c 10 rfl; have n10 := F1.c 10 rfl; have m11 := F0.c 11 rfl; have n11 := F1.c 11 rfl
      refine bodyPost_ret (v := .tuple #[.int .i64 k, .agg #[.int .u64 r0, .int .u64 r1, .int .u64 r2, .int .u64 r3, .int .u64 r4, .int .u64 r5, .int .u64 r6, .int .u64 r7, .int .u64 r8, .int .u64 r9, .int .u64 r10, .int .u64 r11], .agg #[.int .u64 s0, .int .u64 s1, .int .u64 s2, .int .u64 s3, .int .u64 s4, .int .u64 s5, .int .u64 s6, .int .u64 s7, .int .u64 s8, .int .u64 s9, .int .u64 s10, .int .u64 s11]]) (by simp [results, Try.results87, go_sem, m0, n0, m1, n1, m2, n2, m3, n3, m4, n4, m5, n5, m6, n6, m7, n7, m8, n8, m9, n9, m10, n10, m11, n11]) rfl ?_
      exact ⟨by rw [HO.out], by first | exact HBF | exact HBF.drew⟩
    · have SM := SM h0
      have sc0 := BS.c 0 rfl; have sc1 := BS.c 1 rfl; have sc2 := BS.c 2 rfl; have sc3 := BS.c 3 rfl; have sl := BS.lt; have tc0 := BT.c 0 rfl; have tc1 := BT.c 1 rfl; have tc2 := BT.c 2 rfl; have tc3 := BT.c 3 rfl; have tl := BT.lt
      go_wp2_with fail
      refine (P1 _ _ (Blk.new _ _ _ rfl)).mono ?_
      rintro e w4 ⟨rfl, hB⟩
      replace BS := (BS.alloc _).step hB; replace BT := (BT.alloc _).step hB; replace BP := (BP.alloc _).step hB; replace BQ := (BQ.alloc _).step hB; replace HB := (HB.alloc HB.size _).trans (hB.mono (HB.alloc HB.size _).size)
      clear hB sc0 sc1 sc2 sc3 sl tc0 tc1 tc2 tc3 tl P1
      cases f1
      · have HO : Hid (meetW a b c d p q u v = .tuple #[.int .i64 0, .agg #[.int .u64 0, .int .u64 0, .int .u64 0, .int .u64 0, .int .u64 0, .int .u64 0, .int .u64 0, .int .u64 0, .int .u64 0, .int .u64 0, .int .u64 0, .int .u64 0], .agg #[.int .u64 0, .int .u64 0, .int .u64 0, .int .u64 0, .int .u64 0, .int .u64 0, .int .u64 0, .int .u64 0, .int .u64 0, .int .u64 0, .int .u64 0, .int .u64 0]]) := by show _ = _; rw [HV.out, if_neg h0]; rfl
        clear BS BT AL SM P2 HV bW
        have xc0 := BP.c 0 rfl; have xf0 := BP.f 0 rfl; have xc1 := BP.c 1 rfl; have xf1 := BP.f 1 rfl; have xc2 := BP.c 2 rfl; have xf2 := BP.f 2 rfl; have xc3 := BP.c 3 rfl; have xf3 := BP.f 3 rfl; have xc4 := BP.c 4 rfl; have xf4 := BP.f 4 rfl; have xc5 := BP.c 5 rfl; have xf5 := BP.f 5 rfl; have xc6 := BP.c 6 rfl; have xf6 := BP.f 6 rfl; have xc7 := BP.c 7 rfl; have xf7 := BP.f 7 rfl; have xc8 := BP.c 8 rfl; have xf8 := BP.f 8 rfl; have xc9 := BP.c 9 rfl; have xf9 := BP.f 9 rfl; have xc10 := BP.c 10 rfl; have xf10 := BP.f 10 rfl; have xc11 := BP.c 11 rfl; have xf11 := BP.f 11 rfl; have xl := BP.lt; have yc0 := BQ.c 0 rfl; have yf0 := BQ.f 0 rfl; have yc1 := BQ.c 1 rfl; have yf1 := BQ.f 1 rfl; have yc2 := BQ.c 2 rfl; have yf2 := BQ.f 2 rfl; have yc3 := BQ.c 3 rfl; have yf3 := BQ.f 3 rfl; have yc4 := BQ.c 4 rfl; have yf4 := BQ.f 4 rfl; have yc5 := BQ.c 5 rfl; have yf5 := BQ.f 5 rfl; have yc6 := BQ.c 6 rfl; have yf6 := BQ.f 6 rfl; have yc7 := BQ.c 7 rfl; have yf7 := BQ.f 7 rfl; have yc8 := BQ.c 8 rfl; have yf8 := BQ.f 8 rfl; have yc9 := BQ.c 9 rfl; have yf9 := BQ.f 9 rfl; have yc10 := BQ.c 10 rfl; have yf10 := BQ.f 10 rfl; have yc11 := BQ.c 11 rfl; have yf11 := BQ.f 11 rfl; have yl := BQ.lt
        go_wp2
        have F0 : Blk ((((((((((((((((((((((((w4.setCell ⟨(w.heap.size + 1 + 1), 0, none⟩ (.int .u64 0)).setCell ⟨(w.heap.size + 1 + 1), 1, none⟩ (.int .u64 0)).setCell ⟨(w.heap.size + 1 + 1), 2, none⟩ (.int .u64 0)).setCell ⟨(w.heap.size + 1 + 1), 3, none⟩ (.int .u64 0)).setCell ⟨(w.heap.size + 1 + 1), 4, none⟩ (.int .u64 0)).setCell ⟨(w.heap.size + 1 + 1), 5, none⟩ (.int .u64 0)).setCell ⟨(w.heap.size + 1 + 1), 6, none⟩ (.int .u64 0)).setCell ⟨(w.heap.size + 1 + 1), 7, none⟩ (.int .u64 0)).setCell ⟨(w.heap.size + 1 + 1), 8, none⟩ (.int .u64 0)).setCell ⟨(w.heap.size + 1 + 1), 9, none⟩ (.int .u64 0)).setCell ⟨(w.heap.size + 1 + 1), 10, none⟩ (.int .u64 0)).setCell ⟨(w.heap.size + 1 + 1), 11, none⟩ (.int .u64 0)).setCell ⟨(w.heap.size + 1 + 1 + 1), 0, none⟩ (.int .u64 0)).setCell ⟨(w.heap.size + 1 + 1 + 1), 1, none⟩ (.int .u64 0)).setCell ⟨(w.heap.size + 1 + 1 + 1), 2, none⟩ (.int .u64 0)).setCell ⟨(w.heap.size + 1 + 1 + 1), 3, none⟩ (.int .u64 0)).setCell ⟨(w.heap.size + 1 + 1 + 1), 4, none⟩ (.int .u64 0)).setCell ⟨(w.heap.size + 1 + 1 + 1), 5, none⟩ (.int .u64 0)).setCell ⟨(w.heap.size + 1 + 1 + 1), 6, none⟩ (.int .u64 0)).setCell ⟨(w.heap.size + 1 + 1 + 1), 7, none⟩ (.int .u64 0)).setCell ⟨(w.heap.size + 1 + 1 + 1), 8, none⟩ (.int .u64 0)).setCell ⟨(w.heap.size + 1 + 1 + 1), 9, none⟩ (.int .u64 0)).setCell ⟨(w.heap.size + 1 + 1 + 1), 10, none⟩ (.int .u64 0)).setCell ⟨(w.heap.size + 1 + 1 + 1), 11, none⟩ (.int .u64 0)) (w.heap.size + 1 + 1) [.int .u64 0, .int .u64 0, .int .u64 0, .int .u64 0, .int .u64 0, .int .u64 0, .int .u64 0, .int .u64 0, .int .u64 0, .int .u64 0, .int .u64 0, .int .u64 0] := (BP.stored12 (.int .u64 0) (.int .u64 0) (.int .u64 0) (.int .u64 0) (.int .u64 0) (.int .u64 0) (.int .u64 0) (.int .u64 0) (.int .u64 0) (.int .u64 0) (.int .u64 0) (.int .u64 0)).set12 (by omega)
        have F1 : Blk ((((((((((((((((((((((((w4.setCell ⟨(w.heap.size + 1 + 1), 0, none⟩ (.int .u64 0)).setCell ⟨(w.heap.size + 1 + 1), 1, none⟩ (.int .u64 0)).setCell ⟨(w.heap.size + 1 + 1), 2, none⟩ (.int .u64 0)).setCell ⟨(w.heap.size + 1 + 1), 3, none⟩ (.int .u64 0)).setCell ⟨(w.heap.size + 1 + 1), 4, none⟩ (.int .u64 0)).setCell ⟨(w.heap.size + 1 + 1), 5, none⟩ (.int .u64 0)).setCell ⟨(w.heap.size + 1 + 1), 6, none⟩ (.int .u64 0)).setCell ⟨(w.heap.size + 1 + 1), 7, none⟩ (.int .u64 0)).setCell ⟨(w.heap.size + 1 + 1), 8, none⟩ (.int .u64 0)).setCell ⟨(w.heap.size + 1 + 1), 9, none⟩ (.int .u64 0)).setCell ⟨(w.heap.size + 1 + 1), 10, none⟩ (.int .u64 0)).setCell ⟨(w.heap.size + 1 + 1), 11, none⟩ (.int .u64 0)).setCell ⟨(w.heap.size + 1 + 1 + 1), 0, none⟩ (.int .u64 0)).setCell ⟨(w.heap.size + 1 + 1 + 1), 1, none⟩ (.int .u64 0)).setCell ⟨(w.heap.size + 1 + 1 + 1), 2, none⟩ (.int .u64 0)).setCell ⟨(w.heap.size + 1 + 1 + 1), 3, none⟩ (.int .u64 0)).setCell ⟨(w.heap.size + 1 + 1 + 1), 4, none⟩ (.int .u64 0)).setCell ⟨(w.heap.size + 1 + 1 + 1), 5, none⟩ (.int .u64 0)).setCell ⟨(w.heap.size + 1 + 1 + 1), 6, none⟩ (.int .u64 0)).setCell ⟨(w.heap.size + 1 + 1 + 1), 7, none⟩ (.int .u64 0)).setCell ⟨(w.heap.size + 1 + 1 + 1), 8, none⟩ (.int .u64 0)).setCell ⟨(w.heap.size + 1 + 1 + 1), 9, none⟩ (.int .u64 0)).setCell ⟨(w.heap.size + 1 + 1 + 1), 10, none⟩ (.int .u64 0)).setCell ⟨(w.heap.size + 1 + 1 + 1), 11, none⟩ (.int .u64 0)) (w.heap.size + 1 + 1 + 1) [.int .u64 0, .int .u64 0, .int .u64 0, .int .u64 0, .int .u64 0, .int .u64 0, .int .u64 0, .int .u64 0, .int .u64 0, .int .u64 0, .int .u64 0, .int .u64 0] := (BQ.set12 (by omega)).stored12 (.int .u64 0) (.int .u64 0) (.int .u64 0) (.int .u64 0) (.int .u64 0) (.int .u64 0) (.int .u64 0) (.int .u64 0) (.int .u64 0) (.int .u64 0) (.int .u64 0) (.int .u64 0)
        have HBF : Below w.heap.size w ((((((((((((((((((((((((w4.setCell ⟨(w.heap.size + 1 + 1), 0, none⟩ (.int .u64 0)).setCell ⟨(w.heap.size + 1 + 1), 1, none⟩ (.int .u64 0)).setCell ⟨(w.heap.size + 1 + 1), 2, none⟩ (.int .u64 0)).setCell ⟨(w.heap.size + 1 + 1), 3, none⟩ (.int .u64 0)).setCell ⟨(w.heap.size + 1 + 1), 4, none⟩ (.int .u64 0)).setCell ⟨(w.heap.size + 1 + 1), 5, none⟩ (.int .u64 0)).setCell ⟨(w.heap.size + 1 + 1), 6, none⟩ (.int .u64 0)).setCell ⟨(w.heap.size + 1 + 1), 7, none⟩ (.int .u64 0)).setCell ⟨(w.heap.size + 1 + 1), 8, none⟩ (.int .u64 0)).setCell ⟨(w.heap.size + 1 + 1), 9, none⟩ (.int .u64 0)).setCell ⟨(w.heap.size + 1 + 1), 10, none⟩ (.int .u64 0)).setCell ⟨(w.heap.size + 1 + 1), 11, none⟩ (.int .u64 0)).setCell ⟨(w.heap.size + 1 + 1 + 1), 0, none⟩ (.int .u64 0)).setCell ⟨(w.heap.size + 1 + 1 + 1), 1, none⟩ (.int .u64 0)).setCell ⟨(w.heap.size + 1 + 1 + 1), 2, none⟩ (.int .u64 0)).setCell ⟨(w.heap.size + 1 + 1 + 1), 3, none⟩ (.int .u64 0)).setCell ⟨(w.heap.size + 1 + 1 + 1), 4, none⟩ (.int .u64 0)).setCell ⟨(w.heap.size + 1 + 1 + 1), 5, none⟩ (.int .u64 0)).setCell ⟨(w.heap.size + 1 + 1 + 1), 6, none⟩ (.int .u64 0)).setCell ⟨(w.heap.size + 1 + 1 + 1), 7, none⟩ (.int .u64 0)).setCell ⟨(w.heap.size + 1 + 1 + 1), 8, none⟩ (.int .u64 0)).setCell ⟨(w.heap.size + 1 + 1 + 1), 9, none⟩ (.int .u64 0)).setCell ⟨(w.heap.size + 1 + 1 + 1), 10, none⟩ (.int .u64 0)).setCell ⟨(w.heap.size + 1 + 1 + 1), 11, none⟩ (.int .u64 0)) := Below.set12 (by omega) (Below.set12 (by omega) HB)
        clear BP BQ HB xc0 xf0 xc1 xf1 xc2 xf2 xc3 xf3 xc4 xf4 xc5 xf5 xc6 xf6 xc7 xf7 xc8 xf8 xc9 xf9 xc10 xf10 xc11 xf11 xl yc0 yf0 yc1 yf1 yc2 yf2 yc3 yf3 yc4 yf4 yc5 yf5 yc6 yf6 yc7 yf7 yc8 yf8 yc9 yf9 yc10 yf10 yc11 yf11 yl
        generalize ((((((((((((((((((((((((w4.setCell ⟨(w.heap.size + 1 + 1), 0, none⟩ (.int .u64 0)).setCell ⟨(w.heap.size + 1 + 1), 1, none⟩ (.int .u64 0)).setCell ⟨(w.heap.size + 1 + 1), 2, none⟩ (.int .u64 0)).setCell ⟨(w.heap.size + 1 + 1), 3, none⟩ (.int .u64 0)).setCell ⟨(w.heap.size + 1 + 1), 4, none⟩ (.int .u64 0)).setCell ⟨(w.heap.size + 1 + 1), 5, none⟩ (.int .u64 0)).setCell ⟨(w.heap.size + 1 + 1), 6, none⟩ (.int .u64 0)).setCell ⟨(w.heap.size + 1 + 1), 7, none⟩ (.int .u64 0)).setCell ⟨(w.heap.size + 1 + 1), 8, none⟩ (.int .u64 0)).setCell ⟨(w.heap.size + 1 + 1), 9, none⟩ (.int .u64 0)).setCell ⟨(w.heap.size + 1 + 1), 10, none⟩ (.int .u64 0)).setCell ⟨(w.heap.size + 1 + 1), 11, none⟩ (.int .u64 0)).setCell ⟨(w.heap.size + 1 + 1 + 1), 0, none⟩ (.int .u64 0)).setCell ⟨(w.heap.size + 1 + 1 + 1), 1, none⟩ (.int .u64 0)).setCell ⟨(w.heap.size + 1 + 1 + 1), 2, none⟩ (.int .u64 0)).setCell ⟨(w.heap.size + 1 + 1 + 1), 3, none⟩ (.int .u64 0)).setCell ⟨(w.heap.size + 1 + 1 + 1), 4, none⟩ (.int .u64 0)).setCell ⟨(w.heap.size + 1 + 1 + 1), 5, none⟩ (.int .u64 0)).setCell ⟨(w.heap.size + 1 + 1 + 1), 6, none⟩ (.int .u64 0)).setCell ⟨(w.heap.size + 1 + 1 + 1), 7, none⟩ (.int .u64 0)).setCell ⟨(w.heap.size + 1 + 1 + 1), 8, none⟩ (.int .u64 0)).setCell ⟨(w.heap.size + 1 + 1 + 1), 9, none⟩ (.int .u64 0)).setCell ⟨(w.heap.size + 1 + 1 + 1), 10, none⟩ (.int .u64 0)).setCell ⟨(w.heap.size + 1 + 1 + 1), 11, none⟩ (.int .u64 0)) = WF at *
        have m0 := F0.c 0 rfl; have n0 := F1.c 0 rfl; have m1 := F0.c 1 rfl; have n1 := F1.c 1 rfl; have m2 := F0.c 2 rfl; have n2 := F1.c 2 rfl; have m3 := F0.c 3 rfl; have n3 := F1.c 3 rfl; have m4 := F0.c 4 rfl; have n4 := F1.c 4 rfl; have m5 := F0.c 5 rfl; have n5 := F1.c 5 rfl; have m6 := F0.c 6 rfl; have n6 := F1.c 6 rfl; have m7 := F0.c 7 rfl; have n7 := F1.c 7 rfl; have m8 := F0.c 8 rfl; have n8 := F1.c 8 rfl; have m9 := F0.c 9 rfl; have n9 := F1.c 9 rfl; have m10 := F0.c 10 rfl; have n10 := F1.c 10 rfl; have m11 := F0.c 11 rfl; have n11 := F1.c 11 rfl
        refine bodyPost_ret (v := .tuple #[.int .i64 0, .agg #[.int .u64 0, .int .u64 0, .int .u64 0, .int .u64 0, .int .u64 0, .int .u64 0, .int .u64 0, .int .u64 0, .int .u64 0, .int .u64 0, .int .u64 0, .int .u64 0], .agg #[.int .u64 0, .int .u64 0, .int .u64 0, .int .u64 0, .int .u64 0, .int .u64 0, .int .u64 0, .int .u64 0, .int .u64 0, .int .u64 0, .int .u64 0, .int .u64 0]]) (by simp [results, Try.results87, go_sem, m0, n0, m1, n1, m2, n2, m3, n3, m4, n4, m5, n5, m6, n6, m7, n7, m8, n8, m9, n9, m10, n10, m11, n11]) rfl ?_
        exact ⟨by rw [HO.out], by first | exact HBF | exact HBF.drew⟩
      · have sc0 := BS.c 0 rfl; have sc1 := BS.c 1 rfl; have sc2 := BS.c 2 rfl; have sc3 := BS.c 3 rfl; have sl := BS.lt; have tc0 := BT.c 0 rfl; have tc1 := BT.c 1 rfl; have tc2 := BT.c 2 rfl; have tc3 := BT.c 3 rfl; have tl := BT.lt
        go_wp2_with fail
        refine (P2 _ _ (Blk.new _ _ _ rfl)).mono ?_
        rintro e w5 ⟨rfl, hB⟩
        replace BP := (BP.alloc _).step hB; replace BQ := (BQ.alloc _).step hB; replace HB := (HB.alloc HB.size _).trans (hB.mono (HB.alloc HB.size _).size)
        clear hB sc0 sc1 sc2 sc3 sl tc0 tc1 tc2 tc3 tl P2 BS BT
        cases f2
        · have HO : Hid (meetW a b c d p q u v = .tuple #[.int .i64 0, .agg #[.int .u64 0, .int .u64 0, .int .u64 0, .int .u64 0, .int .u64 0, .int .u64 0, .int .u64 0, .int .u64 0, .int .u64 0, .int .u64 0, .int .u64 0, .int .u64 0], .agg #[.int .u64 0, .int .u64 0, .int .u64 0, .int .u64 0, .int .u64 0, .int .u64 0, .int .u64 0, .int .u64 0, .int .u64 0, .int .u64 0, .int .u64 0, .int .u64 0]]) := by show _ = _; rw [HV.out, if_neg h0]; rfl
          clear AL SM HV bW
          have xc0 := BP.c 0 rfl; have xf0 := BP.f 0 rfl; have xc1 := BP.c 1 rfl; have xf1 := BP.f 1 rfl; have xc2 := BP.c 2 rfl; have xf2 := BP.f 2 rfl; have xc3 := BP.c 3 rfl; have xf3 := BP.f 3 rfl; have xc4 := BP.c 4 rfl; have xf4 := BP.f 4 rfl; have xc5 := BP.c 5 rfl; have xf5 := BP.f 5 rfl; have xc6 := BP.c 6 rfl; have xf6 := BP.f 6 rfl; have xc7 := BP.c 7 rfl; have xf7 := BP.f 7 rfl; have xc8 := BP.c 8 rfl; have xf8 := BP.f 8 rfl; have xc9 := BP.c 9 rfl; have xf9 := BP.f 9 rfl; have xc10 := BP.c 10 rfl; have xf10 := BP.f 10 rfl; have xc11 := BP.c 11 rfl; have xf11 := BP.f 11 rfl; have xl := BP.lt; have yc0 := BQ.c 0 rfl; have yf0 := BQ.f 0 rfl; have yc1 := BQ.c 1 rfl; have yf1 := BQ.f 1 rfl; have yc2 := BQ.c 2 rfl; have yf2 := BQ.f 2 rfl; have yc3 := BQ.c 3 rfl; have yf3 := BQ.f 3 rfl; have yc4 := BQ.c 4 rfl; have yf4 := BQ.f 4 rfl; have yc5 := BQ.c 5 rfl; have yf5 := BQ.f 5 rfl; have yc6 := BQ.c 6 rfl; have yf6 := BQ.f 6 rfl; have yc7 := BQ.c 7 rfl; have yf7 := BQ.f 7 rfl; have yc8 := BQ.c 8 rfl; have yf8 := BQ.f 8 rfl; have yc9 := BQ.c 9 rfl; have yf9 := BQ.f 9 rfl; have yc10 := BQ.c 10 rfl; have yf10 := BQ.f 10 rfl; have yc11 := BQ.c 11 rfl; have yf11 := BQ.f 11 rfl; have yl := BQ.lt
          go_wp2
          have F0 : Blk ((((((((((((((((((((((((w5.setCell ⟨(w.heap.size + 1 + 1), 0, none⟩ (.int .u64 0)).setCell ⟨(w.heap.size + 1 + 1), 1, none⟩ (.int .u64 0)).setCell ⟨(w.heap.size + 1 + 1), 2, none⟩ (.int .u64 0)).setCell ⟨(w.heap.size + 1 + 1), 3, none⟩ (.int .u64 0)).setCell ⟨(w.heap.size + 1 + 1), 4, none⟩ (.int .u64 0)).setCell ⟨(w.heap.size + 1 + 1), 5, none⟩ (.int .u64 0)).setCell ⟨(w.heap.size + 1 + 1), 6, none⟩ (.int .u64 0)).setCell ⟨(w.heap.size + 1 + 1), 7, none⟩ (.int .u64 0)).setCell ⟨(w.heap.size + 1 + 1), 8, none⟩ (.int .u64 0)).setCell ⟨(w.heap.size + 1 + 1), 9, none⟩ (.int .u64 0)).setCell ⟨(w.heap.size + 1 + 1), 10, none⟩ (.int .u64 0)).setCell ⟨(w.heap.size + 1 + 1), 11, none⟩ (.int .u64 0)).setCell ⟨(w.heap.size + 1 + 1 + 1), 0, none⟩ (.int .u64 0)).setCell ⟨(w.heap.size + 1 + 1 + 1), 1, none⟩ (.int .u64 0)).setCell ⟨(w.heap.size + 1 + 1 + 1), 2, none⟩ (.int .u64 0)).setCell ⟨(w.heap.size + 1 + 1 + 1), 3, none⟩ (.int .u64 0)).setCell ⟨(w.heap.size + 1 + 1 + 1), 4, none⟩ (.int .u64 0)).setCell ⟨(w.heap.size + 1 + 1 + 1), 5, none⟩ (.int .u64 0)).setCell ⟨(w.heap.size + 1 + 1 + 1), 6, none⟩ (.int .u64 0)).setCell ⟨(w.heap.size + 1 + 1 + 1), 7, none⟩ (.int .u64 0)).setCell ⟨(w.heap.size + 1 + 1 + 1), 8, none⟩ (.int .u64 0)).setCell ⟨(w.heap.size + 1 + 1 + 1), 9, none⟩ (.int .u64 0)).setCell ⟨(w.heap.size + 1 + 1 + 1), 10, none⟩ (.int .u64 0)).setCell ⟨(w.heap.size + 1 + 1 + 1), 11, none⟩ (.int .u64 0)) (w.heap.size + 1 + 1) [.int .u64 0, .int .u64 0, .int .u64 0, .int .u64 0, .int .u64 0, .int .u64 0, .int .u64 0, .int .u64 0, .int .u64 0, .int .u64 0, .int .u64 0, .int .u64 0] := (BP.stored12 (.int .u64 0) (.int .u64 0) (.int .u64 0) (.int .u64 0) (.int .u64 0) (.int .u64 0) (.int .u64 0) (.int .u64 0) (.int .u64 0) (.int .u64 0) (.int .u64 0) (.int .u64 0)).set12 (by omega)
          have F1 : Blk ((((((((((((((((((((((((w5.setCell ⟨(w.heap.size + 1 + 1), 0, none⟩ (.int .u64 0)).setCell ⟨(w.heap.size + 1 + 1), 1, none⟩ (.int .u64 0)).setCell ⟨(w.heap.size + 1 + 1), 2, none⟩ (.int .u64 0)).setCell ⟨(w.heap.size + 1 + 1), 3, none⟩ (.int .u64 0)).setCell ⟨(w.heap.size + 1 + 1), 4, none⟩ (.int .u64 0)).setCell ⟨(w.heap.size + 1 + 1), 5, none⟩ (.int .u64 0)).setCell ⟨(w.heap.size + 1 + 1), 6, none⟩ (.int .u64 0)).setCell ⟨(w.heap.size + 1 + 1), 7, none⟩ (.int .u64 0)).setCell ⟨(w.heap.size + 1 + 1), 8, none⟩ (.int .u64 0)).setCell ⟨(w.heap.size + 1 + 1), 9, none⟩ (.int .u64 0)).setCell ⟨(w.heap.size + 1 + 1), 10, none⟩ (.int .u64 0)).setCell ⟨(w.heap.size + 1 + 1), 11, none⟩ (.int .u64 0)).setCell ⟨(w.heap.size + 1 + 1 + 1), 0, none⟩ (.int .u64 0)).setCell ⟨(w.heap.size + 1 + 1 + 1), 1, none⟩ (.int .u64 0)).setCell ⟨(w.heap.size + 1 + 1 + 1), 2, none⟩ (.int .u64 0)).setCell ⟨(w.heap.size + 1 + 1 + 1), 3, none⟩ (.int .u64 0)).setCell ⟨(w.heap.size + 1 + 1 + 1), 4, none⟩ (.int .u64 0)).setCell ⟨(w.heap.size + 1 + 1 + 1), 5, none⟩ (.int .u64 0)).setCell ⟨(w.heap.size + 1 + 1 + 1), 6, none⟩ (.int .u64 0)).setCell ⟨(w.heap.size + 1 + 1 + 1), 7, none⟩ (.int .u64 0)).setCell ⟨(w.heap.size + 1 + 1 + 1), 8, none⟩ (.int .u64 0)).setCell ⟨(w.heap.size + 1 + 1 + 1), 9, none⟩ (.int .u64 0)).setCell ⟨(w.heap.size + 1 + 1 + 1), 10, none⟩ (.int .u64 0)).setCell ⟨(w.heap.size + 1 + 1 + 1), 11, none⟩ (.int .u64 0)) (w.heap.size + 1 + 1 + 1) [.int .u64 0, .int .u64 0, .int .u64 0, .int .u64 0, .int .u64 0, .int .u64 0, .int .u64 0, .int .u64 0, .int .u64 0, .int .u64 0, .int .u64 0, .int .u64 0] := (BQ.set12 (by omega)).stored12 (.int .u64 0) (.int .u64 0) (.int .u64 0) (.int .u64 0) (.int .u64 0) (.int .u64 0) (.int .u64 0) (.int .u64 0) (.int .u64 0) (.int .u64 0) (.int .u64 0) (.int .u64 0)
          have HBF : Below w.heap.size w ((((((((((((((((((((((((w5.setCell ⟨(w.heap.size + 1 + 1), 0, none⟩ (.int .u64 0)).setCell ⟨(w.heap.size + 1 + 1), 1, none⟩ (.int .u64 0)).setCell ⟨(w.heap.size + 1 + 1), 2, none⟩ (.int .u64 0)).setCell ⟨(w.heap.size + 1 + 1), 3, none⟩ (.int .u64 0)).setCell ⟨(w.heap.size + 1 + 1), 4, none⟩ (.int .u64 0)).setCell ⟨(w.heap.size + 1 + 1), 5, none⟩ (.int .u64 0)).setCell ⟨(w.heap.size + 1 + 1), 6, none⟩ (.int .u64 0)).setCell ⟨(w.heap.size + 1 + 1), 7, none⟩ (.int .u64 0)).setCell ⟨(w.heap.size + 1 + 1), 8, none⟩ (.int .u64 0)).setCell ⟨(w.heap.size + 1 + 1), 9, none⟩ (.int .u64 0)).setCell ⟨(w.heap.size + 1 + 1), 10, none⟩ (.int .u64 0)).setCell ⟨(w.heap.size + 1 + 1), 11, none⟩ (.int .u64 0)).setCell ⟨(w.heap.size + 1 + 1 + 1), 0, none⟩ (.int .u64 0)).setCell ⟨(w.heap.size + 1 + 1 + 1), 1, none⟩ (.int .u64 0)).setCell ⟨(w.heap.size + 1 + 1 + 1), 2, none⟩ (.int .u64 0)).setCell ⟨(w.heap.size + 1 + 1 + 1), 3, none⟩ (.int .u64 0)).setCell ⟨(w.heap.size + 1 + 1 + 1), 4, none⟩ (.int .u64 0)).setCell ⟨(w.heap.size + 1 + 1 + 1), 5, none⟩ (.int .u64 0)).setCell ⟨(w.heap.size + 1 + 1 + 1), 6, none⟩ (.int .u64 0)).setCell ⟨(w.heap.size + 1 + 1 + 1), 7, none⟩ (.int .u64 0)).setCell ⟨(w.heap.size + 1 + 1 + 1), 8, none⟩ (.int .u64 0)).setCell ⟨(w.heap.size + 1 + 1 + 1), 9, none⟩ (.int .u64 0)).setCell ⟨(w.heap.size + 1 + 1 + 1), 10, none⟩ (.int .u64 0)).setCell ⟨(w.heap.size + 1 + 1 + 1), 11, none⟩ (.int .u64 0)) := Below.set12 (by omega) (Below.set12 (by omega) HB)
          clear BP BQ HB xc0 xf0 xc1 xf1 xc2 xf2 xc3 xf3 xc4 xf4 xc5 xf5 xc6 xf6 xc7 xf7 xc8 xf8 xc9 xf9 xc10 xf10 xc11 xf11 xl yc0 yf0 yc1 yf1 yc2 yf2 yc3 yf3 yc4 yf4 yc5 yf5 yc6 yf6 yc7 yf7 yc8 yf8 yc9 yf9 yc10 yf10 yc11 yf11 yl
          generalize ((((((((((((((((((((((((w5.setCell ⟨(w.heap.size + 1 + 1), 0, none⟩ (.int .u64 0)).setCell ⟨(w.heap.size + 1 + 1), 1, none⟩ (.int .u64 0)).setCell ⟨(w.heap.size + 1 + 1), 2, none⟩ (.int .u64 0)).setCell ⟨(w.heap.size + 1 + 1), 3, none⟩ (.int .u64 0)).setCell ⟨(w.heap.size + 1 + 1), 4, none⟩ (.int .u64 0)).setCell ⟨(w.heap.size + 1 + 1), 5, none⟩ (.int .u64 0)).setCell ⟨(w.heap.size + 1 + 1), 6, none⟩ (.int .u64 0)).setCell ⟨(w.heap.size + 1 + 1), 7, none⟩ (.int .u64 0)).setCell ⟨(w.heap.size + 1 + 1), 8, none⟩ (.int .u64 0)).setCell ⟨(w.heap.size + 1 + 1), 9, none⟩ (.int .u64 0)).setCell ⟨(w.heap.size + 1 + 1), 10, none⟩ (.int .u64 0)).setCell ⟨(w.heap.size + 1 + 1), 11, none⟩ (.int .u64 0)).setCell ⟨(w.heap.size + 1 + 1 + 1), 0, none⟩ (.int .u64 0)).setCell ⟨(w.heap.size + 1 + 1 + 1), 1, none⟩ (.int .u64 0)).setCell ⟨(w.heap.size + 1 + 1 + 1), 2, none⟩ (.int .u64 0)).setCell ⟨(w.heap.size + 1 + 1 + 1), 3, none⟩ (.int .u64 0)).setCell ⟨(w.heap.size + 1 + 1 + 1), 4, none⟩ (.int .u64 0)).setCell ⟨(w.heap.size + 1 + 1 + 1), 5, none⟩ (.int .u64 0)).setCell ⟨(w.heap.size + 1 + 1 + 1), 6, none⟩ (.int .u64 0)).setCell ⟨(w.heap.size + 1 + 1 + 1), 7, none⟩ (.int .u64 0)).setCell ⟨(w.heap.size + 1 + 1 + 1), 8, none⟩ (.int .u64 0)).setCell ⟨(w.heap.size + 1 + 1 + 1), 9, none⟩ (.int .u64 0)).setCell ⟨(w.heap.size + 1 + 1 + 1), 10, none⟩ (.int .u64 0)).setCell ⟨(w.heap.size + 1 + 1 + 1), 11, none⟩ (.int .u64 0)) = WF at *
          have m0 := F0.c 0 rfl; have n0 := F1.c 0 rfl; have m1 := F0.c 1 rfl; have n1 := F1.c 1 rfl; have m2 := F0.c 2 rfl; have n2 := F1.c 2 rfl; have m3 := F0.c 3 rfl; have n3 := F1.c 3 rfl; have m4 := F0.c 4 rfl; have n4 := F1.c 4 rfl; have m5 := F0.c 5 rfl; have n5 := F1.c 5 rfl; have m6 := F0.c 6 rfl; have n6 := F1.c 6 rfl; have m7 := F0.c 7 rfl; have n7 := F1.c 7 rfl; have m8 := F0.c 8 rfl; have n8 := F1.c 8 rfl; have m9 := F0.c 9 rfl; have n9 := F1.c 9 rfl; have m10 := F0.c 10 rfl; have n10 := F1.c 10 rfl; have m11 := F0.c 11 rfl; have n11 := F1.c 11 rfl
          refine bodyPost_ret (v := .tuple #[.int .i64 0, .agg #[.int .u64 0, .int .u64 0, .int .u64 0, .int .u64 0, .int .u64 0, .int .u64 0, .int .u64 0, .int .u64 0, .int .u64 0, .int .u64 0, .int .u64 0, .int .u64 0], .agg #[.int .u64 0, .int .u64 0, .int .u64 0, .int .u64 0, .int .u64 0, .int .u64 0, .int .u64 0, .int .u64 0, .int .u64 0, .int .u64 0, .int .u64 0, .int .u64 0]]) (by simp [results, Try.results87, go_sem, m0, n0, m1, n1, m2, n2, m3, n3, m4, n4, m5, n5, m6, n6, m7, n7, m8, n8, m9, n9, m10, n10, m11, n11]) rfl ?_
          exact ⟨by rw [HO.out], by first | exact HBF | exact HBF.drew⟩
        · have HO : Hid (meetW a b c d p q u v = .tuple #[.int .i64 1, .agg #[.int .u64 (ww3 (shareZ cx (Int.gcd (Int.gcd cx cy : Int) cw : Int) (decide (cw < 0)))), .int .u64 (ww2 (shareZ cx (Int.gcd (Int.gcd cx cy : Int) cw : Int) (decide (cw < 0)))), .int .u64 (ww1 (shareZ cx (Int.gcd (Int.gcd cx cy : Int) cw : Int) (decide (cw < 0)))), .int .u64 (ww0 (shareZ cx (Int.gcd (Int.gcd cx cy : Int) cw : Int) (decide (cw < 0)))), .int .u64 (ww3 (shareZ cy (Int.gcd (Int.gcd cx cy : Int) cw : Int) (decide (cw < 0)))), .int .u64 (ww2 (shareZ cy (Int.gcd (Int.gcd cx cy : Int) cw : Int) (decide (cw < 0)))), .int .u64 (ww1 (shareZ cy (Int.gcd (Int.gcd cx cy : Int) cw : Int) (decide (cw < 0)))), .int .u64 (ww0 (shareZ cy (Int.gcd (Int.gcd cx cy : Int) cw : Int) (decide (cw < 0)))), .int .u64 (ww3 (shareZ cw (Int.gcd (Int.gcd cx cy : Int) cw : Int) (decide (cw < 0)))), .int .u64 (ww2 (shareZ cw (Int.gcd (Int.gcd cx cy : Int) cw : Int) (decide (cw < 0)))), .int .u64 (ww1 (shareZ cw (Int.gcd (Int.gcd cx cy : Int) cw : Int) (decide (cw < 0)))), .int .u64 (ww0 (shareZ cw (Int.gcd (Int.gcd cx cy : Int) cw : Int) (decide (cw < 0))))], .agg #[.int .u64 0, .int .u64 0, .int .u64 0, .int .u64 0, .int .u64 0, .int .u64 0, .int .u64 0, .int .u64 0, .int .u64 0, .int .u64 0, .int .u64 0, .int .u64 0]]) := by show _ = _; rw [HV.out, if_neg h0]; rfl
          generalize (shareZ cx (Int.gcd (Int.gcd cx cy : Int) cw : Int) (decide (cw < 0))) = sx at *
          generalize (shareZ cy (Int.gcd (Int.gcd cx cy : Int) cw : Int) (decide (cw < 0))) = sy at *
          generalize (shareZ cw (Int.gcd (Int.gcd cx cy : Int) cw : Int) (decide (cw < 0))) = sz at *
          clear AL HV bW
          go_wp2_with fail
          refine (SM _).mono ?_
          rintro e w6 ⟨rfl, hB⟩
          replace BP := BP.step hB; replace BQ := BQ.step hB; replace HB := HB.trans (hB.mono HB.size)
          clear hB SM
          have xc0 := BP.c 0 rfl; have xf0 := BP.f 0 rfl; have xc1 := BP.c 1 rfl; have xf1 := BP.f 1 rfl; have xc2 := BP.c 2 rfl; have xf2 := BP.f 2 rfl; have xc3 := BP.c 3 rfl; have xf3 := BP.f 3 rfl; have xc4 := BP.c 4 rfl; have xf4 := BP.f 4 rfl; have xc5 := BP.c 5 rfl; have xf5 := BP.f 5 rfl; have xc6 := BP.c 6 rfl; have xf6 := BP.f 6 rfl; have xc7 := BP.c 7 rfl; have xf7 := BP.f 7 rfl; have xc8 := BP.c 8 rfl; have xf8 := BP.f 8 rfl; have xc9 := BP.c 9 rfl; have xf9 := BP.f 9 rfl; have xc10 := BP.c 10 rfl; have xf10 := BP.f 10 rfl; have xc11 := BP.c 11 rfl; have xf11 := BP.f 11 rfl; have xl := BP.lt; have yc0 := BQ.c 0 rfl; have yf0 := BQ.f 0 rfl; have yc1 := BQ.c 1 rfl; have yf1 := BQ.f 1 rfl; have yc2 := BQ.c 2 rfl; have yf2 := BQ.f 2 rfl; have yc3 := BQ.c 3 rfl; have yf3 := BQ.f 3 rfl; have yc4 := BQ.c 4 rfl; have yf4 := BQ.f 4 rfl; have yc5 := BQ.c 5 rfl; have yf5 := BQ.f 5 rfl; have yc6 := BQ.c 6 rfl; have yf6 := BQ.f 6 rfl; have yc7 := BQ.c 7 rfl; have yf7 := BQ.f 7 rfl; have yc8 := BQ.c 8 rfl; have yf8 := BQ.f 8 rfl; have yc9 := BQ.c 9 rfl; have yf9 := BQ.f 9 rfl; have yc10 := BQ.c 10 rfl; have yf10 := BQ.f 10 rfl; have yc11 := BQ.c 11 rfl; have yf11 := BQ.f 11 rfl; have yl := BQ.lt
          go_wp2
          have F0 : Blk ((((((((((((((((((((((((w6.setCell ⟨(w.heap.size + 1 + 1), 0, none⟩ (.int .u64 (ww3 sx))).setCell ⟨(w.heap.size + 1 + 1), 1, none⟩ (.int .u64 (ww2 sx))).setCell ⟨(w.heap.size + 1 + 1), 2, none⟩ (.int .u64 (ww1 sx))).setCell ⟨(w.heap.size + 1 + 1), 3, none⟩ (.int .u64 (ww0 sx))).setCell ⟨(w.heap.size + 1 + 1), 4, none⟩ (.int .u64 (ww3 sy))).setCell ⟨(w.heap.size + 1 + 1), 5, none⟩ (.int .u64 (ww2 sy))).setCell ⟨(w.heap.size + 1 + 1), 6, none⟩ (.int .u64 (ww1 sy))).setCell ⟨(w.heap.size + 1 + 1), 7, none⟩ (.int .u64 (ww0 sy))).setCell ⟨(w.heap.size + 1 + 1), 8, none⟩ (.int .u64 (ww3 sz))).setCell ⟨(w.heap.size + 1 + 1), 9, none⟩ (.int .u64 (ww2 sz))).setCell ⟨(w.heap.size + 1 + 1), 10, none⟩ (.int .u64 (ww1 sz))).setCell ⟨(w.heap.size + 1 + 1), 11, none⟩ (.int .u64 (ww0 sz))).setCell ⟨(w.heap.size + 1 + 1 + 1), 0, none⟩ (.int .u64 0)).setCell ⟨(w.heap.size + 1 + 1 + 1), 1, none⟩ (.int .u64 0)).setCell ⟨(w.heap.size + 1 + 1 + 1), 2, none⟩ (.int .u64 0)).setCell ⟨(w.heap.size + 1 + 1 + 1), 3, none⟩ (.int .u64 0)).setCell ⟨(w.heap.size + 1 + 1 + 1), 4, none⟩ (.int .u64 0)).setCell ⟨(w.heap.size + 1 + 1 + 1), 5, none⟩ (.int .u64 0)).setCell ⟨(w.heap.size + 1 + 1 + 1), 6, none⟩ (.int .u64 0)).setCell ⟨(w.heap.size + 1 + 1 + 1), 7, none⟩ (.int .u64 0)).setCell ⟨(w.heap.size + 1 + 1 + 1), 8, none⟩ (.int .u64 0)).setCell ⟨(w.heap.size + 1 + 1 + 1), 9, none⟩ (.int .u64 0)).setCell ⟨(w.heap.size + 1 + 1 + 1), 10, none⟩ (.int .u64 0)).setCell ⟨(w.heap.size + 1 + 1 + 1), 11, none⟩ (.int .u64 0)) (w.heap.size + 1 + 1) [.int .u64 (ww3 sx), .int .u64 (ww2 sx), .int .u64 (ww1 sx), .int .u64 (ww0 sx), .int .u64 (ww3 sy), .int .u64 (ww2 sy), .int .u64 (ww1 sy), .int .u64 (ww0 sy), .int .u64 (ww3 sz), .int .u64 (ww2 sz), .int .u64 (ww1 sz), .int .u64 (ww0 sz)] := (BP.stored12 (.int .u64 (ww3 sx)) (.int .u64 (ww2 sx)) (.int .u64 (ww1 sx)) (.int .u64 (ww0 sx)) (.int .u64 (ww3 sy)) (.int .u64 (ww2 sy)) (.int .u64 (ww1 sy)) (.int .u64 (ww0 sy)) (.int .u64 (ww3 sz)) (.int .u64 (ww2 sz)) (.int .u64 (ww1 sz)) (.int .u64 (ww0 sz))).set12 (by omega)
          have F1 : Blk ((((((((((((((((((((((((w6.setCell ⟨(w.heap.size + 1 + 1), 0, none⟩ (.int .u64 (ww3 sx))).setCell ⟨(w.heap.size + 1 + 1), 1, none⟩ (.int .u64 (ww2 sx))).setCell ⟨(w.heap.size + 1 + 1), 2, none⟩ (.int .u64 (ww1 sx))).setCell ⟨(w.heap.size + 1 + 1), 3, none⟩ (.int .u64 (ww0 sx))).setCell ⟨(w.heap.size + 1 + 1), 4, none⟩ (.int .u64 (ww3 sy))).setCell ⟨(w.heap.size + 1 + 1), 5, none⟩ (.int .u64 (ww2 sy))).setCell ⟨(w.heap.size + 1 + 1), 6, none⟩ (.int .u64 (ww1 sy))).setCell ⟨(w.heap.size + 1 + 1), 7, none⟩ (.int .u64 (ww0 sy))).setCell ⟨(w.heap.size + 1 + 1), 8, none⟩ (.int .u64 (ww3 sz))).setCell ⟨(w.heap.size + 1 + 1), 9, none⟩ (.int .u64 (ww2 sz))).setCell ⟨(w.heap.size + 1 + 1), 10, none⟩ (.int .u64 (ww1 sz))).setCell ⟨(w.heap.size + 1 + 1), 11, none⟩ (.int .u64 (ww0 sz))).setCell ⟨(w.heap.size + 1 + 1 + 1), 0, none⟩ (.int .u64 0)).setCell ⟨(w.heap.size + 1 + 1 + 1), 1, none⟩ (.int .u64 0)).setCell ⟨(w.heap.size + 1 + 1 + 1), 2, none⟩ (.int .u64 0)).setCell ⟨(w.heap.size + 1 + 1 + 1), 3, none⟩ (.int .u64 0)).setCell ⟨(w.heap.size + 1 + 1 + 1), 4, none⟩ (.int .u64 0)).setCell ⟨(w.heap.size + 1 + 1 + 1), 5, none⟩ (.int .u64 0)).setCell ⟨(w.heap.size + 1 + 1 + 1), 6, none⟩ (.int .u64 0)).setCell ⟨(w.heap.size + 1 + 1 + 1), 7, none⟩ (.int .u64 0)).setCell ⟨(w.heap.size + 1 + 1 + 1), 8, none⟩ (.int .u64 0)).setCell ⟨(w.heap.size + 1 + 1 + 1), 9, none⟩ (.int .u64 0)).setCell ⟨(w.heap.size + 1 + 1 + 1), 10, none⟩ (.int .u64 0)).setCell ⟨(w.heap.size + 1 + 1 + 1), 11, none⟩ (.int .u64 0)) (w.heap.size + 1 + 1 + 1) [.int .u64 0, .int .u64 0, .int .u64 0, .int .u64 0, .int .u64 0, .int .u64 0, .int .u64 0, .int .u64 0, .int .u64 0, .int .u64 0, .int .u64 0, .int .u64 0] := (BQ.set12 (by omega)).stored12 (.int .u64 0) (.int .u64 0) (.int .u64 0) (.int .u64 0) (.int .u64 0) (.int .u64 0) (.int .u64 0) (.int .u64 0) (.int .u64 0) (.int .u64 0) (.int .u64 0) (.int .u64 0)
          have HBF : Below w.heap.size w ((((((((((((((((((((((((w6.setCell ⟨(w.heap.size + 1 + 1), 0, none⟩ (.int .u64 (ww3 sx))).setCell ⟨(w.heap.size + 1 + 1), 1, none⟩ (.int .u64 (ww2 sx))).setCell ⟨(w.heap.size + 1 + 1), 2, none⟩ (.int .u64 (ww1 sx))).setCell ⟨(w.heap.size + 1 + 1), 3, none⟩ (.int .u64 (ww0 sx))).setCell ⟨(w.heap.size + 1 + 1), 4, none⟩ (.int .u64 (ww3 sy))).setCell ⟨(w.heap.size + 1 + 1), 5, none⟩ (.int .u64 (ww2 sy))).setCell ⟨(w.heap.size + 1 + 1), 6, none⟩ (.int .u64 (ww1 sy))).setCell ⟨(w.heap.size + 1 + 1), 7, none⟩ (.int .u64 (ww0 sy))).setCell ⟨(w.heap.size + 1 + 1), 8, none⟩ (.int .u64 (ww3 sz))).setCell ⟨(w.heap.size + 1 + 1), 9, none⟩ (.int .u64 (ww2 sz))).setCell ⟨(w.heap.size + 1 + 1), 10, none⟩ (.int .u64 (ww1 sz))).setCell ⟨(w.heap.size + 1 + 1), 11, none⟩ (.int .u64 (ww0 sz))).setCell ⟨(w.heap.size + 1 + 1 + 1), 0, none⟩ (.int .u64 0)).setCell ⟨(w.heap.size + 1 + 1 + 1), 1, none⟩ (.int .u64 0)).setCell ⟨(w.heap.size + 1 + 1 + 1), 2, none⟩ (.int .u64 0)).setCell ⟨(w.heap.size + 1 + 1 + 1), 3, none⟩ (.int .u64 0)).setCell ⟨(w.heap.size + 1 + 1 + 1), 4, none⟩ (.int .u64 0)).setCell ⟨(w.heap.size + 1 + 1 + 1), 5, none⟩ (.int .u64 0)).setCell ⟨(w.heap.size + 1 + 1 + 1), 6, none⟩ (.int .u64 0)).setCell ⟨(w.heap.size + 1 + 1 + 1), 7, none⟩ (.int .u64 0)).setCell ⟨(w.heap.size + 1 + 1 + 1), 8, none⟩ (.int .u64 0)).setCell ⟨(w.heap.size + 1 + 1 + 1), 9, none⟩ (.int .u64 0)).setCell ⟨(w.heap.size + 1 + 1 + 1), 10, none⟩ (.int .u64 0)).setCell ⟨(w.heap.size + 1 + 1 + 1), 11, none⟩ (.int .u64 0)) := Below.set12 (by omega) (Below.set12 (by omega) HB)
          clear BP BQ HB xc0 xf0 xc1 xf1 xc2 xf2 xc3 xf3 xc4 xf4 xc5 xf5 xc6 xf6 xc7 xf7 xc8 xf8 xc9 xf9 xc10 xf10 xc11 xf11 xl yc0 yf0 yc1 yf1 yc2 yf2 yc3 yf3 yc4 yf4 yc5 yf5 yc6 yf6 yc7 yf7 yc8 yf8 yc9 yf9 yc10 yf10 yc11 yf11 yl
          generalize ((((((((((((((((((((((((w6.setCell ⟨(w.heap.size + 1 + 1), 0, none⟩ (.int .u64 (ww3 sx))).setCell ⟨(w.heap.size + 1 + 1), 1, none⟩ (.int .u64 (ww2 sx))).setCell ⟨(w.heap.size + 1 + 1), 2, none⟩ (.int .u64 (ww1 sx))).setCell ⟨(w.heap.size + 1 + 1), 3, none⟩ (.int .u64 (ww0 sx))).setCell ⟨(w.heap.size + 1 + 1), 4, none⟩ (.int .u64 (ww3 sy))).setCell ⟨(w.heap.size + 1 + 1), 5, none⟩ (.int .u64 (ww2 sy))).setCell ⟨(w.heap.size + 1 + 1), 6, none⟩ (.int .u64 (ww1 sy))).setCell ⟨(w.heap.size + 1 + 1), 7, none⟩ (.int .u64 (ww0 sy))).setCell ⟨(w.heap.size + 1 + 1), 8, none⟩ (.int .u64 (ww3 sz))).setCell ⟨(w.heap.size + 1 + 1), 9, none⟩ (.int .u64 (ww2 sz))).setCell ⟨(w.heap.size + 1 + 1), 10, none⟩ (.int .u64 (ww1 sz))).setCell ⟨(w.heap.size + 1 + 1), 11, none⟩ (.int .u64 (ww0 sz))).setCell ⟨(w.heap.size + 1 + 1 + 1), 0, none⟩ (.int .u64 0)).setCell ⟨(w.heap.size + 1 + 1 + 1), 1, none⟩ (.int .u64 0)).setCell ⟨(w.heap.size + 1 + 1 + 1), 2, none⟩ (.int .u64 0)).setCell ⟨(w.heap.size + 1 + 1 + 1), 3, none⟩ (.int .u64 0)).setCell ⟨(w.heap.size + 1 + 1 + 1), 4, none⟩ (.int .u64 0)).setCell ⟨(w.heap.size + 1 + 1 + 1), 5, none⟩ (.int .u64 0)).setCell ⟨(w.heap.size + 1 + 1 + 1), 6, none⟩ (.int .u64 0)).setCell ⟨(w.heap.size + 1 + 1 + 1), 7, none⟩ (.int .u64 0)).setCell ⟨(w.heap.size + 1 + 1 + 1), 8, none⟩ (.int .u64 0)).setCell ⟨(w.heap.size + 1 + 1 + 1), 9, none⟩ (.int .u64 0)).setCell ⟨(w.heap.size + 1 + 1 + 1), 10, none⟩ (.int .u64 0)).setCell ⟨(w.heap.size + 1 + 1 + 1), 11, none⟩ (.int .u64 0)) = WF at *
          have m0 := F0.c 0 rfl; have n0 := F1.c 0 rfl; have m1 := F0.c 1 rfl; have n1 := F1.c 1 rfl; have m2 := F0.c 2 rfl; have n2 := F1.c 2 rfl; have m3 := F0.c 3 rfl; have n3 := F1.c 3 rfl; have m4 := F0.c 4 rfl; have n4 := F1.c 4 rfl; have m5 := F0.c 5 rfl; have n5 := F1.c 5 rfl; have m6 := F0.c 6 rfl; have n6 := F1.c 6 rfl; have m7 := F0.c 7 rfl; have n7 := F1.c 7 rfl; have m8 := F0.c 8 rfl; have n8 := F1.c 8 rfl; have m9 := F0.c 9 rfl; have n9 := F1.c 9 rfl; have m10 := F0.c 10 rfl; have n10 := F1.c 10 rfl; have m11 := F0.c 11 rfl; have n11 := F1.c 11 rfl
          refine bodyPost_ret (v := .tuple #[.int .i64 1, .agg #[.int .u64 (ww3 sx), .int .u64 (ww2 sx), .int .u64 (ww1 sx), .int .u64 (ww0 sx), .int .u64 (ww3 sy), .int .u64 (ww2 sy), .int .u64 (ww1 sy), .int .u64 (ww0 sy), .int .u64 (ww3 sz), .int .u64 (ww2 sz), .int .u64 (ww1 sz), .int .u64 (ww0 sz)], .agg #[.int .u64 0, .int .u64 0, .int .u64 0, .int .u64 0, .int .u64 0, .int .u64 0, .int .u64 0, .int .u64 0, .int .u64 0, .int .u64 0, .int .u64 0, .int .u64 0]]) (by simp [results, Try.results87, go_sem, m0, n0, m1, n1, m2, n2, m3, n3, m4, n4, m5, n5, m6, n6, m7, n7, m8, n8, m9, n9, m10, n10, m11, n11]) rfl ?_
          exact ⟨by rw [HO.out], by first | exact HBF | exact HBF.drew⟩)
theorem in1_seg {a b c d : Int} (h : segOk a b c d = true) : In1 a ∧ In1 b ∧ In1 c ∧ In1 d := by
  unfold segOk spotOk at h
  simp only [Bool.and_eq_true, decide_eq_true_eq] at h
  obtain ⟨⟨h1, h2⟩, -⟩ := h
  exact ⟨⟨h1.1, h1.2.1⟩, ⟨h1.2.2.1, h1.2.2.2⟩, ⟨h2.1, h2.2.1⟩, ⟨h2.2.2.1, h2.2.2.2⟩⟩
end Go.Proofs.Ytmjlgmoohpnhfaa

/- Where two segments meet: what is reckoned of the model's walk. -/
namespace Go.Proofs.Ytmjlgmoohpnhfaa
open Go.RowKit
theorem Blk.set6 {W : World} {vs : List Value} {v0 v1 v2 v3 v4 v5 : Value} {g g' : Nat} (G : Blk W g' vs) (hg : g' ≠ g) : Blk ((((((W.setCell ⟨g, 0, none⟩ (v0)).setCell ⟨g, 1, none⟩ (v1)).setCell ⟨g, 2, none⟩ (v2)).setCell ⟨g, 3, none⟩ (v3)).setCell ⟨g, 4, none⟩ (v4)).setCell ⟨g, 5, none⟩ (v5)) g' vs := (((((G.setO (by exact hg) _).setO (by exact hg) _).setO (by exact hg) _).setO (by exact hg) _).setO (by exact hg) _).setO (by exact hg) _
/-- Three numbers of the model, side by side. -/
def L3A (w : World) (v : Value) (x y z : Int) : Prop :=
  ∃ (s1 : Bool) (o1 : Option Addr) (n1 c1 : Nat) (d1 : List Int) (s2 : Bool) (o2 : Option Addr) (n2 c2 : Nat) (d2 : List Int) (s3 : Bool) (o3 : Option Addr) (n3 c3 : Nat) (d3 : List Int), v = .agg #[.bool s1, .slice o1 n1 c1, .bool s2, .slice o2 n2 c2, .bool s3, .slice o3 n3 c3] ∧ IsNum w s1 o1 n1 c1 d1 x 8 ∧ IsNum w s2 o2 n2 c2 d2 y 8 ∧ IsNum w s3 o3 n3 c3 d3 z 8
def MtP (a b c d p q u v : Int) (w : World) (e : Ending) (w' : World) : Prop := Below w.heap.size w w' ∧
  ((meetW a b c d p q u v = .tuple #[.int .i64 0, .agg #[.int .u64 0, .int .u64 0, .int .u64 0, .int .u64 0, .int .u64 0, .int .u64 0, .int .u64 0, .int .u64 0, .int .u64 0, .int .u64 0, .int .u64 0, .int .u64 0], .agg #[.int .u64 0, .int .u64 0, .int .u64 0, .int .u64 0, .int .u64 0, .int .u64 0, .int .u64 0, .int .u64 0, .int .u64 0, .int .u64 0, .int .u64 0, .int .u64 0]] ∧ e = .returned (.tuple #[.int .i64 0, .agg #[.bool false, .slice none 0 0, .bool false, .slice none 0 0, .bool false, .slice none 0 0], .agg #[.bool false, .slice none 0 0, .bool false, .slice none 0 0, .bool false, .slice none 0 0]])) ∨
   (∃ (x y z : Int) (r : Value), meetW a b c d p q u v = .tuple #[.int .i64 1, .agg #[.int .u64 (ww3 x), .int .u64 (ww2 x), .int .u64 (ww1 x), .int .u64 (ww0 x), .int .u64 (ww3 y), .int .u64 (ww2 y), .int .u64 (ww1 y), .int .u64 (ww0 y), .int .u64 (ww3 z), .int .u64 (ww2 z), .int .u64 (ww1 z), .int .u64 (ww0 z)], .agg #[.int .u64 0, .int .u64 0, .int .u64 0, .int .u64 0, .int .u64 0, .int .u64 0, .int .u64 0, .int .u64 0, .int .u64 0, .int .u64 0, .int .u64 0, .int .u64 0]] ∧ small x = true ∧ small y = true ∧ small z = true ∧ e = .returned (.tuple #[.int .i64 1, r, .agg #[.bool false, .slice none 0 0, .bool false, .slice none 0 0, .bool false, .slice none 0 0]]) ∧ L3A w' r x y z) ∨
   (∃ (x y x' y' : Int) (r r' : Value), meetW a b c d p q u v = .tuple #[.int .i64 2, .agg #[.int .u64 (ww3 x), .int .u64 (ww2 x), .int .u64 (ww1 x), .int .u64 (ww0 x), .int .u64 (ww3 y), .int .u64 (ww2 y), .int .u64 (ww1 y), .int .u64 (ww0 y), .int .u64 (ww3 1), .int .u64 (ww2 1), .int .u64 (ww1 1), .int .u64 (ww0 1)], .agg #[.int .u64 (ww3 x'), .int .u64 (ww2 x'), .int .u64 (ww1 x'), .int .u64 (ww0 x'), .int .u64 (ww3 y'), .int .u64 (ww2 y'), .int .u64 (ww1 y'), .int .u64 (ww0 y'), .int .u64 (ww3 1), .int .u64 (ww2 1), .int .u64 (ww1 1), .int .u64 (ww0 1)]] ∧ small x = true ∧ small y = true ∧ small x' = true ∧ small y' = true ∧ e = .returned (.tuple #[.int .i64 2, r, r']) ∧ L3A w' r x y 1 ∧ L3A w' r' x' y' 1))
theorem turn_diff (a b c d p q u v : Int) : turnZ a b c d u v - turnZ a b c d p q = ((b - d) * (u - p) - (q - v) * (c - a)) := by unfold turnZ; grind
theorem sgZ_z {t : Int} : sgZ t = 0 ↔ t = 0 := by unfold sgZ; repeat' split <;> omega
theorem sgZ_mul (t t' : Int) : (0 < sgZ t * sgZ t' ↔ (0 < t ∧ 0 < t') ∨ (t < 0 ∧ t' < 0)) ∧ -1 ≤ sgZ t * sgZ t' ∧ sgZ t * sgZ t' ≤ 1 := by
  have e : ∀ t, (t < 0 ∧ sgZ t = -1) ∨ (t = 0 ∧ sgZ t = 0) ∨ (0 < t ∧ sgZ t = 1) := by
    intro t
    unfold sgZ
    repeat' split
    all_goals omega
  rcases e t with ⟨h, e1⟩ | ⟨h, e1⟩ | ⟨h, e1⟩ <;> rcases e t' with ⟨h', e2⟩ | ⟨h', e2⟩ | ⟨h', e2⟩ <;> rw [e1, e2] <;> omega
theorem pt2_no {t t' : Int} (h : 0 < sgZ t * sgZ t') : pt2 t t' = false := by
  have := (sgZ_mul t t').1.1 h
  unfold pt2
  rcases this with ⟨h1, h2⟩ | ⟨h1, h2⟩
  · rw [decide_eq_false (show ¬ t ≤ 0 by omega), decide_eq_false (show ¬ t' ≤ 0 by omega)]; simp
  · rw [decide_eq_false (show ¬ 0 ≤ t by omega), decide_eq_false (show ¬ 0 ≤ t' by omega)]; simp
theorem pt2_yes {t t' : Int} (h : ¬ 0 < sgZ t * sgZ t') : pt2 t t' = true := by
  have h0 : ¬ ((0 < t ∧ 0 < t') ∨ (t < 0 ∧ t' < 0)) := fun k => h ((sgZ_mul t t').1.2 k)
  unfold pt2
  simp only [Bool.and_eq_true, Bool.or_eq_true, decide_eq_true_eq]
  omega
theorem meet_w0 {a b c d p q u v : Int} (h : ¬ (turnZ a b c d p q = 0 ∧ turnZ a b c d u v = 0)) (g : ¬ 0 < sgZ (turnZ a b c d p q) * sgZ (turnZ a b c d u v)) : ((b - d) * (u - p) - (q - v) * (c - a)) ≠ 0 := by
  intro h0
  have hd := turn_diff a b c d p q u v
  rw [h0] at hd
  have hh : turnZ a b c d u v = turnZ a b c d p q := by omega
  rw [hh] at h g
  apply g
  apply (sgZ_mul _ _).1.2
  omega
theorem meet_none1 {a b c d p q u v : Int} (h : ¬ (turnZ a b c d p q = 0 ∧ turnZ a b c d u v = 0)) (g : 0 < sgZ (turnZ a b c d p q) * sgZ (turnZ a b c d u v)) : meetW a b c d p q u v = .tuple #[.int .i64 0, .agg #[.int .u64 0, .int .u64 0, .int .u64 0, .int .u64 0, .int .u64 0, .int .u64 0, .int .u64 0, .int .u64 0, .int .u64 0, .int .u64 0, .int .u64 0, .int .u64 0], .agg #[.int .u64 0, .int .u64 0, .int .u64 0, .int .u64 0, .int .u64 0, .int .u64 0, .int .u64 0, .int .u64 0, .int .u64 0, .int .u64 0, .int .u64 0, .int .u64 0]] := by
  unfold meetW
  by_cases h0 : ((b - d) * (u - p) - (q - v) * (c - a)) = 0
  · rw [if_pos h0]
    have hd := turn_diff a b c d p q u v
    rw [h0] at hd
    unfold alongV
    rw [if_pos (Or.inl (by omega))]
  · rw [if_neg h0, pt2_no g]
    rfl
theorem meet_none2 {a b c d p q u v : Int} (h : ¬ (turnZ a b c d p q = 0 ∧ turnZ a b c d u v = 0)) (g : ¬ 0 < sgZ (turnZ a b c d p q) * sgZ (turnZ a b c d u v)) (g' : 0 < sgZ (turnZ p q u v a b) * sgZ (turnZ p q u v c d)) : meetW a b c d p q u v = .tuple #[.int .i64 0, .agg #[.int .u64 0, .int .u64 0, .int .u64 0, .int .u64 0, .int .u64 0, .int .u64 0, .int .u64 0, .int .u64 0, .int .u64 0, .int .u64 0, .int .u64 0, .int .u64 0], .agg #[.int .u64 0, .int .u64 0, .int .u64 0, .int .u64 0, .int .u64 0, .int .u64 0, .int .u64 0, .int .u64 0, .int .u64 0, .int .u64 0, .int .u64 0, .int .u64 0]] := by
  unfold meetW
  rw [if_neg (meet_w0 h g), pt2_no g', Bool.and_false]
  rfl
theorem meet_pt {a b c d p q u v : Int} (h : ¬ (turnZ a b c d p q = 0 ∧ turnZ a b c d u v = 0)) (g : ¬ 0 < sgZ (turnZ a b c d p q) * sgZ (turnZ a b c d u v)) (g' : ¬ 0 < sgZ (turnZ p q u v a b) * sgZ (turnZ p q u v c d)) : meetW a b c d p q u v = .tuple #[.int .i64 1, .agg #[.int .u64 (ww3 (shareZ ((c - a) * (p * v - q * u) - (u - p) * (a * d - b * c)) (Int.gcd (Int.gcd ((c - a) * (p * v - q * u) - (u - p) * (a * d - b * c)) ((a * d - b * c) * (q - v) - (p * v - q * u) * (b - d)) : Int) ((b - d) * (u - p) - (q - v) * (c - a)) : Int) (decide (((b - d) * (u - p) - (q - v) * (c - a)) < 0)))), .int .u64 (ww2 (shareZ ((c - a) * (p * v - q * u) - (u - p) * (a * d - b * c)) (Int.gcd (Int.gcd ((c - a) * (p * v - q * u) - (u - p) * (a * d - b * c)) ((a * d - b * c) * (q - v) - (p * v - q * u) * (b - d)) : Int) ((b - d) * (u - p) - (q - v) * (c - a)) : Int) (decide (((b - d) * (u - p) - (q - v) * (c - a)) < 0)))), .int .u64 (ww1 (shareZ ((c - a) * (p * v - q * u) - (u - p) * (a * d - b * c)) (Int.gcd (Int.gcd ((c - a) * (p * v - q * u) - (u - p) * (a * d - b * c)) ((a * d - b * c) * (q - v) - (p * v - q * u) * (b - d)) : Int) ((b - d) * (u - p) - (q - v) * (c - a)) : Int) (decide (((b - d) * (u - p) - (q - v) * (c - a)) < 0)))), .int .u64 (ww0 (shareZ ((c - a) * (p * v - q * u) - (u - p) * (a * d - b * c)) (Int.gcd (Int.gcd ((c - a) * (p * v - q * u) - (u - p) * (a * d - b * c)) ((a * d - b * c) * (q - v) - (p * v - q * u) * (b - d)) : Int) ((b - d) * (u - p) - (q - v) * (c - a)) : Int) (decide (((b - d) * (u - p) - (q - v) * (c - a)) < 0)))), .int .u64 (ww3 (shareZ ((a * d - b * c) * (q - v) - (p * v - q * u) * (b - d)) (Int.gcd (Int.gcd ((c - a) * (p * v - q * u) - (u - p) * (a * d - b * c)) ((a * d - b * c) * (q - v) - (p * v - q * u) * (b - d)) : Int) ((b - d) * (u - p) - (q - v) * (c - a)) : Int) (decide (((b - d) * (u - p) - (q - v) * (c - a)) < 0)))), .int .u64 (ww2 (shareZ ((a * d - b * c) * (q - v) - (p * v - q * u) * (b - d)) (Int.gcd (Int.gcd ((c - a) * (p * v - q * u) - (u - p) * (a * d - b * c)) ((a * d - b * c) * (q - v) - (p * v - q * u) * (b - d)) : Int) ((b - d) * (u - p) - (q - v) * (c - a)) : Int) (decide (((b - d) * (u - p) - (q - v) * (c - a)) < 0)))), .int .u64 (ww1 (shareZ ((a * d - b * c) * (q - v) - (p * v - q * u) * (b - d)) (Int.gcd (Int.gcd ((c - a) * (p * v - q * u) - (u - p) * (a * d - b * c)) ((a * d - b * c) * (q - v) - (p * v - q * u) * (b - d)) : Int) ((b - d) * (u - p) - (q - v) * (c - a)) : Int) (decide (((b - d) * (u - p) - (q - v) * (c - a)) < 0)))), .int .u64 (ww0 (shareZ ((a * d - b * c) * (q - v) - (p * v - q * u) * (b - d)) (Int.gcd (Int.gcd ((c - a) * (p * v - q * u) - (u - p) * (a * d - b * c)) ((a * d - b * c) * (q - v) - (p * v - q * u) * (b - d)) : Int) ((b - d) * (u - p) - (q - v) * (c - a)) : Int) (decide (((b - d) * (u - p) - (q - v) * (c - a)) < 0)))), .int .u64 (ww3 (shareZ ((b - d) * (u - p) - (q - v) * (c - a)) (Int.gcd (Int.gcd ((c - a) * (p * v - q * u) - (u - p) * (a * d - b * c)) ((a * d - b * c) * (q - v) - (p * v - q * u) * (b - d)) : Int) ((b - d) * (u - p) - (q - v) * (c - a)) : Int) (decide (((b - d) * (u - p) - (q - v) * (c - a)) < 0)))), .int .u64 (ww2 (shareZ ((b - d) * (u - p) - (q - v) * (c - a)) (Int.gcd (Int.gcd ((c - a) * (p * v - q * u) - (u - p) * (a * d - b * c)) ((a * d - b * c) * (q - v) - (p * v - q * u) * (b - d)) : Int) ((b - d) * (u - p) - (q - v) * (c - a)) : Int) (decide (((b - d) * (u - p) - (q - v) * (c - a)) < 0)))), .int .u64 (ww1 (shareZ ((b - d) * (u - p) - (q - v) * (c - a)) (Int.gcd (Int.gcd ((c - a) * (p * v - q * u) - (u - p) * (a * d - b * c)) ((a * d - b * c) * (q - v) - (p * v - q * u) * (b - d)) : Int) ((b - d) * (u - p) - (q - v) * (c - a)) : Int) (decide (((b - d) * (u - p) - (q - v) * (c - a)) < 0)))), .int .u64 (ww0 (shareZ ((b - d) * (u - p) - (q - v) * (c - a)) (Int.gcd (Int.gcd ((c - a) * (p * v - q * u) - (u - p) * (a * d - b * c)) ((a * d - b * c) * (q - v) - (p * v - q * u) * (b - d)) : Int) ((b - d) * (u - p) - (q - v) * (c - a)) : Int) (decide (((b - d) * (u - p) - (q - v) * (c - a)) < 0))))], .agg #[.int .u64 0, .int .u64 0, .int .u64 0, .int .u64 0, .int .u64 0, .int .u64 0, .int .u64 0, .int .u64 0, .int .u64 0, .int .u64 0, .int .u64 0, .int .u64 0]] := by
  unfold meetW
  rw [if_neg (meet_w0 h g), pt2_yes g, pt2_yes g', if_pos (by rfl)]
theorem meet_along {a b c d p q u v : Int} (h : turnZ a b c d p q = 0) (h' : turnZ a b c d u v = 0) : meetW a b c d p q u v = alongV a b c d p q u v := by
  have hd := turn_diff a b c d p q u v
  unfold meetW
  rw [if_pos (by omega)]
theorem bnd_x (a b c d p q u v : Int) (ha : In1 a) (hb : In1 b) (hc : In1 c) (hd : In1 d) (hp : In1 p) (hq : In1 q) (hu : In1 u) (hv : In1 v) : -9000000000000000000 ≤ ((c - a) * (p * v - q * u) - (u - p) * (a * d - b * c)) ∧ ((c - a) * (p * v - q * u) - (u - p) * (a * d - b * c)) ≤ 9000000000000000000 := by
  obtain ⟨x1, x2⟩ := mul_in (p := a) (q := d) (M := 1000000) (N := 1000000) ha.1 ha.2 hd.1 hd.2
  obtain ⟨x3, x4⟩ := mul_in (p := b) (q := c) (M := 1000000) (N := 1000000) hb.1 hb.2 hc.1 hc.2
  obtain ⟨y1, y2⟩ := mul_in (p := p) (q := v) (M := 1000000) (N := 1000000) hp.1 hp.2 hv.1 hv.2
  obtain ⟨y3, y4⟩ := mul_in (p := q) (q := u) (M := 1000000) (N := 1000000) hq.1 hq.2 hu.1 hu.2
  have e1 := mul_in (p := c - a) (q := p * v - q * u) (M := 2000000) (N := 2000000000000) (by omega) (by omega) (by omega) (by omega)
  have e2 := mul_in (p := u - p) (q := a * d - b * c) (M := 2000000) (N := 2000000000000) (by omega) (by omega) (by omega) (by omega)
  omega
theorem bnd_y (a b c d p q u v : Int) (ha : In1 a) (hb : In1 b) (hc : In1 c) (hd : In1 d) (hp : In1 p) (hq : In1 q) (hu : In1 u) (hv : In1 v) : -9000000000000000000 ≤ ((a * d - b * c) * (q - v) - (p * v - q * u) * (b - d)) ∧ ((a * d - b * c) * (q - v) - (p * v - q * u) * (b - d)) ≤ 9000000000000000000 := by
  obtain ⟨x1, x2⟩ := mul_in (p := a) (q := d) (M := 1000000) (N := 1000000) ha.1 ha.2 hd.1 hd.2
  obtain ⟨x3, x4⟩ := mul_in (p := b) (q := c) (M := 1000000) (N := 1000000) hb.1 hb.2 hc.1 hc.2
  obtain ⟨y1, y2⟩ := mul_in (p := p) (q := v) (M := 1000000) (N := 1000000) hp.1 hp.2 hv.1 hv.2
  obtain ⟨y3, y4⟩ := mul_in (p := q) (q := u) (M := 1000000) (N := 1000000) hq.1 hq.2 hu.1 hu.2
  have e1 := mul_in (p := a * d - b * c) (q := q - v) (M := 2000000000000) (N := 2000000) (by omega) (by omega) (by omega) (by omega)
  have e2 := mul_in (p := p * v - q * u) (q := b - d) (M := 2000000000000) (N := 2000000) (by omega) (by omega) (by omega) (by omega)
  omega
theorem bnd_w (a b c d p q u v : Int) (ha : In1 a) (hb : In1 b) (hc : In1 c) (hd : In1 d) (hp : In1 p) (hq : In1 q) (hu : In1 u) (hv : In1 v) : -8000000000000 ≤ ((b - d) * (u - p) - (q - v) * (c - a)) ∧ ((b - d) * (u - p) - (q - v) * (c - a)) ≤ 8000000000000 := by
  obtain ⟨x1, x2⟩ := mul_in (p := a) (q := d) (M := 1000000) (N := 1000000) ha.1 ha.2 hd.1 hd.2
  obtain ⟨x3, x4⟩ := mul_in (p := b) (q := c) (M := 1000000) (N := 1000000) hb.1 hb.2 hc.1 hc.2
  obtain ⟨y1, y2⟩ := mul_in (p := p) (q := v) (M := 1000000) (N := 1000000) hp.1 hp.2 hv.1 hv.2
  obtain ⟨y3, y4⟩ := mul_in (p := q) (q := u) (M := 1000000) (N := 1000000) hq.1 hq.2 hu.1 hu.2
  have e1 := mul_in (p := b - d) (q := u - p) (M := 2000000) (N := 2000000) (by omega) (by omega) (by omega) (by omega)
  have e2 := mul_in (p := q - v) (q := c - a) (M := 2000000) (N := 2000000) (by omega) (by omega) (by omega) (by omega)
  omega
theorem m4_keep0 {a b c d p q u v : Int} {w W : World} {gd gn : Nat} {ds ns : Bool} {do1 no : Option Addr} {dn dc nn nc : Nat} (T0 : ArgsB w W [[.int .i64 a, .int .i64 b, .int .i64 c, .int .i64 d], [.int .i64 p, .int .i64 q, .int .i64 u, .int .i64 v], [.bool false, .slice none 0 0, .bool false, .slice none 0 0, .bool false, .slice none 0 0], [.bool false, .slice none 0 0, .bool false, .slice none 0 0, .bool false, .slice none 0 0]]) (Bd : Blk W gd [.bool ds, .slice do1 dn dc]) (Bn : Blk W gn [.bool ns, .slice no nn nc]) : (fun w' => w'.cell? ⟨w.heap.size, 0, none⟩ = some (.int .i64 a) ∧ w'.cell? ⟨gd, 0, none⟩ = some (.bool ds) ∧ w'.cell? ⟨gd, 1, none⟩ = some (.slice do1 dn dc) ∧ w'.cell? ⟨gn, 0, none⟩ = some (.bool ns) ∧ w'.cell? ⟨gn, 1, none⟩ = some (.slice no nn nc)) W := ⟨(T0.b 0 rfl).c 0 rfl, Bd.c 0 rfl, Bd.c 1 rfl, Bn.c 0 rfl, Bn.c 1 rfl⟩
theorem m4_keep1 {a b c d p q u v : Int} {w W : World} {gd gn : Nat} {ds ns : Bool} {do1 no : Option Addr} {dn dc nn nc : Nat} (T0 : ArgsB w W [[.int .i64 a, .int .i64 b, .int .i64 c, .int .i64 d], [.int .i64 p, .int .i64 q, .int .i64 u, .int .i64 v], [.bool false, .slice none 0 0, .bool false, .slice none 0 0, .bool false, .slice none 0 0], [.bool false, .slice none 0 0, .bool false, .slice none 0 0, .bool false, .slice none 0 0]]) (Bd : Blk W gd [.bool ds, .slice do1 dn dc]) (Bn : Blk W gn [.bool ns, .slice no nn nc]) : (fun w' => w'.cell? ⟨w.heap.size, 1, none⟩ = some (.int .i64 b) ∧ w'.cell? ⟨gd, 0, none⟩ = some (.bool ds) ∧ w'.cell? ⟨gd, 1, none⟩ = some (.slice do1 dn dc) ∧ w'.cell? ⟨gn, 0, none⟩ = some (.bool ns) ∧ w'.cell? ⟨gn, 1, none⟩ = some (.slice no nn nc)) W := ⟨(T0.b 0 rfl).c 1 rfl, Bd.c 0 rfl, Bd.c 1 rfl, Bn.c 0 rfl, Bn.c 1 rfl⟩
end Go.Proofs.Ytmjlgmoohpnhfaa

/- Rows of spots, and rings of them: how they lie, copied, held against one another, counted. -/
namespace Go.Proofs.Ytmjlgmoohpnhfaa
open Go.RowKit
abbrev Ps := Nat → Int × Int
/-- The side of a ring from a spot on, its lesser end first. -/
def sdA (n : Nat) (p : Ps) (i : Nat) : Int × Int × Int × Int := if lessI (p ((i + 1) % n)).1 (p ((i + 1) % n)).2 (p i).1 (p i).2 = true then ((p ((i + 1) % n)).1, (p ((i + 1) % n)).2, (p i).1, (p i).2) else ((p i).1, (p i).2, (p ((i + 1) % n)).1, (p ((i + 1) % n)).2)
/-- No spot stands twice. -/
abbrev OneN (n : Nat) (p : Ps) : Prop := ∀ i, i < n → ∀ k, k < i → p i ≠ p k
/-- n spots lie behind a slice's address. -/
def SpIn (w : World) (ao : Option Addr) (n : Nat) (p : Ps) : Prop :=
  ∀ i, i < n → ∃ A off, ao = some ⟨A, off, none⟩ ∧ A < w.heap.size ∧ w.cell? ⟨A, off + i * 2, none⟩ = some (.int .i64 (p i).1) ∧ w.cell? ⟨A, off + i * 2 + 1, none⟩ = some (.int .i64 (p i).2)
theorem SpIn.step {w w' : World} {ao : Option Addr} {n : Nat} {p : Ps} (h : SpIn w ao n p) (hB : Below w.heap.size w w') : SpIn w' ao n p := fun i hi => by
  obtain ⟨A, off, e, hA, h0, h1⟩ := h i hi
  exact ⟨A, off, e, Nat.lt_of_lt_of_le hA hB.size, (hB.cell (p := ⟨A, off + i * 2, none⟩) hA).trans h0, (hB.cell (p := ⟨A, off + i * 2 + 1, none⟩) hA).trans h1⟩
theorem SpIn.drew {w : World} {ao : Option Addr} {n : Nat} {p : Ps} (h : SpIn w ao n p) : SpIn w.drew ao n p := h
/-- The numbers of a row of spots, one behind the other. -/
def spW (p : Ps) (k : Nat) : Int := if k % 2 = 0 then (p (k / 2)).1 else (p (k / 2)).2
theorem spW0 (p : Ps) (c : Nat) : spW p (c * 2) = (p c).1 := by
  unfold spW
  rw [if_pos (by omega), show c * 2 / 2 = c by omega]
theorem spW1 (p : Ps) (c : Nat) : spW p (c * 2 + 1) = (p c).2 := by
  unfold spW
  rw [if_neg (by omega), show (c * 2 + 1) / 2 = c by omega]
theorem spIn_row {w : World} {g n : Nat} {T : TypeId} {p : Ps} (h : w.rowIs g T (n * 2) (fun i => .int .i64 (spW p i))) : SpIn w (some ⟨g, 0, none⟩) n p := fun i hi =>
  ⟨g, 0, rfl, h.lt, by rw [Nat.zero_add, h.cell (by omega), spW0], by rw [Nat.zero_add, h.cell (by omega), spW1]⟩
theorem toSpot_det (x y : Int) (w : World) : Calls Try.prog 25 #[Sp x y] w (VP (Sp x y) w) := by
  go_enter Try.func25, Try.ntmps25
  go_wp2
  refine bodyPost_ret (v := Sp x y) (by simp [results, Try.results25, go_sem]) rfl ?_
  exact ⟨rfl, (((Below.refl _ _).alloc (Nat.le_refl _) _).alloc (by simp) _).alloc (by simp; omega) _⟩
theorem eqSpot_det (x y : Int) (w : World) : Calls Try.prog 77 #[Sp x y, Sp x y] w (BoolP true w) := by
  go_enter Try.func77, Try.ntmps77
  go_wp2
  go_ret
  exact ⟨rfl, ((Below.refl _ _).alloc (Nat.le_refl _) _).alloc (by simp) _⟩
theorem Try.infoSpot : (Try.prog.info? 55).map (fun i => (i.zero, i.size, i.bytes)) = some (some (.agg #[.int .i64 0, .int .i64 0]), 2, 16) := by kernel_rfl
theorem make_spots (n : Nat) (hn : n ≤ 1048576) (w : World) : (Instr.makeSlice 26 (.int .i64 (n : Int)) (.int .i64 (n : Int))).run Try.prog w = .ok (.slice (some ⟨w.heap.size, 0, none⟩) n n) (w.alloc (.cells (madeCells #[.int .i64 0, .int .i64 0] (n * 2)) 55)) := by
  obtain ⟨i, hi, hzz⟩ := Option.map_eq_some_iff.1 Try.infoSpot
  simp only [Prod.mk.injEq] at hzz
  obtain ⟨hz, hs, hb⟩ := hzz
  have hr := run_make (P := Try.prog) w 26 55 i (.agg #[.int .i64 0, .int .i64 0]) Try.underlying26 hi hz .i64 .i64 n n (by omega) (Int.le_refl _) (by rw [hb]; omega) (by omega)
  simp only [Int.toNat_natCast, hs, Value.cells] at hr
  exact hr
theorem rows_made (w : World) (n : Nat) (T : TypeId) : (w.alloc (.cells (madeCells #[.int .i64 0, .int .i64 0] (n * 2)) T)).rowIs w.heap.size T (n * 2) (fun _ => .int .i64 0) := by
  have h := World.rowIs_alloc w (madeCells #[.int .i64 0, .int .i64 0] (n * 2)) T (fun _ => .int .i64 0) (fun i hi => by
    rw [size_madeCells] at hi
    simp [madeCells, hi]
    rcases (show i % 2 = 0 ∨ i % 2 = 1 by omega) with h | h <;> simp [h])
  rwa [size_madeCells] at h
/-- So far the row holds what was copied, behind it zeros. -/
def cpS (p : Ps) (c : Nat) (i : Nat) : Value := .int .i64 (if i < c * 2 then spW p i else 0)
theorem rows_step {w w' : World} {g n : Nat} {T : TypeId} {f : Nat → Value} (h : w.rowIs g T n f) (hB : Below w.heap.size w w') : w'.rowIs g T n f := h.of_block (hB.block g h.lt)
theorem cps_step {w : World} {g n c : Nat} {T : TypeId} {p : Ps} (h : w.rowIs g T (n * 2) (cpS p c)) : ((w.setCell ⟨g, c * 2, none⟩ (.int .i64 (p c).1)).setCell ⟨g, c * 2 + 1, none⟩ (.int .i64 (p c).2)).rowIs g T (n * 2) (cpS p (c + 1)) := by
  refine ((h.set (c * 2) (.int .i64 (p c).1)).set (c * 2 + 1) (.int .i64 (p c).2)).congr (fun i hi => ?_)
  unfold cpS
  by_cases h1 : i = c * 2 + 1
  · subst h1
    rw [if_pos rfl, if_pos (by omega), spW1]
  rw [if_neg h1]
  by_cases h0 : i = c * 2
  · subst h0
    rw [if_pos rfl, if_pos (by omega), spW0]
  rw [if_neg h0]
  by_cases hl : i < c * 2
  · rw [if_pos hl, if_pos (by omega)]
  · rw [if_neg hl, if_neg (by omega)]
set_option maxRecDepth 100000 in
set_option maxHeartbeats 2000000 in
theorem toSpotS_any (ao : Option Addr) (n cap : Nat) (p : Ps) (hn : n ≤ 1048576) (w : World) (hS : SpIn w ao n p) : Calls Try.prog 31 #[.slice ao n cap] w (fun e w' => ∃ g, e = .returned (.slice (some ⟨g, 0, none⟩) n n) ∧ w.heap.size ≤ g ∧ w'.rowIs g 55 (n * 2) (fun i => .int .i64 (spW p i)) ∧ Below w.heap.size w w') := by
  have MK := make_spots n hn
  have HS : Hid (SpIn w ao n p) := hS
  clear hS
  go_enter Try.func31, Try.ntmps31
  go_wp2_with fail
  have R0 := rows_made w n 55
  have B0 : Below w.heap.size w (w.alloc (.cells (madeCells #[.int .i64 0, .int .i64 0] (n * 2)) 55)) := (Below.refl _ _).alloc (Nat.le_refl _) _
  generalize w.alloc (.cells (madeCells #[.int .i64 0, .int .i64 0] (n * 2)) 55) = W1 at *
  have hnI : (n : Int) ≤ 1048576 := by omega
  clear MK
  go_loopw [4] (fun i wr => ∃ c : Nat, c ≤ n ∧ i = .int .i64 c ∧ wr.rowIs w.heap.size 55 (n * 2) (cpS p c) ∧ Below w.heap.size w wr) (fun i _ => n - (intOf i).toNat)
  case atStart => exact ⟨0, by omega, rfl, R0.congr (fun i _ => by unfold cpS; simp), B0⟩
  case round =>
    clear R0 B0
    obtain ⟨c, hc, rfl, R, HB⟩ := hrel
    by_cases hcn : c < n
    · obtain ⟨A, off, rfl, hA, q0, q1⟩ := HS.out.step HB c hcn
      have hcI : (c : Int) < n := by omega
      go_wp2_with fail
      refine (toSpot_det (p c).1 (p c).2 _).mono ?_
      rintro e w1 ⟨rfl, hB⟩
      replace R := rows_step R hB
      replace HB := HB.trans (hB.mono HB.size)
      have o0 := R.cell (i := c * 2) (by omega); have o1 := R.cell (i := c * 2 + 1) (by omega)
      have f0 := R.frozen (c * 2); have f1 := R.frozen (c * 2 + 1)
      have RN := cps_step R
      have HN : Below w.heap.size w ((w1.setCell ⟨w.heap.size, c * 2, none⟩ (.int .i64 (p c).1)).setCell ⟨w.heap.size, c * 2 + 1, none⟩ (.int .i64 (p c).2)) := (HB.setCell (by simp) _).setCell (by simp) _
      clear hB q0 q1 hA R HB
      go_wp2
      go_roundw
      case rel => exact ⟨c + 1, by omega, by go_num, RN, HN⟩
      case measure => simp [intOf]; omega
    · obtain rfl : c = n := by omega
      have RN : wr.rowIs w.heap.size 55 (c * 2) (fun i => .int .i64 (spW p i)) := R.congr (fun i hi => by unfold cpS; rw [if_pos hi])
      clear R HS
      go_wp2
      go_ret
      exact ⟨_, rfl, Nat.le_refl _, RN, HB⟩
set_option maxRecDepth 100000 in
set_option maxHeartbeats 2000000 in
theorem eqSpotS_any (ao bo : Option Addr) (n ca cb : Nat) (p : Ps) (hn : n ≤ 1048576) (w : World) (hA : SpIn w ao n p) (hC : SpIn w bo n p) : Calls Try.prog 33 #[.slice ao n ca, .slice bo n cb] w (BoolP true w) := by
  have HA : Hid (SpIn w ao n p) := hA
  have HC : Hid (SpIn w bo n p) := hC
  have hnI : (n : Int) ≤ 1048576 := by omega
  clear hA hC
  go_enter Try.func33, Try.ntmps33
  go_wp2_with fail
  go_loopw [5] (fun i wr => ∃ c : Nat, c ≤ n ∧ i = .int .i64 c ∧ Below w.heap.size w wr) (fun i _ => n - (intOf i).toNat)
  case atStart => exact ⟨0, by omega, rfl, Below.refl _ _⟩
  case round =>
    obtain ⟨c, hc, rfl, HB⟩ := hrel
    by_cases hcn : c < n
    · obtain ⟨A, off, rfl, hA, q0, q1⟩ := HA.out.step HB c hcn
      obtain ⟨B, of2, rfl, hB', r0, r1⟩ := HC.out.step HB c hcn
      have hcI : (c : Int) < n := by omega
      have ES := eqSpot_det (p c).1 (p c).2
      have KS : (fun w' => w'.cell? ⟨A, off + c * 2, none⟩ = some (.int .i64 (p c).1) ∧ w'.cell? ⟨A, off + c * 2 + 1, none⟩ = some (.int .i64 (p c).2) ∧ w'.cell? ⟨B, of2 + c * 2, none⟩ = some (.int .i64 (p c).1) ∧ w'.cell? ⟨B, of2 + c * 2 + 1, none⟩ = some (.int .i64 (p c).2)) wr := ⟨q0, q1, r0, r1⟩
      go_wp2_with fail
      go_region_held3 (fun w' => w'.cell? ⟨A, off + c * 2, none⟩ = some (.int .i64 (p c).1) ∧ w'.cell? ⟨A, off + c * 2 + 1, none⟩ = some (.int .i64 (p c).2) ∧ w'.cell? ⟨B, of2 + c * 2, none⟩ = some (.int .i64 (p c).1) ∧ w'.cell? ⟨B, of2 + c * 2 + 1, none⟩ = some (.int .i64 (p c).2)) (first | (exact KS) | (exact KS'))
        (first
          | (go_at_call 77; refine (ES _).mono ?_; rintro e w1 ⟨rfl, hB⟩; have KS' : (fun w' => w'.cell? ⟨A, off + c * 2, none⟩ = some (.int .i64 (p c).1) ∧ w'.cell? ⟨A, off + c * 2 + 1, none⟩ = some (.int .i64 (p c).2) ∧ w'.cell? ⟨B, of2 + c * 2, none⟩ = some (.int .i64 (p c).1) ∧ w'.cell? ⟨B, of2 + c * 2 + 1, none⟩ = some (.int .i64 (p c).2)) w1 := ⟨(hB.cell (p := ⟨A, _, none⟩) hA).trans q0, (hB.cell (p := ⟨A, _, none⟩) hA).trans q1, (hB.cell (p := ⟨B, _, none⟩) hB').trans r0, (hB.cell (p := ⟨B, _, none⟩) hB').trans r1⟩; (first | (have HB2 := HB.trans (hB.mono HB.size)) | (have HB2 := HB.drew.trans (hB.mono HB.drew.size))); clear hB))
      all_goals clear HB KS q0 q1 r0 r1 ES
      all_goals go_wp2
      all_goals go_roundw
      case rel => exact ⟨c + 1, by omega, by go_num, HB2⟩
      case measure => simp [intOf]; omega
    · obtain rfl : c = n := by omega
      clear HA HC
      go_wp2
      go_ret
      exact ⟨rfl, HB⟩
set_option maxRecDepth 100000 in
set_option maxHeartbeats 2000000 in
theorem toRing_any (ao : Option Addr) (m cap : Nat) (q : Ps) (hm : m ≤ 1048576) (w : World) (hS : SpIn w ao m q) : Calls Try.prog 10 #[.agg #[.slice ao m cap]] w (fun e w' => ∃ g, e = .returned (.agg #[.slice (some ⟨g, 0, none⟩) m m]) ∧ w.heap.size ≤ g ∧ w'.rowIs g 55 (m * 2) (fun i => .int .i64 (spW q i)) ∧ Below w.heap.size w w') := by
  have HB : Below w.heap.size w (((w.alloc (.cells #[.slice ao m cap] 24)).alloc (.cells #[.slice none 0 0] 28)).alloc (.cells #[.slice none 0 0] 28)) := (((Below.refl _ w).alloc (Nat.le_refl _) _).alloc (by simp) _).alloc (by simp; omega) _
  have B0 := ((Blk.new w [.slice ao m cap] 24 rfl).alloc (.cells #[.slice none 0 0] 28)).alloc (.cells #[.slice none 0 0] 28)
  have B1 := (Blk.new (w.alloc (.cells #[.slice ao m cap] 24)) [.slice none 0 0] 28 (g := w.heap.size + 1) (by simp)).alloc (.cells #[.slice none 0 0] 28)
  have B2 := Blk.new ((w.alloc (.cells #[.slice ao m cap] 24)).alloc (.cells #[.slice none 0 0] 28)) [.slice none 0 0] 28 (g := w.heap.size + 1 + 1) (by simp)
  have HS := hS.step HB
  have hsz : (((w.alloc (.cells #[.slice ao m cap] 24)).alloc (.cells #[.slice none 0 0] 28)).alloc (.cells #[.slice none 0 0] 28)).heap.size = w.heap.size + 3 := by simp
  have TP := fun w h => toSpotS_any ao m cap q hm w h
  clear hS
  go_enter Try.func10, Try.ntmps10
  have b0 := B0.c 0 rfl
  go_wp2_with fail
  refine (TP _ HS).mono ?_
  rintro e w1 ⟨g, rfl, hg, R, hB⟩
  rw [hsz] at hg
  replace B1 := B1.step hB; replace B2 := B2.step hB
  replace HB := HB.trans (hB.mono HB.size)
  clear hB TP B0 b0 HS hsz
  have c0 := B1.c 0 rfl; have f0 := B1.f 0 rfl; have l1 := B1.lt; have d0 := B2.c 0 rfl; have e0 := B2.f 0 rfl; have l2 := B2.lt
  have RN : ((w1.setCell ⟨w.heap.size + 1 + 1, 0, none⟩ (.slice (some ⟨g, 0, none⟩) m m)).setCell ⟨w.heap.size + 1, 0, none⟩ (.slice (some ⟨g, 0, none⟩) m m)).rowIs g 55 (m * 2) (fun i => .int .i64 (spW q i)) := (R.setOther (by show g ≠ w.heap.size + 1 + 1; omega) _).setOther (by show g ≠ w.heap.size + 1; omega) _
  have HN : Below w.heap.size w ((w1.setCell ⟨w.heap.size + 1 + 1, 0, none⟩ (.slice (some ⟨g, 0, none⟩) m m)).setCell ⟨w.heap.size + 1, 0, none⟩ (.slice (some ⟨g, 0, none⟩) m m)) := Below.setCell (Below.setCell HB (by show w.heap.size ≤ w.heap.size + 1 + 1; omega) _) (by show w.heap.size ≤ w.heap.size + 1; omega) _
  clear R HB B1 B2
  go_wp2
  refine bodyPost_ret (v := .agg #[.slice (some ⟨g, 0, none⟩) m m]) (by simp [results, Try.results10, go_sem, c0]) rfl ?_
  exact ⟨g, rfl, by omega, RN, HN⟩
set_option maxRecDepth 100000 in
set_option maxHeartbeats 2000000 in
theorem eqRing_any (ao bo : Option Addr) (m ca cb : Nat) (q : Ps) (hm : m ≤ 1048576) (w : World) (hA : SpIn w ao m q) (hC : SpIn w bo m q) : Calls Try.prog 12 #[.agg #[.slice ao m ca], .agg #[.slice bo m cb]] w (BoolP true w) := by
  have HB : Below w.heap.size w ((w.alloc (.cells #[.slice ao m ca] 28)).alloc (.cells #[.slice bo m cb] 28)) := ((Below.refl _ w).alloc (Nat.le_refl _) _).alloc (by simp) _
  have B0 := (Blk.new w [.slice ao m ca] 28 rfl).alloc (.cells #[.slice bo m cb] 28)
  have B1 := Blk.new (w.alloc (.cells #[.slice ao m ca] 28)) [.slice bo m cb] 28 (g := w.heap.size + 1) (by simp)
  have HA := hA.step HB
  have HC := hC.step HB
  have EP := fun w h h' => eqSpotS_any ao bo m ca cb q hm w h h'
  clear hA hC
  go_enter Try.func12, Try.ntmps12
  have b0 := B0.c 0 rfl
  have b1 := B1.c 0 rfl
  go_wp2_with fail
  refine (EP _ HA HC).mono ?_
  rintro e w1 ⟨rfl, hB⟩
  replace HB := HB.trans (hB.mono HB.size)
  clear hB EP HA HC B0 B1 b0 b1
  go_wp2
  go_ret
  exact ⟨rfl, HB⟩
theorem szSpotS_any (ao : Option Addr) (m cap : Nat) (l : Int) (h0 : 0 ≤ l) (h1 : l ≤ 1048576) (hm : m ≤ 9223372036854775807) (w : World) : Calls Try.prog 29 #[.slice ao m cap, .int .i64 l] w (VP (.int .i64 (if (m : Int) ≤ l then l - m else -1)) w) := by
  have hmI : (m : Int) ≤ 9223372036854775807 := by omega
  by_cases h : (m : Int) ≤ l
  · rw [if_pos h]
    go_enter Try.func29, Try.ntmps29
    go_wp2
    go_ret
    exact ⟨rfl, Below.refl _ _⟩
  · rw [if_neg h]
    have h' : l < (m : Int) := by omega
    go_enter Try.func29, Try.ntmps29
    go_wp2
    go_ret
    exact ⟨rfl, Below.refl _ _⟩
theorem szRing_any (ao : Option Addr) (m cap : Nat) (l : Int) (h0 : 0 ≤ l) (h1 : l ≤ 1048576) (hm : m ≤ 9223372036854775807) (w : World) : Calls Try.prog 8 #[.agg #[.slice ao m cap], .int .i64 l] w (VP (.int .i64 (if (m : Int) ≤ l then l - m else -1)) w) := by
  have HB : Below w.heap.size w (w.alloc (.cells #[.slice ao m cap] 24)) := (Below.refl _ w).alloc (Nat.le_refl _) _
  have B0 := Blk.new w [.slice ao m cap] 24 rfl
  have SP := szSpotS_any ao m cap l h0 h1 hm
  go_enter Try.func8, Try.ntmps8
  have b0 := B0.c 0 rfl
  by_cases h : (m : Int) ≤ l
  · rw [if_pos h] at SP ⊢
    go_wp2_with fail
    refine (SP _).mono ?_
    rintro e w1 ⟨rfl, hB⟩
    replace HB := HB.trans (hB.mono HB.size)
    clear hB SP B0 b0
    have h2 : 0 ≤ l - (m : Int) := by omega
    go_wp2
    go_ret
    exact ⟨rfl, HB⟩
  · rw [if_neg h] at SP ⊢
    go_wp2_with fail
    refine (SP _).mono ?_
    rintro e w1 ⟨rfl, hB⟩
    replace HB := HB.trans (hB.mono HB.size)
    clear hB SP B0 b0
    go_wp2
    go_ret
    exact ⟨rfl, HB⟩
end Go.Proofs.Ytmjlgmoohpnhfaa
