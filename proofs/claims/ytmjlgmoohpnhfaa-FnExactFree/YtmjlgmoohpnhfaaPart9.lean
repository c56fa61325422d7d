/- Part 9 of the walks that the proof leans on. -/
import Derived.Test.YtmjlgmoohpnhfaaPart8
import Derived.Test.YtmjlgmoohpnhfaaPart6
import Derived.Test.YtmjlgmoohpnhfaaPart5
import Derived.Deep.OwnRows
import Derived.Test.YtmjlgmoohpnhfaaPart7
/- Where two segments meet: the program's walk. -/
namespace Go.Proofs.Ytmjlgmoohpnhfaa
open Go.RowKit
/-- Where two right segments meet. -/
def meetW (a b c d p q u v : Int) : Value := if ((b - d) * (u - p) - (q - v) * (c - a)) = 0 then alongV a b c d p q u v else if pt2 (turnZ a b c d p q) (turnZ a b c d u v) && pt2 (turnZ p q u v a b) (turnZ p q u v c d) then .tuple #[.int .i64 1, .agg #[.int .u64 (ww3 (shareZ ((c - a) * (p * v - q * u) - (u - p) * (a * d - b * c)) (Int.gcd (Int.gcd ((c - a) * (p * v - q * u) - (u - p) * (a * d - b * c)) ((a * d - b * c) * (q - v) - (p * v - q * u) * (b - d)) : Int) ((b - d) * (u - p) - (q - v) * (c - a)) : Int) (decide (((b - d) * (u - p) - (q - v) * (c - a)) < 0)))), .int .u64 (ww2 (shareZ ((c - a) * (p * v - q * u) - (u - p) * (a * d - b * c)) (Int.gcd (Int.gcd ((c - a) * (p * v - q * u) - (u - p) * (a * d - b * c)) ((a * d - b * c) * (q - v) - (p * v - q * u) * (b - d)) : Int) ((b - d) * (u - p) - (q - v) * (c - a)) : Int) (decide (((b - d) * (u - p) - (q - v) * (c - a)) < 0)))), .int .u64 (ww1 (shareZ ((c - a) * (p * v - q * u) - (u - p) * (a * d - b * c)) (Int.gcd (Int.gcd ((c - a) * (p * v - q * u) - (u - p) * (a * d - b * c)) ((a * d - b * c) * (q - v) - (p * v - q * u) * (b - d)) : Int) ((b - d) * (u - p) - (q - v) * (c - a)) : Int) (decide (((b - d) * (u - p) - (q - v) * (c - a)) < 0)))), .int .u64 (ww0 (shareZ ((c - a) * (p * v - q * u) - (u - p) * (a * d - b * c)) (Int.gcd (Int.gcd ((c - a) * (p * v - q * u) - (u - p) * (a * d - b * c)) ((a * d - b * c) * (q - v) - (p * v - q * u) * (b - d)) : Int) ((b - d) * (u - p) - (q - v) * (c - a)) : Int) (decide (((b - d) * (u - p) - (q - v) * (c - a)) < 0)))), .int .u64 (ww3 (shareZ ((a * d - b * c) * (q - v) - (p * v - q * u) * (b - d)) (Int.gcd (Int.gcd ((c - a) * (p * v - q * u) - (u - p) * (a * d - b * c)) ((a * d - b * c) * (q - v) - (p * v - q * u) * (b - d)) : Int) ((b - d) * (u - p) - (q - v) * (c - a)) : Int) (decide (((b - d) * (u - p) - (q - v) * (c - a)) < 0)))), .int .u64 (ww2 (shareZ ((a * d - b * c) * (q - v) - (p * v - q * u) * (b - d)) (Int.gcd (Int.gcd ((c - a) * (p * v - q * u) - (u - p) * (a * d - b * c)) ((a * d - b * c) * (q - v) - (p * v - q * u) * (b - d)) : Int) ((b - d) * (u - p) - (q - v) * (c - a)) : Int) (decide (((b - d) * (u - p) - (q - v) * (c - a)) < 0)))), .int .u64 (ww1 (shareZ ((a * d - b * c) * (q - v) - (p * v - q * u) * (b - d)) (Int.gcd (Int.gcd ((c - a) * (p * v - q * u) - (u - p) * (a * d - b * c)) ((a * d - b * c) * (q - v) - (p * v - q * u) * (b - d)) : Int) ((b - d) * (u - p) - (q - v) * (c - a)) : Int) (decide (((b - d) * (u - p) - (q - v) * (c - a)) < 0)))), .int .u64 (ww0 (shareZ ((a * d - b * c) * (q - v) - (p * v - q * u) * (b - d)) (Int.gcd (Int.gcd ((c - a) * (p * v - q * u) - (u - p) * (a * d - b * c)) ((a * d - b * c) * (q - v) - (p * v - q * u) * (b - d)) : Int) ((b - d) * (u - p) - (q - v) * (c - a)) : Int) (decide (((b - d) * (u - p) - (q - v) * (c - a)) < 0)))), .int .u64 (ww3 (shareZ ((b - d) * (u - p) - (q - v) * (c - a)) (Int.gcd (Int.gcd ((c - a) * (p * v - q * u) - (u - p) * (a * d - b * c)) ((a * d - b * c) * (q - v) - (p * v - q * u) * (b - d)) : Int) ((b - d) * (u - p) - (q - v) * (c - a)) : Int) (decide (((b - d) * (u - p) - (q - v) * (c - a)) < 0)))), .int .u64 (ww2 (shareZ ((b - d) * (u - p) - (q - v) * (c - a)) (Int.gcd (Int.gcd ((c - a) * (p * v - q * u) - (u - p) * (a * d - b * c)) ((a * d - b * c) * (q - v) - (p * v - q * u) * (b - d)) : Int) ((b - d) * (u - p) - (q - v) * (c - a)) : Int) (decide (((b - d) * (u - p) - (q - v) * (c - a)) < 0)))), .int .u64 (ww1 (shareZ ((b - d) * (u - p) - (q - v) * (c - a)) (Int.gcd (Int.gcd ((c - a) * (p * v - q * u) - (u - p) * (a * d - b * c)) ((a * d - b * c) * (q - v) - (p * v - q * u) * (b - d)) : Int) ((b - d) * (u - p) - (q - v) * (c - a)) : Int) (decide (((b - d) * (u - p) - (q - v) * (c - a)) < 0)))), .int .u64 (ww0 (shareZ ((b - d) * (u - p) - (q - v) * (c - a)) (Int.gcd (Int.gcd ((c - a) * (p * v - q * u) - (u - p) * (a * d - b * c)) ((a * d - b * c) * (q - v) - (p * v - q * u) * (b - d)) : Int) ((b - d) * (u - p) - (q - v) * (c - a)) : Int) (decide (((b - d) * (u - p) - (q - v) * (c - a)) < 0))))], .agg #[.int .u64 0, .int .u64 0, .int .u64 0, .int .u64 0, .int .u64 0, .int .u64 0, .int .u64 0, .int .u64 0, .int .u64 0, .int .u64 0, .int .u64 0, .int .u64 0]] else .tuple #[.int .i64 0, .agg #[.int .u64 0, .int .u64 0, .int .u64 0, .int .u64 0, .int .u64 0, .int .u64 0, .int .u64 0, .int .u64 0, .int .u64 0, .int .u64 0, .int .u64 0, .int .u64 0], .agg #[.int .u64 0, .int .u64 0, .int .u64 0, .int .u64 0, .int .u64 0, .int .u64 0, .int .u64 0, .int .u64 0, .int .u64 0, .int .u64 0, .int .u64 0, .int .u64 0]]
theorem along_ex (a b c d p q u v : Int) : ∃ (k : Int) (r0 r1 r2 r3 r4 r5 r6 r7 r8 r9 r10 r11 s0 s1 s2 s3 s4 s5 s6 s7 s8 s9 s10 s11 : Int), alongV a b c d p q u v = .tuple #[.int .i64 k, .agg #[.int .u64 r0, .int .u64 r1, .int .u64 r2, .int .u64 r3, .int .u64 r4, .int .u64 r5, .int .u64 r6, .int .u64 r7, .int .u64 r8, .int .u64 r9, .int .u64 r10, .int .u64 r11], .agg #[.int .u64 s0, .int .u64 s1, .int .u64 s2, .int .u64 s3, .int .u64 s4, .int .u64 s5, .int .u64 s6, .int .u64 s7, .int .u64 s8, .int .u64 s9, .int .u64 s10, .int .u64 s11]] := by
  unfold alongV
  generalize (if lessI a b p q = true then p else a) = fx
  generalize (if lessI a b p q = true then q else b) = fy
  generalize (if lessI u v c d = true then u else c) = lx
  generalize (if lessI u v c d = true then v else d) = ly
  split
  · exact ⟨_, _, _, _, _, _, _, _, _, _, _, _, _, _, _, _, _, _, _, _, _, _, _, _, _, rfl⟩
  · split
    · exact ⟨_, _, _, _, _, _, _, _, _, _, _, _, _, _, _, _, _, _, _, _, _, _, _, _, _, rfl⟩
    · exact ⟨_, _, _, _, _, _, _, _, _, _, _, _, _, _, _, _, _, _, _, _, _, _, _, _, _, rfl⟩
theorem meetW_ex (a b c d p q u v : Int) : ∃ (k : Int) (r0 r1 r2 r3 r4 r5 r6 r7 r8 r9 r10 r11 s0 s1 s2 s3 s4 s5 s6 s7 s8 s9 s10 s11 : Int), meetW a b c d p q u v = .tuple #[.int .i64 k, .agg #[.int .u64 r0, .int .u64 r1, .int .u64 r2, .int .u64 r3, .int .u64 r4, .int .u64 r5, .int .u64 r6, .int .u64 r7, .int .u64 r8, .int .u64 r9, .int .u64 r10, .int .u64 r11], .agg #[.int .u64 s0, .int .u64 s1, .int .u64 s2, .int .u64 s3, .int .u64 s4, .int .u64 s5, .int .u64 s6, .int .u64 s7, .int .u64 s8, .int .u64 s9, .int .u64 s10, .int .u64 s11]] := by
  unfold meetW
  split
  · exact along_ex a b c d p q u v
  · split
    · exact ⟨_, _, _, _, _, _, _, _, _, _, _, _, _, _, _, _, _, _, _, _, _, _, _, _, _, rfl⟩
    · exact ⟨_, _, _, _, _, _, _, _, _, _, _, _, _, _, _, _, _, _, _, _, _, _, _, _, _, rfl⟩
set_option maxRecDepth 100000 in
set_option maxHeartbeats 8000000 in
theorem meet_det (a b c d p q u v : Int) (ha : In1 a) (hb : In1 b) (hc : In1 c) (hd : In1 d) (hp : In1 p) (hq : In1 q) (hu : In1 u) (hv : In1 v) (w : World) : Calls Try.prog 87 #[Sg a b c d, Sg p q u v] w (VP (meetW a b c d p q u v) w) := by
  have LS := lineOf_det a b c d ha hb hc hd
  have LT := lineOf_det p q u v hp hq hu hv
  obtain ⟨x1, x2⟩ := mul_in (p := a) (q := d) (M := 1000000) (N := 1000000) ha.1 ha.2 hd.1 hd.2
  obtain ⟨x3, x4⟩ := mul_in (p := b) (q := c) (M := 1000000) (N := 1000000) hb.1 hb.2 hc.1 hc.2
  obtain ⟨y1, y2⟩ := mul_in (p := p) (q := v) (M := 1000000) (N := 1000000) hp.1 hp.2 hv.1 hv.2
  obtain ⟨y3, y4⟩ := mul_in (p := q) (q := u) (M := 1000000) (N := 1000000) hq.1 hq.2 hu.1 hu.2
  have i1 : In2 (b - d) := ⟨by omega, by omega⟩
  have i2 : In2 (c - a) := ⟨by omega, by omega⟩
  have i3 : In3 (a * d - b * c) := ⟨by omega, by omega⟩
  have j1 : In2 (q - v) := ⟨by omega, by omega⟩
  have j2 : In2 (u - p) := ⟨by omega, by omega⟩
  have j3 : In3 (p * v - q * u) := ⟨by omega, by omega⟩
  have CR := crossing_det (b - d) (c - a) (a * d - b * c) (q - v) (u - p) (p * v - q * u) i1 i2 i3 j1 j2 j3
  have bX : -9000000000000000000 ≤ ((c - a) * (p * v - q * u) - (u - p) * (a * d - b * c)) ∧ ((c - a) * (p * v - q * u) - (u - p) * (a * d - b * c)) ≤ 9000000000000000000 := by
    have e1 := mul_in (p := c - a) (q := p * v - q * u) (M := 2000000) (N := 2000000000000) i2.1 i2.2 j3.1 j3.2
    have e2 := mul_in (p := u - p) (q := a * d - b * c) (M := 2000000) (N := 2000000000000) j2.1 j2.2 i3.1 i3.2
    omega
  have bY : -9000000000000000000 ≤ ((a * d - b * c) * (q - v) - (p * v - q * u) * (b - d)) ∧ ((a * d - b * c) * (q - v) - (p * v - q * u) * (b - d)) ≤ 9000000000000000000 := by
    have e1 := mul_in (p := a * d - b * c) (q := q - v) (M := 2000000000000) (N := 2000000) i3.1 i3.2 j1.1 j1.2
    have e2 := mul_in (p := p * v - q * u) (q := b - d) (M := 2000000000000) (N := 2000000) j3.1 j3.2 i1.1 i1.2
    omega
  have bW : -8000000000000 ≤ ((b - d) * (u - p) - (q - v) * (c - a)) ∧ ((b - d) * (u - p) - (q - v) * (c - a)) ≤ 8000000000000 := by
    have e1 := mul_in (p := b - d) (q := u - p) (M := 2000000) (N := 2000000) i1.1 i1.2 j2.1 j2.2
    have e2 := mul_in (p := q - v) (q := c - a) (M := 2000000) (N := 2000000) j1.1 j1.2 i2.1 i2.2
    omega
  have SM := smallPoint_det ((c - a) * (p * v - q * u) - (u - p) * (a * d - b * c)) ((a * d - b * c) * (q - v) - (p * v - q * u) * (b - d)) ((b - d) * (u - p) - (q - v) * (c - a)) bX bY bW
  have AL := meetAlong_det a b c d p q u v ha hb hc hd hp hq hu hv
  have P1 := fun g w h => parts2_det a b c d p q u v ha hb hc hd hp hq hu hv g w h
  have P2 := fun g w h => parts2_det p q u v a b c d hp hq hu hv ha hb hc hd g w h
  have HV : Hid (meetW a b c d p q u v = if ((b - d) * (u - p) - (q - v) * (c - a)) = 0 then alongV a b c d p q u v else if pt2 (turnZ a b c d p q) (turnZ a b c d u v) && pt2 (turnZ p q u v a b) (turnZ p q u v c d) then .tuple #[.int .i64 1, .agg #[.int .u64 (ww3 (shareZ ((c - a) * (p * v - q * u) - (u - p) * (a * d - b * c)) (Int.gcd (Int.gcd ((c - a) * (p * v - q * u) - (u - p) * (a * d - b * c)) ((a * d - b * c) * (q - v) - (p * v - q * u) * (b - d)) : Int) ((b - d) * (u - p) - (q - v) * (c - a)) : Int) (decide (((b - d) * (u - p) - (q - v) * (c - a)) < 0)))), .int .u64 (ww2 (shareZ ((c - a) * (p * v - q * u) - (u - p) * (a * d - b * c)) (Int.gcd (Int.gcd ((c - a) * (p * v - q * u) - (u - p) * (a * d - b * c)) ((a * d - b * c) * (q - v) - (p * v - q * u) * (b - d)) : Int) ((b - d) * (u - p) - (q - v) * (c - a)) : Int) (decide (((b - d) * (u - p) - (q - v) * (c - a)) < 0)))), .int .u64 (ww1 (shareZ ((c - a) * (p * v - q * u) - (u - p) * (a * d - b * c)) (Int.gcd (Int.gcd ((c - a) * (p * v - q * u) - (u - p) * (a * d - b * c)) ((a * d - b * c) * (q - v) - (p * v - q * u) * (b - d)) : Int) ((b - d) * (u - p) - (q - v) * (c - a)) : Int) (decide (((b - d) * (u - p) - (q - v) * (c - a)) < 0)))), .int .u64 (ww0 (shareZ ((c - a) * (p * v - q * u) - (u - p) * (a * d - b * c)) (Int.gcd (Int.gcd ((c - a) * (p * v - q * u) - (u - p) * (a * d - b * c)) ((a * d - b * c) * (q - v) - (p * v - q * u) * (b - d)) : Int) ((b - d) * (u - p) - (q - v) * (c - a)) : Int) (decide (((b - d) * (u - p) - (q - v) * (c - a)) < 0)))), .int .u64 (ww3 (shareZ ((a * d - b * c) * (q - v) - (p * v - q * u) * (b - d)) (Int.gcd (Int.gcd ((c - a) * (p * v - q * u) - (u - p) * (a * d - b * c)) ((a * d - b * c) * (q - v) - (p * v - q * u) * (b - d)) : Int) ((b - d) * (u - p) - (q - v) * (c - a)) : Int) (decide (((b - d) * (u - p) - (q - v) * (c - a)) < 0)))), .int .u64 (ww2 (shareZ ((a * d - b * c) * (q - v) - (p * v - q * u) * (b - d)) (Int.gcd (Int.gcd ((c - a) * (p * v - q * u) - (u - p) * (a * d - b * c)) ((a * d - b * c) * (q - v) - (p * v - q * u) * (b - d)) : Int) ((b - d) * (u - p) - (q - v) * (c - a)) : Int) (decide (((b - d) * (u - p) - (q - v) * (c - a)) < 0)))), .int .u64 (ww1 (shareZ ((a * d - b * c) * (q - v) - (p * v - q * u) * (b - d)) (Int.gcd (Int.gcd ((c - a) * (p * v - q * u) - (u - p) * (a * d - b * c)) ((a * d - b * c) * (q - v) - (p * v - q * u) * (b - d)) : Int) ((b - d) * (u - p) - (q - v) * (c - a)) : Int) (decide (((b - d) * (u - p) - (q - v) * (c - a)) < 0)))), .int .u64 (ww0 (shareZ ((a * d - b * c) * (q - v) - (p * v - q * u) * (b - d)) (Int.gcd (Int.gcd ((c - a) * (p * v - q * u) - (u - p) * (a * d - b * c)) ((a * d - b * c) * (q - v) - (p * v - q * u) * (b - d)) : Int) ((b - d) * (u - p) - (q - v) * (c - a)) : Int) (decide (((b - d) * (u - p) - (q - v) * (c - a)) < 0)))), .int .u64 (ww3 (shareZ ((b - d) * (u - p) - (q - v) * (c - a)) (Int.gcd (Int.gcd ((c - a) * (p * v - q * u) - (u - p) * (a * d - b * c)) ((a * d - b * c) * (q - v) - (p * v - q * u) * (b - d)) : Int) ((b - d) * (u - p) - (q - v) * (c - a)) : Int) (decide (((b - d) * (u - p) - (q - v) * (c - a)) < 0)))), .int .u64 (ww2 (shareZ ((b - d) * (u - p) - (q - v) * (c - a)) (Int.gcd (Int.gcd ((c - a) * (p * v - q * u) - (u - p) * (a * d - b * c)) ((a * d - b * c) * (q - v) - (p * v - q * u) * (b - d)) : Int) ((b - d) * (u - p) - (q - v) * (c - a)) : Int) (decide (((b - d) * (u - p) - (q - v) * (c - a)) < 0)))), .int .u64 (ww1 (shareZ ((b - d) * (u - p) - (q - v) * (c - a)) (Int.gcd (Int.gcd ((c - a) * (p * v - q * u) - (u - p) * (a * d - b * c)) ((a * d - b * c) * (q - v) - (p * v - q * u) * (b - d)) : Int) ((b - d) * (u - p) - (q - v) * (c - a)) : Int) (decide (((b - d) * (u - p) - (q - v) * (c - a)) < 0)))), .int .u64 (ww0 (shareZ ((b - d) * (u - p) - (q - v) * (c - a)) (Int.gcd (Int.gcd ((c - a) * (p * v - q * u) - (u - p) * (a * d - b * c)) ((a * d - b * c) * (q - v) - (p * v - q * u) * (b - d)) : Int) ((b - d) * (u - p) - (q - v) * (c - a)) : Int) (decide (((b - d) * (u - p) - (q - v) * (c - a)) < 0))))], .agg #[.int .u64 0, .int .u64 0, .int .u64 0, .int .u64 0, .int .u64 0, .int .u64 0, .int .u64 0, .int .u64 0, .int .u64 0, .int .u64 0, .int .u64 0, .int .u64 0]] else .tuple #[.int .i64 0, .agg #[.int .u64 0, .int .u64 0, .int .u64 0, .int .u64 0, .int .u64 0, .int .u64 0, .int .u64 0, .int .u64 0, .int .u64 0, .int .u64 0, .int .u64 0, .int .u64 0], .agg #[.int .u64 0, .int .u64 0, .int .u64 0, .int .u64 0, .int .u64 0, .int .u64 0, .int .u64 0, .int .u64 0, .int .u64 0, .int .u64 0, .int .u64 0, .int .u64 0]]) := rfl
  generalize pt2 (turnZ a b c d p q) (turnZ a b c d u v) = f1 at *
  generalize pt2 (turnZ p q u v a b) (turnZ p q u v c d) = f2 at *
  clear x1 x2 x3 x4 y1 y2 y3 y4 i1 i2 i3 j1 j2 j3 bX bY
  generalize ((c - a) * (p * v - q * u) - (u - p) * (a * d - b * c)) = cx at *
  generalize ((a * d - b * c) * (q - v) - (p * v - q * u) * (b - d)) = cy at *
  generalize ((b - d) * (u - p) - (q - v) * (c - a)) = cw at *
  generalize b - d = l1 at *
  generalize c - a = l2 at *
  generalize a * d - b * c = l3 at *
  generalize q - v = m1 at *
  generalize u - p = m2 at *
  generalize p * v - q * u = m3 at *
  clear ha hb hc hd hp hq hu hv
  have tok1 : True := trivial
  have T0 : ArgsB w ((((w.alloc (.cells #[.int .i64 a, .int .i64 b, .int .i64 c, .int .i64 d] 103)).alloc (.cells #[.int .i64 p, .int .i64 q, .int .i64 u, .int .i64 v] 103)).alloc (.cells #[.int .u64 0, .int .u64 0, .int .u64 0, .int .u64 0, .int .u64 0, .int .u64 0, .int .u64 0, .int .u64 0, .int .u64 0, .int .u64 0, .int .u64 0, .int .u64 0] 83)).alloc (.cells #[.int .u64 0, .int .u64 0, .int .u64 0, .int .u64 0, .int .u64 0, .int .u64 0, .int .u64 0, .int .u64 0, .int .u64 0, .int .u64 0, .int .u64 0, .int .u64 0] 83)) [[.int .i64 a, .int .i64 b, .int .i64 c, .int .i64 d], [.int .i64 p, .int .i64 q, .int .i64 u, .int .i64 v], [.int .u64 0, .int .u64 0, .int .u64 0, .int .u64 0, .int .u64 0, .int .u64 0, .int .u64 0, .int .u64 0, .int .u64 0, .int .u64 0, .int .u64 0, .int .u64 0], [.int .u64 0, .int .u64 0, .int .u64 0, .int .u64 0, .int .u64 0, .int .u64 0, .int .u64 0, .int .u64 0, .int .u64 0, .int .u64 0, .int .u64 0, .int .u64 0]] := ar4 _ _ _ _ _ _ _ _ w
  go_enter Try.func87, Try.ntmps87
  go_upto_region 1 with fail
  generalize ((((w.alloc (.cells #[.int .i64 a, .int .i64 b, .int .i64 c, .int .i64 d] 103)).alloc (.cells #[.int .i64 p, .int .i64 q, .int .i64 u, .int .i64 v] 103)).alloc (.cells #[.int .u64 0, .int .u64 0, .int .u64 0, .int .u64 0, .int .u64 0, .int .u64 0, .int .u64 0, .int .u64 0, .int .u64 0, .int .u64 0, .int .u64 0, .int .u64 0] 83)).alloc (.cells #[.int .u64 0, .int .u64 0, .int .u64 0, .int .u64 0, .int .u64 0, .int .u64 0, .int .u64 0, .int .u64 0, .int .u64 0, .int .u64 0, .int .u64 0, .int .u64 0] 83)) = W at *
  go_region_held3 (fun w' => w'.cell? ⟨w.heap.size, 0, none⟩ = some (.int .i64 a) ∧ w'.cell? ⟨w.heap.size, 1, none⟩ = some (.int .i64 b) ∧ w'.cell? ⟨w.heap.size, 2, none⟩ = some (.int .i64 c) ∧ w'.cell? ⟨w.heap.size, 3, none⟩ = some (.int .i64 d) ∧ w'.cell? ⟨w.heap.size + 1, 0, none⟩ = some (.int .i64 p) ∧ w'.cell? ⟨w.heap.size + 1, 1, none⟩ = some (.int .i64 q) ∧ w'.cell? ⟨w.heap.size + 1, 2, none⟩ = some (.int .i64 u) ∧ w'.cell? ⟨w.heap.size + 1, 3, none⟩ = some (.int .i64 v)) ((refine ml_cells ?_ <;> repeat (first | (with_reducible exact T0) | (with_reducible refine ArgsB.drew ?_))))
    (first
      | (go_at_call 128; have _t := tok1; refine (LS _).mono ?_; rintro e w1 ⟨rfl, hB⟩; (first | (have T1 := T0.step hB) | (have T1 := T0.drew.step hB)); clear T0; have T0 := T1; clear T1 hB tok1 _t)
      | (go_at_call 128; refine (LT _).mono ?_; rintro e w2 ⟨rfl, hB⟩; (first | (have T1 := T0.step hB) | (have T1 := T0.drew.step hB)); clear T0; have T0 := T1; clear T1 hB)
      | (go_at_call 129; refine (CR _).mono ?_; rintro e w3 ⟨rfl, hB⟩; (first | (have T1 := T0.step hB) | (have T1 := T0.drew.step hB)); clear T0; have T0 := T1; clear T1 hB))
  all_goals clear LS LT CR
  all_goals (
    have BS : Blk _ w.heap.size _ := T0.b 0 rfl; have BT : Blk _ (w.heap.size + 1) _ := T0.b 1 rfl; have BP : Blk _ (w.heap.size + 1 + 1) _ := T0.b 2 rfl; have BQ : Blk _ (w.heap.size + 1 + 1 + 1) _ := T0.b 3 rfl; have HB := T0.below
    clear T0
    by_cases h0 : cw = 0
    · have HO1 : Hid (meetW a b c d p q u v = alongV a b c d p q u v) := by show _ = _; rw [HV.out, if_pos h0]
      obtain ⟨k, r0, r1, r2, r3, r4, r5, r6, r7, r8, r9, r10, r11, s0, s1, s2, s3, s4, s5, s6, s7, s8, s9, s10, s11, hk⟩ := along_ex a b c d p q u v
      have HO : Hid (meetW a b c d p q u v = .tuple #[.int .i64 k, .agg #[.int .u64 r0, .int .u64 r1, .int .u64 r2, .int .u64 r3, .int .u64 r4, .int .u64 r5, .int .u64 r6, .int .u64 r7, .int .u64 r8, .int .u64 r9, .int .u64 r10, .int .u64 r11], .agg #[.int .u64 s0, .int .u64 s1, .int .u64 s2, .int .u64 s3, .int .u64 s4, .int .u64 s5, .int .u64 s6, .int .u64 s7, .int .u64 s8, .int .u64 s9, .int .u64 s10, .int .u64 s11]]) := HO1.out.trans hk
      rw [hk] at AL
      subst h0
      clear HV hk HO1 SM P1 P2 bW
      obtain ⟨sc0, sc1, sc2, sc3⟩ := BS.cs4; have sl := BS.lt; obtain ⟨tc0, tc1, tc2, tc3⟩ := BT.cs4; have tl := BT.lt
      go_wp2_with fail
      refine (AL _).mono ?_
      rintro e w4 ⟨rfl, hB⟩
      replace BS := BS.step hB
      replace BT := BT.step hB
      replace BP := BP.step hB
      replace BQ := BQ.step hB
      replace HB := HB.trans (hB.mono HB.size)
      clear hB sc0 sc1 sc2 sc3 sl tc0 tc1 tc2 tc3 tl
      clear BS BT AL
      obtain ⟨xc0, xf0, xc1, xf1, xc2, xf2, xc3, xf3, xc4, xf4, xc5, xf5, xc6, xf6, xc7, xf7, xc8, xf8, xc9, xf9, xc10, xf10, xc11, xf11⟩ := BP.cf12; have xl := BP.lt; obtain ⟨yc0, yf0, yc1, yf1, yc2, yf2, yc3, yf3, yc4, yf4, yc5, yf5, yc6, yf6, yc7, yf7, yc8, yf8, yc9, yf9, yc10, yf10, yc11, yf11⟩ := BQ.cf12; have yl := BQ.lt
      go_wp2
      refine put24_ret BP BQ (by omega) (by omega) (by omega) HB fun WF F0 F1 HBF => ?_
      clear BP BQ HB xc0 xf0 xc1 xf1 xc2 xf2 xc3 xf3 xc4 xf4 xc5 xf5 xc6 xf6 xc7 xf7 xc8 xf8 xc9 xf9 xc10 xf10 xc11 xf11 xl yc0 yf0 yc1 yf1 yc2 yf2 yc3 yf3 yc4 yf4 yc5 yf5 yc6 yf6 yc7 yf7 yc8 yf8 yc9 yf9 yc10 yf10 yc11 yf11 yl
      have m0 := F0.c 0 rfl; have n0 := F1.c 0 rfl; have m1 := F0.c 1 rfl; have n1 := F1.c 1 rfl; have m2 := F0.c 2 rfl; have n2 := F1.c 2 rfl; have m3 := F0.c 3 rfl; have n3 := F1.c 3 rfl; have m4 := F0.c 4 rfl; have n4 := F1.c 4 rfl; have m5 := F0.c 5 rfl; have n5 := F1.c 5 rfl; have m6 := F0.c 6 rfl; have n6 := F1.c 6 rfl; have m7 := F0.c 7 rfl; have n7 := F1.c 7 rfl; have m8 := F0.c 8 rfl; have n8 := F1.c 8 rfl; have m9 := F0.c 9 rfl; have n9 := F1.c 9 rfl; have m10 := F0.c 10 rfl; have n10 := F1.c 10 rfl; have m11 := F0.c 11 rfl; have n11 := F1.c 11 rfl
      refine bodyPost_ret (v := .tuple #[.int .i64 k, .agg #[.int .u64 r0, .int .u64 r1, .int .u64 r2, .int .u64 r3, .int .u64 r4, .int .u64 r5, .int .u64 r6, .int .u64 r7, .int .u64 r8, .int .u64 r9, .int .u64 r10, .int .u64 r11], .agg #[.int .u64 s0, .int .u64 s1, .int .u64 s2, .int .u64 s3, .int .u64 s4, .int .u64 s5, .int .u64 s6, .int .u64 s7, .int .u64 s8, .int .u64 s9, .int .u64 s10, .int .u64 s11]]) (by simp [results, Try.results87, go_sem, m0, n0, m1, n1, m2, n2, m3, n3, m4, n4, m5, n5, m6, n6, m7, n7, m8, n8, m9, n9, m10, n10, m11, n11]) rfl ?_
      exact ⟨by rw [HO.out], by first | exact HBF | exact HBF.drew⟩
    · have SM := SM h0
      obtain ⟨sc0, sc1, sc2, sc3⟩ := BS.cs4; have sl := BS.lt; obtain ⟨tc0, tc1, tc2, tc3⟩ := BT.cs4; have tl := BT.lt
      go_wp2_with fail
      refine (P1 _ _ (Blk.new _ _ _ rfl)).mono ?_
      rintro e w4 ⟨rfl, hB⟩
      replace BS := (BS.alloc _).step hB; replace BT := (BT.alloc _).step hB; replace BP := (BP.alloc _).step hB; replace BQ := (BQ.alloc _).step hB; replace HB := (HB.alloc HB.size _).trans (hB.mono (HB.alloc HB.size _).size)
      clear hB sc0 sc1 sc2 sc3 sl tc0 tc1 tc2 tc3 tl P1
      cases f1
      · have HO : Hid (meetW a b c d p q u v = .tuple #[.int .i64 0, .agg #[.int .u64 0, .int .u64 0, .int .u64 0, .int .u64 0, .int .u64 0, .int .u64 0, .int .u64 0, .int .u64 0, .int .u64 0, .int .u64 0, .int .u64 0, .int .u64 0], .agg #[.int .u64 0, .int .u64 0, .int .u64 0, .int .u64 0, .int .u64 0, .int .u64 0, .int .u64 0, .int .u64 0, .int .u64 0, .int .u64 0, .int .u64 0, .int .u64 0]]) := by show _ = _; rw [HV.out, if_neg h0]; rfl
        clear BS BT AL SM P2 HV bW
        obtain ⟨xc0, xf0, xc1, xf1, xc2, xf2, xc3, xf3, xc4, xf4, xc5, xf5, xc6, xf6, xc7, xf7, xc8, xf8, xc9, xf9, xc10, xf10, xc11, xf11⟩ := BP.cf12; have xl := BP.lt; obtain ⟨yc0, yf0, yc1, yf1, yc2, yf2, yc3, yf3, yc4, yf4, yc5, yf5, yc6, yf6, yc7, yf7, yc8, yf8, yc9, yf9, yc10, yf10, yc11, yf11⟩ := BQ.cf12; have yl := BQ.lt
        go_wp2
        refine put24_ret BP BQ (by omega) (by omega) (by omega) HB fun WF F0 F1 HBF => ?_
        clear BP BQ HB xc0 xf0 xc1 xf1 xc2 xf2 xc3 xf3 xc4 xf4 xc5 xf5 xc6 xf6 xc7 xf7 xc8 xf8 xc9 xf9 xc10 xf10 xc11 xf11 xl yc0 yf0 yc1 yf1 yc2 yf2 yc3 yf3 yc4 yf4 yc5 yf5 yc6 yf6 yc7 yf7 yc8 yf8 yc9 yf9 yc10 yf10 yc11 yf11 yl
        have m0 := F0.c 0 rfl; have n0 := F1.c 0 rfl; have m1 := F0.c 1 rfl; have n1 := F1.c 1 rfl; have m2 := F0.c 2 rfl; have n2 := F1.c 2 rfl; have m3 := F0.c 3 rfl; have n3 := F1.c 3 rfl; have m4 := F0.c 4 rfl; have n4 := F1.c 4 rfl; have m5 := F0.c 5 rfl; have n5 := F1.c 5 rfl; have m6 := F0.c 6 rfl; have n6 := F1.c 6 rfl; have m7 := F0.c 7 rfl; have n7 := F1.c 7 rfl; have m8 := F0.c 8 rfl; have n8 := F1.c 8 rfl; have m9 := F0.c 9 rfl; have n9 := F1.c 9 rfl; have m10 := F0.c 10 rfl; have n10 := F1.c 10 rfl; have m11 := F0.c 11 rfl; have n11 := F1.c 11 rfl
        refine bodyPost_ret (v := .tuple #[.int .i64 0, .agg #[.int .u64 0, .int .u64 0, .int .u64 0, .int .u64 0, .int .u64 0, .int .u64 0, .int .u64 0, .int .u64 0, .int .u64 0, .int .u64 0, .int .u64 0, .int .u64 0], .agg #[.int .u64 0, .int .u64 0, .int .u64 0, .int .u64 0, .int .u64 0, .int .u64 0, .int .u64 0, .int .u64 0, .int .u64 0, .int .u64 0, .int .u64 0, .int .u64 0]]) (by simp [results, Try.results87, go_sem, m0, n0, m1, n1, m2, n2, m3, n3, m4, n4, m5, n5, m6, n6, m7, n7, m8, n8, m9, n9, m10, n10, m11, n11]) rfl ?_
        exact ⟨by rw [HO.out], by first | exact HBF | exact HBF.drew⟩
      · obtain ⟨sc0, sc1, sc2, sc3⟩ := BS.cs4; have sl := BS.lt; obtain ⟨tc0, tc1, tc2, tc3⟩ := BT.cs4; have tl := BT.lt
        go_wp2_with fail
        refine (P2 _ _ (Blk.new _ _ _ rfl)).mono ?_
        rintro e w5 ⟨rfl, hB⟩
        replace BP := (BP.alloc _).step hB; replace BQ := (BQ.alloc _).step hB; replace HB := (HB.alloc HB.size _).trans (hB.mono (HB.alloc HB.size _).size)
        clear hB sc0 sc1 sc2 sc3 sl tc0 tc1 tc2 tc3 tl P2 BS BT
        cases f2
        · have HO : Hid (meetW a b c d p q u v = .tuple #[.int .i64 0, .agg #[.int .u64 0, .int .u64 0, .int .u64 0, .int .u64 0, .int .u64 0, .int .u64 0, .int .u64 0, .int .u64 0, .int .u64 0, .int .u64 0, .int .u64 0, .int .u64 0], .agg #[.int .u64 0, .int .u64 0, .int .u64 0, .int .u64 0, .int .u64 0, .int .u64 0, .int .u64 0, .int .u64 0, .int .u64 0, .int .u64 0, .int .u64 0, .int .u64 0]]) := by show _ = _; rw [HV.out, if_neg h0]; rfl
          clear AL SM HV bW
          obtain ⟨xc0, xf0, xc1, xf1, xc2, xf2, xc3, xf3, xc4, xf4, xc5, xf5, xc6, xf6, xc7, xf7, xc8, xf8, xc9, xf9, xc10, xf10, xc11, xf11⟩ := BP.cf12; have xl := BP.lt; obtain ⟨yc0, yf0, yc1, yf1, yc2, yf2, yc3, yf3, yc4, yf4, yc5, yf5, yc6, yf6, yc7, yf7, yc8, yf8, yc9, yf9, yc10, yf10, yc11, yf11⟩ := BQ.cf12; have yl := BQ.lt
          go_wp2
          refine put24_ret BP BQ (by omega) (by omega) (by omega) HB fun WF F0 F1 HBF => ?_
          clear BP BQ HB xc0 xf0 xc1 xf1 xc2 xf2 xc3 xf3 xc4 xf4 xc5 xf5 xc6 xf6 xc7 xf7 xc8 xf8 xc9 xf9 xc10 xf10 xc11 xf11 xl yc0 yf0 yc1 yf1 yc2 yf2 yc3 yf3 yc4 yf4 yc5 yf5 yc6 yf6 yc7 yf7 yc8 yf8 yc9 yf9 yc10 yf10 yc11 yf11 yl
          have m0 := F0.c 0 rfl; have n0 := F1.c 0 rfl; have m1 := F0.c 1 rfl; have n1 := F1.c 1 rfl; have m2 := F0.c 2 rfl; have n2 := F1.c 2 rfl; have m3 := F0.c 3 rfl; have n3 := F1.c 3 rfl; have m4 := F0.c 4 rfl; have n4 := F1.c 4 rfl; have m5 := F0.c 5 rfl; have n5 := F1.c 5 rfl; have m6 := F0.c 6 rfl; have n6 := F1.c 6 rfl; have m7 := F0.c 7 rfl; have n7 := F1.c 7 rfl; have m8 := F0.c 8 rfl; have n8 := F1.c 8 rfl; have m9 := F0.c 9 rfl; have n9 := F1.c 9 rfl; have m10 := F0.c 10 rfl; have n10 := F1.c 10 rfl; have m11 := F0.c 11 rfl; have n11 := F1.c 11 rfl
          refine bodyPost_ret (v := .tuple #[.int .i64 0, .agg #[.int .u64 0, .int .u64 0, .int .u64 0, .int .u64 0, .int .u64 0, .int .u64 0, .int .u64 0, .int .u64 0, .int .u64 0, .int .u64 0, .int .u64 0, .int .u64 0], .agg #[.int .u64 0, .int .u64 0, .int .u64 0, .int .u64 0, .int .u64 0, .int .u64 0, .int .u64 0, .int .u64 0, .int .u64 0, .int .u64 0, .int .u64 0, .int .u64 0]]) (by simp [results, Try.results87, go_sem, m0, n0, m1, n1, m2, n2, m3, n3, m4, n4, m5, n5, m6, n6, m7, n7, m8, n8, m9, n9, m10, n10, m11, n11]) rfl ?_
          exact ⟨by rw [HO.out], by first | exact HBF | exact HBF.drew⟩
        · have HO : Hid (meetW a b c d p q u v = .tuple #[.int .i64 1, .agg #[.int .u64 (ww3 (shareZ cx (Int.gcd (Int.gcd cx cy : Int) cw : Int) (decide (cw < 0)))), .int .u64 (ww2 (shareZ cx (Int.gcd (Int.gcd cx cy : Int) cw : Int) (decide (cw < 0)))), .int .u64 (ww1 (shareZ cx (Int.gcd (Int.gcd cx cy : Int) cw : Int) (decide (cw < 0)))), .int .u64 (ww0 (shareZ cx (Int.gcd (Int.gcd cx cy : Int) cw : Int) (decide (cw < 0)))), .int .u64 (ww3 (shareZ cy (Int.gcd (Int.gcd cx cy : Int) cw : Int) (decide (cw < 0)))), .int .u64 (ww2 (shareZ cy (Int.gcd (Int.gcd cx cy : Int) cw : Int) (decide (cw < 0)))), .int .u64 (ww1 (shareZ cy (Int.gcd (Int.gcd cx cy : Int) cw : Int) (decide (cw < 0)))), .int .u64 (ww0 (shareZ cy (Int.gcd (Int.gcd cx cy : Int) cw : Int) (decide (cw < 0)))), .int .u64 (ww3 (shareZ cw (Int.gcd (Int.gcd cx cy : Int) cw : Int) (decide (cw < 0)))), .int .u64 (ww2 (shareZ cw (Int.gcd (Int.gcd cx cy : Int) cw : Int) (decide (cw < 0)))), .int .u64 (ww1 (shareZ cw (Int.gcd (Int.gcd cx cy : Int) cw : Int) (decide (cw < 0)))), .int .u64 (ww0 (shareZ cw (Int.gcd (Int.gcd cx cy : Int) cw : Int) (decide (cw < 0))))], .agg #[.int .u64 0, .int .u64 0, .int .u64 0, .int .u64 0, .int .u64 0, .int .u64 0, .int .u64 0, .int .u64 0, .int .u64 0, .int .u64 0, .int .u64 0, .int .u64 0]]) := by show _ = _; rw [HV.out, if_neg h0]; rfl
          generalize (shareZ cx (Int.gcd (Int.gcd cx cy : Int) cw : Int) (decide (cw < 0))) = sx at *
          generalize (shareZ cy (Int.gcd (Int.gcd cx cy : Int) cw : Int) (decide (cw < 0))) = sy at *
          generalize (shareZ cw (Int.gcd (Int.gcd cx cy : Int) cw : Int) (decide (cw < 0))) = sz at *
          clear AL HV bW
          go_wp2_with fail
          refine (SM _).mono ?_
          rintro e w6 ⟨rfl, hB⟩
          replace BP := BP.step hB; replace BQ := BQ.step hB; replace HB := HB.trans (hB.mono HB.size)
          clear hB SM
          obtain ⟨xc0, xf0, xc1, xf1, xc2, xf2, xc3, xf3, xc4, xf4, xc5, xf5, xc6, xf6, xc7, xf7, xc8, xf8, xc9, xf9, xc10, xf10, xc11, xf11⟩ := BP.cf12; have xl := BP.lt; obtain ⟨yc0, yf0, yc1, yf1, yc2, yf2, yc3, yf3, yc4, yf4, yc5, yf5, yc6, yf6, yc7, yf7, yc8, yf8, yc9, yf9, yc10, yf10, yc11, yf11⟩ := BQ.cf12; have yl := BQ.lt
          go_wp2
          refine put24_ret BP BQ (by omega) (by omega) (by omega) HB fun WF F0 F1 HBF => ?_
          clear BP BQ HB xc0 xf0 xc1 xf1 xc2 xf2 xc3 xf3 xc4 xf4 xc5 xf5 xc6 xf6 xc7 xf7 xc8 xf8 xc9 xf9 xc10 xf10 xc11 xf11 xl yc0 yf0 yc1 yf1 yc2 yf2 yc3 yf3 yc4 yf4 yc5 yf5 yc6 yf6 yc7 yf7 yc8 yf8 yc9 yf9 yc10 yf10 yc11 yf11 yl
          have m0 := F0.c 0 rfl; have n0 := F1.c 0 rfl; have m1 := F0.c 1 rfl; have n1 := F1.c 1 rfl; have m2 := F0.c 2 rfl; have n2 := F1.c 2 rfl; have m3 := F0.c 3 rfl; have n3 := F1.c 3 rfl; have m4 := F0.c 4 rfl; have n4 := F1.c 4 rfl; have m5 := F0.c 5 rfl; have n5 := F1.c 5 rfl; have m6 := F0.c 6 rfl; have n6 := F1.c 6 rfl; have m7 := F0.c 7 rfl; have n7 := F1.c 7 rfl; have m8 := F0.c 8 rfl; have n8 := F1.c 8 rfl; have m9 := F0.c 9 rfl; have n9 := F1.c 9 rfl; have m10 := F0.c 10 rfl; have n10 := F1.c 10 rfl; have m11 := F0.c 11 rfl; have n11 := F1.c 11 rfl
          refine bodyPost_ret (v := .tuple #[.int .i64 1, .agg #[.int .u64 (ww3 sx), .int .u64 (ww2 sx), .int .u64 (ww1 sx), .int .u64 (ww0 sx), .int .u64 (ww3 sy), .int .u64 (ww2 sy), .int .u64 (ww1 sy), .int .u64 (ww0 sy), .int .u64 (ww3 sz), .int .u64 (ww2 sz), .int .u64 (ww1 sz), .int .u64 (ww0 sz)], .agg #[.int .u64 0, .int .u64 0, .int .u64 0, .int .u64 0, .int .u64 0, .int .u64 0, .int .u64 0, .int .u64 0, .int .u64 0, .int .u64 0, .int .u64 0, .int .u64 0]]) (by simp [results, Try.results87, go_sem, m0, n0, m1, n1, m2, n2, m3, n3, m4, n4, m5, n5, m6, n6, m7, n7, m8, n8, m9, n9, m10, n10, m11, n11]) rfl ?_
          exact ⟨by rw [HO.out], by first | exact HBF | exact HBF.drew⟩)
end Go.Proofs.Ytmjlgmoohpnhfaa

/- Where two segments meet: what is reckoned of the model's walk. -/
namespace Go.Proofs.Ytmjlgmoohpnhfaa
open Go.RowKit
theorem Blk.set6 {W : World} {vs : List Value} {v0 v1 v2 v3 v4 v5 : Value} {g g' : Nat} (G : Blk W g' vs) (hg : g' ≠ g) : Blk ((((((W.setCell ⟨g, 0, none⟩ (v0)).setCell ⟨g, 1, none⟩ (v1)).setCell ⟨g, 2, none⟩ (v2)).setCell ⟨g, 3, none⟩ (v3)).setCell ⟨g, 4, none⟩ (v4)).setCell ⟨g, 5, none⟩ (v5)) g' vs := (((((G.setO (by exact hg) _).setO (by exact hg) _).setO (by exact hg) _).setO (by exact hg) _).setO (by exact hg) _).setO (by exact hg) _
/-- Three numbers of the model, side by side. -/
def L3A (w : World) (v : Value) (x y z : Int) : Prop :=
  ∃ (s1 : Bool) (o1 : Option Addr) (n1 c1 : Nat) (d1 : List Int) (s2 : Bool) (o2 : Option Addr) (n2 c2 : Nat) (d2 : List Int) (s3 : Bool) (o3 : Option Addr) (n3 c3 : Nat) (d3 : List Int), v = .agg #[.bool s1, .slice o1 n1 c1, .bool s2, .slice o2 n2 c2, .bool s3, .slice o3 n3 c3] ∧ IsNum w s1 o1 n1 c1 d1 x 8 ∧ IsNum w s2 o2 n2 c2 d2 y 8 ∧ IsNum w s3 o3 n3 c3 d3 z 8
def MtP (a b c d p q u v : Int) (w : World) (e : Ending) (w' : World) : Prop := Below w.heap.size w w' ∧
  ((meetW a b c d p q u v = .tuple #[.int .i64 0, .agg #[.int .u64 0, .int .u64 0, .int .u64 0, .int .u64 0, .int .u64 0, .int .u64 0, .int .u64 0, .int .u64 0, .int .u64 0, .int .u64 0, .int .u64 0, .int .u64 0], .agg #[.int .u64 0, .int .u64 0, .int .u64 0, .int .u64 0, .int .u64 0, .int .u64 0, .int .u64 0, .int .u64 0, .int .u64 0, .int .u64 0, .int .u64 0, .int .u64 0]] ∧ e = .returned (.tuple #[.int .i64 0, .agg #[.bool false, .slice none 0 0, .bool false, .slice none 0 0, .bool false, .slice none 0 0], .agg #[.bool false, .slice none 0 0, .bool false, .slice none 0 0, .bool false, .slice none 0 0]])) ∨
   (∃ (x y z : Int) (r : Value), meetW a b c d p q u v = .tuple #[.int .i64 1, .agg #[.int .u64 (ww3 x), .int .u64 (ww2 x), .int .u64 (ww1 x), .int .u64 (ww0 x), .int .u64 (ww3 y), .int .u64 (ww2 y), .int .u64 (ww1 y), .int .u64 (ww0 y), .int .u64 (ww3 z), .int .u64 (ww2 z), .int .u64 (ww1 z), .int .u64 (ww0 z)], .agg #[.int .u64 0, .int .u64 0, .int .u64 0, .int .u64 0, .int .u64 0, .int .u64 0, .int .u64 0, .int .u64 0, .int .u64 0, .int .u64 0, .int .u64 0, .int .u64 0]] ∧ small x = true ∧ small y = true ∧ small z = true ∧ e = .returned (.tuple #[.int .i64 1, r, .agg #[.bool false, .slice none 0 0, .bool false, .slice none 0 0, .bool false, .slice none 0 0]]) ∧ L3A w' r x y z) ∨
   (∃ (x y x' y' : Int) (r r' : Value), meetW a b c d p q u v = .tuple #[.int .i64 2, .agg #[.int .u64 (ww3 x), .int .u64 (ww2 x), .int .u64 (ww1 x), .int .u64 (ww0 x), .int .u64 (ww3 y), .int .u64 (ww2 y), .int .u64 (ww1 y), .int .u64 (ww0 y), .int .u64 (ww3 1), .int .u64 (ww2 1), .int .u64 (ww1 1), .int .u64 (ww0 1)], .agg #[.int .u64 (ww3 x'), .int .u64 (ww2 x'), .int .u64 (ww1 x'), .int .u64 (ww0 x'), .int .u64 (ww3 y'), .int .u64 (ww2 y'), .int .u64 (ww1 y'), .int .u64 (ww0 y'), .int .u64 (ww3 1), .int .u64 (ww2 1), .int .u64 (ww1 1), .int .u64 (ww0 1)]] ∧ small x = true ∧ small y = true ∧ small x' = true ∧ small y' = true ∧ e = .returned (.tuple #[.int .i64 2, r, r']) ∧ L3A w' r x y 1 ∧ L3A w' r' x' y' 1))
theorem turn_diff (a b c d p q u v : Int) : turnZ a b c d u v - turnZ a b c d p q = ((b - d) * (u - p) - (q - v) * (c - a)) := by unfold turnZ; grind
theorem sgZ_z {t : Int} : sgZ t = 0 ↔ t = 0 := by unfold sgZ; repeat' split <;> omega
theorem sgZ_mul (t t' : Int) : (0 < sgZ t * sgZ t' ↔ (0 < t ∧ 0 < t') ∨ (t < 0 ∧ t' < 0)) ∧ -1 ≤ sgZ t * sgZ t' ∧ sgZ t * sgZ t' ≤ 1 := by
  have e : ∀ t, (t < 0 ∧ sgZ t = -1) ∨ (t = 0 ∧ sgZ t = 0) ∨ (0 < t ∧ sgZ t = 1) := by
    intro t
    unfold sgZ
    repeat' split
    all_goals omega
  rcases e t with ⟨h, e1⟩ | ⟨h, e1⟩ | ⟨h, e1⟩ <;> rcases e t' with ⟨h', e2⟩ | ⟨h', e2⟩ | ⟨h', e2⟩ <;> rw [e1, e2] <;> omega
theorem pt2_no {t t' : Int} (h : 0 < sgZ t * sgZ t') : pt2 t t' = false := by
  have := (sgZ_mul t t').1.1 h
  unfold pt2
  rcases this with ⟨h1, h2⟩ | ⟨h1, h2⟩
  · rw [decide_eq_false (show ¬ t ≤ 0 by omega), decide_eq_false (show ¬ t' ≤ 0 by omega)]; simp
  · rw [decide_eq_false (show ¬ 0 ≤ t by omega), decide_eq_false (show ¬ 0 ≤ t' by omega)]; simp
theorem pt2_yes {t t' : Int} (h : ¬ 0 < sgZ t * sgZ t') : pt2 t t' = true := by
  have h0 : ¬ ((0 < t ∧ 0 < t') ∨ (t < 0 ∧ t' < 0)) := fun k => h ((sgZ_mul t t').1.2 k)
  unfold pt2
  simp only [Bool.and_eq_true, Bool.or_eq_true, decide_eq_true_eq]
  omega
theorem meet_w0 {a b c d p q u v : Int} (h : ¬ (turnZ a b c d p q = 0 ∧ turnZ a b c d u v = 0)) (g : ¬ 0 < sgZ (turnZ a b c d p q) * sgZ (turnZ a b c d u v)) : ((b - d) * (u - p) - (q - v) * (c - a)) ≠ 0 := by
  intro h0
  have hd := turn_diff a b c d p q u v
  rw [h0] at hd
  have hh : turnZ a b c d u v = turnZ a b c d p q := by omega
  rw [hh] at h g
  apply g
  apply (sgZ_mul _ _).1.2
  omega
theorem meet_none1 {a b c d p q u v : Int} (h : ¬ (turnZ a b c d p q = 0 ∧ turnZ a b c d u v = 0)) (g : 0 < sgZ (turnZ a b c d p q) * sgZ (turnZ a b c d u v)) : meetW a b c d p q u v = .tuple #[.int .i64 0, .agg #[.int .u64 0, .int .u64 0, .int .u64 0, .int .u64 0, .int .u64 0, .int .u64 0, .int .u64 0, .int .u64 0, .int .u64 0, .int .u64 0, .int .u64 0, .int .u64 0], .agg #[.int .u64 0, .int .u64 0, .int .u64 0, .int .u64 0, .int .u64 0, .int .u64 0, .int .u64 0, .int .u64 0, .int .u64 0, .int .u64 0, .int .u64 0, .int .u64 0]] := by
  unfold meetW
  by_cases h0 : ((b - d) * (u - p) - (q - v) * (c - a)) = 0
  · rw [if_pos h0]
    have hd := turn_diff a b c d p q u v
    rw [h0] at hd
    unfold alongV
    rw [if_pos (Or.inl (by omega))]
  · rw [if_neg h0, pt2_no g]
    rfl
theorem meet_none2 {a b c d p q u v : Int} (h : ¬ (turnZ a b c d p q = 0 ∧ turnZ a b c d u v = 0)) (g : ¬ 0 < sgZ (turnZ a b c d p q) * sgZ (turnZ a b c d u v)) (g' : 0 < sgZ (turnZ p q u v a b) * sgZ (turnZ p q u v c d)) : meetW a b c d p q u v = .tuple #[.int .i64 0, .agg #[.int .u64 0, .int .u64 0, .int .u64 0, .int .u64 0, .int .u64 0, .int .u64 0, .int .u64 0, .int .u64 0, .int .u64 0, .int .u64 0, .int .u64 0, .int .u64 0], .agg #[.int .u64 0, .int .u64 0, .int .u64 0, .int .u64 0, .int .u64 0, .int .u64 0, .int .u64 0, .int .u64 0, .int .u64 0, .int .u64 0, .int .u64 0, .int .u64 0]] := by
  unfold meetW
  rw [if_neg (meet_w0 h g), pt2_no g', Bool.and_false]
  rfl
theorem meet_pt {a b c d p q u v : Int} (h : ¬ (turnZ a b c d p q = 0 ∧ turnZ a b c d u v = 0)) (g : ¬ 0 < sgZ (turnZ a b c d p q) * sgZ (turnZ a b c d u v)) (g' : ¬ 0 < sgZ (turnZ p q u v a b) * sgZ (turnZ p q u v c d)) : meetW a b c d p q u v = .tuple #[.int .i64 1, .agg #[.int .u64 (ww3 (shareZ ((c - a) * (p * v - q * u) - (u - p) * (a * d - b * c)) (Int.gcd (Int.gcd ((c - a) * (p * v - q * u) - (u - p) * (a * d - b * c)) ((a * d - b * c) * (q - v) - (p * v - q * u) * (b - d)) : Int) ((b - d) * (u - p) - (q - v) * (c - a)) : Int) (decide (((b - d) * (u - p) - (q - v) * (c - a)) < 0)))), .int .u64 (ww2 (shareZ ((c - a) * (p * v - q * u) - (u - p) * (a * d - b * c)) (Int.gcd (Int.gcd ((c - a) * (p * v - q * u) - (u - p) * (a * d - b * c)) ((a * d - b * c) * (q - v) - (p * v - q * u) * (b - d)) : Int) ((b - d) * (u - p) - (q - v) * (c - a)) : Int) (decide (((b - d) * (u - p) - (q - v) * (c - a)) < 0)))), .int .u64 (ww1 (shareZ ((c - a) * (p * v - q * u) - (u - p) * (a * d - b * c)) (Int.gcd (Int.gcd ((c - a) * (p * v - q * u) - (u - p) * (a * d - b * c)) ((a * d - b * c) * (q - v) - (p * v - q * u) * (b - d)) : Int) ((b - d) * (u - p) - (q - v) * (c - a)) : Int) (decide (((b - d) * (u - p) - (q - v) * (c - a)) < 0)))), .int .u64 (ww0 (shareZ ((c - a) * (p * v - q * u) - (u - p) * (a * d - b * c)) (Int.gcd (Int.gcd ((c - a) * (p * v - q * u) - (u - p) * (a * d - b * c)) ((a * d - b * c) * (q - v) - (p * v - q * u) * (b - d)) : Int) ((b - d) * (u - p) - (q - v) * (c - a)) : Int) (decide (((b - d) * (u - p) - (q - v) * (c - a)) < 0)))), .int .u64 (ww3 (shareZ ((a * d - b * c) * (q - v) - (p * v - q * u) * (b - d)) (Int.gcd (Int.gcd ((c - a) * (p * v - q * u) - (u - p) * (a * d - b * c)) ((a * d - b * c) * (q - v) - (p * v - q * u) * (b - d)) : Int) ((b - d) * (u - p) - (q - v) * (c - a)) : Int) (decide (((b - d) * (u - p) - (q - v) * (c - a)) < 0)))), .int .u64 (ww2 (shareZ ((a * d - b * c) * (q - v) - (p * v - q * u) * (b - d)) (Int.gcd (Int.gcd ((c - a) * (p * v - q * u) - (u - p) * (a * d - b * c)) ((a * d - b * c) * (q - v) - (p * v - q * u) * (b - d)) : Int) ((b - d) * (u - p) - (q - v) * (c - a)) : Int) (decide (((b - d) * (u - p) - (q - v) * (c - a)) < 0)))), .int .u64 (ww1 (shareZ ((a * d - b * c) * (q - v) - (p * v - q * u) * (b - d)) (Int.gcd (Int.gcd ((c - a) * (p * v - q * u) - (u - p) * (a * d - b * c)) ((a * d - b * c) * (q - v) - (p * v - q * u) * (b - d)) : Int) ((b - d) * (u - p) - (q - v) * (c - a)) : Int) (decide (((b - d) * (u - p) - (q - v) * (c - a)) < 0)))), .int .u64 (ww0 (shareZ ((a * d - b * c) * (q - v) - (p * v - q * u) * (b - d)) (Int.gcd (Int.gcd ((c - a) * (p * v - q * u) - (u - p) * (a * d - b * c)) ((a * d - b * c) * (q - v) - (p * v - q * u) * (b - d)) : Int) ((b - d) * (u - p) - (q - v) * (c - a)) : Int) (decide (((b - d) * (u - p) - (q - v) * (c - a)) < 0)))), .int .u64 (ww3 (shareZ ((b - d) * (u - p) - (q - v) * (c - a)) (Int.gcd (Int.gcd ((c - a) * (p * v - q * u) - (u - p) * (a * d - b * c)) ((a * d - b * c) * (q - v) - (p * v - q * u) * (b - d)) : Int) ((b - d) * (u - p) - (q - v) * (c - a)) : Int) (decide (((b - d) * (u - p) - (q - v) * (c - a)) < 0)))), .int .u64 (ww2 (shareZ ((b - d) * (u - p) - (q - v) * (c - a)) (Int.gcd (Int.gcd ((c - a) * (p * v - q * u) - (u - p) * (a * d - b * c)) ((a * d - b * c) * (q - v) - (p * v - q * u) * (b - d)) : Int) ((b - d) * (u - p) - (q - v) * (c - a)) : Int) (decide (((b - d) * (u - p) - (q - v) * (c - a)) < 0)))), .int .u64 (ww1 (shareZ ((b - d) * (u - p) - (q - v) * (c - a)) (Int.gcd (Int.gcd ((c - a) * (p * v - q * u) - (u - p) * (a * d - b * c)) ((a * d - b * c) * (q - v) - (p * v - q * u) * (b - d)) : Int) ((b - d) * (u - p) - (q - v) * (c - a)) : Int) (decide (((b - d) * (u - p) - (q - v) * (c - a)) < 0)))), .int .u64 (ww0 (shareZ ((b - d) * (u - p) - (q - v) * (c - a)) (Int.gcd (Int.gcd ((c - a) * (p * v - q * u) - (u - p) * (a * d - b * c)) ((a * d - b * c) * (q - v) - (p * v - q * u) * (b - d)) : Int) ((b - d) * (u - p) - (q - v) * (c - a)) : Int) (decide (((b - d) * (u - p) - (q - v) * (c - a)) < 0))))], .agg #[.int .u64 0, .int .u64 0, .int .u64 0, .int .u64 0, .int .u64 0, .int .u64 0, .int .u64 0, .int .u64 0, .int .u64 0, .int .u64 0, .int .u64 0, .int .u64 0]] := by
  unfold meetW
  rw [if_neg (meet_w0 h g), pt2_yes g, pt2_yes g', if_pos (by rfl)]
theorem meet_along {a b c d p q u v : Int} (h : turnZ a b c d p q = 0) (h' : turnZ a b c d u v = 0) : meetW a b c d p q u v = alongV a b c d p q u v := by
  have hd := turn_diff a b c d p q u v
  unfold meetW
  rw [if_pos (by omega)]
theorem bnd_x (a b c d p q u v : Int) (ha : In1 a) (hb : In1 b) (hc : In1 c) (hd : In1 d) (hp : In1 p) (hq : In1 q) (hu : In1 u) (hv : In1 v) : -9000000000000000000 ≤ ((c - a) * (p * v - q * u) - (u - p) * (a * d - b * c)) ∧ ((c - a) * (p * v - q * u) - (u - p) * (a * d - b * c)) ≤ 9000000000000000000 := by
  obtain ⟨x1, x2⟩ := mul_in (p := a) (q := d) (M := 1000000) (N := 1000000) ha.1 ha.2 hd.1 hd.2
  obtain ⟨x3, x4⟩ := mul_in (p := b) (q := c) (M := 1000000) (N := 1000000) hb.1 hb.2 hc.1 hc.2
  obtain ⟨y1, y2⟩ := mul_in (p := p) (q := v) (M := 1000000) (N := 1000000) hp.1 hp.2 hv.1 hv.2
  obtain ⟨y3, y4⟩ := mul_in (p := q) (q := u) (M := 1000000) (N := 1000000) hq.1 hq.2 hu.1 hu.2
  have e1 := mul_in (p := c - a) (q := p * v - q * u) (M := 2000000) (N := 2000000000000) (by omega) (by omega) (by omega) (by omega)
  have e2 := mul_in (p := u - p) (q := a * d - b * c) (M := 2000000) (N := 2000000000000) (by omega) (by omega) (by omega) (by omega)
  omega
theorem bnd_y (a b c d p q u v : Int) (ha : In1 a) (hb : In1 b) (hc : In1 c) (hd : In1 d) (hp : In1 p) (hq : In1 q) (hu : In1 u) (hv : In1 v) : -9000000000000000000 ≤ ((a * d - b * c) * (q - v) - (p * v - q * u) * (b - d)) ∧ ((a * d - b * c) * (q - v) - (p * v - q * u) * (b - d)) ≤ 9000000000000000000 := by
  obtain ⟨x1, x2⟩ := mul_in (p := a) (q := d) (M := 1000000) (N := 1000000) ha.1 ha.2 hd.1 hd.2
  obtain ⟨x3, x4⟩ := mul_in (p := b) (q := c) (M := 1000000) (N := 1000000) hb.1 hb.2 hc.1 hc.2
  obtain ⟨y1, y2⟩ := mul_in (p := p) (q := v) (M := 1000000) (N := 1000000) hp.1 hp.2 hv.1 hv.2
  obtain ⟨y3, y4⟩ := mul_in (p := q) (q := u) (M := 1000000) (N := 1000000) hq.1 hq.2 hu.1 hu.2
  have e1 := mul_in (p := a * d - b * c) (q := q - v) (M := 2000000000000) (N := 2000000) (by omega) (by omega) (by omega) (by omega)
  have e2 := mul_in (p := p * v - q * u) (q := b - d) (M := 2000000000000) (N := 2000000) (by omega) (by omega) (by omega) (by omega)
  omega
theorem bnd_w (a b c d p q u v : Int) (ha : In1 a) (hb : In1 b) (hc : In1 c) (hd : In1 d) (hp : In1 p) (hq : In1 q) (hu : In1 u) (hv : In1 v) : -8000000000000 ≤ ((b - d) * (u - p) - (q - v) * (c - a)) ∧ ((b - d) * (u - p) - (q - v) * (c - a)) ≤ 8000000000000 := by
  obtain ⟨x1, x2⟩ := mul_in (p := a) (q := d) (M := 1000000) (N := 1000000) ha.1 ha.2 hd.1 hd.2
  obtain ⟨x3, x4⟩ := mul_in (p := b) (q := c) (M := 1000000) (N := 1000000) hb.1 hb.2 hc.1 hc.2
  obtain ⟨y1, y2⟩ := mul_in (p := p) (q := v) (M := 1000000) (N := 1000000) hp.1 hp.2 hv.1 hv.2
  obtain ⟨y3, y4⟩ := mul_in (p := q) (q := u) (M := 1000000) (N := 1000000) hq.1 hq.2 hu.1 hu.2
  have e1 := mul_in (p := b - d) (q := u - p) (M := 2000000) (N := 2000000) (by omega) (by omega) (by omega) (by omega)
  have e2 := mul_in (p := q - v) (q := c - a) (M := 2000000) (N := 2000000) (by omega) (by omega) (by omega) (by omega)
  omega
theorem m4_keep0 {a b c d p q u v : Int} {w W : World} {gd gn : Nat} {ds ns : Bool} {do1 no : Option Addr} {dn dc nn nc : Nat} (T0 : ArgsB w W [[.int .i64 a, .int .i64 b, .int .i64 c, .int .i64 d], [.int .i64 p, .int .i64 q, .int .i64 u, .int .i64 v], [.bool false, .slice none 0 0, .bool false, .slice none 0 0, .bool false, .slice none 0 0], [.bool false, .slice none 0 0, .bool false, .slice none 0 0, .bool false, .slice none 0 0]]) (Bd : Blk W gd [.bool ds, .slice do1 dn dc]) (Bn : Blk W gn [.bool ns, .slice no nn nc]) : (fun w' => w'.cell? ⟨w.heap.size, 0, none⟩ = some (.int .i64 a) ∧ w'.cell? ⟨gd, 0, none⟩ = some (.bool ds) ∧ w'.cell? ⟨gd, 1, none⟩ = some (.slice do1 dn dc) ∧ w'.cell? ⟨gn, 0, none⟩ = some (.bool ns) ∧ w'.cell? ⟨gn, 1, none⟩ = some (.slice no nn nc)) W := ⟨(T0.b 0 rfl).c 0 rfl, Bd.c 0 rfl, Bd.c 1 rfl, Bn.c 0 rfl, Bn.c 1 rfl⟩
theorem m4_keep1 {a b c d p q u v : Int} {w W : World} {gd gn : Nat} {ds ns : Bool} {do1 no : Option Addr} {dn dc nn nc : Nat} (T0 : ArgsB w W [[.int .i64 a, .int .i64 b, .int .i64 c, .int .i64 d], [.int .i64 p, .int .i64 q, .int .i64 u, .int .i64 v], [.bool false, .slice none 0 0, .bool false, .slice none 0 0, .bool false, .slice none 0 0], [.bool false, .slice none 0 0, .bool false, .slice none 0 0, .bool false, .slice none 0 0]]) (Bd : Blk W gd [.bool ds, .slice do1 dn dc]) (Bn : Blk W gn [.bool ns, .slice no nn nc]) : (fun w' => w'.cell? ⟨w.heap.size, 1, none⟩ = some (.int .i64 b) ∧ w'.cell? ⟨gd, 0, none⟩ = some (.bool ds) ∧ w'.cell? ⟨gd, 1, none⟩ = some (.slice do1 dn dc) ∧ w'.cell? ⟨gn, 0, none⟩ = some (.bool ns) ∧ w'.cell? ⟨gn, 1, none⟩ = some (.slice no nn nc)) W := ⟨(T0.b 0 rfl).c 1 rfl, Bd.c 0 rfl, Bd.c 1 rfl, Bn.c 0 rfl, Bn.c 1 rfl⟩
end Go.Proofs.Ytmjlgmoohpnhfaa

/- Rows of spots, and rings of them: how they lie, copied, held against one another, counted. -/
namespace Go.Proofs.Ytmjlgmoohpnhfaa
open Go.RowKit
abbrev Ps := Nat → Int × Int
/-- n spots lie behind a slice's address. -/
def SpIn (w : World) (ao : Option Addr) (n : Nat) (p : Ps) : Prop :=
  ∀ i, i < n → ∃ A off, ao = some ⟨A, off, none⟩ ∧ A < w.heap.size ∧ w.cell? ⟨A, off + i * 2, none⟩ = some (.int .i64 (p i).1) ∧ w.cell? ⟨A, off + i * 2 + 1, none⟩ = some (.int .i64 (p i).2)
theorem SpIn.step {w w' : World} {ao : Option Addr} {n : Nat} {p : Ps} (h : SpIn w ao n p) (hB : Below w.heap.size w w') : SpIn w' ao n p := fun i hi => by
  obtain ⟨A, off, e, hA, h0, h1⟩ := h i hi
  exact ⟨A, off, e, Nat.lt_of_lt_of_le hA hB.size, (hB.cell (p := ⟨A, off + i * 2, none⟩) hA).trans h0, (hB.cell (p := ⟨A, off + i * 2 + 1, none⟩) hA).trans h1⟩
theorem SpIn.drew {w : World} {ao : Option Addr} {n : Nat} {p : Ps} (h : SpIn w ao n p) : SpIn w.drew ao n p := h
/-- The numbers of a row of spots, one behind the other. -/
def spW (p : Ps) (k : Nat) : Int := if k % 2 = 0 then (p (k / 2)).1 else (p (k / 2)).2
theorem spW0 (p : Ps) (c : Nat) : spW p (c * 2) = (p c).1 := by
  unfold spW
  rw [if_pos (by omega), show c * 2 / 2 = c by omega]
theorem spW1 (p : Ps) (c : Nat) : spW p (c * 2 + 1) = (p c).2 := by
  unfold spW
  rw [if_neg (by omega), show (c * 2 + 1) / 2 = c by omega]
theorem spIn_row {w : World} {g n : Nat} {T : TypeId} {p : Ps} (h : w.rowIs g T (n * 2) (fun i => .int .i64 (spW p i))) : SpIn w (some ⟨g, 0, none⟩) n p := fun i hi =>
  ⟨g, 0, rfl, h.lt, by rw [Nat.zero_add, h.cell (by omega), spW0], by rw [Nat.zero_add, h.cell (by omega), spW1]⟩
theorem toSpot_det (x y : Int) (w : World) : Calls Try.prog 25 #[Sp x y] w (VP (Sp x y) w) := by
  go_enter Try.func25, Try.ntmps25
  go_wp2
  refine bodyPost_ret (v := Sp x y) (by simp [results, Try.results25, go_sem]) rfl ?_
  exact ⟨rfl, (((Below.refl _ _).alloc (Nat.le_refl _) _).alloc (by simp) _).alloc (by simp; omega) _⟩
theorem eqSpot_det (x y : Int) (w : World) : Calls Try.prog 77 #[Sp x y, Sp x y] w (BoolP true w) := by
  go_enter Try.func77, Try.ntmps77
  go_wp2
  go_ret
  exact ⟨rfl, ((Below.refl _ _).alloc (Nat.le_refl _) _).alloc (by simp) _⟩
theorem Try.infoSpot : (Try.prog.info? 55).map (fun i => (i.zero, i.size, i.bytes)) = some (some (.agg #[.int .i64 0, .int .i64 0]), 2, 16) := by kernel_rfl
theorem make_spots (n : Nat) (hn : n ≤ 1048576) (w : World) : (Instr.makeSlice 26 (.int .i64 (n : Int)) (.int .i64 (n : Int))).run Try.prog w = .ok (.slice (some ⟨w.heap.size, 0, none⟩) n n) (w.alloc (.cells (madeCells #[.int .i64 0, .int .i64 0] (n * 2)) 55)) := by
  obtain ⟨i, hi, hzz⟩ := Option.map_eq_some_iff.1 Try.infoSpot
  simp only [Prod.mk.injEq] at hzz
  obtain ⟨hz, hs, hb⟩ := hzz
  have hr := run_make (P := Try.prog) w 26 55 i (.agg #[.int .i64 0, .int .i64 0]) Try.underlying26 hi hz .i64 .i64 n n (by omega) (Int.le_refl _) (by rw [hb]; omega) (by omega)
  simp only [Int.toNat_natCast, hs, Value.cells] at hr
  exact hr
theorem rows_made (w : World) (n : Nat) (T : TypeId) : (w.alloc (.cells (madeCells #[.int .i64 0, .int .i64 0] (n * 2)) T)).rowIs w.heap.size T (n * 2) (fun _ => .int .i64 0) := by
  have h := World.rowIs_alloc w (madeCells #[.int .i64 0, .int .i64 0] (n * 2)) T (fun _ => .int .i64 0) (fun i hi => by
    rw [size_madeCells] at hi
    simp [madeCells, hi]
    rcases (show i % 2 = 0 ∨ i % 2 = 1 by omega) with h | h <;> simp [h])
  rwa [size_madeCells] at h
/-- So far the row holds what was copied, behind it zeros. -/
def cpS (p : Ps) (c : Nat) (i : Nat) : Value := .int .i64 (if i < c * 2 then spW p i else 0)
theorem rows_step {w w' : World} {g n : Nat} {T : TypeId} {f : Nat → Value} (h : w.rowIs g T n f) (hB : Below w.heap.size w w') : w'.rowIs g T n f := h.of_block (hB.block g h.lt)
theorem cps_step {w : World} {g n c : Nat} {T : TypeId} {p : Ps} (h : w.rowIs g T (n * 2) (cpS p c)) : ((w.setCell ⟨g, c * 2, none⟩ (.int .i64 (p c).1)).setCell ⟨g, c * 2 + 1, none⟩ (.int .i64 (p c).2)).rowIs g T (n * 2) (cpS p (c + 1)) := by
  refine ((h.set (c * 2) (.int .i64 (p c).1)).set (c * 2 + 1) (.int .i64 (p c).2)).congr (fun i hi => ?_)
  unfold cpS
  by_cases h1 : i = c * 2 + 1
  · subst h1
    rw [if_pos rfl, if_pos (by omega), spW1]
  rw [if_neg h1]
  by_cases h0 : i = c * 2
  · subst h0
    rw [if_pos rfl, if_pos (by omega), spW0]
  rw [if_neg h0]
  by_cases hl : i < c * 2
  · rw [if_pos hl, if_pos (by omega)]
  · rw [if_neg hl, if_neg (by omega)]
set_option maxRecDepth 100000 in
set_option maxHeartbeats 2000000 in
theorem toSpotS_any (ao : Option Addr) (n cap : Nat) (p : Ps) (hn : n ≤ 1048576) (w : World) (hS : SpIn w ao n p) : Calls Try.prog 31 #[.slice ao n cap] w (fun e w' => ∃ g, e = .returned (.slice (some ⟨g, 0, none⟩) n n) ∧ w.heap.size ≤ g ∧ w'.rowIs g 55 (n * 2) (fun i => .int .i64 (spW p i)) ∧ Below w.heap.size w w') := by
  have MK := make_spots n hn
  have HS : Hid (SpIn w ao n p) := hS
  clear hS
  go_enter Try.func31, Try.ntmps31
  go_wp2_with fail
  have R0 := rows_made w n 55
  have B0 : Below w.heap.size w (w.alloc (.cells (madeCells #[.int .i64 0, .int .i64 0] (n * 2)) 55)) := (Below.refl _ _).alloc (Nat.le_refl _) _
  generalize w.alloc (.cells (madeCells #[.int .i64 0, .int .i64 0] (n * 2)) 55) = W1 at *
  have hnI : (n : Int) ≤ 1048576 := by omega
  clear MK
  go_loopw [4] (fun i wr => ∃ c : Nat, c ≤ n ∧ i = .int .i64 c ∧ wr.rowIs w.heap.size 55 (n * 2) (cpS p c) ∧ Below w.heap.size w wr) (fun i _ => n - (intOf i).toNat)
  case atStart => exact ⟨0, by omega, rfl, R0.congr (fun i _ => by unfold cpS; simp), B0⟩
  case round =>
    clear R0 B0
    obtain ⟨c, hc, rfl, R, HB⟩ := hrel
    by_cases hcn : c < n
    · obtain ⟨A, off, rfl, hA, q0, q1⟩ := HS.out.step HB c hcn
      have hcI : (c : Int) < n := by omega
      go_wp2_with fail
      refine (toSpot_det (p c).1 (p c).2 _).mono ?_
      rintro e w1 ⟨rfl, hB⟩
      replace R := rows_step R hB
      replace HB := HB.trans (hB.mono HB.size)
      have o0 := R.cell (i := c * 2) (by omega); have o1 := R.cell (i := c * 2 + 1) (by omega)
      have f0 := R.frozen (c * 2); have f1 := R.frozen (c * 2 + 1)
      have RN := cps_step R
      have HN : Below w.heap.size w ((w1.setCell ⟨w.heap.size, c * 2, none⟩ (.int .i64 (p c).1)).setCell ⟨w.heap.size, c * 2 + 1, none⟩ (.int .i64 (p c).2)) := (HB.setCell (by simp) _).setCell (by simp) _
      clear hB q0 q1 hA R HB
      go_wp2
      go_roundw
      case rel => exact ⟨c + 1, by omega, by go_num, RN, HN⟩
      case measure => simp [intOf]; omega
    · obtain rfl : c = n := by omega
      have RN : wr.rowIs w.heap.size 55 (c * 2) (fun i => .int .i64 (spW p i)) := R.congr (fun i hi => by unfold cpS; rw [if_pos hi])
      clear R HS
      go_wp2
      go_ret
      exact ⟨_, rfl, Nat.le_refl _, RN, HB⟩
set_option maxRecDepth 100000 in
set_option maxHeartbeats 2000000 in
theorem eqSpotS_any (ao bo : Option Addr) (n ca cb : Nat) (p : Ps) (hn : n ≤ 1048576) (w : World) (hA : SpIn w ao n p) (hC : SpIn w bo n p) : Calls Try.prog 33 #[.slice ao n ca, .slice bo n cb] w (BoolP true w) := by
  have HA : Hid (SpIn w ao n p) := hA
  have HC : Hid (SpIn w bo n p) := hC
  have hnI : (n : Int) ≤ 1048576 := by omega
  clear hA hC
  go_enter Try.func33, Try.ntmps33
  go_wp2_with fail
  go_loopw [5] (fun i wr => ∃ c : Nat, c ≤ n ∧ i = .int .i64 c ∧ Below w.heap.size w wr) (fun i _ => n - (intOf i).toNat)
  case atStart => exact ⟨0, by omega, rfl, Below.refl _ _⟩
  case round =>
    obtain ⟨c, hc, rfl, HB⟩ := hrel
    by_cases hcn : c < n
    · obtain ⟨A, off, rfl, hA, q0, q1⟩ := HA.out.step HB c hcn
      obtain ⟨B, of2, rfl, hB', r0, r1⟩ := HC.out.step HB c hcn
      have hcI : (c : Int) < n := by omega
      have ES := eqSpot_det (p c).1 (p c).2
      have KS : (fun w' => w'.cell? ⟨A, off + c * 2, none⟩ = some (.int .i64 (p c).1) ∧ w'.cell? ⟨A, off + c * 2 + 1, none⟩ = some (.int .i64 (p c).2) ∧ w'.cell? ⟨B, of2 + c * 2, none⟩ = some (.int .i64 (p c).1) ∧ w'.cell? ⟨B, of2 + c * 2 + 1, none⟩ = some (.int .i64 (p c).2)) wr := ⟨q0, q1, r0, r1⟩
      go_wp2_with fail
      go_region_held3 (fun w' => w'.cell? ⟨A, off + c * 2, none⟩ = some (.int .i64 (p c).1) ∧ w'.cell? ⟨A, off + c * 2 + 1, none⟩ = some (.int .i64 (p c).2) ∧ w'.cell? ⟨B, of2 + c * 2, none⟩ = some (.int .i64 (p c).1) ∧ w'.cell? ⟨B, of2 + c * 2 + 1, none⟩ = some (.int .i64 (p c).2)) (first | (exact KS) | (exact KS'))
        (first
          | (go_at_call 77; refine (ES _).mono ?_; rintro e w1 ⟨rfl, hB⟩; have KS' : (fun w' => w'.cell? ⟨A, off + c * 2, none⟩ = some (.int .i64 (p c).1) ∧ w'.cell? ⟨A, off + c * 2 + 1, none⟩ = some (.int .i64 (p c).2) ∧ w'.cell? ⟨B, of2 + c * 2, none⟩ = some (.int .i64 (p c).1) ∧ w'.cell? ⟨B, of2 + c * 2 + 1, none⟩ = some (.int .i64 (p c).2)) w1 := ⟨(hB.cell (p := ⟨A, _, none⟩) hA).trans q0, (hB.cell (p := ⟨A, _, none⟩) hA).trans q1, (hB.cell (p := ⟨B, _, none⟩) hB').trans r0, (hB.cell (p := ⟨B, _, none⟩) hB').trans r1⟩; (first | (have HB2 := HB.trans (hB.mono HB.size)) | (have HB2 := HB.drew.trans (hB.mono HB.drew.size))); clear hB))
      all_goals clear HB KS q0 q1 r0 r1 ES
      all_goals go_wp2
      all_goals go_roundw
      case rel => exact ⟨c + 1, by omega, by go_num, HB2⟩
      case measure => simp [intOf]; omega
    · obtain rfl : c = n := by omega
      clear HA HC
      go_wp2
      go_ret
      exact ⟨rfl, HB⟩
theorem szSpotS_any (ao : Option Addr) (m cap : Nat) (l : Int) (h0 : 0 ≤ l) (h1 : l ≤ 1048576) (hm : m ≤ 9223372036854775807) (w : World) : Calls Try.prog 29 #[.slice ao m cap, .int .i64 l] w (VP (.int .i64 (if (m : Int) ≤ l then l - m else -1)) w) := by
  have hmI : (m : Int) ≤ 9223372036854775807 := by omega
  by_cases h : (m : Int) ≤ l
  · rw [if_pos h]
    go_enter Try.func29, Try.ntmps29
    go_wp2
    go_ret
    exact ⟨rfl, Below.refl _ _⟩
  · rw [if_neg h]
    have h' : l < (m : Int) := by omega
    go_enter Try.func29, Try.ntmps29
    go_wp2
    go_ret
    exact ⟨rfl, Below.refl _ _⟩
end Go.Proofs.Ytmjlgmoohpnhfaa

/- Rings by their spots: the kind of meeting of two sides, what is at fault: the reckoning. -/
namespace Go.Proofs.Ytmjlgmoohpnhfaa
open Go.RowKit
/-- The kind of meeting of two segments. -/
def kndZ (a b c d p q u v : Int) : Int :=
  if ((b - d) * (u - p) - (q - v) * (c - a)) = 0 then
    (if turnZ a b c d p q ≠ 0 ∨ lessI (if lessI u v c d = true then u else c) (if lessI u v c d = true then v else d) (if lessI a b p q = true then p else a) (if lessI a b p q = true then q else b) = true then 0
     else if (if lessI a b p q = true then p else a) = (if lessI u v c d = true then u else c) ∧ (if lessI a b p q = true then q else b) = (if lessI u v c d = true then v else d) then 1 else 2)
  else if (pt2 (turnZ a b c d p q) (turnZ a b c d u v) && pt2 (turnZ p q u v a b) (turnZ p q u v c d)) = true then 1 else 0
theorem pt2_zl (t : Int) : pt2 0 t = true := by simp [pt2]
theorem pt2_zr (t : Int) : pt2 t 0 = true := by simp [pt2]
theorem turn_at1 (a b c d : Int) : turnZ a b c d a b = 0 := by unfold turnZ; simp
theorem turn_at2 (a b c d : Int) : turnZ a b c d c d = 0 := by unfold turnZ; grind
theorem less_iff (x y u v : Int) : lessI x y u v = true ↔ x < u ∨ x = u ∧ y < v := by unfold lessI; exact decide_eq_true_iff
theorem meetW_kind (a b c d p q u v : Int) : ∃ r s, meetW a b c d p q u v = .tuple #[.int .i64 (kndZ a b c d p q u v), r, s] := by
  unfold meetW kndZ
  by_cases h0 : ((b - d) * (u - p) - (q - v) * (c - a)) = 0
  · rw [if_pos h0, if_pos h0]
    unfold alongV
    by_cases h1 : turnZ a b c d p q ≠ 0 ∨ lessI (if lessI u v c d = true then u else c) (if lessI u v c d = true then v else d) (if lessI a b p q = true then p else a) (if lessI a b p q = true then q else b) = true
    · rw [if_pos h1, if_pos h1]
      exact ⟨_, _, rfl⟩
    · rw [if_neg h1, if_neg h1]
      by_cases h2 : (if lessI a b p q = true then p else a) = (if lessI u v c d = true then u else c) ∧ (if lessI a b p q = true then q else b) = (if lessI u v c d = true then v else d)
      · rw [if_pos h2, if_pos h2]
        exact ⟨_, _, rfl⟩
      · rw [if_neg h2, if_neg h2]
        exact ⟨_, _, rfl⟩
  · rw [if_neg h0, if_neg h0]
    by_cases h3 : (pt2 (turnZ a b c d p q) (turnZ a b c d u v) && pt2 (turnZ p q u v a b) (turnZ p q u v c d)) = true
    · rw [if_pos h3, if_pos h3]
      exact ⟨_, _, rfl⟩
    · rw [if_neg h3, if_neg h3]
      exact ⟨_, _, rfl⟩
theorem mtP_kind {a b c d p q u v : Int} {w w' : World} {e : Ending} (h : MtP a b c d p q u v w e w') : (∃ (f1 f2 f3 g1 g2 g3 : Bool) (k1 k2 k3 l1 l2 l3 : Option Addr) (m1 m2 m3 x1 x2 x3 y1 y2 y3 z1 z2 z3 : Nat), e = .returned (.tuple #[.int .i64 (kndZ a b c d p q u v), .agg #[.bool f1, .slice k1 m1 x1, .bool f2, .slice k2 m2 x2, .bool f3, .slice k3 m3 x3], .agg #[.bool g1, .slice l1 y1 z1, .bool g2, .slice l2 y2 z2, .bool g3, .slice l3 y3 z3]])) ∧ Below w.heap.size w w' := by
  obtain ⟨hB, h⟩ := h
  obtain ⟨r, s, hk⟩ := meetW_kind a b c d p q u v
  refine ⟨?_, hB⟩
  rcases h with ⟨hm, he⟩ | ⟨x, y, z, r', hm, -, -, -, he, L⟩ | ⟨x, y, x', y', r', s', hm, -, -, -, -, he, L, L'⟩
  · rw [hk] at hm
    simp at hm
    rw [hm.1]
    exact ⟨_, _, _, _, _, _, _, _, _, _, _, _, _, _, _, _, _, _, _, _, _, _, _, _, he⟩
  · rw [hk] at hm
    simp at hm
    rw [hm.1]
    obtain ⟨s1, o1, n1, c1, d1, s2, o2, n2, c2, d2, s3, o3, n3, c3, d3, rfl, -, -, -⟩ := L
    exact ⟨_, _, _, _, _, _, _, _, _, _, _, _, _, _, _, _, _, _, _, _, _, _, _, _, he⟩
  · rw [hk] at hm
    simp at hm
    rw [hm.1]
    obtain ⟨s1, o1, n1, c1, d1, s2, o2, n2, c2, d2, s3, o3, n3, c3, d3, rfl, -, -, -⟩ := L
    obtain ⟨t1, q1, m1, b1, f1, t2, q2, m2, b2, f2, t3, q3, m3, b3, f3, rfl, -, -, -⟩ := L'
    exact ⟨_, _, _, _, _, _, _, _, _, _, _, _, _, _, _, _, _, _, _, _, _, _, _, _, he⟩
theorem meetW_12 (a b c d p q u v : Int) : ∃ (r0 r1 r2 r3 r4 r5 r6 r7 r8 r9 r10 r11 s0 s1 s2 s3 s4 s5 s6 s7 s8 s9 s10 s11 : Int), meetW a b c d p q u v = .tuple #[.int .i64 (kndZ a b c d p q u v), .agg #[.int .u64 r0, .int .u64 r1, .int .u64 r2, .int .u64 r3, .int .u64 r4, .int .u64 r5, .int .u64 r6, .int .u64 r7, .int .u64 r8, .int .u64 r9, .int .u64 r10, .int .u64 r11], .agg #[.int .u64 s0, .int .u64 s1, .int .u64 s2, .int .u64 s3, .int .u64 s4, .int .u64 s5, .int .u64 s6, .int .u64 s7, .int .u64 s8, .int .u64 s9, .int .u64 s10, .int .u64 s11]] := by
  obtain ⟨r, s, hk⟩ := meetW_kind a b c d p q u v
  obtain ⟨k, r0, r1, r2, r3, r4, r5, r6, r7, r8, r9, r10, r11, s0, s1, s2, s3, s4, s5, s6, s7, s8, s9, s10, s11, hx⟩ := meetW_ex a b c d p q u v
  have he := hx
  rw [hk] at he
  simp at he
  exact ⟨r0, r1, r2, r3, r4, r5, r6, r7, r8, r9, r10, r11, s0, s1, s2, s3, s4, s5, s6, s7, s8, s9, s10, s11, by rw [hx, he.1]⟩
end Go.Proofs.Ytmjlgmoohpnhfaa

/- Ways that keep clear of segments: the reckoning. -/
namespace Go.Proofs.Ytmjlgmoohpnhfaa
open Go.RowKit
theorem mul_zero_or {a b : Int} (h : a * b = 0) : a = 0 ∨ b = 0 := Int.mul_eq_zero.1 h
/-- Along the same line: whose line it is does not matter. -/
theorem line_same {e f g h x y : Int} (hp : e * h = f * g) (h1 : e ≠ 0 ∨ f ≠ 0) (hz : e * y - f * x = 0) : g * y - h * x = 0 := by
  rcases Int.lt_or_eq_of_le (Int.le_refl e) with _ | _
  · omega
  · by_cases he : e = 0
    · have hf : f ≠ 0 := h1.resolve_left (fun k => k he)
      have hg : g = 0 := by
        rw [he, Int.zero_mul] at hp
        exact (mul_zero_or hp.symm).resolve_left hf
      have hx : x = 0 := by
        rw [he, Int.zero_mul] at hz
        exact (mul_zero_or (by omega : f * x = 0)).resolve_left hf
      rw [hg, hx]
      simp
    · have k : e * (g * y - h * x) = 0 := by
        have e1 : e * (g * y - h * x) = g * (e * y) - (e * h) * x := by grind
        have e2 : e * y = f * x := by omega
        rw [e1, e2, hp]
        grind
      exact (mul_zero_or k).resolve_left he
theorem cross_swap (a b c d p q u v : Int) : ((q - v) * (c - a) - (b - d) * (u - p)) = 0 ↔ ((b - d) * (u - p) - (q - v) * (c - a)) = 0 := by omega
theorem turn_par {a b c d p q u v : Int} (h0 : ((b - d) * (u - p) - (q - v) * (c - a)) = 0) (h1 : c - a ≠ 0 ∨ d - b ≠ 0) (ht : turnZ a b c d p q = 0) : turnZ p q u v a b = 0 := by
  unfold turnZ at *
  have hp : (c - a) * (v - q) = (d - b) * (u - p) := by grind
  have k := line_same hp h1 ht
  have e : (u - p) * (b - q) - (v - q) * (a - p) = -((u - p) * (q - b) - (v - q) * (p - a)) := by grind
  rw [e, k]
  rfl
theorem knd_zero {a b c d p q u v : Int} : kndZ a b c d p q u v = 0 ↔ (if ((b - d) * (u - p) - (q - v) * (c - a)) = 0 then (turnZ a b c d p q ≠ 0 ∨ lessI (if lessI u v c d = true then u else c) (if lessI u v c d = true then v else d) (if lessI a b p q = true then p else a) (if lessI a b p q = true then q else b) = true) else ¬ ((pt2 (turnZ a b c d p q) (turnZ a b c d u v) && pt2 (turnZ p q u v a b) (turnZ p q u v c d)) = true)) := by
  unfold kndZ
  by_cases h0 : ((b - d) * (u - p) - (q - v) * (c - a)) = 0
  · rw [if_pos h0, if_pos h0]
    by_cases h1 : turnZ a b c d p q ≠ 0 ∨ lessI (if lessI u v c d = true then u else c) (if lessI u v c d = true then v else d) (if lessI a b p q = true then p else a) (if lessI a b p q = true then q else b) = true
    · rw [if_pos h1]
      exact ⟨fun _ => h1, fun _ => rfl⟩
    · rw [if_neg h1]
      refine ⟨fun h => ?_, fun h => absurd h h1⟩
      by_cases hq : (if lessI a b p q = true then p else a) = (if lessI u v c d = true then u else c) ∧ (if lessI a b p q = true then q else b) = (if lessI u v c d = true then v else d)
      · rw [if_pos hq] at h; exact absurd h (by decide)
      · rw [if_neg hq] at h; exact absurd h (by decide)
  · rw [if_neg h0, if_neg h0]
    by_cases hq : (pt2 (turnZ a b c d p q) (turnZ a b c d u v) && pt2 (turnZ p q u v a b) (turnZ p q u v c d)) = true
    · rw [if_pos hq]
      exact ⟨fun k => absurd k (by decide), fun k => absurd hq k⟩
    · rw [if_neg hq]
      exact ⟨fun _ => hq, fun _ => rfl⟩
theorem less_ne {a b c d : Int} (h : lessI a b c d = true) : c - a ≠ 0 ∨ d - b ≠ 0 := by
  rw [less_iff] at h
  omega
/-- Whether two segments meet does not ask which stands first. -/
theorem knd_swap {a b c d p q u v : Int} (h1 : lessI a b c d = true) (h2 : lessI p q u v = true) : kndZ a b c d p q u v = 0 ↔ kndZ p q u v a b c d = 0 := by
  rw [knd_zero, knd_zero]
  by_cases h0 : ((b - d) * (u - p) - (q - v) * (c - a)) = 0
  · have h0' := (cross_swap a b c d p q u v).2 h0
    rw [if_pos h0, if_pos h0']
    have n1 := less_ne h1
    have n2 := less_ne h2
    have t : turnZ a b c d p q = 0 ↔ turnZ p q u v a b = 0 := ⟨fun h => turn_par h0 n1 h, fun h => turn_par h0' n2 h⟩
    have m : lessI (if lessI u v c d = true then u else c) (if lessI u v c d = true then v else d) (if lessI a b p q = true then p else a) (if lessI a b p q = true then q else b) = true ↔ lessI (if lessI c d u v = true then c else u) (if lessI c d u v = true then d else v) (if lessI p q a b = true then a else p) (if lessI p q a b = true then b else q) = true := by
      simp only [less_iff]
      split <;> split <;> split <;> split <;> omega
    exact or_congr (not_congr t) m
  · have h0' := fun h => h0 ((cross_swap a b c d p q u v).1 h)
    rw [if_neg h0, if_neg h0', Bool.and_comm]
theorem pt2_iff (t t' : Int) : pt2 t t' = true ↔ (0 ≤ t ∨ 0 ≤ t') ∧ (t ≤ 0 ∨ t' ≤ 0) := by
  unfold pt2
  simp
/-- What is nothing between two ends has not one sign at both. -/
theorem between_sign {s r L M : Int} (hs : 0 ≤ s) (hr : 0 ≤ r) (hsr : 0 < s + r) (h : s * L + r * M = 0) : pt2 L M = true := by
  rw [pt2_iff]
  constructor
  · rcases Int.lt_or_le L 0 with h1 | h1
    · rcases Int.lt_or_le M 0 with h2 | h2
      · exfalso
        have a1 : s * L ≤ 0 := Int.mul_nonpos_of_nonneg_of_nonpos hs (by omega)
        have a2 : r * M ≤ 0 := Int.mul_nonpos_of_nonneg_of_nonpos hr (by omega)
        have b1 := mul_zero_or (by omega : s * L = 0)
        have b2 := mul_zero_or (by omega : r * M = 0)
        omega
      · exact .inr h2
    · exact .inl h1
  · rcases Int.lt_or_le 0 L with h1 | h1
    · rcases Int.lt_or_le 0 M with h2 | h2
      · exfalso
        have a1 : 0 ≤ s * L := Int.mul_nonneg hs (by omega)
        have a2 : 0 ≤ r * M := Int.mul_nonneg hr (by omega)
        have b1 := mul_zero_or (by omega : s * L = 0)
        have b2 := mul_zero_or (by omega : r * M = 0)
        omega
      · exact .inr h2
    · exact .inl h1
/-- A segment that has an end on another meets it. -/
theorem knd_on {a b c d p q u v e f : Int} (h1 : lessI a b c d = true) (h2 : lessI p q u v = true) (he : (e = p ∧ f = q) ∨ (e = u ∧ f = v)) (ht : turnZ a b c d e f = 0) (hlo : a < e ∨ (a = e ∧ b ≤ f)) (hhi : e < c ∨ (e = c ∧ f ≤ d)) : kndZ a b c d p q u v ≠ 0 := by
  intro hk
  rw [knd_zero] at hk
  have hd := turn_diff a b c d p q u v
  have s1 := turn_at1 p q u v
  have s2 := turn_at2 p q u v
  have hL : turnZ p q u v e f = 0 := by
    rcases he with ⟨rfl, rfl⟩ | ⟨rfl, rfl⟩
    · exact s1
    · exact s2
  by_cases h0 : ((b - d) * (u - p) - (q - v) * (c - a)) = 0
  · rw [if_pos h0] at hk
    have T : turnZ a b c d p q = 0 := by
      rcases he with ⟨rfl, rfl⟩ | ⟨rfl, rfl⟩ <;> omega
    rcases hk with hk | hk
    · exact hk T
    · rw [less_iff] at h1 h2
      simp only [less_iff] at hk
      split at hk <;> split at hk <;> rcases he with ⟨rfl, rfl⟩ | ⟨rfl, rfl⟩ <;> omega
  · rw [if_neg h0] at hk
    refine hk ?_
    rw [Bool.and_eq_true]
    constructor
    · rcases he with ⟨rfl, rfl⟩ | ⟨rfl, rfl⟩
      · rw [ht]; exact pt2_zl _
      · rw [ht]; exact pt2_zr _
    · rw [less_iff] at h1
      by_cases hac : a = c
      · have hx : e = a := by omega
        refine between_sign (s := d - f) (r := f - b) (by omega) (by omega) (by omega) ?_
        have k : (d - f) * turnZ p q u v a b + (f - b) * turnZ p q u v c d = (d - b) * turnZ p q u v e f := by
          rw [← hac, hx]
          unfold turnZ
          grind
        rw [k, hL, Int.mul_zero]
      · refine between_sign (s := c - e) (r := e - a) (by omega) (by omega) (by omega) ?_
        have k : (c - e) * turnZ p q u v a b + (e - a) * turnZ p q u v c d = (c - a) * turnZ p q u v e f - (u - p) * turnZ a b c d e f := by
          unfold turnZ
          grind
        rw [k, hL, ht, Int.mul_zero, Int.mul_zero]
        rfl
end Go.Proofs.Ytmjlgmoohpnhfaa

/- Rows of segments: how they lie, and the walks over them. -/
namespace Go.Proofs.Ytmjlgmoohpnhfaa
open Go.RowKit
/-- n segments lie behind a slice's address, their numbers by x. -/
def SegIn (w : World) (ao : Option Addr) (n : Nat) (x : Nat → Int) : Prop :=
  ∀ i, i < n → ∃ A off, ao = some ⟨A, off, none⟩ ∧ A < w.heap.size ∧ ∀ j, j < 4 → w.cell? ⟨A, off + i * 4 + j, none⟩ = some (.int .i64 (x (i * 4 + j)))
theorem SegIn.step {w w' : World} {ao : Option Addr} {n : Nat} {x : Nat → Int} (h : SegIn w ao n x) (hB : Below w.heap.size w w') : SegIn w' ao n x := fun i hi => by
  obtain ⟨A, off, e, hA, hc⟩ := h i hi
  exact ⟨A, off, e, Nat.lt_of_lt_of_le hA hB.size, fun j hj => (hB.cell (p := ⟨A, off + i * 4 + j, none⟩) hA).trans (hc j hj)⟩
theorem SegIn.drew {w : World} {ao : Option Addr} {n : Nat} {x : Nat → Int} (h : SegIn w ao n x) : SegIn w.drew ao n x := h
theorem segIn_row {w : World} {g n : Nat} {T : TypeId} {x : Nat → Int} (h : w.rowIs g T (n * 4) (fun i => .int .i64 (x i))) : SegIn w (some ⟨g, 0, none⟩) n x := fun i hi =>
  ⟨g, 0, rfl, h.lt, fun j hj => by rw [Nat.zero_add]; exact h.cell (by omega)⟩
/-- What is at fault in a row of segments. -/
def sgI (n : Nat) (x : Nat → Int) : Int := if 40 < n then 1 else if ∀ i, i < n → segOk (x (i * 4)) (x (i * 4 + 1)) (x (i * 4 + 2)) (x (i * 4 + 3)) = true then 0 else 2
set_option maxRecDepth 100000 in
set_option maxHeartbeats 2000000 in
theorem specSegsFault_any (ao : Option Addr) (n cap : Nat) (x : Nat → Int) (w : World) (hS : SegIn w ao n x) : Calls Try.prog 107 #[.slice ao n cap] w (VP (.int .i64 (sgI n x)) w) := by
  by_cases hn : 40 < n
  · have HO : Hid (sgI n x = 1) := by show _ = _; unfold sgI; rw [if_pos hn]
    go_enter Try.func107, Try.ntmps107
    have hn' : (40 : Int) < n := by omega
    clear hS
    go_wp2
    go_ret
    exact ⟨by rw [HO.out]; rfl, Below.refl _ _⟩
  · go_enter Try.func107, Try.ntmps107
    have hn' : (n : Int) ≤ 40 := by omega
    have HS : Hid (SegIn w ao n x) := hS
    clear hS
    go_wp2_with fail
    go_loopw [3] (fun i wr => ∃ c : Nat, c ≤ n ∧ i = .int .i64 c ∧ (∀ j, j < c → segOk (x (j * 4)) (x (j * 4 + 1)) (x (j * 4 + 2)) (x (j * 4 + 3)) = true) ∧ Below w.heap.size w wr) (fun i _ => n - (intOf i).toNat)
    case atStart => exact ⟨0, by omega, rfl, fun j hj => by omega, Below.refl _ _⟩
    case round =>
      obtain ⟨c, hc, rfl, hall, HB⟩ := hrel
      have HA : Hid (∀ j, j < c → segOk (x (j * 4)) (x (j * 4 + 1)) (x (j * 4 + 2)) (x (j * 4 + 3)) = true) := hall
      clear hall
      by_cases hcn : c < n
      · obtain ⟨A, off, rfl, hA, hcell⟩ := HS.out.step HB c hcn
        have q0 := hcell 0 (by omega); have q1 := hcell 1 (by omega); have q2 := hcell 2 (by omega); have q3 := hcell 3 (by omega)
        simp only [Nat.add_zero] at q0
        have hcI : (c : Int) < n := by omega
        have SO := fun w => specSegOk_any (x (c * 4)) (x (c * 4 + 1)) (x (c * 4 + 2)) (x (c * 4 + 3)) _ rfl w
        clear hcell
        go_wp2_with fail
        refine (SO _).mono ?_
        rintro e w1 ⟨rfl, hB⟩
        
        replace HB := HB.trans (hB.mono HB.size)
        clear hB q0 q1 q2 q3 SO hA
        by_cases hk : segOk (x (c * 4)) (x (c * 4 + 1)) (x (c * 4 + 2)) (x (c * 4 + 3)) = true
        · rw [hk]
          have HK : Hid (segOk (x (c * 4)) (x (c * 4 + 1)) (x (c * 4 + 2)) (x (c * 4 + 3)) = true) := hk
          clear hk
          go_wp2
          go_roundw
          case rel => exact ⟨c + 1, by omega, by go_num, fun j hj => by
            rcases Nat.lt_or_ge j c with h | h
            · exact HA.out j h
            · obtain rfl : j = c := by omega
              exact HK.out, HB⟩
          case measure => simp [intOf]; omega
        · have HO : Hid (sgI n x = 2) := by show _ = _; unfold sgI; rw [if_neg hn, if_neg (fun h => hk (h c hcn))]
          rw [Bool.eq_false_iff.2 hk]
          clear hk
          go_wp2
          go_ret
          exact ⟨by rw [HO.out]; rfl, HB⟩
      · obtain rfl : c = n := by omega
        have HO : Hid (sgI c x = 0) := by show _ = _; unfold sgI; rw [if_neg hn, if_pos HA.out]
        clear HA HS
        go_wp2
        go_ret
        exact ⟨by rw [HO.out]; rfl, HB⟩
set_option maxRecDepth 100000 in
set_option maxHeartbeats 2000000 in
theorem implSegsFault_any (ao : Option Addr) (n cap : Nat) (x : Nat → Int) (w : World) (hS : SegIn w ao n x) : Calls Try.prog 63 #[.slice ao n cap] w (VP (.int .i64 (sgI n x)) w) := by
  by_cases hn : 40 < n
  · have HO : Hid (sgI n x = 1) := by show _ = _; unfold sgI; rw [if_pos hn]
    go_enter Try.func63, Try.ntmps63
    have hn' : (40 : Int) < n := by omega
    clear hS
    go_wp2
    go_ret
    exact ⟨by rw [HO.out]; rfl, Below.refl _ _⟩
  · go_enter Try.func63, Try.ntmps63
    have hn' : (n : Int) ≤ 40 := by omega
    have HS : Hid (SegIn w ao n x) := hS
    clear hS
    go_wp2_with fail
    go_loopw [10] (fun i wr => ∃ c : Nat, c ≤ n ∧ i = .int .i64 c ∧ (∀ j, j < c → segOk (x (j * 4)) (x (j * 4 + 1)) (x (j * 4 + 2)) (x (j * 4 + 3)) = true) ∧ Below w.heap.size w wr) (fun i _ => n - (intOf i).toNat)
    case atStart => exact ⟨0, by omega, rfl, fun j hj => by omega, Below.refl _ _⟩
    case round =>
      obtain ⟨c, hc, rfl, hall, HB⟩ := hrel
      have HA : Hid (∀ j, j < c → segOk (x (j * 4)) (x (j * 4 + 1)) (x (j * 4 + 2)) (x (j * 4 + 3)) = true) := hall
      clear hall
      by_cases hcn : c < n
      · obtain ⟨A, off, rfl, hA, hcell⟩ := HS.out.step HB c hcn
        have q0 := hcell 0 (by omega); have q1 := hcell 1 (by omega); have q2 := hcell 2 (by omega); have q3 := hcell 3 (by omega)
        simp only [Nat.add_zero] at q0
        have hcI : (c : Int) < n := by omega
        have SO := fun w => implSegOk_any (x (c * 4)) (x (c * 4 + 1)) (x (c * 4 + 2)) (x (c * 4 + 3)) _ rfl w
        clear hcell
        go_wp2_with fail
        refine (SO _).mono ?_
        rintro e w1 ⟨rfl, hB⟩
        
        replace HB := (HB.alloc HB.size _).trans (hB.mono (HB.alloc HB.size _).size)
        clear hB q0 q1 q2 q3 SO hA
        by_cases hk : segOk (x (c * 4)) (x (c * 4 + 1)) (x (c * 4 + 2)) (x (c * 4 + 3)) = true
        · rw [hk]
          have HK : Hid (segOk (x (c * 4)) (x (c * 4 + 1)) (x (c * 4 + 2)) (x (c * 4 + 3)) = true) := hk
          clear hk
          go_wp2
          go_roundw
          case rel => exact ⟨c + 1, by omega, by go_num, fun j hj => by
            rcases Nat.lt_or_ge j c with h | h
            · exact HA.out j h
            · obtain rfl : j = c := by omega
              exact HK.out, HB⟩
          case measure => simp [intOf]; omega
        · have HO : Hid (sgI n x = 2) := by show _ = _; unfold sgI; rw [if_neg hn, if_neg (fun h => hk (h c hcn))]
          rw [Bool.eq_false_iff.2 hk]
          clear hk
          go_wp2
          go_ret
          exact ⟨by rw [HO.out]; rfl, HB⟩
      · obtain rfl : c = n := by omega
        have HO : Hid (sgI c x = 0) := by show _ = _; unfold sgI; rw [if_neg hn, if_pos HA.out]
        clear HA HS
        go_wp2
        go_ret
        exact ⟨by rw [HO.out]; rfl, HB⟩
end Go.Proofs.Ytmjlgmoohpnhfaa

/- A way's spots, and a row of segments asked one by one: the program's walks. -/
namespace Go.Proofs.Ytmjlgmoohpnhfaa
open Go.RowKit
/-- That a way is right. -/
def paB (n : Nat) (p : Ps) : Prop := 1 ≤ n ∧ n ≤ 12 ∧ ∀ i, i < n → spotOk (p i).1 (p i).2 = true
set_option maxRecDepth 100000 in
set_option maxHeartbeats 2000000 in
theorem isPath_any (ao : Option Addr) (n cap : Nat) (p : Ps) (b : Bool) (hb : b = true ↔ paB n p) (w : World) (hS : SpIn w ao n p) : Calls Try.prog 73 #[.slice ao n cap] w (VP (.bool b) w) := by
  have HS : Hid (SpIn w ao n p) := hS
  have HBB : Hid (b = true ↔ paB n p) := hb
  clear hS hb
  by_cases h1 : (n : Int) < 1
  · have hf : b = false := Bool.eq_false_iff.2 fun h => by have := (HBB.out.1 h).1; omega
    subst hf
    go_enter Try.func73, Try.ntmps73
    go_wp2
    go_ret
    exact ⟨rfl, Below.refl _ _⟩
  · by_cases h2 : (12 : Int) < n
    · have hf : b = false := Bool.eq_false_iff.2 fun h => by have := (HBB.out.1 h).2.1; omega
      subst hf
      go_enter Try.func73, Try.ntmps73
      go_wp2
      go_ret
      exact ⟨rfl, Below.refl _ _⟩
    · go_enter Try.func73, Try.ntmps73
      go_wp2_with fail
      go_loopw [15] (fun i wr => ∃ c : Nat, c ≤ n ∧ i = .int .i64 c ∧ (∀ j, j < c → spotOk (p j).1 (p j).2 = true) ∧ Below w.heap.size w wr) (fun i _ => n - (intOf i).toNat)
      case atStart => exact ⟨0, by omega, rfl, fun j hj => by omega, Below.refl _ _⟩
      case round =>
        obtain ⟨c, hc, rfl, hall, HB⟩ := hrel
        have HA : Hid (∀ j, j < c → spotOk (p j).1 (p j).2 = true) := hall
        clear hall
        by_cases hcn : c < n
        · obtain ⟨A, off, rfl, hA, q0, q1⟩ := HS.out.step HB c hcn
          have hcI : (c : Int) < n := by omega
          have SO := fun w => implSpotOk_any (p c).1 (p c).2 _ rfl w
          go_wp2_with fail
          refine (SO _).mono ?_
          rintro e w1 ⟨rfl, hB⟩
          replace HB := (HB.alloc HB.size _).trans (hB.mono (HB.alloc HB.size _).size)
          clear hB q0 q1 SO hA
          by_cases hk : spotOk (p c).1 (p c).2 = true
          · rw [hk]
            have HK : Hid (spotOk (p c).1 (p c).2 = true) := hk
            clear hk
            go_wp2
            go_roundw
            case rel => exact ⟨c + 1, by omega, by go_num, fun j hj => by
              rcases Nat.lt_or_ge j c with h | h
              · exact HA.out j h
              · obtain rfl : j = c := by omega
                exact HK.out, HB⟩
            case measure => simp [intOf]; omega
          · have hf : b = false := Bool.eq_false_iff.2 fun h => hk ((HBB.out.1 h).2.2 c hcn)
            subst hf
            rw [Bool.eq_false_iff.2 hk]
            clear hk
            go_wp2
            go_ret
            exact ⟨rfl, HB⟩
        · obtain rfl : c = n := by omega
          have hf : b = true := HBB.out.2 ⟨by omega, by omega, HA.out⟩
          subst hf
          clear HA HS
          go_wp2
          go_ret
          exact ⟨rfl, HB⟩
/-- What is told of a row that is asked one by one. -/
def IxP (n : Nat) (bf : Nat → Bool) (w : World) (e : Ending) (w' : World) : Prop := ∃ r : Int, e = .returned (.int .i64 r) ∧ ((r = -1 ∧ ∀ c, c < n → bf c = false) ∨ (∃ c : Nat, c < n ∧ r = c ∧ bf c = true)) ∧ Below w.heap.size w w'
set_option maxRecDepth 100000 in
set_option maxHeartbeats 2000000 in
theorem indexF_any (ao : Option Addr) (n cap : Nat) (x : Nat → Int) (gf gt : Nat) (bf : Nat → Bool) (w : World) (hn : n ≤ 40) (hS : SegIn w ao n x)
    (hC : ∀ c, c < n → ∀ wr, Below w.heap.size w wr → Calls Try.prog 75 #[.agg #[.int .i64 (x (c * 4)), .int .i64 (x (c * 4 + 1)), .int .i64 (x (c * 4 + 2)), .int .i64 (x (c * 4 + 3))], .pointer (some ⟨gf, 0, none⟩), .pointer (some ⟨gt, 0, none⟩)] wr (VP (.bool (bf c)) wr)) :
    Calls Try.prog 120 #[.slice ao n cap, .func (.func 75) #[] #[.pointer (some ⟨gf, 0, none⟩), .pointer (some ⟨gt, 0, none⟩)]] w (IxP n bf w) := by
  have HS : Hid (SegIn w ao n x) := hS
  have HC : Hid (∀ c, c < n → ∀ wr, Below w.heap.size w wr → Calls Try.prog 75 #[.agg #[.int .i64 (x (c * 4)), .int .i64 (x (c * 4 + 1)), .int .i64 (x (c * 4 + 2)), .int .i64 (x (c * 4 + 3))], .pointer (some ⟨gf, 0, none⟩), .pointer (some ⟨gt, 0, none⟩)] wr (VP (.bool (bf c)) wr)) := hC
  clear hS hC
  go_enter Try.func120, Try.ntmps120
  go_wp2_with fail
  go_loopw [8] (fun i wr => ∃ c : Nat, c ≤ n ∧ i = .int .i64 c ∧ (∀ j, j < c → bf j = false) ∧ Below w.heap.size w wr) (fun i _ => n - (intOf i).toNat)
  case atStart => exact ⟨0, by omega, rfl, fun j hj => by omega, Below.refl _ _⟩
  case round =>
    obtain ⟨c, hc, rfl, hall, HB⟩ := hrel
    have HA : Hid (∀ j, j < c → bf j = false) := hall
    clear hall
    by_cases hcn : c < n
    · obtain ⟨A, off, rfl, hA, hcell⟩ := HS.out.step HB c hcn
      have q0 := hcell 0 (by omega); have q1 := hcell 1 (by omega); have q2 := hcell 2 (by omega); have q3 := hcell 3 (by omega)
      simp only [Nat.add_zero] at q0
      have hcI : (c : Int) < n := by omega
      have C := HC.out c hcn wr HB
      clear hcell
      go_wp2_with fail
      refine C.mono ?_
      rintro e w1 ⟨rfl, hB⟩
      replace HB := HB.trans (hB.mono HB.size)
      clear hB q0 q1 q2 q3 C hA
      cases hk : bf c
      · have HK : Hid (bf c = false) := hk
        clear hk
        go_wp2
        go_roundw
        case rel => exact ⟨c + 1, by omega, by go_num, fun j hj => by
          rcases Nat.lt_or_ge j c with h | h
          · exact HA.out j h
          · obtain rfl : j = c := by omega
            exact HK.out, HB⟩
        case measure => simp [intOf]; omega
      · have HK : Hid (bf c = true) := hk
        clear hk
        go_wp2
        go_ret
        exact ⟨c, rfl, .inr ⟨c, hcn, rfl, HK.out⟩, HB⟩
    · obtain rfl : c = n := by omega
      clear HS HC
      go_wp2
      go_ret
      exact ⟨-1, rfl, .inl ⟨rfl, HA.out⟩, HB⟩
set_option maxRecDepth 100000 in
set_option maxHeartbeats 2000000 in
theorem containsF_any (ao : Option Addr) (n cap : Nat) (x : Nat → Int) (gf gt : Nat) (bf : Nat → Bool) (r : Bool) (hr : r = true ↔ ∃ c, c < n ∧ bf c = true) (w : World) (hn : n ≤ 40) (hS : SegIn w ao n x)
    (hC : ∀ c, c < n → ∀ wr, Below w.heap.size w wr → Calls Try.prog 75 #[.agg #[.int .i64 (x (c * 4)), .int .i64 (x (c * 4 + 1)), .int .i64 (x (c * 4 + 2)), .int .i64 (x (c * 4 + 3))], .pointer (some ⟨gf, 0, none⟩), .pointer (some ⟨gt, 0, none⟩)] wr (VP (.bool (bf c)) wr)) :
    Calls Try.prog 74 #[.slice ao n cap, .func (.func 75) #[] #[.pointer (some ⟨gf, 0, none⟩), .pointer (some ⟨gt, 0, none⟩)]] w (VP (.bool r) w) := by
  have C := indexF_any ao n cap x gf gt bf w hn hS hC
  have HR : Hid (r = true ↔ ∃ c, c < n ∧ bf c = true) := hr
  clear hC hS hr
  go_enter Try.func74, Try.ntmps74
  go_wp2_with fail
  refine C.mono ?_
  rintro e w1 ⟨i, rfl, hi, hB⟩
  rcases hi with ⟨rfl, h0⟩ | ⟨c, hc, rfl, h1⟩
  · have hf : r = false := Bool.eq_false_iff.2 fun h => by
      obtain ⟨c, hc, h1⟩ := HR.out.1 h
      rw [h0 c hc] at h1
      cases h1
    subst hf
    go_wp2
    go_ret
    exact ⟨rfl, hB⟩
  · have hf : r = true := HR.out.2 ⟨c, hc, h1⟩
    subst hf
    have hcI : (0 : Int) ≤ c := by omega
    go_wp2
    go_ret
    exact ⟨rfl, hB⟩
end Go.Proofs.Ytmjlgmoohpnhfaa

/- Where a segment stands over a point: both sides. -/
namespace Go.Proofs.Ytmjlgmoohpnhfaa
open Go.RowKit
/-- Where a segment stands over a right point. -/
def overJ (a b c d x y z : Int) : Int :=
  if cmpI (x * 1) (a * z) < 0 then 2 else if cmpI (x * 1) (c * z) > 0 then 2
  else if a < c then -turnI a b 1 c d 1 x y z
  else if cmpI (y * 1) (b * z) < 0 then 1 else if cmpI (y * 1) (d * z) > 0 then -1 else 0
theorem cmpI_in (x y : Int) : cmpI x y = -1 ∨ cmpI x y = 0 ∨ cmpI x y = 1 := by unfold cmpI; split <;> (try split) <;> simp
set_option maxRecDepth 100000 in
set_option maxHeartbeats 2000000 in
theorem overAt_det (a b c d x y z : Int) (i1 : -1000000 ≤ a ∧ a ≤ 1000000) (i2 : -1000000 ≤ b ∧ b ≤ 1000000) (i3 : -1000000 ≤ c ∧ c ≤ 1000000) (i4 : -1000000 ≤ d ∧ d ≤ 1000000) (sx : small x = true) (sy : small y = true) (sz : small z = true) (w : World) : Calls Try.prog 122 #[Sg a b c d, PV x y z] w (VP (.int .i64 (overJ a b c d x y z)) w) := by
  have T0 : ArgsB w ((w.alloc (.cells #[.int .i64 a, .int .i64 b, .int .i64 c, .int .i64 d] 103)).alloc (.cells #[.int .u64 (ww3 x), .int .u64 (ww2 x), .int .u64 (ww1 x), .int .u64 (ww0 x), .int .u64 (ww3 y), .int .u64 (ww2 y), .int .u64 (ww1 y), .int .u64 (ww0 y), .int .u64 (ww3 z), .int .u64 (ww2 z), .int .u64 (ww1 z), .int .u64 (ww0 z)] 83)) [[.int .i64 a, .int .i64 b, .int .i64 c, .int .i64 d], [.int .u64 (ww3 x), .int .u64 (ww2 x), .int .u64 (ww1 x), .int .u64 (ww0 x), .int .u64 (ww3 y), .int .u64 (ww2 y), .int .u64 (ww1 y), .int .u64 (ww0 y), .int .u64 (ww3 z), .int .u64 (ww2 z), .int .u64 (ww1 z), .int .u64 (ww0 z)]] := ar2 _ _ _ _ w
  have sa : small a = true := small_int (by omega) (by omega)
  have sb : small b = true := small_int (by omega) (by omega)
  have sc : small c = true := small_int (by omega) (by omega)
  have sd : small d = true := small_int (by omega) (by omega)
  have s1 : small 1 = true := by decide
  have EN := fun w => ends_det a b c d (by omega) (by omega) (by omega) (by omega) (by omega) (by omega) (by omega) (by omega) w
  have C1 := byX_det x y z a b 1 sx sz sa s1
  have C2 := byX_det x y z c d 1 sx sz sc s1
  have C3 := turn_det a b 1 c d 1 x y z sa sb s1 sc sd s1 sx sy sz
  rw [turn_same] at C3
  have C4 := byY_det x y z a b 1 sy sz sb s1
  have C5 := byY_det x y z c d 1 sy sz sd s1
  have o3in := cmpI_in
  have HJ : Hid (overJ a b c d x y z = if cmpI (x * 1) (a * z) < 0 then 2 else if cmpI (x * 1) (c * z) > 0 then 2 else if a < c then -turnI a b 1 c d 1 x y z else if cmpI (y * 1) (b * z) < 0 then 1 else if cmpI (y * 1) (d * z) > 0 then -1 else 0) := rfl
  have H3 : turnI a b 1 c d 1 x y z = -1 ∨ turnI a b 1 c d 1 x y z = 0 ∨ turnI a b 1 c d 1 x y z = 1 := cmpI_in _ _
  generalize overJ a b c d x y z = J at *
  generalize cmpI (x * 1) (a * z) = o1 at *
  generalize cmpI (x * 1) (c * z) = o2 at *
  generalize turnI a b 1 c d 1 x y z = o3 at *
  generalize cmpI (y * 1) (b * z) = o4 at *
  generalize cmpI (y * 1) (d * z) = o5 at *
  clear i1 i2 i3 i4 sx sy sz sa sb sc sd s1 o3in
  go_enter Try.func122, Try.ntmps122
  go_wp2_with fail
  generalize ((w.alloc (.cells #[.int .i64 a, .int .i64 b, .int .i64 c, .int .i64 d] 103)).alloc (.cells #[.int .u64 (ww3 x), .int .u64 (ww2 x), .int .u64 (ww1 x), .int .u64 (ww0 x), .int .u64 (ww3 y), .int .u64 (ww2 y), .int .u64 (ww1 y), .int .u64 (ww0 y), .int .u64 (ww3 z), .int .u64 (ww2 z), .int .u64 (ww1 z), .int .u64 (ww0 z)] 83)) = W at *
  refine (EN _).mono ?_
  rintro e w1 ⟨rfl, hB⟩
  replace T0 := T0.step hB
  clear hB EN
  have X1 := (Blk.new w1 [.int .u64 (ww3 a), .int .u64 (ww2 a), .int .u64 (ww1 a), .int .u64 (ww0 a), .int .u64 (ww3 b), .int .u64 (ww2 b), .int .u64 (ww1 b), .int .u64 (ww0 b), .int .u64 (ww3 1), .int .u64 (ww2 1), .int .u64 (ww1 1), .int .u64 (ww0 1)] 83 rfl).alloc (.cells #[.int .u64 (ww3 c), .int .u64 (ww2 c), .int .u64 (ww1 c), .int .u64 (ww0 c), .int .u64 (ww3 d), .int .u64 (ww2 d), .int .u64 (ww1 d), .int .u64 (ww0 d), .int .u64 (ww3 1), .int .u64 (ww2 1), .int .u64 (ww1 1), .int .u64 (ww0 1)] 83)
  have X2 := Blk.new (w1.alloc (.cells #[.int .u64 (ww3 a), .int .u64 (ww2 a), .int .u64 (ww1 a), .int .u64 (ww0 a), .int .u64 (ww3 b), .int .u64 (ww2 b), .int .u64 (ww1 b), .int .u64 (ww0 b), .int .u64 (ww3 1), .int .u64 (ww2 1), .int .u64 (ww1 1), .int .u64 (ww0 1)] 83)) [.int .u64 (ww3 c), .int .u64 (ww2 c), .int .u64 (ww1 c), .int .u64 (ww0 c), .int .u64 (ww3 d), .int .u64 (ww2 d), .int .u64 (ww1 d), .int .u64 (ww0 d), .int .u64 (ww3 1), .int .u64 (ww2 1), .int .u64 (ww1 1), .int .u64 (ww0 1)] 83 rfl
  have x2e : (w1.alloc (.cells #[.int .u64 (ww3 a), .int .u64 (ww2 a), .int .u64 (ww1 a), .int .u64 (ww0 a), .int .u64 (ww3 b), .int .u64 (ww2 b), .int .u64 (ww1 b), .int .u64 (ww0 b), .int .u64 (ww3 1), .int .u64 (ww2 1), .int .u64 (ww1 1), .int .u64 (ww0 1)] 83)).heap.size = w1.heap.size + 1 := by simp
  rw [x2e] at X2
  clear x2e
  replace T0 := (T0.alloc (.cells #[.int .u64 (ww3 a), .int .u64 (ww2 a), .int .u64 (ww1 a), .int .u64 (ww0 a), .int .u64 (ww3 b), .int .u64 (ww2 b), .int .u64 (ww1 b), .int .u64 (ww0 b), .int .u64 (ww3 1), .int .u64 (ww2 1), .int .u64 (ww1 1), .int .u64 (ww0 1)] 83)).alloc (.cells #[.int .u64 (ww3 c), .int .u64 (ww2 c), .int .u64 (ww1 c), .int .u64 (ww0 c), .int .u64 (ww3 d), .int .u64 (ww2 d), .int .u64 (ww1 d), .int .u64 (ww0 d), .int .u64 (ww3 1), .int .u64 (ww2 1), .int .u64 (ww1 1), .int .u64 (ww0 1)] 83)
  have Y0 : Blk _ (w.heap.size + 1) _ := T0.b 1 rfl; have q0 := Y0.c 0 rfl; have k0 := X1.c 0 rfl; have l0 := X2.c 0 rfl; have q1 := Y0.c 1 rfl; have k1 := X1.c 1 rfl; have l1 := X2.c 1 rfl; have q2 := Y0.c 2 rfl; have k2 := X1.c 2 rfl; have l2 := X2.c 2 rfl; have q3 := Y0.c 3 rfl; have k3 := X1.c 3 rfl; have l3 := X2.c 3 rfl; have q4 := Y0.c 4 rfl; have k4 := X1.c 4 rfl; have l4 := X2.c 4 rfl; have q5 := Y0.c 5 rfl; have k5 := X1.c 5 rfl; have l5 := X2.c 5 rfl; have q6 := Y0.c 6 rfl; have k6 := X1.c 6 rfl; have l6 := X2.c 6 rfl; have q7 := Y0.c 7 rfl; have k7 := X1.c 7 rfl; have l7 := X2.c 7 rfl; have q8 := Y0.c 8 rfl; have k8 := X1.c 8 rfl; have l8 := X2.c 8 rfl; have q9 := Y0.c 9 rfl; have k9 := X1.c 9 rfl; have l9 := X2.c 9 rfl; have q10 := Y0.c 10 rfl; have k10 := X1.c 10 rfl; have l10 := X2.c 10 rfl; have q11 := Y0.c 11 rfl; have k11 := X1.c 11 rfl; have l11 := X2.c 11 rfl; have ql := Y0.lt; clear Y0
  go_wp2_with fail
  generalize ((w1.alloc (.cells #[.int .u64 (ww3 a), .int .u64 (ww2 a), .int .u64 (ww1 a), .int .u64 (ww0 a), .int .u64 (ww3 b), .int .u64 (ww2 b), .int .u64 (ww1 b), .int .u64 (ww0 b), .int .u64 (ww3 1), .int .u64 (ww2 1), .int .u64 (ww1 1), .int .u64 (ww0 1)] 83)).alloc (.cells #[.int .u64 (ww3 c), .int .u64 (ww2 c), .int .u64 (ww1 c), .int .u64 (ww0 c), .int .u64 (ww3 d), .int .u64 (ww2 d), .int .u64 (ww1 d), .int .u64 (ww0 d), .int .u64 (ww3 1), .int .u64 (ww2 1), .int .u64 (ww1 1), .int .u64 (ww0 1)] 83)) = W1 at *
  generalize w1.heap.size = g1 at *
  refine (C1 _).mono ?_
  rintro e w2 ⟨rfl, hB⟩
  replace T0 := T0.step hB; replace X1 := X1.step hB; replace X2 := X2.step hB
  clear hB C1 q0 k0 l0 q1 k1 l1 q2 k2 l2 q3 k3 l3 q4 k4 l4 q5 k5 l5 q6 k6 l6 q7 k7 l7 q8 k8 l8 q9 k9 l9 q10 k10 l10 q11 k11 l11 ql
  by_cases h1 : o1 < 0
  · have HO : Hid (J = 2) := by show _ = _; rw [HJ.out, if_pos (show o1 < 0 by omega)]
    have HB := T0.below
    clear T0 X1 X2 
    go_wp2
    go_ret
    exact ⟨by rw [HO.out]; rfl, HB⟩
  · have K1 : Hid (¬ o1 < 0) := h1
    have Y0 : Blk _ (w.heap.size + 1) _ := T0.b 1 rfl; have q0 := Y0.c 0 rfl; have k0 := X1.c 0 rfl; have l0 := X2.c 0 rfl; have q1 := Y0.c 1 rfl; have k1 := X1.c 1 rfl; have l1 := X2.c 1 rfl; have q2 := Y0.c 2 rfl; have k2 := X1.c 2 rfl; have l2 := X2.c 2 rfl; have q3 := Y0.c 3 rfl; have k3 := X1.c 3 rfl; have l3 := X2.c 3 rfl; have q4 := Y0.c 4 rfl; have k4 := X1.c 4 rfl; have l4 := X2.c 4 rfl; have q5 := Y0.c 5 rfl; have k5 := X1.c 5 rfl; have l5 := X2.c 5 rfl; have q6 := Y0.c 6 rfl; have k6 := X1.c 6 rfl; have l6 := X2.c 6 rfl; have q7 := Y0.c 7 rfl; have k7 := X1.c 7 rfl; have l7 := X2.c 7 rfl; have q8 := Y0.c 8 rfl; have k8 := X1.c 8 rfl; have l8 := X2.c 8 rfl; have q9 := Y0.c 9 rfl; have k9 := X1.c 9 rfl; have l9 := X2.c 9 rfl; have q10 := Y0.c 10 rfl; have k10 := X1.c 10 rfl; have l10 := X2.c 10 rfl; have q11 := Y0.c 11 rfl; have k11 := X1.c 11 rfl; have l11 := X2.c 11 rfl; have ql := Y0.lt; clear Y0
    go_wp2_with fail
    refine (C2 _).mono ?_
    rintro e w3 ⟨rfl, hB⟩
    replace T0 := T0.step hB; replace X1 := X1.step hB; replace X2 := X2.step hB
    clear hB q0 k0 l0 q1 k1 l1 q2 k2 l2 q3 k3 l3 q4 k4 l4 q5 k5 l5 q6 k6 l6 q7 k7 l7 q8 k8 l8 q9 k9 l9 q10 k10 l10 q11 k11 l11 ql
    by_cases h2 : o2 > 0
    · have HO : Hid (J = 2) := by show _ = _; rw [HJ.out, if_neg (show ¬ o1 < 0 by have := K1.out; omega), if_pos (show o2 > 0 by omega)]
      have HB := T0.below
      clear T0 X1 X2 
      go_wp2
      go_ret
      exact ⟨by rw [HO.out]; rfl, HB⟩
    · have K2 : Hid (¬ o2 > 0) := h2
      have Y1 : Blk _ w.heap.size _ := T0.b 0 rfl; obtain ⟨g0, g1, g2, g3⟩ := Y1.cs4; clear Y1
      by_cases h3 : a < c
      · have HO : Hid (J = -o3) := by show _ = _; rw [HJ.out, if_neg (show ¬ o1 < 0 by have := K1.out; omega), if_neg (show ¬ o2 > 0 by have := K2.out; omega), if_pos (show a < c by omega)]
        have Y0 : Blk _ (w.heap.size + 1) _ := T0.b 1 rfl; have q0 := Y0.c 0 rfl; have k0 := X1.c 0 rfl; have l0 := X2.c 0 rfl; have q1 := Y0.c 1 rfl; have k1 := X1.c 1 rfl; have l1 := X2.c 1 rfl; have q2 := Y0.c 2 rfl; have k2 := X1.c 2 rfl; have l2 := X2.c 2 rfl; have q3 := Y0.c 3 rfl; have k3 := X1.c 3 rfl; have l3 := X2.c 3 rfl; have q4 := Y0.c 4 rfl; have k4 := X1.c 4 rfl; have l4 := X2.c 4 rfl; have q5 := Y0.c 5 rfl; have k5 := X1.c 5 rfl; have l5 := X2.c 5 rfl; have q6 := Y0.c 6 rfl; have k6 := X1.c 6 rfl; have l6 := X2.c 6 rfl; have q7 := Y0.c 7 rfl; have k7 := X1.c 7 rfl; have l7 := X2.c 7 rfl; have q8 := Y0.c 8 rfl; have k8 := X1.c 8 rfl; have l8 := X2.c 8 rfl; have q9 := Y0.c 9 rfl; have k9 := X1.c 9 rfl; have l9 := X2.c 9 rfl; have q10 := Y0.c 10 rfl; have k10 := X1.c 10 rfl; have l10 := X2.c 10 rfl; have q11 := Y0.c 11 rfl; have k11 := X1.c 11 rfl; have l11 := X2.c 11 rfl; have ql := Y0.lt; clear Y0
        go_wp2_with fail
        refine (C3 _).mono ?_
        rintro e w4 ⟨rfl, hB⟩
        replace T0 := T0.step hB; replace X1 := X1.step hB; replace X2 := X2.step hB
        clear hB q0 k0 l0 q1 k1 l1 q2 k2 l2 q3 k3 l3 q4 k4 l4 q5 k5 l5 q6 k6 l6 q7 k7 l7 q8 k8 l8 q9 k9 l9 q10 k10 l10 q11 k11 l11 ql
        have n1 : -1 ≤ o3 := by omega
        have n2 : o3 ≤ 1 := by omega
        have HB := T0.below
        clear T0 X1 X2 g0 g1 g2 g3
        go_wp2
        go_ret
        exact ⟨by rw [HO.out]; rfl, HB⟩
      · have K3 : Hid (¬ a < c) := h3
        have Y0 : Blk _ (w.heap.size + 1) _ := T0.b 1 rfl; have q0 := Y0.c 0 rfl; have k0 := X1.c 0 rfl; have l0 := X2.c 0 rfl; have q1 := Y0.c 1 rfl; have k1 := X1.c 1 rfl; have l1 := X2.c 1 rfl; have q2 := Y0.c 2 rfl; have k2 := X1.c 2 rfl; have l2 := X2.c 2 rfl; have q3 := Y0.c 3 rfl; have k3 := X1.c 3 rfl; have l3 := X2.c 3 rfl; have q4 := Y0.c 4 rfl; have k4 := X1.c 4 rfl; have l4 := X2.c 4 rfl; have q5 := Y0.c 5 rfl; have k5 := X1.c 5 rfl; have l5 := X2.c 5 rfl; have q6 := Y0.c 6 rfl; have k6 := X1.c 6 rfl; have l6 := X2.c 6 rfl; have q7 := Y0.c 7 rfl; have k7 := X1.c 7 rfl; have l7 := X2.c 7 rfl; have q8 := Y0.c 8 rfl; have k8 := X1.c 8 rfl; have l8 := X2.c 8 rfl; have q9 := Y0.c 9 rfl; have k9 := X1.c 9 rfl; have l9 := X2.c 9 rfl; have q10 := Y0.c 10 rfl; have k10 := X1.c 10 rfl; have l10 := X2.c 10 rfl; have q11 := Y0.c 11 rfl; have k11 := X1.c 11 rfl; have l11 := X2.c 11 rfl; have ql := Y0.lt; clear Y0
        go_wp2_with fail
        refine (C4 _).mono ?_
        rintro e w4 ⟨rfl, hB⟩
        replace T0 := T0.step hB; replace X1 := X1.step hB; replace X2 := X2.step hB
        clear hB q0 k0 l0 q1 k1 l1 q2 k2 l2 q3 k3 l3 q4 k4 l4 q5 k5 l5 q6 k6 l6 q7 k7 l7 q8 k8 l8 q9 k9 l9 q10 k10 l10 q11 k11 l11 ql
        by_cases h4 : o4 < 0
        · have HO : Hid (J = 1) := by show _ = _; rw [HJ.out, if_neg (show ¬ o1 < 0 by have := K1.out; omega), if_neg (show ¬ o2 > 0 by have := K2.out; omega), if_neg (show ¬ a < c by have := K3.out; omega), if_pos (show o4 < 0 by omega)]
          have HB := T0.below
          clear T0 X1 X2 
          go_wp2
          go_ret
          exact ⟨by rw [HO.out]; rfl, HB⟩
        · have K4 : Hid (¬ o4 < 0) := h4
          have Y0 : Blk _ (w.heap.size + 1) _ := T0.b 1 rfl; have q0 := Y0.c 0 rfl; have k0 := X1.c 0 rfl; have l0 := X2.c 0 rfl; have q1 := Y0.c 1 rfl; have k1 := X1.c 1 rfl; have l1 := X2.c 1 rfl; have q2 := Y0.c 2 rfl; have k2 := X1.c 2 rfl; have l2 := X2.c 2 rfl; have q3 := Y0.c 3 rfl; have k3 := X1.c 3 rfl; have l3 := X2.c 3 rfl; have q4 := Y0.c 4 rfl; have k4 := X1.c 4 rfl; have l4 := X2.c 4 rfl; have q5 := Y0.c 5 rfl; have k5 := X1.c 5 rfl; have l5 := X2.c 5 rfl; have q6 := Y0.c 6 rfl; have k6 := X1.c 6 rfl; have l6 := X2.c 6 rfl; have q7 := Y0.c 7 rfl; have k7 := X1.c 7 rfl; have l7 := X2.c 7 rfl; have q8 := Y0.c 8 rfl; have k8 := X1.c 8 rfl; have l8 := X2.c 8 rfl; have q9 := Y0.c 9 rfl; have k9 := X1.c 9 rfl; have l9 := X2.c 9 rfl; have q10 := Y0.c 10 rfl; have k10 := X1.c 10 rfl; have l10 := X2.c 10 rfl; have q11 := Y0.c 11 rfl; have k11 := X1.c 11 rfl; have l11 := X2.c 11 rfl; have ql := Y0.lt; clear Y0
          go_wp2_with fail
          refine (C5 _).mono ?_
          rintro e w5 ⟨rfl, hB⟩
          replace T0 := T0.step hB; replace X1 := X1.step hB; replace X2 := X2.step hB
          clear hB q0 k0 l0 q1 k1 l1 q2 k2 l2 q3 k3 l3 q4 k4 l4 q5 k5 l5 q6 k6 l6 q7 k7 l7 q8 k8 l8 q9 k9 l9 q10 k10 l10 q11 k11 l11 ql
          by_cases h5 : o5 > 0
          · have HO : Hid (J = -1) := by show _ = _; rw [HJ.out, if_neg (show ¬ o1 < 0 by have := K1.out; omega), if_neg (show ¬ o2 > 0 by have := K2.out; omega), if_neg (show ¬ a < c by have := K3.out; omega), if_neg (show ¬ o4 < 0 by have := K4.out; omega), if_pos (show o5 > 0 by omega)]
            have HB := T0.below
            clear T0 X1 X2 
            go_wp2
            go_ret
            exact ⟨by rw [HO.out]; rfl, HB⟩
          · have K5 : Hid (¬ o5 > 0) := h5
            have HO : Hid (J = 0) := by show _ = _; rw [HJ.out, if_neg (show ¬ o1 < 0 by have := K1.out; omega), if_neg (show ¬ o2 > 0 by have := K2.out; omega), if_neg (show ¬ a < c by have := K3.out; omega), if_neg (show ¬ o4 < 0 by have := K4.out; omega), if_neg (show ¬ o5 > 0 by have := K5.out; omega)]
            have HB := T0.below
            clear T0 X1 X2 
            go_wp2
            go_ret
            exact ⟨by rw [HO.out]; rfl, HB⟩
end Go.Proofs.Ytmjlgmoohpnhfaa
