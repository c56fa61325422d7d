/- Part 16 of the walks that the proof leans on. -/
import Derived.Test.YtpnnpkchogooaaaGreatPart15
import Derived.Test.YtpnnpkchogooaaaGreatPart9
import Derived.Deep.OwnRows
import Derived.Test.YtpnnpkchogooaaaGreatPart14
import Derived.Test.YtpnnpkchogooaaaGreatPart4
import Derived.Test.YtpnnpkchogooaaaGreatPart10
import Derived.Test.YtpnnpkchogooaaaGreatPart11
import Derived.Test.YtpnnpkchogooaaaGreatPart7
set_option maxRecDepth 100000
set_option maxHeartbeats 8000000
namespace Go.Proofs.YtpnnpkchogooaaaGreat
open Go.RowKit
theorem Blk.set6 {W : World} {vs : List Value} {v0 v1 v2 v3 v4 v5 : Value} {g g' : Nat} (G : Blk W g' vs) (hg : g' ≠ g) : Blk ((((((W.setCell ⟨g, 0, none⟩ (v0)).setCell ⟨g, 1, none⟩ (v1)).setCell ⟨g, 2, none⟩ (v2)).setCell ⟨g, 3, none⟩ (v3)).setCell ⟨g, 4, none⟩ (v4)).setCell ⟨g, 5, none⟩ (v5)) g' vs := (((((G.setO (by exact hg) _).setO (by exact hg) _).setO (by exact hg) _).setO (by exact hg) _).setO (by exact hg) _).setO (by exact hg) _
def L3A (w : World) (v : Value) (x y z : Int) : Prop :=
 ∃ (s1 : Bool) (o1 : Option Addr) (n1 c1 : Nat) (d1 : List Int) (s2 : Bool) (o2 : Option Addr) (n2 c2 : Nat) (d2 : List Int) (s3 : Bool) (o3 : Option Addr) (n3 c3 : Nat) (d3 : List Int), v = .agg #[.bool s1, .slice o1 n1 c1, .bool s2, .slice o2 n2 c2, .bool s3, .slice o3 n3 c3] ∧ IsNum w s1 o1 n1 c1 d1 x 8 ∧ IsNum w s2 o2 n2 c2 d2 y 8 ∧ IsNum w s3 o3 n3 c3 d3 z 8
def MtP (a b c d p q u v : Int) (w : World) (e : Ending) (w' : World) : Prop := Below w.heap.size w w' ∧
 ((meetW a b c d p q u v = .tuple #[.int .i64 0, .agg #[.int .u64 0, .int .u64 0, .int .u64 0, .int .u64 0, .int .u64 0, .int .u64 0, .int .u64 0, .int .u64 0, .int .u64 0, .int .u64 0, .int .u64 0, .int .u64 0], .agg #[.int .u64 0, .int .u64 0, .int .u64 0, .int .u64 0, .int .u64 0, .int .u64 0, .int .u64 0, .int .u64 0, .int .u64 0, .int .u64 0, .int .u64 0, .int .u64 0]] ∧ e = .returned (.tuple #[.int .i64 0, .agg #[.bool false, .slice none 0 0, .bool false, .slice none 0 0, .bool false, .slice none 0 0], .agg #[.bool false, .slice none 0 0, .bool false, .slice none 0 0, .bool false, .slice none 0 0]])) ∨
  (∃ (x y z : Int) (r : Value), meetW a b c d p q u v = .tuple #[.int .i64 1, .agg #[.int .u64 (ww3 x), .int .u64 (ww2 x), .int .u64 (ww1 x), .int .u64 (ww0 x), .int .u64 (ww3 y), .int .u64 (ww2 y), .int .u64 (ww1 y), .int .u64 (ww0 y), .int .u64 (ww3 z), .int .u64 (ww2 z), .int .u64 (ww1 z), .int .u64 (ww0 z)], .agg #[.int .u64 0, .int .u64 0, .int .u64 0, .int .u64 0, .int .u64 0, .int .u64 0, .int .u64 0, .int .u64 0, .int .u64 0, .int .u64 0, .int .u64 0, .int .u64 0]] ∧ small x = true ∧ small y = true ∧ small z = true ∧ e = .returned (.tuple #[.int .i64 1, r, .agg #[.bool false, .slice none 0 0, .bool false, .slice none 0 0, .bool false, .slice none 0 0]]) ∧ L3A w' r x y z) ∨
  (∃ (x y x' y' : Int) (r r' : Value), meetW a b c d p q u v = .tuple #[.int .i64 2, .agg #[.int .u64 (ww3 x), .int .u64 (ww2 x), .int .u64 (ww1 x), .int .u64 (ww0 x), .int .u64 (ww3 y), .int .u64 (ww2 y), .int .u64 (ww1 y), .int .u64 (ww0 y), .int .u64 (ww3 1), .int .u64 (ww2 1), .int .u64 (ww1 1), .int .u64 (ww0 1)], .agg #[.int .u64 (ww3 x'), .int .u64 (ww2 x'), .int .u64 (ww1 x'), .int .u64 (ww0 x'), .int .u64 (ww3 y'), .int .u64 (ww2 y'), .int .u64 (ww1 y'), .int .u64 (ww0 y'), .int .u64 (ww3 1), .int .u64 (ww2 1), .int .u64 (ww1 1), .int .u64 (ww0 1)]] ∧ small x = true ∧ small y = true ∧ small x' = true ∧ small y' = true ∧ e = .returned (.tuple #[.int .i64 2, r, r']) ∧ L3A w' r x y 1 ∧ L3A w' r' x' y' 1))
theorem turn_diff (a b c d p q u v : Int) : turnZ a b c d u v - turnZ a b c d p q = ((b - d) * (u - p) - (q - v) * (c - a)) := by unfold turnZ; grind
theorem sgZ_z {t : Int} : sgZ t = 0 ↔ t = 0 := by unfold sgZ; repeat' split <;> omega
theorem sgZ_mul (t t' : Int) : (0 < sgZ t * sgZ t' ↔ (0 < t ∧ 0 < t') ∨ (t < 0 ∧ t' < 0)) ∧ -1 ≤ sgZ t * sgZ t' ∧ sgZ t * sgZ t' ≤ 1 := by
 have e : ∀ t, (t < 0 ∧ sgZ t = -1) ∨ (t = 0 ∧ sgZ t = 0) ∨ (0 < t ∧ sgZ t = 1) := by
   intro t
   unfold sgZ
   repeat' split
   all_goals omega
 rcases e t with ⟨h, e1⟩ | ⟨h, e1⟩ | ⟨h, e1⟩ <;> rcases e t' with ⟨h', e2⟩ | ⟨h', e2⟩ | ⟨h', e2⟩ <;> rw [e1, e2] <;> omega
theorem pt2_no {t t' : Int} (h : 0 < sgZ t * sgZ t') : pt2 t t' = false := by
 have := (sgZ_mul t t').1.1 h
 unfold pt2
 rcases this with ⟨h1, h2⟩ | ⟨h1, h2⟩
 · rw [decide_eq_false (show ¬ t ≤ 0 by omega), decide_eq_false (show ¬ t' ≤ 0 by omega)]; simp
 · rw [decide_eq_false (show ¬ 0 ≤ t by omega), decide_eq_false (show ¬ 0 ≤ t' by omega)]; simp
theorem pt2_yes {t t' : Int} (h : ¬ 0 < sgZ t * sgZ t') : pt2 t t' = true := by
 have h0 : ¬ ((0 < t ∧ 0 < t') ∨ (t < 0 ∧ t' < 0)) := fun k => h ((sgZ_mul t t').1.2 k)
 unfold pt2
 simp only [Bool.and_eq_true, Bool.or_eq_true, decide_eq_true_eq]
 omega
theorem meet_w0 {a b c d p q u v : Int} (h : ¬ (turnZ a b c d p q = 0 ∧ turnZ a b c d u v = 0)) (g : ¬ 0 < sgZ (turnZ a b c d p q) * sgZ (turnZ a b c d u v)) : ((b - d) * (u - p) - (q - v) * (c - a)) ≠ 0 := by
 intro h0
 have hd := turn_diff a b c d p q u v
 rw [h0] at hd
 have hh : turnZ a b c d u v = turnZ a b c d p q := by omega
 rw [hh] at h g
 apply g
 apply (sgZ_mul _ _).1.2
 omega
theorem meet_none1 {a b c d p q u v : Int} (h : ¬ (turnZ a b c d p q = 0 ∧ turnZ a b c d u v = 0)) (g : 0 < sgZ (turnZ a b c d p q) * sgZ (turnZ a b c d u v)) : meetW a b c d p q u v = .tuple #[.int .i64 0, .agg #[.int .u64 0, .int .u64 0, .int .u64 0, .int .u64 0, .int .u64 0, .int .u64 0, .int .u64 0, .int .u64 0, .int .u64 0, .int .u64 0, .int .u64 0, .int .u64 0], .agg #[.int .u64 0, .int .u64 0, .int .u64 0, .int .u64 0, .int .u64 0, .int .u64 0, .int .u64 0, .int .u64 0, .int .u64 0, .int .u64 0, .int .u64 0, .int .u64 0]] := by
 unfold meetW
 by_cases h0 : ((b - d) * (u - p) - (q - v) * (c - a)) = 0
 · rw [if_pos h0]
   have hd := turn_diff a b c d p q u v
   rw [h0] at hd
   unfold alongV
   rw [if_pos (Or.inl (by omega))]
 · rw [if_neg h0, pt2_no g]
   rfl
theorem meet_none2 {a b c d p q u v : Int} (h : ¬ (turnZ a b c d p q = 0 ∧ turnZ a b c d u v = 0)) (g : ¬ 0 < sgZ (turnZ a b c d p q) * sgZ (turnZ a b c d u v)) (g' : 0 < sgZ (turnZ p q u v a b) * sgZ (turnZ p q u v c d)) : meetW a b c d p q u v = .tuple #[.int .i64 0, .agg #[.int .u64 0, .int .u64 0, .int .u64 0, .int .u64 0, .int .u64 0, .int .u64 0, .int .u64 0, .int .u64 0, .int .u64 0, .int .u64 0, .int .u64 0, .int .u64 0], .agg #[.int .u64 0, .int .u64 0, .int .u64 0, .int .u64 0, .int .u64 0, .int .u64 0, .int .u64 0, .int .u64 0, .int .u64 0, .int .u64 0, .int .u64 0, .int .u64 0]] := by
 unfold meetW
 rw [if_neg (meet_w0 h g), pt2_no g', Bool.and_false]
 rfl
theorem meet_pt {a b c d p q u v : Int} (h : ¬ (turnZ a b c d p q = 0 ∧ turnZ a b c d u v = 0)) (g : ¬ 0 < sgZ (turnZ a b c d p q) * sgZ (turnZ a b c d u v)) (g' : ¬ 0 < sgZ (turnZ p q u v a b) * sgZ (turnZ p q u v c d)) : meetW a b c d p q u v = .tuple #[.int .i64 1, .agg #[.int .u64 (ww3 (shareZ ((c - a) * (p * v - q * u) - (u - p) * (a * d - b * c)) (Int.gcd (Int.gcd ((c - a) * (p * v - q * u) - (u - p) * (a * d - b * c)) ((a * d - b * c) * (q - v) - (p * v - q * u) * (b - d)) : Int) ((b - d) * (u - p) - (q - v) * (c - a)) : Int) (decide (((b - d) * (u - p) - (q - v) * (c - a)) < 0)))), .int .u64 (ww2 (shareZ ((c - a) * (p * v - q * u) - (u - p) * (a * d - b * c)) (Int.gcd (Int.gcd ((c - a) * (p * v - q * u) - (u - p) * (a * d - b * c)) ((a * d - b * c) * (q - v) - (p * v - q * u) * (b - d)) : Int) ((b - d) * (u - p) - (q - v) * (c - a)) : Int) (decide (((b - d) * (u - p) - (q - v) * (c - a)) < 0)))), .int .u64 (ww1 (shareZ ((c - a) * (p * v - q * u) - (u - p) * (a * d - b * c)) (Int.gcd (Int.gcd ((c - a) * (p * v - q * u) - (u - p) * (a * d - b * c)) ((a * d - b * c) * (q - v) - (p * v - q * u) * (b - d)) : Int) ((b - d) * (u - p) - (q - v) * (c - a)) : Int) (decide (((b - d) * (u - p) - (q - v) * (c - a)) < 0)))), .int .u64 (ww0 (shareZ ((c - a) * (p * v - q * u) - (u - p) * (a * d - b * c)) (Int.gcd (Int.gcd ((c - a) * (p * v - q * u) - (u - p) * (a * d - b * c)) ((a * d - b * c) * (q - v) - (p * v - q * u) * (b - d)) : Int) ((b - d) * (u - p) - (q - v) * (c - a)) : Int) (decide (((b - d) * (u - p) - (q - v) * (c - a)) < 0)))), .int .u64 (ww3 (shareZ ((a * d - b * c) * (q - v) - (p * v - q * u) * (b - d)) (Int.gcd (Int.gcd ((c - a) * (p * v - q * u) - (u - p) * (a * d - b * c)) ((a * d - b * c) * (q - v) - (p * v - q * u) * (b - d)) : Int) ((b - d) * (u - p) - (q - v) * (c - a)) : Int) (decide (((b - d) * (u - p) - (q - v) * (c - a)) < 0)))), .int .u64 (ww2 (shareZ ((a * d - b * c) * (q - v) - (p * v - q * u) * (b - d)) (Int.gcd (Int.gcd ((c - a) * (p * v - q * u) - (u - p) * (a * d - b * c)) ((a * d - b * c) * (q - v) - (p * v - q * u) * (b - d)) : Int) ((b - d) * (u - p) - (q - v) * (c - a)) : Int) (decide (((b - d) * (u - p) - (q - v) * (c - a)) < 0)))), .int .u64 (ww1 (shareZ ((a * d - b * c) * (q - v) - (p * v - q * u) * (b - d)) (Int.gcd (Int.gcd ((c - a) * (p * v - q * u) - (u - p) * (a * d - b * c)) ((a * d - b * c) * (q - v) - (p * v - q * u) * (b - d)) : Int) ((b - d) * (u - p) - (q - v) * (c - a)) : Int) (decide (((b - d) * (u - p) - (q - v) * (c - a)) < 0)))), .int .u64 (ww0 (shareZ ((a * d - b * c) * (q - v) - (p * v - q * u) * (b - d)) (Int.gcd (Int.gcd ((c - a) * (p * v - q * u) - (u - p) * (a * d - b * c)) ((a * d - b * c) * (q - v) - (p * v - q * u) * (b - d)) : Int) ((b - d) * (u - p) - (q - v) * (c - a)) : Int) (decide (((b - d) * (u - p) - (q - v) * (c - a)) < 0)))), .int .u64 (ww3 (shareZ ((b - d) * (u - p) - (q - v) * (c - a)) (Int.gcd (Int.gcd ((c - a) * (p * v - q * u) - (u - p) * (a * d - b * c)) ((a * d - b * c) * (q - v) - (p * v - q * u) * (b - d)) : Int) ((b - d) * (u - p) - (q - v) * (c - a)) : Int) (decide (((b - d) * (u - p) - (q - v) * (c - a)) < 0)))), .int .u64 (ww2 (shareZ ((b - d) * (u - p) - (q - v) * (c - a)) (Int.gcd (Int.gcd ((c - a) * (p * v - q * u) - (u - p) * (a * d - b * c)) ((a * d - b * c) * (q - v) - (p * v - q * u) * (b - d)) : Int) ((b - d) * (u - p) - (q - v) * (c - a)) : Int) (decide (((b - d) * (u - p) - (q - v) * (c - a)) < 0)))), .int .u64 (ww1 (shareZ ((b - d) * (u - p) - (q - v) * (c - a)) (Int.gcd (Int.gcd ((c - a) * (p * v - q * u) - (u - p) * (a * d - b * c)) ((a * d - b * c) * (q - v) - (p * v - q * u) * (b - d)) : Int) ((b - d) * (u - p) - (q - v) * (c - a)) : Int) (decide (((b - d) * (u - p) - (q - v) * (c - a)) < 0)))), .int .u64 (ww0 (shareZ ((b - d) * (u - p) - (q - v) * (c - a)) (Int.gcd (Int.gcd ((c - a) * (p * v - q * u) - (u - p) * (a * d - b * c)) ((a * d - b * c) * (q - v) - (p * v - q * u) * (b - d)) : Int) ((b - d) * (u - p) - (q - v) * (c - a)) : Int) (decide (((b - d) * (u - p) - (q - v) * (c - a)) < 0))))], .agg #[.int .u64 0, .int .u64 0, .int .u64 0, .int .u64 0, .int .u64 0, .int .u64 0, .int .u64 0, .int .u64 0, .int .u64 0, .int .u64 0, .int .u64 0, .int .u64 0]] := by
 unfold meetW
 rw [if_neg (meet_w0 h g), pt2_yes g, pt2_yes g', if_pos (by rfl)]
theorem meet_along {a b c d p q u v : Int} (h : turnZ a b c d p q = 0) (h' : turnZ a b c d u v = 0) : meetW a b c d p q u v = alongV a b c d p q u v := by
 have hd := turn_diff a b c d p q u v
 unfold meetW
 rw [if_pos (by omega)]
theorem bnd_x (a b c d p q u v : Int) (ha : In1 a) (hb : In1 b) (hc : In1 c) (hd : In1 d) (hp : In1 p) (hq : In1 q) (hu : In1 u) (hv : In1 v) : -9000000000000000000 ≤ ((c - a) * (p * v - q * u) - (u - p) * (a * d - b * c)) ∧ ((c - a) * (p * v - q * u) - (u - p) * (a * d - b * c)) ≤ 9000000000000000000 := by
 obtain ⟨x1, x2⟩ := mul_in (p := a) (q := d) (M := 1000000) (N := 1000000) ha.1 ha.2 hd.1 hd.2
 obtain ⟨x3, x4⟩ := mul_in (p := b) (q := c) (M := 1000000) (N := 1000000) hb.1 hb.2 hc.1 hc.2
 obtain ⟨y1, y2⟩ := mul_in (p := p) (q := v) (M := 1000000) (N := 1000000) hp.1 hp.2 hv.1 hv.2
 obtain ⟨y3, y4⟩ := mul_in (p := q) (q := u) (M := 1000000) (N := 1000000) hq.1 hq.2 hu.1 hu.2
 have e1 := mul_in (p := c - a) (q := p * v - q * u) (M := 2000000) (N := 2000000000000) (by omega) (by omega) (by omega) (by omega)
 have e2 := mul_in (p := u - p) (q := a * d - b * c) (M := 2000000) (N := 2000000000000) (by omega) (by omega) (by omega) (by omega)
 omega
theorem bnd_y (a b c d p q u v : Int) (ha : In1 a) (hb : In1 b) (hc : In1 c) (hd : In1 d) (hp : In1 p) (hq : In1 q) (hu : In1 u) (hv : In1 v) : -9000000000000000000 ≤ ((a * d - b * c) * (q - v) - (p * v - q * u) * (b - d)) ∧ ((a * d - b * c) * (q - v) - (p * v - q * u) * (b - d)) ≤ 9000000000000000000 := by
 obtain ⟨x1, x2⟩ := mul_in (p := a) (q := d) (M := 1000000) (N := 1000000) ha.1 ha.2 hd.1 hd.2
 obtain ⟨x3, x4⟩ := mul_in (p := b) (q := c) (M := 1000000) (N := 1000000) hb.1 hb.2 hc.1 hc.2
 obtain ⟨y1, y2⟩ := mul_in (p := p) (q := v) (M := 1000000) (N := 1000000) hp.1 hp.2 hv.1 hv.2
 obtain ⟨y3, y4⟩ := mul_in (p := q) (q := u) (M := 1000000) (N := 1000000) hq.1 hq.2 hu.1 hu.2
 have e1 := mul_in (p := a * d - b * c) (q := q - v) (M := 2000000000000) (N := 2000000) (by omega) (by omega) (by omega) (by omega)
 have e2 := mul_in (p := p * v - q * u) (q := b - d) (M := 2000000000000) (N := 2000000) (by omega) (by omega) (by omega) (by omega)
 omega
theorem bnd_w (a b c d p q u v : Int) (ha : In1 a) (hb : In1 b) (hc : In1 c) (hd : In1 d) (hp : In1 p) (hq : In1 q) (hu : In1 u) (hv : In1 v) : -8000000000000 ≤ ((b - d) * (u - p) - (q - v) * (c - a)) ∧ ((b - d) * (u - p) - (q - v) * (c - a)) ≤ 8000000000000 := by
 obtain ⟨x1, x2⟩ := mul_in (p := a) (q := d) (M := 1000000) (N := 1000000) ha.1 ha.2 hd.1 hd.2
 obtain ⟨x3, x4⟩ := mul_in (p := b) (q := c) (M := 1000000) (N := 1000000) hb.1 hb.2 hc.1 hc.2
 obtain ⟨y1, y2⟩ := mul_in (p := p) (q := v) (M := 1000000) (N := 1000000) hp.1 hp.2 hv.1 hv.2
 obtain ⟨y3, y4⟩ := mul_in (p := q) (q := u) (M := 1000000) (N := 1000000) hq.1 hq.2 hu.1 hu.2
 have e1 := mul_in (p := b - d) (q := u - p) (M := 2000000) (N := 2000000) (by omega) (by omega) (by omega) (by omega)
 have e2 := mul_in (p := q - v) (q := c - a) (M := 2000000) (N := 2000000) (by omega) (by omega) (by omega) (by omega)
 omega
theorem m4_keep0 {a b c d p q u v : Int} {w W : World} {gd gn : Nat} {ds ns : Bool} {do1 no : Option Addr} {dn dc nn nc : Nat} (T0 : ArgsB w W [[.int .i64 a, .int .i64 b, .int .i64 c, .int .i64 d], [.int .i64 p, .int .i64 q, .int .i64 u, .int .i64 v], [.bool false, .slice none 0 0, .bool false, .slice none 0 0, .bool false, .slice none 0 0], [.bool false, .slice none 0 0, .bool false, .slice none 0 0, .bool false, .slice none 0 0]]) (Bd : Blk W gd [.bool ds, .slice do1 dn dc]) (Bn : Blk W gn [.bool ns, .slice no nn nc]) : (fun w' => w'.cell? ⟨w.heap.size, 0, none⟩ = some (.int .i64 a) ∧ w'.cell? ⟨gd, 0, none⟩ = some (.bool ds) ∧ w'.cell? ⟨gd, 1, none⟩ = some (.slice do1 dn dc) ∧ w'.cell? ⟨gn, 0, none⟩ = some (.bool ns) ∧ w'.cell? ⟨gn, 1, none⟩ = some (.slice no nn nc)) W := ⟨(T0.b 0 rfl).c 0 rfl, Bd.c 0 rfl, Bd.c 1 rfl, Bn.c 0 rfl, Bn.c 1 rfl⟩
theorem m4_keep1 {a b c d p q u v : Int} {w W : World} {gd gn : Nat} {ds ns : Bool} {do1 no : Option Addr} {dn dc nn nc : Nat} (T0 : ArgsB w W [[.int .i64 a, .int .i64 b, .int .i64 c, .int .i64 d], [.int .i64 p, .int .i64 q, .int .i64 u, .int .i64 v], [.bool false, .slice none 0 0, .bool false, .slice none 0 0, .bool false, .slice none 0 0], [.bool false, .slice none 0 0, .bool false, .slice none 0 0, .bool false, .slice none 0 0]]) (Bd : Blk W gd [.bool ds, .slice do1 dn dc]) (Bn : Blk W gn [.bool ns, .slice no nn nc]) : (fun w' => w'.cell? ⟨w.heap.size, 1, none⟩ = some (.int .i64 b) ∧ w'.cell? ⟨gd, 0, none⟩ = some (.bool ds) ∧ w'.cell? ⟨gd, 1, none⟩ = some (.slice do1 dn dc) ∧ w'.cell? ⟨gn, 0, none⟩ = some (.bool ns) ∧ w'.cell? ⟨gn, 1, none⟩ = some (.slice no nn nc)) W := ⟨(T0.b 0 rfl).c 1 rfl, Bd.c 0 rfl, Bd.c 1 rfl, Bn.c 0 rfl, Bn.c 1 rfl⟩
def kndZ (a b c d p q u v : Int) : Int :=
 if ((b - d) * (u - p) - (q - v) * (c - a)) = 0 then
   (if turnZ a b c d p q ≠ 0 ∨ lessI (if lessI u v c d = true then u else c) (if lessI u v c d = true then v else d) (if lessI a b p q = true then p else a) (if lessI a b p q = true then q else b) = true then 0
    else if (if lessI a b p q = true then p else a) = (if lessI u v c d = true then u else c) ∧ (if lessI a b p q = true then q else b) = (if lessI u v c d = true then v else d) then 1 else 2)
 else if (pt2 (turnZ a b c d p q) (turnZ a b c d u v) && pt2 (turnZ p q u v a b) (turnZ p q u v c d)) = true then 1 else 0
theorem pt2_zl (t : Int) : pt2 0 t = true := by simp [pt2]
theorem pt2_zr (t : Int) : pt2 t 0 = true := by simp [pt2]
theorem turn_at1 (a b c d : Int) : turnZ a b c d a b = 0 := by unfold turnZ; simp
theorem turn_at2 (a b c d : Int) : turnZ a b c d c d = 0 := by unfold turnZ; grind
theorem less_iff (x y u v : Int) : lessI x y u v = true ↔ x < u ∨ x = u ∧ y < v := by unfold lessI; exact decide_eq_true_iff
theorem mul_zero_or {a b : Int} (h : a * b = 0) : a = 0 ∨ b = 0 := Int.mul_eq_zero.1 h
theorem line_same {e f g h x y : Int} (hp : e * h = f * g) (h1 : e ≠ 0 ∨ f ≠ 0) (hz : e * y - f * x = 0) : g * y - h * x = 0 := by
 rcases Int.lt_or_eq_of_le (Int.le_refl e) with _ | _
 · omega
 · by_cases he : e = 0
   · have hf : f ≠ 0 := h1.resolve_left (fun k => k he)
     have hg : g = 0 := by
       rw [he, Int.zero_mul] at hp
       exact (mul_zero_or hp.symm).resolve_left hf
     have hx : x = 0 := by
       rw [he, Int.zero_mul] at hz
       exact (mul_zero_or (by omega : f * x = 0)).resolve_left hf
     rw [hg, hx]
     simp
   · have k : e * (g * y - h * x) = 0 := by
       have e1 : e * (g * y - h * x) = g * (e * y) - (e * h) * x := by grind
       have e2 : e * y = f * x := by omega
       rw [e1, e2, hp]
       grind
     exact (mul_zero_or k).resolve_left he
theorem cross_swap (a b c d p q u v : Int) : ((q - v) * (c - a) - (b - d) * (u - p)) = 0 ↔ ((b - d) * (u - p) - (q - v) * (c - a)) = 0 := by omega
theorem turn_par {a b c d p q u v : Int} (h0 : ((b - d) * (u - p) - (q - v) * (c - a)) = 0) (h1 : c - a ≠ 0 ∨ d - b ≠ 0) (ht : turnZ a b c d p q = 0) : turnZ p q u v a b = 0 := by
 unfold turnZ at *
 have hp : (c - a) * (v - q) = (d - b) * (u - p) := by grind
 have k := line_same hp h1 ht
 have e : (u - p) * (b - q) - (v - q) * (a - p) = -((u - p) * (q - b) - (v - q) * (p - a)) := by grind
 rw [e, k]
 rfl
theorem knd_zero {a b c d p q u v : Int} : kndZ a b c d p q u v = 0 ↔ (if ((b - d) * (u - p) - (q - v) * (c - a)) = 0 then (turnZ a b c d p q ≠ 0 ∨ lessI (if lessI u v c d = true then u else c) (if lessI u v c d = true then v else d) (if lessI a b p q = true then p else a) (if lessI a b p q = true then q else b) = true) else ¬ ((pt2 (turnZ a b c d p q) (turnZ a b c d u v) && pt2 (turnZ p q u v a b) (turnZ p q u v c d)) = true)) := by
 unfold kndZ
 by_cases h0 : ((b - d) * (u - p) - (q - v) * (c - a)) = 0
 · rw [if_pos h0, if_pos h0]
   by_cases h1 : turnZ a b c d p q ≠ 0 ∨ lessI (if lessI u v c d = true then u else c) (if lessI u v c d = true then v else d) (if lessI a b p q = true then p else a) (if lessI a b p q = true then q else b) = true
   · rw [if_pos h1]
     exact ⟨fun _ => h1, fun _ => rfl⟩
   · rw [if_neg h1]
     refine ⟨fun h => ?_, fun h => absurd h h1⟩
     by_cases hq : (if lessI a b p q = true then p else a) = (if lessI u v c d = true then u else c) ∧ (if lessI a b p q = true then q else b) = (if lessI u v c d = true then v else d)
     · rw [if_pos hq] at h; exact absurd h (by decide)
     · rw [if_neg hq] at h; exact absurd h (by decide)
 · rw [if_neg h0, if_neg h0]
   by_cases hq : (pt2 (turnZ a b c d p q) (turnZ a b c d u v) && pt2 (turnZ p q u v a b) (turnZ p q u v c d)) = true
   · rw [if_pos hq]
     exact ⟨fun k => absurd k (by decide), fun k => absurd hq k⟩
   · rw [if_neg hq]
     exact ⟨fun _ => hq, fun _ => rfl⟩
theorem less_ne {a b c d : Int} (h : lessI a b c d = true) : c - a ≠ 0 ∨ d - b ≠ 0 := by
 rw [less_iff] at h
 omega
theorem knd_swap {a b c d p q u v : Int} (h1 : lessI a b c d = true) (h2 : lessI p q u v = true) : kndZ a b c d p q u v = 0 ↔ kndZ p q u v a b c d = 0 := by
 rw [knd_zero, knd_zero]
 by_cases h0 : ((b - d) * (u - p) - (q - v) * (c - a)) = 0
 · have h0' := (cross_swap a b c d p q u v).2 h0
   rw [if_pos h0, if_pos h0']
   have n1 := less_ne h1
   have n2 := less_ne h2
   have t : turnZ a b c d p q = 0 ↔ turnZ p q u v a b = 0 := ⟨fun h => turn_par h0 n1 h, fun h => turn_par h0' n2 h⟩
   have m : lessI (if lessI u v c d = true then u else c) (if lessI u v c d = true then v else d) (if lessI a b p q = true then p else a) (if lessI a b p q = true then q else b) = true ↔ lessI (if lessI c d u v = true then c else u) (if lessI c d u v = true then d else v) (if lessI p q a b = true then a else p) (if lessI p q a b = true then b else q) = true := by
     simp only [less_iff]
     split <;> split <;> split <;> split <;> omega
   exact or_congr (not_congr t) m
 · have h0' := fun h => h0 ((cross_swap a b c d p q u v).1 h)
   rw [if_neg h0, if_neg h0', Bool.and_comm]
theorem pt2_iff (t t' : Int) : pt2 t t' = true ↔ (0 ≤ t ∨ 0 ≤ t') ∧ (t ≤ 0 ∨ t' ≤ 0) := by
 unfold pt2
 simp
theorem between_sign {s r L M : Int} (hs : 0 ≤ s) (hr : 0 ≤ r) (hsr : 0 < s + r) (h : s * L + r * M = 0) : pt2 L M = true := by
 rw [pt2_iff]
 constructor
 · rcases Int.lt_or_le L 0 with h1 | h1
   · rcases Int.lt_or_le M 0 with h2 | h2
     · exfalso
       have a1 : s * L ≤ 0 := Int.mul_nonpos_of_nonneg_of_nonpos hs (by omega)
       have a2 : r * M ≤ 0 := Int.mul_nonpos_of_nonneg_of_nonpos hr (by omega)
       have b1 := mul_zero_or (by omega : s * L = 0)
       have b2 := mul_zero_or (by omega : r * M = 0)
       omega
     · exact .inr h2
   · exact .inl h1
 · rcases Int.lt_or_le 0 L with h1 | h1
   · rcases Int.lt_or_le 0 M with h2 | h2
     · exfalso
       have a1 : 0 ≤ s * L := Int.mul_nonneg hs (by omega)
       have a2 : 0 ≤ r * M := Int.mul_nonneg hr (by omega)
       have b1 := mul_zero_or (by omega : s * L = 0)
       have b2 := mul_zero_or (by omega : r * M = 0)
       omega
     · exact .inr h2
   · exact .inl h1
theorem knd_on {a b c d p q u v e f : Int} (h1 : lessI a b c d = true) (h2 : lessI p q u v = true) (he : (e = p ∧ f = q) ∨ (e = u ∧ f = v)) (ht : turnZ a b c d e f = 0) (hlo : a < e ∨ (a = e ∧ b ≤ f)) (hhi : e < c ∨ (e = c ∧ f ≤ d)) : kndZ a b c d p q u v ≠ 0 := by
 intro hk
 rw [knd_zero] at hk
 have hd := turn_diff a b c d p q u v
 have s1 := turn_at1 p q u v
 have s2 := turn_at2 p q u v
 have hL : turnZ p q u v e f = 0 := by
   rcases he with ⟨rfl, rfl⟩ | ⟨rfl, rfl⟩
   · exact s1
   · exact s2
 by_cases h0 : ((b - d) * (u - p) - (q - v) * (c - a)) = 0
 · rw [if_pos h0] at hk
   have T : turnZ a b c d p q = 0 := by
     rcases he with ⟨rfl, rfl⟩ | ⟨rfl, rfl⟩ <;> omega
   rcases hk with hk | hk
   · exact hk T
   · rw [less_iff] at h1 h2
     simp only [less_iff] at hk
     split at hk <;> split at hk <;> rcases he with ⟨rfl, rfl⟩ | ⟨rfl, rfl⟩ <;> omega
 · rw [if_neg h0] at hk
   refine hk ?_
   rw [Bool.and_eq_true]
   constructor
   · rcases he with ⟨rfl, rfl⟩ | ⟨rfl, rfl⟩
     · rw [ht]; exact pt2_zl _
     · rw [ht]; exact pt2_zr _
   · rw [less_iff] at h1
     by_cases hac : a = c
     · have hx : e = a := by omega
       refine between_sign (s := d - f) (r := f - b) (by omega) (by omega) (by omega) ?_
       have k : (d - f) * turnZ p q u v a b + (f - b) * turnZ p q u v c d = (d - b) * turnZ p q u v e f := by
         rw [← hac, hx]
         unfold turnZ
         grind
       rw [k, hL, Int.mul_zero]
     · refine between_sign (s := c - e) (r := e - a) (by omega) (by omega) (by omega) ?_
       have k : (c - e) * turnZ p q u v a b + (e - a) * turnZ p q u v c d = (c - a) * turnZ p q u v e f - (u - p) * turnZ a b c d e f := by
         unfold turnZ
         grind
       rw [k, hL, ht, Int.mul_zero, Int.mul_zero]
       rfl
theorem ptB_gcd {x y z : Int} (h : ptB x y z = true) : 0 < z ∧ Int.gcd (Int.gcd x y) z = 1 := by
 unfold ptB at h
 simp at h
 exact ⟨h.1.1, h.2⟩
theorem frac_trans {x z a c u t : Int} (hz : 0 < z) (ht : 0 < t) (hc : 0 < c) (h1 : x * c ≤ a * z) (h2 : a * t ≤ u * c) : x * t ≤ u * z ∧ (x * c < a * z ∨ a * t < u * c → x * t < u * z) := by
 have e1 : x * c * t ≤ a * z * t := Int.mul_le_mul_of_nonneg_right h1 (by omega)
 have e2 : a * t * z ≤ u * c * z := Int.mul_le_mul_of_nonneg_right h2 (by omega)
 have r1 : x * c * t = x * t * c := Int.mul_right_comm x c t
 have r2 : a * z * t = a * t * z := Int.mul_right_comm a z t
 have r3 : u * c * z = u * z * c := Int.mul_right_comm u c z
 refine ⟨Int.le_of_mul_le_mul_right (show x * t * c ≤ u * z * c by omega) hc, ?_⟩
 rintro (h | h)
 · have e3 : x * c * t < a * z * t := Int.mul_lt_mul_of_pos_right h ht
   exact Int.lt_of_mul_lt_mul_right (show x * t * c < u * z * c by omega) (by omega)
 · have e3 : a * t * z < u * c * z := Int.mul_lt_mul_of_pos_right h hz
   exact Int.lt_of_mul_lt_mul_right (show x * t * c < u * z * c by omega) (by omega)
theorem cmpI_val (a b : Int) : (a < b ∧ cmpI a b = -1) ∨ (a = b ∧ cmpI a b = 0) ∨ (b < a ∧ cmpI a b = 1) := by
 rcases Int.lt_trichotomy a b with h | h | h
 · exact .inl ⟨h, cmpI_lt h⟩
 · exact .inr (.inl ⟨h, cmpI_eq h⟩)
 · exact .inr (.inr ⟨h, cmpI_gt h⟩)
theorem ord_le (x y z u v t : Int) : ordI x y z u v t ≤ 0 ↔ x * t < u * z ∨ (x * t = u * z ∧ y * t ≤ v * z) := by
 unfold ordI
 rcases cmpI_val (x * t) (u * z) with ⟨h, e⟩ | ⟨h, e⟩ | ⟨h, e⟩ <;> rcases cmpI_val (y * t) (v * z) with ⟨h', e'⟩ | ⟨h', e'⟩ | ⟨h', e'⟩ <;> rw [e] <;> simp [e'] <;> omega
theorem ord_in (x y z u v t : Int) : ordI x y z u v t = -1 ∨ ordI x y z u v t = 0 ∨ ordI x y z u v t = 1 := by
 unfold ordI
 rcases cmpI_val (x * t) (u * z) with ⟨h, e⟩ | ⟨h, e⟩ | ⟨h, e⟩ <;> rcases cmpI_val (y * t) (v * z) with ⟨h', e'⟩ | ⟨h', e'⟩ | ⟨h', e'⟩ <;> rw [e] <;> simp [e']
theorem cmp_turned (a b : Int) : cmpI b a = -cmpI a b := by
 rcases Int.lt_trichotomy a b with h | h | h
 · rw [cmpI_lt h, cmpI_gt h]; rfl
 · rw [cmpI_eq h, cmpI_eq h.symm]; rfl
 · rw [cmpI_gt h, cmpI_lt h]
theorem ord_turned (x y z u v t : Int) : ordI u v t x y z = -ordI x y z u v t := by
 unfold ordI
 rw [cmp_turned (x * t) (u * z), cmp_turned (y * t) (v * z)]
 split <;> split <;> omega
theorem ord_trans {x y z u v t a b c : Int} (hz : 0 < z) (ht : 0 < t) (hc : 0 < c) (h1 : ordI x y z a b c ≤ 0) (h2 : ordI a b c u v t ≤ 0) : ordI x y z u v t ≤ 0 := by
 rw [ord_le] at *
 have f := frac_trans (x := x) (z := z) (a := a) (c := c) (u := u) (t := t) hz ht hc (by omega) (by omega)
 rcases Int.lt_or_eq_of_le f.1 with h | h
 · exact .inl h
 · right
   have n1 : ¬ (x * c < a * z ∨ a * t < u * c) := fun k => by have := f.2 k; omega
   have g := frac_trans (x := y) (z := z) (a := b) (c := c) (u := v) (t := t) hz ht hc (by omega) (by omega)
   exact ⟨h, g.1⟩
def btwS (x y z u v t a b c : Int) : Bool := if 0 < ordI x y z u v t then decide (ordI u v t a b c ≤ 0) && decide (ordI a b c x y z ≤ 0) && decide (turnI u v t x y z a b c = 0) else decide (ordI x y z a b c ≤ 0) && decide (ordI a b c u v t ≤ 0) && decide (turnI x y z u v t a b c = 0)
theorem turn_swap (x y z u v t a b c : Int) : turnI u v t x y z a b c = 0 ↔ turnI x y z u v t a b c = 0 := by
 unfold turnI
 have e : u * (y * c - z * b) - v * (x * c - z * a) + t * (x * b - y * a) = -(x * (v * c - t * b) - y * (u * c - t * a) + z * (u * b - v * a)) := by grind
 rw [e]
 generalize x * (v * c - t * b) - y * (u * c - t * a) + z * (u * b - v * a) = q
 rcases cmpI_val (-q) 0 with ⟨h, f⟩ | ⟨h, f⟩ | ⟨h, f⟩ <;> rcases cmpI_val q 0 with ⟨h', f'⟩ | ⟨h', f'⟩ | ⟨h', f'⟩ <;> rw [f, f'] <;> omega
theorem btw_same (x y z u v t a b c : Int) (hz : 0 < z) (ht : 0 < t) (hc : 0 < c) : (decide (turnI x y z u v t a b c = 0) && decide (0 ≤ ordI x y z a b c * ordI a b c u v t)) = btwS x y z u v t a b c := by
 have A1 := ord_in x y z u v t
 have B1 := ord_in x y z a b c
 have C1 := ord_in a b c u v t
 have B2 := ord_turned x y z a b c
 have C2 := ord_turned a b c u v t
 have A2 := ord_turned x y z u v t
 have t1 : ordI x y z a b c ≤ 0 → ordI a b c u v t ≤ 0 → ordI x y z u v t ≤ 0 := fun h k => ord_trans hz ht hc h k
 have t2 : ordI x y z u v t ≤ 0 → ordI u v t a b c ≤ 0 → ordI x y z a b c ≤ 0 := fun h k => ord_trans hz hc ht h k
 have t3 : ordI a b c x y z ≤ 0 → ordI x y z u v t ≤ 0 → ordI a b c u v t ≤ 0 := fun h k => ord_trans hc ht hz h k
 unfold btwS
 rw [show decide (turnI u v t x y z a b c = 0) = decide (turnI x y z u v t a b c = 0) by rw [Bool.eq_iff_iff, decide_eq_true_iff, decide_eq_true_iff]; exact turn_swap x y z u v t a b c]
 rw [B2] at t3 ⊢
 rw [C2] at t2 ⊢
 generalize ordI x y z u v t = A at *
 generalize ordI x y z a b c = B at *
 generalize ordI a b c u v t = C at *
 generalize decide (turnI x y z u v t a b c = 0) = q
 clear A2 B2 C2
 rcases A1 with rfl | rfl | rfl <;> rcases B1 with rfl | rfl | rfl <;> rcases C1 with rfl | rfl | rfl <;> cases q <;> first | rfl | (exfalso; first | exact absurd (t1 (by decide) (by decide)) (by decide) | exact absurd (t2 (by decide) (by decide)) (by decide) | exact absurd (t3 (by decide) (by decide)) (by decide))
theorem share_of {v V g z : Int} (hV : V = v * g) (hg : 0 < g) (hz : ¬ z < 0) : shareZ V g (decide (z < 0)) = v := by
 have h := share_quot (v := V) (V := V) (g := g) (z := z) (by rw [if_neg hz]) hg (by rw [hV]; exact Int.dvd_mul_left _ _)
 rw [← h, hV]
 exact Int.mul_ediv_cancel v (by omega)
theorem gcd3_times (a b c g : Int) (hg : 0 < g) : (Int.gcd (Int.gcd (a * g) (b * g) : Int) (c * g) : Int) = (Int.gcd (Int.gcd a b : Int) c : Int) * g := by
 have en : (g.natAbs : Int) = g := by omega
 have e1 : (Int.gcd (a * g) (b * g) : Int) = Int.gcd a b * g := by rw [Int.gcd_mul_right, Int.natCast_mul, en]
 rw [e1, Int.gcd_mul_right, Int.natCast_mul, en]
theorem mid_cases (x y z u v t : Int) : midV x y z u v t = .tuple #[.agg #[.int .u64 0, .int .u64 0, .int .u64 0, .int .u64 0, .int .u64 0, .int .u64 0, .int .u64 0, .int .u64 0, .int .u64 0, .int .u64 0, .int .u64 0, .int .u64 0], .bool false] ∨ (ptB x y z = true ∧ ptB u v t = true ∧ ∃ a b c g, midV x y z u v t = .tuple #[PV a b c, .bool true] ∧ 0 < g ∧ x * t + u * z = a * g ∧ y * t + v * z = b * g ∧ 2 * (z * t) = c * g ∧ ptB a b c = true) := by
 by_cases hb : (ptB x y z && ptB u v t) = true
 · have hb' : ptB x y z = true ∧ ptB u v t = true := by simpa using hb
   obtain ⟨pz, -⟩ := ptB_gcd hb'.1
   obtain ⟨pt, -⟩ := ptB_gcd hb'.2
   have hzt := Int.mul_pos pz pt
   have hne : 2 * (z * t) ≠ 0 := by omega
   have hpos : ¬ 2 * (z * t) < 0 := by omega
   obtain ⟨g, hg⟩ : ∃ g, (Int.gcd (Int.gcd (x * t + u * z) (y * t + v * z) : Int) (2 * (z * t)) : Int) = g := ⟨_, rfl⟩
   have g0 : 0 < g := by
     have := Int.gcd_pos_of_ne_zero_right (Int.gcd (x * t + u * z) (y * t + v * z) : Int) hne
     omega
   have dxy : g ∣ (Int.gcd (x * t + u * z) (y * t + v * z) : Int) := by rw [← hg]; exact Int.gcd_dvd_left _ _
   obtain ⟨a, ha⟩ := Int.dvd_trans dxy (Int.gcd_dvd_left _ _)
   obtain ⟨b, hb2⟩ := Int.dvd_trans dxy (Int.gcd_dvd_right _ _)
   obtain ⟨c, hc⟩ : g ∣ 2 * (z * t) := by rw [← hg]; exact Int.gcd_dvd_right _ _
   rw [Int.mul_comm g a] at ha
   rw [Int.mul_comm g b] at hb2
   rw [Int.mul_comm g c] at hc
   have hm : midV x y z u v t = ptV a b c := by
     unfold midV
     rw [if_pos hb]
     unfold pmV
     rw [if_neg hne, hg, share_of ha g0 hpos, share_of hb2 g0 hpos, share_of hc g0 hpos]
   have c0 : 0 < c := by
     apply Decidable.byContradiction
     intro h
     have := Int.mul_nonneg (a := -c) (b := g) (by omega) (by omega)
     have e : -c * g = -(c * g) := by grind
     omega
   have g1 : Int.gcd (Int.gcd a b : Int) c = 1 := by
     rw [ha, hb2, hc, gcd3_times a b c g g0] at hg
     have : (Int.gcd (Int.gcd a b : Int) c : Int) * g = 1 * g := by omega
     have := Int.eq_of_mul_eq_mul_right (by omega) this
     omega
   by_cases hs : (small a && small b && small c) = true
   · refine Or.inr ⟨hb'.1, hb'.2, a, b, c, g, ?_, g0, ha, hb2, hc, ?_⟩
     · rw [hm]; unfold ptV; rw [if_pos hs]
     · unfold ptB
       rw [hs, g1]
       simp [c0]
   · refine Or.inl ?_
     rw [hm]; unfold ptV; rw [if_neg hs]
 · refine Or.inl ?_
   unfold midV
   rw [if_neg hb]
theorem b3_cells {x y z u v t a b c : Int} {w W : World} (T0 : ArgsB w W [[.int .u64 (ww3 x), .int .u64 (ww2 x), .int .u64 (ww1 x), .int .u64 (ww0 x), .int .u64 (ww3 y), .int .u64 (ww2 y), .int .u64 (ww1 y), .int .u64 (ww0 y), .int .u64 (ww3 z), .int .u64 (ww2 z), .int .u64 (ww1 z), .int .u64 (ww0 z)], [.int .u64 (ww3 u), .int .u64 (ww2 u), .int .u64 (ww1 u), .int .u64 (ww0 u), .int .u64 (ww3 v), .int .u64 (ww2 v), .int .u64 (ww1 v), .int .u64 (ww0 v), .int .u64 (ww3 t), .int .u64 (ww2 t), .int .u64 (ww1 t), .int .u64 (ww0 t)], [.int .u64 (ww3 a), .int .u64 (ww2 a), .int .u64 (ww1 a), .int .u64 (ww0 a), .int .u64 (ww3 b), .int .u64 (ww2 b), .int .u64 (ww1 b), .int .u64 (ww0 b), .int .u64 (ww3 c), .int .u64 (ww2 c), .int .u64 (ww1 c), .int .u64 (ww0 c)]]) : (fun w' => w'.cell? ⟨w.heap.size, 0, none⟩ = some (.int .u64 (ww3 x)) ∧ w'.cell? ⟨w.heap.size, 1, none⟩ = some (.int .u64 (ww2 x)) ∧ w'.cell? ⟨w.heap.size, 2, none⟩ = some (.int .u64 (ww1 x)) ∧ w'.cell? ⟨w.heap.size, 3, none⟩ = some (.int .u64 (ww0 x)) ∧ w'.cell? ⟨w.heap.size, 4, none⟩ = some (.int .u64 (ww3 y)) ∧ w'.cell? ⟨w.heap.size, 5, none⟩ = some (.int .u64 (ww2 y)) ∧ w'.cell? ⟨w.heap.size, 6, none⟩ = some (.int .u64 (ww1 y)) ∧ w'.cell? ⟨w.heap.size, 7, none⟩ = some (.int .u64 (ww0 y)) ∧ w'.cell? ⟨w.heap.size, 8, none⟩ = some (.int .u64 (ww3 z)) ∧ w'.cell? ⟨w.heap.size, 9, none⟩ = some (.int .u64 (ww2 z)) ∧ w'.cell? ⟨w.heap.size, 10, none⟩ = some (.int .u64 (ww1 z)) ∧ w'.cell? ⟨w.heap.size, 11, none⟩ = some (.int .u64 (ww0 z)) ∧ w'.cell? ⟨w.heap.size + 1, 0, none⟩ = some (.int .u64 (ww3 u)) ∧ w'.cell? ⟨w.heap.size + 1, 1, none⟩ = some (.int .u64 (ww2 u)) ∧ w'.cell? ⟨w.heap.size + 1, 2, none⟩ = some (.int .u64 (ww1 u)) ∧ w'.cell? ⟨w.heap.size + 1, 3, none⟩ = some (.int .u64 (ww0 u)) ∧ w'.cell? ⟨w.heap.size + 1, 4, none⟩ = some (.int .u64 (ww3 v)) ∧ w'.cell? ⟨w.heap.size + 1, 5, none⟩ = some (.int .u64 (ww2 v)) ∧ w'.cell? ⟨w.heap.size + 1, 6, none⟩ = some (.int .u64 (ww1 v)) ∧ w'.cell? ⟨w.heap.size + 1, 7, none⟩ = some (.int .u64 (ww0 v)) ∧ w'.cell? ⟨w.heap.size + 1, 8, none⟩ = some (.int .u64 (ww3 t)) ∧ w'.cell? ⟨w.heap.size + 1, 9, none⟩ = some (.int .u64 (ww2 t)) ∧ w'.cell? ⟨w.heap.size + 1, 10, none⟩ = some (.int .u64 (ww1 t)) ∧ w'.cell? ⟨w.heap.size + 1, 11, none⟩ = some (.int .u64 (ww0 t)) ∧ w'.cell? ⟨w.heap.size + 2, 0, none⟩ = some (.int .u64 (ww3 a)) ∧ w'.cell? ⟨w.heap.size + 2, 1, none⟩ = some (.int .u64 (ww2 a)) ∧ w'.cell? ⟨w.heap.size + 2, 2, none⟩ = some (.int .u64 (ww1 a)) ∧ w'.cell? ⟨w.heap.size + 2, 3, none⟩ = some (.int .u64 (ww0 a)) ∧ w'.cell? ⟨w.heap.size + 2, 4, none⟩ = some (.int .u64 (ww3 b)) ∧ w'.cell? ⟨w.heap.size + 2, 5, none⟩ = some (.int .u64 (ww2 b)) ∧ w'.cell? ⟨w.heap.size + 2, 6, none⟩ = some (.int .u64 (ww1 b)) ∧ w'.cell? ⟨w.heap.size + 2, 7, none⟩ = some (.int .u64 (ww0 b)) ∧ w'.cell? ⟨w.heap.size + 2, 8, none⟩ = some (.int .u64 (ww3 c)) ∧ w'.cell? ⟨w.heap.size + 2, 9, none⟩ = some (.int .u64 (ww2 c)) ∧ w'.cell? ⟨w.heap.size + 2, 10, none⟩ = some (.int .u64 (ww1 c)) ∧ w'.cell? ⟨w.heap.size + 2, 11, none⟩ = some (.int .u64 (ww0 c))) W := ⟨(T0.b 0 rfl).c 0 rfl, (T0.b 0 rfl).c 1 rfl, (T0.b 0 rfl).c 2 rfl, (T0.b 0 rfl).c 3 rfl, (T0.b 0 rfl).c 4 rfl, (T0.b 0 rfl).c 5 rfl, (T0.b 0 rfl).c 6 rfl, (T0.b 0 rfl).c 7 rfl, (T0.b 0 rfl).c 8 rfl, (T0.b 0 rfl).c 9 rfl, (T0.b 0 rfl).c 10 rfl, (T0.b 0 rfl).c 11 rfl, (T0.b 1 rfl).c 0 rfl, (T0.b 1 rfl).c 1 rfl, (T0.b 1 rfl).c 2 rfl, (T0.b 1 rfl).c 3 rfl, (T0.b 1 rfl).c 4 rfl, (T0.b 1 rfl).c 5 rfl, (T0.b 1 rfl).c 6 rfl, (T0.b 1 rfl).c 7 rfl, (T0.b 1 rfl).c 8 rfl, (T0.b 1 rfl).c 9 rfl, (T0.b 1 rfl).c 10 rfl, (T0.b 1 rfl).c 11 rfl, (T0.b 2 rfl).c 0 rfl, (T0.b 2 rfl).c 1 rfl, (T0.b 2 rfl).c 2 rfl, (T0.b 2 rfl).c 3 rfl, (T0.b 2 rfl).c 4 rfl, (T0.b 2 rfl).c 5 rfl, (T0.b 2 rfl).c 6 rfl, (T0.b 2 rfl).c 7 rfl, (T0.b 2 rfl).c 8 rfl, (T0.b 2 rfl).c 9 rfl, (T0.b 2 rfl).c 10 rfl, (T0.b 2 rfl).c 11 rfl⟩
theorem lies_det (x y z u v t a b c : Int) (sx : small x = true) (sy : small y = true) (sz : small z = true) (su : small u = true) (sv : small v = true) (st : small t = true) (sa : small a = true) (sb : small b = true) (sc : small c = true) (hz : 0 < z) (ht : 0 < t) (hc : 0 < c) (w : World) : Calls Tryz.prog 81 #[PV x y z, PV u v t, PV a b c] w (VP (.bool (btwS x y z u v t a b c)) w) := by
 have T0 : ArgsB w (((w.alloc (.cells #[.int .u64 (ww3 x), .int .u64 (ww2 x), .int .u64 (ww1 x), .int .u64 (ww0 x), .int .u64 (ww3 y), .int .u64 (ww2 y), .int .u64 (ww1 y), .int .u64 (ww0 y), .int .u64 (ww3 z), .int .u64 (ww2 z), .int .u64 (ww1 z), .int .u64 (ww0 z)] 40)).alloc (.cells #[.int .u64 (ww3 u), .int .u64 (ww2 u), .int .u64 (ww1 u), .int .u64 (ww0 u), .int .u64 (ww3 v), .int .u64 (ww2 v), .int .u64 (ww1 v), .int .u64 (ww0 v), .int .u64 (ww3 t), .int .u64 (ww2 t), .int .u64 (ww1 t), .int .u64 (ww0 t)] 40)).alloc (.cells #[.int .u64 (ww3 a), .int .u64 (ww2 a), .int .u64 (ww1 a), .int .u64 (ww0 a), .int .u64 (ww3 b), .int .u64 (ww2 b), .int .u64 (ww1 b), .int .u64 (ww0 b), .int .u64 (ww3 c), .int .u64 (ww2 c), .int .u64 (ww1 c), .int .u64 (ww0 c)] 40)) [[.int .u64 (ww3 x), .int .u64 (ww2 x), .int .u64 (ww1 x), .int .u64 (ww0 x), .int .u64 (ww3 y), .int .u64 (ww2 y), .int .u64 (ww1 y), .int .u64 (ww0 y), .int .u64 (ww3 z), .int .u64 (ww2 z), .int .u64 (ww1 z), .int .u64 (ww0 z)], [.int .u64 (ww3 u), .int .u64 (ww2 u), .int .u64 (ww1 u), .int .u64 (ww0 u), .int .u64 (ww3 v), .int .u64 (ww2 v), .int .u64 (ww1 v), .int .u64 (ww0 v), .int .u64 (ww3 t), .int .u64 (ww2 t), .int .u64 (ww1 t), .int .u64 (ww0 t)], [.int .u64 (ww3 a), .int .u64 (ww2 a), .int .u64 (ww1 a), .int .u64 (ww0 a), .int .u64 (ww3 b), .int .u64 (ww2 b), .int .u64 (ww1 b), .int .u64 (ww0 b), .int .u64 (ww3 c), .int .u64 (ww2 c), .int .u64 (ww1 c), .int .u64 (ww0 c)]] := ar3 _ _ _ _ _ _ w
 have C1 := turn_det x y z u v t a b c sx sy sz su sv st sa sb sc
 rw [turn_same] at C1
 have C2 := order_det x y z a b c sx sy sz sa sb sc
 have C3 := order_det a b c u v t sa sb sc su sv st
 have hw : IntKind.i64.wrap (ordI x y z a b c * ordI a b c u v t) = ordI x y z a b c * ordI a b c u v t := by
   rcases ord_in x y z a b c with h | h | h <;> rcases ord_in a b c u v t with k | k | k <;> rw [h, k] <;> decide
 have HO : Hid ((decide (turnI x y z u v t a b c = 0) && decide (0 ≤ ordI x y z a b c * ordI a b c u v t)) = btwS x y z u v t a b c) := btw_same x y z u v t a b c hz ht hc
 clear sx sy sz su sv st sa sb sc hz ht hc
 generalize btwS x y z u v t a b c = R at *
 generalize turnI x y z u v t a b c = o1 at *
 generalize ordI x y z a b c = o2 at *
 generalize ordI a b c u v t = o3 at *
 go_enter Tryz.func81, Tryz.ntmps81
 go_upto_region 1 with fail
 generalize (((w.alloc (.cells #[.int .u64 (ww3 x), .int .u64 (ww2 x), .int .u64 (ww1 x), .int .u64 (ww0 x), .int .u64 (ww3 y), .int .u64 (ww2 y), .int .u64 (ww1 y), .int .u64 (ww0 y), .int .u64 (ww3 z), .int .u64 (ww2 z), .int .u64 (ww1 z), .int .u64 (ww0 z)] 40)).alloc (.cells #[.int .u64 (ww3 u), .int .u64 (ww2 u), .int .u64 (ww1 u), .int .u64 (ww0 u), .int .u64 (ww3 v), .int .u64 (ww2 v), .int .u64 (ww1 v), .int .u64 (ww0 v), .int .u64 (ww3 t), .int .u64 (ww2 t), .int .u64 (ww1 t), .int .u64 (ww0 t)] 40)).alloc (.cells #[.int .u64 (ww3 a), .int .u64 (ww2 a), .int .u64 (ww1 a), .int .u64 (ww0 a), .int .u64 (ww3 b), .int .u64 (ww2 b), .int .u64 (ww1 b), .int .u64 (ww0 b), .int .u64 (ww3 c), .int .u64 (ww2 c), .int .u64 (ww1 c), .int .u64 (ww0 c)] 40)) = W at *
 by_cases h : o1 = 0
 · subst h
   have HR : Hid (decide (0 ≤ o2 * o3) = R) := by show _ = _; rw [← HO.out]; simp
   clear HO
   have tok1 : True := trivial
   go_region_held3 (fun w' => w'.cell? ⟨w.heap.size, 0, none⟩ = some (.int .u64 (ww3 x)) ∧ w'.cell? ⟨w.heap.size, 1, none⟩ = some (.int .u64 (ww2 x)) ∧ w'.cell? ⟨w.heap.size, 2, none⟩ = some (.int .u64 (ww1 x)) ∧ w'.cell? ⟨w.heap.size, 3, none⟩ = some (.int .u64 (ww0 x)) ∧ w'.cell? ⟨w.heap.size, 4, none⟩ = some (.int .u64 (ww3 y)) ∧ w'.cell? ⟨w.heap.size, 5, none⟩ = some (.int .u64 (ww2 y)) ∧ w'.cell? ⟨w.heap.size, 6, none⟩ = some (.int .u64 (ww1 y)) ∧ w'.cell? ⟨w.heap.size, 7, none⟩ = some (.int .u64 (ww0 y)) ∧ w'.cell? ⟨w.heap.size, 8, none⟩ = some (.int .u64 (ww3 z)) ∧ w'.cell? ⟨w.heap.size, 9, none⟩ = some (.int .u64 (ww2 z)) ∧ w'.cell? ⟨w.heap.size, 10, none⟩ = some (.int .u64 (ww1 z)) ∧ w'.cell? ⟨w.heap.size, 11, none⟩ = some (.int .u64 (ww0 z)) ∧ w'.cell? ⟨w.heap.size + 1, 0, none⟩ = some (.int .u64 (ww3 u)) ∧ w'.cell? ⟨w.heap.size + 1, 1, none⟩ = some (.int .u64 (ww2 u)) ∧ w'.cell? ⟨w.heap.size + 1, 2, none⟩ = some (.int .u64 (ww1 u)) ∧ w'.cell? ⟨w.heap.size + 1, 3, none⟩ = some (.int .u64 (ww0 u)) ∧ w'.cell? ⟨w.heap.size + 1, 4, none⟩ = some (.int .u64 (ww3 v)) ∧ w'.cell? ⟨w.heap.size + 1, 5, none⟩ = some (.int .u64 (ww2 v)) ∧ w'.cell? ⟨w.heap.size + 1, 6, none⟩ = some (.int .u64 (ww1 v)) ∧ w'.cell? ⟨w.heap.size + 1, 7, none⟩ = some (.int .u64 (ww0 v)) ∧ w'.cell? ⟨w.heap.size + 1, 8, none⟩ = some (.int .u64 (ww3 t)) ∧ w'.cell? ⟨w.heap.size + 1, 9, none⟩ = some (.int .u64 (ww2 t)) ∧ w'.cell? ⟨w.heap.size + 1, 10, none⟩ = some (.int .u64 (ww1 t)) ∧ w'.cell? ⟨w.heap.size + 1, 11, none⟩ = some (.int .u64 (ww0 t)) ∧ w'.cell? ⟨w.heap.size + 2, 0, none⟩ = some (.int .u64 (ww3 a)) ∧ w'.cell? ⟨w.heap.size + 2, 1, none⟩ = some (.int .u64 (ww2 a)) ∧ w'.cell? ⟨w.heap.size + 2, 2, none⟩ = some (.int .u64 (ww1 a)) ∧ w'.cell? ⟨w.heap.size + 2, 3, none⟩ = some (.int .u64 (ww0 a)) ∧ w'.cell? ⟨w.heap.size + 2, 4, none⟩ = some (.int .u64 (ww3 b)) ∧ w'.cell? ⟨w.heap.size + 2, 5, none⟩ = some (.int .u64 (ww2 b)) ∧ w'.cell? ⟨w.heap.size + 2, 6, none⟩ = some (.int .u64 (ww1 b)) ∧ w'.cell? ⟨w.heap.size + 2, 7, none⟩ = some (.int .u64 (ww0 b)) ∧ w'.cell? ⟨w.heap.size + 2, 8, none⟩ = some (.int .u64 (ww3 c)) ∧ w'.cell? ⟨w.heap.size + 2, 9, none⟩ = some (.int .u64 (ww2 c)) ∧ w'.cell? ⟨w.heap.size + 2, 10, none⟩ = some (.int .u64 (ww1 c)) ∧ w'.cell? ⟨w.heap.size + 2, 11, none⟩ = some (.int .u64 (ww0 c))) (first | (with_reducible exact b3_cells T0) | (with_reducible exact b3_cells T0.drew))
     (first
       | (go_at_call 94; refine (C1 _).mono ?_; rintro e v1 ⟨rfl, hB⟩; (first | (have T1 := T0.step hB) | (have T1 := T0.drew.step hB)); clear T0; have T0 := T1; clear T1; clear hB)
       | (go_at_call 54; have _t := tok1; refine (C2 _).mono ?_; rintro e v2 ⟨rfl, hB⟩; (first | (have T1 := T0.step hB) | (have T1 := T0.drew.step hB)); clear T0; have T0 := T1; clear T1; clear hB; clear tok1 _t)
       | (go_at_call 54; refine (C3 _).mono ?_; rintro e v3 ⟨rfl, hB⟩; (first | (have T1 := T0.step hB) | (have T1 := T0.drew.step hB)); clear T0; have T0 := T1; clear T1; clear hB))
   all_goals have HB := T0.below
   all_goals clear T0
   all_goals go_wp2
   all_goals go_ret
   all_goals exact ⟨by rw [← HR.out]; simp, by first | exact HB | exact HB.drew⟩
 · have ho : (o1 == 0) = false := beq_eq_false_iff_ne.2 h
   have HR : Hid (R = false) := by show _ = _; rw [← HO.out]; simp [h]
   clear HO h hw
   refine wp_region_held_drew (S := (fun w' => w'.cell? ⟨w.heap.size, 0, none⟩ = some (.int .u64 (ww3 x)) ∧ w'.cell? ⟨w.heap.size, 1, none⟩ = some (.int .u64 (ww2 x)) ∧ w'.cell? ⟨w.heap.size, 2, none⟩ = some (.int .u64 (ww1 x)) ∧ w'.cell? ⟨w.heap.size, 3, none⟩ = some (.int .u64 (ww0 x)) ∧ w'.cell? ⟨w.heap.size, 4, none⟩ = some (.int .u64 (ww3 y)) ∧ w'.cell? ⟨w.heap.size, 5, none⟩ = some (.int .u64 (ww2 y)) ∧ w'.cell? ⟨w.heap.size, 6, none⟩ = some (.int .u64 (ww1 y)) ∧ w'.cell? ⟨w.heap.size, 7, none⟩ = some (.int .u64 (ww0 y)) ∧ w'.cell? ⟨w.heap.size, 8, none⟩ = some (.int .u64 (ww3 z)) ∧ w'.cell? ⟨w.heap.size, 9, none⟩ = some (.int .u64 (ww2 z)) ∧ w'.cell? ⟨w.heap.size, 10, none⟩ = some (.int .u64 (ww1 z)) ∧ w'.cell? ⟨w.heap.size, 11, none⟩ = some (.int .u64 (ww0 z)) ∧ w'.cell? ⟨w.heap.size + 1, 0, none⟩ = some (.int .u64 (ww3 u)) ∧ w'.cell? ⟨w.heap.size + 1, 1, none⟩ = some (.int .u64 (ww2 u)) ∧ w'.cell? ⟨w.heap.size + 1, 2, none⟩ = some (.int .u64 (ww1 u)) ∧ w'.cell? ⟨w.heap.size + 1, 3, none⟩ = some (.int .u64 (ww0 u)) ∧ w'.cell? ⟨w.heap.size + 1, 4, none⟩ = some (.int .u64 (ww3 v)) ∧ w'.cell? ⟨w.heap.size + 1, 5, none⟩ = some (.int .u64 (ww2 v)) ∧ w'.cell? ⟨w.heap.size + 1, 6, none⟩ = some (.int .u64 (ww1 v)) ∧ w'.cell? ⟨w.heap.size + 1, 7, none⟩ = some (.int .u64 (ww0 v)) ∧ w'.cell? ⟨w.heap.size + 1, 8, none⟩ = some (.int .u64 (ww3 t)) ∧ w'.cell? ⟨w.heap.size + 1, 9, none⟩ = some (.int .u64 (ww2 t)) ∧ w'.cell? ⟨w.heap.size + 1, 10, none⟩ = some (.int .u64 (ww1 t)) ∧ w'.cell? ⟨w.heap.size + 1, 11, none⟩ = some (.int .u64 (ww0 t)) ∧ w'.cell? ⟨w.heap.size + 2, 0, none⟩ = some (.int .u64 (ww3 a)) ∧ w'.cell? ⟨w.heap.size + 2, 1, none⟩ = some (.int .u64 (ww2 a)) ∧ w'.cell? ⟨w.heap.size + 2, 2, none⟩ = some (.int .u64 (ww1 a)) ∧ w'.cell? ⟨w.heap.size + 2, 3, none⟩ = some (.int .u64 (ww0 a)) ∧ w'.cell? ⟨w.heap.size + 2, 4, none⟩ = some (.int .u64 (ww3 b)) ∧ w'.cell? ⟨w.heap.size + 2, 5, none⟩ = some (.int .u64 (ww2 b)) ∧ w'.cell? ⟨w.heap.size + 2, 6, none⟩ = some (.int .u64 (ww1 b)) ∧ w'.cell? ⟨w.heap.size + 2, 7, none⟩ = some (.int .u64 (ww0 b)) ∧ w'.cell? ⟨w.heap.size + 2, 8, none⟩ = some (.int .u64 (ww3 c)) ∧ w'.cell? ⟨w.heap.size + 2, 9, none⟩ = some (.int .u64 (ww2 c)) ∧ w'.cell? ⟨w.heap.size + 2, 10, none⟩ = some (.int .u64 (ww1 c)) ∧ w'.cell? ⟨w.heap.size + 2, 11, none⟩ = some (.int .u64 (ww0 c)))) (by kernel_rfl) (b3_cells T0.drew) (fun hHeld => ?_)
   refine wpAnyH_take (i := 0) (v := PV x y z) rfl (by kernel_rfl) (by kernel_rfl) (by kernel_rfl) (fun _ _ _ h => h) (Or.inl ⟨by kernel_rfl, ?_⟩) (by assumption) ?_
   · intro w hSw
     (try dsimp only at hSw)
     go_simp
   refine wpAnyH_take (i := 1) (v := PV u v t) rfl (by kernel_rfl) (by kernel_rfl) (by kernel_rfl) (fun _ _ _ h => h) (Or.inl ⟨by kernel_rfl, ?_⟩) (by assumption) ?_
   · intro w hSw
     (try dsimp only at hSw)
     go_simp
   refine wpAnyH_take (i := 2) (v := PV a b c) rfl (by kernel_rfl) (by kernel_rfl) (by kernel_rfl) (fun _ _ _ h => h) (Or.inl ⟨by kernel_rfl, ?_⟩) (by assumption) ?_
   · intro w hSw
     (try dsimp only at hSw)
     go_simp
   refine wpAnyH_ready (rs := [3]) (by kernel_rfl) (by simp) ?_
   refine AllReadyH.cons rfl (fun K hK => ?_) AllReadyH.nil
   go_simp
   go_wp2_with (go_at_call 94; refine (C1 _).mono ?_; rintro e v1 ⟨rfl, hB⟩; (first | (have T1 := T0.step hB) | (have T1 := T0.drew.step hB)); clear T0; have T0 := T1; clear T1; clear hB)
   clear hHeld
   refine hK.out _ _ (b3_cells T0) (fun hHeld => ?_)
   clear hK
   refine wpAnyH_take (i := 4) (v := .bool false) rfl (by kernel_rfl) (by kernel_rfl) (by kernel_rfl) (fun _ _ _ h => h) (Or.inl ⟨by kernel_rfl, ?_⟩) (by assumption) ?_
   · intro w hSw
     (try dsimp only at hSw)
     go_simp
   refine wpAnyH_take (i := 5) (v := .bool false) rfl (by kernel_rfl) (by kernel_rfl) (by kernel_rfl) (fun _ _ _ h => h) (Or.inl ⟨by kernel_rfl, ?_⟩) (by assumption) ?_
   · intro w hSw
     (try dsimp only at hSw)
     go_simp
   refine wpAnyH_take (i := 6) (v := undef) rfl (by kernel_rfl) (by kernel_rfl) (by kernel_rfl) (fun _ _ _ h => h) (Or.inr ⟨by kernel_rfl, rfl⟩) (by assumption) ?_
   refine wpAnyH_take (i := 7) (v := undef) rfl (by kernel_rfl) (by kernel_rfl) (by kernel_rfl) (fun _ _ _ h => h) (Or.inr ⟨by kernel_rfl, rfl⟩) (by assumption) ?_
   refine wpAnyH_take (i := 8) (v := undef) rfl (by kernel_rfl) (by kernel_rfl) (by kernel_rfl) (fun _ _ _ h => h) (Or.inr ⟨by kernel_rfl, rfl⟩) (by assumption) ?_
   refine wpAnyH_take (i := 9) (v := undef) rfl (by kernel_rfl) (by kernel_rfl) (by kernel_rfl) (fun _ _ _ h => h) (Or.inr ⟨by kernel_rfl, rfl⟩) (by assumption) ?_
   refine wpAnyH_take (i := 10) (v := undef) rfl (by kernel_rfl) (by kernel_rfl) (by kernel_rfl) (fun _ _ _ h => h) (Or.inr ⟨by kernel_rfl, rfl⟩) (by assumption) ?_
   refine wpAnyH_take (i := 11) (v := undef) rfl (by kernel_rfl) (by kernel_rfl) (by kernel_rfl) (fun _ _ _ h => h) (Or.inr ⟨by kernel_rfl, rfl⟩) (by assumption) ?_
   refine wpAnyH_take (i := 12) (v := undef) rfl (by kernel_rfl) (by kernel_rfl) (by kernel_rfl) (fun _ _ _ h => h) (Or.inr ⟨by kernel_rfl, rfl⟩) (by assumption) ?_
   refine wpAnyH_take (i := 13) (v := undef) rfl (by kernel_rfl) (by kernel_rfl) (by kernel_rfl) (fun _ _ _ h => h) (Or.inr ⟨by kernel_rfl, rfl⟩) (by assumption) ?_
   refine wpAnyH_ready (rs := [14]) (by kernel_rfl) (by simp) ?_
   refine AllReadyH.cons rfl (fun K hK => ?_) AllReadyH.nil
   go_simp
   refine hK.out _ _ (by assumption) (fun _ => ?_)
   clear hK
   refine wpAnyH_ready (rs := [15]) (by kernel_rfl) (by simp) ?_
   refine AllReadyH.cons rfl (fun K hK => ?_) AllReadyH.nil
   go_simp
   refine hK.out _ _ (by assumption) (fun _ => ?_)
   clear hK
   refine wpAnyH_done (by kernel_rfl) ?_ _
   have HB := T0.below
   clear T0
   go_wp2
   go_ret
   exact ⟨by rw [HR.out]; rfl, by first | exact HB | exact HB.drew⟩
def btwV (x y z u v t a b c : Int) : Bool := ptB x y z && ptB u v t && ptB a b c && btwS x y z u v t a b c
theorem implBetween_det (x y z u v t a b c : Int) (hx : told x = true) (hy : told y = true) (hz : told z = true) (hu : told u = true) (hv : told v = true) (ht : told t = true) (ha : told a = true) (hb : told b = true) (hc : told c = true) (w : World) : Calls Tryz.prog 49 #[PV x y z, PV u v t, PV a b c] w (VP (.bool (btwV x y z u v t a b c)) w) := by
 have T0 : ArgsB w (((w.alloc (.cells #[.int .u64 (ww3 x), .int .u64 (ww2 x), .int .u64 (ww1 x), .int .u64 (ww0 x), .int .u64 (ww3 y), .int .u64 (ww2 y), .int .u64 (ww1 y), .int .u64 (ww0 y), .int .u64 (ww3 z), .int .u64 (ww2 z), .int .u64 (ww1 z), .int .u64 (ww0 z)] 40)).alloc (.cells #[.int .u64 (ww3 u), .int .u64 (ww2 u), .int .u64 (ww1 u), .int .u64 (ww0 u), .int .u64 (ww3 v), .int .u64 (ww2 v), .int .u64 (ww1 v), .int .u64 (ww0 v), .int .u64 (ww3 t), .int .u64 (ww2 t), .int .u64 (ww1 t), .int .u64 (ww0 t)] 40)).alloc (.cells #[.int .u64 (ww3 a), .int .u64 (ww2 a), .int .u64 (ww1 a), .int .u64 (ww0 a), .int .u64 (ww3 b), .int .u64 (ww2 b), .int .u64 (ww1 b), .int .u64 (ww0 b), .int .u64 (ww3 c), .int .u64 (ww2 c), .int .u64 (ww1 c), .int .u64 (ww0 c)] 40)) [[.int .u64 (ww3 x), .int .u64 (ww2 x), .int .u64 (ww1 x), .int .u64 (ww0 x), .int .u64 (ww3 y), .int .u64 (ww2 y), .int .u64 (ww1 y), .int .u64 (ww0 y), .int .u64 (ww3 z), .int .u64 (ww2 z), .int .u64 (ww1 z), .int .u64 (ww0 z)], [.int .u64 (ww3 u), .int .u64 (ww2 u), .int .u64 (ww1 u), .int .u64 (ww0 u), .int .u64 (ww3 v), .int .u64 (ww2 v), .int .u64 (ww1 v), .int .u64 (ww0 v), .int .u64 (ww3 t), .int .u64 (ww2 t), .int .u64 (ww1 t), .int .u64 (ww0 t)], [.int .u64 (ww3 a), .int .u64 (ww2 a), .int .u64 (ww1 a), .int .u64 (ww0 a), .int .u64 (ww3 b), .int .u64 (ww2 b), .int .u64 (ww1 b), .int .u64 (ww0 b), .int .u64 (ww3 c), .int .u64 (ww2 c), .int .u64 (ww1 c), .int .u64 (ww0 c)]] := ar3 _ _ _ _ _ _ w
 have R1 := pright_det x y z hx hy hz
 have R2 := pright_det u v t hu hv ht
 have R3 := pright_det a b c ha hb hc
 clear hx hy hz hu hv ht ha hb hc
 go_enter Tryz.func49, Tryz.ntmps49
 go_wp2_with fail
 generalize (((w.alloc (.cells #[.int .u64 (ww3 x), .int .u64 (ww2 x), .int .u64 (ww1 x), .int .u64 (ww0 x), .int .u64 (ww3 y), .int .u64 (ww2 y), .int .u64 (ww1 y), .int .u64 (ww0 y), .int .u64 (ww3 z), .int .u64 (ww2 z), .int .u64 (ww1 z), .int .u64 (ww0 z)] 40)).alloc (.cells #[.int .u64 (ww3 u), .int .u64 (ww2 u), .int .u64 (ww1 u), .int .u64 (ww0 u), .int .u64 (ww3 v), .int .u64 (ww2 v), .int .u64 (ww1 v), .int .u64 (ww0 v), .int .u64 (ww3 t), .int .u64 (ww2 t), .int .u64 (ww1 t), .int .u64 (ww0 t)] 40)).alloc (.cells #[.int .u64 (ww3 a), .int .u64 (ww2 a), .int .u64 (ww1 a), .int .u64 (ww0 a), .int .u64 (ww3 b), .int .u64 (ww2 b), .int .u64 (ww1 b), .int .u64 (ww0 b), .int .u64 (ww3 c), .int .u64 (ww2 c), .int .u64 (ww1 c), .int .u64 (ww0 c)] 40)) = W at *
 refine (R1 _).mono ?_
 rintro e w1 ⟨rfl, hB⟩
 replace T0 := T0.step hB
 clear hB
 by_cases h1 : ptB x y z = true
 · rw [h1]
   have X0 : Blk _ w.heap.size _ := T0.b 0 rfl; have Y0 : Blk _ (w.heap.size + 1) _ := T0.b 1 rfl; have Z0 : Blk _ (w.heap.size + 1 + 1) _ := T0.b 2 rfl; obtain ⟨p0, p1, p2, p3, p4, p5, p6, p7, p8, p9, p10, p11⟩ := X0.cs12; obtain ⟨q0, q1, q2, q3, q4, q5, q6, q7, q8, q9, q10, q11⟩ := Y0.cs12; obtain ⟨r0, r1, r2, r3, r4, r5, r6, r7, r8, r9, r10, r11⟩ := Z0.cs12; clear X0 Y0 Z0
   go_wp2_with fail
   refine (R2 _).mono ?_
   rintro e w2 ⟨rfl, hB⟩
   replace T0 := T0.step hB
   clear hB p0 q0 r0 p1 q1 r1 p2 q2 r2 p3 q3 r3 p4 q4 r4 p5 q5 r5 p6 q6 r6 p7 q7 r7 p8 q8 r8 p9 q9 r9 p10 q10 r10 p11 q11 r11
   by_cases h2 : ptB u v t = true
   · rw [h2]
     have X0 : Blk _ w.heap.size _ := T0.b 0 rfl; have Y0 : Blk _ (w.heap.size + 1) _ := T0.b 1 rfl; have Z0 : Blk _ (w.heap.size + 1 + 1) _ := T0.b 2 rfl; obtain ⟨p0, p1, p2, p3, p4, p5, p6, p7, p8, p9, p10, p11⟩ := X0.cs12; obtain ⟨q0, q1, q2, q3, q4, q5, q6, q7, q8, q9, q10, q11⟩ := Y0.cs12; obtain ⟨r0, r1, r2, r3, r4, r5, r6, r7, r8, r9, r10, r11⟩ := Z0.cs12; clear X0 Y0 Z0
     go_wp2_with fail
     refine (R3 _).mono ?_
     rintro e w3 ⟨rfl, hB⟩
     replace T0 := T0.step hB
     clear hB p0 q0 r0 p1 q1 r1 p2 q2 r2 p3 q3 r3 p4 q4 r4 p5 q5 r5 p6 q6 r6 p7 q7 r7 p8 q8 r8 p9 q9 r9 p10 q10 r10 p11 q11 r11
     by_cases h3 : ptB a b c = true
     · rw [h3]
       have HO : Hid (btwV x y z u v t a b c = btwS x y z u v t a b c) := by show _ = _; unfold btwV; rw [h1, h2, h3]; rfl
       obtain ⟨pz, sx, sy, sz⟩ := ptB_small h1
       obtain ⟨pt, su, sv, st⟩ := ptB_small h2
       obtain ⟨pc, sa, sb, sc⟩ := ptB_small h3
       have C := lies_det x y z u v t a b c sx sy sz su sv st sa sb sc pz pt pc
       clear h1 h2 h3 R1 R2 R3 pz pt pc sx sy sz su sv st sa sb sc
       generalize btwS x y z u v t a b c = o at *
       have X0 : Blk _ w.heap.size _ := T0.b 0 rfl; have Y0 : Blk _ (w.heap.size + 1) _ := T0.b 1 rfl; have Z0 : Blk _ (w.heap.size + 1 + 1) _ := T0.b 2 rfl; obtain ⟨p0, p1, p2, p3, p4, p5, p6, p7, p8, p9, p10, p11⟩ := X0.cs12; obtain ⟨q0, q1, q2, q3, q4, q5, q6, q7, q8, q9, q10, q11⟩ := Y0.cs12; obtain ⟨r0, r1, r2, r3, r4, r5, r6, r7, r8, r9, r10, r11⟩ := Z0.cs12; clear X0 Y0 Z0
       go_wp2_with fail
       refine (C _).mono ?_
       rintro e w4 ⟨rfl, hB⟩
       have HB := (T0.step hB).below
       clear hB T0 C p0 q0 r0 p1 q1 r1 p2 q2 r2 p3 q3 r3 p4 q4 r4 p5 q5 r5 p6 q6 r6 p7 q7 r7 p8 q8 r8 p9 q9 r9 p10 q10 r10 p11 q11 r11
       go_wp2
       go_ret
       exact ⟨by rw [HO.out]; rfl, HB⟩
     · replace h3 := Bool.eq_false_iff.2 h3
       rw [h3]
       have HO : Hid (btwV x y z u v t a b c = false) := by show _ = _; unfold btwV; rw [h3]; simp
       have HB := T0.below
       clear T0 h1 h2 h3 R1 R2 R3
       go_wp2
       go_ret
       exact ⟨by rw [HO.out]; rfl, HB⟩
   · replace h2 := Bool.eq_false_iff.2 h2
     rw [h2]
     have HO : Hid (btwV x y z u v t a b c = false) := by show _ = _; unfold btwV; rw [h2]; simp
     have HB := T0.below
     clear T0 h1 h2 R1 R2 R3
     go_wp2
     go_ret
     exact ⟨by rw [HO.out]; rfl, HB⟩
 · replace h1 := Bool.eq_false_iff.2 h1
   rw [h1]
   have HO : Hid (btwV x y z u v t a b c = false) := by show _ = _; unfold btwV; rw [h1]; simp
   have HB := T0.below
   clear T0 h1 R1 R2 R3
   go_wp2
   go_ret
   exact ⟨by rw [HO.out]; rfl, HB⟩
def onI (a b c d x y z : Int) : Bool := segOk a b c d && ptB x y z && btwS a b 1 c d 1 x y z
theorem implOnSeg_det (a b c d x y z : Int) (ia : -9223372036854775808 ≤ a ∧ a ≤ 9223372036854775807) (ib : -9223372036854775808 ≤ b ∧ b ≤ 9223372036854775807) (ic : -9223372036854775808 ≤ c ∧ c ≤ 9223372036854775807) (id : -9223372036854775808 ≤ d ∧ d ≤ 9223372036854775807) (hx : told x = true) (hy : told y = true) (hz : told z = true) (w : World) : Calls Tryz.prog 16 #[Sg a b c d, PV x y z] w (VP (.bool (onI a b c d x y z)) w) := by
 have T0 : ArgsB w ((w.alloc (.cells #[.int .i64 a, .int .i64 b, .int .i64 c, .int .i64 d] 27)).alloc (.cells #[.int .u64 (ww3 x), .int .u64 (ww2 x), .int .u64 (ww1 x), .int .u64 (ww0 x), .int .u64 (ww3 y), .int .u64 (ww2 y), .int .u64 (ww1 y), .int .u64 (ww0 y), .int .u64 (ww3 z), .int .u64 (ww2 z), .int .u64 (ww1 z), .int .u64 (ww0 z)] 40)) [[.int .i64 a, .int .i64 b, .int .i64 c, .int .i64 d], [.int .u64 (ww3 x), .int .u64 (ww2 x), .int .u64 (ww1 x), .int .u64 (ww0 x), .int .u64 (ww3 y), .int .u64 (ww2 y), .int .u64 (ww1 y), .int .u64 (ww0 y), .int .u64 (ww3 z), .int .u64 (ww2 z), .int .u64 (ww1 z), .int .u64 (ww0 z)]] := ar2 _ _ _ _ w
 have SO := fun w => implSegOk_any a b c d _ rfl w
 have EN := fun w => ends_det a b c d (by omega) (by omega) (by omega) (by omega) (by omega) (by omega) (by omega) (by omega) w
 have OR := fun w => implBetween_det a b 1 c d 1 x y z (told_small (small_int (by omega) (by omega))) (told_small (small_int (by omega) (by omega))) (by decide) (told_small (small_int (by omega) (by omega))) (told_small (small_int (by omega) (by omega))) (by decide) hx hy hz w
 clear ia ib ic id hx hy hz
 go_enter Tryz.func16, Tryz.ntmps16
 go_wp2_with fail
 generalize ((w.alloc (.cells #[.int .i64 a, .int .i64 b, .int .i64 c, .int .i64 d] 27)).alloc (.cells #[.int .u64 (ww3 x), .int .u64 (ww2 x), .int .u64 (ww1 x), .int .u64 (ww0 x), .int .u64 (ww3 y), .int .u64 (ww2 y), .int .u64 (ww1 y), .int .u64 (ww0 y), .int .u64 (ww3 z), .int .u64 (ww2 z), .int .u64 (ww1 z), .int .u64 (ww0 z)] 40)) = W at *
 refine (EN _).mono ?_
 rintro e w1 ⟨rfl, hB⟩
 replace T0 := ((T0.step hB).alloc (.cells #[.int .u64 (ww3 a), .int .u64 (ww2 a), .int .u64 (ww1 a), .int .u64 (ww0 a), .int .u64 (ww3 b), .int .u64 (ww2 b), .int .u64 (ww1 b), .int .u64 (ww0 b), .int .u64 (ww3 1), .int .u64 (ww2 1), .int .u64 (ww1 1), .int .u64 (ww0 1)] 40)).alloc (.cells #[.int .u64 (ww3 c), .int .u64 (ww2 c), .int .u64 (ww1 c), .int .u64 (ww0 c), .int .u64 (ww3 d), .int .u64 (ww2 d), .int .u64 (ww1 d), .int .u64 (ww0 d), .int .u64 (ww3 1), .int .u64 (ww2 1), .int .u64 (ww1 1), .int .u64 (ww0 1)] 40)
 clear hB EN
 have Y1 : Blk _ w.heap.size _ := T0.b 0 rfl; obtain ⟨g0, g1, g2, g3⟩ := Y1.cs4; clear Y1
 by_cases hs : segOk a b c d = true
 · obtain ⟨i1, i2, i3, i4⟩ := in6_seg hs
   have HO : Hid (onI a b c d x y z = btwV a b 1 c d 1 x y z) := by show _ = _; unfold onI btwV; rw [hs, ptB_spot i1 i2, ptB_spot i3 i4]; rfl
   rw [hs] at SO
   clear hs i1 i2 i3 i4
   generalize btwV a b 1 c d 1 x y z = o at *
   go_wp2_with fail
   refine (SO _).mono ?_
   rintro e w2 ⟨rfl, hB⟩
   have X1 := ((Blk.new w1 [.int .u64 (ww3 a), .int .u64 (ww2 a), .int .u64 (ww1 a), .int .u64 (ww0 a), .int .u64 (ww3 b), .int .u64 (ww2 b), .int .u64 (ww1 b), .int .u64 (ww0 b), .int .u64 (ww3 1), .int .u64 (ww2 1), .int .u64 (ww1 1), .int .u64 (ww0 1)] _ rfl).alloc _).step hB
   have X2 := (Blk.new (w1.alloc (.cells #[.int .u64 (ww3 a), .int .u64 (ww2 a), .int .u64 (ww1 a), .int .u64 (ww0 a), .int .u64 (ww3 b), .int .u64 (ww2 b), .int .u64 (ww1 b), .int .u64 (ww0 b), .int .u64 (ww3 1), .int .u64 (ww2 1), .int .u64 (ww1 1), .int .u64 (ww0 1)] 40)) [.int .u64 (ww3 c), .int .u64 (ww2 c), .int .u64 (ww1 c), .int .u64 (ww0 c), .int .u64 (ww3 d), .int .u64 (ww2 d), .int .u64 (ww1 d), .int .u64 (ww0 d), .int .u64 (ww3 1), .int .u64 (ww2 1), .int .u64 (ww1 1), .int .u64 (ww0 1)] _ (g := w1.heap.size + 1) (by simp)).step hB
   obtain ⟨k0, k1, k2, k3, k4, k5, k6, k7, k8, k9, k10, k11⟩ := X1.cs12; obtain ⟨l0, l1, l2, l3, l4, l5, l6, l7, l8, l9, l10, l11⟩ := X2.cs12
   replace T0 := T0.step hB
   clear hB SO g0 g1 g2 g3 X1 X2
   have Y0 : Blk _ (w.heap.size + 1) _ := T0.b 1 rfl; obtain ⟨q0, q1, q2, q3, q4, q5, q6, q7, q8, q9, q10, q11⟩ := Y0.cs12; have ql := Y0.lt; clear Y0
   go_wp2_with fail
   refine (OR _).mono ?_
   rintro e w3 ⟨rfl, hB⟩
   have HB := (T0.step hB).below
   clear hB T0 OR q0 q1 q2 q3 q4 q5 q6 q7 q8 q9 q10 q11 ql
   go_wp2
   go_ret
   exact ⟨by rw [HO.out]; rfl, HB⟩
 · replace hs := Bool.eq_false_iff.2 hs
   have HO : Hid (onI a b c d x y z = false) := by show _ = _; unfold onI; rw [hs]; rfl
   rw [hs] at SO
   clear hs OR
   go_wp2_with fail
   refine (SO _).mono ?_
   rintro e w2 ⟨rfl, hB⟩
   have HB := (T0.step hB).below
   clear hB SO T0 g0 g1 g2 g3
   go_wp2
   go_ret
   exact ⟨by rw [HO.out]; rfl, HB⟩
theorem cmpZ_le {x y : Int} : cmpI x y ≤ 0 ↔ x ≤ y := by unfold cmpI; repeat' split <;> omega
theorem cmpZ_eq {x y : Int} : cmpI x y = 0 ↔ x = y := by unfold cmpI; repeat' split <;> omega
theorem ordZ_le (x y z u v t : Int) : ordI x y z u v t ≤ 0 ↔ x * t < u * z ∨ (x * t = u * z ∧ y * t ≤ v * z) := by
 unfold ordI
 by_cases h : cmpI (x * t) (u * z) = 0
 · rw [if_pos h, cmpZ_le]
   have := cmpZ_eq.1 h
   omega
 · rw [if_neg h, cmpZ_le]
   have : x * t ≠ u * z := fun e => h (cmpZ_eq.2 e)
   omega
theorem turn_lin (a b c d x y z : Int) : a * (d * z - 1 * y) - b * (c * z - 1 * x) + 1 * (c * y - d * x) = (c - a) * (y - b * z) - (d - b) * (x - a * z) := by grind
theorem turn_zero {a b c d x y z : Int} : turnI a b 1 c d 1 x y z = 0 ↔ (c - a) * (y - b * z) = (d - b) * (x - a * z) := by
 unfold turnI
 rw [cmpZ_eq, turn_lin]
 omega
theorem seg_less {a b c d : Int} (h : segOk a b c d = true) : a < c ∨ (a = c ∧ b < d) := by
 unfold segOk lessI at h
 simp only [Bool.and_eq_true, decide_eq_true_eq] at h
 exact h.2
theorem btw_seg {a b c d x y z : Int} (h : a < c ∨ (a = c ∧ b < d)) : btwS a b 1 c d 1 x y z = (decide (ordI a b 1 x y z ≤ 0) && decide (ordI x y z c d 1 ≤ 0) && decide (turnI a b 1 c d 1 x y z = 0)) := by
 have h0 : ¬ 0 < ordI a b 1 c d 1 := by
   have := (ordZ_le a b 1 c d 1).2 (by omega)
   omega
 unfold btwS
 rw [if_neg h0]
theorem spot_pt {x y : Int} (h : spotOk x y = true) : ptB x y 1 = true := by
 unfold spotOk at h
 simp only [decide_eq_true_eq] at h
 unfold ptB small
 have h1 : Int.gcd (Int.gcd x y : Int) 1 = 1 := by simp
 rw [h1]
 have a1 : ((x.natAbs : Int) < 1208925819614629174706176) := by omega
 have a2 : ((y.natAbs : Int) < 1208925819614629174706176) := by omega
 rw [decide_eq_true a1, decide_eq_true a2]
 decide
theorem mid_one {a b c d : Int} (h1 : spotOk a b = true) (h2 : spotOk c d = true) : ∃ m1 m2 m3 g, midV a b 1 c d 1 = .tuple #[PV m1 m2 m3, .bool true] ∧ 0 < g ∧ a + c = m1 * g ∧ b + d = m2 * g ∧ 2 = m3 * g ∧ ptB m1 m2 m3 = true := by
 rcases mid_cases a b 1 c d 1 with h | ⟨_, _, m1, m2, m3, g, e0, hg, e1, e2, e3, hp⟩
 · exfalso
   have p1 := spot_pt h1
   have p2 := spot_pt h2
   unfold spotOk at h1 h2
   simp only [decide_eq_true_eq] at h1 h2
   unfold midV at h
   rw [p1, p2, Bool.and_self, if_pos rfl] at h
   simp only [Int.mul_one] at h
   unfold pmV at h
   rw [if_neg (by decide)] at h
   obtain ⟨g, hgg⟩ : ∃ g, (Int.gcd (Int.gcd (a + c) (b + d) : Int) 2 : Int) = g := ⟨_, rfl⟩
   have g0 : 0 < g := by
     have := Int.gcd_pos_of_ne_zero_right (Int.gcd (a + c) (b + d) : Int) (show (2 : Int) ≠ 0 by decide)
     omega
   have bnd : ∀ z : Int, -2000000 ≤ z → z ≤ 2000000 → small (shareZ z g (decide ((2 : Int) < 0))) = true := fun z hz1 hz2 => by
     have q1 : 0 ≤ (z.natAbs : Int) / g := Int.ediv_nonneg (by omega) (by omega)
     have q2 : (z.natAbs : Int) / g ≤ z.natAbs := Int.ediv_le_self _ (by omega)
     unfold small shareZ
     rw [decide_eq_true_eq]
     split <;> omega
   rw [hgg] at h
   unfold ptV at h
   rw [bnd _ (by omega) (by omega), bnd _ (by omega) (by omega), bnd 2 (by decide) (by decide)] at h
   simp at h
 · simp only [Int.mul_one] at e1 e2 e3
   exact ⟨m1, m2, m3, g, e0, hg, e1, e2, e3, hp⟩
theorem seg_spots {a b c d : Int} (h : segOk a b c d = true) : spotOk a b = true ∧ spotOk c d = true := by
 unfold segOk at h
 simp only [Bool.and_eq_true] at h
 exact h.1
def cX (a b c d p q u v : Int) : Int := (c - a) * (p * v - q * u) - (u - p) * (a * d - b * c)
def cY (a b c d p q u v : Int) : Int := (a * d - b * c) * (q - v) - (p * v - q * u) * (b - d)
def cW (a b c d p q u v : Int) : Int := (b - d) * (u - p) - (q - v) * (c - a)
def cG (a b c d p q u v : Int) : Int := (Int.gcd (Int.gcd (cX a b c d p q u v) (cY a b c d p q u v) : Int) (cW a b c d p q u v) : Int)
def cx (a b c d p q u v : Int) : Int := shareZ (cX a b c d p q u v) (cG a b c d p q u v) (decide (cW a b c d p q u v < 0))
def cy (a b c d p q u v : Int) : Int := shareZ (cY a b c d p q u v) (cG a b c d p q u v) (decide (cW a b c d p q u v < 0))
def cz (a b c d p q u v : Int) : Int := shareZ (cW a b c d p q u v) (cG a b c d p q u v) (decide (cW a b c d p q u v < 0))
theorem c_swap (a b c d p q u v : Int) : cX p q u v a b c d = -cX a b c d p q u v ∧ cY p q u v a b c d = -cY a b c d p q u v ∧ cW p q u v a b c d = -cW a b c d p q u v := by
 unfold cX cY cW
 refine ⟨by grind, by grind, by grind⟩
theorem share_neg {x g w : Int} (hw : w ≠ 0) : shareZ (-x) g (decide (-w < 0)) = shareZ x g (decide (w < 0)) := by
 unfold shareZ
 rw [Int.natAbs_neg]
 by_cases h0 : x = 0
 · subst h0
   simp
 · have e1 : decide (-x < 0) = !decide (x < 0) := by
     by_cases h : x < 0
     · rw [decide_eq_true h, decide_eq_false (by omega)]; rfl
     · rw [decide_eq_false h, decide_eq_true (by omega)]; rfl
   have e2 : decide (-w < 0) = !decide (w < 0) := by
     by_cases h : w < 0
     · rw [decide_eq_true h, decide_eq_false (by omega)]; rfl
     · rw [decide_eq_false h, decide_eq_true (by omega)]; rfl
   rw [e1, e2]
   cases decide (x < 0) <;> cases decide (w < 0) <;> rfl
theorem c_point_swap {a b c d p q u v : Int} (hw : cW a b c d p q u v ≠ 0) : cx p q u v a b c d = cx a b c d p q u v ∧ cy p q u v a b c d = cy a b c d p q u v ∧ cz p q u v a b c d = cz a b c d p q u v := by
 obtain ⟨e1, e2, e3⟩ := c_swap a b c d p q u v
 have eg : cG p q u v a b c d = cG a b c d p q u v := by
   unfold cG
   rw [e1, e2, e3, Int.gcd_neg, Int.neg_gcd, Int.gcd_neg]
 unfold cx cy cz
 rw [eg, e1, e2, e3]
 exact ⟨share_neg hw, share_neg hw, share_neg hw⟩
theorem c_parts {a b c d p q u v : Int} (hw : cW a b c d p q u v ≠ 0) : ∃ g s : Int, 0 < g ∧ (s = 1 ∨ s = -1) ∧ cx a b c d p q u v * g = s * cX a b c d p q u v ∧ cy a b c d p q u v * g = s * cY a b c d p q u v ∧ cz a b c d p q u v * g = s * cW a b c d p q u v ∧ 0 < cz a b c d p q u v ∧ 0 < s * cW a b c d p q u v ∧ Int.gcd (Int.gcd (cx a b c d p q u v) (cy a b c d p q u v) : Int) (cz a b c d p q u v) = 1 := by
 obtain ⟨d1, d2, d3⟩ := gcd3_dvd (cX a b c d p q u v) (cY a b c d p q u v) (cW a b c d p q u v)
 have hg : 0 < cG a b c d p q u v := by
   have := Int.gcd_pos_of_ne_zero_right (Int.gcd (cX a b c d p q u v) (cY a b c d p q u v) : Int) hw
   unfold cG
   omega
 have hgd : cG a b c d p q u v = (Int.gcd (Int.gcd (cX a b c d p q u v) (cY a b c d p q u v) : Int) (cW a b c d p q u v) : Int) := rfl
 rw [← hgd] at d1 d2 d3
 unfold cx cy cz
 generalize cX a b c d p q u v = X at *
 generalize cY a b c d p q u v = Y at *
 generalize cW a b c d p q u v = W at *
 generalize cG a b c d p q u v = g at *
 have sq : ∀ n : Int, g ∣ n → shareZ n g (decide (W < 0)) * g = if W < 0 then -n else n := fun n hd => by
   rw [← share_quot (v := n) (V := if W < 0 then -n else n) (g := g) (z := W) rfl hg hd]
   refine Int.ediv_mul_cancel ?_
   split
   · exact Int.dvd_neg.2 hd
   · exact hd
 have k1 := sq X d1
 have k2 := sq Y d2
 have k3 := sq W d3
 have zp : 0 < shareZ W g (decide (W < 0)) := by
   apply Decidable.byContradiction
   intro hn
   have := Int.mul_nonneg (a := -shareZ W g (decide (W < 0))) (b := g) (by omega) (by omega)
   have e : -shareZ W g (decide (W < 0)) * g = -(shareZ W g (decide (W < 0)) * g) := by grind
   split at k3 <;> omega
 have gg : (Int.gcd (Int.gcd (shareZ X g (decide (W < 0))) (shareZ Y g (decide (W < 0))) : Int) (shareZ W g (decide (W < 0))) : Int) * g = 1 * g := by
   rw [← gcd3_times _ _ _ _ hg, k1, k2, k3]
   by_cases h : W < 0
   · rw [if_pos h, if_pos h, if_pos h, Int.gcd_neg, Int.neg_gcd, Int.gcd_neg, ← hgd, Int.one_mul]
   · rw [if_neg h, if_neg h, if_neg h, ← hgd, Int.one_mul]
 have g1 := Int.eq_of_mul_eq_mul_right (by omega) gg
 by_cases h : W < 0
 · rw [if_pos h] at k1 k2 k3
   exact ⟨g, -1, hg, .inr rfl, by omega, by omega, by omega, zp, by omega, by omega⟩
 · rw [if_neg h] at k1 k2 k3
   exact ⟨g, 1, hg, .inl rfl, by omega, by omega, by omega, zp, by omega, by omega⟩
theorem c_small {a b c d p q u v : Int} (hw : cW a b c d p q u v ≠ 0) (h1 : segOk a b c d = true) (h2 : segOk p q u v = true) : small (cx a b c d p q u v) = true ∧ small (cy a b c d p q u v) = true ∧ small (cz a b c d p q u v) = true := by
 obtain ⟨ia, ib, ic, id⟩ := in1_seg h1
 obtain ⟨ip, iq, iu, iv⟩ := in1_seg h2
 have bx : -9000000000000000000 ≤ cX a b c d p q u v ∧ cX a b c d p q u v ≤ 9000000000000000000 := bnd_x a b c d p q u v ia ib ic id ip iq iu iv
 have by' : -9000000000000000000 ≤ cY a b c d p q u v ∧ cY a b c d p q u v ≤ 9000000000000000000 := bnd_y a b c d p q u v ia ib ic id ip iq iu iv
 have bw : -8000000000000 ≤ cW a b c d p q u v ∧ cW a b c d p q u v ≤ 8000000000000 := bnd_w a b c d p q u v ia ib ic id ip iq iu iv
 have hg : 0 < cG a b c d p q u v := by
   have := Int.gcd_pos_of_ne_zero_right (Int.gcd (cX a b c d p q u v) (cY a b c d p q u v) : Int) hw
   unfold cG
   omega
 unfold cx cy cz small
 have s1 := share_abs (n := cX a b c d p q u v) (b := decide (cW a b c d p q u v < 0)) hg
 have s2 := share_abs (n := cY a b c d p q u v) (b := decide (cW a b c d p q u v < 0)) hg
 have s3 := share_abs (n := cW a b c d p q u v) (b := decide (cW a b c d p q u v < 0)) hg
 refine ⟨decide_eq_true (by omega), decide_eq_true (by omega), decide_eq_true (by omega)⟩
theorem ahead {e f g h k s : Int} (hl : 0 < g ∨ (g = 0 ∧ 0 < h)) (hk : 0 < k) (hs : 0 ≤ s) (e1 : e * k = g * s) (e2 : f * k = h * s) : 0 < e ∨ (e = 0 ∧ 0 ≤ f) := by
 have nn : ∀ {z : Int}, 0 ≤ z * k → 0 ≤ z := fun {z} hz => by
   apply Decidable.byContradiction
   intro hn
   have := Int.mul_neg_of_neg_of_pos (a := z) (b := k) (by omega) hk
   omega
 have zz : ∀ {z : Int}, z * k = 0 → z = 0 := fun {z} hz => by
   rcases Int.mul_eq_zero.1 hz with h' | h'
   · exact h'
   · omega
 rcases hl with hg | ⟨hg, hh⟩
 · have h1 : 0 ≤ e := nn (by rw [e1]; exact Int.mul_nonneg (by omega) hs)
   by_cases h0 : e = 0
   · have : g * s = 0 := by rw [← e1, h0, Int.zero_mul]
     have hs0 : s = 0 := by
       rcases Int.mul_eq_zero.1 this with h' | h'
       · omega
       · exact h'
     have hf : f = 0 := zz (by rw [e2, hs0, Int.mul_zero])
     exact .inr ⟨h0, by omega⟩
   · exact .inl (by omega)
 · have he : e = 0 := zz (by rw [e1, hg, Int.zero_mul])
   exact .inr ⟨he, nn (by rw [e2]; exact Int.mul_nonneg (by omega) hs)⟩
theorem c_lines (a b c d p q u v : Int) : cX a b c d p q u v - a * cW a b c d p q u v = (c - a) * turnZ p q u v a b ∧ cY a b c d p q u v - b * cW a b c d p q u v = (d - b) * turnZ p q u v a b ∧ cW a b c d p q u v = turnZ p q u v a b - turnZ p q u v c d := by
 unfold cX cY cW turnZ
 refine ⟨by grind, by grind, by grind⟩
theorem c_on {a b c d p q u v : Int} (h1 : segOk a b c d = true) (h2 : segOk p q u v = true) (hw : cW a b c d p q u v ≠ 0) (hp : pt2 (turnZ p q u v a b) (turnZ p q u v c d) = true) : onI a b c d (cx a b c d p q u v) (cy a b c d p q u v) (cz a b c d p q u v) = true := by
 obtain ⟨s1, s2, s3⟩ := c_small hw h1 h2
 obtain ⟨g, s, hg, hs, k1, k2, k3, zp, wp, hgc⟩ := c_parts hw
 obtain ⟨l1, l2, l3⟩ := c_lines a b c d p q u v
 have hl := seg_less h1
 rw [pt2_iff] at hp
 have hpt : ptB (cx a b c d p q u v) (cy a b c d p q u v) (cz a b c d p q u v) = true := by
   unfold ptB
   rw [s1, s2, s3, hgc, decide_eq_true zp]
   rfl
 unfold onI
 rw [h1, hpt, btw_seg hl]
 clear hpt s1 s2 s3 hgc
 generalize cx a b c d p q u v = x at *
 generalize cy a b c d p q u v = y at *
 generalize cz a b c d p q u v = z at *
 generalize cX a b c d p q u v = X at *
 generalize cY a b c d p q u v = Y at *
 generalize cW a b c d p q u v = W at *
 generalize turnZ p q u v a b = S1 at *
 generalize turnZ p q u v c d = S2 at *
 have sg : 0 ≤ s * S1 ∧ 0 ≤ -(s * S2) := by
   rcases hs with rfl | rfl <;> omega
 have m1 : (x - a * z) * g = (c - a) * (s * S1) := by
   have : (x - a * z) * g = x * g - a * (z * g) := by grind
   rw [this, k1, k3]
   have e : s * X - a * (s * W) = s * (X - a * W) := by grind
   rw [e, l1]; grind
 have m2 : (y - b * z) * g = (d - b) * (s * S1) := by
   have : (y - b * z) * g = y * g - b * (z * g) := by grind
   rw [this, k2, k3]
   have e : s * Y - b * (s * W) = s * (Y - b * W) := by grind
   rw [e, l2]; grind
 have m3 : (c * z - x) * g = (c - a) * (-(s * S2)) := by
   have : (c * z - x) * g = (c - a) * (z * g) - (x - a * z) * g := by grind
   rw [this, m1, k3, l3]; grind
 have m4 : (d * z - y) * g = (d - b) * (-(s * S2)) := by
   have : (d * z - y) * g = (d - b) * (z * g) - (y - b * z) * g := by grind
   rw [this, m2, k3, l3]; grind
 have a1 := ahead (by omega) hg sg.1 m1 m2
 have a2 := ahead (by omega) hg sg.2 m3 m4
 have t0 : (c - a) * (y - b * z) = (d - b) * (x - a * z) := by
   have : ((c - a) * (y - b * z)) * g = ((d - b) * (x - a * z)) * g := by
     have i1 : ((c - a) * (y - b * z)) * g = (c - a) * ((y - b * z) * g) := by grind
     have i2 : ((d - b) * (x - a * z)) * g = (d - b) * ((x - a * z) * g) := by grind
     rw [i1, i2, m1, m2]; grind
   exact Int.eq_of_mul_eq_mul_right (by omega) this
 simp only [Bool.true_and, Bool.and_eq_true, decide_eq_true_eq, ordZ_le, turn_zero, Int.mul_one]
 exact ⟨⟨by omega, by omega⟩, t0⟩
theorem seg_lt {a b c d : Int} (h : segOk a b c d = true) : lessI a b c d = true := (less_iff _ _ _ _).2 (seg_less h)
theorem on_spot {a b c d e f : Int} (h1 : segOk a b c d = true) (h : spotOk e f = true) : onI a b c d e f 1 = true ↔ (turnZ a b c d e f = 0 ∧ (a < e ∨ (a = e ∧ b ≤ f)) ∧ (e < c ∨ (e = c ∧ f ≤ d))) := by
 unfold onI
 rw [h1, spot_pt h, btw_seg (seg_less h1)]
 simp only [Bool.true_and, Bool.and_eq_true, decide_eq_true_eq, ordZ_le, turn_zero, Int.mul_one]
 unfold turnZ
 constructor
 · rintro ⟨⟨r1, r2⟩, r3⟩
   exact ⟨by omega, by omega, by omega⟩
 · rintro ⟨r1, r2, r3⟩
   exact ⟨⟨by omega, by omega⟩, by omega⟩
theorem ends_same {a b p q : Int} : (if lessI p q a b = true then a else p) = (if lessI a b p q = true then p else a) ∧ (if lessI p q a b = true then b else q) = (if lessI a b p q = true then q else b) := by
 constructor <;> split <;> rename_i r1 <;> split <;> rename_i r2 <;> rw [less_iff] at r1 r2 <;> omega
theorem ends_min {c d u v : Int} : (if lessI c d u v = true then c else u) = (if lessI u v c d = true then u else c) ∧ (if lessI c d u v = true then d else v) = (if lessI u v c d = true then v else d) := by
 constructor <;> split <;> rename_i r1 <;> split <;> rename_i r2 <;> rw [less_iff] at r1 r2 <;> omega
theorem along_swap {a b c d p q u v : Int} (h1 : lessI a b c d = true) (h2 : lessI p q u v = true) (h0 : cW a b c d p q u v = 0) : alongV p q u v a b c d = alongV a b c d p q u v := by
 have h0' : ((q - v) * (c - a) - (b - d) * (u - p)) = 0 := by unfold cW at h0; omega
 have hi : (turnZ p q u v a b ≠ 0 ∨ lessI (if lessI u v c d = true then u else c) (if lessI u v c d = true then v else d) (if lessI a b p q = true then p else a) (if lessI a b p q = true then q else b) = true) ↔ (turnZ a b c d p q ≠ 0 ∨ lessI (if lessI u v c d = true then u else c) (if lessI u v c d = true then v else d) (if lessI a b p q = true then p else a) (if lessI a b p q = true then q else b) = true) :=
   or_congr ⟨fun h h' => h (turn_par h0 (less_ne h1) h'), fun h h' => h (turn_par h0' (less_ne h2) h')⟩ Iff.rfl
 obtain ⟨e1, e2⟩ := ends_same (a := a) (b := b) (p := p) (q := q)
 obtain ⟨e3, e4⟩ := ends_min (c := c) (d := d) (u := u) (v := v)
 unfold alongV
 rw [e1, e2, e3, e4]
 by_cases h : turnZ a b c d p q ≠ 0 ∨ lessI (if lessI u v c d = true then u else c) (if lessI u v c d = true then v else d) (if lessI a b p q = true then p else a) (if lessI a b p q = true then q else b) = true
 · rw [if_pos (hi.2 h), if_pos h]
 · rw [if_neg (fun k => h (hi.1 k)), if_neg h]
theorem meet_swap {a b c d p q u v : Int} (h1 : segOk a b c d = true) (h2 : segOk p q u v = true) : meetW p q u v a b c d = meetW a b c d p q u v := by
 have e3 := (c_swap a b c d p q u v).2.2
 by_cases hw : cW a b c d p q u v = 0
 · have hw' : cW p q u v a b c d = 0 := by omega
   unfold meetW
   rw [if_pos (show (q - v) * (c - a) - (b - d) * (u - p) = 0 from hw'), if_pos (show (b - d) * (u - p) - (q - v) * (c - a) = 0 from hw)]
   exact along_swap (seg_lt h1) (seg_lt h2) hw
 · have hw' : ¬ cW p q u v a b c d = 0 := by omega
   obtain ⟨k1, k2, k3⟩ := c_point_swap hw
   unfold meetW
   rw [if_neg (show ¬ (q - v) * (c - a) - (b - d) * (u - p) = 0 from hw'), if_neg (show ¬ (b - d) * (u - p) - (q - v) * (c - a) = 0 from hw), Bool.and_comm]
   change (if _ then Value.tuple #[.int .i64 1, (PV (cx p q u v a b c d) (cy p q u v a b c d) (cz p q u v a b c d)), _] else _) = (if _ then Value.tuple #[.int .i64 1, (PV (cx a b c d p q u v) (cy a b c d p q u v) (cz a b c d p q u v)), _] else _)
   rw [k1, k2, k3]
theorem knd_mid {a b c d p q u v m1 m2 m3 g : Int} (h1 : segOk a b c d = true) (h2 : segOk p q u v = true) (hg : 0 < g) (e1 : p + u = m1 * g) (e2 : q + v = m2 * g) (e3 : 2 = m3 * g) (ho : onI a b c d m1 m2 m3 = true) : kndZ a b c d p q u v ≠ 0 := by
 have hl := seg_less h1
 have hl2 := seg_less h2
 have hm : (g = 1 ∧ m3 = 2) ∨ (g = 2 ∧ m3 = 1) := by
   have hm : 0 < m3 := by
     apply Decidable.byContradiction
     intro hn
     have := Int.mul_nonneg (a := -m3) (b := g) (by omega) (by omega)
     have e : -m3 * g = -(m3 * g) := by grind
     omega
   have h3 : m3 ≤ 2 := by
     have : m3 * 1 ≤ m3 * g := Int.mul_le_mul_of_nonneg_left (by omega) (by omega)
     omega
   rcases (show m3 = 1 ∨ m3 = 2 by omega) with rfl | rfl
   · exact .inr ⟨by omega, rfl⟩
   · exact .inl ⟨by omega, rfl⟩
 unfold onI at ho
 rw [h1, btw_seg hl] at ho
 simp only [Bool.true_and, Bool.and_eq_true, decide_eq_true_eq, ordZ_le, turn_zero, Int.mul_one] at ho
 obtain ⟨_, ⟨lo, hi⟩, ht⟩ := ho
 obtain ⟨lo, hi, ht⟩ : (2 * a < p + u ∨ (2 * a = p + u ∧ 2 * b ≤ q + v)) ∧ (p + u < 2 * c ∨ (p + u = 2 * c ∧ q + v ≤ 2 * d)) ∧ (c - a) * (q + v - 2 * b) = (d - b) * (p + u - 2 * a) := by
   rcases hm with ⟨rfl, rfl⟩ | ⟨rfl, rfl⟩
   · refine ⟨by omega, by omega, ?_⟩
     rw [e1, e2, Int.mul_one, Int.mul_one, Int.mul_comm 2 b, Int.mul_comm 2 a]
     exact ht
   · refine ⟨by omega, by omega, ?_⟩
     have i1 : (c - a) * (q + v - 2 * b) = 2 * ((c - a) * (m2 - b * 1)) := by rw [e2]; grind
     have i2 : (d - b) * (p + u - 2 * a) = 2 * ((d - b) * (m1 - a * 1)) := by rw [e1]; grind
     rw [i1, i2, ht]
 have tt : turnZ a b c d p q + turnZ a b c d u v = 0 := by
   have : turnZ a b c d p q + turnZ a b c d u v = (c - a) * (q + v - 2 * b) - (d - b) * (p + u - 2 * a) := by unfold turnZ; grind
   rw [this, ht]; omega
 have td := turn_diff a b c d p q u v
 intro hz
 rw [knd_zero] at hz
 by_cases h0 : ((b - d) * (u - p) - (q - v) * (c - a)) = 0
 · rw [if_pos h0] at hz
   rcases hz with hz | hz
   · omega
   · rw [less_iff] at hz
     revert hz
     split <;> rename_i r1 <;> split <;> rename_i r2 <;> rw [less_iff] at r1 r2 <;> omega
 · rw [if_neg h0] at hz
   apply hz
   rw [Bool.and_eq_true]
   refine ⟨by rw [pt2_iff]; omega, ?_⟩
   rcases hl with hca | ⟨hca, hdb⟩
   · refine between_sign (s := 2 * c - (p + u)) (r := p + u - 2 * a) (by omega) (by omega) (by omega) ?_
     have i1 : (2 * c - (p + u)) * (b - q) + (p + u - 2 * a) * (d - q) = (c - a) * (v - q) := by
       have : (2 * c - (p + u)) * (b - q) + (p + u - 2 * a) * (d - q) = ((d - b) * (p + u - 2 * a)) + 2 * b * (c - a) - 2 * q * (c - a) := by grind
       rw [this, ← ht]; grind
     have i2 : (2 * c - (p + u)) * (a - p) + (p + u - 2 * a) * (c - p) = (c - a) * (u - p) := by grind
     have : (2 * c - (p + u)) * turnZ p q u v a b + (p + u - 2 * a) * turnZ p q u v c d = (u - p) * ((2 * c - (p + u)) * (b - q) + (p + u - 2 * a) * (d - q)) - (v - q) * ((2 * c - (p + u)) * (a - p) + (p + u - 2 * a) * (c - p)) := by unfold turnZ; grind
     rw [this, i1, i2]; grind
   · subst hca
     refine between_sign (s := 2 * d - (q + v)) (r := q + v - 2 * b) (by omega) (by omega) (by omega) ?_
     have hm2 : p + u = 2 * a := by omega
     have i1 : (2 * d - (q + v)) * (b - q) + (q + v - 2 * b) * (d - q) = (d - b) * (v - q) := by grind
     have i2 : (2 * d - (q + v)) * (a - p) + (q + v - 2 * b) * (a - p) = (d - b) * (u - p) := by
       have : u - p = 2 * (a - p) := by omega
       rw [this]; grind
     have : (2 * d - (q + v)) * turnZ p q u v a b + (q + v - 2 * b) * turnZ p q u v a d = (u - p) * ((2 * d - (q + v)) * (b - q) + (q + v - 2 * b) * (d - q)) - (v - q) * ((2 * d - (q + v)) * (a - p) + (q + v - 2 * b) * (a - p)) := by unfold turnZ; grind
     rw [this, i1, i2]; grind
theorem none_on {a b c d p q u v : Int} (h1 : segOk a b c d = true) (h2 : segOk p q u v = true) (hk : kndZ a b c d p q u v = 0) : onI a b c d p q 1 = false ∧ onI a b c d u v 1 = false ∧ onI p q u v a b 1 = false ∧ onI p q u v c d 1 = false := by
 obtain ⟨s1, s2⟩ := seg_spots h1
 obtain ⟨s3, s4⟩ := seg_spots h2
 have hk' := (knd_swap (seg_lt h1) (seg_lt h2)).1 hk
 refine ⟨?_, ?_, ?_, ?_⟩
 · rw [← Bool.not_eq_true, on_spot h1 s3]
   rintro ⟨r1, r2, r3⟩
   exact knd_on (seg_lt h1) (seg_lt h2) (.inl ⟨rfl, rfl⟩) r1 r2 r3 hk
 · rw [← Bool.not_eq_true, on_spot h1 s4]
   rintro ⟨r1, r2, r3⟩
   exact knd_on (seg_lt h1) (seg_lt h2) (.inr ⟨rfl, rfl⟩) r1 r2 r3 hk
 · rw [← Bool.not_eq_true, on_spot h2 s1]
   rintro ⟨r1, r2, r3⟩
   exact knd_on (seg_lt h2) (seg_lt h1) (.inl ⟨rfl, rfl⟩) r1 r2 r3 hk'
 · rw [← Bool.not_eq_true, on_spot h2 s2]
   rintro ⟨r1, r2, r3⟩
   exact knd_on (seg_lt h2) (seg_lt h1) (.inr ⟨rfl, rfl⟩) r1 r2 r3 hk'
def BothP (a b c d p q u v : Int) : Prop :=
 (meetW a b c d p q u v = .tuple #[.int .i64 0, .agg #[.int .u64 0, .int .u64 0, .int .u64 0, .int .u64 0, .int .u64 0, .int .u64 0, .int .u64 0, .int .u64 0, .int .u64 0, .int .u64 0, .int .u64 0, .int .u64 0], .agg #[.int .u64 0, .int .u64 0, .int .u64 0, .int .u64 0, .int .u64 0, .int .u64 0, .int .u64 0, .int .u64 0, .int .u64 0, .int .u64 0, .int .u64 0, .int .u64 0]] ∧ onI a b c d p q 1 = false ∧ onI a b c d u v 1 = false ∧ onI p q u v a b 1 = false ∧ onI p q u v c d 1 = false ∧ ∀ m1 m2 m3 g : Int, 0 < g → p + u = m1 * g → q + v = m2 * g → 2 = m3 * g → onI a b c d m1 m2 m3 = false) ∨
 (∃ x y z : Int, meetW a b c d p q u v = .tuple #[.int .i64 1, (PV x y z), .agg #[.int .u64 0, .int .u64 0, .int .u64 0, .int .u64 0, .int .u64 0, .int .u64 0, .int .u64 0, .int .u64 0, .int .u64 0, .int .u64 0, .int .u64 0, .int .u64 0]] ∧ small x = true ∧ small y = true ∧ small z = true ∧ onI a b c d x y z = true ∧ onI p q u v x y z = true) ∨
 (∃ x y e f : Int, meetW a b c d p q u v = .tuple #[.int .i64 2, (PV x y 1), (PV e f 1)] ∧ spotOk x y = true ∧ spotOk e f = true ∧ ptCmp x y 1 e f 1 < 0 ∧ onI a b c d x y 1 = true ∧ onI p q u v x y 1 = true ∧ onI a b c d e f 1 = true ∧ onI p q u v e f 1 = true ∧ sideI a b c d p q 1 = 0 ∧ sideI a b c d u v 1 = 0)
theorem both_of {a b c d p q u v : Int} (h1 : segOk a b c d = true) (h2 : segOk p q u v = true) : BothP a b c d p q u v := by
 obtain ⟨s1, s2⟩ := seg_spots h1
 obtain ⟨s3, s4⟩ := seg_spots h2
 have no := fun (hk : kndZ a b c d p q u v = 0) => (show _ ∧ _ from ⟨none_on h1 h2 hk, fun (m1 m2 m3 g : Int) (hg : 0 < g) (e1 : p + u = m1 * g) (e2 : q + v = m2 * g) (e3 : 2 = m3 * g) => (show onI a b c d m1 m2 m3 = false by rw [← Bool.not_eq_true]; intro ho; exact knd_mid h1 h2 hg e1 e2 e3 ho hk)⟩)
 by_cases hw : cW a b c d p q u v = 0
 · have hm : meetW a b c d p q u v = alongV a b c d p q u v := by unfold meetW; rw [if_pos (show (b - d) * (u - p) - (q - v) * (c - a) = 0 from hw)]
   have kz := knd_zero (a := a) (b := b) (c := c) (d := d) (p := p) (q := q) (u := u) (v := v)
   rw [if_pos (show (b - d) * (u - p) - (q - v) * (c - a) = 0 from hw)] at kz
   by_cases hn : turnZ a b c d p q ≠ 0 ∨ lessI (if lessI u v c d = true then u else c) (if lessI u v c d = true then v else d) (if lessI a b p q = true then p else a) (if lessI a b p q = true then q else b) = true
   · have hk := kz.2 hn
     obtain ⟨⟨n1, n2, n3, n4⟩, n5⟩ := no hk
     refine .inl ⟨?_, n1, n2, n3, n4, n5⟩
     rw [hm]; unfold alongV; rw [if_pos hn]
   · have ht : turnZ a b c d p q = 0 := Decidable.byContradiction fun h => hn (.inl h)
     have hle : ¬ lessI (if lessI u v c d = true then u else c) (if lessI u v c d = true then v else d) (if lessI a b p q = true then p else a) (if lessI a b p q = true then q else b) = true := fun h => hn (.inr h)
     have t1 : turnZ p q u v a b = 0 := turn_par hw (less_ne (seg_lt h1)) ht
     have td := turn_diff a b c d p q u v
     have td' := turn_diff p q u v a b c d
     have t2 : turnZ a b c d u v = 0 := by unfold cW at hw; omega
     have t3 : turnZ p q u v c d = 0 := by
       have e := (c_swap a b c d p q u v).2.2
       unfold cW at e hw
       omega
     have l1 := seg_less h1
     have l2 := seg_less h2
     -- the two ends of what they have in common
     obtain ⟨x, y, hx, hy, f1, f2, sf, tf1, tf2, lo1, lo2⟩ : ∃ x y : Int, (if lessI a b p q = true then p else a) = x ∧ (if lessI a b p q = true then q else b) = y ∧ ((a < x ∨ (a = x ∧ b ≤ y)) ∧ (p < x ∨ (p = x ∧ q ≤ y))) ∧ True ∧ spotOk x y = true ∧ turnZ a b c d x y = 0 ∧ turnZ p q u v x y = 0 ∧ True ∧ True := by
       by_cases r : lessI a b p q = true
       · rw [if_pos r, if_pos r]
         rw [less_iff] at r
         exact ⟨p, q, rfl, rfl, by omega, trivial, s3, ht, turn_at1 p q u v, trivial, trivial⟩
       · rw [if_neg r, if_neg r]
         rw [less_iff] at r
         exact ⟨a, b, rfl, rfl, by omega, trivial, s1, turn_at1 a b c d, t1, trivial, trivial⟩
     obtain ⟨e, f, he, hf, g1, sl, te1, te2⟩ : ∃ e f : Int, (if lessI u v c d = true then u else c) = e ∧ (if lessI u v c d = true then v else d) = f ∧ ((e < c ∨ (e = c ∧ f ≤ d)) ∧ (e < u ∨ (e = u ∧ f ≤ v))) ∧ spotOk e f = true ∧ turnZ a b c d e f = 0 ∧ turnZ p q u v e f = 0 := by
       by_cases r : lessI u v c d = true
       · rw [if_pos r, if_pos r]
         rw [less_iff] at r
         exact ⟨u, v, rfl, rfl, by omega, s4, t2, turn_at2 p q u v⟩
       · rw [if_neg r, if_neg r]
         rw [less_iff] at r
         exact ⟨c, d, rfl, rfl, by omega, s2, turn_at2 a b c d, t3⟩
     unfold alongV at hm
     rw [if_neg hn, hx, hy, he, hf] at hm
     rw [hx, hy, he, hf, less_iff] at hle
     have o1 : onI a b c d x y 1 = true := (on_spot h1 sf).2 ⟨tf1, by omega, by omega⟩
     have o2 : onI p q u v x y 1 = true := (on_spot h2 sf).2 ⟨tf2, by omega, by omega⟩
     have o3 : onI a b c d e f 1 = true := (on_spot h1 sl).2 ⟨te1, by omega, by omega⟩
     have o4 : onI p q u v e f 1 = true := (on_spot h2 sl).2 ⟨te2, by omega, by omega⟩
     by_cases hq : x = e ∧ y = f
     · rw [if_pos hq] at hm
       obtain ⟨_, m1, m2, m3⟩ := ptB_small (spot_pt sf)
       exact .inr (.inl ⟨x, y, 1, hm, m1, m2, m3, o1, o2⟩)
     · rw [if_neg hq] at hm
       refine .inr (.inr ⟨x, y, e, f, hm, sf, sl, ?_, o1, o2, o3, o4, ?_, ?_⟩)
       · unfold ptCmp ordI
         rw [spot_pt sf, spot_pt sl, Bool.and_self, if_pos rfl]
         simp only [Int.mul_one]
         have c0 : ∀ r s : Int, (cmpI r s < 0 ↔ r < s) ∧ (cmpI r s = 0 ↔ r = s) := fun r s => by unfold cmpI; constructor <;> (repeat' split) <;> omega
         by_cases hxe : x = e
         · rw [if_pos ((c0 _ _).2.2 hxe), (c0 _ _).1]
           omega
         · rw [if_neg (fun h => hxe ((c0 _ _).2.1 h)), (c0 _ _).1]
           omega
       · unfold sideI
         rw [h1, spot_pt s3, Bool.and_self, if_pos rfl, turn_zero, Int.mul_one, Int.mul_one]
         unfold turnZ at ht
         omega
       · unfold sideI
         rw [h1, spot_pt s4, Bool.and_self, if_pos rfl, turn_zero, Int.mul_one, Int.mul_one]
         unfold turnZ at t2
         omega
 · have kz := knd_zero (a := a) (b := b) (c := c) (d := d) (p := p) (q := q) (u := u) (v := v)
   rw [if_neg (show ¬ (b - d) * (u - p) - (q - v) * (c - a) = 0 from hw)] at kz
   by_cases hp : (pt2 (turnZ a b c d p q) (turnZ a b c d u v) && pt2 (turnZ p q u v a b) (turnZ p q u v c d)) = true
   · have hp' : pt2 (turnZ a b c d p q) (turnZ a b c d u v) = true ∧ pt2 (turnZ p q u v a b) (turnZ p q u v c d) = true := by simpa using hp
     have hw' : cW p q u v a b c d ≠ 0 := by have := (c_swap a b c d p q u v).2.2; omega
     have o1 := c_on h1 h2 hw hp'.2
     have o2 := c_on h2 h1 hw' hp'.1
     obtain ⟨k1, k2, k3⟩ := c_point_swap hw
     rw [k1, k2, k3] at o2
     obtain ⟨m1, m2, m3⟩ := c_small hw h1 h2
     refine .inr (.inl ⟨cx a b c d p q u v, cy a b c d p q u v, cz a b c d p q u v, ?_, m1, m2, m3, o1, o2⟩)
     unfold meetW
     rw [if_neg (show ¬ (b - d) * (u - p) - (q - v) * (c - a) = 0 from hw), if_pos hp]
     rfl
   · have hk := kz.2 hp
     obtain ⟨⟨n1, n2, n3, n4⟩, n5⟩ := no hk
     refine .inl ⟨?_, n1, n2, n3, n4, n5⟩
     unfold meetW
     rw [if_neg (show ¬ (b - d) * (u - p) - (q - v) * (c - a) = 0 from hw), if_neg hp]
end Go.Proofs.YtpnnpkchogooaaaGreat
