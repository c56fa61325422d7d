/- Part 5 of the walks that the proof leans on. -/
import Derived.Test.YtpmnmlhfaoajdaaQt4
import Derived.Test.YtpmnmlhfaoajdaaQt3
import Derived.RangeFuncNested
import Derived.RangeFuncBound
import Derived.RangeFuncCalls
import Derived.RangeFuncLeaves
import Derived.Shelf.Abstract
import Derived.Shelf.RegionOpen
import Derived.WalkKit
import Derived.OwnWalkIn
import Derived.TacticsInMore
import Derived.LoopNIn
import Derived.LoopIn
import Derived.Deep.OwnRows
/- Where two segments meet: the program's walk. -/
namespace Go.Proofs.Ytpmnmlhfaoajdaa
open Go.RowKit
theorem sizeS_det (n : Int) (h0 : -9223372036854775807 ≤ n) (h1 : n ≤ 9223372036854775807) (w : World) : Calls Try.prog 91 #[.int .i64 n] w (VP (.int .u64 (n.natAbs : Int)) w) := by
  by_cases h : 0 ≤ n
  · have e1 : max n (-n) = n := by omega
    have e2 : (n.natAbs : Int) = n := by omega
    rw [e2]
    go_enter Try.func91, Try.ntmps91
    go_wp2
    go_ret
    exact ⟨rfl, Below.refl _ _⟩
  · have e1 : max n (-n) = -n := by omega
    have e2 : (n.natAbs : Int) = -n := by omega
    rw [e2]
    go_enter Try.func91, Try.ntmps91
    go_wp2
    go_ret
    exact ⟨rfl, Below.refl _ _⟩
theorem gcd_3a (x y z : Int) : Int.gcd (y.natAbs : Int) (Int.gcd (x.natAbs : Int) (z.natAbs : Int) : Int) = Int.gcd (Int.gcd x y : Int) z := by
  unfold Int.gcd
  simp only [Int.natAbs_natCast]
  rw [Nat.gcd_assoc, Nat.gcd_left_comm]
theorem gcd3_dvd (x y z : Int) : (Int.gcd (Int.gcd x y : Int) z : Int) ∣ x ∧ (Int.gcd (Int.gcd x y : Int) z : Int) ∣ y ∧ (Int.gcd (Int.gcd x y : Int) z : Int) ∣ z := by
  have h1 : (Int.gcd (Int.gcd x y : Int) z : Int) ∣ (Int.gcd x y : Int) := Int.gcd_dvd_left _ _
  exact ⟨Int.dvd_trans h1 (Int.gcd_dvd_left _ _), Int.dvd_trans h1 (Int.gcd_dvd_right _ _), Int.gcd_dvd_right _ _⟩
theorem tdiv_share {n g z : Int} (hg : 0 < g) (hd : g ∣ n) : n.tdiv (if z < 0 then -g else g) = shareZ n g (decide (z < 0)) := by
  obtain ⟨k, rfl⟩ := hd
  have e : ((g * k).natAbs : Int) / g = (k.natAbs : Int) := by
    rw [Int.natAbs_mul, Int.natCast_mul, show ((g.natAbs : Nat) : Int) = g by omega]
    exact Int.mul_ediv_cancel_left _ (by omega)
  have s1 : g * k < 0 ↔ k < 0 := by
    constructor
    · intro h
      apply Decidable.byContradiction
      intro h'
      have := Int.mul_nonneg (a := g) (b := k) (by omega) (by omega)
      omega
    · intro h
      exact Int.mul_neg_of_pos_of_neg hg h
  unfold shareZ
  rw [e]
  by_cases hz : z < 0
  · rw [if_pos hz, decide_eq_true hz, Int.tdiv_neg, Int.mul_tdiv_cancel_left _ (by omega)]
    by_cases hk : k < 0
    · rw [decide_eq_true (s1.2 hk), if_neg (by decide)]; omega
    · rw [decide_eq_false (fun h => hk (s1.1 h)), if_pos (by decide)]; omega
  · rw [if_neg hz, decide_eq_false hz, Int.mul_tdiv_cancel_left _ (by omega)]
    by_cases hk : k < 0
    · rw [decide_eq_true (s1.2 hk), if_pos (by decide)]; omega
    · rw [decide_eq_false (fun h => hk (s1.1 h)), if_neg (by decide)]; omega
theorem share_abs {n g : Int} {b : Bool} (hg : 0 < g) : -(n.natAbs : Int) ≤ shareZ n g b ∧ shareZ n g b ≤ (n.natAbs : Int) := by
  have h1 := Int.ediv_nonneg (a := (n.natAbs : Int)) (b := g) (by omega) (by omega)
  have h2 := Int.ediv_le_self (a := (n.natAbs : Int)) g (by omega)
  unfold shareZ
  split <;> omega
set_option maxRecDepth 100000 in
set_option maxHeartbeats 4000000 in
theorem smallPoint_det (x y z : Int) (hx : -9000000000000000000 ≤ x ∧ x ≤ 9000000000000000000) (hy : -9000000000000000000 ≤ y ∧ y ≤ 9000000000000000000) (hz : -8000000000000 ≤ z ∧ z ≤ 8000000000000) (h0 : z ≠ 0) (w : World) : Calls Try.prog 62 #[.int .i64 x, .int .i64 y, .int .i64 z] w (VP (.agg #[.int .u64 (ww3 (shareZ x (Int.gcd (Int.gcd x y : Int) z : Int) (decide (z < 0)))), .int .u64 (ww2 (shareZ x (Int.gcd (Int.gcd x y : Int) z : Int) (decide (z < 0)))), .int .u64 (ww1 (shareZ x (Int.gcd (Int.gcd x y : Int) z : Int) (decide (z < 0)))), .int .u64 (ww0 (shareZ x (Int.gcd (Int.gcd x y : Int) z : Int) (decide (z < 0)))), .int .u64 (ww3 (shareZ y (Int.gcd (Int.gcd x y : Int) z : Int) (decide (z < 0)))), .int .u64 (ww2 (shareZ y (Int.gcd (Int.gcd x y : Int) z : Int) (decide (z < 0)))), .int .u64 (ww1 (shareZ y (Int.gcd (Int.gcd x y : Int) z : Int) (decide (z < 0)))), .int .u64 (ww0 (shareZ y (Int.gcd (Int.gcd x y : Int) z : Int) (decide (z < 0)))), .int .u64 (ww3 (shareZ z (Int.gcd (Int.gcd x y : Int) z : Int) (decide (z < 0)))), .int .u64 (ww2 (shareZ z (Int.gcd (Int.gcd x y : Int) z : Int) (decide (z < 0)))), .int .u64 (ww1 (shareZ z (Int.gcd (Int.gcd x y : Int) z : Int) (decide (z < 0)))), .int .u64 (ww0 (shareZ z (Int.gcd (Int.gcd x y : Int) z : Int) (decide (z < 0))))]) w) := by
  have gp : 0 < Int.gcd (Int.gcd x y : Int) z := Int.gcd_pos_of_ne_zero_right _ h0
  have gpI : (0 : Int) < (Int.gcd (Int.gcd x y : Int) z : Int) := by omega
  obtain ⟨d1, d2, d3⟩ := gcd3_dvd x y z
  have gz : (Int.gcd (Int.gcd x y : Int) z : Int) ≤ (z.natAbs : Int) := Int.le_of_dvd (by omega) (Int.dvd_natAbs.2 d3)
  have gx : Int.gcd (x.natAbs : Int) (z.natAbs : Int) ≤ z.natAbs := Nat.gcd_le_right _ (by omega)
  have S1 := sizeS_det x (by omega) (by omega)
  have S2 := sizeS_det y (by omega) (by omega)
  have S3 := sizeS_det z (by omega) (by omega)
  have C1 := gcdW_any (x.natAbs : Int) (z.natAbs : Int) ⟨by omega, by omega⟩ ⟨by omega, by omega⟩
  have C2 := gcdW_any (y.natAbs : Int) (Int.gcd (x.natAbs : Int) (z.natAbs : Int) : Int) ⟨by omega, by omega⟩ ⟨by omega, by omega⟩
  unfold GcdWP at C1 C2
  rw [gcd_3a] at C2
  have q1 := share_abs (n := x) (b := decide (z < 0)) gpI; have q2 := share_abs (n := y) (b := decide (z < 0)) gpI; have q3 := share_abs (n := z) (b := decide (z < 0)) gpI
  have t1 := tdiv_share (z := z) gpI d1; have t2 := tdiv_share (z := z) gpI d2; have t3 := tdiv_share (z := z) gpI d3
  generalize (shareZ x (Int.gcd (Int.gcd x y : Int) z : Int) (decide (z < 0))) = sx at *
  generalize (shareZ y (Int.gcd (Int.gcd x y : Int) z : Int) (decide (z < 0))) = sy at *
  generalize (shareZ z (Int.gcd (Int.gcd x y : Int) z : Int) (decide (z < 0))) = sz at *
  clear d1 d2 d3 gp
  generalize (Int.gcd (Int.gcd x y : Int) z : Int) = gg at *
  generalize (Int.gcd (x.natAbs : Int) (z.natAbs : Int) : Int) = g1 at *
  have B0 := Blk.new w [.int .u64 0, .int .u64 0, .int .u64 0, .int .u64 0, .int .u64 0, .int .u64 0, .int .u64 0, .int .u64 0, .int .u64 0, .int .u64 0, .int .u64 0, .int .u64 0] 41 rfl
  have HB : Below w.heap.size w (w.alloc (.cells #[.int .u64 0, .int .u64 0, .int .u64 0, .int .u64 0, .int .u64 0, .int .u64 0, .int .u64 0, .int .u64 0, .int .u64 0, .int .u64 0, .int .u64 0, .int .u64 0] 41)) := (Below.refl _ _).alloc (Nat.le_refl _) _
  have zb : (z.natAbs : Int) ≤ 8000000000000 := by omega
  have xb : (x.natAbs : Int) ≤ 9000000000000000000 := by omega
  have yb : (y.natAbs : Int) ≤ 9000000000000000000 := by omega
  generalize (x.natAbs : Int) = ax at *
  generalize (y.natAbs : Int) = ay at *
  generalize (z.natAbs : Int) = az at *
  by_cases hz0 : z < 0
  · rw [if_pos hz0] at t1 t2 t3
    have t1' : -(x.tdiv gg) = sx := by rw [← Int.tdiv_neg]; exact t1
    have t2' : -(y.tdiv gg) = sy := by rw [← Int.tdiv_neg]; exact t2
    have t3' : -(z.tdiv gg) = sz := by rw [← Int.tdiv_neg]; exact t3
    go_enter Try.func62, Try.ntmps62
    go_wp2_with fail
    refine (S1 _).mono ?_
    rintro e w1 ⟨rfl, hB⟩
    replace B0 := B0.step hB; replace HB := HB.trans (hB.mono HB.size)
    clear hB
    go_wp2_with fail
    refine (S3 _).mono ?_
    rintro e w2 ⟨rfl, hB⟩
    replace B0 := B0.step hB; replace HB := HB.trans (hB.mono HB.size)
    clear hB
    go_wp2_with fail
    refine (C1 _).mono ?_
    rintro e w3 ⟨rfl, hB⟩
    replace B0 := B0.step hB; replace HB := HB.trans (hB.mono HB.size)
    clear hB
    go_wp2_with fail
    refine (S2 _).mono ?_
    rintro e w4 ⟨rfl, hB⟩
    replace B0 := B0.step hB; replace HB := HB.trans (hB.mono HB.size)
    clear hB
    go_wp2_with fail
    refine (C2 _).mono ?_
    rintro e w5 ⟨rfl, hB⟩
    replace B0 := B0.step hB; replace HB := HB.trans (hB.mono HB.size)
    clear hB
    have hB0 : (-gg) ≠ 0 := by omega
    have O1 := fun w => implOf_det sx w (by omega) (by omega)
    have O2 := fun w => implOf_det sy w (by omega) (by omega)
    have O3 := fun w => implOf_det sz w (by omega) (by omega)
    have tok1 : True := trivial
    have tok2 : True := trivial
    go_upto_region 5 with fail
    have hw1 : IntKind.i64.wrap sx = sx := wrapI (by omega) (by omega)
    have hw2 : IntKind.i64.wrap sy = sy := wrapI (by omega) (by omega)
    have hw3 : IntKind.i64.wrap sz = sz := wrapI (by omega) (by omega)
    clear q1 q2 q3 gz gx zb xb yb S1 S2 S3 C1 C2
    go_region_held3 (fun _ => True) (trivial)
      (first
        | (go_at_call 92; have _t := tok1; refine (O1 _).mono ?_; rintro e w6 ⟨rfl, hB⟩; (first | (replace B0 := B0.step hB; replace HB := HB.trans (hB.mono HB.size)) | (replace B0 := B0.drew.step hB; replace HB := HB.drew.trans (hB.mono HB.drew.size))); clear hB; clear tok1 _t)
        | (go_at_call 92; have _t := tok2; refine (O2 _).mono ?_; rintro e w7 ⟨rfl, hB⟩; (first | (replace B0 := B0.step hB; replace HB := HB.trans (hB.mono HB.size)) | (replace B0 := B0.drew.step hB; replace HB := HB.drew.trans (hB.mono HB.drew.size))); clear hB; clear tok2 _t)
        | (go_at_call 92; refine (O3 _).mono ?_; rintro e w8 ⟨rfl, hB⟩; (first | (replace B0 := B0.step hB; replace HB := HB.trans (hB.mono HB.size)) | (replace B0 := B0.drew.step hB; replace HB := HB.drew.trans (hB.mono HB.drew.size))); clear hB; have oc0 := B0.c 0 rfl; have of0 := B0.f 0 rfl; have oc1 := B0.c 1 rfl; have of1 := B0.f 1 rfl; have oc2 := B0.c 2 rfl; have of2 := B0.f 2 rfl; have oc3 := B0.c 3 rfl; have of3 := B0.f 3 rfl; have oc4 := B0.c 4 rfl; have of4 := B0.f 4 rfl; have oc5 := B0.c 5 rfl; have of5 := B0.f 5 rfl; have oc6 := B0.c 6 rfl; have of6 := B0.f 6 rfl; have oc7 := B0.c 7 rfl; have of7 := B0.f 7 rfl; have oc8 := B0.c 8 rfl; have of8 := B0.f 8 rfl; have oc9 := B0.c 9 rfl; have of9 := B0.f 9 rfl; have oc10 := B0.c 10 rfl; have of10 := B0.f 10 rfl; have oc11 := B0.c 11 rfl; have of11 := B0.f 11 rfl; have ol := B0.lt))
    all_goals clear B0
    all_goals go_wp2
    all_goals refine bodyPost_ret (v := .agg #[.int .u64 (ww3 sx), .int .u64 (ww2 sx), .int .u64 (ww1 sx), .int .u64 (ww0 sx), .int .u64 (ww3 sy), .int .u64 (ww2 sy), .int .u64 (ww1 sy), .int .u64 (ww0 sy), .int .u64 (ww3 sz), .int .u64 (ww2 sz), .int .u64 (ww1 sz), .int .u64 (ww0 sz)]) (by simp [results, Try.results62, go_sem, oc0, oc1, oc2, oc3, oc4, oc5, oc6, oc7, oc8, oc9, oc10, oc11]) rfl ?_
    all_goals refine ⟨rfl, ?_⟩
    all_goals repeat' (refine Below.setCell ?_ (by simp) _)
    all_goals first | exact HB | exact HB.drew
  · rw [if_neg hz0] at t1 t2 t3
    go_enter Try.func62, Try.ntmps62
    go_wp2_with fail
    refine (S1 _).mono ?_
    rintro e w1 ⟨rfl, hB⟩
    replace B0 := B0.step hB; replace HB := HB.trans (hB.mono HB.size)
    clear hB
    go_wp2_with fail
    refine (S3 _).mono ?_
    rintro e w2 ⟨rfl, hB⟩
    replace B0 := B0.step hB; replace HB := HB.trans (hB.mono HB.size)
    clear hB
    go_wp2_with fail
    refine (C1 _).mono ?_
    rintro e w3 ⟨rfl, hB⟩
    replace B0 := B0.step hB; replace HB := HB.trans (hB.mono HB.size)
    clear hB
    go_wp2_with fail
    refine (S2 _).mono ?_
    rintro e w4 ⟨rfl, hB⟩
    replace B0 := B0.step hB; replace HB := HB.trans (hB.mono HB.size)
    clear hB
    go_wp2_with fail
    refine (C2 _).mono ?_
    rintro e w5 ⟨rfl, hB⟩
    replace B0 := B0.step hB; replace HB := HB.trans (hB.mono HB.size)
    clear hB
    have hB0 : gg ≠ 0 := by omega
    have O1 := fun w => implOf_det sx w (by omega) (by omega)
    have O2 := fun w => implOf_det sy w (by omega) (by omega)
    have O3 := fun w => implOf_det sz w (by omega) (by omega)
    have tok1 : True := trivial
    have tok2 : True := trivial
    go_upto_region 5 with fail
    have hw1 : IntKind.i64.wrap sx = sx := wrapI (by omega) (by omega)
    have hw2 : IntKind.i64.wrap sy = sy := wrapI (by omega) (by omega)
    have hw3 : IntKind.i64.wrap sz = sz := wrapI (by omega) (by omega)
    clear q1 q2 q3 gz gx zb xb yb S1 S2 S3 C1 C2
    go_region_held3 (fun _ => True) (trivial)
      (first
        | (go_at_call 92; have _t := tok1; refine (O1 _).mono ?_; rintro e w6 ⟨rfl, hB⟩; (first | (replace B0 := B0.step hB; replace HB := HB.trans (hB.mono HB.size)) | (replace B0 := B0.drew.step hB; replace HB := HB.drew.trans (hB.mono HB.drew.size))); clear hB; clear tok1 _t)
        | (go_at_call 92; have _t := tok2; refine (O2 _).mono ?_; rintro e w7 ⟨rfl, hB⟩; (first | (replace B0 := B0.step hB; replace HB := HB.trans (hB.mono HB.size)) | (replace B0 := B0.drew.step hB; replace HB := HB.drew.trans (hB.mono HB.drew.size))); clear hB; clear tok2 _t)
        | (go_at_call 92; refine (O3 _).mono ?_; rintro e w8 ⟨rfl, hB⟩; (first | (replace B0 := B0.step hB; replace HB := HB.trans (hB.mono HB.size)) | (replace B0 := B0.drew.step hB; replace HB := HB.drew.trans (hB.mono HB.drew.size))); clear hB; have oc0 := B0.c 0 rfl; have of0 := B0.f 0 rfl; have oc1 := B0.c 1 rfl; have of1 := B0.f 1 rfl; have oc2 := B0.c 2 rfl; have of2 := B0.f 2 rfl; have oc3 := B0.c 3 rfl; have of3 := B0.f 3 rfl; have oc4 := B0.c 4 rfl; have of4 := B0.f 4 rfl; have oc5 := B0.c 5 rfl; have of5 := B0.f 5 rfl; have oc6 := B0.c 6 rfl; have of6 := B0.f 6 rfl; have oc7 := B0.c 7 rfl; have of7 := B0.f 7 rfl; have oc8 := B0.c 8 rfl; have of8 := B0.f 8 rfl; have oc9 := B0.c 9 rfl; have of9 := B0.f 9 rfl; have oc10 := B0.c 10 rfl; have of10 := B0.f 10 rfl; have oc11 := B0.c 11 rfl; have of11 := B0.f 11 rfl; have ol := B0.lt))
    all_goals clear B0
    all_goals go_wp2
    all_goals refine bodyPost_ret (v := .agg #[.int .u64 (ww3 sx), .int .u64 (ww2 sx), .int .u64 (ww1 sx), .int .u64 (ww0 sx), .int .u64 (ww3 sy), .int .u64 (ww2 sy), .int .u64 (ww1 sy), .int .u64 (ww0 sy), .int .u64 (ww3 sz), .int .u64 (ww2 sz), .int .u64 (ww1 sz), .int .u64 (ww0 sz)]) (by simp [results, Try.results62, go_sem, oc0, oc1, oc2, oc3, oc4, oc5, oc6, oc7, oc8, oc9, oc10, oc11]) rfl ?_
    all_goals refine ⟨rfl, ?_⟩
    all_goals repeat' (refine Below.setCell ?_ (by simp) _)
    all_goals first | exact HB | exact HB.drew
end Go.Proofs.Ytpmnmlhfaoajdaa

/- Where two segments meet: the program's walk. -/
namespace Go.Proofs.Ytpmnmlhfaoajdaa
open Go.RowKit
/-- Where two right segments meet. -/
def meetW (a b c d p q u v : Int) : Value := if ((b - d) * (u - p) - (q - v) * (c - a)) = 0 then alongV a b c d p q u v else if pt2 (turnZ a b c d p q) (turnZ a b c d u v) && pt2 (turnZ p q u v a b) (turnZ p q u v c d) then .tuple #[.int .i64 1, .agg #[.int .u64 (ww3 (shareZ ((c - a) * (p * v - q * u) - (u - p) * (a * d - b * c)) (Int.gcd (Int.gcd ((c - a) * (p * v - q * u) - (u - p) * (a * d - b * c)) ((a * d - b * c) * (q - v) - (p * v - q * u) * (b - d)) : Int) ((b - d) * (u - p) - (q - v) * (c - a)) : Int) (decide (((b - d) * (u - p) - (q - v) * (c - a)) < 0)))), .int .u64 (ww2 (shareZ ((c - a) * (p * v - q * u) - (u - p) * (a * d - b * c)) (Int.gcd (Int.gcd ((c - a) * (p * v - q * u) - (u - p) * (a * d - b * c)) ((a * d - b * c) * (q - v) - (p * v - q * u) * (b - d)) : Int) ((b - d) * (u - p) - (q - v) * (c - a)) : Int) (decide (((b - d) * (u - p) - (q - v) * (c - a)) < 0)))), .int .u64 (ww1 (shareZ ((c - a) * (p * v - q * u) - (u - p) * (a * d - b * c)) (Int.gcd (Int.gcd ((c - a) * (p * v - q * u) - (u - p) * (a * d - b * c)) ((a * d - b * c) * (q - v) - (p * v - q * u) * (b - d)) : Int) ((b - d) * (u - p) - (q - v) * (c - a)) : Int) (decide (((b - d) * (u - p) - (q - v) * (c - a)) < 0)))), .int .u64 (ww0 (shareZ ((c - a) * (p * v - q * u) - (u - p) * (a * d - b * c)) (Int.gcd (Int.gcd ((c - a) * (p * v - q * u) - (u - p) * (a * d - b * c)) ((a * d - b * c) * (q - v) - (p * v - q * u) * (b - d)) : Int) ((b - d) * (u - p) - (q - v) * (c - a)) : Int) (decide (((b - d) * (u - p) - (q - v) * (c - a)) < 0)))), .int .u64 (ww3 (shareZ ((a * d - b * c) * (q - v) - (p * v - q * u) * (b - d)) (Int.gcd (Int.gcd ((c - a) * (p * v - q * u) - (u - p) * (a * d - b * c)) ((a * d - b * c) * (q - v) - (p * v - q * u) * (b - d)) : Int) ((b - d) * (u - p) - (q - v) * (c - a)) : Int) (decide (((b - d) * (u - p) - (q - v) * (c - a)) < 0)))), .int .u64 (ww2 (shareZ ((a * d - b * c) * (q - v) - (p * v - q * u) * (b - d)) (Int.gcd (Int.gcd ((c - a) * (p * v - q * u) - (u - p) * (a * d - b * c)) ((a * d - b * c) * (q - v) - (p * v - q * u) * (b - d)) : Int) ((b - d) * (u - p) - (q - v) * (c - a)) : Int) (decide (((b - d) * (u - p) - (q - v) * (c - a)) < 0)))), .int .u64 (ww1 (shareZ ((a * d - b * c) * (q - v) - (p * v - q * u) * (b - d)) (Int.gcd (Int.gcd ((c - a) * (p * v - q * u) - (u - p) * (a * d - b * c)) ((a * d - b * c) * (q - v) - (p * v - q * u) * (b - d)) : Int) ((b - d) * (u - p) - (q - v) * (c - a)) : Int) (decide (((b - d) * (u - p) - (q - v) * (c - a)) < 0)))), .int .u64 (ww0 (shareZ ((a * d - b * c) * (q - v) - (p * v - q * u) * (b - d)) (Int.gcd (Int.gcd ((c - a) * (p * v - q * u) - (u - p) * (a * d - b * c)) ((a * d - b * c) * (q - v) - (p * v - q * u) * (b - d)) : Int) ((b - d) * (u - p) - (q - v) * (c - a)) : Int) (decide (((b - d) * (u - p) - (q - v) * (c - a)) < 0)))), .int .u64 (ww3 (shareZ ((b - d) * (u - p) - (q - v) * (c - a)) (Int.gcd (Int.gcd ((c - a) * (p * v - q * u) - (u - p) * (a * d - b * c)) ((a * d - b * c) * (q - v) - (p * v - q * u) * (b - d)) : Int) ((b - d) * (u - p) - (q - v) * (c - a)) : Int) (decide (((b - d) * (u - p) - (q - v) * (c - a)) < 0)))), .int .u64 (ww2 (shareZ ((b - d) * (u - p) - (q - v) * (c - a)) (Int.gcd (Int.gcd ((c - a) * (p * v - q * u) - (u - p) * (a * d - b * c)) ((a * d - b * c) * (q - v) - (p * v - q * u) * (b - d)) : Int) ((b - d) * (u - p) - (q - v) * (c - a)) : Int) (decide (((b - d) * (u - p) - (q - v) * (c - a)) < 0)))), .int .u64 (ww1 (shareZ ((b - d) * (u - p) - (q - v) * (c - a)) (Int.gcd (Int.gcd ((c - a) * (p * v - q * u) - (u - p) * (a * d - b * c)) ((a * d - b * c) * (q - v) - (p * v - q * u) * (b - d)) : Int) ((b - d) * (u - p) - (q - v) * (c - a)) : Int) (decide (((b - d) * (u - p) - (q - v) * (c - a)) < 0)))), .int .u64 (ww0 (shareZ ((b - d) * (u - p) - (q - v) * (c - a)) (Int.gcd (Int.gcd ((c - a) * (p * v - q * u) - (u - p) * (a * d - b * c)) ((a * d - b * c) * (q - v) - (p * v - q * u) * (b - d)) : Int) ((b - d) * (u - p) - (q - v) * (c - a)) : Int) (decide (((b - d) * (u - p) - (q - v) * (c - a)) < 0))))], .agg #[.int .u64 0, .int .u64 0, .int .u64 0, .int .u64 0, .int .u64 0, .int .u64 0, .int .u64 0, .int .u64 0, .int .u64 0, .int .u64 0, .int .u64 0, .int .u64 0]] else .tuple #[.int .i64 0, .agg #[.int .u64 0, .int .u64 0, .int .u64 0, .int .u64 0, .int .u64 0, .int .u64 0, .int .u64 0, .int .u64 0, .int .u64 0, .int .u64 0, .int .u64 0, .int .u64 0], .agg #[.int .u64 0, .int .u64 0, .int .u64 0, .int .u64 0, .int .u64 0, .int .u64 0, .int .u64 0, .int .u64 0, .int .u64 0, .int .u64 0, .int .u64 0, .int .u64 0]]
theorem along_ex (a b c d p q u v : Int) : ∃ (k : Int) (r0 r1 r2 r3 r4 r5 r6 r7 r8 r9 r10 r11 s0 s1 s2 s3 s4 s5 s6 s7 s8 s9 s10 s11 : Int), alongV a b c d p q u v = .tuple #[.int .i64 k, .agg #[.int .u64 r0, .int .u64 r1, .int .u64 r2, .int .u64 r3, .int .u64 r4, .int .u64 r5, .int .u64 r6, .int .u64 r7, .int .u64 r8, .int .u64 r9, .int .u64 r10, .int .u64 r11], .agg #[.int .u64 s0, .int .u64 s1, .int .u64 s2, .int .u64 s3, .int .u64 s4, .int .u64 s5, .int .u64 s6, .int .u64 s7, .int .u64 s8, .int .u64 s9, .int .u64 s10, .int .u64 s11]] := by
  unfold alongV
  generalize (if lessI a b p q = true then p else a) = fx
  generalize (if lessI a b p q = true then q else b) = fy
  generalize (if lessI u v c d = true then u else c) = lx
  generalize (if lessI u v c d = true then v else d) = ly
  split
  · exact ⟨_, _, _, _, _, _, _, _, _, _, _, _, _, _, _, _, _, _, _, _, _, _, _, _, _, rfl⟩
  · split
    · exact ⟨_, _, _, _, _, _, _, _, _, _, _, _, _, _, _, _, _, _, _, _, _, _, _, _, _, rfl⟩
    · exact ⟨_, _, _, _, _, _, _, _, _, _, _, _, _, _, _, _, _, _, _, _, _, _, _, _, _, rfl⟩
theorem meetW_ex (a b c d p q u v : Int) : ∃ (k : Int) (r0 r1 r2 r3 r4 r5 r6 r7 r8 r9 r10 r11 s0 s1 s2 s3 s4 s5 s6 s7 s8 s9 s10 s11 : Int), meetW a b c d p q u v = .tuple #[.int .i64 k, .agg #[.int .u64 r0, .int .u64 r1, .int .u64 r2, .int .u64 r3, .int .u64 r4, .int .u64 r5, .int .u64 r6, .int .u64 r7, .int .u64 r8, .int .u64 r9, .int .u64 r10, .int .u64 r11], .agg #[.int .u64 s0, .int .u64 s1, .int .u64 s2, .int .u64 s3, .int .u64 s4, .int .u64 s5, .int .u64 s6, .int .u64 s7, .int .u64 s8, .int .u64 s9, .int .u64 s10, .int .u64 s11]] := by
  unfold meetW
  split
  · exact along_ex a b c d p q u v
  · split
    · exact ⟨_, _, _, _, _, _, _, _, _, _, _, _, _, _, _, _, _, _, _, _, _, _, _, _, _, rfl⟩
    · exact ⟨_, _, _, _, _, _, _, _, _, _, _, _, _, _, _, _, _, _, _, _, _, _, _, _, _, rfl⟩
set_option maxRecDepth 100000 in
set_option maxHeartbeats 8000000 in
theorem meet_det (a b c d p q u v : Int) (ha : In1 a) (hb : In1 b) (hc : In1 c) (hd : In1 d) (hp : In1 p) (hq : In1 q) (hu : In1 u) (hv : In1 v) (w : World) : Calls Try.prog 32 #[Sg a b c d, Sg p q u v] w (VP (meetW a b c d p q u v) w) := by
  have LS := lineOf_det a b c d ha hb hc hd
  have LT := lineOf_det p q u v hp hq hu hv
  obtain ⟨x1, x2⟩ := mul_in (p := a) (q := d) (M := 1000000) (N := 1000000) ha.1 ha.2 hd.1 hd.2
  obtain ⟨x3, x4⟩ := mul_in (p := b) (q := c) (M := 1000000) (N := 1000000) hb.1 hb.2 hc.1 hc.2
  obtain ⟨y1, y2⟩ := mul_in (p := p) (q := v) (M := 1000000) (N := 1000000) hp.1 hp.2 hv.1 hv.2
  obtain ⟨y3, y4⟩ := mul_in (p := q) (q := u) (M := 1000000) (N := 1000000) hq.1 hq.2 hu.1 hu.2
  have i1 : In2 (b - d) := ⟨by omega, by omega⟩
  have i2 : In2 (c - a) := ⟨by omega, by omega⟩
  have i3 : In3 (a * d - b * c) := ⟨by omega, by omega⟩
  have j1 : In2 (q - v) := ⟨by omega, by omega⟩
  have j2 : In2 (u - p) := ⟨by omega, by omega⟩
  have j3 : In3 (p * v - q * u) := ⟨by omega, by omega⟩
  have CR := crossing_det (b - d) (c - a) (a * d - b * c) (q - v) (u - p) (p * v - q * u) i1 i2 i3 j1 j2 j3
  have bX : -9000000000000000000 ≤ ((c - a) * (p * v - q * u) - (u - p) * (a * d - b * c)) ∧ ((c - a) * (p * v - q * u) - (u - p) * (a * d - b * c)) ≤ 9000000000000000000 := by
    have e1 := mul_in (p := c - a) (q := p * v - q * u) (M := 2000000) (N := 2000000000000) i2.1 i2.2 j3.1 j3.2
    have e2 := mul_in (p := u - p) (q := a * d - b * c) (M := 2000000) (N := 2000000000000) j2.1 j2.2 i3.1 i3.2
    omega
  have bY : -9000000000000000000 ≤ ((a * d - b * c) * (q - v) - (p * v - q * u) * (b - d)) ∧ ((a * d - b * c) * (q - v) - (p * v - q * u) * (b - d)) ≤ 9000000000000000000 := by
    have e1 := mul_in (p := a * d - b * c) (q := q - v) (M := 2000000000000) (N := 2000000) i3.1 i3.2 j1.1 j1.2
    have e2 := mul_in (p := p * v - q * u) (q := b - d) (M := 2000000000000) (N := 2000000) j3.1 j3.2 i1.1 i1.2
    omega
  have bW : -8000000000000 ≤ ((b - d) * (u - p) - (q - v) * (c - a)) ∧ ((b - d) * (u - p) - (q - v) * (c - a)) ≤ 8000000000000 := by
    have e1 := mul_in (p := b - d) (q := u - p) (M := 2000000) (N := 2000000) i1.1 i1.2 j2.1 j2.2
    have e2 := mul_in (p := q - v) (q := c - a) (M := 2000000) (N := 2000000) j1.1 j1.2 i2.1 i2.2
    omega
  have SM := smallPoint_det ((c - a) * (p * v - q * u) - (u - p) * (a * d - b * c)) ((a * d - b * c) * (q - v) - (p * v - q * u) * (b - d)) ((b - d) * (u - p) - (q - v) * (c - a)) bX bY bW
  have AL := meetAlong_det a b c d p q u v ha hb hc hd hp hq hu hv
  have P1 := fun g w h => parts2_det a b c d p q u v ha hb hc hd hp hq hu hv g w h
  have P2 := fun g w h => parts2_det p q u v a b c d hp hq hu hv ha hb hc hd g w h
  have HV : Hid (meetW a b c d p q u v = if ((b - d) * (u - p) - (q - v) * (c - a)) = 0 then alongV a b c d p q u v else if pt2 (turnZ a b c d p q) (turnZ a b c d u v) && pt2 (turnZ p q u v a b) (turnZ p q u v c d) then .tuple #[.int .i64 1, .agg #[.int .u64 (ww3 (shareZ ((c - a) * (p * v - q * u) - (u - p) * (a * d - b * c)) (Int.gcd (Int.gcd ((c - a) * (p * v - q * u) - (u - p) * (a * d - b * c)) ((a * d - b * c) * (q - v) - (p * v - q * u) * (b - d)) : Int) ((b - d) * (u - p) - (q - v) * (c - a)) : Int) (decide (((b - d) * (u - p) - (q - v) * (c - a)) < 0)))), .int .u64 (ww2 (shareZ ((c - a) * (p * v - q * u) - (u - p) * (a * d - b * c)) (Int.gcd (Int.gcd ((c - a) * (p * v - q * u) - (u - p) * (a * d - b * c)) ((a * d - b * c) * (q - v) - (p * v - q * u) * (b - d)) : Int) ((b - d) * (u - p) - (q - v) * (c - a)) : Int) (decide (((b - d) * (u - p) - (q - v) * (c - a)) < 0)))), .int .u64 (ww1 (shareZ ((c - a) * (p * v - q * u) - (u - p) * (a * d - b * c)) (Int.gcd (Int.gcd ((c - a) * (p * v - q * u) - (u - p) * (a * d - b * c)) ((a * d - b * c) * (q - v) - (p * v - q * u) * (b - d)) : Int) ((b - d) * (u - p) - (q - v) * (c - a)) : Int) (decide (((b - d) * (u - p) - (q - v) * (c - a)) < 0)))), .int .u64 (ww0 (shareZ ((c - a) * (p * v - q * u) - (u - p) * (a * d - b * c)) (Int.gcd (Int.gcd ((c - a) * (p * v - q * u) - (u - p) * (a * d - b * c)) ((a * d - b * c) * (q - v) - (p * v - q * u) * (b - d)) : Int) ((b - d) * (u - p) - (q - v) * (c - a)) : Int) (decide (((b - d) * (u - p) - (q - v) * (c - a)) < 0)))), .int .u64 (ww3 (shareZ ((a * d - b * c) * (q - v) - (p * v - q * u) * (b - d)) (Int.gcd (Int.gcd ((c - a) * (p * v - q * u) - (u - p) * (a * d - b * c)) ((a * d - b * c) * (q - v) - (p * v - q * u) * (b - d)) : Int) ((b - d) * (u - p) - (q - v) * (c - a)) : Int) (decide (((b - d) * (u - p) - (q - v) * (c - a)) < 0)))), .int .u64 (ww2 (shareZ ((a * d - b * c) * (q - v) - (p * v - q * u) * (b - d)) (Int.gcd (Int.gcd ((c - a) * (p * v - q * u) - (u - p) * (a * d - b * c)) ((a * d - b * c) * (q - v) - (p * v - q * u) * (b - d)) : Int) ((b - d) * (u - p) - (q - v) * (c - a)) : Int) (decide (((b - d) * (u - p) - (q - v) * (c - a)) < 0)))), .int .u64 (ww1 (shareZ ((a * d - b * c) * (q - v) - (p * v - q * u) * (b - d)) (Int.gcd (Int.gcd ((c - a) * (p * v - q * u) - (u - p) * (a * d - b * c)) ((a * d - b * c) * (q - v) - (p * v - q * u) * (b - d)) : Int) ((b - d) * (u - p) - (q - v) * (c - a)) : Int) (decide (((b - d) * (u - p) - (q - v) * (c - a)) < 0)))), .int .u64 (ww0 (shareZ ((a * d - b * c) * (q - v) - (p * v - q * u) * (b - d)) (Int.gcd (Int.gcd ((c - a) * (p * v - q * u) - (u - p) * (a * d - b * c)) ((a * d - b * c) * (q - v) - (p * v - q * u) * (b - d)) : Int) ((b - d) * (u - p) - (q - v) * (c - a)) : Int) (decide (((b - d) * (u - p) - (q - v) * (c - a)) < 0)))), .int .u64 (ww3 (shareZ ((b - d) * (u - p) - (q - v) * (c - a)) (Int.gcd (Int.gcd ((c - a) * (p * v - q * u) - (u - p) * (a * d - b * c)) ((a * d - b * c) * (q - v) - (p * v - q * u) * (b - d)) : Int) ((b - d) * (u - p) - (q - v) * (c - a)) : Int) (decide (((b - d) * (u - p) - (q - v) * (c - a)) < 0)))), .int .u64 (ww2 (shareZ ((b - d) * (u - p) - (q - v) * (c - a)) (Int.gcd (Int.gcd ((c - a) * (p * v - q * u) - (u - p) * (a * d - b * c)) ((a * d - b * c) * (q - v) - (p * v - q * u) * (b - d)) : Int) ((b - d) * (u - p) - (q - v) * (c - a)) : Int) (decide (((b - d) * (u - p) - (q - v) * (c - a)) < 0)))), .int .u64 (ww1 (shareZ ((b - d) * (u - p) - (q - v) * (c - a)) (Int.gcd (Int.gcd ((c - a) * (p * v - q * u) - (u - p) * (a * d - b * c)) ((a * d - b * c) * (q - v) - (p * v - q * u) * (b - d)) : Int) ((b - d) * (u - p) - (q - v) * (c - a)) : Int) (decide (((b - d) * (u - p) - (q - v) * (c - a)) < 0)))), .int .u64 (ww0 (shareZ ((b - d) * (u - p) - (q - v) * (c - a)) (Int.gcd (Int.gcd ((c - a) * (p * v - q * u) - (u - p) * (a * d - b * c)) ((a * d - b * c) * (q - v) - (p * v - q * u) * (b - d)) : Int) ((b - d) * (u - p) - (q - v) * (c - a)) : Int) (decide (((b - d) * (u - p) - (q - v) * (c - a)) < 0))))], .agg #[.int .u64 0, .int .u64 0, .int .u64 0, .int .u64 0, .int .u64 0, .int .u64 0, .int .u64 0, .int .u64 0, .int .u64 0, .int .u64 0, .int .u64 0, .int .u64 0]] else .tuple #[.int .i64 0, .agg #[.int .u64 0, .int .u64 0, .int .u64 0, .int .u64 0, .int .u64 0, .int .u64 0, .int .u64 0, .int .u64 0, .int .u64 0, .int .u64 0, .int .u64 0, .int .u64 0], .agg #[.int .u64 0, .int .u64 0, .int .u64 0, .int .u64 0, .int .u64 0, .int .u64 0, .int .u64 0, .int .u64 0, .int .u64 0, .int .u64 0, .int .u64 0, .int .u64 0]]) := rfl
  generalize pt2 (turnZ a b c d p q) (turnZ a b c d u v) = f1 at *
  generalize pt2 (turnZ p q u v a b) (turnZ p q u v c d) = f2 at *
  clear x1 x2 x3 x4 y1 y2 y3 y4 i1 i2 i3 j1 j2 j3 bX bY
  generalize ((c - a) * (p * v - q * u) - (u - p) * (a * d - b * c)) = cx at *
  generalize ((a * d - b * c) * (q - v) - (p * v - q * u) * (b - d)) = cy at *
  generalize ((b - d) * (u - p) - (q - v) * (c - a)) = cw at *
  generalize b - d = l1 at *
  generalize c - a = l2 at *
  generalize a * d - b * c = l3 at *
  generalize q - v = m1 at *
  generalize u - p = m2 at *
  generalize p * v - q * u = m3 at *
  clear ha hb hc hd hp hq hu hv
  have tok1 : True := trivial
  have T0 : ArgsB w ((((w.alloc (.cells #[.int .i64 a, .int .i64 b, .int .i64 c, .int .i64 d] 64)).alloc (.cells #[.int .i64 p, .int .i64 q, .int .i64 u, .int .i64 v] 64)).alloc (.cells #[.int .u64 0, .int .u64 0, .int .u64 0, .int .u64 0, .int .u64 0, .int .u64 0, .int .u64 0, .int .u64 0, .int .u64 0, .int .u64 0, .int .u64 0, .int .u64 0] 41)).alloc (.cells #[.int .u64 0, .int .u64 0, .int .u64 0, .int .u64 0, .int .u64 0, .int .u64 0, .int .u64 0, .int .u64 0, .int .u64 0, .int .u64 0, .int .u64 0, .int .u64 0] 41)) [[.int .i64 a, .int .i64 b, .int .i64 c, .int .i64 d], [.int .i64 p, .int .i64 q, .int .i64 u, .int .i64 v], [.int .u64 0, .int .u64 0, .int .u64 0, .int .u64 0, .int .u64 0, .int .u64 0, .int .u64 0, .int .u64 0, .int .u64 0, .int .u64 0, .int .u64 0, .int .u64 0], [.int .u64 0, .int .u64 0, .int .u64 0, .int .u64 0, .int .u64 0, .int .u64 0, .int .u64 0, .int .u64 0, .int .u64 0, .int .u64 0, .int .u64 0, .int .u64 0]] := ar4 _ _ _ _ _ _ _ _ w
  go_enter Try.func32, Try.ntmps32
  go_upto_region 1 with fail
  generalize ((((w.alloc (.cells #[.int .i64 a, .int .i64 b, .int .i64 c, .int .i64 d] 64)).alloc (.cells #[.int .i64 p, .int .i64 q, .int .i64 u, .int .i64 v] 64)).alloc (.cells #[.int .u64 0, .int .u64 0, .int .u64 0, .int .u64 0, .int .u64 0, .int .u64 0, .int .u64 0, .int .u64 0, .int .u64 0, .int .u64 0, .int .u64 0, .int .u64 0] 41)).alloc (.cells #[.int .u64 0, .int .u64 0, .int .u64 0, .int .u64 0, .int .u64 0, .int .u64 0, .int .u64 0, .int .u64 0, .int .u64 0, .int .u64 0, .int .u64 0, .int .u64 0] 41)) = W at *
  go_region_held3 (fun w' => w'.cell? ⟨w.heap.size, 0, none⟩ = some (.int .i64 a) ∧ w'.cell? ⟨w.heap.size, 1, none⟩ = some (.int .i64 b) ∧ w'.cell? ⟨w.heap.size, 2, none⟩ = some (.int .i64 c) ∧ w'.cell? ⟨w.heap.size, 3, none⟩ = some (.int .i64 d) ∧ w'.cell? ⟨w.heap.size + 1, 0, none⟩ = some (.int .i64 p) ∧ w'.cell? ⟨w.heap.size + 1, 1, none⟩ = some (.int .i64 q) ∧ w'.cell? ⟨w.heap.size + 1, 2, none⟩ = some (.int .i64 u) ∧ w'.cell? ⟨w.heap.size + 1, 3, none⟩ = some (.int .i64 v)) ((refine ml_cells ?_ <;> repeat (first | (with_reducible exact T0) | (with_reducible refine ArgsB.drew ?_))))
    (first
      | (go_at_call 58; have _t := tok1; refine (LS _).mono ?_; rintro e w1 ⟨rfl, hB⟩; (first | (have T1 := T0.step hB) | (have T1 := T0.drew.step hB)); clear T0; have T0 := T1; clear T1 hB tok1 _t)
      | (go_at_call 58; refine (LT _).mono ?_; rintro e w2 ⟨rfl, hB⟩; (first | (have T1 := T0.step hB) | (have T1 := T0.drew.step hB)); clear T0; have T0 := T1; clear T1 hB)
      | (go_at_call 59; refine (CR _).mono ?_; rintro e w3 ⟨rfl, hB⟩; (first | (have T1 := T0.step hB) | (have T1 := T0.drew.step hB)); clear T0; have T0 := T1; clear T1 hB))
  all_goals clear LS LT CR
  all_goals (
    have BS : Blk _ w.heap.size _ := T0.b 0 rfl; have BT : Blk _ (w.heap.size + 1) _ := T0.b 1 rfl; have BP : Blk _ (w.heap.size + 1 + 1) _ := T0.b 2 rfl; have BQ : Blk _ (w.heap.size + 1 + 1 + 1) _ := T0.b 3 rfl; have HB := T0.below
    clear T0
    by_cases h0 : cw = 0
    · have HO1 : Hid (meetW a b c d p q u v = alongV a b c d p q u v) := by show _ = _; rw [HV.out, if_pos h0]
      obtain ⟨k, r0, r1, r2, r3, r4, r5, r6, r7, r8, r9, r10, r11, s0, s1, s2, s3, s4, s5, s6, s7, s8, s9, s10, s11, hk⟩ := along_ex a b c d p q u v
      have HO : Hid (meetW a b c d p q u v = .tuple #[.int .i64 k, .agg #[.int .u64 r0, .int .u64 r1, .int .u64 r2, .int .u64 r3, .int .u64 r4, .int .u64 r5, .int .u64 r6, .int .u64 r7, .int .u64 r8, .int .u64 r9, .int .u64 r10, .int .u64 r11], .agg #[.int .u64 s0, .int .u64 s1, .int .u64 s2, .int .u64 s3, .int .u64 s4, .int .u64 s5, .int .u64 s6, .int .u64 s7, .int .u64 s8, .int .u64 s9, .int .u64 s10, .int .u64 s11]]) := HO1.out.trans hk
      rw [hk] at AL
      subst h0
      clear HV hk HO1 SM P1 P2 bW
      obtain ⟨sc0, sc1, sc2, sc3⟩ := BS.cs4; have sl := BS.lt; obtain ⟨tc0, tc1, tc2, tc3⟩ := BT.cs4; have tl := BT.lt
      go_wp2_with fail
      refine (AL _).mono ?_
      rintro e w4 ⟨rfl, hB⟩
      replace BS := BS.step hB
      replace BT := BT.step hB
      replace BP := BP.step hB
      replace BQ := BQ.step hB
      replace HB := HB.trans (hB.mono HB.size)
      clear hB sc0 sc1 sc2 sc3 sl tc0 tc1 tc2 tc3 tl
      clear BS BT AL
      obtain ⟨xc0, xf0, xc1, xf1, xc2, xf2, xc3, xf3, xc4, xf4, xc5, xf5, xc6, xf6, xc7, xf7, xc8, xf8, xc9, xf9, xc10, xf10, xc11, xf11⟩ := BP.cf12; have xl := BP.lt; obtain ⟨yc0, yf0, yc1, yf1, yc2, yf2, yc3, yf3, yc4, yf4, yc5, yf5, yc6, yf6, yc7, yf7, yc8, yf8, yc9, yf9, yc10, yf10, yc11, yf11⟩ := BQ.cf12; have yl := BQ.lt
      go_wp2
      refine put24_ret BP BQ (by omega) (by omega) (by omega) HB fun WF F0 F1 HBF => ?_
      clear BP BQ HB xc0 xf0 xc1 xf1 xc2 xf2 xc3 xf3 xc4 xf4 xc5 xf5 xc6 xf6 xc7 xf7 xc8 xf8 xc9 xf9 xc10 xf10 xc11 xf11 xl yc0 yf0 yc1 yf1 yc2 yf2 yc3 yf3 yc4 yf4 yc5 yf5 yc6 yf6 yc7 yf7 yc8 yf8 yc9 yf9 yc10 yf10 yc11 yf11 yl
      have m0 := F0.c 0 rfl; have n0 := F1.c 0 rfl; have m1 := F0.c 1 rfl; have n1 := F1.c 1 rfl; have m2 := F0.c 2 rfl; have n2 := F1.c 2 rfl; have m3 := F0.c 3 rfl; have n3 := F1.c 3 rfl; have m4 := F0.c 4 rfl; have n4 := F1.c 4 rfl; have m5 := F0.c 5 rfl; have n5 := F1.c 5 rfl; have m6 := F0.c 6 rfl; have n6 := F1.c 6 rfl; have m7 := F0.c 7 rfl; have n7 := F1.c 7 rfl; have m8 := F0.c 8 rfl; have n8 := F1.c 8 rfl; have m9 := F0.c 9 rfl; have n9 := F1.c 9 rfl; have m10 := F0.c 10 rfl; have n10 := F1.c 10 rfl; have m11 := F0.c 11 rfl; have n11 := F1.c 11 rfl
      refine bodyPost_ret (v := .tuple #[.int .i64 k, .agg #[.int .u64 r0, .int .u64 r1, .int .u64 r2, .int .u64 r3, .int .u64 r4, .int .u64 r5, .int .u64 r6, .int .u64 r7, .int .u64 r8, .int .u64 r9, .int .u64 r10, .int .u64 r11], .agg #[.int .u64 s0, .int .u64 s1, .int .u64 s2, .int .u64 s3, .int .u64 s4, .int .u64 s5, .int .u64 s6, .int .u64 s7, .int .u64 s8, .int .u64 s9, .int .u64 s10, .int .u64 s11]]) (by simp [results, Try.results32, go_sem, m0, n0, m1, n1, m2, n2, m3, n3, m4, n4, m5, n5, m6, n6, m7, n7, m8, n8, m9, n9, m10, n10, m11, n11]) rfl ?_
      exact ⟨by rw [HO.out], by first | exact HBF | exact HBF.drew⟩
    · have SM := SM h0
      obtain ⟨sc0, sc1, sc2, sc3⟩ := BS.cs4; have sl := BS.lt; obtain ⟨tc0, tc1, tc2, tc3⟩ := BT.cs4; have tl := BT.lt
      go_wp2_with fail
      refine (P1 _ _ (Blk.new _ _ _ rfl)).mono ?_
      rintro e w4 ⟨rfl, hB⟩
      replace BS := (BS.alloc _).step hB; replace BT := (BT.alloc _).step hB; replace BP := (BP.alloc _).step hB; replace BQ := (BQ.alloc _).step hB; replace HB := (HB.alloc HB.size _).trans (hB.mono (HB.alloc HB.size _).size)
      clear hB sc0 sc1 sc2 sc3 sl tc0 tc1 tc2 tc3 tl P1
      cases f1
      · have HO : Hid (meetW a b c d p q u v = .tuple #[.int .i64 0, .agg #[.int .u64 0, .int .u64 0, .int .u64 0, .int .u64 0, .int .u64 0, .int .u64 0, .int .u64 0, .int .u64 0, .int .u64 0, .int .u64 0, .int .u64 0, .int .u64 0], .agg #[.int .u64 0, .int .u64 0, .int .u64 0, .int .u64 0, .int .u64 0, .int .u64 0, .int .u64 0, .int .u64 0, .int .u64 0, .int .u64 0, .int .u64 0, .int .u64 0]]) := by show _ = _; rw [HV.out, if_neg h0]; rfl
        clear BS BT AL SM P2 HV bW
        obtain ⟨xc0, xf0, xc1, xf1, xc2, xf2, xc3, xf3, xc4, xf4, xc5, xf5, xc6, xf6, xc7, xf7, xc8, xf8, xc9, xf9, xc10, xf10, xc11, xf11⟩ := BP.cf12; have xl := BP.lt; obtain ⟨yc0, yf0, yc1, yf1, yc2, yf2, yc3, yf3, yc4, yf4, yc5, yf5, yc6, yf6, yc7, yf7, yc8, yf8, yc9, yf9, yc10, yf10, yc11, yf11⟩ := BQ.cf12; have yl := BQ.lt
        go_wp2
        refine put24_ret BP BQ (by omega) (by omega) (by omega) HB fun WF F0 F1 HBF => ?_
        clear BP BQ HB xc0 xf0 xc1 xf1 xc2 xf2 xc3 xf3 xc4 xf4 xc5 xf5 xc6 xf6 xc7 xf7 xc8 xf8 xc9 xf9 xc10 xf10 xc11 xf11 xl yc0 yf0 yc1 yf1 yc2 yf2 yc3 yf3 yc4 yf4 yc5 yf5 yc6 yf6 yc7 yf7 yc8 yf8 yc9 yf9 yc10 yf10 yc11 yf11 yl
        have m0 := F0.c 0 rfl; have n0 := F1.c 0 rfl; have m1 := F0.c 1 rfl; have n1 := F1.c 1 rfl; have m2 := F0.c 2 rfl; have n2 := F1.c 2 rfl; have m3 := F0.c 3 rfl; have n3 := F1.c 3 rfl; have m4 := F0.c 4 rfl; have n4 := F1.c 4 rfl; have m5 := F0.c 5 rfl; have n5 := F1.c 5 rfl; have m6 := F0.c 6 rfl; have n6 := F1.c 6 rfl; have m7 := F0.c 7 rfl; have n7 := F1.c 7 rfl; have m8 := F0.c 8 rfl; have n8 := F1.c 8 rfl; have m9 := F0.c 9 rfl; have n9 := F1.c 9 rfl; have m10 := F0.c 10 rfl; have n10 := F1.c 10 rfl; have m11 := F0.c 11 rfl; have n11 := F1.c 11 rfl
        refine bodyPost_ret (v := .tuple #[.int .i64 0, .agg #[.int .u64 0, .int .u64 0, .int .u64 0, .int .u64 0, .int .u64 0, .int .u64 0, .int .u64 0, .int .u64 0, .int .u64 0, .int .u64 0, .int .u64 0, .int .u64 0], .agg #[.int .u64 0, .int .u64 0, .int .u64 0, .int .u64 0, .int .u64 0, .int .u64 0, .int .u64 0, .int .u64 0, .int .u64 0, .int .u64 0, .int .u64 0, .int .u64 0]]) (by simp [results, Try.results32, go_sem, m0, n0, m1, n1, m2, n2, m3, n3, m4, n4, m5, n5, m6, n6, m7, n7, m8, n8, m9, n9, m10, n10, m11, n11]) rfl ?_
        exact ⟨by rw [HO.out], by first | exact HBF | exact HBF.drew⟩
      · obtain ⟨sc0, sc1, sc2, sc3⟩ := BS.cs4; have sl := BS.lt; obtain ⟨tc0, tc1, tc2, tc3⟩ := BT.cs4; have tl := BT.lt
        go_wp2_with fail
        refine (P2 _ _ (Blk.new _ _ _ rfl)).mono ?_
        rintro e w5 ⟨rfl, hB⟩
        replace BP := (BP.alloc _).step hB; replace BQ := (BQ.alloc _).step hB; replace HB := (HB.alloc HB.size _).trans (hB.mono (HB.alloc HB.size _).size)
        clear hB sc0 sc1 sc2 sc3 sl tc0 tc1 tc2 tc3 tl P2 BS BT
        cases f2
        · have HO : Hid (meetW a b c d p q u v = .tuple #[.int .i64 0, .agg #[.int .u64 0, .int .u64 0, .int .u64 0, .int .u64 0, .int .u64 0, .int .u64 0, .int .u64 0, .int .u64 0, .int .u64 0, .int .u64 0, .int .u64 0, .int .u64 0], .agg #[.int .u64 0, .int .u64 0, .int .u64 0, .int .u64 0, .int .u64 0, .int .u64 0, .int .u64 0, .int .u64 0, .int .u64 0, .int .u64 0, .int .u64 0, .int .u64 0]]) := by show _ = _; rw [HV.out, if_neg h0]; rfl
          clear AL SM HV bW
          obtain ⟨xc0, xf0, xc1, xf1, xc2, xf2, xc3, xf3, xc4, xf4, xc5, xf5, xc6, xf6, xc7, xf7, xc8, xf8, xc9, xf9, xc10, xf10, xc11, xf11⟩ := BP.cf12; have xl := BP.lt; obtain ⟨yc0, yf0, yc1, yf1, yc2, yf2, yc3, yf3, yc4, yf4, yc5, yf5, yc6, yf6, yc7, yf7, yc8, yf8, yc9, yf9, yc10, yf10, yc11, yf11⟩ := BQ.cf12; have yl := BQ.lt
          go_wp2
          refine put24_ret BP BQ (by omega) (by omega) (by omega) HB fun WF F0 F1 HBF => ?_
          clear BP BQ HB xc0 xf0 xc1 xf1 xc2 xf2 xc3 xf3 xc4 xf4 xc5 xf5 xc6 xf6 xc7 xf7 xc8 xf8 xc9 xf9 xc10 xf10 xc11 xf11 xl yc0 yf0 yc1 yf1 yc2 yf2 yc3 yf3 yc4 yf4 yc5 yf5 yc6 yf6 yc7 yf7 yc8 yf8 yc9 yf9 yc10 yf10 yc11 yf11 yl
          have m0 := F0.c 0 rfl; have n0 := F1.c 0 rfl; have m1 := F0.c 1 rfl; have n1 := F1.c 1 rfl; have m2 := F0.c 2 rfl; have n2 := F1.c 2 rfl; have m3 := F0.c 3 rfl; have n3 := F1.c 3 rfl; have m4 := F0.c 4 rfl; have n4 := F1.c 4 rfl; have m5 := F0.c 5 rfl; have n5 := F1.c 5 rfl; have m6 := F0.c 6 rfl; have n6 := F1.c 6 rfl; have m7 := F0.c 7 rfl; have n7 := F1.c 7 rfl; have m8 := F0.c 8 rfl; have n8 := F1.c 8 rfl; have m9 := F0.c 9 rfl; have n9 := F1.c 9 rfl; have m10 := F0.c 10 rfl; have n10 := F1.c 10 rfl; have m11 := F0.c 11 rfl; have n11 := F1.c 11 rfl
          refine bodyPost_ret (v := .tuple #[.int .i64 0, .agg #[.int .u64 0, .int .u64 0, .int .u64 0, .int .u64 0, .int .u64 0, .int .u64 0, .int .u64 0, .int .u64 0, .int .u64 0, .int .u64 0, .int .u64 0, .int .u64 0], .agg #[.int .u64 0, .int .u64 0, .int .u64 0, .int .u64 0, .int .u64 0, .int .u64 0, .int .u64 0, .int .u64 0, .int .u64 0, .int .u64 0, .int .u64 0, .int .u64 0]]) (by simp [results, Try.results32, go_sem, m0, n0, m1, n1, m2, n2, m3, n3, m4, n4, m5, n5, m6, n6, m7, n7, m8, n8, m9, n9, m10, n10, m11, n11]) rfl ?_
          exact ⟨by rw [HO.out], by first | exact HBF | exact HBF.drew⟩
        · have HO : Hid (meetW a b c d p q u v = .tuple #[.int .i64 1, .agg #[.int .u64 (ww3 (shareZ cx (Int.gcd (Int.gcd cx cy : Int) cw : Int) (decide (cw < 0)))), .int .u64 (ww2 (shareZ cx (Int.gcd (Int.gcd cx cy : Int) cw : Int) (decide (cw < 0)))), .int .u64 (ww1 (shareZ cx (Int.gcd (Int.gcd cx cy : Int) cw : Int) (decide (cw < 0)))), .int .u64 (ww0 (shareZ cx (Int.gcd (Int.gcd cx cy : Int) cw : Int) (decide (cw < 0)))), .int .u64 (ww3 (shareZ cy (Int.gcd (Int.gcd cx cy : Int) cw : Int) (decide (cw < 0)))), .int .u64 (ww2 (shareZ cy (Int.gcd (Int.gcd cx cy : Int) cw : Int) (decide (cw < 0)))), .int .u64 (ww1 (shareZ cy (Int.gcd (Int.gcd cx cy : Int) cw : Int) (decide (cw < 0)))), .int .u64 (ww0 (shareZ cy (Int.gcd (Int.gcd cx cy : Int) cw : Int) (decide (cw < 0)))), .int .u64 (ww3 (shareZ cw (Int.gcd (Int.gcd cx cy : Int) cw : Int) (decide (cw < 0)))), .int .u64 (ww2 (shareZ cw (Int.gcd (Int.gcd cx cy : Int) cw : Int) (decide (cw < 0)))), .int .u64 (ww1 (shareZ cw (Int.gcd (Int.gcd cx cy : Int) cw : Int) (decide (cw < 0)))), .int .u64 (ww0 (shareZ cw (Int.gcd (Int.gcd cx cy : Int) cw : Int) (decide (cw < 0))))], .agg #[.int .u64 0, .int .u64 0, .int .u64 0, .int .u64 0, .int .u64 0, .int .u64 0, .int .u64 0, .int .u64 0, .int .u64 0, .int .u64 0, .int .u64 0, .int .u64 0]]) := by show _ = _; rw [HV.out, if_neg h0]; rfl
          generalize (shareZ cx (Int.gcd (Int.gcd cx cy : Int) cw : Int) (decide (cw < 0))) = sx at *
          generalize (shareZ cy (Int.gcd (Int.gcd cx cy : Int) cw : Int) (decide (cw < 0))) = sy at *
          generalize (shareZ cw (Int.gcd (Int.gcd cx cy : Int) cw : Int) (decide (cw < 0))) = sz at *
          clear AL HV bW
          go_wp2_with fail
          refine (SM _).mono ?_
          rintro e w6 ⟨rfl, hB⟩
          replace BP := BP.step hB; replace BQ := BQ.step hB; replace HB := HB.trans (hB.mono HB.size)
          clear hB SM
          obtain ⟨xc0, xf0, xc1, xf1, xc2, xf2, xc3, xf3, xc4, xf4, xc5, xf5, xc6, xf6, xc7, xf7, xc8, xf8, xc9, xf9, xc10, xf10, xc11, xf11⟩ := BP.cf12; have xl := BP.lt; obtain ⟨yc0, yf0, yc1, yf1, yc2, yf2, yc3, yf3, yc4, yf4, yc5, yf5, yc6, yf6, yc7, yf7, yc8, yf8, yc9, yf9, yc10, yf10, yc11, yf11⟩ := BQ.cf12; have yl := BQ.lt
          go_wp2
          refine put24_ret BP BQ (by omega) (by omega) (by omega) HB fun WF F0 F1 HBF => ?_
          clear BP BQ HB xc0 xf0 xc1 xf1 xc2 xf2 xc3 xf3 xc4 xf4 xc5 xf5 xc6 xf6 xc7 xf7 xc8 xf8 xc9 xf9 xc10 xf10 xc11 xf11 xl yc0 yf0 yc1 yf1 yc2 yf2 yc3 yf3 yc4 yf4 yc5 yf5 yc6 yf6 yc7 yf7 yc8 yf8 yc9 yf9 yc10 yf10 yc11 yf11 yl
          have m0 := F0.c 0 rfl; have n0 := F1.c 0 rfl; have m1 := F0.c 1 rfl; have n1 := F1.c 1 rfl; have m2 := F0.c 2 rfl; have n2 := F1.c 2 rfl; have m3 := F0.c 3 rfl; have n3 := F1.c 3 rfl; have m4 := F0.c 4 rfl; have n4 := F1.c 4 rfl; have m5 := F0.c 5 rfl; have n5 := F1.c 5 rfl; have m6 := F0.c 6 rfl; have n6 := F1.c 6 rfl; have m7 := F0.c 7 rfl; have n7 := F1.c 7 rfl; have m8 := F0.c 8 rfl; have n8 := F1.c 8 rfl; have m9 := F0.c 9 rfl; have n9 := F1.c 9 rfl; have m10 := F0.c 10 rfl; have n10 := F1.c 10 rfl; have m11 := F0.c 11 rfl; have n11 := F1.c 11 rfl
          refine bodyPost_ret (v := .tuple #[.int .i64 1, .agg #[.int .u64 (ww3 sx), .int .u64 (ww2 sx), .int .u64 (ww1 sx), .int .u64 (ww0 sx), .int .u64 (ww3 sy), .int .u64 (ww2 sy), .int .u64 (ww1 sy), .int .u64 (ww0 sy), .int .u64 (ww3 sz), .int .u64 (ww2 sz), .int .u64 (ww1 sz), .int .u64 (ww0 sz)], .agg #[.int .u64 0, .int .u64 0, .int .u64 0, .int .u64 0, .int .u64 0, .int .u64 0, .int .u64 0, .int .u64 0, .int .u64 0, .int .u64 0, .int .u64 0, .int .u64 0]]) (by simp [results, Try.results32, go_sem, m0, n0, m1, n1, m2, n2, m3, n3, m4, n4, m5, n5, m6, n6, m7, n7, m8, n8, m9, n9, m10, n10, m11, n11]) rfl ?_
          exact ⟨by rw [HO.out], by first | exact HBF | exact HBF.drew⟩)
theorem in1_seg {a b c d : Int} (h : segOk a b c d = true) : In1 a ∧ In1 b ∧ In1 c ∧ In1 d := by
  unfold segOk spotOk at h
  simp only [Bool.and_eq_true, decide_eq_true_eq] at h
  obtain ⟨⟨h1, h2⟩, -⟩ := h
  exact ⟨⟨h1.1, h1.2.1⟩, ⟨h1.2.2.1, h1.2.2.2⟩, ⟨h2.1, h2.2.1⟩, ⟨h2.2.2.1, h2.2.2.2⟩⟩
end Go.Proofs.Ytpmnmlhfaoajdaa

/- Where two segments meet: what is reckoned of the model's walk. -/
namespace Go.Proofs.Ytpmnmlhfaoajdaa
open Go.RowKit
theorem Blk.set6 {W : World} {vs : List Value} {v0 v1 v2 v3 v4 v5 : Value} {g g' : Nat} (G : Blk W g' vs) (hg : g' ≠ g) : Blk ((((((W.setCell ⟨g, 0, none⟩ (v0)).setCell ⟨g, 1, none⟩ (v1)).setCell ⟨g, 2, none⟩ (v2)).setCell ⟨g, 3, none⟩ (v3)).setCell ⟨g, 4, none⟩ (v4)).setCell ⟨g, 5, none⟩ (v5)) g' vs := (((((G.setO (by exact hg) _).setO (by exact hg) _).setO (by exact hg) _).setO (by exact hg) _).setO (by exact hg) _).setO (by exact hg) _
/-- Three numbers of the model, side by side. -/
def L3A (w : World) (v : Value) (x y z : Int) : Prop :=
  ∃ (s1 : Bool) (o1 : Option Addr) (n1 c1 : Nat) (d1 : List Int) (s2 : Bool) (o2 : Option Addr) (n2 c2 : Nat) (d2 : List Int) (s3 : Bool) (o3 : Option Addr) (n3 c3 : Nat) (d3 : List Int), v = .agg #[.bool s1, .slice o1 n1 c1, .bool s2, .slice o2 n2 c2, .bool s3, .slice o3 n3 c3] ∧ IsNum w s1 o1 n1 c1 d1 x 8 ∧ IsNum w s2 o2 n2 c2 d2 y 8 ∧ IsNum w s3 o3 n3 c3 d3 z 8
def MtP (a b c d p q u v : Int) (w : World) (e : Ending) (w' : World) : Prop := Below w.heap.size w w' ∧
  ((meetW a b c d p q u v = .tuple #[.int .i64 0, .agg #[.int .u64 0, .int .u64 0, .int .u64 0, .int .u64 0, .int .u64 0, .int .u64 0, .int .u64 0, .int .u64 0, .int .u64 0, .int .u64 0, .int .u64 0, .int .u64 0], .agg #[.int .u64 0, .int .u64 0, .int .u64 0, .int .u64 0, .int .u64 0, .int .u64 0, .int .u64 0, .int .u64 0, .int .u64 0, .int .u64 0, .int .u64 0, .int .u64 0]] ∧ e = .returned (.tuple #[.int .i64 0, .agg #[.bool false, .slice none 0 0, .bool false, .slice none 0 0, .bool false, .slice none 0 0], .agg #[.bool false, .slice none 0 0, .bool false, .slice none 0 0, .bool false, .slice none 0 0]])) ∨
   (∃ (x y z : Int) (r : Value), meetW a b c d p q u v = .tuple #[.int .i64 1, .agg #[.int .u64 (ww3 x), .int .u64 (ww2 x), .int .u64 (ww1 x), .int .u64 (ww0 x), .int .u64 (ww3 y), .int .u64 (ww2 y), .int .u64 (ww1 y), .int .u64 (ww0 y), .int .u64 (ww3 z), .int .u64 (ww2 z), .int .u64 (ww1 z), .int .u64 (ww0 z)], .agg #[.int .u64 0, .int .u64 0, .int .u64 0, .int .u64 0, .int .u64 0, .int .u64 0, .int .u64 0, .int .u64 0, .int .u64 0, .int .u64 0, .int .u64 0, .int .u64 0]] ∧ small x = true ∧ small y = true ∧ small z = true ∧ e = .returned (.tuple #[.int .i64 1, r, .agg #[.bool false, .slice none 0 0, .bool false, .slice none 0 0, .bool false, .slice none 0 0]]) ∧ L3A w' r x y z) ∨
   (∃ (x y x' y' : Int) (r r' : Value), meetW a b c d p q u v = .tuple #[.int .i64 2, .agg #[.int .u64 (ww3 x), .int .u64 (ww2 x), .int .u64 (ww1 x), .int .u64 (ww0 x), .int .u64 (ww3 y), .int .u64 (ww2 y), .int .u64 (ww1 y), .int .u64 (ww0 y), .int .u64 (ww3 1), .int .u64 (ww2 1), .int .u64 (ww1 1), .int .u64 (ww0 1)], .agg #[.int .u64 (ww3 x'), .int .u64 (ww2 x'), .int .u64 (ww1 x'), .int .u64 (ww0 x'), .int .u64 (ww3 y'), .int .u64 (ww2 y'), .int .u64 (ww1 y'), .int .u64 (ww0 y'), .int .u64 (ww3 1), .int .u64 (ww2 1), .int .u64 (ww1 1), .int .u64 (ww0 1)]] ∧ small x = true ∧ small y = true ∧ small x' = true ∧ small y' = true ∧ e = .returned (.tuple #[.int .i64 2, r, r']) ∧ L3A w' r x y 1 ∧ L3A w' r' x' y' 1))
theorem turn_diff (a b c d p q u v : Int) : turnZ a b c d u v - turnZ a b c d p q = ((b - d) * (u - p) - (q - v) * (c - a)) := by unfold turnZ; grind
theorem sgZ_z {t : Int} : sgZ t = 0 ↔ t = 0 := by unfold sgZ; repeat' split <;> omega
theorem sgZ_mul (t t' : Int) : (0 < sgZ t * sgZ t' ↔ (0 < t ∧ 0 < t') ∨ (t < 0 ∧ t' < 0)) ∧ -1 ≤ sgZ t * sgZ t' ∧ sgZ t * sgZ t' ≤ 1 := by
  have e : ∀ t, (t < 0 ∧ sgZ t = -1) ∨ (t = 0 ∧ sgZ t = 0) ∨ (0 < t ∧ sgZ t = 1) := by
    intro t
    unfold sgZ
    repeat' split
    all_goals omega
  rcases e t with ⟨h, e1⟩ | ⟨h, e1⟩ | ⟨h, e1⟩ <;> rcases e t' with ⟨h', e2⟩ | ⟨h', e2⟩ | ⟨h', e2⟩ <;> rw [e1, e2] <;> omega
theorem pt2_no {t t' : Int} (h : 0 < sgZ t * sgZ t') : pt2 t t' = false := by
  have := (sgZ_mul t t').1.1 h
  unfold pt2
  rcases this with ⟨h1, h2⟩ | ⟨h1, h2⟩
  · rw [decide_eq_false (show ¬ t ≤ 0 by omega), decide_eq_false (show ¬ t' ≤ 0 by omega)]; simp
  · rw [decide_eq_false (show ¬ 0 ≤ t by omega), decide_eq_false (show ¬ 0 ≤ t' by omega)]; simp
theorem pt2_yes {t t' : Int} (h : ¬ 0 < sgZ t * sgZ t') : pt2 t t' = true := by
  have h0 : ¬ ((0 < t ∧ 0 < t') ∨ (t < 0 ∧ t' < 0)) := fun k => h ((sgZ_mul t t').1.2 k)
  unfold pt2
  simp only [Bool.and_eq_true, Bool.or_eq_true, decide_eq_true_eq]
  omega
theorem meet_w0 {a b c d p q u v : Int} (h : ¬ (turnZ a b c d p q = 0 ∧ turnZ a b c d u v = 0)) (g : ¬ 0 < sgZ (turnZ a b c d p q) * sgZ (turnZ a b c d u v)) : ((b - d) * (u - p) - (q - v) * (c - a)) ≠ 0 := by
  intro h0
  have hd := turn_diff a b c d p q u v
  rw [h0] at hd
  have hh : turnZ a b c d u v = turnZ a b c d p q := by omega
  rw [hh] at h g
  apply g
  apply (sgZ_mul _ _).1.2
  omega
theorem meet_none1 {a b c d p q u v : Int} (h : ¬ (turnZ a b c d p q = 0 ∧ turnZ a b c d u v = 0)) (g : 0 < sgZ (turnZ a b c d p q) * sgZ (turnZ a b c d u v)) : meetW a b c d p q u v = .tuple #[.int .i64 0, .agg #[.int .u64 0, .int .u64 0, .int .u64 0, .int .u64 0, .int .u64 0, .int .u64 0, .int .u64 0, .int .u64 0, .int .u64 0, .int .u64 0, .int .u64 0, .int .u64 0], .agg #[.int .u64 0, .int .u64 0, .int .u64 0, .int .u64 0, .int .u64 0, .int .u64 0, .int .u64 0, .int .u64 0, .int .u64 0, .int .u64 0, .int .u64 0, .int .u64 0]] := by
  unfold meetW
  by_cases h0 : ((b - d) * (u - p) - (q - v) * (c - a)) = 0
  · rw [if_pos h0]
    have hd := turn_diff a b c d p q u v
    rw [h0] at hd
    unfold alongV
    rw [if_pos (Or.inl (by omega))]
  · rw [if_neg h0, pt2_no g]
    rfl
theorem meet_none2 {a b c d p q u v : Int} (h : ¬ (turnZ a b c d p q = 0 ∧ turnZ a b c d u v = 0)) (g : ¬ 0 < sgZ (turnZ a b c d p q) * sgZ (turnZ a b c d u v)) (g' : 0 < sgZ (turnZ p q u v a b) * sgZ (turnZ p q u v c d)) : meetW a b c d p q u v = .tuple #[.int .i64 0, .agg #[.int .u64 0, .int .u64 0, .int .u64 0, .int .u64 0, .int .u64 0, .int .u64 0, .int .u64 0, .int .u64 0, .int .u64 0, .int .u64 0, .int .u64 0, .int .u64 0], .agg #[.int .u64 0, .int .u64 0, .int .u64 0, .int .u64 0, .int .u64 0, .int .u64 0, .int .u64 0, .int .u64 0, .int .u64 0, .int .u64 0, .int .u64 0, .int .u64 0]] := by
  unfold meetW
  rw [if_neg (meet_w0 h g), pt2_no g', Bool.and_false]
  rfl
theorem meet_pt {a b c d p q u v : Int} (h : ¬ (turnZ a b c d p q = 0 ∧ turnZ a b c d u v = 0)) (g : ¬ 0 < sgZ (turnZ a b c d p q) * sgZ (turnZ a b c d u v)) (g' : ¬ 0 < sgZ (turnZ p q u v a b) * sgZ (turnZ p q u v c d)) : meetW a b c d p q u v = .tuple #[.int .i64 1, .agg #[.int .u64 (ww3 (shareZ ((c - a) * (p * v - q * u) - (u - p) * (a * d - b * c)) (Int.gcd (Int.gcd ((c - a) * (p * v - q * u) - (u - p) * (a * d - b * c)) ((a * d - b * c) * (q - v) - (p * v - q * u) * (b - d)) : Int) ((b - d) * (u - p) - (q - v) * (c - a)) : Int) (decide (((b - d) * (u - p) - (q - v) * (c - a)) < 0)))), .int .u64 (ww2 (shareZ ((c - a) * (p * v - q * u) - (u - p) * (a * d - b * c)) (Int.gcd (Int.gcd ((c - a) * (p * v - q * u) - (u - p) * (a * d - b * c)) ((a * d - b * c) * (q - v) - (p * v - q * u) * (b - d)) : Int) ((b - d) * (u - p) - (q - v) * (c - a)) : Int) (decide (((b - d) * (u - p) - (q - v) * (c - a)) < 0)))), .int .u64 (ww1 (shareZ ((c - a) * (p * v - q * u) - (u - p) * (a * d - b * c)) (Int.gcd (Int.gcd ((c - a) * (p * v - q * u) - (u - p) * (a * d - b * c)) ((a * d - b * c) * (q - v) - (p * v - q * u) * (b - d)) : Int) ((b - d) * (u - p) - (q - v) * (c - a)) : Int) (decide (((b - d) * (u - p) - (q - v) * (c - a)) < 0)))), .int .u64 (ww0 (shareZ ((c - a) * (p * v - q * u) - (u - p) * (a * d - b * c)) (Int.gcd (Int.gcd ((c - a) * (p * v - q * u) - (u - p) * (a * d - b * c)) ((a * d - b * c) * (q - v) - (p * v - q * u) * (b - d)) : Int) ((b - d) * (u - p) - (q - v) * (c - a)) : Int) (decide (((b - d) * (u - p) - (q - v) * (c - a)) < 0)))), .int .u64 (ww3 (shareZ ((a * d - b * c) * (q - v) - (p * v - q * u) * (b - d)) (Int.gcd (Int.gcd ((c - a) * (p * v - q * u) - (u - p) * (a * d - b * c)) ((a * d - b * c) * (q - v) - (p * v - q * u) * (b - d)) : Int) ((b - d) * (u - p) - (q - v) * (c - a)) : Int) (decide (((b - d) * (u - p) - (q - v) * (c - a)) < 0)))), .int .u64 (ww2 (shareZ ((a * d - b * c) * (q - v) - (p * v - q * u) * (b - d)) (Int.gcd (Int.gcd ((c - a) * (p * v - q * u) - (u - p) * (a * d - b * c)) ((a * d - b * c) * (q - v) - (p * v - q * u) * (b - d)) : Int) ((b - d) * (u - p) - (q - v) * (c - a)) : Int) (decide (((b - d) * (u - p) - (q - v) * (c - a)) < 0)))), .int .u64 (ww1 (shareZ ((a * d - b * c) * (q - v) - (p * v - q * u) * (b - d)) (Int.gcd (Int.gcd ((c - a) * (p * v - q * u) - (u - p) * (a * d - b * c)) ((a * d - b * c) * (q - v) - (p * v - q * u) * (b - d)) : Int) ((b - d) * (u - p) - (q - v) * (c - a)) : Int) (decide (((b - d) * (u - p) - (q - v) * (c - a)) < 0)))), .int .u64 (ww0 (shareZ ((a * d - b * c) * (q - v) - (p * v - q * u) * (b - d)) (Int.gcd (Int.gcd ((c - a) * (p * v - q * u) - (u - p) * (a * d - b * c)) ((a * d - b * c) * (q - v) - (p * v - q * u) * (b - d)) : Int) ((b - d) * (u - p) - (q - v) * (c - a)) : Int) (decide (((b - d) * (u - p) - (q - v) * (c - a)) < 0)))), .int .u64 (ww3 (shareZ ((b - d) * (u - p) - (q - v) * (c - a)) (Int.gcd (Int.gcd ((c - a) * (p * v - q * u) - (u - p) * (a * d - b * c)) ((a * d - b * c) * (q - v) - (p * v - q * u) * (b - d)) : Int) ((b - d) * (u - p) - (q - v) * (c - a)) : Int) (decide (((b - d) * (u - p) - (q - v) * (c - a)) < 0)))), .int .u64 (ww2 (shareZ ((b - d) * (u - p) - (q - v) * (c - a)) (Int.gcd (Int.gcd ((c - a) * (p * v - q * u) - (u - p) * (a * d - b * c)) ((a * d - b * c) * (q - v) - (p * v - q * u) * (b - d)) : Int) ((b - d) * (u - p) - (q - v) * (c - a)) : Int) (decide (((b - d) * (u - p) - (q - v) * (c - a)) < 0)))), .int .u64 (ww1 (shareZ ((b - d) * (u - p) - (q - v) * (c - a)) (Int.gcd (Int.gcd ((c - a) * (p * v - q * u) - (u - p) * (a * d - b * c)) ((a * d - b * c) * (q - v) - (p * v - q * u) * (b - d)) : Int) ((b - d) * (u - p) - (q - v) * (c - a)) : Int) (decide (((b - d) * (u - p) - (q - v) * (c - a)) < 0)))), .int .u64 (ww0 (shareZ ((b - d) * (u - p) - (q - v) * (c - a)) (Int.gcd (Int.gcd ((c - a) * (p * v - q * u) - (u - p) * (a * d - b * c)) ((a * d - b * c) * (q - v) - (p * v - q * u) * (b - d)) : Int) ((b - d) * (u - p) - (q - v) * (c - a)) : Int) (decide (((b - d) * (u - p) - (q - v) * (c - a)) < 0))))], .agg #[.int .u64 0, .int .u64 0, .int .u64 0, .int .u64 0, .int .u64 0, .int .u64 0, .int .u64 0, .int .u64 0, .int .u64 0, .int .u64 0, .int .u64 0, .int .u64 0]] := by
  unfold meetW
  rw [if_neg (meet_w0 h g), pt2_yes g, pt2_yes g', if_pos (by rfl)]
theorem meet_along {a b c d p q u v : Int} (h : turnZ a b c d p q = 0) (h' : turnZ a b c d u v = 0) : meetW a b c d p q u v = alongV a b c d p q u v := by
  have hd := turn_diff a b c d p q u v
  unfold meetW
  rw [if_pos (by omega)]
theorem bnd_x (a b c d p q u v : Int) (ha : In1 a) (hb : In1 b) (hc : In1 c) (hd : In1 d) (hp : In1 p) (hq : In1 q) (hu : In1 u) (hv : In1 v) : -9000000000000000000 ≤ ((c - a) * (p * v - q * u) - (u - p) * (a * d - b * c)) ∧ ((c - a) * (p * v - q * u) - (u - p) * (a * d - b * c)) ≤ 9000000000000000000 := by
  obtain ⟨x1, x2⟩ := mul_in (p := a) (q := d) (M := 1000000) (N := 1000000) ha.1 ha.2 hd.1 hd.2
  obtain ⟨x3, x4⟩ := mul_in (p := b) (q := c) (M := 1000000) (N := 1000000) hb.1 hb.2 hc.1 hc.2
  obtain ⟨y1, y2⟩ := mul_in (p := p) (q := v) (M := 1000000) (N := 1000000) hp.1 hp.2 hv.1 hv.2
  obtain ⟨y3, y4⟩ := mul_in (p := q) (q := u) (M := 1000000) (N := 1000000) hq.1 hq.2 hu.1 hu.2
  have e1 := mul_in (p := c - a) (q := p * v - q * u) (M := 2000000) (N := 2000000000000) (by omega) (by omega) (by omega) (by omega)
  have e2 := mul_in (p := u - p) (q := a * d - b * c) (M := 2000000) (N := 2000000000000) (by omega) (by omega) (by omega) (by omega)
  omega
theorem bnd_y (a b c d p q u v : Int) (ha : In1 a) (hb : In1 b) (hc : In1 c) (hd : In1 d) (hp : In1 p) (hq : In1 q) (hu : In1 u) (hv : In1 v) : -9000000000000000000 ≤ ((a * d - b * c) * (q - v) - (p * v - q * u) * (b - d)) ∧ ((a * d - b * c) * (q - v) - (p * v - q * u) * (b - d)) ≤ 9000000000000000000 := by
  obtain ⟨x1, x2⟩ := mul_in (p := a) (q := d) (M := 1000000) (N := 1000000) ha.1 ha.2 hd.1 hd.2
  obtain ⟨x3, x4⟩ := mul_in (p := b) (q := c) (M := 1000000) (N := 1000000) hb.1 hb.2 hc.1 hc.2
  obtain ⟨y1, y2⟩ := mul_in (p := p) (q := v) (M := 1000000) (N := 1000000) hp.1 hp.2 hv.1 hv.2
  obtain ⟨y3, y4⟩ := mul_in (p := q) (q := u) (M := 1000000) (N := 1000000) hq.1 hq.2 hu.1 hu.2
  have e1 := mul_in (p := a * d - b * c) (q := q - v) (M := 2000000000000) (N := 2000000) (by omega) (by omega) (by omega) (by omega)
  have e2 := mul_in (p := p * v - q * u) (q := b - d) (M := 2000000000000) (N := 2000000) (by omega) (by omega) (by omega) (by omega)
  omega
theorem bnd_w (a b c d p q u v : Int) (ha : In1 a) (hb : In1 b) (hc : In1 c) (hd : In1 d) (hp : In1 p) (hq : In1 q) (hu : In1 u) (hv : In1 v) : -8000000000000 ≤ ((b - d) * (u - p) - (q - v) * (c - a)) ∧ ((b - d) * (u - p) - (q - v) * (c - a)) ≤ 8000000000000 := by
  obtain ⟨x1, x2⟩ := mul_in (p := a) (q := d) (M := 1000000) (N := 1000000) ha.1 ha.2 hd.1 hd.2
  obtain ⟨x3, x4⟩ := mul_in (p := b) (q := c) (M := 1000000) (N := 1000000) hb.1 hb.2 hc.1 hc.2
  obtain ⟨y1, y2⟩ := mul_in (p := p) (q := v) (M := 1000000) (N := 1000000) hp.1 hp.2 hv.1 hv.2
  obtain ⟨y3, y4⟩ := mul_in (p := q) (q := u) (M := 1000000) (N := 1000000) hq.1 hq.2 hu.1 hu.2
  have e1 := mul_in (p := b - d) (q := u - p) (M := 2000000) (N := 2000000) (by omega) (by omega) (by omega) (by omega)
  have e2 := mul_in (p := q - v) (q := c - a) (M := 2000000) (N := 2000000) (by omega) (by omega) (by omega) (by omega)
  omega
theorem m4_keep0 {a b c d p q u v : Int} {w W : World} {gd gn : Nat} {ds ns : Bool} {do1 no : Option Addr} {dn dc nn nc : Nat} (T0 : ArgsB w W [[.int .i64 a, .int .i64 b, .int .i64 c, .int .i64 d], [.int .i64 p, .int .i64 q, .int .i64 u, .int .i64 v], [.bool false, .slice none 0 0, .bool false, .slice none 0 0, .bool false, .slice none 0 0], [.bool false, .slice none 0 0, .bool false, .slice none 0 0, .bool false, .slice none 0 0]]) (Bd : Blk W gd [.bool ds, .slice do1 dn dc]) (Bn : Blk W gn [.bool ns, .slice no nn nc]) : (fun w' => w'.cell? ⟨w.heap.size, 0, none⟩ = some (.int .i64 a) ∧ w'.cell? ⟨gd, 0, none⟩ = some (.bool ds) ∧ w'.cell? ⟨gd, 1, none⟩ = some (.slice do1 dn dc) ∧ w'.cell? ⟨gn, 0, none⟩ = some (.bool ns) ∧ w'.cell? ⟨gn, 1, none⟩ = some (.slice no nn nc)) W := ⟨(T0.b 0 rfl).c 0 rfl, Bd.c 0 rfl, Bd.c 1 rfl, Bn.c 0 rfl, Bn.c 1 rfl⟩
theorem m4_keep1 {a b c d p q u v : Int} {w W : World} {gd gn : Nat} {ds ns : Bool} {do1 no : Option Addr} {dn dc nn nc : Nat} (T0 : ArgsB w W [[.int .i64 a, .int .i64 b, .int .i64 c, .int .i64 d], [.int .i64 p, .int .i64 q, .int .i64 u, .int .i64 v], [.bool false, .slice none 0 0, .bool false, .slice none 0 0, .bool false, .slice none 0 0], [.bool false, .slice none 0 0, .bool false, .slice none 0 0, .bool false, .slice none 0 0]]) (Bd : Blk W gd [.bool ds, .slice do1 dn dc]) (Bn : Blk W gn [.bool ns, .slice no nn nc]) : (fun w' => w'.cell? ⟨w.heap.size, 1, none⟩ = some (.int .i64 b) ∧ w'.cell? ⟨gd, 0, none⟩ = some (.bool ds) ∧ w'.cell? ⟨gd, 1, none⟩ = some (.slice do1 dn dc) ∧ w'.cell? ⟨gn, 0, none⟩ = some (.bool ns) ∧ w'.cell? ⟨gn, 1, none⟩ = some (.slice no nn nc)) W := ⟨(T0.b 0 rfl).c 1 rfl, Bd.c 0 rfl, Bd.c 1 rfl, Bn.c 0 rfl, Bn.c 1 rfl⟩
end Go.Proofs.Ytpmnmlhfaoajdaa

/- Rings by their spots: the kind of meeting of two sides, what is at fault: the reckoning. -/
namespace Go.Proofs.Ytpmnmlhfaoajdaa
open Go.RowKit
/-- The kind of meeting of two segments. -/
def kndZ (a b c d p q u v : Int) : Int :=
  if ((b - d) * (u - p) - (q - v) * (c - a)) = 0 then
    (if turnZ a b c d p q ≠ 0 ∨ lessI (if lessI u v c d = true then u else c) (if lessI u v c d = true then v else d) (if lessI a b p q = true then p else a) (if lessI a b p q = true then q else b) = true then 0
     else if (if lessI a b p q = true then p else a) = (if lessI u v c d = true then u else c) ∧ (if lessI a b p q = true then q else b) = (if lessI u v c d = true then v else d) then 1 else 2)
  else if (pt2 (turnZ a b c d p q) (turnZ a b c d u v) && pt2 (turnZ p q u v a b) (turnZ p q u v c d)) = true then 1 else 0
theorem knd_in (a b c d p q u v : Int) : kndZ a b c d p q u v = 0 ∨ kndZ a b c d p q u v = 1 ∨ kndZ a b c d p q u v = 2 := by
  unfold kndZ
  repeat' split
  all_goals simp
theorem less_iff (x y u v : Int) : lessI x y u v = true ↔ x < u ∨ x = u ∧ y < v := by unfold lessI; exact decide_eq_true_iff
def kdA (n : Nat) (p : Ps) (i k : Nat) : Int := kndZ (sdA n p i).1 (sdA n p i).2.1 (sdA n p i).2.2.1 (sdA n p i).2.2.2 (sdA n p k).1 (sdA n p k).2.1 (sdA n p k).2.2.1 (sdA n p k).2.2.2
theorem meetW_kind (a b c d p q u v : Int) : ∃ r s, meetW a b c d p q u v = .tuple #[.int .i64 (kndZ a b c d p q u v), r, s] := by
  unfold meetW kndZ
  by_cases h0 : ((b - d) * (u - p) - (q - v) * (c - a)) = 0
  · rw [if_pos h0, if_pos h0]
    unfold alongV
    by_cases h1 : turnZ a b c d p q ≠ 0 ∨ lessI (if lessI u v c d = true then u else c) (if lessI u v c d = true then v else d) (if lessI a b p q = true then p else a) (if lessI a b p q = true then q else b) = true
    · rw [if_pos h1, if_pos h1]
      exact ⟨_, _, rfl⟩
    · rw [if_neg h1, if_neg h1]
      by_cases h2 : (if lessI a b p q = true then p else a) = (if lessI u v c d = true then u else c) ∧ (if lessI a b p q = true then q else b) = (if lessI u v c d = true then v else d)
      · rw [if_pos h2, if_pos h2]
        exact ⟨_, _, rfl⟩
      · rw [if_neg h2, if_neg h2]
        exact ⟨_, _, rfl⟩
  · rw [if_neg h0, if_neg h0]
    by_cases h3 : (pt2 (turnZ a b c d p q) (turnZ a b c d u v) && pt2 (turnZ p q u v a b) (turnZ p q u v c d)) = true
    · rw [if_pos h3, if_pos h3]
      exact ⟨_, _, rfl⟩
    · rw [if_neg h3, if_neg h3]
      exact ⟨_, _, rfl⟩
theorem mtP_kind {a b c d p q u v : Int} {w w' : World} {e : Ending} (h : MtP a b c d p q u v w e w') : (∃ (f1 f2 f3 g1 g2 g3 : Bool) (k1 k2 k3 l1 l2 l3 : Option Addr) (m1 m2 m3 x1 x2 x3 y1 y2 y3 z1 z2 z3 : Nat), e = .returned (.tuple #[.int .i64 (kndZ a b c d p q u v), .agg #[.bool f1, .slice k1 m1 x1, .bool f2, .slice k2 m2 x2, .bool f3, .slice k3 m3 x3], .agg #[.bool g1, .slice l1 y1 z1, .bool g2, .slice l2 y2 z2, .bool g3, .slice l3 y3 z3]])) ∧ Below w.heap.size w w' := by
  obtain ⟨hB, h⟩ := h
  obtain ⟨r, s, hk⟩ := meetW_kind a b c d p q u v
  refine ⟨?_, hB⟩
  rcases h with ⟨hm, he⟩ | ⟨x, y, z, r', hm, -, -, -, he, L⟩ | ⟨x, y, x', y', r', s', hm, -, -, -, -, he, L, L'⟩
  · rw [hk] at hm
    simp at hm
    rw [hm.1]
    exact ⟨_, _, _, _, _, _, _, _, _, _, _, _, _, _, _, _, _, _, _, _, _, _, _, _, he⟩
  · rw [hk] at hm
    simp at hm
    rw [hm.1]
    obtain ⟨s1, o1, n1, c1, d1, s2, o2, n2, c2, d2, s3, o3, n3, c3, d3, rfl, -, -, -⟩ := L
    exact ⟨_, _, _, _, _, _, _, _, _, _, _, _, _, _, _, _, _, _, _, _, _, _, _, _, he⟩
  · rw [hk] at hm
    simp at hm
    rw [hm.1]
    obtain ⟨s1, o1, n1, c1, d1, s2, o2, n2, c2, d2, s3, o3, n3, c3, d3, rfl, -, -, -⟩ := L
    obtain ⟨t1, q1, m1, b1, f1, t2, q2, m2, b2, f2, t3, q3, m3, b3, f3, rfl, -, -, -⟩ := L'
    exact ⟨_, _, _, _, _, _, _, _, _, _, _, _, _, _, _, _, _, _, _, _, _, _, _, _, he⟩
theorem meetW_12 (a b c d p q u v : Int) : ∃ (r0 r1 r2 r3 r4 r5 r6 r7 r8 r9 r10 r11 s0 s1 s2 s3 s4 s5 s6 s7 s8 s9 s10 s11 : Int), meetW a b c d p q u v = .tuple #[.int .i64 (kndZ a b c d p q u v), .agg #[.int .u64 r0, .int .u64 r1, .int .u64 r2, .int .u64 r3, .int .u64 r4, .int .u64 r5, .int .u64 r6, .int .u64 r7, .int .u64 r8, .int .u64 r9, .int .u64 r10, .int .u64 r11], .agg #[.int .u64 s0, .int .u64 s1, .int .u64 s2, .int .u64 s3, .int .u64 s4, .int .u64 s5, .int .u64 s6, .int .u64 s7, .int .u64 s8, .int .u64 s9, .int .u64 s10, .int .u64 s11]] := by
  obtain ⟨r, s, hk⟩ := meetW_kind a b c d p q u v
  obtain ⟨k, r0, r1, r2, r3, r4, r5, r6, r7, r8, r9, r10, r11, s0, s1, s2, s3, s4, s5, s6, s7, s8, s9, s10, s11, hx⟩ := meetW_ex a b c d p q u v
  have he := hx
  rw [hk] at he
  simp at he
  exact ⟨r0, r1, r2, r3, r4, r5, r6, r7, r8, r9, r10, r11, s0, s1, s2, s3, s4, s5, s6, s7, s8, s9, s10, s11, by rw [hx, he.1]⟩
end Go.Proofs.Ytpmnmlhfaoajdaa

/- The iterator over a ring's sides: its contract. -/
namespace Go.Proofs.Ytpmnmlhfaoajdaa
open Go.RowKit Go.Shelf
attribute [local go_sem] Oper.semAt_some
/-- What a round that goes on keeps: what lay below a place, and one block. -/
structure KpB (m b : Nat) (W W' : World) : Prop where
  size : W.heap.size ≤ W'.heap.size
  low : ∀ k, k < m → W'.heap[k]? = W.heap[k]?
  box : W'.heap[b]? = W.heap[b]?
theorem KpB.trans {m b : Nat} {X Y Z : World} (h : KpB m b X Y) (k : KpB m b Y Z) : KpB m b X Z := ⟨Nat.le_trans h.size k.size, fun i hi => (k.low i hi).trans (h.low i hi), k.box.trans h.box⟩
theorem KpB.of {m b : Nat} {W W' : World} (h : Below W.heap.size W W') (hm : m ≤ W.heap.size) (hb : b < W.heap.size) : KpB m b W W' := ⟨h.size, fun k hk => h.block k (by omega), h.block b hb⟩
theorem KpB.put {m b : Nat} {w : World} (hm : m ≤ w.heap.size) (hb : b < w.heap.size) (W : World) (l : Nat) (o o' : Obj) (hl : w.heap.size ≤ l) (_h : W.heap[l]? = some o) (_c : o.isCells = false) (_k : o.isWalk = false) : KpB m b W (W.putObj l o') := ⟨by simp, fun k hk => World.putObj_heap_other (by omega), World.putObj_heap_other (by omega)⟩
/-- n spots lie behind a slice's address, below a place. -/
def SpB (m : Nat) (w : World) (ao : Option Addr) (n : Nat) (p : Ps) : Prop :=
  ∀ i, i < n → ∃ A off, ao = some ⟨A, off, none⟩ ∧ A < m ∧ w.cell? ⟨A, off + i * 2, none⟩ = some (.int .i64 (p i).1) ∧ w.cell? ⟨A, off + i * 2 + 1, none⟩ = some (.int .i64 (p i).2)
theorem SpIn.low {w : World} {ao : Option Addr} {n : Nat} {p : Ps} (h : SpIn w ao n p) : SpB w.heap.size w ao n p := h
theorem SpB.high {m : Nat} {w : World} {ao : Option Addr} {n : Nat} {p : Ps} (h : SpB m w ao n p) (hm : m ≤ w.heap.size) : SpIn w ao n p := fun i hi => by
  obtain ⟨A, off, e, hA, h0, h1⟩ := h i hi
  exact ⟨A, off, e, by omega, h0, h1⟩
/-- The first sides, by their places. -/
def upTo (n c : Nat) : List (Fin n) := (List.finRange n).take c
theorem upTo_succ {n c : Nat} (h : c < n) : upTo n (c + 1) = upTo n c ++ [⟨c, h⟩] := by
  have hl : c < (List.finRange n).length := by simpa using h
  unfold upTo
  rw [List.take_succ_eq_append_getElem hl]
  simp
end Go.Proofs.Ytpmnmlhfaoajdaa

/- The iterator over a ring's sides: the walk. -/
namespace Go.Proofs.Ytpmnmlhfaoajdaa
open Go.RowKit Go.Shelf
attribute [local go_sem] Oper.semAt_some
end Go.Proofs.Ytpmnmlhfaoajdaa

/- The iterator over a ring's sides, and whether a ring crosses itself: the program's walk. -/
namespace Go.Proofs.Ytpmnmlhfaoajdaa
open Go.RowKit Go.Shelf
attribute [local go_sem] Oper.semAt_some
/-- A block holds just these cells. -/
def BoxV (W : World) (B : Nat) (t : TypeId) (vs : List Value) : Prop := W.heap[B]? = some (.cells vs.toArray t (0, 0))
theorem BoxV.lt {W : World} {B : Nat} {t : TypeId} {vs : List Value} (h : BoxV W B t vs) : B < W.heap.size := (Array.getElem?_eq_some_iff.1 h).1
theorem BoxV.blk {W : World} {B : Nat} {t : TypeId} {vs : List Value} (h : BoxV W B t vs) : Blk W B vs := ⟨h.lt, fun i v hi => ⟨by simp [World.cell?, show W.heap[B]? = _ from h, hi], by simp [World.frozen?, show W.heap[B]? = _ from h]⟩⟩
theorem BoxV.new (W : World) (t : TypeId) (vs : List Value) : BoxV (W.alloc (.cells vs.toArray t)) W.heap.size t vs := World.alloc_heap_new W _
theorem BoxV.step {W W' : World} {B : Nat} {t : TypeId} {vs : List Value} (h : BoxV W B t vs) (hB : Below W.heap.size W W') : BoxV W' B t vs := (hB.block B h.lt).trans h
theorem BoxV.alloc {W : World} {B : Nat} {t : TypeId} {vs : List Value} (h : BoxV W B t vs) (o : Obj) : BoxV (W.alloc o) B t vs := h.step ((Below.refl _ _).alloc (Nat.le_refl _) o)
theorem boxV_own {β : Type} (B : Nat) (t : TypeId) (f : β → List Value) : Own (fun s W => BoxV W B t (f s)) := fun s X Y row hs hg hrow =>
  (hg.block B hs.lt (fun e' => by obtain ⟨o, ho, hc⟩ := hrow B e'.symm; rw [show X.heap[B]? = _ from hs] at ho; cases ho; cases hc)).trans hs
theorem boxed_step {W W' : World} {B : Nat} {t : TypeId} {v : Value} (h : Boxed W B t v) (hB : Below W.heap.size W W') : Boxed W' B t v := (hB.block B h.lt).trans h
theorem below_keeps {B : Nat} {W W' : World} (h : Below W.heap.size W W') : KeepsFrom B W W' := ⟨h.size, fun k _ _ hk _ => (h.block k (Array.getElem?_eq_some_iff.1 hk).1).trans hk⟩
theorem mem_upTo {n c : Nat} {x : Fin n} : x ∈ upTo n c ↔ x.1 < c := by
  unfold upTo
  constructor
  · intro h
    obtain ⟨i, hi, e⟩ := List.mem_take_iff_getElem.1 h
    simp at e
    have : i < c := by simp at hi; omega
    rw [← e]
    exact this
  · intro h
    exact List.mem_take_iff_getElem.2 ⟨x.1, by simp; omega, by simp⟩
end Go.Proofs.Ytpmnmlhfaoajdaa

/- The iterator over all pairs of numbers: its contract. -/
namespace Go.Proofs.Ytpmnmlhfaoajdaa
open Go.RowKit Go.Shelf
attribute [local go_sem] Oper.semAt_some
/-- A pair of numbers below n, the lesser one first. -/
abbrev Pr (n : Nat) : Type := { y : Nat × Nat // y.1 < y.2 ∧ y.2 < n }
def prOf (n i : Nat) (j : Fin n) : List (Pr n) := if h : i < j.1 then [⟨(i, j.1), h, j.2⟩] else []
/-- The pairs of i with the first c numbers. -/
def rowP (n i c : Nat) : List (Pr n) := (upTo n c).flatMap (prOf n i)
/-- All pairs whose first number is less than i. -/
def prI (n i : Nat) : List (Pr n) := (upTo n i).flatMap fun a => rowP n a.1 n
theorem rowP_on {n i c : Nat} (h : c < n) (hi : i < c) : rowP n i (c + 1) = rowP n i c ++ [⟨(i, c), hi, h⟩] := by
  unfold rowP
  rw [upTo_succ h, List.flatMap_append]
  simp [prOf, hi]
theorem rowP_off {n i c : Nat} (h : c ≤ i + 1) : rowP n i c = [] := by
  unfold rowP
  rw [List.flatMap_eq_nil_iff]
  intro x hx
  unfold prOf
  rw [dif_neg (by have := mem_upTo.1 hx; omega)]
theorem prI_succ {n i : Nat} (h : i < n) : prI n (i + 1) = prI n i ++ rowP n i n := by
  unfold prI
  rw [upTo_succ h, List.flatMap_append]
  simp
theorem rowP_len (n i : Nat) : ∀ c, c ≤ n → (rowP n i c).length ≤ c
  | 0, _ => by rw [rowP_off (by omega)]; simp
  | c + 1, h => by
    have ih := rowP_len n i c (by omega)
    by_cases hi : i < c
    · rw [rowP_on (by omega) hi, List.length_append]; simp; omega
    · rw [rowP_off (by omega)]; simp
theorem prI_len {n : Nat} (hn : n ≤ 40) : ∀ i, i ≤ n → (prI n i).length ≤ i * 40
  | 0, _ => by simp [prI, upTo]
  | i + 1, h => by
    have ih := prI_len hn i (by omega)
    have := rowP_len n i n (Nat.le_refl _)
    rw [prI_succ (by omega), List.length_append]
    omega
theorem prI_pre {n i c : Nat} (hi : i < n) (hc : c ≤ n) : prI n i ++ rowP n i c <+: prI n n := by
  have h1 : ∀ d, c ≤ d → d ≤ n → rowP n i c <+: rowP n i d := by
    intro d hd hn
    induction d with
    | zero => obtain rfl : c = 0 := by omega
              exact List.prefix_refl _
    | succ d ih =>
      by_cases e : c = d + 1
      · subst e; exact List.prefix_refl _
      · have := ih (by omega) (by omega)
        by_cases hid : i < d
        · rw [rowP_on (by omega) hid]; exact this.trans (List.prefix_append _ _)
        · rw [rowP_off (c := d + 1) (by omega)]
          rw [rowP_off (c := d) (by omega)] at this
          exact this
  have h2 : ∀ d, i + 1 ≤ d → d ≤ n → prI n (i + 1) <+: prI n d := by
    intro d hd hn
    induction d with
    | zero => omega
    | succ d ih =>
      by_cases e : i = d
      · subst e; exact List.prefix_refl _
      · rw [prI_succ (i := d) (by omega)]
        exact (ih (by omega) (by omega)).trans (List.prefix_append _ _)
  refine List.IsPrefix.trans ?_ (h2 n (by omega) (Nat.le_refl _))
  rw [prI_succ hi]
  obtain ⟨t, ht⟩ := h1 n hc (Nat.le_refl _)
  exact ⟨t, by rw [List.append_assoc, ht]⟩
/-- What the iterator hands on. -/
def enP (n : Nat) (y : Pr n) : Array Value := #[.agg #[.int .i64 (y.1.1 : Int), .int .i64 (y.1.2 : Int)]]
set_option maxRecDepth 100000 in
set_option maxHeartbeats 4000000 in
theorem pairs1_in (m n₁ l Bn : Nat) (ao : Option Addr) (n cap : Nat) (hn : n ≤ 40) (J Jx : List (Pr n) → World → Prop)
    (hY : ∀ pre x W, J pre W → pre.length < 1640 → YieldAt Fence.wide (m - 1) Try.prog l (enP n x) W fun e W' => (e = .returned (.bool true) ∧ J (pre ++ [x]) W' ∧ KpB n₁ Bn W W') ∨ (e = .returned (.bool false) ∧ Jx (pre ++ [x]) W'))
    (W : World) (hBn : W.cell? ⟨Bn, 0, none⟩ = some (.slice ao n cap)) (h0 : J [] W) :
    CallsIn Fence.wide m Try.prog 57 #[.func (.yield l) #[] #[], .pointer (some ⟨Bn, 0, none⟩)] W fun e W' => (∃ v, e = .returned v) ∧ ((∃ ys, ys = prI n n ∧ J ys W') ∨ (∃ pre, pre <+: prI n n ∧ Jx pre W')) := by
  refine callsIn_of_wp Try.func57 rfl trivial ?_ rfl
  simp only [Try.ntmps57, List.size_toArray, List.length_cons, List.length_nil, Nat.reduceAdd, Nat.reduceSub, Array.replicate_succ, Array.replicate_zero, List.push_toArray, List.append_toArray, List.nil_append, List.cons_append]
  have hnI : (n : Int) ≤ 40 := by omega
  gi_wp2
  gi_loopw [7] (fun i wr => ∃ c : Nat, c ≤ n ∧ i = .int .i64 c ∧ J (prI n c) wr ∧ KpB n₁ Bn W wr) (fun i _ => n - (intOf i).toNat)
  case atStart => exact ⟨0, by omega, rfl, by simpa [prI, upTo] using h0, ⟨Nat.le_refl _, fun _ _ => rfl, rfl⟩⟩
  case round =>
    obtain ⟨c, hc, rfl, hj, hk⟩ := hrel
    by_cases hcn : c < n
    · have hcI : (c : Int) < n := by omega
      gi_wp2
      gi_loopw [4] (fun i wx => ∃ d : Nat, c + 1 ≤ d ∧ d ≤ n ∧ i = .int .i64 d ∧ J (prI n c ++ rowP n c d) wx ∧ KpB n₁ Bn W wx) (fun i _ => n - (intOf i).toNat)
      case atStart => exact ⟨c + 1, by omega, by omega, by go_num, by rw [rowP_off (by omega), List.append_nil]; exact hj, hk⟩
      case round =>
        clear hj hk
        obtain ⟨d, hcd, hd, rfl, hj, hk⟩ := hrel
        have hbox := (World.cell?_of_block (a := ⟨Bn, 0, none⟩) hk.box).trans hBn
        by_cases hdn : d < n
        · have hdI : (d : Int) < n := by omega
          have hl1 := prI_len hn c hc
          have hl2 := rowP_len n c d hd
          obtain ⟨fn, tmps, assign, body, hy, hR⟩ := hY (prI n c ++ rowP n c d) ⟨(c, d), hcd, hdn⟩ _ hj (by rw [List.length_append]; omega)
          unfold enP at hy
          dsimp only at hy
          gi_wp2
          refine ⟨fun h => absurd h (by simp [Fence.wide]), hR.mono ?_⟩
          rintro e W3 (⟨rfl, hJ3, hk3⟩ | ⟨rfl, hJx3⟩)
          · gi_wp2
            go_roundw
            case rel => exact ⟨d + 1, by omega, by omega, by go_num, by rw [rowP_on hdn hcd, ← List.append_assoc]; exact hJ3, hk.trans hk3⟩
            case measure => simp [intOf]; omega
          · gi_wp2
            refine bodyPost_ret (results_none rfl _ _ _) rfl ?_
            exact ⟨⟨_, rfl⟩, .inr ⟨_, by rw [List.append_assoc, ← rowP_on hdn hcd]; exact prI_pre hcn (by omega), hJx3⟩⟩
        · obtain rfl : d = n := by omega
          gi_wp2
          go_roundw
          case rel => exact ⟨c + 1, by omega, by go_num, by rw [prI_succ hcn]; exact hj, hk⟩
          case measure => simp [intOf]; omega
    · obtain rfl : c = n := by omega
      gi_wp2
      go_end0
      exact ⟨⟨_, rfl⟩, .inl ⟨_, rfl, hj⟩⟩
theorem pairs_stops (m n₁ Bn : Nat) (ao : Option Addr) (n cap : Nat) (hn : n ≤ 40) (w : World) (hBl : Bn < w.heap.size) (hBn : w.cell? ⟨Bn, 0, none⟩ = some (.slice ao n cap)) :
    SeqStopsK Fence.wide m Try.prog 57 #[.pointer (some ⟨Bn, 0, none⟩)] (enP n) (KpB n₁ Bn) (fun ys => ys = prI n n) (fun pre => pre <+: prI n n) 1640 w := fun l J Jx W hW _ _ hY h0 =>
  pairs1_in m n₁ l Bn ao n cap hn J Jx hY W ((hW.cell (p := ⟨Bn, 0, none⟩) hBl).trans hBn) h0
theorem pairs_any (ao : Option Addr) (n cap : Nat) (w : World) : Calls Try.prog 31 #[.slice ao n cap] w (fun e w' => e = .returned (.func (.func 57) #[] #[.pointer (some ⟨w.heap.size, 0, none⟩)]) ∧ w' = w.alloc (.cells #[.slice ao n cap] 27)) := by
  go_enter Try.func31, Try.ntmps31
  go_wp2
  go_ret
  exact ⟨rfl, rfl⟩
end Go.Proofs.Ytpmnmlhfaoajdaa

/- Rows of segments: how they lie, and the walks over them. -/
namespace Go.Proofs.Ytpmnmlhfaoajdaa
open Go.RowKit
/-- n segments lie behind a slice's address, their numbers by x. -/
def SegIn (w : World) (ao : Option Addr) (n : Nat) (x : Nat → Int) : Prop :=
  ∀ i, i < n → ∃ A off, ao = some ⟨A, off, none⟩ ∧ A < w.heap.size ∧ ∀ j, j < 4 → w.cell? ⟨A, off + i * 4 + j, none⟩ = some (.int .i64 (x (i * 4 + j)))
theorem SegIn.step {w w' : World} {ao : Option Addr} {n : Nat} {x : Nat → Int} (h : SegIn w ao n x) (hB : Below w.heap.size w w') : SegIn w' ao n x := fun i hi => by
  obtain ⟨A, off, e, hA, hc⟩ := h i hi
  exact ⟨A, off, e, Nat.lt_of_lt_of_le hA hB.size, fun j hj => (hB.cell (p := ⟨A, off + i * 4 + j, none⟩) hA).trans (hc j hj)⟩
theorem SegIn.drew {w : World} {ao : Option Addr} {n : Nat} {x : Nat → Int} (h : SegIn w ao n x) : SegIn w.drew ao n x := h
theorem segIn_row {w : World} {g n : Nat} {T : TypeId} {x : Nat → Int} (h : w.rowIs g T (n * 4) (fun i => .int .i64 (x i))) : SegIn w (some ⟨g, 0, none⟩) n x := fun i hi =>
  ⟨g, 0, rfl, h.lt, fun j hj => by rw [Nat.zero_add]; exact h.cell (by omega)⟩
/-- What is at fault in a row of segments. -/
def sgI (n : Nat) (x : Nat → Int) : Int := if 40 < n then 1 else if ∀ i, i < n → segOk (x (i * 4)) (x (i * 4 + 1)) (x (i * 4 + 2)) (x (i * 4 + 3)) = true then 0 else 2
set_option maxRecDepth 100000 in
set_option maxHeartbeats 2000000 in
theorem specSegsFault_any (ao : Option Addr) (n cap : Nat) (x : Nat → Int) (w : World) (hS : SegIn w ao n x) : Calls Try.prog 47 #[.slice ao n cap] w (VP (.int .i64 (sgI n x)) w) := by
  by_cases hn : 40 < n
  · have HO : Hid (sgI n x = 1) := by show _ = _; unfold sgI; rw [if_pos hn]
    go_enter Try.func47, Try.ntmps47
    have hn' : (40 : Int) < n := by omega
    clear hS
    go_wp2
    go_ret
    exact ⟨by rw [HO.out]; rfl, Below.refl _ _⟩
  · go_enter Try.func47, Try.ntmps47
    have hn' : (n : Int) ≤ 40 := by omega
    have HS : Hid (SegIn w ao n x) := hS
    clear hS
    go_wp2_with fail
    go_loopw [3] (fun i wr => ∃ c : Nat, c ≤ n ∧ i = .int .i64 c ∧ (∀ j, j < c → segOk (x (j * 4)) (x (j * 4 + 1)) (x (j * 4 + 2)) (x (j * 4 + 3)) = true) ∧ Below w.heap.size w wr) (fun i _ => n - (intOf i).toNat)
    case atStart => exact ⟨0, by omega, rfl, fun j hj => by omega, Below.refl _ _⟩
    case round =>
      obtain ⟨c, hc, rfl, hall, HB⟩ := hrel
      have HA : Hid (∀ j, j < c → segOk (x (j * 4)) (x (j * 4 + 1)) (x (j * 4 + 2)) (x (j * 4 + 3)) = true) := hall
      clear hall
      by_cases hcn : c < n
      · obtain ⟨A, off, rfl, hA, hcell⟩ := HS.out.step HB c hcn
        have q0 := hcell 0 (by omega); have q1 := hcell 1 (by omega); have q2 := hcell 2 (by omega); have q3 := hcell 3 (by omega)
        simp only [Nat.add_zero] at q0
        have hcI : (c : Int) < n := by omega
        have SO := fun w => specSegOk_any (x (c * 4)) (x (c * 4 + 1)) (x (c * 4 + 2)) (x (c * 4 + 3)) _ rfl w
        clear hcell
        go_wp2_with fail
        refine (SO _).mono ?_
        rintro e w1 ⟨rfl, hB⟩
        
        replace HB := HB.trans (hB.mono HB.size)
        clear hB q0 q1 q2 q3 SO hA
        by_cases hk : segOk (x (c * 4)) (x (c * 4 + 1)) (x (c * 4 + 2)) (x (c * 4 + 3)) = true
        · rw [hk]
          have HK : Hid (segOk (x (c * 4)) (x (c * 4 + 1)) (x (c * 4 + 2)) (x (c * 4 + 3)) = true) := hk
          clear hk
          go_wp2
          go_roundw
          case rel => exact ⟨c + 1, by omega, by go_num, fun j hj => by
            rcases Nat.lt_or_ge j c with h | h
            · exact HA.out j h
            · obtain rfl : j = c := by omega
              exact HK.out, HB⟩
          case measure => simp [intOf]; omega
        · have HO : Hid (sgI n x = 2) := by show _ = _; unfold sgI; rw [if_neg hn, if_neg (fun h => hk (h c hcn))]
          rw [Bool.eq_false_iff.2 hk]
          clear hk
          go_wp2
          go_ret
          exact ⟨by rw [HO.out]; rfl, HB⟩
      · obtain rfl : c = n := by omega
        have HO : Hid (sgI c x = 0) := by show _ = _; unfold sgI; rw [if_neg hn, if_pos HA.out]
        clear HA HS
        go_wp2
        go_ret
        exact ⟨by rw [HO.out]; rfl, HB⟩
set_option maxRecDepth 100000 in
set_option maxHeartbeats 2000000 in
theorem implSegsFault_any (ao : Option Addr) (n cap : Nat) (x : Nat → Int) (w : World) (hS : SegIn w ao n x) : Calls Try.prog 30 #[.slice ao n cap] w (VP (.int .i64 (sgI n x)) w) := by
  by_cases hn : 40 < n
  · have HO : Hid (sgI n x = 1) := by show _ = _; unfold sgI; rw [if_pos hn]
    go_enter Try.func30, Try.ntmps30
    have hn' : (40 : Int) < n := by omega
    clear hS
    go_wp2
    go_ret
    exact ⟨by rw [HO.out]; rfl, Below.refl _ _⟩
  · go_enter Try.func30, Try.ntmps30
    have hn' : (n : Int) ≤ 40 := by omega
    have HS : Hid (SegIn w ao n x) := hS
    clear hS
    go_wp2_with fail
    go_loopw [10] (fun i wr => ∃ c : Nat, c ≤ n ∧ i = .int .i64 c ∧ (∀ j, j < c → segOk (x (j * 4)) (x (j * 4 + 1)) (x (j * 4 + 2)) (x (j * 4 + 3)) = true) ∧ Below w.heap.size w wr) (fun i _ => n - (intOf i).toNat)
    case atStart => exact ⟨0, by omega, rfl, fun j hj => by omega, Below.refl _ _⟩
    case round =>
      obtain ⟨c, hc, rfl, hall, HB⟩ := hrel
      have HA : Hid (∀ j, j < c → segOk (x (j * 4)) (x (j * 4 + 1)) (x (j * 4 + 2)) (x (j * 4 + 3)) = true) := hall
      clear hall
      by_cases hcn : c < n
      · obtain ⟨A, off, rfl, hA, hcell⟩ := HS.out.step HB c hcn
        have q0 := hcell 0 (by omega); have q1 := hcell 1 (by omega); have q2 := hcell 2 (by omega); have q3 := hcell 3 (by omega)
        simp only [Nat.add_zero] at q0
        have hcI : (c : Int) < n := by omega
        have SO := fun w => implSegOk_any (x (c * 4)) (x (c * 4 + 1)) (x (c * 4 + 2)) (x (c * 4 + 3)) _ rfl w
        clear hcell
        go_wp2_with fail
        refine (SO _).mono ?_
        rintro e w1 ⟨rfl, hB⟩
        
        replace HB := (HB.alloc HB.size _).trans (hB.mono (HB.alloc HB.size _).size)
        clear hB q0 q1 q2 q3 SO hA
        by_cases hk : segOk (x (c * 4)) (x (c * 4 + 1)) (x (c * 4 + 2)) (x (c * 4 + 3)) = true
        · rw [hk]
          have HK : Hid (segOk (x (c * 4)) (x (c * 4 + 1)) (x (c * 4 + 2)) (x (c * 4 + 3)) = true) := hk
          clear hk
          go_wp2
          go_roundw
          case rel => exact ⟨c + 1, by omega, by go_num, fun j hj => by
            rcases Nat.lt_or_ge j c with h | h
            · exact HA.out j h
            · obtain rfl : j = c := by omega
              exact HK.out, HB⟩
          case measure => simp [intOf]; omega
        · have HO : Hid (sgI n x = 2) := by show _ = _; unfold sgI; rw [if_neg hn, if_neg (fun h => hk (h c hcn))]
          rw [Bool.eq_false_iff.2 hk]
          clear hk
          go_wp2
          go_ret
          exact ⟨by rw [HO.out]; rfl, HB⟩
      · obtain rfl : c = n := by omega
        have HO : Hid (sgI c x = 0) := by show _ = _; unfold sgI; rw [if_neg hn, if_pos HA.out]
        clear HA HS
        go_wp2
        go_ret
        exact ⟨by rw [HO.out]; rfl, HB⟩
end Go.Proofs.Ytpmnmlhfaoajdaa

/- Rows of segments: copied and held against one another; the law of what is at fault in them. -/
namespace Go.Proofs.Ytpmnmlhfaoajdaa
open Go.RowKit
theorem eqSpot_same (x y : Int) (w : World) : Calls Try.prog 63 #[Sp x y, Sp x y] w (BoolP true w) := by
  go_enter Try.func63, Try.ntmps63
  go_wp2
  go_ret
  exact ⟨rfl, ((Below.refl _ _).alloc (Nat.le_refl _) _).alloc (by simp) _⟩
set_option maxRecDepth 100000 in
theorem eqSeg_same (a b c d : Int) (w : World) : Calls Try.prog 34 #[Sg a b c d, Sg a b c d] w (BoolP true w) := by
  have B0 := (Blk.new w [.int .i64 a, .int .i64 b, .int .i64 c, .int .i64 d] 64 rfl).alloc (.cells #[.int .i64 a, .int .i64 b, .int .i64 c, .int .i64 d] 64)
  have B1 := Blk.new (w.alloc (.cells #[.int .i64 a, .int .i64 b, .int .i64 c, .int .i64 d] 64)) [.int .i64 a, .int .i64 b, .int .i64 c, .int .i64 d] 64 (g := w.heap.size + 1) (by simp)
  have HB0 := ((Below.refl _ w).alloc (Nat.le_refl _) (.cells #[.int .i64 a, .int .i64 b, .int .i64 c, .int .i64 d] 64)).alloc (by simp) (.cells #[.int .i64 a, .int .i64 b, .int .i64 c, .int .i64 d] 64)
  go_enter Try.func34, Try.ntmps34
  go_wp2_with fail
  refine (eqSpot_same _ _ _).mono ?_
  rintro e w1 ⟨rfl, hB⟩
  replace B0 := B0.step hB; replace B1 := B1.step hB
  have HB : Below w.heap.size w w1 := HB0.trans (hB.mono HB0.size)
  clear hB HB0
  have p2 := B0.c 2 rfl; have p3 := B0.c 3 rfl; have q2 := B1.c 2 rfl; have q3 := B1.c 3 rfl
  go_wp2_with fail
  refine (eqSpot_same _ _ _).mono ?_
  rintro e w2 ⟨rfl, hB⟩
  have HB2 : Below w.heap.size w w2 := HB.trans (hB.mono HB.size)
  clear hB HB
  go_wp2
  go_ret
  exact ⟨rfl, HB2⟩
theorem Try.infoSeg : (Try.prog.info? 64).map (fun i => (i.zero, i.size, i.bytes)) = some (some (.agg #[.int .i64 0, .int .i64 0, .int .i64 0, .int .i64 0]), 4, 32) := by kernel_rfl
theorem make_segs (n : Nat) (hn : n ≤ 1048576) (w : World) : (Instr.makeSlice 27 (.int .i64 (n : Int)) (.int .i64 (n : Int))).run Try.prog w = .ok (.slice (some ⟨w.heap.size, 0, none⟩) n n) (w.alloc (.cells (madeCells #[.int .i64 0, .int .i64 0, .int .i64 0, .int .i64 0] (n * 4)) 64)) := by
  obtain ⟨i, hi, hzz⟩ := Option.map_eq_some_iff.1 Try.infoSeg
  simp only [Prod.mk.injEq] at hzz
  obtain ⟨hz, hs, hb⟩ := hzz
  have hr := run_make (P := Try.prog) w 27 64 i (.agg #[.int .i64 0, .int .i64 0, .int .i64 0, .int .i64 0]) Try.underlying27 hi hz .i64 .i64 n n (by omega) (Int.le_refl _) (by rw [hb]; omega) (by omega)
  simp only [Int.toNat_natCast, hs, Value.cells] at hr
  exact hr
theorem row_made (w : World) (n : Nat) (T : TypeId) : (w.alloc (.cells (madeCells #[.int .i64 0, .int .i64 0, .int .i64 0, .int .i64 0] (n * 4)) T)).rowIs w.heap.size T (n * 4) (fun _ => .int .i64 0) := by
  have h := World.rowIs_alloc w (madeCells #[.int .i64 0, .int .i64 0, .int .i64 0, .int .i64 0] (n * 4)) T (fun _ => .int .i64 0) (fun i hi => by
    rw [size_madeCells] at hi
    simp [madeCells, hi]
    rcases (show i % 4 = 0 ∨ i % 4 = 1 ∨ i % 4 = 2 ∨ i % 4 = 3 by omega) with h | h | h | h <;> simp [h])
  rwa [size_madeCells] at h
/-- So far the row holds what was copied, behind it zeros. -/
def cpF (x : Nat → Int) (c : Nat) (i : Nat) : Value := .int .i64 (if i < c * 4 then x i else 0)
theorem row_step {w w' : World} {g n : Nat} {T : TypeId} {f : Nat → Value} (h : w.rowIs g T n f) (hB : Below w.heap.size w w') : w'.rowIs g T n f := h.of_block (hB.block g h.lt)
theorem cp_step {w : World} {g n c : Nat} {T : TypeId} {x : Nat → Int} (h : w.rowIs g T (n * 4) (cpF x c)) (_hc : c < n) :
    ((((w.setCell ⟨g, c * 4, none⟩ (.int .i64 (x (c * 4)))).setCell ⟨g, c * 4 + 1, none⟩ (.int .i64 (x (c * 4 + 1)))).setCell ⟨g, c * 4 + 2, none⟩ (.int .i64 (x (c * 4 + 2)))).setCell ⟨g, c * 4 + 3, none⟩ (.int .i64 (x (c * 4 + 3)))).rowIs g T (n * 4) (cpF x (c + 1)) := by
  refine ((((h.set (c * 4) (.int .i64 (x (c * 4)))).set (c * 4 + 1) (.int .i64 (x (c * 4 + 1)))).set (c * 4 + 2) (.int .i64 (x (c * 4 + 2)))).set (c * 4 + 3) (.int .i64 (x (c * 4 + 3)))).congr (fun i hi => ?_)
  unfold cpF
  by_cases h3 : i = c * 4 + 3
  · subst h3; simp <;> omega
  by_cases h2 : i = c * 4 + 2
  · subst h2; simp <;> omega
  by_cases h1 : i = c * 4 + 1
  · subst h1; simp <;> omega
  by_cases h0 : i = c * 4
  · subst h0; simp <;> omega
  simp [h3, h2, h1, h0]
  by_cases hl : i < c * 4
  · simp [hl] <;> omega
  · simp [hl] <;> omega
end Go.Proofs.Ytpmnmlhfaoajdaa

/- Rows of segments: the law of what is at fault in them. -/
namespace Go.Proofs.Ytpmnmlhfaoajdaa
open Go.RowKit
set_option maxRecDepth 100000 in
set_option maxHeartbeats 2000000 in
theorem eqSegS_any (ao bo : Option Addr) (n ca cb : Nat) (x : Nat → Int) (hn : n ≤ 1048576) (w : World) (hA : SegIn w ao n x) (hC : SegIn w bo n x) : Calls Try.prog 11 #[.slice ao n ca, .slice bo n cb] w (BoolP true w) := by
  have HA : Hid (SegIn w ao n x) := hA
  have HC : Hid (SegIn w bo n x) := hC
  have hnI : (n : Int) ≤ 1048576 := by omega
  clear hA hC
  go_enter Try.func11, Try.ntmps11
  go_wp2_with fail
  go_loopw [5] (fun i wr => ∃ c : Nat, c ≤ n ∧ i = .int .i64 c ∧ Below w.heap.size w wr) (fun i _ => n - (intOf i).toNat)
  case atStart => exact ⟨0, by omega, rfl, Below.refl _ _⟩
  case round =>
    obtain ⟨c, hc, rfl, HB⟩ := hrel
    by_cases hcn : c < n
    · obtain ⟨A, off, rfl, hA, hcell⟩ := HA.out.step HB c hcn
      have q0 := hcell 0 (by omega); have q1 := hcell 1 (by omega); have q2 := hcell 2 (by omega); have q3 := hcell 3 (by omega)
      simp only [Nat.add_zero] at q0
      obtain ⟨B, off', rfl, hB', hcell'⟩ := HC.out.step HB c hcn
      have r0 := hcell' 0 (by omega); have r1 := hcell' 1 (by omega); have r2 := hcell' 2 (by omega); have r3 := hcell' 3 (by omega)
      simp only [Nat.add_zero] at r0
      have hcI : (c : Int) < n := by omega
      clear hcell hcell'
      have KS : (fun w' => w'.cell? ⟨A, off + c * 4, none⟩ = some (.int .i64 (x (c * 4))) ∧ w'.cell? ⟨A, off + c * 4 + 1, none⟩ = some (.int .i64 (x (c * 4 + 1))) ∧ w'.cell? ⟨A, off + c * 4 + 2, none⟩ = some (.int .i64 (x (c * 4 + 2))) ∧ w'.cell? ⟨A, off + c * 4 + 3, none⟩ = some (.int .i64 (x (c * 4 + 3))) ∧ w'.cell? ⟨B, off' + c * 4, none⟩ = some (.int .i64 (x (c * 4))) ∧ w'.cell? ⟨B, off' + c * 4 + 1, none⟩ = some (.int .i64 (x (c * 4 + 1))) ∧ w'.cell? ⟨B, off' + c * 4 + 2, none⟩ = some (.int .i64 (x (c * 4 + 2))) ∧ w'.cell? ⟨B, off' + c * 4 + 3, none⟩ = some (.int .i64 (x (c * 4 + 3)))) wr := ⟨q0, q1, q2, q3, r0, r1, r2, r3⟩
      go_wp2_with fail
      go_region_held3 (fun w' => w'.cell? ⟨A, off + c * 4, none⟩ = some (.int .i64 (x (c * 4))) ∧ w'.cell? ⟨A, off + c * 4 + 1, none⟩ = some (.int .i64 (x (c * 4 + 1))) ∧ w'.cell? ⟨A, off + c * 4 + 2, none⟩ = some (.int .i64 (x (c * 4 + 2))) ∧ w'.cell? ⟨A, off + c * 4 + 3, none⟩ = some (.int .i64 (x (c * 4 + 3))) ∧ w'.cell? ⟨B, off' + c * 4, none⟩ = some (.int .i64 (x (c * 4))) ∧ w'.cell? ⟨B, off' + c * 4 + 1, none⟩ = some (.int .i64 (x (c * 4 + 1))) ∧ w'.cell? ⟨B, off' + c * 4 + 2, none⟩ = some (.int .i64 (x (c * 4 + 2))) ∧ w'.cell? ⟨B, off' + c * 4 + 3, none⟩ = some (.int .i64 (x (c * 4 + 3)))) (first | (exact KS) | (exact KS'))
        (first
          | (go_at_call 34; refine (eqSeg_same (x (c * 4)) (x (c * 4 + 1)) (x (c * 4 + 2)) (x (c * 4 + 3)) _).mono ?_; rintro e w1 ⟨rfl, hB⟩; have KS' : (fun w' => w'.cell? ⟨A, off + c * 4, none⟩ = some (.int .i64 (x (c * 4))) ∧ w'.cell? ⟨A, off + c * 4 + 1, none⟩ = some (.int .i64 (x (c * 4 + 1))) ∧ w'.cell? ⟨A, off + c * 4 + 2, none⟩ = some (.int .i64 (x (c * 4 + 2))) ∧ w'.cell? ⟨A, off + c * 4 + 3, none⟩ = some (.int .i64 (x (c * 4 + 3))) ∧ w'.cell? ⟨B, off' + c * 4, none⟩ = some (.int .i64 (x (c * 4))) ∧ w'.cell? ⟨B, off' + c * 4 + 1, none⟩ = some (.int .i64 (x (c * 4 + 1))) ∧ w'.cell? ⟨B, off' + c * 4 + 2, none⟩ = some (.int .i64 (x (c * 4 + 2))) ∧ w'.cell? ⟨B, off' + c * 4 + 3, none⟩ = some (.int .i64 (x (c * 4 + 3)))) w1 := ⟨(hB.cell (p := ⟨A, _, none⟩) hA).trans q0, (hB.cell (p := ⟨A, _, none⟩) hA).trans q1, (hB.cell (p := ⟨A, _, none⟩) hA).trans q2, (hB.cell (p := ⟨A, _, none⟩) hA).trans q3, (hB.cell (p := ⟨B, _, none⟩) hB').trans r0, (hB.cell (p := ⟨B, _, none⟩) hB').trans r1, (hB.cell (p := ⟨B, _, none⟩) hB').trans r2, (hB.cell (p := ⟨B, _, none⟩) hB').trans r3⟩; (first | (have HB2 := HB.trans (hB.mono HB.size)) | (have HB2 := HB.drew.trans (hB.mono HB.drew.size))); clear hB))
      all_goals clear HB KS q0 q1 q2 q3 r0 r1 r2 r3
      all_goals go_wp2
      all_goals go_roundw
      case rel => exact ⟨c + 1, by omega, by go_num, HB2⟩
      case measure => simp [intOf]; omega
    · obtain rfl : c = n := by omega
      clear HA HC
      go_wp2
      go_ret
      exact ⟨rfl, HB⟩
theorem szSegS_any (ao : Option Addr) (n cap : Nat) (hn : n ≤ 9223372036854775807) (w : World) : Calls Try.prog 6 #[.slice ao n cap, .int .i64 1048576] w (VP (.int .i64 (if n ≤ 1048576 then 1048576 - n else -1)) w) := by
  have hnI : (n : Int) ≤ 9223372036854775807 := by omega
  by_cases h : n ≤ 1048576
  · rw [if_pos h]
    have h' : (n : Int) ≤ 1048576 := by omega
    go_enter Try.func6, Try.ntmps6
    go_wp2
    go_ret
    exact ⟨rfl, Below.refl _ _⟩
  · rw [if_neg h]
    have h' : (1048576 : Int) < n := by omega
    go_enter Try.func6, Try.ntmps6
    go_wp2
    go_ret
    exact ⟨rfl, Below.refl _ _⟩
end Go.Proofs.Ytpmnmlhfaoajdaa

/- Rows of numbers: how they lie; copied, held against one another. -/
namespace Go.Proofs.Ytpmnmlhfaoajdaa
open Go.RowKit
/-- n numbers lie behind a slice's address. -/
def NoIn (w : World) (ao : Option Addr) (n : Nat) (x : Nat → Int) : Prop :=
  ∀ i, i < n → ∃ A off, ao = some ⟨A, off, none⟩ ∧ A < w.heap.size ∧ w.cell? ⟨A, off + i, none⟩ = some (.int .i64 (x i))
theorem NoIn.step {w w' : World} {ao : Option Addr} {n : Nat} {x : Nat → Int} (h : NoIn w ao n x) (hB : Below w.heap.size w w') : NoIn w' ao n x := fun i hi => by
  obtain ⟨A, off, e, hA, hc⟩ := h i hi
  exact ⟨A, off, e, Nat.lt_of_lt_of_le hA hB.size, (hB.cell (p := ⟨A, off + i, none⟩) hA).trans hc⟩
end Go.Proofs.Ytpmnmlhfaoajdaa
