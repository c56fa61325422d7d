/- Part 12 of the walks that the proof leans on. -/
import Derived.Test.YtibbjjlapglndaaGreatLs11
import Derived.Test.YtibbjjlapglndaaGreatLs9
import Derived.Test.YtibbjjlapglndaaGreatLs7
import Derived.Deep.OwnRows
import Derived.Deep.RegionHeld3
namespace Go.Proofs.YtibbjjlapglndaaGreat
open Go.RowKit
theorem sizeS_det (n : Int) (h0 : -9223372036854775807 ≤ n) (h1 : n ≤ 9223372036854775807) (w : World) : Calls Tryz.prog 137 #[.int .i64 n] w (VP (.int .u64 (n.natAbs : Int)) w) := by
 by_cases h : 0 ≤ n
 · have e1 : max n (-n) = n := by omega
   have e2 : (n.natAbs : Int) = n := by omega
   rw [e2]
   go_enter Tryz.func137, Tryz.ntmps137
   go_wp2
   go_ret
   exact ⟨rfl, Below.refl _ _⟩
 · have e1 : max n (-n) = -n := by omega
   have e2 : (n.natAbs : Int) = -n := by omega
   rw [e2]
   go_enter Tryz.func137, Tryz.ntmps137
   go_wp2
   go_ret
   exact ⟨rfl, Below.refl _ _⟩
theorem gcd_3a (x y z : Int) : Int.gcd (y.natAbs : Int) (Int.gcd (x.natAbs : Int) (z.natAbs : Int) : Int) = Int.gcd (Int.gcd x y : Int) z := by
 unfold Int.gcd
 simp only [Int.natAbs_natCast]
 rw [Nat.gcd_assoc, Nat.gcd_left_comm]
theorem gcd3_dvd (x y z : Int) : (Int.gcd (Int.gcd x y : Int) z : Int) ∣ x ∧ (Int.gcd (Int.gcd x y : Int) z : Int) ∣ y ∧ (Int.gcd (Int.gcd x y : Int) z : Int) ∣ z := by
 have h1 : (Int.gcd (Int.gcd x y : Int) z : Int) ∣ (Int.gcd x y : Int) := Int.gcd_dvd_left _ _
 exact ⟨Int.dvd_trans h1 (Int.gcd_dvd_left _ _), Int.dvd_trans h1 (Int.gcd_dvd_right _ _), Int.gcd_dvd_right _ _⟩
theorem tdiv_share {n g z : Int} (hg : 0 < g) (hd : g ∣ n) : n.tdiv (if z < 0 then -g else g) = shareZ n g (decide (z < 0)) := by
 obtain ⟨k, rfl⟩ := hd
 have e : ((g * k).natAbs : Int) / g = (k.natAbs : Int) := by
   rw [Int.natAbs_mul, Int.natCast_mul, show ((g.natAbs : Nat) : Int) = g by omega]
   exact Int.mul_ediv_cancel_left _ (by omega)
 have s1 : g * k < 0 ↔ k < 0 := by
   constructor
   · intro h
     apply Decidable.byContradiction
     intro h'
     have := Int.mul_nonneg (a := g) (b := k) (by omega) (by omega)
     omega
   · intro h
     exact Int.mul_neg_of_pos_of_neg hg h
 unfold shareZ
 rw [e]
 by_cases hz : z < 0
 · rw [if_pos hz, decide_eq_true hz, Int.tdiv_neg, Int.mul_tdiv_cancel_left _ (by omega)]
   by_cases hk : k < 0
   · rw [decide_eq_true (s1.2 hk), if_neg (by decide)]; omega
   · rw [decide_eq_false (fun h => hk (s1.1 h)), if_pos (by decide)]; omega
 · rw [if_neg hz, decide_eq_false hz, Int.mul_tdiv_cancel_left _ (by omega)]
   by_cases hk : k < 0
   · rw [decide_eq_true (s1.2 hk), if_pos (by decide)]; omega
   · rw [decide_eq_false (fun h => hk (s1.1 h)), if_neg (by decide)]; omega
theorem share_abs {n g : Int} {b : Bool} (hg : 0 < g) : -(n.natAbs : Int) ≤ shareZ n g b ∧ shareZ n g b ≤ (n.natAbs : Int) := by
 have h1 := Int.ediv_nonneg (a := (n.natAbs : Int)) (b := g) (by omega) (by omega)
 have h2 := Int.ediv_le_self (a := (n.natAbs : Int)) g (by omega)
 unfold shareZ
 split <;> omega
set_option maxRecDepth 100000 in
set_option maxHeartbeats 4000000 in
theorem smallPoint_det (x y z : Int) (hx : -9000000000000000000 ≤ x ∧ x ≤ 9000000000000000000) (hy : -9000000000000000000 ≤ y ∧ y ≤ 9000000000000000000) (hz : -8000000000000 ≤ z ∧ z ≤ 8000000000000) (h0 : z ≠ 0) (w : World) : Calls Tryz.prog 111 #[.int .i64 x, .int .i64 y, .int .i64 z] w (VP (.agg #[.int .u64 (ww3 (shareZ x (Int.gcd (Int.gcd x y : Int) z : Int) (decide (z < 0)))), .int .u64 (ww2 (shareZ x (Int.gcd (Int.gcd x y : Int) z : Int) (decide (z < 0)))), .int .u64 (ww1 (shareZ x (Int.gcd (Int.gcd x y : Int) z : Int) (decide (z < 0)))), .int .u64 (ww0 (shareZ x (Int.gcd (Int.gcd x y : Int) z : Int) (decide (z < 0)))), .int .u64 (ww3 (shareZ y (Int.gcd (Int.gcd x y : Int) z : Int) (decide (z < 0)))), .int .u64 (ww2 (shareZ y (Int.gcd (Int.gcd x y : Int) z : Int) (decide (z < 0)))), .int .u64 (ww1 (shareZ y (Int.gcd (Int.gcd x y : Int) z : Int) (decide (z < 0)))), .int .u64 (ww0 (shareZ y (Int.gcd (Int.gcd x y : Int) z : Int) (decide (z < 0)))), .int .u64 (ww3 (shareZ z (Int.gcd (Int.gcd x y : Int) z : Int) (decide (z < 0)))), .int .u64 (ww2 (shareZ z (Int.gcd (Int.gcd x y : Int) z : Int) (decide (z < 0)))), .int .u64 (ww1 (shareZ z (Int.gcd (Int.gcd x y : Int) z : Int) (decide (z < 0)))), .int .u64 (ww0 (shareZ z (Int.gcd (Int.gcd x y : Int) z : Int) (decide (z < 0))))]) w) := by
 have gp : 0 < Int.gcd (Int.gcd x y : Int) z := Int.gcd_pos_of_ne_zero_right _ h0
 have gpI : (0 : Int) < (Int.gcd (Int.gcd x y : Int) z : Int) := by omega
 obtain ⟨d1, d2, d3⟩ := gcd3_dvd x y z
 have gz : (Int.gcd (Int.gcd x y : Int) z : Int) ≤ (z.natAbs : Int) := Int.le_of_dvd (by omega) (Int.dvd_natAbs.2 d3)
 have gx : Int.gcd (x.natAbs : Int) (z.natAbs : Int) ≤ z.natAbs := Nat.gcd_le_right _ (by omega)
 have S1 := sizeS_det x (by omega) (by omega)
 have S2 := sizeS_det y (by omega) (by omega)
 have S3 := sizeS_det z (by omega) (by omega)
 have C1 := gcdW_any (x.natAbs : Int) (z.natAbs : Int) ⟨by omega, by omega⟩ ⟨by omega, by omega⟩
 have C2 := gcdW_any (y.natAbs : Int) (Int.gcd (x.natAbs : Int) (z.natAbs : Int) : Int) ⟨by omega, by omega⟩ ⟨by omega, by omega⟩
 unfold GcdWP at C1 C2
 rw [gcd_3a] at C2
 have q1 := share_abs (n := x) (b := decide (z < 0)) gpI; have q2 := share_abs (n := y) (b := decide (z < 0)) gpI; have q3 := share_abs (n := z) (b := decide (z < 0)) gpI
 have t1 := tdiv_share (z := z) gpI d1; have t2 := tdiv_share (z := z) gpI d2; have t3 := tdiv_share (z := z) gpI d3
 generalize (shareZ x (Int.gcd (Int.gcd x y : Int) z : Int) (decide (z < 0))) = sx at *
 generalize (shareZ y (Int.gcd (Int.gcd x y : Int) z : Int) (decide (z < 0))) = sy at *
 generalize (shareZ z (Int.gcd (Int.gcd x y : Int) z : Int) (decide (z < 0))) = sz at *
 clear d1 d2 d3 gp
 generalize (Int.gcd (Int.gcd x y : Int) z : Int) = gg at *
 generalize (Int.gcd (x.natAbs : Int) (z.natAbs : Int) : Int) = g1 at *
 have B0 := Blk.new w [.int .u64 0, .int .u64 0, .int .u64 0, .int .u64 0, .int .u64 0, .int .u64 0, .int .u64 0, .int .u64 0, .int .u64 0, .int .u64 0, .int .u64 0, .int .u64 0] 38 rfl
 have HB : Below w.heap.size w (w.alloc (.cells #[.int .u64 0, .int .u64 0, .int .u64 0, .int .u64 0, .int .u64 0, .int .u64 0, .int .u64 0, .int .u64 0, .int .u64 0, .int .u64 0, .int .u64 0, .int .u64 0] 38)) := (Below.refl _ _).alloc (Nat.le_refl _) _
 have zb : (z.natAbs : Int) ≤ 8000000000000 := by omega
 have xb : (x.natAbs : Int) ≤ 9000000000000000000 := by omega
 have yb : (y.natAbs : Int) ≤ 9000000000000000000 := by omega
 generalize (x.natAbs : Int) = ax at *
 generalize (y.natAbs : Int) = ay at *
 generalize (z.natAbs : Int) = az at *
 by_cases hz0 : z < 0
 · rw [if_pos hz0] at t1 t2 t3
   have t1' : -(x.tdiv gg) = sx := by rw [← Int.tdiv_neg]; exact t1
   have t2' : -(y.tdiv gg) = sy := by rw [← Int.tdiv_neg]; exact t2
   have t3' : -(z.tdiv gg) = sz := by rw [← Int.tdiv_neg]; exact t3
   go_enter Tryz.func111, Tryz.ntmps111
   go_wp2_with fail
   refine (S1 _).mono ?_
   rintro e w1 ⟨rfl, hB⟩
   replace B0 := B0.step hB; replace HB := HB.trans (hB.mono HB.size)
   clear hB
   go_wp2_with fail
   refine (S3 _).mono ?_
   rintro e w2 ⟨rfl, hB⟩
   replace B0 := B0.step hB; replace HB := HB.trans (hB.mono HB.size)
   clear hB
   go_wp2_with fail
   refine (C1 _).mono ?_
   rintro e w3 ⟨rfl, hB⟩
   replace B0 := B0.step hB; replace HB := HB.trans (hB.mono HB.size)
   clear hB
   go_wp2_with fail
   refine (S2 _).mono ?_
   rintro e w4 ⟨rfl, hB⟩
   replace B0 := B0.step hB; replace HB := HB.trans (hB.mono HB.size)
   clear hB
   go_wp2_with fail
   refine (C2 _).mono ?_
   rintro e w5 ⟨rfl, hB⟩
   replace B0 := B0.step hB; replace HB := HB.trans (hB.mono HB.size)
   clear hB
   have hB0 : (-gg) ≠ 0 := by omega
   have O1 := fun w => implOf_det sx w (by omega) (by omega)
   have O2 := fun w => implOf_det sy w (by omega) (by omega)
   have O3 := fun w => implOf_det sz w (by omega) (by omega)
   have tok1 : True := trivial
   have tok2 : True := trivial
   go_upto_region 5 with fail
   have hw1 : IntKind.i64.wrap sx = sx := wrapI (by omega) (by omega)
   have hw2 : IntKind.i64.wrap sy = sy := wrapI (by omega) (by omega)
   have hw3 : IntKind.i64.wrap sz = sz := wrapI (by omega) (by omega)
   clear q1 q2 q3 gz gx zb xb yb S1 S2 S3 C1 C2
   go_region_held3 (fun _ => True) (trivial)
     (first
       | (go_at_call 102; have _t := tok1; refine (O1 _).mono ?_; rintro e w6 ⟨rfl, hB⟩; (first | (replace B0 := B0.step hB; replace HB := HB.trans (hB.mono HB.size)) | (replace B0 := B0.drew.step hB; replace HB := HB.drew.trans (hB.mono HB.drew.size))); clear hB; clear tok1 _t)
       | (go_at_call 102; have _t := tok2; refine (O2 _).mono ?_; rintro e w7 ⟨rfl, hB⟩; (first | (replace B0 := B0.step hB; replace HB := HB.trans (hB.mono HB.size)) | (replace B0 := B0.drew.step hB; replace HB := HB.drew.trans (hB.mono HB.drew.size))); clear hB; clear tok2 _t)
       | (go_at_call 102; refine (O3 _).mono ?_; rintro e w8 ⟨rfl, hB⟩; (first | (replace B0 := B0.step hB; replace HB := HB.trans (hB.mono HB.size)) | (replace B0 := B0.drew.step hB; replace HB := HB.drew.trans (hB.mono HB.drew.size))); clear hB; obtain ⟨oc0, of0, oc1, of1, oc2, of2, oc3, of3, oc4, of4, oc5, of5, oc6, of6, oc7, of7, oc8, of8, oc9, of9, oc10, of10, oc11, of11⟩ := B0.cf12; have ol := B0.lt))
   all_goals clear B0
   all_goals go_wp2
   all_goals refine bodyPost_ret (v := .agg #[.int .u64 (ww3 sx), .int .u64 (ww2 sx), .int .u64 (ww1 sx), .int .u64 (ww0 sx), .int .u64 (ww3 sy), .int .u64 (ww2 sy), .int .u64 (ww1 sy), .int .u64 (ww0 sy), .int .u64 (ww3 sz), .int .u64 (ww2 sz), .int .u64 (ww1 sz), .int .u64 (ww0 sz)]) (by simp [results, Tryz.results111, go_sem, oc0, oc1, oc2, oc3, oc4, oc5, oc6, oc7, oc8, oc9, oc10, oc11]) rfl ?_
   all_goals refine ⟨rfl, ?_⟩
   all_goals repeat' (refine Below.setCell ?_ (by simp) _)
   all_goals first | exact HB | exact HB.drew
 · rw [if_neg hz0] at t1 t2 t3
   go_enter Tryz.func111, Tryz.ntmps111
   go_wp2_with fail
   refine (S1 _).mono ?_
   rintro e w1 ⟨rfl, hB⟩
   replace B0 := B0.step hB; replace HB := HB.trans (hB.mono HB.size)
   clear hB
   go_wp2_with fail
   refine (S3 _).mono ?_
   rintro e w2 ⟨rfl, hB⟩
   replace B0 := B0.step hB; replace HB := HB.trans (hB.mono HB.size)
   clear hB
   go_wp2_with fail
   refine (C1 _).mono ?_
   rintro e w3 ⟨rfl, hB⟩
   replace B0 := B0.step hB; replace HB := HB.trans (hB.mono HB.size)
   clear hB
   go_wp2_with fail
   refine (S2 _).mono ?_
   rintro e w4 ⟨rfl, hB⟩
   replace B0 := B0.step hB; replace HB := HB.trans (hB.mono HB.size)
   clear hB
   go_wp2_with fail
   refine (C2 _).mono ?_
   rintro e w5 ⟨rfl, hB⟩
   replace B0 := B0.step hB; replace HB := HB.trans (hB.mono HB.size)
   clear hB
   have hB0 : gg ≠ 0 := by omega
   have O1 := fun w => implOf_det sx w (by omega) (by omega)
   have O2 := fun w => implOf_det sy w (by omega) (by omega)
   have O3 := fun w => implOf_det sz w (by omega) (by omega)
   have tok1 : True := trivial
   have tok2 : True := trivial
   go_upto_region 5 with fail
   have hw1 : IntKind.i64.wrap sx = sx := wrapI (by omega) (by omega)
   have hw2 : IntKind.i64.wrap sy = sy := wrapI (by omega) (by omega)
   have hw3 : IntKind.i64.wrap sz = sz := wrapI (by omega) (by omega)
   clear q1 q2 q3 gz gx zb xb yb S1 S2 S3 C1 C2
   go_region_held3 (fun _ => True) (trivial)
     (first
       | (go_at_call 102; have _t := tok1; refine (O1 _).mono ?_; rintro e w6 ⟨rfl, hB⟩; (first | (replace B0 := B0.step hB; replace HB := HB.trans (hB.mono HB.size)) | (replace B0 := B0.drew.step hB; replace HB := HB.drew.trans (hB.mono HB.drew.size))); clear hB; clear tok1 _t)
       | (go_at_call 102; have _t := tok2; refine (O2 _).mono ?_; rintro e w7 ⟨rfl, hB⟩; (first | (replace B0 := B0.step hB; replace HB := HB.trans (hB.mono HB.size)) | (replace B0 := B0.drew.step hB; replace HB := HB.drew.trans (hB.mono HB.drew.size))); clear hB; clear tok2 _t)
       | (go_at_call 102; refine (O3 _).mono ?_; rintro e w8 ⟨rfl, hB⟩; (first | (replace B0 := B0.step hB; replace HB := HB.trans (hB.mono HB.size)) | (replace B0 := B0.drew.step hB; replace HB := HB.drew.trans (hB.mono HB.drew.size))); clear hB; obtain ⟨oc0, of0, oc1, of1, oc2, of2, oc3, of3, oc4, of4, oc5, of5, oc6, of6, oc7, of7, oc8, of8, oc9, of9, oc10, of10, oc11, of11⟩ := B0.cf12; have ol := B0.lt))
   all_goals clear B0
   all_goals go_wp2
   all_goals refine bodyPost_ret (v := .agg #[.int .u64 (ww3 sx), .int .u64 (ww2 sx), .int .u64 (ww1 sx), .int .u64 (ww0 sx), .int .u64 (ww3 sy), .int .u64 (ww2 sy), .int .u64 (ww1 sy), .int .u64 (ww0 sy), .int .u64 (ww3 sz), .int .u64 (ww2 sz), .int .u64 (ww1 sz), .int .u64 (ww0 sz)]) (by simp [results, Tryz.results111, go_sem, oc0, oc1, oc2, oc3, oc4, oc5, oc6, oc7, oc8, oc9, oc10, oc11]) rfl ?_
   all_goals refine ⟨rfl, ?_⟩
   all_goals repeat' (refine Below.setCell ?_ (by simp) _)
   all_goals first | exact HB | exact HB.drew
def meetW (a b c d p q u v : Int) : Value := if ((b - d) * (u - p) - (q - v) * (c - a)) = 0 then alongV a b c d p q u v else if pt2 (turnZ a b c d p q) (turnZ a b c d u v) && pt2 (turnZ p q u v a b) (turnZ p q u v c d) then .tuple #[.int .i64 1, .agg #[.int .u64 (ww3 (shareZ ((c - a) * (p * v - q * u) - (u - p) * (a * d - b * c)) (Int.gcd (Int.gcd ((c - a) * (p * v - q * u) - (u - p) * (a * d - b * c)) ((a * d - b * c) * (q - v) - (p * v - q * u) * (b - d)) : Int) ((b - d) * (u - p) - (q - v) * (c - a)) : Int) (decide (((b - d) * (u - p) - (q - v) * (c - a)) < 0)))), .int .u64 (ww2 (shareZ ((c - a) * (p * v - q * u) - (u - p) * (a * d - b * c)) (Int.gcd (Int.gcd ((c - a) * (p * v - q * u) - (u - p) * (a * d - b * c)) ((a * d - b * c) * (q - v) - (p * v - q * u) * (b - d)) : Int) ((b - d) * (u - p) - (q - v) * (c - a)) : Int) (decide (((b - d) * (u - p) - (q - v) * (c - a)) < 0)))), .int .u64 (ww1 (shareZ ((c - a) * (p * v - q * u) - (u - p) * (a * d - b * c)) (Int.gcd (Int.gcd ((c - a) * (p * v - q * u) - (u - p) * (a * d - b * c)) ((a * d - b * c) * (q - v) - (p * v - q * u) * (b - d)) : Int) ((b - d) * (u - p) - (q - v) * (c - a)) : Int) (decide (((b - d) * (u - p) - (q - v) * (c - a)) < 0)))), .int .u64 (ww0 (shareZ ((c - a) * (p * v - q * u) - (u - p) * (a * d - b * c)) (Int.gcd (Int.gcd ((c - a) * (p * v - q * u) - (u - p) * (a * d - b * c)) ((a * d - b * c) * (q - v) - (p * v - q * u) * (b - d)) : Int) ((b - d) * (u - p) - (q - v) * (c - a)) : Int) (decide (((b - d) * (u - p) - (q - v) * (c - a)) < 0)))), .int .u64 (ww3 (shareZ ((a * d - b * c) * (q - v) - (p * v - q * u) * (b - d)) (Int.gcd (Int.gcd ((c - a) * (p * v - q * u) - (u - p) * (a * d - b * c)) ((a * d - b * c) * (q - v) - (p * v - q * u) * (b - d)) : Int) ((b - d) * (u - p) - (q - v) * (c - a)) : Int) (decide (((b - d) * (u - p) - (q - v) * (c - a)) < 0)))), .int .u64 (ww2 (shareZ ((a * d - b * c) * (q - v) - (p * v - q * u) * (b - d)) (Int.gcd (Int.gcd ((c - a) * (p * v - q * u) - (u - p) * (a * d - b * c)) ((a * d - b * c) * (q - v) - (p * v - q * u) * (b - d)) : Int) ((b - d) * (u - p) - (q - v) * (c - a)) : Int) (decide (((b - d) * (u - p) - (q - v) * (c - a)) < 0)))), .int .u64 (ww1 (shareZ ((a * d - b * c) * (q - v) - (p * v - q * u) * (b - d)) (Int.gcd (Int.gcd ((c - a) * (p * v - q * u) - (u - p) * (a * d - b * c)) ((a * d - b * c) * (q - v) - (p * v - q * u) * (b - d)) : Int) ((b - d) * (u - p) - (q - v) * (c - a)) : Int) (decide (((b - d) * (u - p) - (q - v) * (c - a)) < 0)))), .int .u64 (ww0 (shareZ ((a * d - b * c) * (q - v) - (p * v - q * u) * (b - d)) (Int.gcd (Int.gcd ((c - a) * (p * v - q * u) - (u - p) * (a * d - b * c)) ((a * d - b * c) * (q - v) - (p * v - q * u) * (b - d)) : Int) ((b - d) * (u - p) - (q - v) * (c - a)) : Int) (decide (((b - d) * (u - p) - (q - v) * (c - a)) < 0)))), .int .u64 (ww3 (shareZ ((b - d) * (u - p) - (q - v) * (c - a)) (Int.gcd (Int.gcd ((c - a) * (p * v - q * u) - (u - p) * (a * d - b * c)) ((a * d - b * c) * (q - v) - (p * v - q * u) * (b - d)) : Int) ((b - d) * (u - p) - (q - v) * (c - a)) : Int) (decide (((b - d) * (u - p) - (q - v) * (c - a)) < 0)))), .int .u64 (ww2 (shareZ ((b - d) * (u - p) - (q - v) * (c - a)) (Int.gcd (Int.gcd ((c - a) * (p * v - q * u) - (u - p) * (a * d - b * c)) ((a * d - b * c) * (q - v) - (p * v - q * u) * (b - d)) : Int) ((b - d) * (u - p) - (q - v) * (c - a)) : Int) (decide (((b - d) * (u - p) - (q - v) * (c - a)) < 0)))), .int .u64 (ww1 (shareZ ((b - d) * (u - p) - (q - v) * (c - a)) (Int.gcd (Int.gcd ((c - a) * (p * v - q * u) - (u - p) * (a * d - b * c)) ((a * d - b * c) * (q - v) - (p * v - q * u) * (b - d)) : Int) ((b - d) * (u - p) - (q - v) * (c - a)) : Int) (decide (((b - d) * (u - p) - (q - v) * (c - a)) < 0)))), .int .u64 (ww0 (shareZ ((b - d) * (u - p) - (q - v) * (c - a)) (Int.gcd (Int.gcd ((c - a) * (p * v - q * u) - (u - p) * (a * d - b * c)) ((a * d - b * c) * (q - v) - (p * v - q * u) * (b - d)) : Int) ((b - d) * (u - p) - (q - v) * (c - a)) : Int) (decide (((b - d) * (u - p) - (q - v) * (c - a)) < 0))))], .agg #[.int .u64 0, .int .u64 0, .int .u64 0, .int .u64 0, .int .u64 0, .int .u64 0, .int .u64 0, .int .u64 0, .int .u64 0, .int .u64 0, .int .u64 0, .int .u64 0]] else .tuple #[.int .i64 0, .agg #[.int .u64 0, .int .u64 0, .int .u64 0, .int .u64 0, .int .u64 0, .int .u64 0, .int .u64 0, .int .u64 0, .int .u64 0, .int .u64 0, .int .u64 0, .int .u64 0], .agg #[.int .u64 0, .int .u64 0, .int .u64 0, .int .u64 0, .int .u64 0, .int .u64 0, .int .u64 0, .int .u64 0, .int .u64 0, .int .u64 0, .int .u64 0, .int .u64 0]]
theorem along_ex (a b c d p q u v : Int) : ∃ (k : Int) (r0 r1 r2 r3 r4 r5 r6 r7 r8 r9 r10 r11 s0 s1 s2 s3 s4 s5 s6 s7 s8 s9 s10 s11 : Int), alongV a b c d p q u v = .tuple #[.int .i64 k, .agg #[.int .u64 r0, .int .u64 r1, .int .u64 r2, .int .u64 r3, .int .u64 r4, .int .u64 r5, .int .u64 r6, .int .u64 r7, .int .u64 r8, .int .u64 r9, .int .u64 r10, .int .u64 r11], .agg #[.int .u64 s0, .int .u64 s1, .int .u64 s2, .int .u64 s3, .int .u64 s4, .int .u64 s5, .int .u64 s6, .int .u64 s7, .int .u64 s8, .int .u64 s9, .int .u64 s10, .int .u64 s11]] := by
 unfold alongV
 generalize (if lessI a b p q = true then p else a) = fx
 generalize (if lessI a b p q = true then q else b) = fy
 generalize (if lessI u v c d = true then u else c) = lx
 generalize (if lessI u v c d = true then v else d) = ly
 split
 · exact ⟨_, _, _, _, _, _, _, _, _, _, _, _, _, _, _, _, _, _, _, _, _, _, _, _, _, rfl⟩
 · split
   · exact ⟨_, _, _, _, _, _, _, _, _, _, _, _, _, _, _, _, _, _, _, _, _, _, _, _, _, rfl⟩
   · exact ⟨_, _, _, _, _, _, _, _, _, _, _, _, _, _, _, _, _, _, _, _, _, _, _, _, _, rfl⟩
theorem meetW_ex (a b c d p q u v : Int) : ∃ (k : Int) (r0 r1 r2 r3 r4 r5 r6 r7 r8 r9 r10 r11 s0 s1 s2 s3 s4 s5 s6 s7 s8 s9 s10 s11 : Int), meetW a b c d p q u v = .tuple #[.int .i64 k, .agg #[.int .u64 r0, .int .u64 r1, .int .u64 r2, .int .u64 r3, .int .u64 r4, .int .u64 r5, .int .u64 r6, .int .u64 r7, .int .u64 r8, .int .u64 r9, .int .u64 r10, .int .u64 r11], .agg #[.int .u64 s0, .int .u64 s1, .int .u64 s2, .int .u64 s3, .int .u64 s4, .int .u64 s5, .int .u64 s6, .int .u64 s7, .int .u64 s8, .int .u64 s9, .int .u64 s10, .int .u64 s11]] := by
 unfold meetW
 split
 · exact along_ex a b c d p q u v
 · split
   · exact ⟨_, _, _, _, _, _, _, _, _, _, _, _, _, _, _, _, _, _, _, _, _, _, _, _, _, rfl⟩
   · exact ⟨_, _, _, _, _, _, _, _, _, _, _, _, _, _, _, _, _, _, _, _, _, _, _, _, _, rfl⟩
set_option maxRecDepth 100000 in
set_option maxHeartbeats 8000000 in
theorem meet_det (a b c d p q u v : Int) (ha : In1 a) (hb : In1 b) (hc : In1 c) (hd : In1 d) (hp : In1 p) (hq : In1 q) (hu : In1 u) (hv : In1 v) (w : World) : Calls Tryz.prog 72 #[Sg a b c d, Sg p q u v] w (VP (meetW a b c d p q u v) w) := by
 have LS := lineOf_det a b c d ha hb hc hd
 have LT := lineOf_det p q u v hp hq hu hv
 obtain ⟨x1, x2⟩ := mul_in (p := a) (q := d) (M := 1000000) (N := 1000000) ha.1 ha.2 hd.1 hd.2
 obtain ⟨x3, x4⟩ := mul_in (p := b) (q := c) (M := 1000000) (N := 1000000) hb.1 hb.2 hc.1 hc.2
 obtain ⟨y1, y2⟩ := mul_in (p := p) (q := v) (M := 1000000) (N := 1000000) hp.1 hp.2 hv.1 hv.2
 obtain ⟨y3, y4⟩ := mul_in (p := q) (q := u) (M := 1000000) (N := 1000000) hq.1 hq.2 hu.1 hu.2
 have i1 : In2 (b - d) := ⟨by omega, by omega⟩
 have i2 : In2 (c - a) := ⟨by omega, by omega⟩
 have i3 : In3 (a * d - b * c) := ⟨by omega, by omega⟩
 have j1 : In2 (q - v) := ⟨by omega, by omega⟩
 have j2 : In2 (u - p) := ⟨by omega, by omega⟩
 have j3 : In3 (p * v - q * u) := ⟨by omega, by omega⟩
 have CR := crossing_det (b - d) (c - a) (a * d - b * c) (q - v) (u - p) (p * v - q * u) i1 i2 i3 j1 j2 j3
 have bX : -9000000000000000000 ≤ ((c - a) * (p * v - q * u) - (u - p) * (a * d - b * c)) ∧ ((c - a) * (p * v - q * u) - (u - p) * (a * d - b * c)) ≤ 9000000000000000000 := by
   have e1 := mul_in (p := c - a) (q := p * v - q * u) (M := 2000000) (N := 2000000000000) i2.1 i2.2 j3.1 j3.2
   have e2 := mul_in (p := u - p) (q := a * d - b * c) (M := 2000000) (N := 2000000000000) j2.1 j2.2 i3.1 i3.2
   omega
 have bY : -9000000000000000000 ≤ ((a * d - b * c) * (q - v) - (p * v - q * u) * (b - d)) ∧ ((a * d - b * c) * (q - v) - (p * v - q * u) * (b - d)) ≤ 9000000000000000000 := by
   have e1 := mul_in (p := a * d - b * c) (q := q - v) (M := 2000000000000) (N := 2000000) i3.1 i3.2 j1.1 j1.2
   have e2 := mul_in (p := p * v - q * u) (q := b - d) (M := 2000000000000) (N := 2000000) j3.1 j3.2 i1.1 i1.2
   omega
 have bW : -8000000000000 ≤ ((b - d) * (u - p) - (q - v) * (c - a)) ∧ ((b - d) * (u - p) - (q - v) * (c - a)) ≤ 8000000000000 := by
   have e1 := mul_in (p := b - d) (q := u - p) (M := 2000000) (N := 2000000) i1.1 i1.2 j2.1 j2.2
   have e2 := mul_in (p := q - v) (q := c - a) (M := 2000000) (N := 2000000) j1.1 j1.2 i2.1 i2.2
   omega
 have SM := smallPoint_det ((c - a) * (p * v - q * u) - (u - p) * (a * d - b * c)) ((a * d - b * c) * (q - v) - (p * v - q * u) * (b - d)) ((b - d) * (u - p) - (q - v) * (c - a)) bX bY bW
 have AL := meetAlong_det a b c d p q u v ha hb hc hd hp hq hu hv
 have P1 := fun g w h => parts2_det a b c d p q u v ha hb hc hd hp hq hu hv g w h
 have P2 := fun g w h => parts2_det p q u v a b c d hp hq hu hv ha hb hc hd g w h
 have HV : Hid (meetW a b c d p q u v = if ((b - d) * (u - p) - (q - v) * (c - a)) = 0 then alongV a b c d p q u v else if pt2 (turnZ a b c d p q) (turnZ a b c d u v) && pt2 (turnZ p q u v a b) (turnZ p q u v c d) then .tuple #[.int .i64 1, .agg #[.int .u64 (ww3 (shareZ ((c - a) * (p * v - q * u) - (u - p) * (a * d - b * c)) (Int.gcd (Int.gcd ((c - a) * (p * v - q * u) - (u - p) * (a * d - b * c)) ((a * d - b * c) * (q - v) - (p * v - q * u) * (b - d)) : Int) ((b - d) * (u - p) - (q - v) * (c - a)) : Int) (decide (((b - d) * (u - p) - (q - v) * (c - a)) < 0)))), .int .u64 (ww2 (shareZ ((c - a) * (p * v - q * u) - (u - p) * (a * d - b * c)) (Int.gcd (Int.gcd ((c - a) * (p * v - q * u) - (u - p) * (a * d - b * c)) ((a * d - b * c) * (q - v) - (p * v - q * u) * (b - d)) : Int) ((b - d) * (u - p) - (q - v) * (c - a)) : Int) (decide (((b - d) * (u - p) - (q - v) * (c - a)) < 0)))), .int .u64 (ww1 (shareZ ((c - a) * (p * v - q * u) - (u - p) * (a * d - b * c)) (Int.gcd (Int.gcd ((c - a) * (p * v - q * u) - (u - p) * (a * d - b * c)) ((a * d - b * c) * (q - v) - (p * v - q * u) * (b - d)) : Int) ((b - d) * (u - p) - (q - v) * (c - a)) : Int) (decide (((b - d) * (u - p) - (q - v) * (c - a)) < 0)))), .int .u64 (ww0 (shareZ ((c - a) * (p * v - q * u) - (u - p) * (a * d - b * c)) (Int.gcd (Int.gcd ((c - a) * (p * v - q * u) - (u - p) * (a * d - b * c)) ((a * d - b * c) * (q - v) - (p * v - q * u) * (b - d)) : Int) ((b - d) * (u - p) - (q - v) * (c - a)) : Int) (decide (((b - d) * (u - p) - (q - v) * (c - a)) < 0)))), .int .u64 (ww3 (shareZ ((a * d - b * c) * (q - v) - (p * v - q * u) * (b - d)) (Int.gcd (Int.gcd ((c - a) * (p * v - q * u) - (u - p) * (a * d - b * c)) ((a * d - b * c) * (q - v) - (p * v - q * u) * (b - d)) : Int) ((b - d) * (u - p) - (q - v) * (c - a)) : Int) (decide (((b - d) * (u - p) - (q - v) * (c - a)) < 0)))), .int .u64 (ww2 (shareZ ((a * d - b * c) * (q - v) - (p * v - q * u) * (b - d)) (Int.gcd (Int.gcd ((c - a) * (p * v - q * u) - (u - p) * (a * d - b * c)) ((a * d - b * c) * (q - v) - (p * v - q * u) * (b - d)) : Int) ((b - d) * (u - p) - (q - v) * (c - a)) : Int) (decide (((b - d) * (u - p) - (q - v) * (c - a)) < 0)))), .int .u64 (ww1 (shareZ ((a * d - b * c) * (q - v) - (p * v - q * u) * (b - d)) (Int.gcd (Int.gcd ((c - a) * (p * v - q * u) - (u - p) * (a * d - b * c)) ((a * d - b * c) * (q - v) - (p * v - q * u) * (b - d)) : Int) ((b - d) * (u - p) - (q - v) * (c - a)) : Int) (decide (((b - d) * (u - p) - (q - v) * (c - a)) < 0)))), .int .u64 (ww0 (shareZ ((a * d - b * c) * (q - v) - (p * v - q * u) * (b - d)) (Int.gcd (Int.gcd ((c - a) * (p * v - q * u) - (u - p) * (a * d - b * c)) ((a * d - b * c) * (q - v) - (p * v - q * u) * (b - d)) : Int) ((b - d) * (u - p) - (q - v) * (c - a)) : Int) (decide (((b - d) * (u - p) - (q - v) * (c - a)) < 0)))), .int .u64 (ww3 (shareZ ((b - d) * (u - p) - (q - v) * (c - a)) (Int.gcd (Int.gcd ((c - a) * (p * v - q * u) - (u - p) * (a * d - b * c)) ((a * d - b * c) * (q - v) - (p * v - q * u) * (b - d)) : Int) ((b - d) * (u - p) - (q - v) * (c - a)) : Int) (decide (((b - d) * (u - p) - (q - v) * (c - a)) < 0)))), .int .u64 (ww2 (shareZ ((b - d) * (u - p) - (q - v) * (c - a)) (Int.gcd (Int.gcd ((c - a) * (p * v - q * u) - (u - p) * (a * d - b * c)) ((a * d - b * c) * (q - v) - (p * v - q * u) * (b - d)) : Int) ((b - d) * (u - p) - (q - v) * (c - a)) : Int) (decide (((b - d) * (u - p) - (q - v) * (c - a)) < 0)))), .int .u64 (ww1 (shareZ ((b - d) * (u - p) - (q - v) * (c - a)) (Int.gcd (Int.gcd ((c - a) * (p * v - q * u) - (u - p) * (a * d - b * c)) ((a * d - b * c) * (q - v) - (p * v - q * u) * (b - d)) : Int) ((b - d) * (u - p) - (q - v) * (c - a)) : Int) (decide (((b - d) * (u - p) - (q - v) * (c - a)) < 0)))), .int .u64 (ww0 (shareZ ((b - d) * (u - p) - (q - v) * (c - a)) (Int.gcd (Int.gcd ((c - a) * (p * v - q * u) - (u - p) * (a * d - b * c)) ((a * d - b * c) * (q - v) - (p * v - q * u) * (b - d)) : Int) ((b - d) * (u - p) - (q - v) * (c - a)) : Int) (decide (((b - d) * (u - p) - (q - v) * (c - a)) < 0))))], .agg #[.int .u64 0, .int .u64 0, .int .u64 0, .int .u64 0, .int .u64 0, .int .u64 0, .int .u64 0, .int .u64 0, .int .u64 0, .int .u64 0, .int .u64 0, .int .u64 0]] else .tuple #[.int .i64 0, .agg #[.int .u64 0, .int .u64 0, .int .u64 0, .int .u64 0, .int .u64 0, .int .u64 0, .int .u64 0, .int .u64 0, .int .u64 0, .int .u64 0, .int .u64 0, .int .u64 0], .agg #[.int .u64 0, .int .u64 0, .int .u64 0, .int .u64 0, .int .u64 0, .int .u64 0, .int .u64 0, .int .u64 0, .int .u64 0, .int .u64 0, .int .u64 0, .int .u64 0]]) := rfl
 generalize pt2 (turnZ a b c d p q) (turnZ a b c d u v) = f1 at *
 generalize pt2 (turnZ p q u v a b) (turnZ p q u v c d) = f2 at *
 clear x1 x2 x3 x4 y1 y2 y3 y4 i1 i2 i3 j1 j2 j3 bX bY
 generalize ((c - a) * (p * v - q * u) - (u - p) * (a * d - b * c)) = cx at *
 generalize ((a * d - b * c) * (q - v) - (p * v - q * u) * (b - d)) = cy at *
 generalize ((b - d) * (u - p) - (q - v) * (c - a)) = cw at *
 generalize b - d = l1 at *
 generalize c - a = l2 at *
 generalize a * d - b * c = l3 at *
 generalize q - v = m1 at *
 generalize u - p = m2 at *
 generalize p * v - q * u = m3 at *
 clear ha hb hc hd hp hq hu hv
 have tok1 : True := trivial
 have T0 : ArgsB w ((((w.alloc (.cells #[.int .i64 a, .int .i64 b, .int .i64 c, .int .i64 d] 83)).alloc (.cells #[.int .i64 p, .int .i64 q, .int .i64 u, .int .i64 v] 83)).alloc (.cells #[.int .u64 0, .int .u64 0, .int .u64 0, .int .u64 0, .int .u64 0, .int .u64 0, .int .u64 0, .int .u64 0, .int .u64 0, .int .u64 0, .int .u64 0, .int .u64 0] 38)).alloc (.cells #[.int .u64 0, .int .u64 0, .int .u64 0, .int .u64 0, .int .u64 0, .int .u64 0, .int .u64 0, .int .u64 0, .int .u64 0, .int .u64 0, .int .u64 0, .int .u64 0] 38)) [[.int .i64 a, .int .i64 b, .int .i64 c, .int .i64 d], [.int .i64 p, .int .i64 q, .int .i64 u, .int .i64 v], [.int .u64 0, .int .u64 0, .int .u64 0, .int .u64 0, .int .u64 0, .int .u64 0, .int .u64 0, .int .u64 0, .int .u64 0, .int .u64 0, .int .u64 0, .int .u64 0], [.int .u64 0, .int .u64 0, .int .u64 0, .int .u64 0, .int .u64 0, .int .u64 0, .int .u64 0, .int .u64 0, .int .u64 0, .int .u64 0, .int .u64 0, .int .u64 0]] := ar4 _ _ _ _ _ _ _ _ w
 go_enter Tryz.func72, Tryz.ntmps72
 go_upto_region 1 with fail
 generalize ((((w.alloc (.cells #[.int .i64 a, .int .i64 b, .int .i64 c, .int .i64 d] 83)).alloc (.cells #[.int .i64 p, .int .i64 q, .int .i64 u, .int .i64 v] 83)).alloc (.cells #[.int .u64 0, .int .u64 0, .int .u64 0, .int .u64 0, .int .u64 0, .int .u64 0, .int .u64 0, .int .u64 0, .int .u64 0, .int .u64 0, .int .u64 0, .int .u64 0] 38)).alloc (.cells #[.int .u64 0, .int .u64 0, .int .u64 0, .int .u64 0, .int .u64 0, .int .u64 0, .int .u64 0, .int .u64 0, .int .u64 0, .int .u64 0, .int .u64 0, .int .u64 0] 38)) = W at *
 go_region_held3 (fun w' => w'.cell? ⟨w.heap.size, 0, none⟩ = some (.int .i64 a) ∧ w'.cell? ⟨w.heap.size, 1, none⟩ = some (.int .i64 b) ∧ w'.cell? ⟨w.heap.size, 2, none⟩ = some (.int .i64 c) ∧ w'.cell? ⟨w.heap.size, 3, none⟩ = some (.int .i64 d) ∧ w'.cell? ⟨w.heap.size + 1, 0, none⟩ = some (.int .i64 p) ∧ w'.cell? ⟨w.heap.size + 1, 1, none⟩ = some (.int .i64 q) ∧ w'.cell? ⟨w.heap.size + 1, 2, none⟩ = some (.int .i64 u) ∧ w'.cell? ⟨w.heap.size + 1, 3, none⟩ = some (.int .i64 v)) ((refine ml_cells ?_ <;> repeat (first | (with_reducible exact T0) | (with_reducible refine ArgsB.drew ?_))))
   (first
     | (go_at_call 107; have _t := tok1; refine (LS _).mono ?_; rintro e w1 ⟨rfl, hB⟩; (first | (have T1 := T0.step hB) | (have T1 := T0.drew.step hB)); clear T0; have T0 := T1; clear T1 hB tok1 _t)
     | (go_at_call 107; refine (LT _).mono ?_; rintro e w2 ⟨rfl, hB⟩; (first | (have T1 := T0.step hB) | (have T1 := T0.drew.step hB)); clear T0; have T0 := T1; clear T1 hB)
     | (go_at_call 108; refine (CR _).mono ?_; rintro e w3 ⟨rfl, hB⟩; (first | (have T1 := T0.step hB) | (have T1 := T0.drew.step hB)); clear T0; have T0 := T1; clear T1 hB))
 all_goals clear LS LT CR
 all_goals (
   have BS : Blk _ w.heap.size _ := T0.b 0 rfl; have BT : Blk _ (w.heap.size + 1) _ := T0.b 1 rfl; have BP : Blk _ (w.heap.size + 1 + 1) _ := T0.b 2 rfl; have BQ : Blk _ (w.heap.size + 1 + 1 + 1) _ := T0.b 3 rfl; have HB := T0.below
   clear T0
   by_cases h0 : cw = 0
   · have HO1 : Hid (meetW a b c d p q u v = alongV a b c d p q u v) := by show _ = _; rw [HV.out, if_pos h0]
     obtain ⟨k, r0, r1, r2, r3, r4, r5, r6, r7, r8, r9, r10, r11, s0, s1, s2, s3, s4, s5, s6, s7, s8, s9, s10, s11, hk⟩ := along_ex a b c d p q u v
     have HO : Hid (meetW a b c d p q u v = .tuple #[.int .i64 k, .agg #[.int .u64 r0, .int .u64 r1, .int .u64 r2, .int .u64 r3, .int .u64 r4, .int .u64 r5, .int .u64 r6, .int .u64 r7, .int .u64 r8, .int .u64 r9, .int .u64 r10, .int .u64 r11], .agg #[.int .u64 s0, .int .u64 s1, .int .u64 s2, .int .u64 s3, .int .u64 s4, .int .u64 s5, .int .u64 s6, .int .u64 s7, .int .u64 s8, .int .u64 s9, .int .u64 s10, .int .u64 s11]]) := HO1.out.trans hk
     rw [hk] at AL
     subst h0
     clear HV hk HO1 SM P1 P2 bW
     obtain ⟨sc0, sc1, sc2, sc3⟩ := BS.cs4; have sl := BS.lt; obtain ⟨tc0, tc1, tc2, tc3⟩ := BT.cs4; have tl := BT.lt
     go_wp2_with fail
     refine (AL _).mono ?_
     rintro e w4 ⟨rfl, hB⟩
     replace BS := BS.step hB
     replace BT := BT.step hB
     replace BP := BP.step hB
     replace BQ := BQ.step hB
     replace HB := HB.trans (hB.mono HB.size)
     clear hB sc0 sc1 sc2 sc3 sl tc0 tc1 tc2 tc3 tl
     clear BS BT AL
     obtain ⟨xc0, xf0, xc1, xf1, xc2, xf2, xc3, xf3, xc4, xf4, xc5, xf5, xc6, xf6, xc7, xf7, xc8, xf8, xc9, xf9, xc10, xf10, xc11, xf11⟩ := BP.cf12; have xl := BP.lt; obtain ⟨yc0, yf0, yc1, yf1, yc2, yf2, yc3, yf3, yc4, yf4, yc5, yf5, yc6, yf6, yc7, yf7, yc8, yf8, yc9, yf9, yc10, yf10, yc11, yf11⟩ := BQ.cf12; have yl := BQ.lt
     go_wp2
     refine put24_ret BP BQ (by omega) (by omega) (by omega) HB fun WF F0 F1 HBF => ?_
     clear BP BQ HB xc0 xf0 xc1 xf1 xc2 xf2 xc3 xf3 xc4 xf4 xc5 xf5 xc6 xf6 xc7 xf7 xc8 xf8 xc9 xf9 xc10 xf10 xc11 xf11 xl yc0 yf0 yc1 yf1 yc2 yf2 yc3 yf3 yc4 yf4 yc5 yf5 yc6 yf6 yc7 yf7 yc8 yf8 yc9 yf9 yc10 yf10 yc11 yf11 yl
     obtain ⟨m0, m1, m2, m3, m4, m5, m6, m7, m8, m9, m10, m11⟩ := F0.cs12; obtain ⟨n0, n1, n2, n3, n4, n5, n6, n7, n8, n9, n10, n11⟩ := F1.cs12
     refine bodyPost_ret (v := .tuple #[.int .i64 k, .agg #[.int .u64 r0, .int .u64 r1, .int .u64 r2, .int .u64 r3, .int .u64 r4, .int .u64 r5, .int .u64 r6, .int .u64 r7, .int .u64 r8, .int .u64 r9, .int .u64 r10, .int .u64 r11], .agg #[.int .u64 s0, .int .u64 s1, .int .u64 s2, .int .u64 s3, .int .u64 s4, .int .u64 s5, .int .u64 s6, .int .u64 s7, .int .u64 s8, .int .u64 s9, .int .u64 s10, .int .u64 s11]]) (by simp [results, Tryz.results72, go_sem, m0, n0, m1, n1, m2, n2, m3, n3, m4, n4, m5, n5, m6, n6, m7, n7, m8, n8, m9, n9, m10, n10, m11, n11]) rfl ?_
     exact ⟨by rw [HO.out], by first | exact HBF | exact HBF.drew⟩
   · have SM := SM h0
     obtain ⟨sc0, sc1, sc2, sc3⟩ := BS.cs4; have sl := BS.lt; obtain ⟨tc0, tc1, tc2, tc3⟩ := BT.cs4; have tl := BT.lt
     go_wp2_with fail
     refine (P1 _ _ (Blk.new _ _ _ rfl)).mono ?_
     rintro e w4 ⟨rfl, hB⟩
     replace BS := (BS.alloc _).step hB; replace BT := (BT.alloc _).step hB; replace BP := (BP.alloc _).step hB; replace BQ := (BQ.alloc _).step hB; replace HB := (HB.alloc HB.size _).trans (hB.mono (HB.alloc HB.size _).size)
     clear hB sc0 sc1 sc2 sc3 sl tc0 tc1 tc2 tc3 tl P1
     cases f1
     · have HO : Hid (meetW a b c d p q u v = .tuple #[.int .i64 0, .agg #[.int .u64 0, .int .u64 0, .int .u64 0, .int .u64 0, .int .u64 0, .int .u64 0, .int .u64 0, .int .u64 0, .int .u64 0, .int .u64 0, .int .u64 0, .int .u64 0], .agg #[.int .u64 0, .int .u64 0, .int .u64 0, .int .u64 0, .int .u64 0, .int .u64 0, .int .u64 0, .int .u64 0, .int .u64 0, .int .u64 0, .int .u64 0, .int .u64 0]]) := by show _ = _; rw [HV.out, if_neg h0]; rfl
       clear BS BT AL SM P2 HV bW
       obtain ⟨xc0, xf0, xc1, xf1, xc2, xf2, xc3, xf3, xc4, xf4, xc5, xf5, xc6, xf6, xc7, xf7, xc8, xf8, xc9, xf9, xc10, xf10, xc11, xf11⟩ := BP.cf12; have xl := BP.lt; obtain ⟨yc0, yf0, yc1, yf1, yc2, yf2, yc3, yf3, yc4, yf4, yc5, yf5, yc6, yf6, yc7, yf7, yc8, yf8, yc9, yf9, yc10, yf10, yc11, yf11⟩ := BQ.cf12; have yl := BQ.lt
       go_wp2
       refine put24_ret BP BQ (by omega) (by omega) (by omega) HB fun WF F0 F1 HBF => ?_
       clear BP BQ HB xc0 xf0 xc1 xf1 xc2 xf2 xc3 xf3 xc4 xf4 xc5 xf5 xc6 xf6 xc7 xf7 xc8 xf8 xc9 xf9 xc10 xf10 xc11 xf11 xl yc0 yf0 yc1 yf1 yc2 yf2 yc3 yf3 yc4 yf4 yc5 yf5 yc6 yf6 yc7 yf7 yc8 yf8 yc9 yf9 yc10 yf10 yc11 yf11 yl
       obtain ⟨m0, m1, m2, m3, m4, m5, m6, m7, m8, m9, m10, m11⟩ := F0.cs12; obtain ⟨n0, n1, n2, n3, n4, n5, n6, n7, n8, n9, n10, n11⟩ := F1.cs12
       refine bodyPost_ret (v := .tuple #[.int .i64 0, .agg #[.int .u64 0, .int .u64 0, .int .u64 0, .int .u64 0, .int .u64 0, .int .u64 0, .int .u64 0, .int .u64 0, .int .u64 0, .int .u64 0, .int .u64 0, .int .u64 0], .agg #[.int .u64 0, .int .u64 0, .int .u64 0, .int .u64 0, .int .u64 0, .int .u64 0, .int .u64 0, .int .u64 0, .int .u64 0, .int .u64 0, .int .u64 0, .int .u64 0]]) (by simp [results, Tryz.results72, go_sem, m0, n0, m1, n1, m2, n2, m3, n3, m4, n4, m5, n5, m6, n6, m7, n7, m8, n8, m9, n9, m10, n10, m11, n11]) rfl ?_
       exact ⟨by rw [HO.out], by first | exact HBF | exact HBF.drew⟩
     · obtain ⟨sc0, sc1, sc2, sc3⟩ := BS.cs4; have sl := BS.lt; obtain ⟨tc0, tc1, tc2, tc3⟩ := BT.cs4; have tl := BT.lt
       go_wp2_with fail
       refine (P2 _ _ (Blk.new _ _ _ rfl)).mono ?_
       rintro e w5 ⟨rfl, hB⟩
       replace BP := (BP.alloc _).step hB; replace BQ := (BQ.alloc _).step hB; replace HB := (HB.alloc HB.size _).trans (hB.mono (HB.alloc HB.size _).size)
       clear hB sc0 sc1 sc2 sc3 sl tc0 tc1 tc2 tc3 tl P2 BS BT
       cases f2
       · have HO : Hid (meetW a b c d p q u v = .tuple #[.int .i64 0, .agg #[.int .u64 0, .int .u64 0, .int .u64 0, .int .u64 0, .int .u64 0, .int .u64 0, .int .u64 0, .int .u64 0, .int .u64 0, .int .u64 0, .int .u64 0, .int .u64 0], .agg #[.int .u64 0, .int .u64 0, .int .u64 0, .int .u64 0, .int .u64 0, .int .u64 0, .int .u64 0, .int .u64 0, .int .u64 0, .int .u64 0, .int .u64 0, .int .u64 0]]) := by show _ = _; rw [HV.out, if_neg h0]; rfl
         clear AL SM HV bW
         obtain ⟨xc0, xf0, xc1, xf1, xc2, xf2, xc3, xf3, xc4, xf4, xc5, xf5, xc6, xf6, xc7, xf7, xc8, xf8, xc9, xf9, xc10, xf10, xc11, xf11⟩ := BP.cf12; have xl := BP.lt; obtain ⟨yc0, yf0, yc1, yf1, yc2, yf2, yc3, yf3, yc4, yf4, yc5, yf5, yc6, yf6, yc7, yf7, yc8, yf8, yc9, yf9, yc10, yf10, yc11, yf11⟩ := BQ.cf12; have yl := BQ.lt
         go_wp2
         refine put24_ret BP BQ (by omega) (by omega) (by omega) HB fun WF F0 F1 HBF => ?_
         clear BP BQ HB xc0 xf0 xc1 xf1 xc2 xf2 xc3 xf3 xc4 xf4 xc5 xf5 xc6 xf6 xc7 xf7 xc8 xf8 xc9 xf9 xc10 xf10 xc11 xf11 xl yc0 yf0 yc1 yf1 yc2 yf2 yc3 yf3 yc4 yf4 yc5 yf5 yc6 yf6 yc7 yf7 yc8 yf8 yc9 yf9 yc10 yf10 yc11 yf11 yl
         obtain ⟨m0, m1, m2, m3, m4, m5, m6, m7, m8, m9, m10, m11⟩ := F0.cs12; obtain ⟨n0, n1, n2, n3, n4, n5, n6, n7, n8, n9, n10, n11⟩ := F1.cs12
         refine bodyPost_ret (v := .tuple #[.int .i64 0, .agg #[.int .u64 0, .int .u64 0, .int .u64 0, .int .u64 0, .int .u64 0, .int .u64 0, .int .u64 0, .int .u64 0, .int .u64 0, .int .u64 0, .int .u64 0, .int .u64 0], .agg #[.int .u64 0, .int .u64 0, .int .u64 0, .int .u64 0, .int .u64 0, .int .u64 0, .int .u64 0, .int .u64 0, .int .u64 0, .int .u64 0, .int .u64 0, .int .u64 0]]) (by simp [results, Tryz.results72, go_sem, m0, n0, m1, n1, m2, n2, m3, n3, m4, n4, m5, n5, m6, n6, m7, n7, m8, n8, m9, n9, m10, n10, m11, n11]) rfl ?_
         exact ⟨by rw [HO.out], by first | exact HBF | exact HBF.drew⟩
       · have HO : Hid (meetW a b c d p q u v = .tuple #[.int .i64 1, .agg #[.int .u64 (ww3 (shareZ cx (Int.gcd (Int.gcd cx cy : Int) cw : Int) (decide (cw < 0)))), .int .u64 (ww2 (shareZ cx (Int.gcd (Int.gcd cx cy : Int) cw : Int) (decide (cw < 0)))), .int .u64 (ww1 (shareZ cx (Int.gcd (Int.gcd cx cy : Int) cw : Int) (decide (cw < 0)))), .int .u64 (ww0 (shareZ cx (Int.gcd (Int.gcd cx cy : Int) cw : Int) (decide (cw < 0)))), .int .u64 (ww3 (shareZ cy (Int.gcd (Int.gcd cx cy : Int) cw : Int) (decide (cw < 0)))), .int .u64 (ww2 (shareZ cy (Int.gcd (Int.gcd cx cy : Int) cw : Int) (decide (cw < 0)))), .int .u64 (ww1 (shareZ cy (Int.gcd (Int.gcd cx cy : Int) cw : Int) (decide (cw < 0)))), .int .u64 (ww0 (shareZ cy (Int.gcd (Int.gcd cx cy : Int) cw : Int) (decide (cw < 0)))), .int .u64 (ww3 (shareZ cw (Int.gcd (Int.gcd cx cy : Int) cw : Int) (decide (cw < 0)))), .int .u64 (ww2 (shareZ cw (Int.gcd (Int.gcd cx cy : Int) cw : Int) (decide (cw < 0)))), .int .u64 (ww1 (shareZ cw (Int.gcd (Int.gcd cx cy : Int) cw : Int) (decide (cw < 0)))), .int .u64 (ww0 (shareZ cw (Int.gcd (Int.gcd cx cy : Int) cw : Int) (decide (cw < 0))))], .agg #[.int .u64 0, .int .u64 0, .int .u64 0, .int .u64 0, .int .u64 0, .int .u64 0, .int .u64 0, .int .u64 0, .int .u64 0, .int .u64 0, .int .u64 0, .int .u64 0]]) := by show _ = _; rw [HV.out, if_neg h0]; rfl
         generalize (shareZ cx (Int.gcd (Int.gcd cx cy : Int) cw : Int) (decide (cw < 0))) = sx at *
         generalize (shareZ cy (Int.gcd (Int.gcd cx cy : Int) cw : Int) (decide (cw < 0))) = sy at *
         generalize (shareZ cw (Int.gcd (Int.gcd cx cy : Int) cw : Int) (decide (cw < 0))) = sz at *
         clear AL HV bW
         go_wp2_with fail
         refine (SM _).mono ?_
         rintro e w6 ⟨rfl, hB⟩
         replace BP := BP.step hB; replace BQ := BQ.step hB; replace HB := HB.trans (hB.mono HB.size)
         clear hB SM
         obtain ⟨xc0, xf0, xc1, xf1, xc2, xf2, xc3, xf3, xc4, xf4, xc5, xf5, xc6, xf6, xc7, xf7, xc8, xf8, xc9, xf9, xc10, xf10, xc11, xf11⟩ := BP.cf12; have xl := BP.lt; obtain ⟨yc0, yf0, yc1, yf1, yc2, yf2, yc3, yf3, yc4, yf4, yc5, yf5, yc6, yf6, yc7, yf7, yc8, yf8, yc9, yf9, yc10, yf10, yc11, yf11⟩ := BQ.cf12; have yl := BQ.lt
         go_wp2
         refine put24_ret BP BQ (by omega) (by omega) (by omega) HB fun WF F0 F1 HBF => ?_
         clear BP BQ HB xc0 xf0 xc1 xf1 xc2 xf2 xc3 xf3 xc4 xf4 xc5 xf5 xc6 xf6 xc7 xf7 xc8 xf8 xc9 xf9 xc10 xf10 xc11 xf11 xl yc0 yf0 yc1 yf1 yc2 yf2 yc3 yf3 yc4 yf4 yc5 yf5 yc6 yf6 yc7 yf7 yc8 yf8 yc9 yf9 yc10 yf10 yc11 yf11 yl
         obtain ⟨m0, m1, m2, m3, m4, m5, m6, m7, m8, m9, m10, m11⟩ := F0.cs12; obtain ⟨n0, n1, n2, n3, n4, n5, n6, n7, n8, n9, n10, n11⟩ := F1.cs12
         refine bodyPost_ret (v := .tuple #[.int .i64 1, .agg #[.int .u64 (ww3 sx), .int .u64 (ww2 sx), .int .u64 (ww1 sx), .int .u64 (ww0 sx), .int .u64 (ww3 sy), .int .u64 (ww2 sy), .int .u64 (ww1 sy), .int .u64 (ww0 sy), .int .u64 (ww3 sz), .int .u64 (ww2 sz), .int .u64 (ww1 sz), .int .u64 (ww0 sz)], .agg #[.int .u64 0, .int .u64 0, .int .u64 0, .int .u64 0, .int .u64 0, .int .u64 0, .int .u64 0, .int .u64 0, .int .u64 0, .int .u64 0, .int .u64 0, .int .u64 0]]) (by simp [results, Tryz.results72, go_sem, m0, n0, m1, n1, m2, n2, m3, n3, m4, n4, m5, n5, m6, n6, m7, n7, m8, n8, m9, n9, m10, n10, m11, n11]) rfl ?_
         exact ⟨by rw [HO.out], by first | exact HBF | exact HBF.drew⟩)
theorem in1_seg {a b c d : Int} (h : segOk a b c d = true) : In1 a ∧ In1 b ∧ In1 c ∧ In1 d := by
 unfold segOk spotOk at h
 simp only [Bool.and_eq_true, decide_eq_true_eq] at h
 obtain ⟨⟨h1, h2⟩, -⟩ := h
 exact ⟨⟨h1.1, h1.2.1⟩, ⟨h1.2.2.1, h1.2.2.2⟩, ⟨h2.1, h2.2.1⟩, ⟨h2.2.2.1, h2.2.2.2⟩⟩
theorem Blk.set6 {W : World} {vs : List Value} {v0 v1 v2 v3 v4 v5 : Value} {g g' : Nat} (G : Blk W g' vs) (hg : g' ≠ g) : Blk ((((((W.setCell ⟨g, 0, none⟩ (v0)).setCell ⟨g, 1, none⟩ (v1)).setCell ⟨g, 2, none⟩ (v2)).setCell ⟨g, 3, none⟩ (v3)).setCell ⟨g, 4, none⟩ (v4)).setCell ⟨g, 5, none⟩ (v5)) g' vs := (((((G.setO (by exact hg) _).setO (by exact hg) _).setO (by exact hg) _).setO (by exact hg) _).setO (by exact hg) _).setO (by exact hg) _
def L3A (w : World) (v : Value) (x y z : Int) : Prop :=
 ∃ (s1 : Bool) (o1 : Option Addr) (n1 c1 : Nat) (d1 : List Int) (s2 : Bool) (o2 : Option Addr) (n2 c2 : Nat) (d2 : List Int) (s3 : Bool) (o3 : Option Addr) (n3 c3 : Nat) (d3 : List Int), v = .agg #[.bool s1, .slice o1 n1 c1, .bool s2, .slice o2 n2 c2, .bool s3, .slice o3 n3 c3] ∧ IsNum w s1 o1 n1 c1 d1 x 8 ∧ IsNum w s2 o2 n2 c2 d2 y 8 ∧ IsNum w s3 o3 n3 c3 d3 z 8
def MtP (a b c d p q u v : Int) (w : World) (e : Ending) (w' : World) : Prop := Below w.heap.size w w' ∧
 ((meetW a b c d p q u v = .tuple #[.int .i64 0, .agg #[.int .u64 0, .int .u64 0, .int .u64 0, .int .u64 0, .int .u64 0, .int .u64 0, .int .u64 0, .int .u64 0, .int .u64 0, .int .u64 0, .int .u64 0, .int .u64 0], .agg #[.int .u64 0, .int .u64 0, .int .u64 0, .int .u64 0, .int .u64 0, .int .u64 0, .int .u64 0, .int .u64 0, .int .u64 0, .int .u64 0, .int .u64 0, .int .u64 0]] ∧ e = .returned (.tuple #[.int .i64 0, .agg #[.bool false, .slice none 0 0, .bool false, .slice none 0 0, .bool false, .slice none 0 0], .agg #[.bool false, .slice none 0 0, .bool false, .slice none 0 0, .bool false, .slice none 0 0]])) ∨
  (∃ (x y z : Int) (r : Value), meetW a b c d p q u v = .tuple #[.int .i64 1, .agg #[.int .u64 (ww3 x), .int .u64 (ww2 x), .int .u64 (ww1 x), .int .u64 (ww0 x), .int .u64 (ww3 y), .int .u64 (ww2 y), .int .u64 (ww1 y), .int .u64 (ww0 y), .int .u64 (ww3 z), .int .u64 (ww2 z), .int .u64 (ww1 z), .int .u64 (ww0 z)], .agg #[.int .u64 0, .int .u64 0, .int .u64 0, .int .u64 0, .int .u64 0, .int .u64 0, .int .u64 0, .int .u64 0, .int .u64 0, .int .u64 0, .int .u64 0, .int .u64 0]] ∧ small x = true ∧ small y = true ∧ small z = true ∧ e = .returned (.tuple #[.int .i64 1, r, .agg #[.bool false, .slice none 0 0, .bool false, .slice none 0 0, .bool false, .slice none 0 0]]) ∧ L3A w' r x y z) ∨
  (∃ (x y x' y' : Int) (r r' : Value), meetW a b c d p q u v = .tuple #[.int .i64 2, .agg #[.int .u64 (ww3 x), .int .u64 (ww2 x), .int .u64 (ww1 x), .int .u64 (ww0 x), .int .u64 (ww3 y), .int .u64 (ww2 y), .int .u64 (ww1 y), .int .u64 (ww0 y), .int .u64 (ww3 1), .int .u64 (ww2 1), .int .u64 (ww1 1), .int .u64 (ww0 1)], .agg #[.int .u64 (ww3 x'), .int .u64 (ww2 x'), .int .u64 (ww1 x'), .int .u64 (ww0 x'), .int .u64 (ww3 y'), .int .u64 (ww2 y'), .int .u64 (ww1 y'), .int .u64 (ww0 y'), .int .u64 (ww3 1), .int .u64 (ww2 1), .int .u64 (ww1 1), .int .u64 (ww0 1)]] ∧ small x = true ∧ small y = true ∧ small x' = true ∧ small y' = true ∧ e = .returned (.tuple #[.int .i64 2, r, r']) ∧ L3A w' r x y 1 ∧ L3A w' r' x' y' 1))
theorem turn_diff (a b c d p q u v : Int) : turnZ a b c d u v - turnZ a b c d p q = ((b - d) * (u - p) - (q - v) * (c - a)) := by unfold turnZ; grind
theorem sgZ_z {t : Int} : sgZ t = 0 ↔ t = 0 := by unfold sgZ; repeat' split <;> omega
theorem sgZ_mul (t t' : Int) : (0 < sgZ t * sgZ t' ↔ (0 < t ∧ 0 < t') ∨ (t < 0 ∧ t' < 0)) ∧ -1 ≤ sgZ t * sgZ t' ∧ sgZ t * sgZ t' ≤ 1 := by
 have e : ∀ t, (t < 0 ∧ sgZ t = -1) ∨ (t = 0 ∧ sgZ t = 0) ∨ (0 < t ∧ sgZ t = 1) := by
   intro t
   unfold sgZ
   repeat' split
   all_goals omega
 rcases e t with ⟨h, e1⟩ | ⟨h, e1⟩ | ⟨h, e1⟩ <;> rcases e t' with ⟨h', e2⟩ | ⟨h', e2⟩ | ⟨h', e2⟩ <;> rw [e1, e2] <;> omega
theorem pt2_no {t t' : Int} (h : 0 < sgZ t * sgZ t') : pt2 t t' = false := by
 have := (sgZ_mul t t').1.1 h
 unfold pt2
 rcases this with ⟨h1, h2⟩ | ⟨h1, h2⟩
 · rw [decide_eq_false (show ¬ t ≤ 0 by omega), decide_eq_false (show ¬ t' ≤ 0 by omega)]; simp
 · rw [decide_eq_false (show ¬ 0 ≤ t by omega), decide_eq_false (show ¬ 0 ≤ t' by omega)]; simp
theorem pt2_yes {t t' : Int} (h : ¬ 0 < sgZ t * sgZ t') : pt2 t t' = true := by
 have h0 : ¬ ((0 < t ∧ 0 < t') ∨ (t < 0 ∧ t' < 0)) := fun k => h ((sgZ_mul t t').1.2 k)
 unfold pt2
 simp only [Bool.and_eq_true, Bool.or_eq_true, decide_eq_true_eq]
 omega
theorem meet_w0 {a b c d p q u v : Int} (h : ¬ (turnZ a b c d p q = 0 ∧ turnZ a b c d u v = 0)) (g : ¬ 0 < sgZ (turnZ a b c d p q) * sgZ (turnZ a b c d u v)) : ((b - d) * (u - p) - (q - v) * (c - a)) ≠ 0 := by
 intro h0
 have hd := turn_diff a b c d p q u v
 rw [h0] at hd
 have hh : turnZ a b c d u v = turnZ a b c d p q := by omega
 rw [hh] at h g
 apply g
 apply (sgZ_mul _ _).1.2
 omega
theorem meet_none1 {a b c d p q u v : Int} (h : ¬ (turnZ a b c d p q = 0 ∧ turnZ a b c d u v = 0)) (g : 0 < sgZ (turnZ a b c d p q) * sgZ (turnZ a b c d u v)) : meetW a b c d p q u v = .tuple #[.int .i64 0, .agg #[.int .u64 0, .int .u64 0, .int .u64 0, .int .u64 0, .int .u64 0, .int .u64 0, .int .u64 0, .int .u64 0, .int .u64 0, .int .u64 0, .int .u64 0, .int .u64 0], .agg #[.int .u64 0, .int .u64 0, .int .u64 0, .int .u64 0, .int .u64 0, .int .u64 0, .int .u64 0, .int .u64 0, .int .u64 0, .int .u64 0, .int .u64 0, .int .u64 0]] := by
 unfold meetW
 by_cases h0 : ((b - d) * (u - p) - (q - v) * (c - a)) = 0
 · rw [if_pos h0]
   have hd := turn_diff a b c d p q u v
   rw [h0] at hd
   unfold alongV
   rw [if_pos (Or.inl (by omega))]
 · rw [if_neg h0, pt2_no g]
   rfl
theorem meet_none2 {a b c d p q u v : Int} (h : ¬ (turnZ a b c d p q = 0 ∧ turnZ a b c d u v = 0)) (g : ¬ 0 < sgZ (turnZ a b c d p q) * sgZ (turnZ a b c d u v)) (g' : 0 < sgZ (turnZ p q u v a b) * sgZ (turnZ p q u v c d)) : meetW a b c d p q u v = .tuple #[.int .i64 0, .agg #[.int .u64 0, .int .u64 0, .int .u64 0, .int .u64 0, .int .u64 0, .int .u64 0, .int .u64 0, .int .u64 0, .int .u64 0, .int .u64 0, .int .u64 0, .int .u64 0], .agg #[.int .u64 0, .int .u64 0, .int .u64 0, .int .u64 0, .int .u64 0, .int .u64 0, .int .u64 0, .int .u64 0, .int .u64 0, .int .u64 0, .int .u64 0, .int .u64 0]] := by
 unfold meetW
 rw [if_neg (meet_w0 h g), pt2_no g', Bool.and_false]
 rfl
theorem meet_pt {a b c d p q u v : Int} (h : ¬ (turnZ a b c d p q = 0 ∧ turnZ a b c d u v = 0)) (g : ¬ 0 < sgZ (turnZ a b c d p q) * sgZ (turnZ a b c d u v)) (g' : ¬ 0 < sgZ (turnZ p q u v a b) * sgZ (turnZ p q u v c d)) : meetW a b c d p q u v = .tuple #[.int .i64 1, .agg #[.int .u64 (ww3 (shareZ ((c - a) * (p * v - q * u) - (u - p) * (a * d - b * c)) (Int.gcd (Int.gcd ((c - a) * (p * v - q * u) - (u - p) * (a * d - b * c)) ((a * d - b * c) * (q - v) - (p * v - q * u) * (b - d)) : Int) ((b - d) * (u - p) - (q - v) * (c - a)) : Int) (decide (((b - d) * (u - p) - (q - v) * (c - a)) < 0)))), .int .u64 (ww2 (shareZ ((c - a) * (p * v - q * u) - (u - p) * (a * d - b * c)) (Int.gcd (Int.gcd ((c - a) * (p * v - q * u) - (u - p) * (a * d - b * c)) ((a * d - b * c) * (q - v) - (p * v - q * u) * (b - d)) : Int) ((b - d) * (u - p) - (q - v) * (c - a)) : Int) (decide (((b - d) * (u - p) - (q - v) * (c - a)) < 0)))), .int .u64 (ww1 (shareZ ((c - a) * (p * v - q * u) - (u - p) * (a * d - b * c)) (Int.gcd (Int.gcd ((c - a) * (p * v - q * u) - (u - p) * (a * d - b * c)) ((a * d - b * c) * (q - v) - (p * v - q * u) * (b - d)) : Int) ((b - d) * (u - p) - (q - v) * (c - a)) : Int) (decide (((b - d) * (u - p) - (q - v) * (c - a)) < 0)))), .int .u64 (ww0 (shareZ ((c - a) * (p * v - q * u) - (u - p) * (a * d - b * c)) (Int.gcd (Int.gcd ((c - a) * (p * v - q * u) - (u - p) * (a * d - b * c)) ((a * d - b * c) * (q - v) - (p * v - q * u) * (b - d)) : Int) ((b - d) * (u - p) - (q - v) * (c - a)) : Int) (decide (((b - d) * (u - p) - (q - v) * (c - a)) < 0)))), .int .u64 (ww3 (shareZ ((a * d - b * c) * (q - v) - (p * v - q * u) * (b - d)) (Int.gcd (Int.gcd ((c - a) * (p * v - q * u) - (u - p) * (a * d - b * c)) ((a * d - b * c) * (q - v) - (p * v - q * u) * (b - d)) : Int) ((b - d) * (u - p) - (q - v) * (c - a)) : Int) (decide (((b - d) * (u - p) - (q - v) * (c - a)) < 0)))), .int .u64 (ww2 (shareZ ((a * d - b * c) * (q - v) - (p * v - q * u) * (b - d)) (Int.gcd (Int.gcd ((c - a) * (p * v - q * u) - (u - p) * (a * d - b * c)) ((a * d - b * c) * (q - v) - (p * v - q * u) * (b - d)) : Int) ((b - d) * (u - p) - (q - v) * (c - a)) : Int) (decide (((b - d) * (u - p) - (q - v) * (c - a)) < 0)))), .int .u64 (ww1 (shareZ ((a * d - b * c) * (q - v) - (p * v - q * u) * (b - d)) (Int.gcd (Int.gcd ((c - a) * (p * v - q * u) - (u - p) * (a * d - b * c)) ((a * d - b * c) * (q - v) - (p * v - q * u) * (b - d)) : Int) ((b - d) * (u - p) - (q - v) * (c - a)) : Int) (decide (((b - d) * (u - p) - (q - v) * (c - a)) < 0)))), .int .u64 (ww0 (shareZ ((a * d - b * c) * (q - v) - (p * v - q * u) * (b - d)) (Int.gcd (Int.gcd ((c - a) * (p * v - q * u) - (u - p) * (a * d - b * c)) ((a * d - b * c) * (q - v) - (p * v - q * u) * (b - d)) : Int) ((b - d) * (u - p) - (q - v) * (c - a)) : Int) (decide (((b - d) * (u - p) - (q - v) * (c - a)) < 0)))), .int .u64 (ww3 (shareZ ((b - d) * (u - p) - (q - v) * (c - a)) (Int.gcd (Int.gcd ((c - a) * (p * v - q * u) - (u - p) * (a * d - b * c)) ((a * d - b * c) * (q - v) - (p * v - q * u) * (b - d)) : Int) ((b - d) * (u - p) - (q - v) * (c - a)) : Int) (decide (((b - d) * (u - p) - (q - v) * (c - a)) < 0)))), .int .u64 (ww2 (shareZ ((b - d) * (u - p) - (q - v) * (c - a)) (Int.gcd (Int.gcd ((c - a) * (p * v - q * u) - (u - p) * (a * d - b * c)) ((a * d - b * c) * (q - v) - (p * v - q * u) * (b - d)) : Int) ((b - d) * (u - p) - (q - v) * (c - a)) : Int) (decide (((b - d) * (u - p) - (q - v) * (c - a)) < 0)))), .int .u64 (ww1 (shareZ ((b - d) * (u - p) - (q - v) * (c - a)) (Int.gcd (Int.gcd ((c - a) * (p * v - q * u) - (u - p) * (a * d - b * c)) ((a * d - b * c) * (q - v) - (p * v - q * u) * (b - d)) : Int) ((b - d) * (u - p) - (q - v) * (c - a)) : Int) (decide (((b - d) * (u - p) - (q - v) * (c - a)) < 0)))), .int .u64 (ww0 (shareZ ((b - d) * (u - p) - (q - v) * (c - a)) (Int.gcd (Int.gcd ((c - a) * (p * v - q * u) - (u - p) * (a * d - b * c)) ((a * d - b * c) * (q - v) - (p * v - q * u) * (b - d)) : Int) ((b - d) * (u - p) - (q - v) * (c - a)) : Int) (decide (((b - d) * (u - p) - (q - v) * (c - a)) < 0))))], .agg #[.int .u64 0, .int .u64 0, .int .u64 0, .int .u64 0, .int .u64 0, .int .u64 0, .int .u64 0, .int .u64 0, .int .u64 0, .int .u64 0, .int .u64 0, .int .u64 0]] := by
 unfold meetW
 rw [if_neg (meet_w0 h g), pt2_yes g, pt2_yes g', if_pos (by rfl)]
theorem meet_along {a b c d p q u v : Int} (h : turnZ a b c d p q = 0) (h' : turnZ a b c d u v = 0) : meetW a b c d p q u v = alongV a b c d p q u v := by
 have hd := turn_diff a b c d p q u v
 unfold meetW
 rw [if_pos (by omega)]
theorem bnd_x (a b c d p q u v : Int) (ha : In1 a) (hb : In1 b) (hc : In1 c) (hd : In1 d) (hp : In1 p) (hq : In1 q) (hu : In1 u) (hv : In1 v) : -9000000000000000000 ≤ ((c - a) * (p * v - q * u) - (u - p) * (a * d - b * c)) ∧ ((c - a) * (p * v - q * u) - (u - p) * (a * d - b * c)) ≤ 9000000000000000000 := by
 obtain ⟨x1, x2⟩ := mul_in (p := a) (q := d) (M := 1000000) (N := 1000000) ha.1 ha.2 hd.1 hd.2
 obtain ⟨x3, x4⟩ := mul_in (p := b) (q := c) (M := 1000000) (N := 1000000) hb.1 hb.2 hc.1 hc.2
 obtain ⟨y1, y2⟩ := mul_in (p := p) (q := v) (M := 1000000) (N := 1000000) hp.1 hp.2 hv.1 hv.2
 obtain ⟨y3, y4⟩ := mul_in (p := q) (q := u) (M := 1000000) (N := 1000000) hq.1 hq.2 hu.1 hu.2
 have e1 := mul_in (p := c - a) (q := p * v - q * u) (M := 2000000) (N := 2000000000000) (by omega) (by omega) (by omega) (by omega)
 have e2 := mul_in (p := u - p) (q := a * d - b * c) (M := 2000000) (N := 2000000000000) (by omega) (by omega) (by omega) (by omega)
 omega
theorem bnd_y (a b c d p q u v : Int) (ha : In1 a) (hb : In1 b) (hc : In1 c) (hd : In1 d) (hp : In1 p) (hq : In1 q) (hu : In1 u) (hv : In1 v) : -9000000000000000000 ≤ ((a * d - b * c) * (q - v) - (p * v - q * u) * (b - d)) ∧ ((a * d - b * c) * (q - v) - (p * v - q * u) * (b - d)) ≤ 9000000000000000000 := by
 obtain ⟨x1, x2⟩ := mul_in (p := a) (q := d) (M := 1000000) (N := 1000000) ha.1 ha.2 hd.1 hd.2
 obtain ⟨x3, x4⟩ := mul_in (p := b) (q := c) (M := 1000000) (N := 1000000) hb.1 hb.2 hc.1 hc.2
 obtain ⟨y1, y2⟩ := mul_in (p := p) (q := v) (M := 1000000) (N := 1000000) hp.1 hp.2 hv.1 hv.2
 obtain ⟨y3, y4⟩ := mul_in (p := q) (q := u) (M := 1000000) (N := 1000000) hq.1 hq.2 hu.1 hu.2
 have e1 := mul_in (p := a * d - b * c) (q := q - v) (M := 2000000000000) (N := 2000000) (by omega) (by omega) (by omega) (by omega)
 have e2 := mul_in (p := p * v - q * u) (q := b - d) (M := 2000000000000) (N := 2000000) (by omega) (by omega) (by omega) (by omega)
 omega
theorem bnd_w (a b c d p q u v : Int) (ha : In1 a) (hb : In1 b) (hc : In1 c) (hd : In1 d) (hp : In1 p) (hq : In1 q) (hu : In1 u) (hv : In1 v) : -8000000000000 ≤ ((b - d) * (u - p) - (q - v) * (c - a)) ∧ ((b - d) * (u - p) - (q - v) * (c - a)) ≤ 8000000000000 := by
 obtain ⟨x1, x2⟩ := mul_in (p := a) (q := d) (M := 1000000) (N := 1000000) ha.1 ha.2 hd.1 hd.2
 obtain ⟨x3, x4⟩ := mul_in (p := b) (q := c) (M := 1000000) (N := 1000000) hb.1 hb.2 hc.1 hc.2
 obtain ⟨y1, y2⟩ := mul_in (p := p) (q := v) (M := 1000000) (N := 1000000) hp.1 hp.2 hv.1 hv.2
 obtain ⟨y3, y4⟩ := mul_in (p := q) (q := u) (M := 1000000) (N := 1000000) hq.1 hq.2 hu.1 hu.2
 have e1 := mul_in (p := b - d) (q := u - p) (M := 2000000) (N := 2000000) (by omega) (by omega) (by omega) (by omega)
 have e2 := mul_in (p := q - v) (q := c - a) (M := 2000000) (N := 2000000) (by omega) (by omega) (by omega) (by omega)
 omega
theorem m4_keep0 {a b c d p q u v : Int} {w W : World} {gd gn : Nat} {ds ns : Bool} {do1 no : Option Addr} {dn dc nn nc : Nat} (T0 : ArgsB w W [[.int .i64 a, .int .i64 b, .int .i64 c, .int .i64 d], [.int .i64 p, .int .i64 q, .int .i64 u, .int .i64 v], [.bool false, .slice none 0 0, .bool false, .slice none 0 0, .bool false, .slice none 0 0], [.bool false, .slice none 0 0, .bool false, .slice none 0 0, .bool false, .slice none 0 0]]) (Bd : Blk W gd [.bool ds, .slice do1 dn dc]) (Bn : Blk W gn [.bool ns, .slice no nn nc]) : (fun w' => w'.cell? ⟨w.heap.size, 0, none⟩ = some (.int .i64 a) ∧ w'.cell? ⟨gd, 0, none⟩ = some (.bool ds) ∧ w'.cell? ⟨gd, 1, none⟩ = some (.slice do1 dn dc) ∧ w'.cell? ⟨gn, 0, none⟩ = some (.bool ns) ∧ w'.cell? ⟨gn, 1, none⟩ = some (.slice no nn nc)) W := ⟨(T0.b 0 rfl).c 0 rfl, Bd.c 0 rfl, Bd.c 1 rfl, Bn.c 0 rfl, Bn.c 1 rfl⟩
theorem m4_keep1 {a b c d p q u v : Int} {w W : World} {gd gn : Nat} {ds ns : Bool} {do1 no : Option Addr} {dn dc nn nc : Nat} (T0 : ArgsB w W [[.int .i64 a, .int .i64 b, .int .i64 c, .int .i64 d], [.int .i64 p, .int .i64 q, .int .i64 u, .int .i64 v], [.bool false, .slice none 0 0, .bool false, .slice none 0 0, .bool false, .slice none 0 0], [.bool false, .slice none 0 0, .bool false, .slice none 0 0, .bool false, .slice none 0 0]]) (Bd : Blk W gd [.bool ds, .slice do1 dn dc]) (Bn : Blk W gn [.bool ns, .slice no nn nc]) : (fun w' => w'.cell? ⟨w.heap.size, 1, none⟩ = some (.int .i64 b) ∧ w'.cell? ⟨gd, 0, none⟩ = some (.bool ds) ∧ w'.cell? ⟨gd, 1, none⟩ = some (.slice do1 dn dc) ∧ w'.cell? ⟨gn, 0, none⟩ = some (.bool ns) ∧ w'.cell? ⟨gn, 1, none⟩ = some (.slice no nn nc)) W := ⟨(T0.b 0 rfl).c 1 rfl, Bd.c 0 rfl, Bd.c 1 rfl, Bn.c 0 rfl, Bn.c 1 rfl⟩
abbrev Ps := Nat → Int × Int
def sdA (n : Nat) (p : Ps) (i : Nat) : Int × Int × Int × Int := if lessI (p ((i + 1) % n)).1 (p ((i + 1) % n)).2 (p i).1 (p i).2 = true then ((p ((i + 1) % n)).1, (p ((i + 1) % n)).2, (p i).1, (p i).2) else ((p i).1, (p i).2, (p ((i + 1) % n)).1, (p ((i + 1) % n)).2)
abbrev OneN (n : Nat) (p : Ps) : Prop := ∀ i, i < n → ∀ k, k < i → p i ≠ p k
def SpIn (w : World) (ao : Option Addr) (n : Nat) (p : Ps) : Prop :=
 ∀ i, i < n → ∃ A off, ao = some ⟨A, off, none⟩ ∧ A < w.heap.size ∧ w.cell? ⟨A, off + i * 2, none⟩ = some (.int .i64 (p i).1) ∧ w.cell? ⟨A, off + i * 2 + 1, none⟩ = some (.int .i64 (p i).2)
theorem SpIn.step {w w' : World} {ao : Option Addr} {n : Nat} {p : Ps} (h : SpIn w ao n p) (hB : Below w.heap.size w w') : SpIn w' ao n p := fun i hi => by
 obtain ⟨A, off, e, hA, h0, h1⟩ := h i hi
 exact ⟨A, off, e, Nat.lt_of_lt_of_le hA hB.size, (hB.cell (p := ⟨A, off + i * 2, none⟩) hA).trans h0, (hB.cell (p := ⟨A, off + i * 2 + 1, none⟩) hA).trans h1⟩
theorem SpIn.drew {w : World} {ao : Option Addr} {n : Nat} {p : Ps} (h : SpIn w ao n p) : SpIn w.drew ao n p := h
def spW (p : Ps) (k : Nat) : Int := if k % 2 = 0 then (p (k / 2)).1 else (p (k / 2)).2
theorem spW0 (p : Ps) (c : Nat) : spW p (c * 2) = (p c).1 := by
 unfold spW
 rw [if_pos (by omega), show c * 2 / 2 = c by omega]
theorem spW1 (p : Ps) (c : Nat) : spW p (c * 2 + 1) = (p c).2 := by
 unfold spW
 rw [if_neg (by omega), show (c * 2 + 1) / 2 = c by omega]
theorem spIn_row {w : World} {g n : Nat} {T : TypeId} {p : Ps} (h : w.rowIs g T (n * 2) (fun i => .int .i64 (spW p i))) : SpIn w (some ⟨g, 0, none⟩) n p := fun i hi =>
 ⟨g, 0, rfl, h.lt, by rw [Nat.zero_add, h.cell (by omega), spW0], by rw [Nat.zero_add, h.cell (by omega), spW1]⟩
theorem toSpot_det (x y : Int) (w : World) : Calls Tryz.prog 60 #[Sp x y] w (VP (Sp x y) w) := by
 go_enter Tryz.func60, Tryz.ntmps60
 go_wp2
 refine bodyPost_ret (v := Sp x y) (by simp [results, Tryz.results60, go_sem]) rfl ?_
 exact ⟨rfl, (((Below.refl _ _).alloc (Nat.le_refl _) _).alloc (by simp) _).alloc (by simp; omega) _⟩
theorem eqSpot_det (x y : Int) (w : World) : Calls Tryz.prog 70 #[Sp x y, Sp x y] w (BoolP true w) := by
 go_enter Tryz.func70, Tryz.ntmps70
 go_wp2
 go_ret
 exact ⟨rfl, ((Below.refl _ _).alloc (Nat.le_refl _) _).alloc (by simp) _⟩
theorem Tryz.infoSpot : (Tryz.prog.info? 81).map (fun i => (i.zero, i.size, i.bytes)) = some (some (.agg #[.int .i64 0, .int .i64 0]), 2, 16) := by kernel_rfl
theorem make_spots (n : Nat) (hn : n ≤ 1048576) (w : World) : (Instr.makeSlice 32 (.int .i64 (n : Int)) (.int .i64 (n : Int))).run Tryz.prog w = .ok (.slice (some ⟨w.heap.size, 0, none⟩) n n) (w.alloc (.cells (madeCells #[.int .i64 0, .int .i64 0] (n * 2)) 81)) := by
 obtain ⟨i, hi, hzz⟩ := Option.map_eq_some_iff.1 Tryz.infoSpot
 simp only [Prod.mk.injEq] at hzz
 obtain ⟨hz, hs, hb⟩ := hzz
 have hr := run_make (P := Tryz.prog) w 32 81 i (.agg #[.int .i64 0, .int .i64 0]) Tryz.underlying32 hi hz .i64 .i64 n n (by omega) (Int.le_refl _) (by rw [hb]; omega) (by omega)
 simp only [Int.toNat_natCast, hs, Value.cells] at hr
 exact hr
theorem rows_made (w : World) (n : Nat) (T : TypeId) : (w.alloc (.cells (madeCells #[.int .i64 0, .int .i64 0] (n * 2)) T)).rowIs w.heap.size T (n * 2) (fun _ => .int .i64 0) := by
 have h := World.rowIs_alloc w (madeCells #[.int .i64 0, .int .i64 0] (n * 2)) T (fun _ => .int .i64 0) (fun i hi => by
   rw [size_madeCells] at hi
   simp [madeCells, hi]
   rcases (show i % 2 = 0 ∨ i % 2 = 1 by omega) with h | h <;> simp [h])
 rwa [size_madeCells] at h
def cpS (p : Ps) (c : Nat) (i : Nat) : Value := .int .i64 (if i < c * 2 then spW p i else 0)
theorem rows_step {w w' : World} {g n : Nat} {T : TypeId} {f : Nat → Value} (h : w.rowIs g T n f) (hB : Below w.heap.size w w') : w'.rowIs g T n f := h.of_block (hB.block g h.lt)
theorem cps_step {w : World} {g n c : Nat} {T : TypeId} {p : Ps} (h : w.rowIs g T (n * 2) (cpS p c)) : ((w.setCell ⟨g, c * 2, none⟩ (.int .i64 (p c).1)).setCell ⟨g, c * 2 + 1, none⟩ (.int .i64 (p c).2)).rowIs g T (n * 2) (cpS p (c + 1)) := by
 refine ((h.set (c * 2) (.int .i64 (p c).1)).set (c * 2 + 1) (.int .i64 (p c).2)).congr (fun i hi => ?_)
 unfold cpS
 by_cases h1 : i = c * 2 + 1
 · subst h1
   rw [if_pos rfl, if_pos (by omega), spW1]
 rw [if_neg h1]
 by_cases h0 : i = c * 2
 · subst h0
   rw [if_pos rfl, if_pos (by omega), spW0]
 rw [if_neg h0]
 by_cases hl : i < c * 2
 · rw [if_pos hl, if_pos (by omega)]
 · rw [if_neg hl, if_neg (by omega)]
set_option maxRecDepth 100000 in
set_option maxHeartbeats 2000000 in
theorem toSpotS_any (ao : Option Addr) (n cap : Nat) (p : Ps) (hn : n ≤ 1048576) (w : World) (hS : SpIn w ao n p) : Calls Tryz.prog 30 #[.slice ao n cap] w (fun e w' => ∃ g, e = .returned (.slice (some ⟨g, 0, none⟩) n n) ∧ w.heap.size ≤ g ∧ w'.rowIs g 81 (n * 2) (fun i => .int .i64 (spW p i)) ∧ Below w.heap.size w w') := by
 have MK := make_spots n hn
 have HS : Hid (SpIn w ao n p) := hS
 clear hS
 go_enter Tryz.func30, Tryz.ntmps30
 go_wp2_with fail
 have R0 := rows_made w n 81
 have B0 : Below w.heap.size w (w.alloc (.cells (madeCells #[.int .i64 0, .int .i64 0] (n * 2)) 81)) := (Below.refl _ _).alloc (Nat.le_refl _) _
 generalize w.alloc (.cells (madeCells #[.int .i64 0, .int .i64 0] (n * 2)) 81) = W1 at *
 have hnI : (n : Int) ≤ 1048576 := by omega
 clear MK
 go_loopw [4] (fun i wr => ∃ c : Nat, c ≤ n ∧ i = .int .i64 c ∧ wr.rowIs w.heap.size 81 (n * 2) (cpS p c) ∧ Below w.heap.size w wr) (fun i _ => n - (intOf i).toNat)
 case atStart => exact ⟨0, by omega, rfl, R0.congr (fun i _ => by unfold cpS; simp), B0⟩
 case round =>
   clear R0 B0
   obtain ⟨c, hc, rfl, R, HB⟩ := hrel
   by_cases hcn : c < n
   · obtain ⟨A, off, rfl, hA, q0, q1⟩ := HS.out.step HB c hcn
     have hcI : (c : Int) < n := by omega
     go_wp2_with fail
     refine (toSpot_det (p c).1 (p c).2 _).mono ?_
     rintro e w1 ⟨rfl, hB⟩
     replace R := rows_step R hB
     replace HB := HB.trans (hB.mono HB.size)
     have o0 := R.cell (i := c * 2) (by omega); have o1 := R.cell (i := c * 2 + 1) (by omega)
     have f0 := R.frozen (c * 2); have f1 := R.frozen (c * 2 + 1)
     have RN := cps_step R
     have HN : Below w.heap.size w ((w1.setCell ⟨w.heap.size, c * 2, none⟩ (.int .i64 (p c).1)).setCell ⟨w.heap.size, c * 2 + 1, none⟩ (.int .i64 (p c).2)) := (HB.setCell (by simp) _).setCell (by simp) _
     clear hB q0 q1 hA R HB
     go_wp2
     go_roundw
     case rel => exact ⟨c + 1, by omega, by go_num, RN, HN⟩
     case measure => simp [intOf]; omega
   · obtain rfl : c = n := by omega
     have RN : wr.rowIs w.heap.size 81 (c * 2) (fun i => .int .i64 (spW p i)) := R.congr (fun i hi => by unfold cpS; rw [if_pos hi])
     clear R HS
     go_wp2
     go_ret
     exact ⟨_, rfl, Nat.le_refl _, RN, HB⟩
set_option maxRecDepth 100000 in
set_option maxHeartbeats 2000000 in
theorem eqSpotS_any (ao bo : Option Addr) (n ca cb : Nat) (p : Ps) (hn : n ≤ 1048576) (w : World) (hA : SpIn w ao n p) (hC : SpIn w bo n p) : Calls Tryz.prog 35 #[.slice ao n ca, .slice bo n cb] w (BoolP true w) := by
 have HA : Hid (SpIn w ao n p) := hA
 have HC : Hid (SpIn w bo n p) := hC
 have hnI : (n : Int) ≤ 1048576 := by omega
 clear hA hC
 go_enter Tryz.func35, Tryz.ntmps35
 go_wp2_with fail
 go_loopw [5] (fun i wr => ∃ c : Nat, c ≤ n ∧ i = .int .i64 c ∧ Below w.heap.size w wr) (fun i _ => n - (intOf i).toNat)
 case atStart => exact ⟨0, by omega, rfl, Below.refl _ _⟩
 case round =>
   obtain ⟨c, hc, rfl, HB⟩ := hrel
   by_cases hcn : c < n
   · obtain ⟨A, off, rfl, hA, q0, q1⟩ := HA.out.step HB c hcn
     obtain ⟨B, of2, rfl, hB', r0, r1⟩ := HC.out.step HB c hcn
     have hcI : (c : Int) < n := by omega
     have ES := eqSpot_det (p c).1 (p c).2
     have KS : (fun w' => w'.cell? ⟨A, off + c * 2, none⟩ = some (.int .i64 (p c).1) ∧ w'.cell? ⟨A, off + c * 2 + 1, none⟩ = some (.int .i64 (p c).2) ∧ w'.cell? ⟨B, of2 + c * 2, none⟩ = some (.int .i64 (p c).1) ∧ w'.cell? ⟨B, of2 + c * 2 + 1, none⟩ = some (.int .i64 (p c).2)) wr := ⟨q0, q1, r0, r1⟩
     go_wp2_with fail
     go_region_held3 (fun w' => w'.cell? ⟨A, off + c * 2, none⟩ = some (.int .i64 (p c).1) ∧ w'.cell? ⟨A, off + c * 2 + 1, none⟩ = some (.int .i64 (p c).2) ∧ w'.cell? ⟨B, of2 + c * 2, none⟩ = some (.int .i64 (p c).1) ∧ w'.cell? ⟨B, of2 + c * 2 + 1, none⟩ = some (.int .i64 (p c).2)) (first | (exact KS) | (exact KS'))
       (first
         | (go_at_call 70; refine (ES _).mono ?_; rintro e w1 ⟨rfl, hB⟩; have KS' : (fun w' => w'.cell? ⟨A, off + c * 2, none⟩ = some (.int .i64 (p c).1) ∧ w'.cell? ⟨A, off + c * 2 + 1, none⟩ = some (.int .i64 (p c).2) ∧ w'.cell? ⟨B, of2 + c * 2, none⟩ = some (.int .i64 (p c).1) ∧ w'.cell? ⟨B, of2 + c * 2 + 1, none⟩ = some (.int .i64 (p c).2)) w1 := ⟨(hB.cell (p := ⟨A, _, none⟩) hA).trans q0, (hB.cell (p := ⟨A, _, none⟩) hA).trans q1, (hB.cell (p := ⟨B, _, none⟩) hB').trans r0, (hB.cell (p := ⟨B, _, none⟩) hB').trans r1⟩; (first | (have HB2 := HB.trans (hB.mono HB.size)) | (have HB2 := HB.drew.trans (hB.mono HB.drew.size))); clear hB))
     all_goals clear HB KS q0 q1 r0 r1 ES
     all_goals go_wp2
     all_goals go_roundw
     case rel => exact ⟨c + 1, by omega, by go_num, HB2⟩
     case measure => simp [intOf]; omega
   · obtain rfl : c = n := by omega
     clear HA HC
     go_wp2
     go_ret
     exact ⟨rfl, HB⟩
set_option maxRecDepth 100000 in
set_option maxHeartbeats 2000000 in
theorem toRing_any (ao : Option Addr) (m cap : Nat) (q : Ps) (hm : m ≤ 1048576) (w : World) (hS : SpIn w ao m q) : Calls Tryz.prog 10 #[.agg #[.slice ao m cap]] w (fun e w' => ∃ g, e = .returned (.agg #[.slice (some ⟨g, 0, none⟩) m m]) ∧ w.heap.size ≤ g ∧ w'.rowIs g 81 (m * 2) (fun i => .int .i64 (spW q i)) ∧ Below w.heap.size w w') := by
 have HB : Below w.heap.size w (((w.alloc (.cells #[.slice ao m cap] 24)).alloc (.cells #[.slice none 0 0] 34)).alloc (.cells #[.slice none 0 0] 34)) := (((Below.refl _ w).alloc (Nat.le_refl _) _).alloc (by simp) _).alloc (by simp; omega) _
 have B0 := ((Blk.new w [.slice ao m cap] 24 rfl).alloc (.cells #[.slice none 0 0] 34)).alloc (.cells #[.slice none 0 0] 34)
 have B1 := (Blk.new (w.alloc (.cells #[.slice ao m cap] 24)) [.slice none 0 0] 34 (g := w.heap.size + 1) (by simp)).alloc (.cells #[.slice none 0 0] 34)
 have B2 := Blk.new ((w.alloc (.cells #[.slice ao m cap] 24)).alloc (.cells #[.slice none 0 0] 34)) [.slice none 0 0] 34 (g := w.heap.size + 1 + 1) (by simp)
 have HS := hS.step HB
 have hsz : (((w.alloc (.cells #[.slice ao m cap] 24)).alloc (.cells #[.slice none 0 0] 34)).alloc (.cells #[.slice none 0 0] 34)).heap.size = w.heap.size + 3 := by simp
 have TP := fun w h => toSpotS_any ao m cap q hm w h
 clear hS
 go_enter Tryz.func10, Tryz.ntmps10
 have b0 := B0.c 0 rfl
 go_wp2_with fail
 refine (TP _ HS).mono ?_
 rintro e w1 ⟨g, rfl, hg, R, hB⟩
 rw [hsz] at hg
 replace B1 := B1.step hB; replace B2 := B2.step hB
 replace HB := HB.trans (hB.mono HB.size)
 clear hB TP B0 b0 HS hsz
 have c0 := B1.c 0 rfl; have f0 := B1.f 0 rfl; have l1 := B1.lt; have d0 := B2.c 0 rfl; have e0 := B2.f 0 rfl; have l2 := B2.lt
 have RN : ((w1.setCell ⟨w.heap.size + 1 + 1, 0, none⟩ (.slice (some ⟨g, 0, none⟩) m m)).setCell ⟨w.heap.size + 1, 0, none⟩ (.slice (some ⟨g, 0, none⟩) m m)).rowIs g 81 (m * 2) (fun i => .int .i64 (spW q i)) := (R.setOther (by show g ≠ w.heap.size + 1 + 1; omega) _).setOther (by show g ≠ w.heap.size + 1; omega) _
 have HN : Below w.heap.size w ((w1.setCell ⟨w.heap.size + 1 + 1, 0, none⟩ (.slice (some ⟨g, 0, none⟩) m m)).setCell ⟨w.heap.size + 1, 0, none⟩ (.slice (some ⟨g, 0, none⟩) m m)) := Below.setCell (Below.setCell HB (by show w.heap.size ≤ w.heap.size + 1 + 1; omega) _) (by show w.heap.size ≤ w.heap.size + 1; omega) _
 clear R HB B1 B2
 go_wp2
 refine bodyPost_ret (v := .agg #[.slice (some ⟨g, 0, none⟩) m m]) (by simp [results, Tryz.results10, go_sem, c0]) rfl ?_
 exact ⟨g, rfl, by omega, RN, HN⟩
set_option maxRecDepth 100000 in
set_option maxHeartbeats 2000000 in
theorem eqRing_any (ao bo : Option Addr) (m ca cb : Nat) (q : Ps) (hm : m ≤ 1048576) (w : World) (hA : SpIn w ao m q) (hC : SpIn w bo m q) : Calls Tryz.prog 13 #[.agg #[.slice ao m ca], .agg #[.slice bo m cb]] w (BoolP true w) := by
 have HB : Below w.heap.size w ((w.alloc (.cells #[.slice ao m ca] 34)).alloc (.cells #[.slice bo m cb] 34)) := ((Below.refl _ w).alloc (Nat.le_refl _) _).alloc (by simp) _
 have B0 := (Blk.new w [.slice ao m ca] 34 rfl).alloc (.cells #[.slice bo m cb] 34)
 have B1 := Blk.new (w.alloc (.cells #[.slice ao m ca] 34)) [.slice bo m cb] 34 (g := w.heap.size + 1) (by simp)
 have HA := hA.step HB
 have HC := hC.step HB
 have EP := fun w h h' => eqSpotS_any ao bo m ca cb q hm w h h'
 clear hA hC
 go_enter Tryz.func13, Tryz.ntmps13
 have b0 := B0.c 0 rfl
 have b1 := B1.c 0 rfl
 go_wp2_with fail
 refine (EP _ HA HC).mono ?_
 rintro e w1 ⟨rfl, hB⟩
 replace HB := HB.trans (hB.mono HB.size)
 clear hB EP HA HC B0 B1 b0 b1
 go_wp2
 go_ret
 exact ⟨rfl, HB⟩
theorem szSpotS_any (ao : Option Addr) (m cap : Nat) (l : Int) (h0 : 0 ≤ l) (h1 : l ≤ 1048576) (hm : m ≤ 9223372036854775807) (w : World) : Calls Tryz.prog 25 #[.slice ao m cap, .int .i64 l] w (VP (.int .i64 (if (m : Int) ≤ l then l - m else -1)) w) := by
 have hmI : (m : Int) ≤ 9223372036854775807 := by omega
 by_cases h : (m : Int) ≤ l
 · rw [if_pos h]
   go_enter Tryz.func25, Tryz.ntmps25
   go_wp2
   go_ret
   exact ⟨rfl, Below.refl _ _⟩
 · rw [if_neg h]
   have h' : l < (m : Int) := by omega
   go_enter Tryz.func25, Tryz.ntmps25
   go_wp2
   go_ret
   exact ⟨rfl, Below.refl _ _⟩
theorem szRing_any (ao : Option Addr) (m cap : Nat) (l : Int) (h0 : 0 ≤ l) (h1 : l ≤ 1048576) (hm : m ≤ 9223372036854775807) (w : World) : Calls Tryz.prog 8 #[.agg #[.slice ao m cap], .int .i64 l] w (VP (.int .i64 (if (m : Int) ≤ l then l - m else -1)) w) := by
 have HB : Below w.heap.size w (w.alloc (.cells #[.slice ao m cap] 24)) := (Below.refl _ w).alloc (Nat.le_refl _) _
 have B0 := Blk.new w [.slice ao m cap] 24 rfl
 have SP := szSpotS_any ao m cap l h0 h1 hm
 go_enter Tryz.func8, Tryz.ntmps8
 have b0 := B0.c 0 rfl
 by_cases h : (m : Int) ≤ l
 · rw [if_pos h] at SP ⊢
   go_wp2_with fail
   refine (SP _).mono ?_
   rintro e w1 ⟨rfl, hB⟩
   replace HB := HB.trans (hB.mono HB.size)
   clear hB SP B0 b0
   have h2 : 0 ≤ l - (m : Int) := by omega
   go_wp2
   go_ret
   exact ⟨rfl, HB⟩
 · rw [if_neg h] at SP ⊢
   go_wp2_with fail
   refine (SP _).mono ?_
   rintro e w1 ⟨rfl, hB⟩
   replace HB := HB.trans (hB.mono HB.size)
   clear hB SP B0 b0
   go_wp2
   go_ret
   exact ⟨rfl, HB⟩
def kndZ (a b c d p q u v : Int) : Int :=
 if ((b - d) * (u - p) - (q - v) * (c - a)) = 0 then
   (if turnZ a b c d p q ≠ 0 ∨ lessI (if lessI u v c d = true then u else c) (if lessI u v c d = true then v else d) (if lessI a b p q = true then p else a) (if lessI a b p q = true then q else b) = true then 0
    else if (if lessI a b p q = true then p else a) = (if lessI u v c d = true then u else c) ∧ (if lessI a b p q = true then q else b) = (if lessI u v c d = true then v else d) then 1 else 2)
 else if (pt2 (turnZ a b c d p q) (turnZ a b c d u v) && pt2 (turnZ p q u v a b) (turnZ p q u v c d)) = true then 1 else 0
theorem knd_in (a b c d p q u v : Int) : kndZ a b c d p q u v = 0 ∨ kndZ a b c d p q u v = 1 ∨ kndZ a b c d p q u v = 2 := by
 unfold kndZ
 repeat' split
 all_goals simp
theorem pt2_zl (t : Int) : pt2 0 t = true := by simp [pt2]
theorem pt2_zr (t : Int) : pt2 t 0 = true := by simp [pt2]
theorem turn_at1 (a b c d : Int) : turnZ a b c d a b = 0 := by unfold turnZ; simp
theorem turn_at2 (a b c d : Int) : turnZ a b c d c d = 0 := by unfold turnZ; grind
theorem less_iff (x y u v : Int) : lessI x y u v = true ↔ x < u ∨ x = u ∧ y < v := by unfold lessI; exact decide_eq_true_iff
theorem knd_share {a b c d p q u v : Int} (h1 : lessI a b c d = true) (h2 : lessI p q u v = true) (hs : (a = p ∧ b = q) ∨ (a = u ∧ b = v) ∨ (c = p ∧ d = q) ∨ (c = u ∧ d = v)) : kndZ a b c d p q u v ≠ 0 := by
 have hd := turn_diff a b c d p q u v
 have t1 := turn_at1 a b c d
 have t2 := turn_at2 a b c d
 have s1 := turn_at1 p q u v
 have s2 := turn_at2 p q u v
 have P : (pt2 (turnZ a b c d p q) (turnZ a b c d u v) && pt2 (turnZ p q u v a b) (turnZ p q u v c d)) = true := by
   rcases hs with ⟨rfl, rfl⟩ | ⟨rfl, rfl⟩ | ⟨rfl, rfl⟩ | ⟨rfl, rfl⟩ <;> simp only [t1, t2, s1, s2, pt2_zl, pt2_zr, Bool.and_self]
 unfold kndZ
 rw [P]
 by_cases h0 : ((b - d) * (u - p) - (q - v) * (c - a)) = 0
 · rw [if_pos h0]
   have T : turnZ a b c d p q = 0 := by
     rcases hs with ⟨rfl, rfl⟩ | ⟨rfl, rfl⟩ | ⟨rfl, rfl⟩ | ⟨rfl, rfl⟩ <;> omega
   clear P hd t1 t2 s1 s2 h0
   rw [less_iff] at h1 h2
   have N : ¬ lessI (if lessI u v c d = true then u else c) (if lessI u v c d = true then v else d) (if lessI a b p q = true then p else a) (if lessI a b p q = true then q else b) = true := by
     simp only [less_iff]
     split <;> split <;> omega
   rw [if_neg (fun h => h.elim (fun k => k T) N)]
   by_cases hq : (if lessI a b p q = true then p else a) = (if lessI u v c d = true then u else c) ∧ (if lessI a b p q = true then q else b) = (if lessI u v c d = true then v else d)
   · rw [if_pos hq]; decide
   · rw [if_neg hq]; decide
 · rw [if_neg h0, if_pos rfl]
   decide
def kdA (n : Nat) (p : Ps) (i k : Nat) : Int := kndZ (sdA n p i).1 (sdA n p i).2.1 (sdA n p i).2.2.1 (sdA n p i).2.2.2 (sdA n p k).1 (sdA n p k).2.1 (sdA n p k).2.2.1 (sdA n p k).2.2.2
def nxB (n i k : Nat) : Bool := decide (k + 1 = i) || (decide (k = 0) && decide (i + 1 = n))
def bdB (n : Nat) (p : Ps) (i k : Nat) : Bool := decide ((if nxB n i k = true then 1 else 0) < kdA n p i k)
theorem one_ne {n : Nat} {p : Ps} (h : OneN n p) {i k : Nat} (hi : i < n) (hk : k < n) (hne : i ≠ k) : p i ≠ p k := by
 rcases Nat.lt_or_ge k i with h' | h'
 · exact h i hi k h'
 · exact fun e => h k hk i (by omega) e.symm
theorem sd_less {n : Nat} {p : Ps} (h : OneN n p) (hn : 3 ≤ n) {i : Nat} (hi : i < n) : lessI (sdA n p i).1 (sdA n p i).2.1 (sdA n p i).2.2.1 (sdA n p i).2.2.2 = true := by
 have hm : (i + 1) % n < n := Nat.mod_lt _ (by omega)
 have hne : (i + 1) % n ≠ i := by
   rcases Nat.lt_or_ge (i + 1) n with h' | h'
   · rw [Nat.mod_eq_of_lt h']; omega
   · obtain rfl : n = i + 1 := by omega
     rw [Nat.mod_self]; omega
 have hp := one_ne h hm hi hne
 unfold sdA
 by_cases hl : lessI (p ((i + 1) % n)).1 (p ((i + 1) % n)).2 (p i).1 (p i).2 = true
 · rw [if_pos hl]; exact hl
 · rw [if_neg hl]
   rw [less_iff] at hl ⊢
   generalize p ((i + 1) % n) = A at *
   generalize p i = B at *
   obtain ⟨x, y⟩ := A
   obtain ⟨u, v⟩ := B
   simp only at hl ⊢
   have : ¬ (x = u ∧ y = v) := fun ⟨e1, e2⟩ => hp (by rw [e1, e2])
   omega
theorem sd_ends (n : Nat) (p : Ps) (i : Nat) : ((sdA n p i).1 = (p i).1 ∧ (sdA n p i).2.1 = (p i).2 ∧ (sdA n p i).2.2.1 = (p ((i + 1) % n)).1 ∧ (sdA n p i).2.2.2 = (p ((i + 1) % n)).2) ∨ ((sdA n p i).1 = (p ((i + 1) % n)).1 ∧ (sdA n p i).2.1 = (p ((i + 1) % n)).2 ∧ (sdA n p i).2.2.1 = (p i).1 ∧ (sdA n p i).2.2.2 = (p i).2) := by
 unfold sdA
 split
 · exact .inr ⟨rfl, rfl, rfl, rfl⟩
 · exact .inl ⟨rfl, rfl, rfl, rfl⟩
theorem kd_next {n : Nat} {p : Ps} (h : OneN n p) (hn : 3 ≤ n) {i k : Nat} (hi : i < n) (hk : k < i) (hx : nxB n i k = true) : kdA n p i k ≠ 0 := by
 unfold kdA
 refine knd_share (sd_less h hn hi) (sd_less h hn (by omega)) ?_
 have E1 := sd_ends n p i
 have E2 := sd_ends n p k
 have hc : ((k + 1) % n = i) ∨ ((i + 1) % n = k) := by
   simp only [nxB, Bool.or_eq_true, Bool.and_eq_true, decide_eq_true_iff] at hx
   rcases hx with hx | ⟨hx, hx'⟩
   · exact .inl (by rw [hx]; exact Nat.mod_eq_of_lt hi)
   · exact .inr (by rw [hx', hx, Nat.mod_self])
 rcases hc with hc | hc
 · rw [hc] at E2
   rcases E1 with ⟨e1, e2, e3, e4⟩ | ⟨e1, e2, e3, e4⟩ <;> rcases E2 with ⟨f1, f2, f3, f4⟩ | ⟨f1, f2, f3, f4⟩ <;> omega
 · rw [hc] at E1
   rcases E1 with ⟨e1, e2, e3, e4⟩ | ⟨e1, e2, e3, e4⟩ <;> rcases E2 with ⟨f1, f2, f3, f4⟩ | ⟨f1, f2, f3, f4⟩ <;> omega
theorem bd_same {n : Nat} {p : Ps} (h : OneN n p) (hn : 3 ≤ n) {i k : Nat} (hi : i < n) (hk : k < i) : bdB n p i k = ((nxB n i k && !(decide (kdA n p i k = 1))) || (!(nxB n i k) && !(decide (kdA n p i k = 0)))) := by
 have hin : kdA n p i k = 0 ∨ kdA n p i k = 1 ∨ kdA n p i k = 2 := knd_in _ _ _ _ _ _ _ _
 have hx := kd_next h hn hi hk
 unfold bdB
 generalize kdA n p i k = z at *
 cases hb : nxB n i k
 · rcases hin with rfl | rfl | rfl <;> simp
 · have := hx hb
   rcases hin with rfl | rfl | rfl
   · exact absurd rfl this
   · simp
   · simp
def rgF (n : Nat) (p : Ps) : Int := if n < 3 then 1 else if 12 < n then 2 else if ¬ (∀ i, i < n → spotOk (p i).1 (p i).2 = true) then 3 else if ¬ OneN n p then 4 else if ¬ (∀ i, i < n → ∀ k, k < i → bdB n p i k = false) then 5 else 0
theorem meetW_kind (a b c d p q u v : Int) : ∃ r s, meetW a b c d p q u v = .tuple #[.int .i64 (kndZ a b c d p q u v), r, s] := by
 unfold meetW kndZ
 by_cases h0 : ((b - d) * (u - p) - (q - v) * (c - a)) = 0
 · rw [if_pos h0, if_pos h0]
   unfold alongV
   by_cases h1 : turnZ a b c d p q ≠ 0 ∨ lessI (if lessI u v c d = true then u else c) (if lessI u v c d = true then v else d) (if lessI a b p q = true then p else a) (if lessI a b p q = true then q else b) = true
   · rw [if_pos h1, if_pos h1]
     exact ⟨_, _, rfl⟩
   · rw [if_neg h1, if_neg h1]
     by_cases h2 : (if lessI a b p q = true then p else a) = (if lessI u v c d = true then u else c) ∧ (if lessI a b p q = true then q else b) = (if lessI u v c d = true then v else d)
     · rw [if_pos h2, if_pos h2]
       exact ⟨_, _, rfl⟩
     · rw [if_neg h2, if_neg h2]
       exact ⟨_, _, rfl⟩
 · rw [if_neg h0, if_neg h0]
   by_cases h3 : (pt2 (turnZ a b c d p q) (turnZ a b c d u v) && pt2 (turnZ p q u v a b) (turnZ p q u v c d)) = true
   · rw [if_pos h3, if_pos h3]
     exact ⟨_, _, rfl⟩
   · rw [if_neg h3, if_neg h3]
     exact ⟨_, _, rfl⟩
theorem mtP_kind {a b c d p q u v : Int} {w w' : World} {e : Ending} (h : MtP a b c d p q u v w e w') : (∃ (f1 f2 f3 g1 g2 g3 : Bool) (k1 k2 k3 l1 l2 l3 : Option Addr) (m1 m2 m3 x1 x2 x3 y1 y2 y3 z1 z2 z3 : Nat), e = .returned (.tuple #[.int .i64 (kndZ a b c d p q u v), .agg #[.bool f1, .slice k1 m1 x1, .bool f2, .slice k2 m2 x2, .bool f3, .slice k3 m3 x3], .agg #[.bool g1, .slice l1 y1 z1, .bool g2, .slice l2 y2 z2, .bool g3, .slice l3 y3 z3]])) ∧ Below w.heap.size w w' := by
 obtain ⟨hB, h⟩ := h
 obtain ⟨r, s, hk⟩ := meetW_kind a b c d p q u v
 refine ⟨?_, hB⟩
 rcases h with ⟨hm, he⟩ | ⟨x, y, z, r', hm, -, -, -, he, L⟩ | ⟨x, y, x', y', r', s', hm, -, -, -, -, he, L, L'⟩
 · rw [hk] at hm
   simp at hm
   rw [hm.1]
   exact ⟨_, _, _, _, _, _, _, _, _, _, _, _, _, _, _, _, _, _, _, _, _, _, _, _, he⟩
 · rw [hk] at hm
   simp at hm
   rw [hm.1]
   obtain ⟨s1, o1, n1, c1, d1, s2, o2, n2, c2, d2, s3, o3, n3, c3, d3, rfl, -, -, -⟩ := L
   exact ⟨_, _, _, _, _, _, _, _, _, _, _, _, _, _, _, _, _, _, _, _, _, _, _, _, he⟩
 · rw [hk] at hm
   simp at hm
   rw [hm.1]
   obtain ⟨s1, o1, n1, c1, d1, s2, o2, n2, c2, d2, s3, o3, n3, c3, d3, rfl, -, -, -⟩ := L
   obtain ⟨t1, q1, m1, b1, f1, t2, q2, m2, b2, f2, t3, q3, m3, b3, f3, rfl, -, -, -⟩ := L'
   exact ⟨_, _, _, _, _, _, _, _, _, _, _, _, _, _, _, _, _, _, _, _, _, _, _, _, he⟩
theorem meetW_12 (a b c d p q u v : Int) : ∃ (r0 r1 r2 r3 r4 r5 r6 r7 r8 r9 r10 r11 s0 s1 s2 s3 s4 s5 s6 s7 s8 s9 s10 s11 : Int), meetW a b c d p q u v = .tuple #[.int .i64 (kndZ a b c d p q u v), .agg #[.int .u64 r0, .int .u64 r1, .int .u64 r2, .int .u64 r3, .int .u64 r4, .int .u64 r5, .int .u64 r6, .int .u64 r7, .int .u64 r8, .int .u64 r9, .int .u64 r10, .int .u64 r11], .agg #[.int .u64 s0, .int .u64 s1, .int .u64 s2, .int .u64 s3, .int .u64 s4, .int .u64 s5, .int .u64 s6, .int .u64 s7, .int .u64 s8, .int .u64 s9, .int .u64 s10, .int .u64 s11]] := by
 obtain ⟨r, s, hk⟩ := meetW_kind a b c d p q u v
 obtain ⟨k, r0, r1, r2, r3, r4, r5, r6, r7, r8, r9, r10, r11, s0, s1, s2, s3, s4, s5, s6, s7, s8, s9, s10, s11, hx⟩ := meetW_ex a b c d p q u v
 have he := hx
 rw [hk] at he
 simp at he
 exact ⟨r0, r1, r2, r3, r4, r5, r6, r7, r8, r9, r10, r11, s0, s1, s2, s3, s4, s5, s6, s7, s8, s9, s10, s11, by rw [hx, he.1]⟩
theorem over_up {a b c d x y z : Int} (hl : lessI a b c d = true) : (decide (overJ a b c d x y z = 1) && decide (cmpI (x * 1) (c * z) < 0)) = upB a b 1 c d 1 x y z := by
 rw [less_iff] at hl
 have h0 : ¬ cmpI (c * 1) (a * 1) < 0 := by rw [cmpZ_lt]; omega
 unfold upB
 rw [if_neg h0]
 unfold overJ
 simp only [cmpZ_lt, cmpZ_gt, cmpZ_le, Int.mul_one]
 by_cases h1 : x < a * z
 · rw [if_pos h1]
   simp
   omega
 · rw [if_neg h1]
   by_cases h2 : c * z < x
   · rw [if_pos h2]
     simp
     omega
   · rw [if_neg h2]
     have ht : turnI a b 1 c d 1 x y z = -1 ∨ turnI a b 1 c d 1 x y z = 0 ∨ turnI a b 1 c d 1 x y z = 1 := by
       unfold turnI
       exact cmpI_in _ _
     rcases hl with hl | ⟨hl, hl'⟩
     · rw [if_pos hl]
       have e1 : (-turnI a b 1 c d 1 x y z = 1) ↔ turnI a b 1 c d 1 x y z < 0 := by omega
       rw [show (decide (-turnI a b 1 c d 1 x y z = 1)) = decide (turnI a b 1 c d 1 x y z < 0) from decide_eq_decide.2 e1]
       rw [show decide (a * z ≤ x) = true from decide_eq_true (by omega), Bool.true_and, Bool.and_comm]
     · subst hl
       have e2 : decide (x < a * z) = false := decide_eq_false (by omega)
       rw [e2]
       simp
theorem over_btw {a b c d x y z : Int} (hl : lessI a b c d = true) : (decide (overJ a b c d x y z = 0)) = btwS a b 1 c d 1 x y z := by
 rw [less_iff] at hl
 rw [btw_seg hl, Bool.eq_iff_iff]
 simp only [decide_eq_true_eq, Bool.and_eq_true]
 rw [over_zero hl]
 constructor
 · rintro ⟨p, q, r⟩; exact ⟨⟨p, q⟩, r⟩
 · rintro ⟨⟨p, q⟩, r⟩; exact ⟨p, q, r⟩
def onE (n : Nat) (p : Ps) (x y z : Int) (i : Nat) : Bool := btwS (sdA n p i).1 (sdA n p i).2.1 1 (sdA n p i).2.2.1 (sdA n p i).2.2.2 1 x y z
def upE (n : Nat) (p : Ps) (x y z : Int) (i : Nat) : Bool := upB (sdA n p i).1 (sdA n p i).2.1 1 (sdA n p i).2.2.1 (sdA n p i).2.2.2 1 x y z
def ctE (n : Nat) (p : Ps) (x y z : Int) (i : Nat) : Bool := ctB (sdA n p i).1 (sdA n p i).2.1 1 (sdA n p i).2.2.1 (sdA n p i).2.2.2 1 x y z
def onR (n : Nat) (p : Ps) (x y z : Int) : Nat → Bool
 | 0 => false
 | d + 1 => onR n p x y z d || onE n p x y z d
def upR (n : Nat) (p : Ps) (x y z : Int) : Nat → Bool
 | 0 => false
 | d + 1 => upR n p x y z d ^^ upE n p x y z d
def ctR (n : Nat) (p : Ps) (x y z : Int) : Nat → Bool
 | 0 => false
 | d + 1 => ctR n p x y z d ^^ ctE n p x y z d
def sdR (n : Nat) (p : Ps) (x y z : Int) : Int := if onR n p x y z n = true then 0 else if ctR n p x y z n = true then 1 else -1
theorem onR_mono {n : Nat} {p : Ps} {x y z : Int} {d e : Nat} (h : d ≤ e) (ho : onR n p x y z d = true) : onR n p x y z e = true := by
 induction h with
 | refl => exact ho
 | step _ ih => rw [onR, ih]; rfl
theorem side_turn (n : Nat) (p : Ps) (x y z : Int) (i : Nat) : (qdB (sdA n p i).1 (sdA n p i).2.1 1 x y z ^^ qdB (sdA n p i).2.2.1 (sdA n p i).2.2.2 1 x y z) = (qdB (p i).1 (p i).2 1 x y z ^^ qdB (p ((i + 1) % n)).1 (p ((i + 1) % n)).2 1 x y z) := by
 rcases sd_ends n p i with ⟨h1, h2, h3, h4⟩ | ⟨h1, h2, h3, h4⟩ <;> rw [h1, h2, h3, h4]
 exact Bool.xor_comm _ _
theorem up_ct (n : Nat) (p : Ps) (x y z : Int) (hz : 0 < z) : ∀ d, d ≤ n → onR n p x y z d = false → (upR n p x y z d ^^ ctR n p x y z d) = (qdB (p 0).1 (p 0).2 1 x y z ^^ qdB (p (d % n)).1 (p (d % n)).2 1 x y z)
 | 0, _, _ => by simp [upR, ctR]
 | d + 1, hd, ho => by
   rw [onR, Bool.or_eq_false_iff] at ho
   have I := up_ct n p x y z hz d (by omega) ho.1
   have E := (edge_same _ _ 1 _ _ 1 x y z (by omega) (by omega) hz ho.2).trans (side_turn n p x y z d)
   rw [Nat.mod_eq_of_lt (show d < n by omega)] at I
   rw [upR, ctR]
   unfold upE ctE
   revert I E
   generalize upR n p x y z d = a1
   generalize ctR n p x y z d = a2
   generalize upB (sdA n p d).1 (sdA n p d).2.1 1 (sdA n p d).2.2.1 (sdA n p d).2.2.2 1 x y z = a3
   generalize ctB (sdA n p d).1 (sdA n p d).2.1 1 (sdA n p d).2.2.1 (sdA n p d).2.2.2 1 x y z = a4
   generalize qdB (p 0).1 (p 0).2 1 x y z = b1
   generalize qdB (p d).1 (p d).2 1 x y z = b2
   generalize qdB (p ((d + 1) % n)).1 (p ((d + 1) % n)).2 1 x y z = b3
   cases a1 <;> cases a2 <;> cases a3 <;> cases a4 <;> cases b1 <;> cases b2 <;> cases b3 <;> simp
theorem up_same (n : Nat) (p : Ps) (x y z : Int) (hz : 0 < z) (ho : onR n p x y z n = false) : upR n p x y z n = ctR n p x y z n := by
 have h := up_ct n p x y z hz n (Nat.le_refl _) ho
 rw [Nat.mod_self, Bool.xor_self] at h
 revert h
 cases upR n p x y z n <;> cases ctR n p x y z n <;> simp
end Go.Proofs.YtibbjjlapglndaaGreat
namespace Go.Proofs.YtibbjjlapglndaaGreat
variable {P : Program} {ops : Array Oper} {Q : Exit → Act → World → Prop} {md : Region.Mode}
def open_ (l : Array Bool) : Nat := l.toList.countP (fun b => !b)
theorem open_set {l : Array Bool} {i : Nat} (h : l.getD i true = false) : open_ (l.setIfInBounds i true) + 1 = open_ l := by
 obtain ⟨xs⟩ := l
 have hi : i < xs.length := by
   rcases Nat.lt_or_ge i xs.length with h' | h'
   · exact h'
   · simp [Array.getD, Nat.not_lt.2 h'] at h
 have hv : xs[i] = false := by simpa [Array.getD, hi] using h
 have hp : 0 < xs.countP (fun b => !b) := List.countP_pos_iff.2 ⟨xs[i], List.getElem_mem hi, by simp [hv]⟩
 simp only [open_, List.setIfInBounds_toArray, List.countP_set hi, hv]
 simp
 omega
theorem wpAny_inv (J : Array Bool → Act → World → Prop) (hs : ∀ l a w i o, J l a w → l.getD i true = false → ops[i]? = some o → (∀ e ∈ o.after, Region.binds md e = true → l.getD e.on false = true) → wpOp P ops Q i (J (l.setIfInBounds i true)) a w)
   (hd : ∀ l a w, J l a w → Region.ready md ops l = [] → Q .normal a w) : ∀ (fuel : Nat) (l : Array Bool) (a : Act) (w : World), open_ l ≤ fuel → J l a w → wpAny P md ops Q fuel l a w := by
 intro fuel
 induction fuel with
 | zero =>
   intro l a w hf hJ
   have hr : Region.ready md ops l = [] := by
     rw [List.eq_nil_iff_forall_not_mem]
     intro i hi
     have := open_set (mem_ready.1 hi).1
     omega
   exact ⟨hr, hd l a w hJ hr⟩
 | succ fuel ih =>
   intro l a w hf hJ
   refine ⟨fun hr => hd l a w hJ hr, fun i hi => ?_⟩
   obtain ⟨h0, o, ho, hall⟩ := mem_ready.1 hi
   exact wpOp_mono (fun a' w' h' => ih _ a' w' (by have := open_set h0; omega) h') (hs l a w i o hJ h0 ho hall)
theorem wp_region_inv {id : Nat} {a : Act} {w : World} (hm : P.follows .mixedOrders = true) (J : Array Bool → Act → World → Prop)
   (h0 : J (Array.replicate ops.size false) a { w with drawn := w.drawn + 1 })
   (hs : ∀ l a w i o, J l a w → l.getD i true = false → ops[i]? = some o → (∀ e ∈ o.after, Region.binds .any e = true → l.getD e.on false = true) → wpOp P ops Q i (J (l.setIfInBounds i true)) a w)
   (hd : ∀ l a w, J l a w → Region.ready .any ops l = [] → Q .normal a w) : (Code.region id ops true).wp P Q a w :=
 wp_region_any hm (wpAny_inv J hs hd _ _ _ _ (by
   unfold open_
   refine Nat.le_trans List.countP_le_length ?_
   simp) h0)
def waits (md : Region.Mode) (ops : Array Oper) : List Nat → List Nat → Bool
 | _, [] => true
 | acc, i :: r => ((ops[i]?).map (fun o => o.after.all (fun e => !Region.binds md e || acc.contains e.on))).getD false && waits md ops (i :: acc) r
theorem listed_of {l : Array Bool} (hr : Region.ready md ops l = []) : ∀ (r acc : List Nat), (∀ k ∈ acc, l.getD k false = true) → waits md ops acc r = true → (∀ k ∈ r, k < l.size) → ∀ k ∈ r, l.getD k false = true
 | [], _, _, _, _ => fun k hk => by simp at hk
 | i :: r, acc, ha, hw, hz => by
   simp only [waits, Bool.and_eq_true] at hw
   obtain ⟨hw1, hw2⟩ := hw
   have hi : l.getD i false = true := by
     cases ho : ops[i]? with
     | none => rw [ho] at hw1; simp at hw1
     | some o =>
       rw [ho] at hw1
       have hall : ∀ e ∈ o.after, Region.binds md e = true → l.getD e.on false = true := fun e he hb => by
         have h2 : o.after.all (fun e => !Region.binds md e || acc.contains e.on) = true := by simpa using hw1
         rw [Array.all_eq_true'] at h2
         have h3 := h2 e he
         rw [hb] at h3
         exact ha _ (by simpa using h3)
       have hz' := hz i (by simp)
       by_cases hc : l.getD i true = false
       · have : i ∈ Region.ready md ops l := mem_ready.2 ⟨hc, o, ho, hall⟩
         rw [hr] at this
         simp at this
       · simpa [Array.getD, hz'] using hc
   intro k hk
   rcases List.mem_cons.1 hk with rfl | hk
   · exact hi
   · exact listed_of hr r (i :: acc) (fun k hk => by
       rcases List.mem_cons.1 hk with rfl | hk
       · exact hi
       · exact ha k hk) hw2 (fun k hk => hz k (by simp [hk])) k hk
theorem wpOp_of {i : Nat} {o : Oper} {a : Act} {w : World} {K : Act → World → Prop} (ho : ops[i]? = some o) (hg : o.guard = none) (h : o.wp P a w K Q) : wpOp P ops Q i K a w := by
 unfold wpOp
 simp only [ho]
 have hw : Region.wanted o (yielded ops a.tmps) = true := by unfold Region.wanted; rw [hg]
 rw [if_pos hw]
 exact .inl h
theorem tmps_fold : ∀ (D : List Nat) (t s : Array Value), t.size = s.size → (∀ d, d ∉ D → t[d]? = s[d]?) → t = D.foldl (fun u d => u.setIfInBounds d (t.getD d undef)) s
 | [], t, s, _, h => Array.ext_getElem? (fun d => h d (by simp))
 | d :: D, t, s, hz, h => by
   rw [List.foldl_cons]
   refine tmps_fold D t _ (by simpa using hz) (fun e he => ?_)
   by_cases hed : e = d
   · subst hed
     rcases Nat.lt_or_ge e t.size with h' | h'
     · simp [Array.getD, h', ← hz]
     · simp [← hz, h']
   · rw [Array.getElem?_setIfInBounds_ne (fun hh => hed hh.symm)]
     exact h e (by simp [hed, he])
theorem put_getD_ne {a : Act} {d e : Nat} {v : Value} (h : d ≠ e) : (a.put (some d) v).tmps.getD e undef = a.tmps.getD e undef := by
 simp [Act.put, Array.getD_eq_getD_getElem?, Array.getElem?_setIfInBounds_ne h]
theorem put_getD_same {a : Act} {d : Nat} {v : Value} (h : d < a.tmps.size) : (a.put (some d) v).tmps.getD d undef = v := by
 simp [Act.put, Array.getD_eq_getD_getElem?, h]
end Go.Proofs.YtibbjjlapglndaaGreat
namespace Go.Proofs.YtibbjjlapglndaaGreat
variable {P : Program} {ops : Array Oper} {Q : Exit → Act → World → Prop}
theorem yielded_of {j d : Nat} {o : Oper} {t : Array Value} {b : Bool} (ho : ops[j]? = some o) (hd : o.dst = some d) (ht : t.getD d undef = .bool b) : yielded ops t j = some b := by
 have h : t[d]? = some (.bool b) := by
   rcases Nat.lt_or_ge d t.size with h | h
   · simpa [Array.getD, h] using ht
   · simp [Array.getD, Nat.not_lt.2 h, undef] at ht
 unfold yielded
 rw [ho]
 simp only [Option.bind_some, hd]
 rw [h]
end Go.Proofs.YtibbjjlapglndaaGreat
