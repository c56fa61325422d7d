/- Part 11 of the walks that the proof leans on. -/
import Derived.Test.YtgbogbmbghpadaaPart5
import Derived.Test.YtgbogbmbghpadaaPart10
import Derived.Test.YtgbogbmbghpadaaPart9
import Derived.Test.YtgbogbmbghpadaaPart2
import Derived.Test.YtgbogbmbghpadaaPart4
import Derived.Test.YtgbogbmbghpadaaPart3
import Derived.Deep.RegionHeld3
import Derived.Test.YtgbogbmbghpadaaPart8
/- The law on quotients and rests of drawn numbers: the walk. -/
namespace Go.Proofs.Ytgbogbmbghpadaa
open Go.RowKit
theorem divV_zero {x y : Int} (h : y = 0) : divV x y = .tuple #[.agg #[.int .u64 0, .int .u64 0, .int .u64 0, .int .u64 0], .agg #[.int .u64 0, .int .u64 0, .int .u64 0, .int .u64 0], .bool false] := by
  unfold divV
  rw [if_pos h, W40]
theorem divV_far {x y : Int} (h : y ≠ 0) (ht : told (x / y) = false) : divV x y = .tuple #[.agg #[.int .u64 0, .int .u64 0, .int .u64 0, .int .u64 0], .agg #[.int .u64 0, .int .u64 0, .int .u64 0, .int .u64 0], .bool false] := by
  unfold divV
  rw [if_neg h, ht, if_neg (by decide), W40]
theorem told_iff {z : Int} : told z = true ↔ -57896044618658097711785492504343953926634992332820282019728792003956564819968 ≤ z ∧ z < 57896044618658097711785492504343953926634992332820282019728792003956564819968 := by
  unfold told
  exact decide_eq_true_iff
theorem told_no {z : Int} (h : told z = false) : ¬(-57896044618658097711785492504343953926634992332820282019728792003956564819968 ≤ z ∧ z < 57896044618658097711785492504343953926634992332820282019728792003956564819968) := by
  intro h'
  rw [told_iff.2 h'] at h
  cases h
/-- A quotient is not told just of the least number by -1. -/
theorem div_far {x y : Int} (hx : told x = true) (_hy : told y = true) (h : y ≠ 0) (ht : told (x / y) = false) : x = -57896044618658097711785492504343953926634992332820282019728792003956564819968 ∧ y = -1 := by
  rw [told_iff] at hx
  have hn := told_no ht
  have e := Int.mul_ediv_add_emod x y
  have e0 := Int.emod_nonneg x h
  have e1 := Int.emod_lt x h
  generalize x / y = q at *
  generalize x % y = r at *
  by_cases y1 : y = 1
  · subst y1; omega
  by_cases y2 : y = -1
  · subst y2; omega
  exfalso
  apply hn
  by_cases hp : 0 < y
  · have hy2 : 2 ≤ y := by omega
    constructor
    · by_cases hq : q < 0
      · have : (y - 2) * (-q) ≥ 0 := Int.mul_nonneg (by omega) (by omega)
        have e2 : (y - 2) * (-q) = 2 * q - y * q := by grind
        have : (y - 2) * (-q - 1) ≥ 0 := Int.mul_nonneg (by omega) (by omega)
        have e3 : (y - 2) * (-q - 1) = 2 * q - y * q - y + 2 := by grind
        omega
      · omega
    · by_cases hq : 0 < q
      · have : (y - 2) * q ≥ 0 := Int.mul_nonneg (by omega) (by omega)
        have e2 : (y - 2) * q = y * q - 2 * q := by grind
        omega
      · omega
  · have hy2 : y ≤ -2 := by omega
    constructor
    · by_cases hq : q < 0
      · have : (-y - 2) * (-q) ≥ 0 := Int.mul_nonneg (by omega) (by omega)
        have e2 : (-y - 2) * (-q) = y * q + 2 * q := by grind
        omega
      · omega
    · by_cases hq : 0 < q
      · have : (-y - 2) * q ≥ 0 := Int.mul_nonneg (by omega) (by omega)
        have e2 : (-y - 2) * q = -(y * q) - 2 * q := by grind
        have : (-y - 2) * (q - 1) ≥ 0 := Int.mul_nonneg (by omega) (by omega)
        have e3 : (-y - 2) * (q - 1) = -(y * q) - 2 * q + y + 2 := by grind
        omega
      · omega
theorem bits_far {b : Nat} (h : BitsOf (((-57896044618658097711785492504343953926634992332820282019728792003956564819968 : Int).natAbs : Nat) : Int) b) : b = 256 := by
  refine bits_unique h ⟨by decide, by decide, .inr (by decide)⟩
theorem words_ex4 {z : Int} (h : told z = true) : ∃ a3 a2 a1 a0 : Int, W4 z = .agg #[.int .u64 a3, .int .u64 a2, .int .u64 a1, .int .u64 a0] ∧ (Word a3 ∧ Word a2 ∧ Word a1 ∧ Word a0) ∧ sw a3 a2 a1 a0 = z := by
  rw [told_iff] at h
  refine ⟨ww3 z, ww2 z, ww1 z, ww0 z, rfl, ?_, ?_⟩
  · unfold Word ww3 ww2 ww1 ww0
    omega
  · unfold sw uw ww3 ww2 ww1 ww0
    split <;> omega
theorem divV_told {x y : Int} (_hx : told x = true) (hy' : told y = true) (h : y ≠ 0) (ht : told (x / y) = true) : ∃ c3 c2 c1 c0 d3 d2 d1 d0 : Int, divV x y = .tuple #[.agg #[.int .u64 c3, .int .u64 c2, .int .u64 c1, .int .u64 c0], .agg #[.int .u64 d3, .int .u64 d2, .int .u64 d1, .int .u64 d0], .bool true] ∧ (Word c3 ∧ Word c2 ∧ Word c1 ∧ Word c0) ∧ (Word d3 ∧ Word d2 ∧ Word d1 ∧ Word d0) ∧ sw c3 c2 c1 c0 = x / y ∧ sw d3 d2 d1 d0 = x % y := by
  have hr : told (x % y) = true := by
    rw [told_iff] at hy' ⊢
    have e0 := Int.emod_nonneg x h
    have e1 := Int.emod_lt x h
    omega
  obtain ⟨c3, c2, c1, c0, e, hc, ec⟩ := words_ex4 ht
  obtain ⟨d3, d2, d1, d0, e', hd, ed⟩ := words_ex4 hr
  refine ⟨c3, c2, c1, c0, d3, d2, d1, d0, ?_, hc, hd, ec, ed⟩
  unfold divV
  rw [if_neg h, ht, if_pos rfl, e, e']
theorem told_neg {x y : Int} (hx : 0 ≤ x) (hn : y < 0) (hy : told y = true) (hlt : x < -y := by omega) : told (x + y) = true := by
  rw [told_iff] at *
  omega
theorem tell_in {z : Int} {w w' : World} {a3 a2 a1 a0 : Int} {b : Bool} (h : TellP z w (.returned (.tuple #[.agg #[.int .u64 a3, .int .u64 a2, .int .u64 a1, .int .u64 a0], .bool b])) w') (ht : told z = true) : true = b ∧ sw a3 a2 a1 a0 = z := by
  cases b
  · have := (tell_no h).1
    rw [ht] at this
    cases this
  · exact ⟨rfl, (tell_yes h).2⟩
set_option maxRecDepth 100000 in
set_option maxHeartbeats 8000000 in
theorem lawParted_any (ao : Option Addr) (n cap : Nat) (cs : List Int) (w : World) (h : n ≤ 1048576 → Code w ao n cs) :
    Calls Try.prog 4 #[.slice ao n cap] w (BoolP true w) := by
  by_cases hn : 1048576 < n
  · go_enter Try.func4, Try.ntmps4
    go_wp2_with fail
    refine (big_any ao n cap _ true (by simpa using hn)).mono ?_
    rintro e w0 ⟨rfl, hB⟩
    go_wp2
    go_ret
    exact ⟨rfl, hB⟩
  · replace h := h (by omega)
    go_enter Try.func4, Try.ntmps4
    go_wp2_with fail
    refine (big_any ao n cap _ false (by simpa using hn)).mono ?_
    rintro e w0 ⟨rfl, hB⟩
    replace h := h.below hB
    have HB0 : Below w.heap.size w w0 := hB
    clear hB hn
    go_wp2_with fail
    refine (drawDiv_any ao n cap cs _ h).mono ?_
    rintro e w1 ⟨a3, a2, a1, a0, b3, b2, b1, b0, rfl, ha, hb, hB⟩
    have HB1 : Below w.heap.size w w1 := HB0.trans (hB.mono HB0.size)
    clear hB HB0
    have A := Blk.new w1 [.int .u64 a3, .int .u64 a2, .int .u64 a1, .int .u64 a0] 26 rfl
    replace HB1 := HB1.alloc HB1.size (.cells #[.int .u64 a3, .int .u64 a2, .int .u64 a1, .int .u64 a0] 26)
    have B := Blk.new (w1.alloc (.cells #[.int .u64 a3, .int .u64 a2, .int .u64 a1, .int .u64 a0] 26)) [.int .u64 b3, .int .u64 b2, .int .u64 b1, .int .u64 b0] 26 (g := w1.heap.size + 1) (by simp)
    replace A := A.alloc (.cells #[.int .u64 b3, .int .u64 b2, .int .u64 b1, .int .u64 b0] 26)
    replace HB1 := HB1.alloc HB1.size (.cells #[.int .u64 b3, .int .u64 b2, .int .u64 b1, .int .u64 b0] 26)
    clear h
    by_cases hy : sw b3 b2 b1 b0 = 0
    · skip
      have hD : divV (sw a3 a2 a1 a0) (sw b3 b2 b1 b0) = .tuple #[.agg #[.int .u64 0, .int .u64 0, .int .u64 0, .int .u64 0], .agg #[.int .u64 0, .int .u64 0, .int .u64 0, .int .u64 0], .bool false] := divV_zero hy
      have ID := implDiv_any a3 a2 a1 a0 b3 b2 b1 b0 ha.1 ha.2.1 ha.2.2.1 ha.2.2.2 hb.1 hb.2.1 hb.2.2.1 hb.2.2.2
      have SD := specDiv_any a3 a2 a1 a0 b3 b2 b1 b0 ha.1 ha.2.1 ha.2.2.1 ha.2.2.2 hb.1 hb.2.1 hb.2.2.1 hb.2.2.2
      rw [hD] at ID SD
      go_wp2_with fail
      refine (ID _).mono ?_
      rintro e w2 ⟨rfl, hB⟩
      replace A := A.step hB
      replace B := B.step hB
      have HB2 : Below w.heap.size w w2 := HB1.trans (hB.mono HB1.size)
      clear hB HB1
      have Ac0 := A.c 0 rfl; have Ac1 := A.c 1 rfl; have Ac2 := A.c 2 rfl; have Ac3 := A.c 3 rfl; have Al := A.lt
      have Bc0 := B.c 0 rfl; have Bc1 := B.c 1 rfl; have Bc2 := B.c 2 rfl; have Bc3 := B.c 3 rfl; have Bl := B.lt
      have Q := Blk.new w2 [.int .u64 0, .int .u64 0, .int .u64 0, .int .u64 0] 26 rfl
      replace A := A.alloc (.cells #[.int .u64 0, .int .u64 0, .int .u64 0, .int .u64 0] 26)
      replace B := B.alloc (.cells #[.int .u64 0, .int .u64 0, .int .u64 0, .int .u64 0] 26)
      replace HB2 := HB2.alloc HB2.size (.cells #[.int .u64 0, .int .u64 0, .int .u64 0, .int .u64 0] 26)
      have R := Blk.new (w2.alloc (.cells #[.int .u64 0, .int .u64 0, .int .u64 0, .int .u64 0] 26)) [.int .u64 0, .int .u64 0, .int .u64 0, .int .u64 0] 26 (g := w2.heap.size + 1) (by simp)
      replace A := A.alloc (.cells #[.int .u64 0, .int .u64 0, .int .u64 0, .int .u64 0] 26)
      replace B := B.alloc (.cells #[.int .u64 0, .int .u64 0, .int .u64 0, .int .u64 0] 26)
      replace Q := Q.alloc (.cells #[.int .u64 0, .int .u64 0, .int .u64 0, .int .u64 0] 26)
      replace HB2 := HB2.alloc HB2.size (.cells #[.int .u64 0, .int .u64 0, .int .u64 0, .int .u64 0] 26)
      go_wp2_with fail
      refine (SD _).mono ?_
      rintro e w3 ⟨rfl, hB⟩
      replace A := A.step hB
      replace B := B.step hB
      replace Q := Q.step hB
      replace R := R.step hB
      have HB3 : Below w.heap.size w w3 := HB2.trans (hB.mono HB2.size)
      clear Ac0 Ac1 Ac2 Ac3 Al Bc0 Bc1 Bc2 Bc3 Bl
      clear hB HB2
      have Ac0 := A.c 0 rfl; have Ac1 := A.c 1 rfl; have Ac2 := A.c 2 rfl; have Ac3 := A.c 3 rfl; have Al := A.lt
      have Bc0 := B.c 0 rfl; have Bc1 := B.c 1 rfl; have Bc2 := B.c 2 rfl; have Bc3 := B.c 3 rfl; have Bl := B.lt
      have Qc0 := Q.c 0 rfl; have Qc1 := Q.c 1 rfl; have Qc2 := Q.c 2 rfl; have Qc3 := Q.c 3 rfl; have Ql := Q.lt
      have Rc0 := R.c 0 rfl; have Rc1 := R.c 1 rfl; have Rc2 := R.c 2 rfl; have Rc3 := R.c 3 rfl; have Rl := R.lt
      have U := Blk.new w3 [.int .u64 0, .int .u64 0, .int .u64 0, .int .u64 0] 26 rfl
      replace A := A.alloc (.cells #[.int .u64 0, .int .u64 0, .int .u64 0, .int .u64 0] 26)
      replace B := B.alloc (.cells #[.int .u64 0, .int .u64 0, .int .u64 0, .int .u64 0] 26)
      replace Q := Q.alloc (.cells #[.int .u64 0, .int .u64 0, .int .u64 0, .int .u64 0] 26)
      replace R := R.alloc (.cells #[.int .u64 0, .int .u64 0, .int .u64 0, .int .u64 0] 26)
      replace HB3 := HB3.alloc HB3.size (.cells #[.int .u64 0, .int .u64 0, .int .u64 0, .int .u64 0] 26)
      have V := Blk.new (w3.alloc (.cells #[.int .u64 0, .int .u64 0, .int .u64 0, .int .u64 0] 26)) [.int .u64 0, .int .u64 0, .int .u64 0, .int .u64 0] 26 (g := w3.heap.size + 1) (by simp)
      replace A := A.alloc (.cells #[.int .u64 0, .int .u64 0, .int .u64 0, .int .u64 0] 26)
      replace B := B.alloc (.cells #[.int .u64 0, .int .u64 0, .int .u64 0, .int .u64 0] 26)
      replace Q := Q.alloc (.cells #[.int .u64 0, .int .u64 0, .int .u64 0, .int .u64 0] 26)
      replace R := R.alloc (.cells #[.int .u64 0, .int .u64 0, .int .u64 0, .int .u64 0] 26)
      replace U := U.alloc (.cells #[.int .u64 0, .int .u64 0, .int .u64 0, .int .u64 0] 26)
      replace HB3 := HB3.alloc HB3.size (.cells #[.int .u64 0, .int .u64 0, .int .u64 0, .int .u64 0] 26)
      clear ID SD
      go_wp2_with fail
      refine (implSign_any b3 b2 b1 b0 hb.1 hb.2.1 hb.2.2.1 hb.2.2.2 _).mono ?_
      rintro e w4 ⟨rfl, hB⟩
      rw [cmpI_eq hy]
      replace A := A.step hB
      replace B := B.step hB
      replace Q := Q.step hB
      replace R := R.step hB
      replace U := U.step hB
      replace V := V.step hB
      have HB4 : Below w.heap.size w w4 := HB3.trans (hB.mono HB3.size)
      clear Ac0 Ac1 Ac2 Ac3 Al Bc0 Bc1 Bc2 Bc3 Bl Qc0 Qc1 Qc2 Qc3 Ql Rc0 Rc1 Rc2 Rc3 Rl
      clear hB HB3
      clear Q
      clear R
      clear U
      clear V
      have Ac0 := A.c 0 rfl; have Ac1 := A.c 1 rfl; have Ac2 := A.c 2 rfl; have Ac3 := A.c 3 rfl; have Al := A.lt
      have Bc0 := B.c 0 rfl; have Bc1 := B.c 1 rfl; have Bc2 := B.c 2 rfl; have Bc3 := B.c 3 rfl; have Bl := B.lt
      go_wp2
      all_goals go_ret
      all_goals exact ⟨rfl, HB4⟩
    by_cases ht : told ((sw a3 a2 a1 a0) / (sw b3 b2 b1 b0)) = false
    · skip
      have hD : divV (sw a3 a2 a1 a0) (sw b3 b2 b1 b0) = .tuple #[.agg #[.int .u64 0, .int .u64 0, .int .u64 0, .int .u64 0], .agg #[.int .u64 0, .int .u64 0, .int .u64 0, .int .u64 0], .bool false] := divV_far hy ht
      obtain ⟨ex, ey⟩ := div_far (told_sw ha) (told_sw hb) hy ht
      have ID := implDiv_any a3 a2 a1 a0 b3 b2 b1 b0 ha.1 ha.2.1 ha.2.2.1 ha.2.2.2 hb.1 hb.2.1 hb.2.2.1 hb.2.2.2
      have SD := specDiv_any a3 a2 a1 a0 b3 b2 b1 b0 ha.1 ha.2.1 ha.2.2.1 ha.2.2.2 hb.1 hb.2.1 hb.2.2.1 hb.2.2.2
      rw [hD] at ID SD
      go_wp2_with fail
      refine (ID _).mono ?_
      rintro e w2 ⟨rfl, hB⟩
      replace A := A.step hB
      replace B := B.step hB
      have HB2 : Below w.heap.size w w2 := HB1.trans (hB.mono HB1.size)
      clear hB HB1
      have Ac0 := A.c 0 rfl; have Ac1 := A.c 1 rfl; have Ac2 := A.c 2 rfl; have Ac3 := A.c 3 rfl; have Al := A.lt
      have Bc0 := B.c 0 rfl; have Bc1 := B.c 1 rfl; have Bc2 := B.c 2 rfl; have Bc3 := B.c 3 rfl; have Bl := B.lt
      have Q := Blk.new w2 [.int .u64 0, .int .u64 0, .int .u64 0, .int .u64 0] 26 rfl
      replace A := A.alloc (.cells #[.int .u64 0, .int .u64 0, .int .u64 0, .int .u64 0] 26)
      replace B := B.alloc (.cells #[.int .u64 0, .int .u64 0, .int .u64 0, .int .u64 0] 26)
      replace HB2 := HB2.alloc HB2.size (.cells #[.int .u64 0, .int .u64 0, .int .u64 0, .int .u64 0] 26)
      have R := Blk.new (w2.alloc (.cells #[.int .u64 0, .int .u64 0, .int .u64 0, .int .u64 0] 26)) [.int .u64 0, .int .u64 0, .int .u64 0, .int .u64 0] 26 (g := w2.heap.size + 1) (by simp)
      replace A := A.alloc (.cells #[.int .u64 0, .int .u64 0, .int .u64 0, .int .u64 0] 26)
      replace B := B.alloc (.cells #[.int .u64 0, .int .u64 0, .int .u64 0, .int .u64 0] 26)
      replace Q := Q.alloc (.cells #[.int .u64 0, .int .u64 0, .int .u64 0, .int .u64 0] 26)
      replace HB2 := HB2.alloc HB2.size (.cells #[.int .u64 0, .int .u64 0, .int .u64 0, .int .u64 0] 26)
      go_wp2_with fail
      refine (SD _).mono ?_
      rintro e w3 ⟨rfl, hB⟩
      replace A := A.step hB
      replace B := B.step hB
      replace Q := Q.step hB
      replace R := R.step hB
      have HB3 : Below w.heap.size w w3 := HB2.trans (hB.mono HB2.size)
      clear Ac0 Ac1 Ac2 Ac3 Al Bc0 Bc1 Bc2 Bc3 Bl
      clear hB HB2
      have Ac0 := A.c 0 rfl; have Ac1 := A.c 1 rfl; have Ac2 := A.c 2 rfl; have Ac3 := A.c 3 rfl; have Al := A.lt
      have Bc0 := B.c 0 rfl; have Bc1 := B.c 1 rfl; have Bc2 := B.c 2 rfl; have Bc3 := B.c 3 rfl; have Bl := B.lt
      have Qc0 := Q.c 0 rfl; have Qc1 := Q.c 1 rfl; have Qc2 := Q.c 2 rfl; have Qc3 := Q.c 3 rfl; have Ql := Q.lt
      have Rc0 := R.c 0 rfl; have Rc1 := R.c 1 rfl; have Rc2 := R.c 2 rfl; have Rc3 := R.c 3 rfl; have Rl := R.lt
      have U := Blk.new w3 [.int .u64 0, .int .u64 0, .int .u64 0, .int .u64 0] 26 rfl
      replace A := A.alloc (.cells #[.int .u64 0, .int .u64 0, .int .u64 0, .int .u64 0] 26)
      replace B := B.alloc (.cells #[.int .u64 0, .int .u64 0, .int .u64 0, .int .u64 0] 26)
      replace Q := Q.alloc (.cells #[.int .u64 0, .int .u64 0, .int .u64 0, .int .u64 0] 26)
      replace R := R.alloc (.cells #[.int .u64 0, .int .u64 0, .int .u64 0, .int .u64 0] 26)
      replace HB3 := HB3.alloc HB3.size (.cells #[.int .u64 0, .int .u64 0, .int .u64 0, .int .u64 0] 26)
      have V := Blk.new (w3.alloc (.cells #[.int .u64 0, .int .u64 0, .int .u64 0, .int .u64 0] 26)) [.int .u64 0, .int .u64 0, .int .u64 0, .int .u64 0] 26 (g := w3.heap.size + 1) (by simp)
      replace A := A.alloc (.cells #[.int .u64 0, .int .u64 0, .int .u64 0, .int .u64 0] 26)
      replace B := B.alloc (.cells #[.int .u64 0, .int .u64 0, .int .u64 0, .int .u64 0] 26)
      replace Q := Q.alloc (.cells #[.int .u64 0, .int .u64 0, .int .u64 0, .int .u64 0] 26)
      replace R := R.alloc (.cells #[.int .u64 0, .int .u64 0, .int .u64 0, .int .u64 0] 26)
      replace U := U.alloc (.cells #[.int .u64 0, .int .u64 0, .int .u64 0, .int .u64 0] 26)
      replace HB3 := HB3.alloc HB3.size (.cells #[.int .u64 0, .int .u64 0, .int .u64 0, .int .u64 0] 26)
      clear ID SD
      go_wp2_with fail
      refine (implSign_any b3 b2 b1 b0 hb.1 hb.2.1 hb.2.2.1 hb.2.2.2 _).mono ?_
      rintro e w4 ⟨rfl, hB⟩
      rw [ey, cmpI_lt (by decide)]
      replace A := A.step hB
      replace B := B.step hB
      replace Q := Q.step hB
      replace R := R.step hB
      replace U := U.step hB
      replace V := V.step hB
      have HB4 : Below w.heap.size w w4 := HB3.trans (hB.mono HB3.size)
      clear Ac0 Ac1 Ac2 Ac3 Al Bc0 Bc1 Bc2 Bc3 Bl Qc0 Qc1 Qc2 Qc3 Ql Rc0 Rc1 Rc2 Rc3 Rl
      clear hB HB3
      clear Q
      clear R
      clear U
      clear V
      have Ac0 := A.c 0 rfl; have Ac1 := A.c 1 rfl; have Ac2 := A.c 2 rfl; have Ac3 := A.c 3 rfl; have Al := A.lt
      have Bc0 := B.c 0 rfl; have Bc1 := B.c 1 rfl; have Bc2 := B.c 2 rfl; have Bc3 := B.c 3 rfl; have Bl := B.lt
      go_wp2_with fail
      refine (implBits_any a3 a2 a1 a0 ha.1 ha.2.1 ha.2.2.1 ha.2.2.2 _).mono ?_
      rintro e w5 ⟨nb, rfl, hnb, hB⟩
      rw [ex] at hnb
      obtain rfl := bits_far hnb
      replace A := A.step hB
      replace B := B.step hB
      have HB5 : Below w.heap.size w w5 := HB4.trans (hB.mono HB4.size)
      clear Ac0 Ac1 Ac2 Ac3 Al Bc0 Bc1 Bc2 Bc3 Bl
      clear hB HB4
      clear B
      have Ac0 := A.c 0 rfl; have Ac1 := A.c 1 rfl; have Ac2 := A.c 2 rfl; have Ac3 := A.c 3 rfl; have Al := A.lt
      go_wp2
      all_goals go_ret
      all_goals exact ⟨rfl, HB5⟩
    · replace ht := (Bool.eq_false_or_eq_true _).resolve_right ht
      obtain ⟨c3, c2, c1, c0, d3, d2, d1, d0, hD, hc, hd, ec, ed⟩ := divV_told (told_sw ha) (told_sw hb) hy ht
      have hr0 : 0 ≤ sw d3 d2 d1 d0 := by rw [ed]; exact Int.emod_nonneg _ hy
      have hsum : sw c3 c2 c1 c0 * sw b3 b2 b1 b0 + sw d3 d2 d1 d0 = sw a3 a2 a1 a0 := by rw [ec, ed, Int.mul_comm]; exact Int.mul_ediv_add_emod _ _
      have ID := implDiv_any a3 a2 a1 a0 b3 b2 b1 b0 ha.1 ha.2.1 ha.2.2.1 ha.2.2.2 hb.1 hb.2.1 hb.2.2.1 hb.2.2.2
      have SD := specDiv_any a3 a2 a1 a0 b3 b2 b1 b0 ha.1 ha.2.1 ha.2.2.1 ha.2.2.2 hb.1 hb.2.1 hb.2.2.1 hb.2.2.2
      rw [hD] at ID SD
      go_wp2_with fail
      refine (ID _).mono ?_
      rintro e w2 ⟨rfl, hB⟩
      replace A := A.step hB
      replace B := B.step hB
      have HB2 : Below w.heap.size w w2 := HB1.trans (hB.mono HB1.size)
      clear hB HB1
      have Ac0 := A.c 0 rfl; have Ac1 := A.c 1 rfl; have Ac2 := A.c 2 rfl; have Ac3 := A.c 3 rfl; have Al := A.lt
      have Bc0 := B.c 0 rfl; have Bc1 := B.c 1 rfl; have Bc2 := B.c 2 rfl; have Bc3 := B.c 3 rfl; have Bl := B.lt
      have Q := Blk.new w2 [.int .u64 c3, .int .u64 c2, .int .u64 c1, .int .u64 c0] 26 rfl
      replace A := A.alloc (.cells #[.int .u64 c3, .int .u64 c2, .int .u64 c1, .int .u64 c0] 26)
      replace B := B.alloc (.cells #[.int .u64 c3, .int .u64 c2, .int .u64 c1, .int .u64 c0] 26)
      replace HB2 := HB2.alloc HB2.size (.cells #[.int .u64 c3, .int .u64 c2, .int .u64 c1, .int .u64 c0] 26)
      have R := Blk.new (w2.alloc (.cells #[.int .u64 c3, .int .u64 c2, .int .u64 c1, .int .u64 c0] 26)) [.int .u64 d3, .int .u64 d2, .int .u64 d1, .int .u64 d0] 26 (g := w2.heap.size + 1) (by simp)
      replace A := A.alloc (.cells #[.int .u64 d3, .int .u64 d2, .int .u64 d1, .int .u64 d0] 26)
      replace B := B.alloc (.cells #[.int .u64 d3, .int .u64 d2, .int .u64 d1, .int .u64 d0] 26)
      replace Q := Q.alloc (.cells #[.int .u64 d3, .int .u64 d2, .int .u64 d1, .int .u64 d0] 26)
      replace HB2 := HB2.alloc HB2.size (.cells #[.int .u64 d3, .int .u64 d2, .int .u64 d1, .int .u64 d0] 26)
      go_wp2_with fail
      refine (SD _).mono ?_
      rintro e w3 ⟨rfl, hB⟩
      replace A := A.step hB
      replace B := B.step hB
      replace Q := Q.step hB
      replace R := R.step hB
      have HB3 : Below w.heap.size w w3 := HB2.trans (hB.mono HB2.size)
      clear Ac0 Ac1 Ac2 Ac3 Al Bc0 Bc1 Bc2 Bc3 Bl
      clear hB HB2
      have Ac0 := A.c 0 rfl; have Ac1 := A.c 1 rfl; have Ac2 := A.c 2 rfl; have Ac3 := A.c 3 rfl; have Al := A.lt
      have Bc0 := B.c 0 rfl; have Bc1 := B.c 1 rfl; have Bc2 := B.c 2 rfl; have Bc3 := B.c 3 rfl; have Bl := B.lt
      have Qc0 := Q.c 0 rfl; have Qc1 := Q.c 1 rfl; have Qc2 := Q.c 2 rfl; have Qc3 := Q.c 3 rfl; have Ql := Q.lt
      have Rc0 := R.c 0 rfl; have Rc1 := R.c 1 rfl; have Rc2 := R.c 2 rfl; have Rc3 := R.c 3 rfl; have Rl := R.lt
      have U := Blk.new w3 [.int .u64 c3, .int .u64 c2, .int .u64 c1, .int .u64 c0] 26 rfl
      replace A := A.alloc (.cells #[.int .u64 c3, .int .u64 c2, .int .u64 c1, .int .u64 c0] 26)
      replace B := B.alloc (.cells #[.int .u64 c3, .int .u64 c2, .int .u64 c1, .int .u64 c0] 26)
      replace Q := Q.alloc (.cells #[.int .u64 c3, .int .u64 c2, .int .u64 c1, .int .u64 c0] 26)
      replace R := R.alloc (.cells #[.int .u64 c3, .int .u64 c2, .int .u64 c1, .int .u64 c0] 26)
      replace HB3 := HB3.alloc HB3.size (.cells #[.int .u64 c3, .int .u64 c2, .int .u64 c1, .int .u64 c0] 26)
      have V := Blk.new (w3.alloc (.cells #[.int .u64 c3, .int .u64 c2, .int .u64 c1, .int .u64 c0] 26)) [.int .u64 d3, .int .u64 d2, .int .u64 d1, .int .u64 d0] 26 (g := w3.heap.size + 1) (by simp)
      replace A := A.alloc (.cells #[.int .u64 d3, .int .u64 d2, .int .u64 d1, .int .u64 d0] 26)
      replace B := B.alloc (.cells #[.int .u64 d3, .int .u64 d2, .int .u64 d1, .int .u64 d0] 26)
      replace Q := Q.alloc (.cells #[.int .u64 d3, .int .u64 d2, .int .u64 d1, .int .u64 d0] 26)
      replace R := R.alloc (.cells #[.int .u64 d3, .int .u64 d2, .int .u64 d1, .int .u64 d0] 26)
      replace U := U.alloc (.cells #[.int .u64 d3, .int .u64 d2, .int .u64 d1, .int .u64 d0] 26)
      replace HB3 := HB3.alloc HB3.size (.cells #[.int .u64 d3, .int .u64 d2, .int .u64 d1, .int .u64 d0] 26)
      clear ID SD
      have er : cmpI (sw d3 d2 d1 d0) 0 = 0 ∨ cmpI (sw d3 d2 d1 d0) 0 = 1 := by rcases Int.lt_or_eq_of_le hr0 with h1 | h1; exact .inr (cmpI_gt h1); exact .inl (cmpI_eq h1.symm)
      by_cases hp : 0 < sw b3 b2 b1 b0
      · skip
        have hlt : sw d3 d2 d1 d0 < sw b3 b2 b1 b0 := by rw [ed]; exact Int.emod_lt_of_pos _ hp
        go_wp2_with fail
        refine (implCmp_any d3 d2 d1 d0 b3 b2 b1 b0 hd.1 hd.2.1 hd.2.2.1 hd.2.2.2 hb.1 hb.2.1 hb.2.2.1 hb.2.2.2 _).mono ?_
        rintro e w4 ⟨rfl, hB⟩
        rw [cmpI_lt hlt]
        replace A := A.step hB
        replace B := B.step hB
        replace Q := Q.step hB
        replace R := R.step hB
        replace U := U.step hB
        replace V := V.step hB
        have HB4 : Below w.heap.size w w4 := HB3.trans (hB.mono HB3.size)
        clear Ac0 Ac1 Ac2 Ac3 Al Bc0 Bc1 Bc2 Bc3 Bl Qc0 Qc1 Qc2 Qc3 Ql Rc0 Rc1 Rc2 Rc3 Rl
        clear hB HB3
        clear U
        clear V
        have Ac0 := A.c 0 rfl; have Ac1 := A.c 1 rfl; have Ac2 := A.c 2 rfl; have Ac3 := A.c 3 rfl; have Al := A.lt
        have Bc0 := B.c 0 rfl; have Bc1 := B.c 1 rfl; have Bc2 := B.c 2 rfl; have Bc3 := B.c 3 rfl; have Bl := B.lt
        have Qc0 := Q.c 0 rfl; have Qc1 := Q.c 1 rfl; have Qc2 := Q.c 2 rfl; have Qc3 := Q.c 3 rfl; have Ql := Q.lt
        have Rc0 := R.c 0 rfl; have Rc1 := R.c 1 rfl; have Rc2 := R.c 2 rfl; have Rc3 := R.c 3 rfl; have Rl := R.lt
        go_wp2_with fail
        refine (implSign_any b3 b2 b1 b0 hb.1 hb.2.1 hb.2.2.1 hb.2.2.2 _).mono ?_
        rintro e w5 ⟨rfl, hB⟩
        rw [cmpI_gt hp]
        replace A := A.step hB
        replace B := B.step hB
        replace Q := Q.step hB
        replace R := R.step hB
        have HB5 : Below w.heap.size w w5 := HB4.trans (hB.mono HB4.size)
        clear Ac0 Ac1 Ac2 Ac3 Al Bc0 Bc1 Bc2 Bc3 Bl Qc0 Qc1 Qc2 Qc3 Ql Rc0 Rc1 Rc2 Rc3 Rl
        clear hB HB4
        have Ac0 := A.c 0 rfl; have Ac1 := A.c 1 rfl; have Ac2 := A.c 2 rfl; have Ac3 := A.c 3 rfl; have Al := A.lt
        have Bc0 := B.c 0 rfl; have Bc1 := B.c 1 rfl; have Bc2 := B.c 2 rfl; have Bc3 := B.c 3 rfl; have Bl := B.lt
        have Qc0 := Q.c 0 rfl; have Qc1 := Q.c 1 rfl; have Qc2 := Q.c 2 rfl; have Qc3 := Q.c 3 rfl; have Ql := Q.lt
        have Rc0 := R.c 0 rfl; have Rc1 := R.c 1 rfl; have Rc2 := R.c 2 rfl; have Rc3 := R.c 3 rfl; have Rl := R.lt
        go_wp2_with fail
        refine (implMul_any c3 c2 c1 c0 b3 b2 b1 b0 hc.1 hc.2.1 hc.2.2.1 hc.2.2.2 hb.1 hb.2.1 hb.2.2.1 hb.2.2.2 _).mono ?_
        intro e w6 hM
        obtain ⟨p3, p2, p1, p0, m, rfl, hMw, hB⟩ := tell_words4 hM
        replace A := A.step hB
        replace B := B.step hB
        replace Q := Q.step hB
        replace R := R.step hB
        have HB6 : Below w.heap.size w w6 := HB5.trans (hB.mono HB5.size)
        clear Ac0 Ac1 Ac2 Ac3 Al Bc0 Bc1 Bc2 Bc3 Bl Qc0 Qc1 Qc2 Qc3 Ql Rc0 Rc1 Rc2 Rc3 Rl
        clear hB HB5
        have Ac0 := A.c 0 rfl; have Ac1 := A.c 1 rfl; have Ac2 := A.c 2 rfl; have Ac3 := A.c 3 rfl; have Al := A.lt
        have Bc0 := B.c 0 rfl; have Bc1 := B.c 1 rfl; have Bc2 := B.c 2 rfl; have Bc3 := B.c 3 rfl; have Bl := B.lt
        have Qc0 := Q.c 0 rfl; have Qc1 := Q.c 1 rfl; have Qc2 := Q.c 2 rfl; have Qc3 := Q.c 3 rfl; have Ql := Q.lt
        have Rc0 := R.c 0 rfl; have Rc1 := R.c 1 rfl; have Rc2 := R.c 2 rfl; have Rc3 := R.c 3 rfl; have Rl := R.lt
        have P := Blk.new w6 [.int .u64 p3, .int .u64 p2, .int .u64 p1, .int .u64 p0] 26 rfl
        replace A := A.alloc (.cells #[.int .u64 p3, .int .u64 p2, .int .u64 p1, .int .u64 p0] 26)
        replace B := B.alloc (.cells #[.int .u64 p3, .int .u64 p2, .int .u64 p1, .int .u64 p0] 26)
        replace Q := Q.alloc (.cells #[.int .u64 p3, .int .u64 p2, .int .u64 p1, .int .u64 p0] 26)
        replace R := R.alloc (.cells #[.int .u64 p3, .int .u64 p2, .int .u64 p1, .int .u64 p0] 26)
        replace HB6 := HB6.alloc HB6.size (.cells #[.int .u64 p3, .int .u64 p2, .int .u64 p1, .int .u64 p0] 26)
        cases m
        · skip
          rcases er with er | er
          · skip
            go_wp2_with fail
            refine (implSign_any d3 d2 d1 d0 hd.1 hd.2.1 hd.2.2.1 hd.2.2.2 _).mono ?_
            rintro e w7 ⟨rfl, hB⟩
            rw [er]
            replace A := A.step hB
            replace B := B.step hB
            replace Q := Q.step hB
            replace R := R.step hB
            replace P := P.step hB
            have HB7 : Below w.heap.size w w7 := HB6.trans (hB.mono HB6.size)
            clear Ac0 Ac1 Ac2 Ac3 Al Bc0 Bc1 Bc2 Bc3 Bl Qc0 Qc1 Qc2 Qc3 Ql Rc0 Rc1 Rc2 Rc3 Rl
            clear hB HB6
            clear B
            clear Q
            clear R
            clear P
            have Ac0 := A.c 0 rfl; have Ac1 := A.c 1 rfl; have Ac2 := A.c 2 rfl; have Ac3 := A.c 3 rfl; have Al := A.lt
            go_wp2
            all_goals go_ret
            all_goals exact ⟨rfl, HB7⟩
          · skip
            go_wp2_with fail
            refine (implSign_any d3 d2 d1 d0 hd.1 hd.2.1 hd.2.2.1 hd.2.2.2 _).mono ?_
            rintro e w7 ⟨rfl, hB⟩
            rw [er]
            replace A := A.step hB
            replace B := B.step hB
            replace Q := Q.step hB
            replace R := R.step hB
            replace P := P.step hB
            have HB7 : Below w.heap.size w w7 := HB6.trans (hB.mono HB6.size)
            clear Ac0 Ac1 Ac2 Ac3 Al Bc0 Bc1 Bc2 Bc3 Bl Qc0 Qc1 Qc2 Qc3 Ql Rc0 Rc1 Rc2 Rc3 Rl
            clear hB HB6
            clear B
            clear Q
            clear R
            clear P
            have Ac0 := A.c 0 rfl; have Ac1 := A.c 1 rfl; have Ac2 := A.c 2 rfl; have Ac3 := A.c 3 rfl; have Al := A.lt
            go_wp2
            all_goals go_ret
            all_goals exact ⟨rfl, HB7⟩
        · skip
          have eP := (tell_yes hM).2
          rcases er with er | er
          · skip
            go_wp2_with fail
            refine (implSign_any d3 d2 d1 d0 hd.1 hd.2.1 hd.2.2.1 hd.2.2.2 _).mono ?_
            rintro e w7 ⟨rfl, hB⟩
            rw [er]
            replace A := A.step hB
            replace B := B.step hB
            replace Q := Q.step hB
            replace R := R.step hB
            replace P := P.step hB
            have HB7 : Below w.heap.size w w7 := HB6.trans (hB.mono HB6.size)
            clear Ac0 Ac1 Ac2 Ac3 Al Bc0 Bc1 Bc2 Bc3 Bl Qc0 Qc1 Qc2 Qc3 Ql Rc0 Rc1 Rc2 Rc3 Rl
            clear hB HB6
            clear B
            clear Q
            have Ac0 := A.c 0 rfl; have Ac1 := A.c 1 rfl; have Ac2 := A.c 2 rfl; have Ac3 := A.c 3 rfl; have Al := A.lt
            have Rc0 := R.c 0 rfl; have Rc1 := R.c 1 rfl; have Rc2 := R.c 2 rfl; have Rc3 := R.c 3 rfl; have Rl := R.lt
            have Pc0 := P.c 0 rfl; have Pc1 := P.c 1 rfl; have Pc2 := P.c 2 rfl; have Pc3 := P.c 3 rfl; have Pl := P.lt
            go_wp2_with fail
            refine (implAdd_any p3 p2 p1 p0 d3 d2 d1 d0 hMw.1 hMw.2.1 hMw.2.2.1 hMw.2.2.2 hd.1 hd.2.1 hd.2.2.1 hd.2.2.2 _).mono ?_
            intro e w8 hV
            obtain ⟨v3, v2, v1, v0, gd, rfl, hVw, hB⟩ := tell_words4 hV
            obtain ⟨rfl, rfl, rfl, rfl, rfl⟩ := tell_back hV ha (by rw [eP, hsum])
            clear hV hVw
            replace A := A.step hB
            replace R := R.step hB
            replace P := P.step hB
            have HB8 : Below w.heap.size w w8 := HB7.trans (hB.mono HB7.size)
            clear Ac0 Ac1 Ac2 Ac3 Al Rc0 Rc1 Rc2 Rc3 Rl Pc0 Pc1 Pc2 Pc3 Pl
            clear hB HB7
            clear R
            clear P
            have Ac0 := A.c 0 rfl; have Ac1 := A.c 1 rfl; have Ac2 := A.c 2 rfl; have Ac3 := A.c 3 rfl; have Al := A.lt
            have V2 := Blk.new w8 [.int .u64 a3, .int .u64 a2, .int .u64 a1, .int .u64 a0] 26 rfl
            replace A := A.alloc (.cells #[.int .u64 a3, .int .u64 a2, .int .u64 a1, .int .u64 a0] 26)
            replace HB8 := HB8.alloc HB8.size (.cells #[.int .u64 a3, .int .u64 a2, .int .u64 a1, .int .u64 a0] 26)
            have haa : (a3 == a3) = true := by simp
            go_wp2
            all_goals go_ret
            all_goals exact ⟨rfl, HB8⟩
          · skip
            go_wp2_with fail
            refine (implSign_any d3 d2 d1 d0 hd.1 hd.2.1 hd.2.2.1 hd.2.2.2 _).mono ?_
            rintro e w7 ⟨rfl, hB⟩
            rw [er]
            replace A := A.step hB
            replace B := B.step hB
            replace Q := Q.step hB
            replace R := R.step hB
            replace P := P.step hB
            have HB7 : Below w.heap.size w w7 := HB6.trans (hB.mono HB6.size)
            clear Ac0 Ac1 Ac2 Ac3 Al Bc0 Bc1 Bc2 Bc3 Bl Qc0 Qc1 Qc2 Qc3 Ql Rc0 Rc1 Rc2 Rc3 Rl
            clear hB HB6
            clear B
            clear Q
            have Ac0 := A.c 0 rfl; have Ac1 := A.c 1 rfl; have Ac2 := A.c 2 rfl; have Ac3 := A.c 3 rfl; have Al := A.lt
            have Rc0 := R.c 0 rfl; have Rc1 := R.c 1 rfl; have Rc2 := R.c 2 rfl; have Rc3 := R.c 3 rfl; have Rl := R.lt
            have Pc0 := P.c 0 rfl; have Pc1 := P.c 1 rfl; have Pc2 := P.c 2 rfl; have Pc3 := P.c 3 rfl; have Pl := P.lt
            go_wp2_with fail
            refine (implAdd_any p3 p2 p1 p0 d3 d2 d1 d0 hMw.1 hMw.2.1 hMw.2.2.1 hMw.2.2.2 hd.1 hd.2.1 hd.2.2.1 hd.2.2.2 _).mono ?_
            intro e w8 hV
            obtain ⟨v3, v2, v1, v0, gd, rfl, hVw, hB⟩ := tell_words4 hV
            obtain ⟨rfl, rfl, rfl, rfl, rfl⟩ := tell_back hV ha (by rw [eP, hsum])
            clear hV hVw
            replace A := A.step hB
            replace R := R.step hB
            replace P := P.step hB
            have HB8 : Below w.heap.size w w8 := HB7.trans (hB.mono HB7.size)
            clear Ac0 Ac1 Ac2 Ac3 Al Rc0 Rc1 Rc2 Rc3 Rl Pc0 Pc1 Pc2 Pc3 Pl
            clear hB HB7
            clear R
            clear P
            have Ac0 := A.c 0 rfl; have Ac1 := A.c 1 rfl; have Ac2 := A.c 2 rfl; have Ac3 := A.c 3 rfl; have Al := A.lt
            have V2 := Blk.new w8 [.int .u64 a3, .int .u64 a2, .int .u64 a1, .int .u64 a0] 26 rfl
            replace A := A.alloc (.cells #[.int .u64 a3, .int .u64 a2, .int .u64 a1, .int .u64 a0] 26)
            replace HB8 := HB8.alloc HB8.size (.cells #[.int .u64 a3, .int .u64 a2, .int .u64 a1, .int .u64 a0] 26)
            have haa : (a3 == a3) = true := by simp
            go_wp2
            all_goals go_ret
            all_goals exact ⟨rfl, HB8⟩
      · skip
        have hn : sw b3 b2 b1 b0 < 0 := by omega
        have hlt : sw d3 d2 d1 d0 < -(sw b3 b2 b1 b0) := by rw [ed]; have := Int.emod_lt (sw a3 a2 a1 a0) hy; omega
        go_wp2_with fail
        refine (implCmp_any d3 d2 d1 d0 b3 b2 b1 b0 hd.1 hd.2.1 hd.2.2.1 hd.2.2.2 hb.1 hb.2.1 hb.2.2.1 hb.2.2.2 _).mono ?_
        rintro e w4 ⟨rfl, hB⟩
        rw [cmpI_gt (show sw b3 b2 b1 b0 < sw d3 d2 d1 d0 by omega)]
        replace A := A.step hB
        replace B := B.step hB
        replace Q := Q.step hB
        replace R := R.step hB
        replace U := U.step hB
        replace V := V.step hB
        have HB4 : Below w.heap.size w w4 := HB3.trans (hB.mono HB3.size)
        clear Ac0 Ac1 Ac2 Ac3 Al Bc0 Bc1 Bc2 Bc3 Bl Qc0 Qc1 Qc2 Qc3 Ql Rc0 Rc1 Rc2 Rc3 Rl
        clear hB HB3
        clear U
        clear V
        have Ac0 := A.c 0 rfl; have Ac1 := A.c 1 rfl; have Ac2 := A.c 2 rfl; have Ac3 := A.c 3 rfl; have Al := A.lt
        have Bc0 := B.c 0 rfl; have Bc1 := B.c 1 rfl; have Bc2 := B.c 2 rfl; have Bc3 := B.c 3 rfl; have Bl := B.lt
        have Qc0 := Q.c 0 rfl; have Qc1 := Q.c 1 rfl; have Qc2 := Q.c 2 rfl; have Qc3 := Q.c 3 rfl; have Ql := Q.lt
        have Rc0 := R.c 0 rfl; have Rc1 := R.c 1 rfl; have Rc2 := R.c 2 rfl; have Rc3 := R.c 3 rfl; have Rl := R.lt
        go_wp2_with fail
        refine (implSign_any b3 b2 b1 b0 hb.1 hb.2.1 hb.2.2.1 hb.2.2.2 _).mono ?_
        rintro e w5 ⟨rfl, hB⟩
        rw [cmpI_lt hn]
        replace A := A.step hB
        replace B := B.step hB
        replace Q := Q.step hB
        replace R := R.step hB
        have HB5 : Below w.heap.size w w5 := HB4.trans (hB.mono HB4.size)
        clear Ac0 Ac1 Ac2 Ac3 Al Bc0 Bc1 Bc2 Bc3 Bl Qc0 Qc1 Qc2 Qc3 Ql Rc0 Rc1 Rc2 Rc3 Rl
        clear hB HB4
        have Ac0 := A.c 0 rfl; have Ac1 := A.c 1 rfl; have Ac2 := A.c 2 rfl; have Ac3 := A.c 3 rfl; have Al := A.lt
        have Bc0 := B.c 0 rfl; have Bc1 := B.c 1 rfl; have Bc2 := B.c 2 rfl; have Bc3 := B.c 3 rfl; have Bl := B.lt
        have Qc0 := Q.c 0 rfl; have Qc1 := Q.c 1 rfl; have Qc2 := Q.c 2 rfl; have Qc3 := Q.c 3 rfl; have Ql := Q.lt
        have Rc0 := R.c 0 rfl; have Rc1 := R.c 1 rfl; have Rc2 := R.c 2 rfl; have Rc3 := R.c 3 rfl; have Rl := R.lt
        go_wp2_with fail
        refine (implAdd_any d3 d2 d1 d0 b3 b2 b1 b0 hd.1 hd.2.1 hd.2.2.1 hd.2.2.2 hb.1 hb.2.1 hb.2.2.1 hb.2.2.2 _).mono ?_
        intro e w6 hS
        obtain ⟨s3, s2, s1, s0, sf, rfl, hSw, hB⟩ := tell_words4 hS
        obtain ⟨rfl, eS⟩ := tell_in hS (told_neg hr0 hn (told_sw hb))
        clear hS
        replace A := A.step hB
        replace B := B.step hB
        replace Q := Q.step hB
        replace R := R.step hB
        have HB6 : Below w.heap.size w w6 := HB5.trans (hB.mono HB5.size)
        clear Ac0 Ac1 Ac2 Ac3 Al Bc0 Bc1 Bc2 Bc3 Bl Qc0 Qc1 Qc2 Qc3 Ql Rc0 Rc1 Rc2 Rc3 Rl
        clear hB HB5
        have Ac0 := A.c 0 rfl; have Ac1 := A.c 1 rfl; have Ac2 := A.c 2 rfl; have Ac3 := A.c 3 rfl; have Al := A.lt
        have Bc0 := B.c 0 rfl; have Bc1 := B.c 1 rfl; have Bc2 := B.c 2 rfl; have Bc3 := B.c 3 rfl; have Bl := B.lt
        have Qc0 := Q.c 0 rfl; have Qc1 := Q.c 1 rfl; have Qc2 := Q.c 2 rfl; have Qc3 := Q.c 3 rfl; have Ql := Q.lt
        have Rc0 := R.c 0 rfl; have Rc1 := R.c 1 rfl; have Rc2 := R.c 2 rfl; have Rc3 := R.c 3 rfl; have Rl := R.lt
        have S := Blk.new w6 [.int .u64 s3, .int .u64 s2, .int .u64 s1, .int .u64 s0] 26 rfl
        replace A := A.alloc (.cells #[.int .u64 s3, .int .u64 s2, .int .u64 s1, .int .u64 s0] 26)
        replace B := B.alloc (.cells #[.int .u64 s3, .int .u64 s2, .int .u64 s1, .int .u64 s0] 26)
        replace Q := Q.alloc (.cells #[.int .u64 s3, .int .u64 s2, .int .u64 s1, .int .u64 s0] 26)
        replace R := R.alloc (.cells #[.int .u64 s3, .int .u64 s2, .int .u64 s1, .int .u64 s0] 26)
        replace HB6 := HB6.alloc HB6.size (.cells #[.int .u64 s3, .int .u64 s2, .int .u64 s1, .int .u64 s0] 26)
        go_wp2_with fail
        refine (implSign_any s3 s2 s1 s0 hSw.1 hSw.2.1 hSw.2.2.1 hSw.2.2.2 _).mono ?_
        rintro e w7 ⟨rfl, hB⟩
        rw [eS, cmpI_lt (by omega)]
        replace A := A.step hB
        replace B := B.step hB
        replace Q := Q.step hB
        replace R := R.step hB
        replace S := S.step hB
        have HB7 : Below w.heap.size w w7 := HB6.trans (hB.mono HB6.size)
        clear Ac0 Ac1 Ac2 Ac3 Al Bc0 Bc1 Bc2 Bc3 Bl Qc0 Qc1 Qc2 Qc3 Ql Rc0 Rc1 Rc2 Rc3 Rl
        clear hB HB6
        clear S
        have Ac0 := A.c 0 rfl; have Ac1 := A.c 1 rfl; have Ac2 := A.c 2 rfl; have Ac3 := A.c 3 rfl; have Al := A.lt
        have Bc0 := B.c 0 rfl; have Bc1 := B.c 1 rfl; have Bc2 := B.c 2 rfl; have Bc3 := B.c 3 rfl; have Bl := B.lt
        have Qc0 := Q.c 0 rfl; have Qc1 := Q.c 1 rfl; have Qc2 := Q.c 2 rfl; have Qc3 := Q.c 3 rfl; have Ql := Q.lt
        have Rc0 := R.c 0 rfl; have Rc1 := R.c 1 rfl; have Rc2 := R.c 2 rfl; have Rc3 := R.c 3 rfl; have Rl := R.lt
        go_wp2_with fail
        refine (implMul_any c3 c2 c1 c0 b3 b2 b1 b0 hc.1 hc.2.1 hc.2.2.1 hc.2.2.2 hb.1 hb.2.1 hb.2.2.1 hb.2.2.2 _).mono ?_
        intro e w8 hM
        obtain ⟨p3, p2, p1, p0, m, rfl, hMw, hB⟩ := tell_words4 hM
        replace A := A.step hB
        replace B := B.step hB
        replace Q := Q.step hB
        replace R := R.step hB
        have HB8 : Below w.heap.size w w8 := HB7.trans (hB.mono HB7.size)
        clear Ac0 Ac1 Ac2 Ac3 Al Bc0 Bc1 Bc2 Bc3 Bl Qc0 Qc1 Qc2 Qc3 Ql Rc0 Rc1 Rc2 Rc3 Rl
        clear hB HB7
        have Ac0 := A.c 0 rfl; have Ac1 := A.c 1 rfl; have Ac2 := A.c 2 rfl; have Ac3 := A.c 3 rfl; have Al := A.lt
        have Bc0 := B.c 0 rfl; have Bc1 := B.c 1 rfl; have Bc2 := B.c 2 rfl; have Bc3 := B.c 3 rfl; have Bl := B.lt
        have Qc0 := Q.c 0 rfl; have Qc1 := Q.c 1 rfl; have Qc2 := Q.c 2 rfl; have Qc3 := Q.c 3 rfl; have Ql := Q.lt
        have Rc0 := R.c 0 rfl; have Rc1 := R.c 1 rfl; have Rc2 := R.c 2 rfl; have Rc3 := R.c 3 rfl; have Rl := R.lt
        have P := Blk.new w8 [.int .u64 p3, .int .u64 p2, .int .u64 p1, .int .u64 p0] 26 rfl
        replace A := A.alloc (.cells #[.int .u64 p3, .int .u64 p2, .int .u64 p1, .int .u64 p0] 26)
        replace B := B.alloc (.cells #[.int .u64 p3, .int .u64 p2, .int .u64 p1, .int .u64 p0] 26)
        replace Q := Q.alloc (.cells #[.int .u64 p3, .int .u64 p2, .int .u64 p1, .int .u64 p0] 26)
        replace R := R.alloc (.cells #[.int .u64 p3, .int .u64 p2, .int .u64 p1, .int .u64 p0] 26)
        replace HB8 := HB8.alloc HB8.size (.cells #[.int .u64 p3, .int .u64 p2, .int .u64 p1, .int .u64 p0] 26)
        cases m
        · skip
          rcases er with er | er
          · skip
            go_wp2_with fail
            refine (implSign_any d3 d2 d1 d0 hd.1 hd.2.1 hd.2.2.1 hd.2.2.2 _).mono ?_
            rintro e w9 ⟨rfl, hB⟩
            rw [er]
            replace A := A.step hB
            replace B := B.step hB
            replace Q := Q.step hB
            replace R := R.step hB
            replace P := P.step hB
            have HB9 : Below w.heap.size w w9 := HB8.trans (hB.mono HB8.size)
            clear Ac0 Ac1 Ac2 Ac3 Al Bc0 Bc1 Bc2 Bc3 Bl Qc0 Qc1 Qc2 Qc3 Ql Rc0 Rc1 Rc2 Rc3 Rl
            clear hB HB8
            clear B
            clear Q
            clear R
            clear P
            have Ac0 := A.c 0 rfl; have Ac1 := A.c 1 rfl; have Ac2 := A.c 2 rfl; have Ac3 := A.c 3 rfl; have Al := A.lt
            go_wp2
            all_goals go_ret
            all_goals exact ⟨rfl, HB9⟩
          · skip
            go_wp2_with fail
            refine (implSign_any d3 d2 d1 d0 hd.1 hd.2.1 hd.2.2.1 hd.2.2.2 _).mono ?_
            rintro e w9 ⟨rfl, hB⟩
            rw [er]
            replace A := A.step hB
            replace B := B.step hB
            replace Q := Q.step hB
            replace R := R.step hB
            replace P := P.step hB
            have HB9 : Below w.heap.size w w9 := HB8.trans (hB.mono HB8.size)
            clear Ac0 Ac1 Ac2 Ac3 Al Bc0 Bc1 Bc2 Bc3 Bl Qc0 Qc1 Qc2 Qc3 Ql Rc0 Rc1 Rc2 Rc3 Rl
            clear hB HB8
            clear B
            clear Q
            clear R
            clear P
            have Ac0 := A.c 0 rfl; have Ac1 := A.c 1 rfl; have Ac2 := A.c 2 rfl; have Ac3 := A.c 3 rfl; have Al := A.lt
            go_wp2
            all_goals go_ret
            all_goals exact ⟨rfl, HB9⟩
        · skip
          have eP := (tell_yes hM).2
          rcases er with er | er
          · skip
            go_wp2_with fail
            refine (implSign_any d3 d2 d1 d0 hd.1 hd.2.1 hd.2.2.1 hd.2.2.2 _).mono ?_
            rintro e w9 ⟨rfl, hB⟩
            rw [er]
            replace A := A.step hB
            replace B := B.step hB
            replace Q := Q.step hB
            replace R := R.step hB
            replace P := P.step hB
            have HB9 : Below w.heap.size w w9 := HB8.trans (hB.mono HB8.size)
            clear Ac0 Ac1 Ac2 Ac3 Al Bc0 Bc1 Bc2 Bc3 Bl Qc0 Qc1 Qc2 Qc3 Ql Rc0 Rc1 Rc2 Rc3 Rl
            clear hB HB8
            clear B
            clear Q
            have Ac0 := A.c 0 rfl; have Ac1 := A.c 1 rfl; have Ac2 := A.c 2 rfl; have Ac3 := A.c 3 rfl; have Al := A.lt
            have Rc0 := R.c 0 rfl; have Rc1 := R.c 1 rfl; have Rc2 := R.c 2 rfl; have Rc3 := R.c 3 rfl; have Rl := R.lt
            have Pc0 := P.c 0 rfl; have Pc1 := P.c 1 rfl; have Pc2 := P.c 2 rfl; have Pc3 := P.c 3 rfl; have Pl := P.lt
            go_wp2_with fail
            refine (implAdd_any p3 p2 p1 p0 d3 d2 d1 d0 hMw.1 hMw.2.1 hMw.2.2.1 hMw.2.2.2 hd.1 hd.2.1 hd.2.2.1 hd.2.2.2 _).mono ?_
            intro e w10 hV
            obtain ⟨v3, v2, v1, v0, gd, rfl, hVw, hB⟩ := tell_words4 hV
            obtain ⟨rfl, rfl, rfl, rfl, rfl⟩ := tell_back hV ha (by rw [eP, hsum])
            clear hV hVw
            replace A := A.step hB
            replace R := R.step hB
            replace P := P.step hB
            have HB10 : Below w.heap.size w w10 := HB9.trans (hB.mono HB9.size)
            clear Ac0 Ac1 Ac2 Ac3 Al Rc0 Rc1 Rc2 Rc3 Rl Pc0 Pc1 Pc2 Pc3 Pl
            clear hB HB9
            clear R
            clear P
            have Ac0 := A.c 0 rfl; have Ac1 := A.c 1 rfl; have Ac2 := A.c 2 rfl; have Ac3 := A.c 3 rfl; have Al := A.lt
            have V2 := Blk.new w10 [.int .u64 a3, .int .u64 a2, .int .u64 a1, .int .u64 a0] 26 rfl
            replace A := A.alloc (.cells #[.int .u64 a3, .int .u64 a2, .int .u64 a1, .int .u64 a0] 26)
            replace HB10 := HB10.alloc HB10.size (.cells #[.int .u64 a3, .int .u64 a2, .int .u64 a1, .int .u64 a0] 26)
            have haa : (a3 == a3) = true := by simp
            go_wp2
            all_goals go_ret
            all_goals exact ⟨rfl, HB10⟩
          · skip
            go_wp2_with fail
            refine (implSign_any d3 d2 d1 d0 hd.1 hd.2.1 hd.2.2.1 hd.2.2.2 _).mono ?_
            rintro e w9 ⟨rfl, hB⟩
            rw [er]
            replace A := A.step hB
            replace B := B.step hB
            replace Q := Q.step hB
            replace R := R.step hB
            replace P := P.step hB
            have HB9 : Below w.heap.size w w9 := HB8.trans (hB.mono HB8.size)
            clear Ac0 Ac1 Ac2 Ac3 Al Bc0 Bc1 Bc2 Bc3 Bl Qc0 Qc1 Qc2 Qc3 Ql Rc0 Rc1 Rc2 Rc3 Rl
            clear hB HB8
            clear B
            clear Q
            have Ac0 := A.c 0 rfl; have Ac1 := A.c 1 rfl; have Ac2 := A.c 2 rfl; have Ac3 := A.c 3 rfl; have Al := A.lt
            have Rc0 := R.c 0 rfl; have Rc1 := R.c 1 rfl; have Rc2 := R.c 2 rfl; have Rc3 := R.c 3 rfl; have Rl := R.lt
            have Pc0 := P.c 0 rfl; have Pc1 := P.c 1 rfl; have Pc2 := P.c 2 rfl; have Pc3 := P.c 3 rfl; have Pl := P.lt
            go_wp2_with fail
            refine (implAdd_any p3 p2 p1 p0 d3 d2 d1 d0 hMw.1 hMw.2.1 hMw.2.2.1 hMw.2.2.2 hd.1 hd.2.1 hd.2.2.1 hd.2.2.2 _).mono ?_
            intro e w10 hV
            obtain ⟨v3, v2, v1, v0, gd, rfl, hVw, hB⟩ := tell_words4 hV
            obtain ⟨rfl, rfl, rfl, rfl, rfl⟩ := tell_back hV ha (by rw [eP, hsum])
            clear hV hVw
            replace A := A.step hB
            replace R := R.step hB
            replace P := P.step hB
            have HB10 : Below w.heap.size w w10 := HB9.trans (hB.mono HB9.size)
            clear Ac0 Ac1 Ac2 Ac3 Al Rc0 Rc1 Rc2 Rc3 Rl Pc0 Pc1 Pc2 Pc3 Pl
            clear hB HB9
            clear R
            clear P
            have Ac0 := A.c 0 rfl; have Ac1 := A.c 1 rfl; have Ac2 := A.c 2 rfl; have Ac3 := A.c 3 rfl; have Al := A.lt
            have V2 := Blk.new w10 [.int .u64 a3, .int .u64 a2, .int .u64 a1, .int .u64 a0] 26 rfl
            replace A := A.alloc (.cells #[.int .u64 a3, .int .u64 a2, .int .u64 a1, .int .u64 a0] 26)
            replace HB10 := HB10.alloc HB10.size (.cells #[.int .u64 a3, .int .u64 a2, .int .u64 a1, .int .u64 a0] 26)
            have haa : (a3 == a3) = true := by simp
            go_wp2
            all_goals go_ret
            all_goals exact ⟨rfl, HB10⟩
end Go.Proofs.Ytgbogbmbghpadaa

/- The walk of the model's product of four words. -/
namespace Go.Proofs.Ytgbogbmbghpadaa
open Go.RowKit
set_option maxRecDepth 100000 in
set_option maxHeartbeats 2000000 in
theorem specMul_any (a3 a2 a1 a0 b3 b2 b1 b0 : Int) (h3 : Word a3) (h2 : Word a2) (h1 : Word a1) (h0 : Word a0) (k3 : Word b3) (k2 : Word b2) (k1 : Word b1) (k0 : Word b0) (w : World) :
    Calls Try.prog 47 #[.agg #[.int .u64 a3, .int .u64 a2, .int .u64 a1, .int .u64 a0], .agg #[.int .u64 b3, .int .u64 b2, .int .u64 b1, .int .u64 b0]] w (TellP (sw a3 a2 a1 a0 * sw b3 b2 b1 b0) w) := by
  have T0 := ((twoW_start w a3 a2 a1 a0 b3 b2 b1 b0 26).alloc (Obj.cells #[Value.int IntKind.u64 0, Value.int IntKind.u64 0, Value.int IntKind.u64 0, Value.int IntKind.u64 0] 26)).drew
  have R0 : Wd _ (w.heap.size + 1 + 1) 0 0 0 0 := (Wd.new ((w.alloc (Obj.cells #[Value.int IntKind.u64 a3, Value.int IntKind.u64 a2, Value.int IntKind.u64 a1, Value.int IntKind.u64 a0] 26)).alloc (Obj.cells #[Value.int IntKind.u64 b3, Value.int IntKind.u64 b2, Value.int IntKind.u64 b1, Value.int IntKind.u64 b0] 26)) 0 0 0 0 26 (by simp)).drew
  have tok1 : True := trivial
  go_enter Try.func47, Try.ntmps47
  go_wp2
  generalize ((w.alloc (Obj.cells #[Value.int IntKind.u64 a3, Value.int IntKind.u64 a2, Value.int IntKind.u64 a1, Value.int IntKind.u64 a0] 26)).alloc (Obj.cells #[Value.int IntKind.u64 b3, Value.int IntKind.u64 b2, Value.int IntKind.u64 b1, Value.int IntKind.u64 b0] 26)).alloc (Obj.cells #[Value.int IntKind.u64 0, Value.int IntKind.u64 0, Value.int IntKind.u64 0, Value.int IntKind.u64 0] 26) = W at *
  go_region_held3 (fun w' => w'.cell? ⟨w.heap.size, 0, none⟩ = some (.int .u64 a3) ∧ w'.cell? ⟨w.heap.size, 1, none⟩ = some (.int .u64 a2) ∧ w'.cell? ⟨w.heap.size, 2, none⟩ = some (.int .u64 a1) ∧ w'.cell? ⟨w.heap.size, 3, none⟩ = some (.int .u64 a0) ∧ w'.cell? ⟨w.heap.size + 1, 0, none⟩ = some (.int .u64 b3) ∧ w'.cell? ⟨w.heap.size + 1, 1, none⟩ = some (.int .u64 b2) ∧ w'.cell? ⟨w.heap.size + 1, 2, none⟩ = some (.int .u64 b1) ∧ w'.cell? ⟨w.heap.size + 1, 3, none⟩ = some (.int .u64 b0)) (first | exact T0.cells | exact (T0.set (by omega) _ _ _ _).cells | exact (T0.set (by omega) _ _ _ _).drew.cells)
    (first
      | (go_at_call 30; have _t := tok1; refine (from_any a3 a2 a1 a0 h3 h2 h1 h0 _).mono ?_; rintro e w1 ⟨s1, ao1, n1, c1, ds1, rfl, N1, hB1⟩; replace T0 := T0.step hB1; replace R0 := R0.step hB1; clear tok1 _t hB1)
      | (go_at_call 30; refine (from_any b3 b2 b1 b0 k3 k2 k1 k0 _).mono ?_; rintro e w2 ⟨s2, ao2, n2, c2, ds2, rfl, N2, hB2⟩; replace T0 := T0.step hB2; replace R0 := R0.step hB2; replace N1 := N1.below hB2; clear hB2)
      | (go_at_call 53; refine (mul_any s1 s2 ao1 ao2 n1 n2 c1 c2 8 ds1 ds2 _ _ _ N1 N2 (by omega)).mono ?_; rintro e w3 ⟨s3, ao3, n3, c3, ds3, rfl, N3, hB3⟩; replace T0 := T0.step hB3; replace R0 := R0.step hB3; clear hB3 N1 N2)
      | (go_at_call 28; refine (toW_any s3 ao3 n3 c3 ds3 _ (8 + 8) _ N3 (by omega)).mono ?_; intro e w4 hT; have hBB := T0.below; have hTT := tellP_from hBB hT; replace T0 := T0.step hT.1; replace R0 := R0.step hT.1; obtain ⟨x3, x2, x1, x0, p, rfl⟩ := tellP_shape hT; have r0 := R0.c0; have r1 := R0.c1; have r2 := R0.c2; have r3 := R0.c3; have f0 := R0.f0; have f1 := R0.f1; have f2 := R0.f2; have f3 := R0.f3; clear hT N3 hBB))
  all_goals go_wp2
  all_goals refine bodyPost_ret (v := .tuple #[.agg #[.int .u64 x3, .int .u64 x2, .int .u64 x1, .int .u64 x0], .bool p]) (by simp [results, Try.results47, go_sem, r0, r1, r2, r3]) rfl ?_
  all_goals first | exact tellP_set (by omega) hTT | exact tellP_drew (tellP_set (by omega) hTT)
end Go.Proofs.Ytgbogbmbghpadaa

/- Two numbers drawn for what they have in common: the walk. -/
namespace Go.Proofs.Ytgbogbmbghpadaa
open Go.RowKit
set_option maxRecDepth 100000 in
set_option maxHeartbeats 4000000 in
theorem drawGcd_any (ao : Option Addr) (n cap : Nat) (cs : List Int) (w : World) (h : Code w ao n cs) :
    Calls Try.prog 19 #[.slice ao n cap] w (TwoP w) := by
  have A := (Blk.new w [.int .u64 0, .int .u64 0, .int .u64 0, .int .u64 0] 26 rfl).alloc (.cells #[.int .u64 0, .int .u64 0, .int .u64 0, .int .u64 0] 26)
  have B := Blk.new (w.alloc (.cells #[.int .u64 0, .int .u64 0, .int .u64 0, .int .u64 0] 26)) [.int .u64 0, .int .u64 0, .int .u64 0, .int .u64 0] 26 (g := w.heap.size + 1) (by simp)
  have HB : Below w.heap.size w ((w.alloc (.cells #[.int .u64 0, .int .u64 0, .int .u64 0, .int .u64 0] 26)).alloc (.cells #[.int .u64 0, .int .u64 0, .int .u64 0, .int .u64 0] 26)) := ((Below.refl _ _).alloc (Nat.le_refl _) _).alloc (by simp) _
  replace h := h.below HB
  go_enter Try.func19, Try.ntmps19
  go_wp2_with fail
  refine (open_any ao n cap cs _ h).mono ?_
  rintro e w1 ⟨G, rfl, hG, R, hB⟩
  simp at hG
  have hA : w.heap.size ≠ G := by omega
  have hB0 : w.heap.size + 1 ≠ G := by omega
  replace A := A.step hB
  replace B := B.step hB
  replace HB : Below w.heap.size w w1 := HB.trans (hB.mono HB.size)
  have K := Kept.refl G w1
  have hl := HB.size
  clear h hB
  go_wp2_with fail
  refine (wide_any G ao n cap cs _ R).mono ?_
  rintro e w2 ⟨_, rfl, ⟨a3, a2, a1, a0, rfl, ha⟩, R1, K1⟩
  replace A := A.kept K1 hA
  replace B := B.kept K1 hB0
  replace K := K.trans K1
  clear R K1
  have R := R1
  clear R1
  have lAP := A.lt
  have lBP := B.lt
  have P := Blk.new w2 [.int .u64 a3, .int .u64 a2, .int .u64 a1, .int .u64 a0] 26 rfl
  have hP : w2.heap.size ≠ G := by have := R.lt; omega
  replace A := A.alloc (.cells #[.int .u64 a3, .int .u64 a2, .int .u64 a1, .int .u64 a0] 26)
  replace B := B.alloc (.cells #[.int .u64 a3, .int .u64 a2, .int .u64 a1, .int .u64 a0] 26)
  replace R := R.alloc (.cells #[.int .u64 a3, .int .u64 a2, .int .u64 a1, .int .u64 a0] 26)
  replace K := K.alloc (.cells #[.int .u64 a3, .int .u64 a2, .int .u64 a1, .int .u64 a0] 26)
  go_wp2_with fail
  refine (wide_any G ao n cap cs _ R).mono ?_
  rintro e w3 ⟨_, rfl, ⟨b3, b2, b1, b0, rfl, hb⟩, R1, K1⟩
  replace A := A.kept K1 hA
  replace B := B.kept K1 hB0
  replace P := P.kept K1 hP
  replace K := K.trans K1
  clear R K1
  have R := R1
  clear R1
  have lAQ := A.lt
  have lBQ := B.lt
  have lPQ := P.lt
  have Q := Blk.new w3 [.int .u64 b3, .int .u64 b2, .int .u64 b1, .int .u64 b0] 26 rfl
  have hQ : w3.heap.size ≠ G := by have := R.lt; omega
  replace A := A.alloc (.cells #[.int .u64 b3, .int .u64 b2, .int .u64 b1, .int .u64 b0] 26)
  replace B := B.alloc (.cells #[.int .u64 b3, .int .u64 b2, .int .u64 b1, .int .u64 b0] 26)
  replace P := P.alloc (.cells #[.int .u64 b3, .int .u64 b2, .int .u64 b1, .int .u64 b0] 26)
  replace R := R.alloc (.cells #[.int .u64 b3, .int .u64 b2, .int .u64 b1, .int .u64 b0] 26)
  replace K := K.alloc (.cells #[.int .u64 b3, .int .u64 b2, .int .u64 b1, .int .u64 b0] 26)
  go_wp2_with fail
  refine (once_any 2 (by decide) (by decide) G ao n cap cs _ R).mono ?_
  rintro e w4 ⟨_, rfl, ⟨t, rfl⟩, R1, K1⟩
  replace A := A.kept K1 hA
  replace B := B.kept K1 hB0
  replace P := P.kept K1 hP
  replace Q := Q.kept K1 hQ
  replace K := K.trans K1
  clear R K1
  have R := R1
  clear R1
  cases t
  · skip
    have Ac0 := A.c 0 rfl; have Af0 := A.f 0 rfl; have Ac1 := A.c 1 rfl; have Af1 := A.f 1 rfl; have Ac2 := A.c 2 rfl; have Af2 := A.f 2 rfl; have Ac3 := A.c 3 rfl; have Af3 := A.f 3 rfl; have Al := A.lt
    have Bc0 := B.c 0 rfl; have Bf0 := B.f 0 rfl; have Bc1 := B.c 1 rfl; have Bf1 := B.f 1 rfl; have Bc2 := B.c 2 rfl; have Bf2 := B.f 2 rfl; have Bc3 := B.c 3 rfl; have Bf3 := B.f 3 rfl; have Bl := B.lt
    have Pc0 := P.c 0 rfl; have Pf0 := P.f 0 rfl; have Pc1 := P.c 1 rfl; have Pf1 := P.f 1 rfl; have Pc2 := P.c 2 rfl; have Pf2 := P.f 2 rfl; have Pc3 := P.c 3 rfl; have Pf3 := P.f 3 rfl; have Pl := P.lt
    have Qc0 := Q.c 0 rfl; have Qf0 := Q.f 0 rfl; have Qc1 := Q.c 1 rfl; have Qf1 := Q.f 1 rfl; have Qc2 := Q.c 2 rfl; have Qf2 := Q.f 2 rfl; have Qc3 := Q.c 3 rfl; have Qf3 := Q.f 3 rfl; have Ql := Q.lt
    replace HB : Below w.heap.size w _ := HB.trans (K.below (by omega) hl)
    clear A B P Q
    go_upto_region 10 with fail
    go_region
    all_goals go_wp2
    all_goals refine bodyPost_ret (v := .tuple #[.agg #[.int .u64 a3, .int .u64 a2, .int .u64 a1, .int .u64 a0], .agg #[.int .u64 b3, .int .u64 b2, .int .u64 b1, .int .u64 b0]]) (by simp [results, Try.results19, go_sem, Ac0, Bc0, Ac1, Bc1, Ac2, Bc2, Ac3, Bc3]) rfl ?_
    all_goals exact ⟨_, _, _, _, _, _, _, _, rfl, ha, hb, (two_done HB).drew⟩
  · skip
    go_wp2_with fail
    refine (below_any 40 (by decide) (by decide) G ao n cap cs _ R).mono ?_
    rintro e w5 ⟨_, rfl, ⟨x, rfl, x0, x1⟩, R1, K1⟩
    replace A := A.kept K1 hA
    replace B := B.kept K1 hB0
    replace P := P.kept K1 hP
    replace Q := Q.kept K1 hQ
    replace K := K.trans K1
    clear R K1
    have R := R1
    clear R1
    go_wp2_with fail
    refine (specOf_any (2 + x) _ (by omega) (by omega)).mono ?_
    rintro e w6 ⟨c3, c2, c1, c0, rfl, hc3, hc2, hc1, hc0, -, hB⟩
    have hc : Word c3 ∧ Word c2 ∧ Word c1 ∧ Word c0 := ⟨hc3, hc2, hc1, hc0⟩
    clear hc3 hc2 hc1 hc0
    replace A := A.step hB
    replace B := B.step hB
    replace P := P.step hB
    replace Q := Q.step hB
    replace K := K.trans (Kept.of hB)
    replace R := R.step hB
    clear hB
    have lAC := A.lt
    have lBC := B.lt
    have lPC := P.lt
    have lQC := Q.lt
    have C := Blk.new w6 [.int .u64 c3, .int .u64 c2, .int .u64 c1, .int .u64 c0] 26 rfl
    have hC : w6.heap.size ≠ G := by have := R.lt; omega
    replace A := A.alloc (.cells #[.int .u64 c3, .int .u64 c2, .int .u64 c1, .int .u64 c0] 26)
    replace B := B.alloc (.cells #[.int .u64 c3, .int .u64 c2, .int .u64 c1, .int .u64 c0] 26)
    replace P := P.alloc (.cells #[.int .u64 c3, .int .u64 c2, .int .u64 c1, .int .u64 c0] 26)
    replace Q := Q.alloc (.cells #[.int .u64 c3, .int .u64 c2, .int .u64 c1, .int .u64 c0] 26)
    replace R := R.alloc (.cells #[.int .u64 c3, .int .u64 c2, .int .u64 c1, .int .u64 c0] 26)
    replace K := K.alloc (.cells #[.int .u64 c3, .int .u64 c2, .int .u64 c1, .int .u64 c0] 26)
    have Pc0 := P.c 0 rfl; have Pf0 := P.f 0 rfl; have Pc1 := P.c 1 rfl; have Pf1 := P.f 1 rfl; have Pc2 := P.c 2 rfl; have Pf2 := P.f 2 rfl; have Pc3 := P.c 3 rfl; have Pf3 := P.f 3 rfl; have Pl := P.lt
    have Cc0 := C.c 0 rfl; have Cf0 := C.f 0 rfl; have Cc1 := C.c 1 rfl; have Cf1 := C.f 1 rfl; have Cc2 := C.c 2 rfl; have Cf2 := C.f 2 rfl; have Cc3 := C.c 3 rfl; have Cf3 := C.f 3 rfl; have Cl := C.lt
    go_wp2_with fail
    refine (specMul_any a3 a2 a1 a0 c3 c2 c1 c0 ha.1 ha.2.1 ha.2.2.1 ha.2.2.2 hc.1 hc.2.1 hc.2.2.1 hc.2.2.2 _).mono ?_
    intro e w7 hX
    obtain ⟨x3, x2, x1, x0, ok, rfl, hx, hB⟩ := tell_words4 hX
    clear hX
    replace A := A.step hB
    replace B := B.step hB
    replace P := P.step hB
    replace Q := Q.step hB
    replace C := C.step hB
    replace K := K.trans (Kept.of hB)
    replace R := R.step hB
    clear hB
    clear Pc0 Pf0 Pc1 Pf1 Pc2 Pf2 Pc3 Pf3 Cc0 Cf0 Cc1 Cf1 Cc2 Cf2 Cc3 Cf3 Pl Cl
    have lAX := A.lt
    have lBX := B.lt
    have lPX := P.lt
    have lQX := Q.lt
    have lCX := C.lt
    have X := Blk.new w7 [.int .u64 x3, .int .u64 x2, .int .u64 x1, .int .u64 x0] 26 rfl
    have hX : w7.heap.size ≠ G := by have := R.lt; omega
    replace A := A.alloc (.cells #[.int .u64 x3, .int .u64 x2, .int .u64 x1, .int .u64 x0] 26)
    replace B := B.alloc (.cells #[.int .u64 x3, .int .u64 x2, .int .u64 x1, .int .u64 x0] 26)
    replace P := P.alloc (.cells #[.int .u64 x3, .int .u64 x2, .int .u64 x1, .int .u64 x0] 26)
    replace Q := Q.alloc (.cells #[.int .u64 x3, .int .u64 x2, .int .u64 x1, .int .u64 x0] 26)
    replace C := C.alloc (.cells #[.int .u64 x3, .int .u64 x2, .int .u64 x1, .int .u64 x0] 26)
    replace R := R.alloc (.cells #[.int .u64 x3, .int .u64 x2, .int .u64 x1, .int .u64 x0] 26)
    replace K := K.alloc (.cells #[.int .u64 x3, .int .u64 x2, .int .u64 x1, .int .u64 x0] 26)
    have Qc0 := Q.c 0 rfl; have Qf0 := Q.f 0 rfl; have Qc1 := Q.c 1 rfl; have Qf1 := Q.f 1 rfl; have Qc2 := Q.c 2 rfl; have Qf2 := Q.f 2 rfl; have Qc3 := Q.c 3 rfl; have Qf3 := Q.f 3 rfl; have Ql := Q.lt
    have Cc0 := C.c 0 rfl; have Cf0 := C.f 0 rfl; have Cc1 := C.c 1 rfl; have Cf1 := C.f 1 rfl; have Cc2 := C.c 2 rfl; have Cf2 := C.f 2 rfl; have Cc3 := C.c 3 rfl; have Cf3 := C.f 3 rfl; have Cl := C.lt
    go_wp2_with fail
    refine (specMul_any b3 b2 b1 b0 c3 c2 c1 c0 hb.1 hb.2.1 hb.2.2.1 hb.2.2.2 hc.1 hc.2.1 hc.2.2.1 hc.2.2.2 _).mono ?_
    intro e w8 hY
    obtain ⟨y3, y2, y1, y0, fn, rfl, hy, hB⟩ := tell_words4 hY
    clear hY
    replace A := A.step hB
    replace B := B.step hB
    replace P := P.step hB
    replace Q := Q.step hB
    replace C := C.step hB
    replace X := X.step hB
    replace K := K.trans (Kept.of hB)
    replace R := R.step hB
    clear hB
    clear Qc0 Qf0 Qc1 Qf1 Qc2 Qf2 Qc3 Qf3 Cc0 Cf0 Cc1 Cf1 Cc2 Cf2 Cc3 Cf3 Ql Cl
    have lAY := A.lt
    have lBY := B.lt
    have lPY := P.lt
    have lQY := Q.lt
    have lCY := C.lt
    have lXY := X.lt
    have Y := Blk.new w8 [.int .u64 y3, .int .u64 y2, .int .u64 y1, .int .u64 y0] 26 rfl
    have hY : w8.heap.size ≠ G := by have := R.lt; omega
    replace A := A.alloc (.cells #[.int .u64 y3, .int .u64 y2, .int .u64 y1, .int .u64 y0] 26)
    replace B := B.alloc (.cells #[.int .u64 y3, .int .u64 y2, .int .u64 y1, .int .u64 y0] 26)
    replace P := P.alloc (.cells #[.int .u64 y3, .int .u64 y2, .int .u64 y1, .int .u64 y0] 26)
    replace Q := Q.alloc (.cells #[.int .u64 y3, .int .u64 y2, .int .u64 y1, .int .u64 y0] 26)
    replace C := C.alloc (.cells #[.int .u64 y3, .int .u64 y2, .int .u64 y1, .int .u64 y0] 26)
    replace X := X.alloc (.cells #[.int .u64 y3, .int .u64 y2, .int .u64 y1, .int .u64 y0] 26)
    replace R := R.alloc (.cells #[.int .u64 y3, .int .u64 y2, .int .u64 y1, .int .u64 y0] 26)
    replace K := K.alloc (.cells #[.int .u64 y3, .int .u64 y2, .int .u64 y1, .int .u64 y0] 26)
    rcases (by cases ok <;> cases fn <;> simp : ok = false ∨ (ok = true ∧ fn = false) ∨ (ok = true ∧ fn = true)) with rfl | ⟨rfl, rfl⟩ | ⟨rfl, rfl⟩
    · skip
      have Ac0 := A.c 0 rfl; have Af0 := A.f 0 rfl; have Ac1 := A.c 1 rfl; have Af1 := A.f 1 rfl; have Ac2 := A.c 2 rfl; have Af2 := A.f 2 rfl; have Ac3 := A.c 3 rfl; have Af3 := A.f 3 rfl; have Al := A.lt
      have Bc0 := B.c 0 rfl; have Bf0 := B.f 0 rfl; have Bc1 := B.c 1 rfl; have Bf1 := B.f 1 rfl; have Bc2 := B.c 2 rfl; have Bf2 := B.f 2 rfl; have Bc3 := B.c 3 rfl; have Bf3 := B.f 3 rfl; have Bl := B.lt
      have Pc0 := P.c 0 rfl; have Pf0 := P.f 0 rfl; have Pc1 := P.c 1 rfl; have Pf1 := P.f 1 rfl; have Pc2 := P.c 2 rfl; have Pf2 := P.f 2 rfl; have Pc3 := P.c 3 rfl; have Pf3 := P.f 3 rfl; have Pl := P.lt
      have Qc0 := Q.c 0 rfl; have Qf0 := Q.f 0 rfl; have Qc1 := Q.c 1 rfl; have Qf1 := Q.f 1 rfl; have Qc2 := Q.c 2 rfl; have Qf2 := Q.f 2 rfl; have Qc3 := Q.c 3 rfl; have Qf3 := Q.f 3 rfl; have Ql := Q.lt
      have Cc0 := C.c 0 rfl; have Cf0 := C.f 0 rfl; have Cc1 := C.c 1 rfl; have Cf1 := C.f 1 rfl; have Cc2 := C.c 2 rfl; have Cf2 := C.f 2 rfl; have Cc3 := C.c 3 rfl; have Cf3 := C.f 3 rfl; have Cl := C.lt
      have Xc0 := X.c 0 rfl; have Xf0 := X.f 0 rfl; have Xc1 := X.c 1 rfl; have Xf1 := X.f 1 rfl; have Xc2 := X.c 2 rfl; have Xf2 := X.f 2 rfl; have Xc3 := X.c 3 rfl; have Xf3 := X.f 3 rfl; have Xl := X.lt
      have Yc0 := Y.c 0 rfl; have Yf0 := Y.f 0 rfl; have Yc1 := Y.c 1 rfl; have Yf1 := Y.f 1 rfl; have Yc2 := Y.c 2 rfl; have Yf2 := Y.f 2 rfl; have Yc3 := Y.c 3 rfl; have Yf3 := Y.f 3 rfl; have Yl := Y.lt
      replace HB : Below w.heap.size w _ := HB.trans (K.below (by omega) hl)
      clear A B P Q C X Y
      go_upto_region 10 with fail
      generalize w8.alloc (.cells #[.int .u64 y3, .int .u64 y2, .int .u64 y1, .int .u64 y0] 26) = W8 at *
      go_region
      all_goals go_wp2
      all_goals refine bodyPost_ret (v := .tuple #[.agg #[.int .u64 a3, .int .u64 a2, .int .u64 a1, .int .u64 a0], .agg #[.int .u64 b3, .int .u64 b2, .int .u64 b1, .int .u64 b0]]) (by simp [results, Try.results19, go_sem, Ac0, Bc0, Ac1, Bc1, Ac2, Bc2, Ac3, Bc3]) rfl ?_
      all_goals exact ⟨_, _, _, _, _, _, _, _, rfl, ha, hb, (two_done HB).drew⟩
    · skip
      have Ac0 := A.c 0 rfl; have Af0 := A.f 0 rfl; have Ac1 := A.c 1 rfl; have Af1 := A.f 1 rfl; have Ac2 := A.c 2 rfl; have Af2 := A.f 2 rfl; have Ac3 := A.c 3 rfl; have Af3 := A.f 3 rfl; have Al := A.lt
      have Bc0 := B.c 0 rfl; have Bf0 := B.f 0 rfl; have Bc1 := B.c 1 rfl; have Bf1 := B.f 1 rfl; have Bc2 := B.c 2 rfl; have Bf2 := B.f 2 rfl; have Bc3 := B.c 3 rfl; have Bf3 := B.f 3 rfl; have Bl := B.lt
      have Pc0 := P.c 0 rfl; have Pf0 := P.f 0 rfl; have Pc1 := P.c 1 rfl; have Pf1 := P.f 1 rfl; have Pc2 := P.c 2 rfl; have Pf2 := P.f 2 rfl; have Pc3 := P.c 3 rfl; have Pf3 := P.f 3 rfl; have Pl := P.lt
      have Qc0 := Q.c 0 rfl; have Qf0 := Q.f 0 rfl; have Qc1 := Q.c 1 rfl; have Qf1 := Q.f 1 rfl; have Qc2 := Q.c 2 rfl; have Qf2 := Q.f 2 rfl; have Qc3 := Q.c 3 rfl; have Qf3 := Q.f 3 rfl; have Ql := Q.lt
      have Cc0 := C.c 0 rfl; have Cf0 := C.f 0 rfl; have Cc1 := C.c 1 rfl; have Cf1 := C.f 1 rfl; have Cc2 := C.c 2 rfl; have Cf2 := C.f 2 rfl; have Cc3 := C.c 3 rfl; have Cf3 := C.f 3 rfl; have Cl := C.lt
      have Xc0 := X.c 0 rfl; have Xf0 := X.f 0 rfl; have Xc1 := X.c 1 rfl; have Xf1 := X.f 1 rfl; have Xc2 := X.c 2 rfl; have Xf2 := X.f 2 rfl; have Xc3 := X.c 3 rfl; have Xf3 := X.f 3 rfl; have Xl := X.lt
      have Yc0 := Y.c 0 rfl; have Yf0 := Y.f 0 rfl; have Yc1 := Y.c 1 rfl; have Yf1 := Y.f 1 rfl; have Yc2 := Y.c 2 rfl; have Yf2 := Y.f 2 rfl; have Yc3 := Y.c 3 rfl; have Yf3 := Y.f 3 rfl; have Yl := Y.lt
      replace HB : Below w.heap.size w _ := HB.trans (K.below (by omega) hl)
      clear A B P Q C X Y
      go_upto_region 10 with fail
      generalize w8.alloc (.cells #[.int .u64 y3, .int .u64 y2, .int .u64 y1, .int .u64 y0] 26) = W8 at *
      go_region
      all_goals go_wp2
      all_goals refine bodyPost_ret (v := .tuple #[.agg #[.int .u64 a3, .int .u64 a2, .int .u64 a1, .int .u64 a0], .agg #[.int .u64 b3, .int .u64 b2, .int .u64 b1, .int .u64 b0]]) (by simp [results, Try.results19, go_sem, Ac0, Bc0, Ac1, Bc1, Ac2, Bc2, Ac3, Bc3]) rfl ?_
      all_goals exact ⟨_, _, _, _, _, _, _, _, rfl, ha, hb, (two_done HB).drew⟩
    · skip
      have Ac0 := A.c 0 rfl; have Af0 := A.f 0 rfl; have Ac1 := A.c 1 rfl; have Af1 := A.f 1 rfl; have Ac2 := A.c 2 rfl; have Af2 := A.f 2 rfl; have Ac3 := A.c 3 rfl; have Af3 := A.f 3 rfl; have Al := A.lt
      have Bc0 := B.c 0 rfl; have Bf0 := B.f 0 rfl; have Bc1 := B.c 1 rfl; have Bf1 := B.f 1 rfl; have Bc2 := B.c 2 rfl; have Bf2 := B.f 2 rfl; have Bc3 := B.c 3 rfl; have Bf3 := B.f 3 rfl; have Bl := B.lt
      have Pc0 := P.c 0 rfl; have Pf0 := P.f 0 rfl; have Pc1 := P.c 1 rfl; have Pf1 := P.f 1 rfl; have Pc2 := P.c 2 rfl; have Pf2 := P.f 2 rfl; have Pc3 := P.c 3 rfl; have Pf3 := P.f 3 rfl; have Pl := P.lt
      have Qc0 := Q.c 0 rfl; have Qf0 := Q.f 0 rfl; have Qc1 := Q.c 1 rfl; have Qf1 := Q.f 1 rfl; have Qc2 := Q.c 2 rfl; have Qf2 := Q.f 2 rfl; have Qc3 := Q.c 3 rfl; have Qf3 := Q.f 3 rfl; have Ql := Q.lt
      have Cc0 := C.c 0 rfl; have Cf0 := C.f 0 rfl; have Cc1 := C.c 1 rfl; have Cf1 := C.f 1 rfl; have Cc2 := C.c 2 rfl; have Cf2 := C.f 2 rfl; have Cc3 := C.c 3 rfl; have Cf3 := C.f 3 rfl; have Cl := C.lt
      have Xc0 := X.c 0 rfl; have Xf0 := X.f 0 rfl; have Xc1 := X.c 1 rfl; have Xf1 := X.f 1 rfl; have Xc2 := X.c 2 rfl; have Xf2 := X.f 2 rfl; have Xc3 := X.c 3 rfl; have Xf3 := X.f 3 rfl; have Xl := X.lt
      have Yc0 := Y.c 0 rfl; have Yf0 := Y.f 0 rfl; have Yc1 := Y.c 1 rfl; have Yf1 := Y.f 1 rfl; have Yc2 := Y.c 2 rfl; have Yf2 := Y.f 2 rfl; have Yc3 := Y.c 3 rfl; have Yf3 := Y.f 3 rfl; have Yl := Y.lt
      replace HB : Below w.heap.size w _ := HB.trans (K.below (by omega) hl)
      clear A B P Q C X Y
      go_upto_region 9 with fail
      generalize w8.alloc (.cells #[.int .u64 y3, .int .u64 y2, .int .u64 y1, .int .u64 y0] 26) = W8 at *
      go_region
      all_goals go_wp2
      all_goals refine bodyPost_ret (v := .tuple #[.agg #[.int .u64 x3, .int .u64 x2, .int .u64 x1, .int .u64 x0], .agg #[.int .u64 y3, .int .u64 y2, .int .u64 y1, .int .u64 y0]]) (by simp [results, Try.results19, go_sem, Ac0, Bc0, Ac1, Bc1, Ac2, Bc2, Ac3, Bc3]) rfl ?_
      all_goals exact ⟨_, _, _, _, _, _, _, _, rfl, hx, hy, (two_done HB).drew⟩
end Go.Proofs.Ytgbogbmbghpadaa

/- The law on the greatest common divisor of drawn numbers: the walk. -/
namespace Go.Proofs.Ytgbogbmbghpadaa
open Go.RowKit
theorem gcd_rest (x y : Int) : Int.gcd y (x % y) = Int.gcd x y := by
  rw [Int.emod_def, Int.gcd_sub_mul_left_right, Int.gcd_comm]
theorem gcd_none {x y : Int} (h : ((Int.gcd x y : Nat) : Int) = 0) : x = 0 ∧ y = 0 := Int.gcd_eq_zero_iff.1 (by omega)
theorem divV_even {x g : Int} (hx : told x = true) (hg : 0 < g) (hd : g ∣ x) : ∃ c3 c2 c1 c0 : Int, divV x g = .tuple #[.agg #[.int .u64 c3, .int .u64 c2, .int .u64 c1, .int .u64 c0], .agg #[.int .u64 0, .int .u64 0, .int .u64 0, .int .u64 0], .bool true] := by
  obtain ⟨k, rfl⟩ := hd
  have e1 : g * k / g = k := Int.mul_ediv_cancel_left _ (by omega)
  have e2 : g * k % g = 0 := Int.mul_emod_right _ _
  have ht : told (g * k / g) = true := by
    rw [e1]
    rw [told_iff] at *
    have h1 : (g - 1) * (if 0 ≤ k then k else -k) ≥ 0 := Int.mul_nonneg (by omega) (by split <;> omega)
    split at h1
    · have : (g - 1) * k = g * k - k := by grind
      omega
    · have : (g - 1) * -k = -(g * k) + k := by grind
      omega
  refine ⟨ww3 (g * k / g), ww2 (g * k / g), ww1 (g * k / g), ww0 (g * k / g), ?_⟩
  unfold divV
  rw [if_neg (by omega), ht, if_pos rfl, e2, W40]
set_option maxRecDepth 100000 in
set_option maxHeartbeats 8000000 in
theorem lawCommon_any (ao : Option Addr) (n cap : Nat) (cs : List Int) (w : World) (h : n ≤ 1048576 → Code w ao n cs) :
    Calls Try.prog 5 #[.slice ao n cap] w (BoolP true w) := by
  by_cases hn : 1048576 < n
  · go_enter Try.func5, Try.ntmps5
    go_wp2_with fail
    refine (big_any ao n cap _ true (by simpa using hn)).mono ?_
    rintro e w0 ⟨rfl, hB⟩
    go_wp2
    go_ret
    exact ⟨rfl, hB⟩
  · replace h := h (by omega)
    go_enter Try.func5, Try.ntmps5
    go_wp2_with fail
    refine (big_any ao n cap _ false (by simpa using hn)).mono ?_
    rintro e w0 ⟨rfl, hB⟩
    replace h := h.below hB
    have HB0 : Below w.heap.size w w0 := hB
    clear hB hn
    go_wp2_with fail
    refine (drawGcd_any ao n cap cs _ h).mono ?_
    rintro e w1 ⟨a3, a2, a1, a0, b3, b2, b1, b0, rfl, ha, hb, hB⟩
    have HB1 : Below w.heap.size w w1 := HB0.trans (hB.mono HB0.size)
    clear hB HB0
    have A := Blk.new w1 [.int .u64 a3, .int .u64 a2, .int .u64 a1, .int .u64 a0] 26 rfl
    replace HB1 := HB1.alloc HB1.size (.cells #[.int .u64 a3, .int .u64 a2, .int .u64 a1, .int .u64 a0] 26)
    have B := Blk.new (w1.alloc (.cells #[.int .u64 a3, .int .u64 a2, .int .u64 a1, .int .u64 a0] 26)) [.int .u64 b3, .int .u64 b2, .int .u64 b1, .int .u64 b0] 26 (g := w1.heap.size + 1) (by simp)
    replace A := A.alloc (.cells #[.int .u64 b3, .int .u64 b2, .int .u64 b1, .int .u64 b0] 26)
    replace HB1 := HB1.alloc HB1.size (.cells #[.int .u64 b3, .int .u64 b2, .int .u64 b1, .int .u64 b0] 26)
    go_wp2_with fail
    refine (implGcd_any a3 a2 a1 a0 b3 b2 b1 b0 ha.1 ha.2.1 ha.2.2.1 ha.2.2.2 hb.1 hb.2.1 hb.2.2.1 hb.2.2.2 _).mono ?_
    intro e w2 hG
    obtain ⟨g3, g2, g1, g0, ok, rfl, hGw, hB⟩ := tell_words4 hG
    replace A := A.step hB
    replace B := B.step hB
    have HB2 : Below w.heap.size w w2 := HB1.trans (hB.mono HB1.size)
    clear hB HB1
    have Ac0 := A.c 0 rfl; have Ac1 := A.c 1 rfl; have Ac2 := A.c 2 rfl; have Ac3 := A.c 3 rfl; have Al := A.lt
    have Bc0 := B.c 0 rfl; have Bc1 := B.c 1 rfl; have Bc2 := B.c 2 rfl; have Bc3 := B.c 3 rfl; have Bl := B.lt
    have G := Blk.new w2 [.int .u64 g3, .int .u64 g2, .int .u64 g1, .int .u64 g0] 26 rfl
    replace A := A.alloc (.cells #[.int .u64 g3, .int .u64 g2, .int .u64 g1, .int .u64 g0] 26)
    replace B := B.alloc (.cells #[.int .u64 g3, .int .u64 g2, .int .u64 g1, .int .u64 g0] 26)
    replace HB2 := HB2.alloc HB2.size (.cells #[.int .u64 g3, .int .u64 g2, .int .u64 g1, .int .u64 g0] 26)
    go_wp2_with fail
    refine (specGcd_any a3 a2 a1 a0 b3 b2 b1 b0 ha.1 ha.2.1 ha.2.2.1 ha.2.2.2 hb.1 hb.2.1 hb.2.2.1 hb.2.2.2 _).mono ?_
    intro e w3 hT
    obtain ⟨t3, t2, t1, t0, ok', rfl, hTw, hB⟩ := tell_words4 hT
    obtain ⟨rfl, rfl, rfl, rfl, rfl⟩ := tellP_same hG hT
    clear hT hTw
    replace A := A.step hB
    replace B := B.step hB
    replace G := G.step hB
    have HB3 : Below w.heap.size w w3 := HB2.trans (hB.mono HB2.size)
    clear Ac0 Ac1 Ac2 Ac3 Al Bc0 Bc1 Bc2 Bc3 Bl
    clear hB HB2
    have Ac0 := A.c 0 rfl; have Ac1 := A.c 1 rfl; have Ac2 := A.c 2 rfl; have Ac3 := A.c 3 rfl; have Al := A.lt
    have Bc0 := B.c 0 rfl; have Bc1 := B.c 1 rfl; have Bc2 := B.c 2 rfl; have Bc3 := B.c 3 rfl; have Bl := B.lt
    have Gc0 := G.c 0 rfl; have Gc1 := G.c 1 rfl; have Gc2 := G.c 2 rfl; have Gc3 := G.c 3 rfl; have Gl := G.lt
    have U := Blk.new w3 [.int .u64 g3, .int .u64 g2, .int .u64 g1, .int .u64 g0] 26 rfl
    replace A := A.alloc (.cells #[.int .u64 g3, .int .u64 g2, .int .u64 g1, .int .u64 g0] 26)
    replace B := B.alloc (.cells #[.int .u64 g3, .int .u64 g2, .int .u64 g1, .int .u64 g0] 26)
    replace G := G.alloc (.cells #[.int .u64 g3, .int .u64 g2, .int .u64 g1, .int .u64 g0] 26)
    replace HB3 := HB3.alloc HB3.size (.cells #[.int .u64 g3, .int .u64 g2, .int .u64 g1, .int .u64 g0] 26)
    clear h
    cases ok
    · skip
      go_wp2
      all_goals go_ret
      all_goals exact ⟨rfl, HB3⟩
    · skip
      have eG := (tell_yes hG).2
      by_cases hz : sw g3 g2 g1 g0 = 0
      · skip
        obtain ⟨ex, ey⟩ := gcd_none (eG.symm.trans hz)
        go_wp2_with fail
        refine (implSign_any g3 g2 g1 g0 hGw.1 hGw.2.1 hGw.2.2.1 hGw.2.2.2 _).mono ?_
        rintro e w4 ⟨rfl, hB⟩
        rw [cmpI_eq hz]
        replace A := A.step hB
        replace B := B.step hB
        replace G := G.step hB
        replace U := U.step hB
        have HB4 : Below w.heap.size w w4 := HB3.trans (hB.mono HB3.size)
        clear Ac0 Ac1 Ac2 Ac3 Al Bc0 Bc1 Bc2 Bc3 Bl Gc0 Gc1 Gc2 Gc3 Gl
        clear hB HB3
        have Ac0 := A.c 0 rfl; have Ac1 := A.c 1 rfl; have Ac2 := A.c 2 rfl; have Ac3 := A.c 3 rfl; have Al := A.lt
        have Bc0 := B.c 0 rfl; have Bc1 := B.c 1 rfl; have Bc2 := B.c 2 rfl; have Bc3 := B.c 3 rfl; have Bl := B.lt
        have Gc0 := G.c 0 rfl; have Gc1 := G.c 1 rfl; have Gc2 := G.c 2 rfl; have Gc3 := G.c 3 rfl; have Gl := G.lt
        have Uc0 := U.c 0 rfl; have Uc1 := U.c 1 rfl; have Uc2 := U.c 2 rfl; have Uc3 := U.c 3 rfl; have Ul := U.lt
        go_wp2_with fail
        refine (implSign_any a3 a2 a1 a0 ha.1 ha.2.1 ha.2.2.1 ha.2.2.2 _).mono ?_
        rintro e w5 ⟨rfl, hB⟩
        rw [cmpI_eq ex]
        replace A := A.step hB
        replace B := B.step hB
        replace G := G.step hB
        replace U := U.step hB
        have HB5 : Below w.heap.size w w5 := HB4.trans (hB.mono HB4.size)
        clear Ac0 Ac1 Ac2 Ac3 Al Bc0 Bc1 Bc2 Bc3 Bl Gc0 Gc1 Gc2 Gc3 Gl Uc0 Uc1 Uc2 Uc3 Ul
        clear hB HB4
        have Ac0 := A.c 0 rfl; have Ac1 := A.c 1 rfl; have Ac2 := A.c 2 rfl; have Ac3 := A.c 3 rfl; have Al := A.lt
        have Bc0 := B.c 0 rfl; have Bc1 := B.c 1 rfl; have Bc2 := B.c 2 rfl; have Bc3 := B.c 3 rfl; have Bl := B.lt
        have Gc0 := G.c 0 rfl; have Gc1 := G.c 1 rfl; have Gc2 := G.c 2 rfl; have Gc3 := G.c 3 rfl; have Gl := G.lt
        have Uc0 := U.c 0 rfl; have Uc1 := U.c 1 rfl; have Uc2 := U.c 2 rfl; have Uc3 := U.c 3 rfl; have Ul := U.lt
        go_wp2_with fail
        refine (implSign_any b3 b2 b1 b0 hb.1 hb.2.1 hb.2.2.1 hb.2.2.2 _).mono ?_
        rintro e w6 ⟨rfl, hB⟩
        rw [cmpI_eq ey]
        replace A := A.step hB
        replace B := B.step hB
        replace G := G.step hB
        replace U := U.step hB
        have HB6 : Below w.heap.size w w6 := HB5.trans (hB.mono HB5.size)
        clear Ac0 Ac1 Ac2 Ac3 Al Bc0 Bc1 Bc2 Bc3 Bl Gc0 Gc1 Gc2 Gc3 Gl Uc0 Uc1 Uc2 Uc3 Ul
        clear hB HB5
        have Ac0 := A.c 0 rfl; have Ac1 := A.c 1 rfl; have Ac2 := A.c 2 rfl; have Ac3 := A.c 3 rfl; have Al := A.lt
        have Bc0 := B.c 0 rfl; have Bc1 := B.c 1 rfl; have Bc2 := B.c 2 rfl; have Bc3 := B.c 3 rfl; have Bl := B.lt
        have Gc0 := G.c 0 rfl; have Gc1 := G.c 1 rfl; have Gc2 := G.c 2 rfl; have Gc3 := G.c 3 rfl; have Gl := G.lt
        have Uc0 := U.c 0 rfl; have Uc1 := U.c 1 rfl; have Uc2 := U.c 2 rfl; have Uc3 := U.c 3 rfl; have Ul := U.lt
        go_wp2
        all_goals go_ret
        all_goals exact ⟨rfl, HB6⟩
      · skip
        have hp : 0 < sw g3 g2 g1 g0 := by have : 0 ≤ sw g3 g2 g1 g0 := (by rw [eG]; omega); omega
        obtain ⟨c3, c2, c1, c0, hDa⟩ := divV_even (told_sw ha) hp (by rw [eG]; exact Int.gcd_dvd_left _ _)
        obtain ⟨d3, d2, d1, d0, hDb⟩ := divV_even (told_sw hb) hp (by rw [eG]; exact Int.gcd_dvd_right _ _)
        have DA := implDiv_any a3 a2 a1 a0 g3 g2 g1 g0 ha.1 ha.2.1 ha.2.2.1 ha.2.2.2 hGw.1 hGw.2.1 hGw.2.2.1 hGw.2.2.2
        rw [hDa] at DA
        have DB := implDiv_any b3 b2 b1 b0 g3 g2 g1 g0 hb.1 hb.2.1 hb.2.2.1 hb.2.2.2 hGw.1 hGw.2.1 hGw.2.2.1 hGw.2.2.2
        rw [hDb] at DB
        go_wp2_with fail
        refine (implSign_any g3 g2 g1 g0 hGw.1 hGw.2.1 hGw.2.2.1 hGw.2.2.2 _).mono ?_
        rintro e w4 ⟨rfl, hB⟩
        rw [cmpI_gt hp]
        replace A := A.step hB
        replace B := B.step hB
        replace G := G.step hB
        replace U := U.step hB
        have HB4 : Below w.heap.size w w4 := HB3.trans (hB.mono HB3.size)
        clear Ac0 Ac1 Ac2 Ac3 Al Bc0 Bc1 Bc2 Bc3 Bl Gc0 Gc1 Gc2 Gc3 Gl
        clear hB HB3
        clear U
        have Ac0 := A.c 0 rfl; have Ac1 := A.c 1 rfl; have Ac2 := A.c 2 rfl; have Ac3 := A.c 3 rfl; have Al := A.lt
        have Bc0 := B.c 0 rfl; have Bc1 := B.c 1 rfl; have Bc2 := B.c 2 rfl; have Bc3 := B.c 3 rfl; have Bl := B.lt
        have Gc0 := G.c 0 rfl; have Gc1 := G.c 1 rfl; have Gc2 := G.c 2 rfl; have Gc3 := G.c 3 rfl; have Gl := G.lt
        go_wp2_with fail
        refine (DA _).mono ?_
        rintro e w5 ⟨rfl, hB⟩
        replace A := A.step hB
        replace B := B.step hB
        replace G := G.step hB
        have HB5 : Below w.heap.size w w5 := HB4.trans (hB.mono HB4.size)
        clear Ac0 Ac1 Ac2 Ac3 Al Bc0 Bc1 Bc2 Bc3 Bl Gc0 Gc1 Gc2 Gc3 Gl
        clear hB HB4
        have Ac0 := A.c 0 rfl; have Ac1 := A.c 1 rfl; have Ac2 := A.c 2 rfl; have Ac3 := A.c 3 rfl; have Al := A.lt
        have Bc0 := B.c 0 rfl; have Bc1 := B.c 1 rfl; have Bc2 := B.c 2 rfl; have Bc3 := B.c 3 rfl; have Bl := B.lt
        have Gc0 := G.c 0 rfl; have Gc1 := G.c 1 rfl; have Gc2 := G.c 2 rfl; have Gc3 := G.c 3 rfl; have Gl := G.lt
        have N1 := Blk.new w5 [.int .u64 c3, .int .u64 c2, .int .u64 c1, .int .u64 c0] 26 rfl
        replace A := A.alloc (.cells #[.int .u64 c3, .int .u64 c2, .int .u64 c1, .int .u64 c0] 26)
        replace B := B.alloc (.cells #[.int .u64 c3, .int .u64 c2, .int .u64 c1, .int .u64 c0] 26)
        replace G := G.alloc (.cells #[.int .u64 c3, .int .u64 c2, .int .u64 c1, .int .u64 c0] 26)
        replace HB5 := HB5.alloc HB5.size (.cells #[.int .u64 c3, .int .u64 c2, .int .u64 c1, .int .u64 c0] 26)
        have R := Blk.new (w5.alloc (.cells #[.int .u64 c3, .int .u64 c2, .int .u64 c1, .int .u64 c0] 26)) [.int .u64 0, .int .u64 0, .int .u64 0, .int .u64 0] 26 (g := w5.heap.size + 1) (by simp)
        replace A := A.alloc (.cells #[.int .u64 0, .int .u64 0, .int .u64 0, .int .u64 0] 26)
        replace B := B.alloc (.cells #[.int .u64 0, .int .u64 0, .int .u64 0, .int .u64 0] 26)
        replace G := G.alloc (.cells #[.int .u64 0, .int .u64 0, .int .u64 0, .int .u64 0] 26)
        replace N1 := N1.alloc (.cells #[.int .u64 0, .int .u64 0, .int .u64 0, .int .u64 0] 26)
        replace HB5 := HB5.alloc HB5.size (.cells #[.int .u64 0, .int .u64 0, .int .u64 0, .int .u64 0] 26)
        go_wp2_with fail
        refine (DB _).mono ?_
        rintro e w6 ⟨rfl, hB⟩
        replace A := A.step hB
        replace B := B.step hB
        replace G := G.step hB
        replace N1 := N1.step hB
        replace R := R.step hB
        have HB6 : Below w.heap.size w w6 := HB5.trans (hB.mono HB5.size)
        clear Ac0 Ac1 Ac2 Ac3 Al Bc0 Bc1 Bc2 Bc3 Bl Gc0 Gc1 Gc2 Gc3 Gl
        clear hB HB5
        clear N1
        have Ac0 := A.c 0 rfl; have Ac1 := A.c 1 rfl; have Ac2 := A.c 2 rfl; have Ac3 := A.c 3 rfl; have Al := A.lt
        have Bc0 := B.c 0 rfl; have Bc1 := B.c 1 rfl; have Bc2 := B.c 2 rfl; have Bc3 := B.c 3 rfl; have Bl := B.lt
        have Gc0 := G.c 0 rfl; have Gc1 := G.c 1 rfl; have Gc2 := G.c 2 rfl; have Gc3 := G.c 3 rfl; have Gl := G.lt
        have Rc0 := R.c 0 rfl; have Rc1 := R.c 1 rfl; have Rc2 := R.c 2 rfl; have Rc3 := R.c 3 rfl; have Rl := R.lt
        have N2 := Blk.new w6 [.int .u64 d3, .int .u64 d2, .int .u64 d1, .int .u64 d0] 26 rfl
        replace A := A.alloc (.cells #[.int .u64 d3, .int .u64 d2, .int .u64 d1, .int .u64 d0] 26)
        replace B := B.alloc (.cells #[.int .u64 d3, .int .u64 d2, .int .u64 d1, .int .u64 d0] 26)
        replace G := G.alloc (.cells #[.int .u64 d3, .int .u64 d2, .int .u64 d1, .int .u64 d0] 26)
        replace R := R.alloc (.cells #[.int .u64 d3, .int .u64 d2, .int .u64 d1, .int .u64 d0] 26)
        replace HB6 := HB6.alloc HB6.size (.cells #[.int .u64 d3, .int .u64 d2, .int .u64 d1, .int .u64 d0] 26)
        have S := Blk.new (w6.alloc (.cells #[.int .u64 d3, .int .u64 d2, .int .u64 d1, .int .u64 d0] 26)) [.int .u64 0, .int .u64 0, .int .u64 0, .int .u64 0] 26 (g := w6.heap.size + 1) (by simp)
        replace A := A.alloc (.cells #[.int .u64 0, .int .u64 0, .int .u64 0, .int .u64 0] 26)
        replace B := B.alloc (.cells #[.int .u64 0, .int .u64 0, .int .u64 0, .int .u64 0] 26)
        replace G := G.alloc (.cells #[.int .u64 0, .int .u64 0, .int .u64 0, .int .u64 0] 26)
        replace R := R.alloc (.cells #[.int .u64 0, .int .u64 0, .int .u64 0, .int .u64 0] 26)
        replace N2 := N2.alloc (.cells #[.int .u64 0, .int .u64 0, .int .u64 0, .int .u64 0] 26)
        replace HB6 := HB6.alloc HB6.size (.cells #[.int .u64 0, .int .u64 0, .int .u64 0, .int .u64 0] 26)
        clear Ac0 Ac1 Ac2 Ac3 Al Bc0 Bc1 Bc2 Bc3 Bl Gc0 Gc1 Gc2 Gc3 Gl Rc0 Rc1 Rc2 Rc3 Rl
        go_upto_region 12 with fail
        generalize ((w6.alloc (.cells #[.int .u64 d3, .int .u64 d2, .int .u64 d1, .int .u64 d0] 26)).alloc (.cells #[.int .u64 0, .int .u64 0, .int .u64 0, .int .u64 0] 26)) = W6 at *
        have Ac0 := A.c 0 rfl; have Ac1 := A.c 1 rfl; have Ac2 := A.c 2 rfl; have Ac3 := A.c 3 rfl; have Al := A.lt
        have Bc0 := B.c 0 rfl; have Bc1 := B.c 1 rfl; have Bc2 := B.c 2 rfl; have Bc3 := B.c 3 rfl; have Bl := B.lt
        have Gc0 := G.c 0 rfl; have Gc1 := G.c 1 rfl; have Gc2 := G.c 2 rfl; have Gc3 := G.c 3 rfl; have Gl := G.lt
        have Rc0 := R.c 0 rfl; have Rc1 := R.c 1 rfl; have Rc2 := R.c 2 rfl; have Rc3 := R.c 3 rfl; have Rl := R.lt
        have N2c0 := N2.c 0 rfl; have N2c1 := N2.c 1 rfl; have N2c2 := N2.c 2 rfl; have N2c3 := N2.c 3 rfl; have N2l := N2.lt
        have Sc0 := S.c 0 rfl; have Sc1 := S.c 1 rfl; have Sc2 := S.c 2 rfl; have Sc3 := S.c 3 rfl; have Sl := S.lt
        have hzw : Word 0 ∧ Word 0 ∧ Word 0 ∧ Word 0 := ⟨⟨by decide, by decide⟩, ⟨by decide, by decide⟩, ⟨by decide, by decide⟩, ⟨by decide, by decide⟩⟩
        go_wp2_with fail
        refine (implSign_any 0 0 0 0 hzw.1 hzw.2.1 hzw.2.2.1 hzw.2.2.2 _).mono ?_
        rintro e w7 ⟨rfl, hB⟩
        rw [cmpI_eq (by decide)]
        replace A := A.step hB
        replace B := B.step hB
        replace G := G.step hB
        replace R := R.step hB
        replace N2 := N2.step hB
        replace S := S.step hB
        have HB7 : Below w.heap.size w w7 := HB6.trans (hB.mono HB6.size)
        clear Ac0 Ac1 Ac2 Ac3 Al Bc0 Bc1 Bc2 Bc3 Bl Gc0 Gc1 Gc2 Gc3 Gl Rc0 Rc1 Rc2 Rc3 Rl N2c0 N2c1 N2c2 N2c3 N2l Sc0 Sc1 Sc2 Sc3 Sl
        clear hB HB6
        clear R
        clear N2
        have Ac0 := A.c 0 rfl; have Ac1 := A.c 1 rfl; have Ac2 := A.c 2 rfl; have Ac3 := A.c 3 rfl; have Al := A.lt
        have Bc0 := B.c 0 rfl; have Bc1 := B.c 1 rfl; have Bc2 := B.c 2 rfl; have Bc3 := B.c 3 rfl; have Bl := B.lt
        have Gc0 := G.c 0 rfl; have Gc1 := G.c 1 rfl; have Gc2 := G.c 2 rfl; have Gc3 := G.c 3 rfl; have Gl := G.lt
        have Sc0 := S.c 0 rfl; have Sc1 := S.c 1 rfl; have Sc2 := S.c 2 rfl; have Sc3 := S.c 3 rfl; have Sl := S.lt
        go_wp2_with fail
        refine (implSign_any 0 0 0 0 hzw.1 hzw.2.1 hzw.2.2.1 hzw.2.2.2 _).mono ?_
        rintro e w8 ⟨rfl, hB⟩
        rw [cmpI_eq (by decide)]
        replace A := A.step hB
        replace B := B.step hB
        replace G := G.step hB
        replace S := S.step hB
        have HB8 : Below w.heap.size w w8 := HB7.trans (hB.mono HB7.size)
        clear Ac0 Ac1 Ac2 Ac3 Al Bc0 Bc1 Bc2 Bc3 Bl Gc0 Gc1 Gc2 Gc3 Gl Sc0 Sc1 Sc2 Sc3 Sl
        clear hB HB7
        clear S
        have Ac0 := A.c 0 rfl; have Ac1 := A.c 1 rfl; have Ac2 := A.c 2 rfl; have Ac3 := A.c 3 rfl; have Al := A.lt
        have Bc0 := B.c 0 rfl; have Bc1 := B.c 1 rfl; have Bc2 := B.c 2 rfl; have Bc3 := B.c 3 rfl; have Bl := B.lt
        have Gc0 := G.c 0 rfl; have Gc1 := G.c 1 rfl; have Gc2 := G.c 2 rfl; have Gc3 := G.c 3 rfl; have Gl := G.lt
        go_wp2_with fail
        refine (implSign_any g3 g2 g1 g0 hGw.1 hGw.2.1 hGw.2.2.1 hGw.2.2.2 _).mono ?_
        rintro e w9 ⟨rfl, hB⟩
        rw [cmpI_gt hp]
        replace A := A.step hB
        replace B := B.step hB
        replace G := G.step hB
        have HB9 : Below w.heap.size w w9 := HB8.trans (hB.mono HB8.size)
        clear Ac0 Ac1 Ac2 Ac3 Al Bc0 Bc1 Bc2 Bc3 Bl Gc0 Gc1 Gc2 Gc3 Gl
        clear hB HB8
        have Ac0 := A.c 0 rfl; have Ac1 := A.c 1 rfl; have Ac2 := A.c 2 rfl; have Ac3 := A.c 3 rfl; have Al := A.lt
        have Bc0 := B.c 0 rfl; have Bc1 := B.c 1 rfl; have Bc2 := B.c 2 rfl; have Bc3 := B.c 3 rfl; have Bl := B.lt
        have Gc0 := G.c 0 rfl; have Gc1 := G.c 1 rfl; have Gc2 := G.c 2 rfl; have Gc3 := G.c 3 rfl; have Gl := G.lt
        clear DA DB hDa hDb
        by_cases hy : sw b3 b2 b1 b0 = 0
        · skip
          have hD := divV_zero (x := sw a3 a2 a1 a0) hy
          have DC := implDiv_any a3 a2 a1 a0 b3 b2 b1 b0 ha.1 ha.2.1 ha.2.2.1 ha.2.2.2 hb.1 hb.2.1 hb.2.2.1 hb.2.2.2
          rw [hD] at DC
          go_wp2_with fail
          refine (DC _).mono ?_
          rintro e w10 ⟨rfl, hB⟩
          replace A := A.step hB
          replace B := B.step hB
          replace G := G.step hB
          have HB10 : Below w.heap.size w w10 := HB9.trans (hB.mono HB9.size)
          clear Ac0 Ac1 Ac2 Ac3 Al Bc0 Bc1 Bc2 Bc3 Bl Gc0 Gc1 Gc2 Gc3 Gl
          clear hB HB9
          have Ac0 := A.c 0 rfl; have Ac1 := A.c 1 rfl; have Ac2 := A.c 2 rfl; have Ac3 := A.c 3 rfl; have Al := A.lt
          have Bc0 := B.c 0 rfl; have Bc1 := B.c 1 rfl; have Bc2 := B.c 2 rfl; have Bc3 := B.c 3 rfl; have Bl := B.lt
          have Gc0 := G.c 0 rfl; have Gc1 := G.c 1 rfl; have Gc2 := G.c 2 rfl; have Gc3 := G.c 3 rfl; have Gl := G.lt
          have N3 := Blk.new w10 [.int .u64 0, .int .u64 0, .int .u64 0, .int .u64 0] 26 rfl
          replace A := A.alloc (.cells #[.int .u64 0, .int .u64 0, .int .u64 0, .int .u64 0] 26)
          replace B := B.alloc (.cells #[.int .u64 0, .int .u64 0, .int .u64 0, .int .u64 0] 26)
          replace G := G.alloc (.cells #[.int .u64 0, .int .u64 0, .int .u64 0, .int .u64 0] 26)
          replace HB10 := HB10.alloc HB10.size (.cells #[.int .u64 0, .int .u64 0, .int .u64 0, .int .u64 0] 26)
          have V := Blk.new (w10.alloc (.cells #[.int .u64 0, .int .u64 0, .int .u64 0, .int .u64 0] 26)) [.int .u64 0, .int .u64 0, .int .u64 0, .int .u64 0] 26 (g := w10.heap.size + 1) (by simp)
          replace A := A.alloc (.cells #[.int .u64 0, .int .u64 0, .int .u64 0, .int .u64 0] 26)
          replace B := B.alloc (.cells #[.int .u64 0, .int .u64 0, .int .u64 0, .int .u64 0] 26)
          replace G := G.alloc (.cells #[.int .u64 0, .int .u64 0, .int .u64 0, .int .u64 0] 26)
          replace N3 := N3.alloc (.cells #[.int .u64 0, .int .u64 0, .int .u64 0, .int .u64 0] 26)
          replace HB10 := HB10.alloc HB10.size (.cells #[.int .u64 0, .int .u64 0, .int .u64 0, .int .u64 0] 26)
          go_wp2
          all_goals go_ret
          all_goals exact ⟨rfl, HB10⟩
        by_cases ht : told ((sw a3 a2 a1 a0) / (sw b3 b2 b1 b0)) = false
        · skip
          have hD := divV_far hy ht
          have DC := implDiv_any a3 a2 a1 a0 b3 b2 b1 b0 ha.1 ha.2.1 ha.2.2.1 ha.2.2.2 hb.1 hb.2.1 hb.2.2.1 hb.2.2.2
          rw [hD] at DC
          go_wp2_with fail
          refine (DC _).mono ?_
          rintro e w10 ⟨rfl, hB⟩
          replace A := A.step hB
          replace B := B.step hB
          replace G := G.step hB
          have HB10 : Below w.heap.size w w10 := HB9.trans (hB.mono HB9.size)
          clear Ac0 Ac1 Ac2 Ac3 Al Bc0 Bc1 Bc2 Bc3 Bl Gc0 Gc1 Gc2 Gc3 Gl
          clear hB HB9
          have Ac0 := A.c 0 rfl; have Ac1 := A.c 1 rfl; have Ac2 := A.c 2 rfl; have Ac3 := A.c 3 rfl; have Al := A.lt
          have Bc0 := B.c 0 rfl; have Bc1 := B.c 1 rfl; have Bc2 := B.c 2 rfl; have Bc3 := B.c 3 rfl; have Bl := B.lt
          have Gc0 := G.c 0 rfl; have Gc1 := G.c 1 rfl; have Gc2 := G.c 2 rfl; have Gc3 := G.c 3 rfl; have Gl := G.lt
          have N3 := Blk.new w10 [.int .u64 0, .int .u64 0, .int .u64 0, .int .u64 0] 26 rfl
          replace A := A.alloc (.cells #[.int .u64 0, .int .u64 0, .int .u64 0, .int .u64 0] 26)
          replace B := B.alloc (.cells #[.int .u64 0, .int .u64 0, .int .u64 0, .int .u64 0] 26)
          replace G := G.alloc (.cells #[.int .u64 0, .int .u64 0, .int .u64 0, .int .u64 0] 26)
          replace HB10 := HB10.alloc HB10.size (.cells #[.int .u64 0, .int .u64 0, .int .u64 0, .int .u64 0] 26)
          have V := Blk.new (w10.alloc (.cells #[.int .u64 0, .int .u64 0, .int .u64 0, .int .u64 0] 26)) [.int .u64 0, .int .u64 0, .int .u64 0, .int .u64 0] 26 (g := w10.heap.size + 1) (by simp)
          replace A := A.alloc (.cells #[.int .u64 0, .int .u64 0, .int .u64 0, .int .u64 0] 26)
          replace B := B.alloc (.cells #[.int .u64 0, .int .u64 0, .int .u64 0, .int .u64 0] 26)
          replace G := G.alloc (.cells #[.int .u64 0, .int .u64 0, .int .u64 0, .int .u64 0] 26)
          replace N3 := N3.alloc (.cells #[.int .u64 0, .int .u64 0, .int .u64 0, .int .u64 0] 26)
          replace HB10 := HB10.alloc HB10.size (.cells #[.int .u64 0, .int .u64 0, .int .u64 0, .int .u64 0] 26)
          go_wp2
          all_goals go_ret
          all_goals exact ⟨rfl, HB10⟩
        · skip
          replace ht := (Bool.eq_false_or_eq_true _).resolve_right ht
          obtain ⟨q3, q2, q1, q0, r3, r2, r1, r0, hD, hq, hr, eq, er⟩ := divV_told (told_sw ha) (told_sw hb) hy ht
          have DC := implDiv_any a3 a2 a1 a0 b3 b2 b1 b0 ha.1 ha.2.1 ha.2.2.1 ha.2.2.2 hb.1 hb.2.1 hb.2.2.1 hb.2.2.2
          rw [hD] at DC
          go_wp2_with fail
          refine (DC _).mono ?_
          rintro e w10 ⟨rfl, hB⟩
          replace A := A.step hB
          replace B := B.step hB
          replace G := G.step hB
          have HB10 : Below w.heap.size w w10 := HB9.trans (hB.mono HB9.size)
          clear Ac0 Ac1 Ac2 Ac3 Al Bc0 Bc1 Bc2 Bc3 Bl Gc0 Gc1 Gc2 Gc3 Gl
          clear hB HB9
          clear A
          have Bc0 := B.c 0 rfl; have Bc1 := B.c 1 rfl; have Bc2 := B.c 2 rfl; have Bc3 := B.c 3 rfl; have Bl := B.lt
          have Gc0 := G.c 0 rfl; have Gc1 := G.c 1 rfl; have Gc2 := G.c 2 rfl; have Gc3 := G.c 3 rfl; have Gl := G.lt
          have N3 := Blk.new w10 [.int .u64 q3, .int .u64 q2, .int .u64 q1, .int .u64 q0] 26 rfl
          replace B := B.alloc (.cells #[.int .u64 q3, .int .u64 q2, .int .u64 q1, .int .u64 q0] 26)
          replace G := G.alloc (.cells #[.int .u64 q3, .int .u64 q2, .int .u64 q1, .int .u64 q0] 26)
          replace HB10 := HB10.alloc HB10.size (.cells #[.int .u64 q3, .int .u64 q2, .int .u64 q1, .int .u64 q0] 26)
          have V := Blk.new (w10.alloc (.cells #[.int .u64 q3, .int .u64 q2, .int .u64 q1, .int .u64 q0] 26)) [.int .u64 r3, .int .u64 r2, .int .u64 r1, .int .u64 r0] 26 (g := w10.heap.size + 1) (by simp)
          replace B := B.alloc (.cells #[.int .u64 r3, .int .u64 r2, .int .u64 r1, .int .u64 r0] 26)
          replace G := G.alloc (.cells #[.int .u64 r3, .int .u64 r2, .int .u64 r1, .int .u64 r0] 26)
          replace N3 := N3.alloc (.cells #[.int .u64 r3, .int .u64 r2, .int .u64 r1, .int .u64 r0] 26)
          replace HB10 := HB10.alloc HB10.size (.cells #[.int .u64 r3, .int .u64 r2, .int .u64 r1, .int .u64 r0] 26)
          clear Bc0 Bc1 Bc2 Bc3 Bl Gc0 Gc1 Gc2 Gc3 Gl
          go_upto_region 17 with fail
          generalize ((w10.alloc (.cells #[.int .u64 q3, .int .u64 q2, .int .u64 q1, .int .u64 q0] 26)).alloc (.cells #[.int .u64 r3, .int .u64 r2, .int .u64 r1, .int .u64 r0] 26)) = W7 at *
          have Bc0 := B.c 0 rfl; have Bc1 := B.c 1 rfl; have Bc2 := B.c 2 rfl; have Bc3 := B.c 3 rfl; have Bl := B.lt
          have Gc0 := G.c 0 rfl; have Gc1 := G.c 1 rfl; have Gc2 := G.c 2 rfl; have Gc3 := G.c 3 rfl; have Gl := G.lt
          have N3c0 := N3.c 0 rfl; have N3c1 := N3.c 1 rfl; have N3c2 := N3.c 2 rfl; have N3c3 := N3.c 3 rfl; have N3l := N3.lt
          have Vc0 := V.c 0 rfl; have Vc1 := V.c 1 rfl; have Vc2 := V.c 2 rfl; have Vc3 := V.c 3 rfl; have Vl := V.lt
          go_wp2_with fail
          refine (implGcd_any b3 b2 b1 b0 r3 r2 r1 r0 hb.1 hb.2.1 hb.2.2.1 hb.2.2.2 hr.1 hr.2.1 hr.2.2.1 hr.2.2.2 _).mono ?_
          intro e w11 hH
          obtain ⟨v3, v2, v1, v0, gd, rfl, hHw, hB⟩ := tell_words4 hH
          obtain ⟨rfl, rfl, rfl, rfl, rfl⟩ := tell_back hH hGw (by rw [eG, er, gcd_rest])
          clear hH hHw
          replace B := B.step hB
          replace G := G.step hB
          replace N3 := N3.step hB
          replace V := V.step hB
          have HB11 : Below w.heap.size w w11 := HB10.trans (hB.mono HB10.size)
          clear Bc0 Bc1 Bc2 Bc3 Bl Gc0 Gc1 Gc2 Gc3 Gl N3c0 N3c1 N3c2 N3c3 N3l Vc0 Vc1 Vc2 Vc3 Vl
          clear hB HB10
          clear B
          clear N3
          clear V
          have Gc0 := G.c 0 rfl; have Gc1 := G.c 1 rfl; have Gc2 := G.c 2 rfl; have Gc3 := G.c 3 rfl; have Gl := G.lt
          have H := Blk.new w11 [.int .u64 g3, .int .u64 g2, .int .u64 g1, .int .u64 g0] 26 rfl
          replace G := G.alloc (.cells #[.int .u64 g3, .int .u64 g2, .int .u64 g1, .int .u64 g0] 26)
          replace HB11 := HB11.alloc HB11.size (.cells #[.int .u64 g3, .int .u64 g2, .int .u64 g1, .int .u64 g0] 26)
          have haa : (g3 == g3) = true := by simp
          go_wp2
          all_goals go_ret
          all_goals exact ⟨rfl, HB11⟩
end Go.Proofs.Ytgbogbmbghpadaa
