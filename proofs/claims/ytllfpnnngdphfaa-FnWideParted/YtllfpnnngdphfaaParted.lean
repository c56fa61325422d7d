/- The law on quotients and rests of drawn numbers: the walk. -/
import Derived.Test.YtllfpnnngdphfaaBase6
import Derived.Test.YtllfpnnngdphfaaDrwE
import Derived.Test.YtllfpnnngdphfaaSpecDiv
import Derived.Test.YtllfpnnngdphfaaImplDiv
import Derived.Test.YtllfpnnngdphfaaBase5
import Derived.Test.YtllfpnnngdphfaaBase2
namespace Go.Proofs.Ytllfpnnngdphfaa
open Go.RowKit
theorem divV_zero {x y : Int} (h : y = 0) : divV x y = .tuple #[.agg #[.int .u64 0, .int .u64 0, .int .u64 0, .int .u64 0], .agg #[.int .u64 0, .int .u64 0, .int .u64 0, .int .u64 0], .bool false] := by
  unfold divV
  rw [if_pos h, W40]
theorem divV_far {x y : Int} (h : y ≠ 0) (ht : told (x / y) = false) : divV x y = .tuple #[.agg #[.int .u64 0, .int .u64 0, .int .u64 0, .int .u64 0], .agg #[.int .u64 0, .int .u64 0, .int .u64 0, .int .u64 0], .bool false] := by
  unfold divV
  rw [if_neg h, ht, if_neg (by decide), W40]
theorem told_iff {z : Int} : told z = true ↔ -57896044618658097711785492504343953926634992332820282019728792003956564819968 ≤ z ∧ z < 57896044618658097711785492504343953926634992332820282019728792003956564819968 := by
  unfold told
  exact decide_eq_true_iff
theorem told_no {z : Int} (h : told z = false) : ¬(-57896044618658097711785492504343953926634992332820282019728792003956564819968 ≤ z ∧ z < 57896044618658097711785492504343953926634992332820282019728792003956564819968) := by
  intro h'
  rw [told_iff.2 h'] at h
  cases h
/-- A quotient is not told just of the least number by -1. -/
theorem div_far {x y : Int} (hx : told x = true) (_hy : told y = true) (h : y ≠ 0) (ht : told (x / y) = false) : x = -57896044618658097711785492504343953926634992332820282019728792003956564819968 ∧ y = -1 := by
  rw [told_iff] at hx
  have hn := told_no ht
  have e := Int.mul_ediv_add_emod x y
  have e0 := Int.emod_nonneg x h
  have e1 := Int.emod_lt x h
  generalize x / y = q at *
  generalize x % y = r at *
  by_cases y1 : y = 1
  · subst y1; omega
  by_cases y2 : y = -1
  · subst y2; omega
  exfalso
  apply hn
  by_cases hp : 0 < y
  · have hy2 : 2 ≤ y := by omega
    constructor
    · by_cases hq : q < 0
      · have : (y - 2) * (-q) ≥ 0 := Int.mul_nonneg (by omega) (by omega)
        have e2 : (y - 2) * (-q) = 2 * q - y * q := by grind
        have : (y - 2) * (-q - 1) ≥ 0 := Int.mul_nonneg (by omega) (by omega)
        have e3 : (y - 2) * (-q - 1) = 2 * q - y * q - y + 2 := by grind
        omega
      · omega
    · by_cases hq : 0 < q
      · have : (y - 2) * q ≥ 0 := Int.mul_nonneg (by omega) (by omega)
        have e2 : (y - 2) * q = y * q - 2 * q := by grind
        omega
      · omega
  · have hy2 : y ≤ -2 := by omega
    constructor
    · by_cases hq : q < 0
      · have : (-y - 2) * (-q) ≥ 0 := Int.mul_nonneg (by omega) (by omega)
        have e2 : (-y - 2) * (-q) = y * q + 2 * q := by grind
        omega
      · omega
    · by_cases hq : 0 < q
      · have : (-y - 2) * q ≥ 0 := Int.mul_nonneg (by omega) (by omega)
        have e2 : (-y - 2) * q = -(y * q) - 2 * q := by grind
        have : (-y - 2) * (q - 1) ≥ 0 := Int.mul_nonneg (by omega) (by omega)
        have e3 : (-y - 2) * (q - 1) = -(y * q) - 2 * q + y + 2 := by grind
        omega
      · omega
theorem bits_far {b : Nat} (h : BitsOf (((-57896044618658097711785492504343953926634992332820282019728792003956564819968 : Int).natAbs : Nat) : Int) b) : b = 256 := by
  refine bits_unique h ⟨by decide, by decide, .inr (by decide)⟩
theorem words_ex4 {z : Int} (h : told z = true) : ∃ a3 a2 a1 a0 : Int, W4 z = .agg #[.int .u64 a3, .int .u64 a2, .int .u64 a1, .int .u64 a0] ∧ (Word a3 ∧ Word a2 ∧ Word a1 ∧ Word a0) ∧ sw a3 a2 a1 a0 = z := by
  rw [told_iff] at h
  refine ⟨ww3 z, ww2 z, ww1 z, ww0 z, rfl, ?_, ?_⟩
  · unfold Word ww3 ww2 ww1 ww0
    omega
  · unfold sw uw ww3 ww2 ww1 ww0
    split <;> omega
theorem divV_told {x y : Int} (_hx : told x = true) (hy' : told y = true) (h : y ≠ 0) (ht : told (x / y) = true) : ∃ c3 c2 c1 c0 d3 d2 d1 d0 : Int, divV x y = .tuple #[.agg #[.int .u64 c3, .int .u64 c2, .int .u64 c1, .int .u64 c0], .agg #[.int .u64 d3, .int .u64 d2, .int .u64 d1, .int .u64 d0], .bool true] ∧ (Word c3 ∧ Word c2 ∧ Word c1 ∧ Word c0) ∧ (Word d3 ∧ Word d2 ∧ Word d1 ∧ Word d0) ∧ sw c3 c2 c1 c0 = x / y ∧ sw d3 d2 d1 d0 = x % y := by
  have hr : told (x % y) = true := by
    rw [told_iff] at hy' ⊢
    have e0 := Int.emod_nonneg x h
    have e1 := Int.emod_lt x h
    omega
  obtain ⟨c3, c2, c1, c0, e, hc, ec⟩ := words_ex4 ht
  obtain ⟨d3, d2, d1, d0, e', hd, ed⟩ := words_ex4 hr
  refine ⟨c3, c2, c1, c0, d3, d2, d1, d0, ?_, hc, hd, ec, ed⟩
  unfold divV
  rw [if_neg h, ht, if_pos rfl, e, e']
theorem told_neg {x y : Int} (hx : 0 ≤ x) (hn : y < 0) (hy : told y = true) (hlt : x < -y := by omega) : told (x + y) = true := by
  rw [told_iff] at *
  omega
theorem tell_in {z : Int} {w w' : World} {a3 a2 a1 a0 : Int} {b : Bool} (h : TellP z w (.returned (.tuple #[.agg #[.int .u64 a3, .int .u64 a2, .int .u64 a1, .int .u64 a0], .bool b])) w') (ht : told z = true) : true = b ∧ sw a3 a2 a1 a0 = z := by
  cases b
  · have := (tell_no h).1
    rw [ht] at this
    cases this
  · exact ⟨rfl, (tell_yes h).2⟩
set_option maxRecDepth 100000 in
set_option maxHeartbeats 8000000 in
theorem lawParted_any (ao : Option Addr) (n cap : Nat) (cs : List Int) (w : World) (h : n ≤ 1048576 → Code w ao n cs) :
    Calls Try.prog 4 #[.slice ao n cap] w (BoolP true w) := by
  by_cases hn : 1048576 < n
  · go_enter Try.func4, Try.ntmps4
    go_wp2_with fail
    refine (big_any ao n cap _ true (by simpa using hn)).mono ?_
    rintro e w0 ⟨rfl, hB⟩
    go_wp2
    go_ret
    exact ⟨rfl, hB⟩
  · replace h := h (by omega)
    go_enter Try.func4, Try.ntmps4
    go_wp2_with fail
    refine (big_any ao n cap _ false (by simpa using hn)).mono ?_
    rintro e w0 ⟨rfl, hB⟩
    replace h := h.below hB
    have HB0 : Below w.heap.size w w0 := hB
    clear hB hn
    go_wp2_with fail
    refine (drawDiv_any ao n cap cs _ h).mono ?_
    rintro e w1 ⟨a3, a2, a1, a0, b3, b2, b1, b0, rfl, ha, hb, hB⟩
    have HB1 : Below w.heap.size w w1 := HB0.trans (hB.mono HB0.size)
    clear hB HB0
    have A := Blk.new w1 [.int .u64 a3, .int .u64 a2, .int .u64 a1, .int .u64 a0] 26 rfl
    replace HB1 := HB1.alloc HB1.size (.cells #[.int .u64 a3, .int .u64 a2, .int .u64 a1, .int .u64 a0] 26)
    have B := Blk.new (w1.alloc (.cells #[.int .u64 a3, .int .u64 a2, .int .u64 a1, .int .u64 a0] 26)) [.int .u64 b3, .int .u64 b2, .int .u64 b1, .int .u64 b0] 26 (g := w1.heap.size + 1) (by simp)
    replace A := A.alloc (.cells #[.int .u64 b3, .int .u64 b2, .int .u64 b1, .int .u64 b0] 26)
    replace HB1 := HB1.alloc HB1.size (.cells #[.int .u64 b3, .int .u64 b2, .int .u64 b1, .int .u64 b0] 26)
    clear h
    by_cases hy : sw b3 b2 b1 b0 = 0
    · skip
      have hD : divV (sw a3 a2 a1 a0) (sw b3 b2 b1 b0) = .tuple #[.agg #[.int .u64 0, .int .u64 0, .int .u64 0, .int .u64 0], .agg #[.int .u64 0, .int .u64 0, .int .u64 0, .int .u64 0], .bool false] := divV_zero hy
      have ID := implDiv_any a3 a2 a1 a0 b3 b2 b1 b0 ha.1 ha.2.1 ha.2.2.1 ha.2.2.2 hb.1 hb.2.1 hb.2.2.1 hb.2.2.2
      have SD := specDiv_any a3 a2 a1 a0 b3 b2 b1 b0 ha.1 ha.2.1 ha.2.2.1 ha.2.2.2 hb.1 hb.2.1 hb.2.2.1 hb.2.2.2
      rw [hD] at ID SD
      go_wp2_with fail
      refine (ID _).mono ?_
      rintro e w2 ⟨rfl, hB⟩
      replace A := A.step hB
      replace B := B.step hB
      have HB2 : Below w.heap.size w w2 := HB1.trans (hB.mono HB1.size)
      clear hB HB1
      have Ac0 := A.c 0 rfl; have Ac1 := A.c 1 rfl; have Ac2 := A.c 2 rfl; have Ac3 := A.c 3 rfl; have Al := A.lt
      have Bc0 := B.c 0 rfl; have Bc1 := B.c 1 rfl; have Bc2 := B.c 2 rfl; have Bc3 := B.c 3 rfl; have Bl := B.lt
      have Q := Blk.new w2 [.int .u64 0, .int .u64 0, .int .u64 0, .int .u64 0] 26 rfl
      replace A := A.alloc (.cells #[.int .u64 0, .int .u64 0, .int .u64 0, .int .u64 0] 26)
      replace B := B.alloc (.cells #[.int .u64 0, .int .u64 0, .int .u64 0, .int .u64 0] 26)
      replace HB2 := HB2.alloc HB2.size (.cells #[.int .u64 0, .int .u64 0, .int .u64 0, .int .u64 0] 26)
      have R := Blk.new (w2.alloc (.cells #[.int .u64 0, .int .u64 0, .int .u64 0, .int .u64 0] 26)) [.int .u64 0, .int .u64 0, .int .u64 0, .int .u64 0] 26 (g := w2.heap.size + 1) (by simp)
      replace A := A.alloc (.cells #[.int .u64 0, .int .u64 0, .int .u64 0, .int .u64 0] 26)
      replace B := B.alloc (.cells #[.int .u64 0, .int .u64 0, .int .u64 0, .int .u64 0] 26)
      replace Q := Q.alloc (.cells #[.int .u64 0, .int .u64 0, .int .u64 0, .int .u64 0] 26)
      replace HB2 := HB2.alloc HB2.size (.cells #[.int .u64 0, .int .u64 0, .int .u64 0, .int .u64 0] 26)
      go_wp2_with fail
      refine (SD _).mono ?_
      rintro e w3 ⟨rfl, hB⟩
      replace A := A.step hB
      replace B := B.step hB
      replace Q := Q.step hB
      replace R := R.step hB
      have HB3 : Below w.heap.size w w3 := HB2.trans (hB.mono HB2.size)
      clear Ac0 Ac1 Ac2 Ac3 Al Bc0 Bc1 Bc2 Bc3 Bl
      clear hB HB2
      have Ac0 := A.c 0 rfl; have Ac1 := A.c 1 rfl; have Ac2 := A.c 2 rfl; have Ac3 := A.c 3 rfl; have Al := A.lt
      have Bc0 := B.c 0 rfl; have Bc1 := B.c 1 rfl; have Bc2 := B.c 2 rfl; have Bc3 := B.c 3 rfl; have Bl := B.lt
      have Qc0 := Q.c 0 rfl; have Qc1 := Q.c 1 rfl; have Qc2 := Q.c 2 rfl; have Qc3 := Q.c 3 rfl; have Ql := Q.lt
      have Rc0 := R.c 0 rfl; have Rc1 := R.c 1 rfl; have Rc2 := R.c 2 rfl; have Rc3 := R.c 3 rfl; have Rl := R.lt
      have U := Blk.new w3 [.int .u64 0, .int .u64 0, .int .u64 0, .int .u64 0] 26 rfl
      replace A := A.alloc (.cells #[.int .u64 0, .int .u64 0, .int .u64 0, .int .u64 0] 26)
      replace B := B.alloc (.cells #[.int .u64 0, .int .u64 0, .int .u64 0, .int .u64 0] 26)
      replace Q := Q.alloc (.cells #[.int .u64 0, .int .u64 0, .int .u64 0, .int .u64 0] 26)
      replace R := R.alloc (.cells #[.int .u64 0, .int .u64 0, .int .u64 0, .int .u64 0] 26)
      replace HB3 := HB3.alloc HB3.size (.cells #[.int .u64 0, .int .u64 0, .int .u64 0, .int .u64 0] 26)
      have V := Blk.new (w3.alloc (.cells #[.int .u64 0, .int .u64 0, .int .u64 0, .int .u64 0] 26)) [.int .u64 0, .int .u64 0, .int .u64 0, .int .u64 0] 26 (g := w3.heap.size + 1) (by simp)
      replace A := A.alloc (.cells #[.int .u64 0, .int .u64 0, .int .u64 0, .int .u64 0] 26)
      replace B := B.alloc (.cells #[.int .u64 0, .int .u64 0, .int .u64 0, .int .u64 0] 26)
      replace Q := Q.alloc (.cells #[.int .u64 0, .int .u64 0, .int .u64 0, .int .u64 0] 26)
      replace R := R.alloc (.cells #[.int .u64 0, .int .u64 0, .int .u64 0, .int .u64 0] 26)
      replace U := U.alloc (.cells #[.int .u64 0, .int .u64 0, .int .u64 0, .int .u64 0] 26)
      replace HB3 := HB3.alloc HB3.size (.cells #[.int .u64 0, .int .u64 0, .int .u64 0, .int .u64 0] 26)
      clear ID SD
      go_wp2_with fail
      refine (implSign_any b3 b2 b1 b0 hb.1 hb.2.1 hb.2.2.1 hb.2.2.2 _).mono ?_
      rintro e w4 ⟨rfl, hB⟩
      rw [cmpI_eq hy]
      replace A := A.step hB
      replace B := B.step hB
      replace Q := Q.step hB
      replace R := R.step hB
      replace U := U.step hB
      replace V := V.step hB
      have HB4 : Below w.heap.size w w4 := HB3.trans (hB.mono HB3.size)
      clear Ac0 Ac1 Ac2 Ac3 Al Bc0 Bc1 Bc2 Bc3 Bl Qc0 Qc1 Qc2 Qc3 Ql Rc0 Rc1 Rc2 Rc3 Rl
      clear hB HB3
      clear Q
      clear R
      clear U
      clear V
      have Ac0 := A.c 0 rfl; have Ac1 := A.c 1 rfl; have Ac2 := A.c 2 rfl; have Ac3 := A.c 3 rfl; have Al := A.lt
      have Bc0 := B.c 0 rfl; have Bc1 := B.c 1 rfl; have Bc2 := B.c 2 rfl; have Bc3 := B.c 3 rfl; have Bl := B.lt
      go_wp2
      all_goals go_ret
      all_goals exact ⟨rfl, HB4⟩
    by_cases ht : told ((sw a3 a2 a1 a0) / (sw b3 b2 b1 b0)) = false
    · skip
      have hD : divV (sw a3 a2 a1 a0) (sw b3 b2 b1 b0) = .tuple #[.agg #[.int .u64 0, .int .u64 0, .int .u64 0, .int .u64 0], .agg #[.int .u64 0, .int .u64 0, .int .u64 0, .int .u64 0], .bool false] := divV_far hy ht
      obtain ⟨ex, ey⟩ := div_far (told_sw ha) (told_sw hb) hy ht
      have ID := implDiv_any a3 a2 a1 a0 b3 b2 b1 b0 ha.1 ha.2.1 ha.2.2.1 ha.2.2.2 hb.1 hb.2.1 hb.2.2.1 hb.2.2.2
      have SD := specDiv_any a3 a2 a1 a0 b3 b2 b1 b0 ha.1 ha.2.1 ha.2.2.1 ha.2.2.2 hb.1 hb.2.1 hb.2.2.1 hb.2.2.2
      rw [hD] at ID SD
      go_wp2_with fail
      refine (ID _).mono ?_
      rintro e w2 ⟨rfl, hB⟩
      replace A := A.step hB
      replace B := B.step hB
      have HB2 : Below w.heap.size w w2 := HB1.trans (hB.mono HB1.size)
      clear hB HB1
      have Ac0 := A.c 0 rfl; have Ac1 := A.c 1 rfl; have Ac2 := A.c 2 rfl; have Ac3 := A.c 3 rfl; have Al := A.lt
      have Bc0 := B.c 0 rfl; have Bc1 := B.c 1 rfl; have Bc2 := B.c 2 rfl; have Bc3 := B.c 3 rfl; have Bl := B.lt
      have Q := Blk.new w2 [.int .u64 0, .int .u64 0, .int .u64 0, .int .u64 0] 26 rfl
      replace A := A.alloc (.cells #[.int .u64 0, .int .u64 0, .int .u64 0, .int .u64 0] 26)
      replace B := B.alloc (.cells #[.int .u64 0, .int .u64 0, .int .u64 0, .int .u64 0] 26)
      replace HB2 := HB2.alloc HB2.size (.cells #[.int .u64 0, .int .u64 0, .int .u64 0, .int .u64 0] 26)
      have R := Blk.new (w2.alloc (.cells #[.int .u64 0, .int .u64 0, .int .u64 0, .int .u64 0] 26)) [.int .u64 0, .int .u64 0, .int .u64 0, .int .u64 0] 26 (g := w2.heap.size + 1) (by simp)
      replace A := A.alloc (.cells #[.int .u64 0, .int .u64 0, .int .u64 0, .int .u64 0] 26)
      replace B := B.alloc (.cells #[.int .u64 0, .int .u64 0, .int .u64 0, .int .u64 0] 26)
      replace Q := Q.alloc (.cells #[.int .u64 0, .int .u64 0, .int .u64 0, .int .u64 0] 26)
      replace HB2 := HB2.alloc HB2.size (.cells #[.int .u64 0, .int .u64 0, .int .u64 0, .int .u64 0] 26)
      go_wp2_with fail
      refine (SD _).mono ?_
      rintro e w3 ⟨rfl, hB⟩
      replace A := A.step hB
      replace B := B.step hB
      replace Q := Q.step hB
      replace R := R.step hB
      have HB3 : Below w.heap.size w w3 := HB2.trans (hB.mono HB2.size)
      clear Ac0 Ac1 Ac2 Ac3 Al Bc0 Bc1 Bc2 Bc3 Bl
      clear hB HB2
      have Ac0 := A.c 0 rfl; have Ac1 := A.c 1 rfl; have Ac2 := A.c 2 rfl; have Ac3 := A.c 3 rfl; have Al := A.lt
      have Bc0 := B.c 0 rfl; have Bc1 := B.c 1 rfl; have Bc2 := B.c 2 rfl; have Bc3 := B.c 3 rfl; have Bl := B.lt
      have Qc0 := Q.c 0 rfl; have Qc1 := Q.c 1 rfl; have Qc2 := Q.c 2 rfl; have Qc3 := Q.c 3 rfl; have Ql := Q.lt
      have Rc0 := R.c 0 rfl; have Rc1 := R.c 1 rfl; have Rc2 := R.c 2 rfl; have Rc3 := R.c 3 rfl; have Rl := R.lt
      have U := Blk.new w3 [.int .u64 0, .int .u64 0, .int .u64 0, .int .u64 0] 26 rfl
      replace A := A.alloc (.cells #[.int .u64 0, .int .u64 0, .int .u64 0, .int .u64 0] 26)
      replace B := B.alloc (.cells #[.int .u64 0, .int .u64 0, .int .u64 0, .int .u64 0] 26)
      replace Q := Q.alloc (.cells #[.int .u64 0, .int .u64 0, .int .u64 0, .int .u64 0] 26)
      replace R := R.alloc (.cells #[.int .u64 0, .int .u64 0, .int .u64 0, .int .u64 0] 26)
      replace HB3 := HB3.alloc HB3.size (.cells #[.int .u64 0, .int .u64 0, .int .u64 0, .int .u64 0] 26)
      have V := Blk.new (w3.alloc (.cells #[.int .u64 0, .int .u64 0, .int .u64 0, .int .u64 0] 26)) [.int .u64 0, .int .u64 0, .int .u64 0, .int .u64 0] 26 (g := w3.heap.size + 1) (by simp)
      replace A := A.alloc (.cells #[.int .u64 0, .int .u64 0, .int .u64 0, .int .u64 0] 26)
      replace B := B.alloc (.cells #[.int .u64 0, .int .u64 0, .int .u64 0, .int .u64 0] 26)
      replace Q := Q.alloc (.cells #[.int .u64 0, .int .u64 0, .int .u64 0, .int .u64 0] 26)
      replace R := R.alloc (.cells #[.int .u64 0, .int .u64 0, .int .u64 0, .int .u64 0] 26)
      replace U := U.alloc (.cells #[.int .u64 0, .int .u64 0, .int .u64 0, .int .u64 0] 26)
      replace HB3 := HB3.alloc HB3.size (.cells #[.int .u64 0, .int .u64 0, .int .u64 0, .int .u64 0] 26)
      clear ID SD
      go_wp2_with fail
      refine (implSign_any b3 b2 b1 b0 hb.1 hb.2.1 hb.2.2.1 hb.2.2.2 _).mono ?_
      rintro e w4 ⟨rfl, hB⟩
      rw [ey, cmpI_lt (by decide)]
      replace A := A.step hB
      replace B := B.step hB
      replace Q := Q.step hB
      replace R := R.step hB
      replace U := U.step hB
      replace V := V.step hB
      have HB4 : Below w.heap.size w w4 := HB3.trans (hB.mono HB3.size)
      clear Ac0 Ac1 Ac2 Ac3 Al Bc0 Bc1 Bc2 Bc3 Bl Qc0 Qc1 Qc2 Qc3 Ql Rc0 Rc1 Rc2 Rc3 Rl
      clear hB HB3
      clear Q
      clear R
      clear U
      clear V
      have Ac0 := A.c 0 rfl; have Ac1 := A.c 1 rfl; have Ac2 := A.c 2 rfl; have Ac3 := A.c 3 rfl; have Al := A.lt
      have Bc0 := B.c 0 rfl; have Bc1 := B.c 1 rfl; have Bc2 := B.c 2 rfl; have Bc3 := B.c 3 rfl; have Bl := B.lt
      go_wp2_with fail
      refine (implBits_any a3 a2 a1 a0 ha.1 ha.2.1 ha.2.2.1 ha.2.2.2 _).mono ?_
      rintro e w5 ⟨nb, rfl, hnb, hB⟩
      rw [ex] at hnb
      obtain rfl := bits_far hnb
      replace A := A.step hB
      replace B := B.step hB
      have HB5 : Below w.heap.size w w5 := HB4.trans (hB.mono HB4.size)
      clear Ac0 Ac1 Ac2 Ac3 Al Bc0 Bc1 Bc2 Bc3 Bl
      clear hB HB4
      clear B
      have Ac0 := A.c 0 rfl; have Ac1 := A.c 1 rfl; have Ac2 := A.c 2 rfl; have Ac3 := A.c 3 rfl; have Al := A.lt
      go_wp2
      all_goals go_ret
      all_goals exact ⟨rfl, HB5⟩
    · replace ht := (Bool.eq_false_or_eq_true _).resolve_right ht
      obtain ⟨c3, c2, c1, c0, d3, d2, d1, d0, hD, hc, hd, ec, ed⟩ := divV_told (told_sw ha) (told_sw hb) hy ht
      have hr0 : 0 ≤ sw d3 d2 d1 d0 := by rw [ed]; exact Int.emod_nonneg _ hy
      have hsum : sw c3 c2 c1 c0 * sw b3 b2 b1 b0 + sw d3 d2 d1 d0 = sw a3 a2 a1 a0 := by rw [ec, ed, Int.mul_comm]; exact Int.mul_ediv_add_emod _ _
      have ID := implDiv_any a3 a2 a1 a0 b3 b2 b1 b0 ha.1 ha.2.1 ha.2.2.1 ha.2.2.2 hb.1 hb.2.1 hb.2.2.1 hb.2.2.2
      have SD := specDiv_any a3 a2 a1 a0 b3 b2 b1 b0 ha.1 ha.2.1 ha.2.2.1 ha.2.2.2 hb.1 hb.2.1 hb.2.2.1 hb.2.2.2
      rw [hD] at ID SD
      go_wp2_with fail
      refine (ID _).mono ?_
      rintro e w2 ⟨rfl, hB⟩
      replace A := A.step hB
      replace B := B.step hB
      have HB2 : Below w.heap.size w w2 := HB1.trans (hB.mono HB1.size)
      clear hB HB1
      have Ac0 := A.c 0 rfl; have Ac1 := A.c 1 rfl; have Ac2 := A.c 2 rfl; have Ac3 := A.c 3 rfl; have Al := A.lt
      have Bc0 := B.c 0 rfl; have Bc1 := B.c 1 rfl; have Bc2 := B.c 2 rfl; have Bc3 := B.c 3 rfl; have Bl := B.lt
      have Q := Blk.new w2 [.int .u64 c3, .int .u64 c2, .int .u64 c1, .int .u64 c0] 26 rfl
      replace A := A.alloc (.cells #[.int .u64 c3, .int .u64 c2, .int .u64 c1, .int .u64 c0] 26)
      replace B := B.alloc (.cells #[.int .u64 c3, .int .u64 c2, .int .u64 c1, .int .u64 c0] 26)
      replace HB2 := HB2.alloc HB2.size (.cells #[.int .u64 c3, .int .u64 c2, .int .u64 c1, .int .u64 c0] 26)
      have R := Blk.new (w2.alloc (.cells #[.int .u64 c3, .int .u64 c2, .int .u64 c1, .int .u64 c0] 26)) [.int .u64 d3, .int .u64 d2, .int .u64 d1, .int .u64 d0] 26 (g := w2.heap.size + 1) (by simp)
      replace A := A.alloc (.cells #[.int .u64 d3, .int .u64 d2, .int .u64 d1, .int .u64 d0] 26)
      replace B := B.alloc (.cells #[.int .u64 d3, .int .u64 d2, .int .u64 d1, .int .u64 d0] 26)
      replace Q := Q.alloc (.cells #[.int .u64 d3, .int .u64 d2, .int .u64 d1, .int .u64 d0] 26)
      replace HB2 := HB2.alloc HB2.size (.cells #[.int .u64 d3, .int .u64 d2, .int .u64 d1, .int .u64 d0] 26)
      go_wp2_with fail
      refine (SD _).mono ?_
      rintro e w3 ⟨rfl, hB⟩
      replace A := A.step hB
      replace B := B.step hB
      replace Q := Q.step hB
      replace R := R.step hB
      have HB3 : Below w.heap.size w w3 := HB2.trans (hB.mono HB2.size)
      clear Ac0 Ac1 Ac2 Ac3 Al Bc0 Bc1 Bc2 Bc3 Bl
      clear hB HB2
      have Ac0 := A.c 0 rfl; have Ac1 := A.c 1 rfl; have Ac2 := A.c 2 rfl; have Ac3 := A.c 3 rfl; have Al := A.lt
      have Bc0 := B.c 0 rfl; have Bc1 := B.c 1 rfl; have Bc2 := B.c 2 rfl; have Bc3 := B.c 3 rfl; have Bl := B.lt
      have Qc0 := Q.c 0 rfl; have Qc1 := Q.c 1 rfl; have Qc2 := Q.c 2 rfl; have Qc3 := Q.c 3 rfl; have Ql := Q.lt
      have Rc0 := R.c 0 rfl; have Rc1 := R.c 1 rfl; have Rc2 := R.c 2 rfl; have Rc3 := R.c 3 rfl; have Rl := R.lt
      have U := Blk.new w3 [.int .u64 c3, .int .u64 c2, .int .u64 c1, .int .u64 c0] 26 rfl
      replace A := A.alloc (.cells #[.int .u64 c3, .int .u64 c2, .int .u64 c1, .int .u64 c0] 26)
      replace B := B.alloc (.cells #[.int .u64 c3, .int .u64 c2, .int .u64 c1, .int .u64 c0] 26)
      replace Q := Q.alloc (.cells #[.int .u64 c3, .int .u64 c2, .int .u64 c1, .int .u64 c0] 26)
      replace R := R.alloc (.cells #[.int .u64 c3, .int .u64 c2, .int .u64 c1, .int .u64 c0] 26)
      replace HB3 := HB3.alloc HB3.size (.cells #[.int .u64 c3, .int .u64 c2, .int .u64 c1, .int .u64 c0] 26)
      have V := Blk.new (w3.alloc (.cells #[.int .u64 c3, .int .u64 c2, .int .u64 c1, .int .u64 c0] 26)) [.int .u64 d3, .int .u64 d2, .int .u64 d1, .int .u64 d0] 26 (g := w3.heap.size + 1) (by simp)
      replace A := A.alloc (.cells #[.int .u64 d3, .int .u64 d2, .int .u64 d1, .int .u64 d0] 26)
      replace B := B.alloc (.cells #[.int .u64 d3, .int .u64 d2, .int .u64 d1, .int .u64 d0] 26)
      replace Q := Q.alloc (.cells #[.int .u64 d3, .int .u64 d2, .int .u64 d1, .int .u64 d0] 26)
      replace R := R.alloc (.cells #[.int .u64 d3, .int .u64 d2, .int .u64 d1, .int .u64 d0] 26)
      replace U := U.alloc (.cells #[.int .u64 d3, .int .u64 d2, .int .u64 d1, .int .u64 d0] 26)
      replace HB3 := HB3.alloc HB3.size (.cells #[.int .u64 d3, .int .u64 d2, .int .u64 d1, .int .u64 d0] 26)
      clear ID SD
      have er : cmpI (sw d3 d2 d1 d0) 0 = 0 ∨ cmpI (sw d3 d2 d1 d0) 0 = 1 := by rcases Int.lt_or_eq_of_le hr0 with h1 | h1; exact .inr (cmpI_gt h1); exact .inl (cmpI_eq h1.symm)
      by_cases hp : 0 < sw b3 b2 b1 b0
      · skip
        have hlt : sw d3 d2 d1 d0 < sw b3 b2 b1 b0 := by rw [ed]; exact Int.emod_lt_of_pos _ hp
        go_wp2_with fail
        refine (implCmp_any d3 d2 d1 d0 b3 b2 b1 b0 hd.1 hd.2.1 hd.2.2.1 hd.2.2.2 hb.1 hb.2.1 hb.2.2.1 hb.2.2.2 _).mono ?_
        rintro e w4 ⟨rfl, hB⟩
        rw [cmpI_lt hlt]
        replace A := A.step hB
        replace B := B.step hB
        replace Q := Q.step hB
        replace R := R.step hB
        replace U := U.step hB
        replace V := V.step hB
        have HB4 : Below w.heap.size w w4 := HB3.trans (hB.mono HB3.size)
        clear Ac0 Ac1 Ac2 Ac3 Al Bc0 Bc1 Bc2 Bc3 Bl Qc0 Qc1 Qc2 Qc3 Ql Rc0 Rc1 Rc2 Rc3 Rl
        clear hB HB3
        clear U
        clear V
        have Ac0 := A.c 0 rfl; have Ac1 := A.c 1 rfl; have Ac2 := A.c 2 rfl; have Ac3 := A.c 3 rfl; have Al := A.lt
        have Bc0 := B.c 0 rfl; have Bc1 := B.c 1 rfl; have Bc2 := B.c 2 rfl; have Bc3 := B.c 3 rfl; have Bl := B.lt
        have Qc0 := Q.c 0 rfl; have Qc1 := Q.c 1 rfl; have Qc2 := Q.c 2 rfl; have Qc3 := Q.c 3 rfl; have Ql := Q.lt
        have Rc0 := R.c 0 rfl; have Rc1 := R.c 1 rfl; have Rc2 := R.c 2 rfl; have Rc3 := R.c 3 rfl; have Rl := R.lt
        go_wp2_with fail
        refine (implSign_any b3 b2 b1 b0 hb.1 hb.2.1 hb.2.2.1 hb.2.2.2 _).mono ?_
        rintro e w5 ⟨rfl, hB⟩
        rw [cmpI_gt hp]
        replace A := A.step hB
        replace B := B.step hB
        replace Q := Q.step hB
        replace R := R.step hB
        have HB5 : Below w.heap.size w w5 := HB4.trans (hB.mono HB4.size)
        clear Ac0 Ac1 Ac2 Ac3 Al Bc0 Bc1 Bc2 Bc3 Bl Qc0 Qc1 Qc2 Qc3 Ql Rc0 Rc1 Rc2 Rc3 Rl
        clear hB HB4
        have Ac0 := A.c 0 rfl; have Ac1 := A.c 1 rfl; have Ac2 := A.c 2 rfl; have Ac3 := A.c 3 rfl; have Al := A.lt
        have Bc0 := B.c 0 rfl; have Bc1 := B.c 1 rfl; have Bc2 := B.c 2 rfl; have Bc3 := B.c 3 rfl; have Bl := B.lt
        have Qc0 := Q.c 0 rfl; have Qc1 := Q.c 1 rfl; have Qc2 := Q.c 2 rfl; have Qc3 := Q.c 3 rfl; have Ql := Q.lt
        have Rc0 := R.c 0 rfl; have Rc1 := R.c 1 rfl; have Rc2 := R.c 2 rfl; have Rc3 := R.c 3 rfl; have Rl := R.lt
        go_wp2_with fail
        refine (implMul_any c3 c2 c1 c0 b3 b2 b1 b0 hc.1 hc.2.1 hc.2.2.1 hc.2.2.2 hb.1 hb.2.1 hb.2.2.1 hb.2.2.2 _).mono ?_
        intro e w6 hM
        obtain ⟨p3, p2, p1, p0, m, rfl, hMw, hB⟩ := tell_words4 hM
        replace A := A.step hB
        replace B := B.step hB
        replace Q := Q.step hB
        replace R := R.step hB
        have HB6 : Below w.heap.size w w6 := HB5.trans (hB.mono HB5.size)
        clear Ac0 Ac1 Ac2 Ac3 Al Bc0 Bc1 Bc2 Bc3 Bl Qc0 Qc1 Qc2 Qc3 Ql Rc0 Rc1 Rc2 Rc3 Rl
        clear hB HB5
        have Ac0 := A.c 0 rfl; have Ac1 := A.c 1 rfl; have Ac2 := A.c 2 rfl; have Ac3 := A.c 3 rfl; have Al := A.lt
        have Bc0 := B.c 0 rfl; have Bc1 := B.c 1 rfl; have Bc2 := B.c 2 rfl; have Bc3 := B.c 3 rfl; have Bl := B.lt
        have Qc0 := Q.c 0 rfl; have Qc1 := Q.c 1 rfl; have Qc2 := Q.c 2 rfl; have Qc3 := Q.c 3 rfl; have Ql := Q.lt
        have Rc0 := R.c 0 rfl; have Rc1 := R.c 1 rfl; have Rc2 := R.c 2 rfl; have Rc3 := R.c 3 rfl; have Rl := R.lt
        have P := Blk.new w6 [.int .u64 p3, .int .u64 p2, .int .u64 p1, .int .u64 p0] 26 rfl
        replace A := A.alloc (.cells #[.int .u64 p3, .int .u64 p2, .int .u64 p1, .int .u64 p0] 26)
        replace B := B.alloc (.cells #[.int .u64 p3, .int .u64 p2, .int .u64 p1, .int .u64 p0] 26)
        replace Q := Q.alloc (.cells #[.int .u64 p3, .int .u64 p2, .int .u64 p1, .int .u64 p0] 26)
        replace R := R.alloc (.cells #[.int .u64 p3, .int .u64 p2, .int .u64 p1, .int .u64 p0] 26)
        replace HB6 := HB6.alloc HB6.size (.cells #[.int .u64 p3, .int .u64 p2, .int .u64 p1, .int .u64 p0] 26)
        cases m
        · skip
          rcases er with er | er
          · skip
            go_wp2_with fail
            refine (implSign_any d3 d2 d1 d0 hd.1 hd.2.1 hd.2.2.1 hd.2.2.2 _).mono ?_
            rintro e w7 ⟨rfl, hB⟩
            rw [er]
            replace A := A.step hB
            replace B := B.step hB
            replace Q := Q.step hB
            replace R := R.step hB
            replace P := P.step hB
            have HB7 : Below w.heap.size w w7 := HB6.trans (hB.mono HB6.size)
            clear Ac0 Ac1 Ac2 Ac3 Al Bc0 Bc1 Bc2 Bc3 Bl Qc0 Qc1 Qc2 Qc3 Ql Rc0 Rc1 Rc2 Rc3 Rl
            clear hB HB6
            clear B
            clear Q
            clear R
            clear P
            have Ac0 := A.c 0 rfl; have Ac1 := A.c 1 rfl; have Ac2 := A.c 2 rfl; have Ac3 := A.c 3 rfl; have Al := A.lt
            go_wp2
            all_goals go_ret
            all_goals exact ⟨rfl, HB7⟩
          · skip
            go_wp2_with fail
            refine (implSign_any d3 d2 d1 d0 hd.1 hd.2.1 hd.2.2.1 hd.2.2.2 _).mono ?_
            rintro e w7 ⟨rfl, hB⟩
            rw [er]
            replace A := A.step hB
            replace B := B.step hB
            replace Q := Q.step hB
            replace R := R.step hB
            replace P := P.step hB
            have HB7 : Below w.heap.size w w7 := HB6.trans (hB.mono HB6.size)
            clear Ac0 Ac1 Ac2 Ac3 Al Bc0 Bc1 Bc2 Bc3 Bl Qc0 Qc1 Qc2 Qc3 Ql Rc0 Rc1 Rc2 Rc3 Rl
            clear hB HB6
            clear B
            clear Q
            clear R
            clear P
            have Ac0 := A.c 0 rfl; have Ac1 := A.c 1 rfl; have Ac2 := A.c 2 rfl; have Ac3 := A.c 3 rfl; have Al := A.lt
            go_wp2
            all_goals go_ret
            all_goals exact ⟨rfl, HB7⟩
        · skip
          have eP := (tell_yes hM).2
          rcases er with er | er
          · skip
            go_wp2_with fail
            refine (implSign_any d3 d2 d1 d0 hd.1 hd.2.1 hd.2.2.1 hd.2.2.2 _).mono ?_
            rintro e w7 ⟨rfl, hB⟩
            rw [er]
            replace A := A.step hB
            replace B := B.step hB
            replace Q := Q.step hB
            replace R := R.step hB
            replace P := P.step hB
            have HB7 : Below w.heap.size w w7 := HB6.trans (hB.mono HB6.size)
            clear Ac0 Ac1 Ac2 Ac3 Al Bc0 Bc1 Bc2 Bc3 Bl Qc0 Qc1 Qc2 Qc3 Ql Rc0 Rc1 Rc2 Rc3 Rl
            clear hB HB6
            clear B
            clear Q
            have Ac0 := A.c 0 rfl; have Ac1 := A.c 1 rfl; have Ac2 := A.c 2 rfl; have Ac3 := A.c 3 rfl; have Al := A.lt
            have Rc0 := R.c 0 rfl; have Rc1 := R.c 1 rfl; have Rc2 := R.c 2 rfl; have Rc3 := R.c 3 rfl; have Rl := R.lt
            have Pc0 := P.c 0 rfl; have Pc1 := P.c 1 rfl; have Pc2 := P.c 2 rfl; have Pc3 := P.c 3 rfl; have Pl := P.lt
            go_wp2_with fail
            refine (implAdd_any p3 p2 p1 p0 d3 d2 d1 d0 hMw.1 hMw.2.1 hMw.2.2.1 hMw.2.2.2 hd.1 hd.2.1 hd.2.2.1 hd.2.2.2 _).mono ?_
            intro e w8 hV
            obtain ⟨v3, v2, v1, v0, gd, rfl, hVw, hB⟩ := tell_words4 hV
            obtain ⟨rfl, rfl, rfl, rfl, rfl⟩ := tell_back hV ha (by rw [eP, hsum])
            clear hV hVw
            replace A := A.step hB
            replace R := R.step hB
            replace P := P.step hB
            have HB8 : Below w.heap.size w w8 := HB7.trans (hB.mono HB7.size)
            clear Ac0 Ac1 Ac2 Ac3 Al Rc0 Rc1 Rc2 Rc3 Rl Pc0 Pc1 Pc2 Pc3 Pl
            clear hB HB7
            clear R
            clear P
            have Ac0 := A.c 0 rfl; have Ac1 := A.c 1 rfl; have Ac2 := A.c 2 rfl; have Ac3 := A.c 3 rfl; have Al := A.lt
            have V2 := Blk.new w8 [.int .u64 a3, .int .u64 a2, .int .u64 a1, .int .u64 a0] 26 rfl
            replace A := A.alloc (.cells #[.int .u64 a3, .int .u64 a2, .int .u64 a1, .int .u64 a0] 26)
            replace HB8 := HB8.alloc HB8.size (.cells #[.int .u64 a3, .int .u64 a2, .int .u64 a1, .int .u64 a0] 26)
            have haa : (a3 == a3) = true := by simp
            go_wp2
            all_goals go_ret
            all_goals exact ⟨rfl, HB8⟩
          · skip
            go_wp2_with fail
            refine (implSign_any d3 d2 d1 d0 hd.1 hd.2.1 hd.2.2.1 hd.2.2.2 _).mono ?_
            rintro e w7 ⟨rfl, hB⟩
            rw [er]
            replace A := A.step hB
            replace B := B.step hB
            replace Q := Q.step hB
            replace R := R.step hB
            replace P := P.step hB
            have HB7 : Below w.heap.size w w7 := HB6.trans (hB.mono HB6.size)
            clear Ac0 Ac1 Ac2 Ac3 Al Bc0 Bc1 Bc2 Bc3 Bl Qc0 Qc1 Qc2 Qc3 Ql Rc0 Rc1 Rc2 Rc3 Rl
            clear hB HB6
            clear B
            clear Q
            have Ac0 := A.c 0 rfl; have Ac1 := A.c 1 rfl; have Ac2 := A.c 2 rfl; have Ac3 := A.c 3 rfl; have Al := A.lt
            have Rc0 := R.c 0 rfl; have Rc1 := R.c 1 rfl; have Rc2 := R.c 2 rfl; have Rc3 := R.c 3 rfl; have Rl := R.lt
            have Pc0 := P.c 0 rfl; have Pc1 := P.c 1 rfl; have Pc2 := P.c 2 rfl; have Pc3 := P.c 3 rfl; have Pl := P.lt
            go_wp2_with fail
            refine (implAdd_any p3 p2 p1 p0 d3 d2 d1 d0 hMw.1 hMw.2.1 hMw.2.2.1 hMw.2.2.2 hd.1 hd.2.1 hd.2.2.1 hd.2.2.2 _).mono ?_
            intro e w8 hV
            obtain ⟨v3, v2, v1, v0, gd, rfl, hVw, hB⟩ := tell_words4 hV
            obtain ⟨rfl, rfl, rfl, rfl, rfl⟩ := tell_back hV ha (by rw [eP, hsum])
            clear hV hVw
            replace A := A.step hB
            replace R := R.step hB
            replace P := P.step hB
            have HB8 : Below w.heap.size w w8 := HB7.trans (hB.mono HB7.size)
            clear Ac0 Ac1 Ac2 Ac3 Al Rc0 Rc1 Rc2 Rc3 Rl Pc0 Pc1 Pc2 Pc3 Pl
            clear hB HB7
            clear R
            clear P
            have Ac0 := A.c 0 rfl; have Ac1 := A.c 1 rfl; have Ac2 := A.c 2 rfl; have Ac3 := A.c 3 rfl; have Al := A.lt
            have V2 := Blk.new w8 [.int .u64 a3, .int .u64 a2, .int .u64 a1, .int .u64 a0] 26 rfl
            replace A := A.alloc (.cells #[.int .u64 a3, .int .u64 a2, .int .u64 a1, .int .u64 a0] 26)
            replace HB8 := HB8.alloc HB8.size (.cells #[.int .u64 a3, .int .u64 a2, .int .u64 a1, .int .u64 a0] 26)
            have haa : (a3 == a3) = true := by simp
            go_wp2
            all_goals go_ret
            all_goals exact ⟨rfl, HB8⟩
      · skip
        have hn : sw b3 b2 b1 b0 < 0 := by omega
        have hlt : sw d3 d2 d1 d0 < -(sw b3 b2 b1 b0) := by rw [ed]; have := Int.emod_lt (sw a3 a2 a1 a0) hy; omega
        go_wp2_with fail
        refine (implCmp_any d3 d2 d1 d0 b3 b2 b1 b0 hd.1 hd.2.1 hd.2.2.1 hd.2.2.2 hb.1 hb.2.1 hb.2.2.1 hb.2.2.2 _).mono ?_
        rintro e w4 ⟨rfl, hB⟩
        rw [cmpI_gt (show sw b3 b2 b1 b0 < sw d3 d2 d1 d0 by omega)]
        replace A := A.step hB
        replace B := B.step hB
        replace Q := Q.step hB
        replace R := R.step hB
        replace U := U.step hB
        replace V := V.step hB
        have HB4 : Below w.heap.size w w4 := HB3.trans (hB.mono HB3.size)
        clear Ac0 Ac1 Ac2 Ac3 Al Bc0 Bc1 Bc2 Bc3 Bl Qc0 Qc1 Qc2 Qc3 Ql Rc0 Rc1 Rc2 Rc3 Rl
        clear hB HB3
        clear U
        clear V
        have Ac0 := A.c 0 rfl; have Ac1 := A.c 1 rfl; have Ac2 := A.c 2 rfl; have Ac3 := A.c 3 rfl; have Al := A.lt
        have Bc0 := B.c 0 rfl; have Bc1 := B.c 1 rfl; have Bc2 := B.c 2 rfl; have Bc3 := B.c 3 rfl; have Bl := B.lt
        have Qc0 := Q.c 0 rfl; have Qc1 := Q.c 1 rfl; have Qc2 := Q.c 2 rfl; have Qc3 := Q.c 3 rfl; have Ql := Q.lt
        have Rc0 := R.c 0 rfl; have Rc1 := R.c 1 rfl; have Rc2 := R.c 2 rfl; have Rc3 := R.c 3 rfl; have Rl := R.lt
        go_wp2_with fail
        refine (implSign_any b3 b2 b1 b0 hb.1 hb.2.1 hb.2.2.1 hb.2.2.2 _).mono ?_
        rintro e w5 ⟨rfl, hB⟩
        rw [cmpI_lt hn]
        replace A := A.step hB
        replace B := B.step hB
        replace Q := Q.step hB
        replace R := R.step hB
        have HB5 : Below w.heap.size w w5 := HB4.trans (hB.mono HB4.size)
        clear Ac0 Ac1 Ac2 Ac3 Al Bc0 Bc1 Bc2 Bc3 Bl Qc0 Qc1 Qc2 Qc3 Ql Rc0 Rc1 Rc2 Rc3 Rl
        clear hB HB4
        have Ac0 := A.c 0 rfl; have Ac1 := A.c 1 rfl; have Ac2 := A.c 2 rfl; have Ac3 := A.c 3 rfl; have Al := A.lt
        have Bc0 := B.c 0 rfl; have Bc1 := B.c 1 rfl; have Bc2 := B.c 2 rfl; have Bc3 := B.c 3 rfl; have Bl := B.lt
        have Qc0 := Q.c 0 rfl; have Qc1 := Q.c 1 rfl; have Qc2 := Q.c 2 rfl; have Qc3 := Q.c 3 rfl; have Ql := Q.lt
        have Rc0 := R.c 0 rfl; have Rc1 := R.c 1 rfl; have Rc2 := R.c 2 rfl; have Rc3 := R.c 3 rfl; have Rl := R.lt
        go_wp2_with fail
        refine (implAdd_any d3 d2 d1 d0 b3 b2 b1 b0 hd.1 hd.2.1 hd.2.2.1 hd.2.2.2 hb.1 hb.2.1 hb.2.2.1 hb.2.2.2 _).mono ?_
        intro e w6 hS
        obtain ⟨s3, s2, s1, s0, sf, rfl, hSw, hB⟩ := tell_words4 hS
        obtain ⟨rfl, eS⟩ := tell_in hS (told_neg hr0 hn (told_sw hb))
        clear hS
        replace A := A.step hB
        replace B := B.step hB
        replace Q := Q.step hB
        replace R := R.step hB
        have HB6 : Below w.heap.size w w6 := HB5.trans (hB.mono HB5.size)
        clear Ac0 Ac1 Ac2 Ac3 Al Bc0 Bc1 Bc2 Bc3 Bl Qc0 Qc1 Qc2 Qc3 Ql Rc0 Rc1 Rc2 Rc3 Rl
        clear hB HB5
        have Ac0 := A.c 0 rfl; have Ac1 := A.c 1 rfl; have Ac2 := A.c 2 rfl; have Ac3 := A.c 3 rfl; have Al := A.lt
        have Bc0 := B.c 0 rfl; have Bc1 := B.c 1 rfl; have Bc2 := B.c 2 rfl; have Bc3 := B.c 3 rfl; have Bl := B.lt
        have Qc0 := Q.c 0 rfl; have Qc1 := Q.c 1 rfl; have Qc2 := Q.c 2 rfl; have Qc3 := Q.c 3 rfl; have Ql := Q.lt
        have Rc0 := R.c 0 rfl; have Rc1 := R.c 1 rfl; have Rc2 := R.c 2 rfl; have Rc3 := R.c 3 rfl; have Rl := R.lt
        have S := Blk.new w6 [.int .u64 s3, .int .u64 s2, .int .u64 s1, .int .u64 s0] 26 rfl
        replace A := A.alloc (.cells #[.int .u64 s3, .int .u64 s2, .int .u64 s1, .int .u64 s0] 26)
        replace B := B.alloc (.cells #[.int .u64 s3, .int .u64 s2, .int .u64 s1, .int .u64 s0] 26)
        replace Q := Q.alloc (.cells #[.int .u64 s3, .int .u64 s2, .int .u64 s1, .int .u64 s0] 26)
        replace R := R.alloc (.cells #[.int .u64 s3, .int .u64 s2, .int .u64 s1, .int .u64 s0] 26)
        replace HB6 := HB6.alloc HB6.size (.cells #[.int .u64 s3, .int .u64 s2, .int .u64 s1, .int .u64 s0] 26)
        go_wp2_with fail
        refine (implSign_any s3 s2 s1 s0 hSw.1 hSw.2.1 hSw.2.2.1 hSw.2.2.2 _).mono ?_
        rintro e w7 ⟨rfl, hB⟩
        rw [eS, cmpI_lt (by omega)]
        replace A := A.step hB
        replace B := B.step hB
        replace Q := Q.step hB
        replace R := R.step hB
        replace S := S.step hB
        have HB7 : Below w.heap.size w w7 := HB6.trans (hB.mono HB6.size)
        clear Ac0 Ac1 Ac2 Ac3 Al Bc0 Bc1 Bc2 Bc3 Bl Qc0 Qc1 Qc2 Qc3 Ql Rc0 Rc1 Rc2 Rc3 Rl
        clear hB HB6
        clear S
        have Ac0 := A.c 0 rfl; have Ac1 := A.c 1 rfl; have Ac2 := A.c 2 rfl; have Ac3 := A.c 3 rfl; have Al := A.lt
        have Bc0 := B.c 0 rfl; have Bc1 := B.c 1 rfl; have Bc2 := B.c 2 rfl; have Bc3 := B.c 3 rfl; have Bl := B.lt
        have Qc0 := Q.c 0 rfl; have Qc1 := Q.c 1 rfl; have Qc2 := Q.c 2 rfl; have Qc3 := Q.c 3 rfl; have Ql := Q.lt
        have Rc0 := R.c 0 rfl; have Rc1 := R.c 1 rfl; have Rc2 := R.c 2 rfl; have Rc3 := R.c 3 rfl; have Rl := R.lt
        go_wp2_with fail
        refine (implMul_any c3 c2 c1 c0 b3 b2 b1 b0 hc.1 hc.2.1 hc.2.2.1 hc.2.2.2 hb.1 hb.2.1 hb.2.2.1 hb.2.2.2 _).mono ?_
        intro e w8 hM
        obtain ⟨p3, p2, p1, p0, m, rfl, hMw, hB⟩ := tell_words4 hM
        replace A := A.step hB
        replace B := B.step hB
        replace Q := Q.step hB
        replace R := R.step hB
        have HB8 : Below w.heap.size w w8 := HB7.trans (hB.mono HB7.size)
        clear Ac0 Ac1 Ac2 Ac3 Al Bc0 Bc1 Bc2 Bc3 Bl Qc0 Qc1 Qc2 Qc3 Ql Rc0 Rc1 Rc2 Rc3 Rl
        clear hB HB7
        have Ac0 := A.c 0 rfl; have Ac1 := A.c 1 rfl; have Ac2 := A.c 2 rfl; have Ac3 := A.c 3 rfl; have Al := A.lt
        have Bc0 := B.c 0 rfl; have Bc1 := B.c 1 rfl; have Bc2 := B.c 2 rfl; have Bc3 := B.c 3 rfl; have Bl := B.lt
        have Qc0 := Q.c 0 rfl; have Qc1 := Q.c 1 rfl; have Qc2 := Q.c 2 rfl; have Qc3 := Q.c 3 rfl; have Ql := Q.lt
        have Rc0 := R.c 0 rfl; have Rc1 := R.c 1 rfl; have Rc2 := R.c 2 rfl; have Rc3 := R.c 3 rfl; have Rl := R.lt
        have P := Blk.new w8 [.int .u64 p3, .int .u64 p2, .int .u64 p1, .int .u64 p0] 26 rfl
        replace A := A.alloc (.cells #[.int .u64 p3, .int .u64 p2, .int .u64 p1, .int .u64 p0] 26)
        replace B := B.alloc (.cells #[.int .u64 p3, .int .u64 p2, .int .u64 p1, .int .u64 p0] 26)
        replace Q := Q.alloc (.cells #[.int .u64 p3, .int .u64 p2, .int .u64 p1, .int .u64 p0] 26)
        replace R := R.alloc (.cells #[.int .u64 p3, .int .u64 p2, .int .u64 p1, .int .u64 p0] 26)
        replace HB8 := HB8.alloc HB8.size (.cells #[.int .u64 p3, .int .u64 p2, .int .u64 p1, .int .u64 p0] 26)
        cases m
        · skip
          rcases er with er | er
          · skip
            go_wp2_with fail
            refine (implSign_any d3 d2 d1 d0 hd.1 hd.2.1 hd.2.2.1 hd.2.2.2 _).mono ?_
            rintro e w9 ⟨rfl, hB⟩
            rw [er]
            replace A := A.step hB
            replace B := B.step hB
            replace Q := Q.step hB
            replace R := R.step hB
            replace P := P.step hB
            have HB9 : Below w.heap.size w w9 := HB8.trans (hB.mono HB8.size)
            clear Ac0 Ac1 Ac2 Ac3 Al Bc0 Bc1 Bc2 Bc3 Bl Qc0 Qc1 Qc2 Qc3 Ql Rc0 Rc1 Rc2 Rc3 Rl
            clear hB HB8
            clear B
            clear Q
            clear R
            clear P
            have Ac0 := A.c 0 rfl; have Ac1 := A.c 1 rfl; have Ac2 := A.c 2 rfl; have Ac3 := A.c 3 rfl; have Al := A.lt
            go_wp2
            all_goals go_ret
            all_goals exact ⟨rfl, HB9⟩
          · skip
            go_wp2_with fail
            refine (implSign_any d3 d2 d1 d0 hd.1 hd.2.1 hd.2.2.1 hd.2.2.2 _).mono ?_
            rintro e w9 ⟨rfl, hB⟩
            rw [er]
            replace A := A.step hB
            replace B := B.step hB
            replace Q := Q.step hB
            replace R := R.step hB
            replace P := P.step hB
            have HB9 : Below w.heap.size w w9 := HB8.trans (hB.mono HB8.size)
            clear Ac0 Ac1 Ac2 Ac3 Al Bc0 Bc1 Bc2 Bc3 Bl Qc0 Qc1 Qc2 Qc3 Ql Rc0 Rc1 Rc2 Rc3 Rl
            clear hB HB8
            clear B
            clear Q
            clear R
            clear P
            have Ac0 := A.c 0 rfl; have Ac1 := A.c 1 rfl; have Ac2 := A.c 2 rfl; have Ac3 := A.c 3 rfl; have Al := A.lt
            go_wp2
            all_goals go_ret
            all_goals exact ⟨rfl, HB9⟩
        · skip
          have eP := (tell_yes hM).2
          rcases er with er | er
          · skip
            go_wp2_with fail
            refine (implSign_any d3 d2 d1 d0 hd.1 hd.2.1 hd.2.2.1 hd.2.2.2 _).mono ?_
            rintro e w9 ⟨rfl, hB⟩
            rw [er]
            replace A := A.step hB
            replace B := B.step hB
            replace Q := Q.step hB
            replace R := R.step hB
            replace P := P.step hB
            have HB9 : Below w.heap.size w w9 := HB8.trans (hB.mono HB8.size)
            clear Ac0 Ac1 Ac2 Ac3 Al Bc0 Bc1 Bc2 Bc3 Bl Qc0 Qc1 Qc2 Qc3 Ql Rc0 Rc1 Rc2 Rc3 Rl
            clear hB HB8
            clear B
            clear Q
            have Ac0 := A.c 0 rfl; have Ac1 := A.c 1 rfl; have Ac2 := A.c 2 rfl; have Ac3 := A.c 3 rfl; have Al := A.lt
            have Rc0 := R.c 0 rfl; have Rc1 := R.c 1 rfl; have Rc2 := R.c 2 rfl; have Rc3 := R.c 3 rfl; have Rl := R.lt
            have Pc0 := P.c 0 rfl; have Pc1 := P.c 1 rfl; have Pc2 := P.c 2 rfl; have Pc3 := P.c 3 rfl; have Pl := P.lt
            go_wp2_with fail
            refine (implAdd_any p3 p2 p1 p0 d3 d2 d1 d0 hMw.1 hMw.2.1 hMw.2.2.1 hMw.2.2.2 hd.1 hd.2.1 hd.2.2.1 hd.2.2.2 _).mono ?_
            intro e w10 hV
            obtain ⟨v3, v2, v1, v0, gd, rfl, hVw, hB⟩ := tell_words4 hV
            obtain ⟨rfl, rfl, rfl, rfl, rfl⟩ := tell_back hV ha (by rw [eP, hsum])
            clear hV hVw
            replace A := A.step hB
            replace R := R.step hB
            replace P := P.step hB
            have HB10 : Below w.heap.size w w10 := HB9.trans (hB.mono HB9.size)
            clear Ac0 Ac1 Ac2 Ac3 Al Rc0 Rc1 Rc2 Rc3 Rl Pc0 Pc1 Pc2 Pc3 Pl
            clear hB HB9
            clear R
            clear P
            have Ac0 := A.c 0 rfl; have Ac1 := A.c 1 rfl; have Ac2 := A.c 2 rfl; have Ac3 := A.c 3 rfl; have Al := A.lt
            have V2 := Blk.new w10 [.int .u64 a3, .int .u64 a2, .int .u64 a1, .int .u64 a0] 26 rfl
            replace A := A.alloc (.cells #[.int .u64 a3, .int .u64 a2, .int .u64 a1, .int .u64 a0] 26)
            replace HB10 := HB10.alloc HB10.size (.cells #[.int .u64 a3, .int .u64 a2, .int .u64 a1, .int .u64 a0] 26)
            have haa : (a3 == a3) = true := by simp
            go_wp2
            all_goals go_ret
            all_goals exact ⟨rfl, HB10⟩
          · skip
            go_wp2_with fail
            refine (implSign_any d3 d2 d1 d0 hd.1 hd.2.1 hd.2.2.1 hd.2.2.2 _).mono ?_
            rintro e w9 ⟨rfl, hB⟩
            rw [er]
            replace A := A.step hB
            replace B := B.step hB
            replace Q := Q.step hB
            replace R := R.step hB
            replace P := P.step hB
            have HB9 : Below w.heap.size w w9 := HB8.trans (hB.mono HB8.size)
            clear Ac0 Ac1 Ac2 Ac3 Al Bc0 Bc1 Bc2 Bc3 Bl Qc0 Qc1 Qc2 Qc3 Ql Rc0 Rc1 Rc2 Rc3 Rl
            clear hB HB8
            clear B
            clear Q
            have Ac0 := A.c 0 rfl; have Ac1 := A.c 1 rfl; have Ac2 := A.c 2 rfl; have Ac3 := A.c 3 rfl; have Al := A.lt
            have Rc0 := R.c 0 rfl; have Rc1 := R.c 1 rfl; have Rc2 := R.c 2 rfl; have Rc3 := R.c 3 rfl; have Rl := R.lt
            have Pc0 := P.c 0 rfl; have Pc1 := P.c 1 rfl; have Pc2 := P.c 2 rfl; have Pc3 := P.c 3 rfl; have Pl := P.lt
            go_wp2_with fail
            refine (implAdd_any p3 p2 p1 p0 d3 d2 d1 d0 hMw.1 hMw.2.1 hMw.2.2.1 hMw.2.2.2 hd.1 hd.2.1 hd.2.2.1 hd.2.2.2 _).mono ?_
            intro e w10 hV
            obtain ⟨v3, v2, v1, v0, gd, rfl, hVw, hB⟩ := tell_words4 hV
            obtain ⟨rfl, rfl, rfl, rfl, rfl⟩ := tell_back hV ha (by rw [eP, hsum])
            clear hV hVw
            replace A := A.step hB
            replace R := R.step hB
            replace P := P.step hB
            have HB10 : Below w.heap.size w w10 := HB9.trans (hB.mono HB9.size)
            clear Ac0 Ac1 Ac2 Ac3 Al Rc0 Rc1 Rc2 Rc3 Rl Pc0 Pc1 Pc2 Pc3 Pl
            clear hB HB9
            clear R
            clear P
            have Ac0 := A.c 0 rfl; have Ac1 := A.c 1 rfl; have Ac2 := A.c 2 rfl; have Ac3 := A.c 3 rfl; have Al := A.lt
            have V2 := Blk.new w10 [.int .u64 a3, .int .u64 a2, .int .u64 a1, .int .u64 a0] 26 rfl
            replace A := A.alloc (.cells #[.int .u64 a3, .int .u64 a2, .int .u64 a1, .int .u64 a0] 26)
            replace HB10 := HB10.alloc HB10.size (.cells #[.int .u64 a3, .int .u64 a2, .int .u64 a1, .int .u64 a0] 26)
            have haa : (a3 == a3) = true := by simp
            go_wp2
            all_goals go_ret
            all_goals exact ⟨rfl, HB10⟩
end Go.Proofs.Ytllfpnnngdphfaa
