/- Part 5 of the walks that the proof leans on. -/
import Derived.Test.YtgbogbmbghpadaaPart4
import Derived.Test.YtgbogbmbghpadaaPart3
import Derived.Deep.QuietTactic
import Derived.BigQuiet
import Derived.Deep.RegionHeld3
import Derived.Test.YtgbogbmbghpadaaPart1
/- The walks of a number's size without its sign, of the count of its words and of its bits, and of the law over them. -/
namespace Go.Proofs.Ytgbogbmbghpadaa
open Go.RowKit
theorem wd0 : Word 0 := ⟨by decide, by decide⟩
/-- Four words that stand for a number without its sign, the lowest first. -/
def SizeP (z : Int) (w : World) (e : Ending) (w' : World) : Prop :=
  ∃ x3 x2 x1 x0, e = .returned (.agg #[.int .u64 x0, .int .u64 x1, .int .u64 x2, .int .u64 x3]) ∧ Word x3 ∧ Word x2 ∧ Word x1 ∧ Word x0 ∧ uw x3 x2 x1 x0 = (z.natAbs : Int) ∧ Below w.heap.size w w'
theorem sizeP_set {z : Int} {w W : World} {R : Nat} {e : Ending} {u0 u1 u2 u3 : Value} (hR : w.heap.size ≤ R) (h : SizeP z w e W) : SizeP z w e ((((W.setCell ⟨R, 0, none⟩ u0).setCell ⟨R, 1, none⟩ u1).setCell ⟨R, 2, none⟩ u2).setCell ⟨R, 3, none⟩ u3) := by
  obtain ⟨x3, x2, x1, x0, e1, h3, h2, h1, h0, hu, hB⟩ := h
  exact ⟨x3, x2, x1, x0, e1, h3, h2, h1, h0, hu, tell_below hB hR⟩
set_option maxRecDepth 100000 in
set_option maxHeartbeats 1000000 in
theorem sizeOf_any (a3 a2 a1 a0 : Int) (h3 : Word a3) (h2 : Word a2) (h1 : Word a1) (h0 : Word a0) (w : World) :
    Calls Try.prog 41 #[.agg #[.int .u64 a3, .int .u64 a2, .int .u64 a1, .int .u64 a0]] w (SizeP (sw a3 a2 a1 a0) w) := by
  have hn := sw_neg h3 h2 h1 h0
  have A0 : Wd ((w.alloc (Obj.cells #[Value.int IntKind.u64 a3, Value.int IntKind.u64 a2, Value.int IntKind.u64 a1, Value.int IntKind.u64 a0] 26)).alloc (Obj.cells #[Value.int IntKind.u64 0, Value.int IntKind.u64 0, Value.int IntKind.u64 0, Value.int IntKind.u64 0] 41)) w.heap.size a3 a2 a1 a0 := (Wd.new _ _ _ _ _ 26 rfl).alloc _
  have R0 : Wd ((w.alloc (Obj.cells #[Value.int IntKind.u64 a3, Value.int IntKind.u64 a2, Value.int IntKind.u64 a1, Value.int IntKind.u64 a0] 26)).alloc (Obj.cells #[Value.int IntKind.u64 0, Value.int IntKind.u64 0, Value.int IntKind.u64 0, Value.int IntKind.u64 0] 41)) (w.heap.size + 1) 0 0 0 0 := Wd.new _ 0 0 0 0 41 (by simp)
  have HB : Below w.heap.size w ((w.alloc (Obj.cells #[Value.int IntKind.u64 a3, Value.int IntKind.u64 a2, Value.int IntKind.u64 a1, Value.int IntKind.u64 a0] 26)).alloc (Obj.cells #[Value.int IntKind.u64 0, Value.int IntKind.u64 0, Value.int IntKind.u64 0, Value.int IntKind.u64 0] 41)) := ((Below.refl _ _).alloc (Nat.le_refl _) _).alloc (by simp) _
  by_cases hp : 9223372036854775808 ≤ a3
  · have hb : (a3 / 9223372036854775808 == 1) = true := beq_iff_eq.2 (by have := h3.2; omega)
    go_enter Try.func41, Try.ntmps41
    go_wp2_with fail
    refine (isBelow_any a3 a2 a1 a0 h3 true hb _).mono ?_
    rintro e w1 ⟨rfl, hB⟩
    replace A0 := A0.step hB
    replace R0 := R0.step hB
    replace HB := HB.trans (hB.mono HB.size)
    clear hB
    have i0 := A0.c0; have i1 := A0.c1; have i2 := A0.c2; have i3 := A0.c3
    go_wp2_with fail
    refine (wordsOf_any a3 a2 a1 a0 _).mono ?_
    rintro e w2 ⟨rfl, hB⟩
    replace R0 := R0.step hB
    replace HB := HB.trans (hB.mono HB.size)
    clear hB A0 i0 i1 i2 i3
    go_wp2_with fail
    refine (minus4 0 0 0 0 a0 a1 a2 a3 (words4 wd0 wd0 wd0 wd0) (words4 h0 h1 h2 h3) _).mono ?_
    rintro e w3 ⟨zs, c, rfl, g1, g2, g3, g4, g5, hB⟩
    obtain ⟨z0, z1, z2, z3, rfl⟩ := list4 g1
    obtain ⟨l0, l1, l2, l3⟩ := words4_of g2
    rw [val64_4, val64_4, val64_4, show [(0 : Int), 0, 0, 0].length = 4 from rfl] at g5
    replace R0 := R0.step hB
    replace HB := HB.trans (hB.mono HB.size)
    have HP : Hid (SizeP (sw a3 a2 a1 a0) w (.returned (.agg #[.int .u64 z0, .int .u64 z1, .int .u64 z2, .int .u64 z3])) w3) := by
      refine ⟨z3, z2, z1, z0, rfl, l3, l2, l1, l0, ?_, HB⟩
      have e1 : pw64 4 = 115792089237316195423570985008687907853269984665640564039457584007913129639936 := by decide
      rw [e1] at g5
      have e2 : sw a3 a2 a1 a0 = uw a3 a2 a1 a0 - 115792089237316195423570985008687907853269984665640564039457584007913129639936 := by unfold sw; rw [if_neg (by omega)]
      have e3 := uw_bound h3 h2 h1 h0
      have e4 := uw_bound l3 l2 l1 l0
      have e5 : uw 0 0 0 0 = 0 := by decide
      have e6 : uw a3 a2 a1 a0 ≠ 0 := by unfold uw; unfold Word at *; omega
      omega
    have r0 := R0.c0; have r1 := R0.c1; have r2 := R0.c2; have r3 := R0.c3; have f0 := R0.f0; have f1 := R0.f1; have f2 := R0.f2; have f3 := R0.f3
    clear hB g5 g1 g2 g3 g4 HB R0
    go_wp2
    refine bodyPost_ret (v := .agg #[.int .u64 z0, .int .u64 z1, .int .u64 z2, .int .u64 z3]) (by simp [results, Try.results41, go_sem, r0, r1, r2, r3]) rfl ?_
    exact sizeP_set (Nat.le_succ _) HP.out
  · have hb : (a3 / 9223372036854775808 == 1) = false := beq_eq_false_iff_ne.2 (by have := h3.1; omega)
    go_enter Try.func41, Try.ntmps41
    go_wp2_with fail
    refine (isBelow_any a3 a2 a1 a0 h3 false hb _).mono ?_
    rintro e w1 ⟨rfl, hB⟩
    replace A0 := A0.step hB
    replace R0 := R0.step hB
    replace HB := HB.trans (hB.mono HB.size)
    clear hB
    have i0 := A0.c0; have i1 := A0.c1; have i2 := A0.c2; have i3 := A0.c3
    go_wp2_with fail
    refine (wordsOf_any a3 a2 a1 a0 _).mono ?_
    rintro e w2 ⟨rfl, hB⟩
    replace R0 := R0.step hB
    replace HB := HB.trans (hB.mono HB.size)
    have HP : Hid (SizeP (sw a3 a2 a1 a0) w (.returned (.agg #[.int .u64 a0, .int .u64 a1, .int .u64 a2, .int .u64 a3])) w2) := by
      refine ⟨a3, a2, a1, a0, rfl, h3, h2, h1, h0, ?_, HB⟩
      have e2 : sw a3 a2 a1 a0 = uw a3 a2 a1 a0 := by unfold sw; rw [if_pos (by omega)]
      have e3 := uw_bound h3 h2 h1 h0
      omega
    have r0 := R0.c0; have r1 := R0.c1; have r2 := R0.c2; have r3 := R0.c3; have f0 := R0.f0; have f1 := R0.f1; have f2 := R0.f2; have f3 := R0.f3
    clear hB HB R0 A0 i0 i1 i2 i3
    go_wp2
    refine bodyPost_ret (v := .agg #[.int .u64 a0, .int .u64 a1, .int .u64 a2, .int .u64 a3]) (by simp [results, Try.results41, go_sem, r0, r1, r2, r3]) rfl ?_
    exact sizeP_set (Nat.le_succ _) HP.out
/-- How many words are left when those that are 0 at the high end are cut off. -/
def CountP (xs : List Int) (w : World) (e : Ending) (w' : World) : Prop :=
  ∃ n : Nat, e = .returned (.int .i64 n) ∧ n ≤ xs.length ∧ (∀ j, n ≤ j → (h : j < xs.length) → xs[j] = 0) ∧ (∀ m, n = m + 1 → (h : m < xs.length) → xs[m] ≠ 0) ∧ w' = w
theorem count_some (w : World) {xs : List Int} {m : Nat} (hm : m < xs.length) (h0 : xs[m] ≠ 0) (hz : ∀ j, m + 1 ≤ j → (h : j < xs.length) → xs[j] = 0) (v : Int) (hv : v = ((m + 1 : Nat) : Int)) : CountP xs w (.returned (.int .i64 v)) w :=
  ⟨m + 1, by rw [hv], hm, hz, fun i hi hl => by
    have : m = i := by omega
    subst this
    exact h0, rfl⟩
set_option maxRecDepth 100000 in
set_option maxHeartbeats 400000 in
theorem countWords_any (A off n cap : Nat) (xs : List Int) (w : World) (hn : xs.length = n) (hr : Row w A off xs) (hm : n ≤ 1000) :
    Calls Try.prog 42 #[.slice (some ⟨A, off, none⟩) n cap] w (CountP xs w) := by
  go_enter Try.func42, Try.ntmps42
  go_wp2
  go_loop [3] (fun i => ∃ k : Nat, k ≤ n ∧ i = .int .i64 k ∧ ∀ j, k ≤ j → (h : j < xs.length) → xs[j] = 0) (fun i => (intOf i).toNat)
  case atStart => exact ⟨n, Nat.le_refl _, rfl, fun j h1 h2 => by omega⟩
  case round =>
    obtain ⟨k, hk, rfl, hz⟩ := hrel
    have HN : Hid (xs.length = n) := hn
    have HZ : Hid (∀ j, k ≤ j → (h : j < xs.length) → xs[j] = 0) := hz
    have HR : Hid (Row w A off xs) := hr
    clear hz hr hn
    by_cases hk0 : 0 < k
    · obtain ⟨m, rfl⟩ : ∃ m, k = m + 1 := ⟨k - 1, by omega⟩
      have hml : m < xs.length := by have := HN.out; omega
      have hcell := HR.out.cell m hml
      go_wp2
      · go_round
        case rel =>
          have h0 : (xs[m] == 0) = true := by assumption
          exact ⟨m, by omega, by go_num, fun j h1 h2 => by
            by_cases e : j = m
            · subst e; simpa using h0
            · exact HZ.out j (by omega) h2⟩
        case measure => simp [intOf]
      · have h0 : (xs[m] == 0) = false := by assumption
        go_ret
        exact count_some w hml (by simpa using h0) HZ.out _ (by omega)
    · go_wp2
      go_ret
      exact ⟨k, rfl, by have := HN.out; omega, HZ.out, fun i hi => by omega, rfl⟩
/-- The bits of words by those of the highest one that is not 0. -/
theorem bits_words {xs : List Int} (hw : Words xs) (m : Nat) (hm : m < xs.length) (hz : ∀ j, m + 1 ≤ j → (h : j < xs.length) → xs[j] = 0) (h0 : xs[m] ≠ 0) {b : Nat} (hb : BitsOf xs[m] b) : BitsOf (val64 xs) (64 * m + b) := by
  have hd : val64 (xs.drop (m + 1)) = 0 := by
    have e : xs.drop (m + 1) = List.replicate (xs.length - (m + 1)) 0 := by
      apply List.ext_getElem
      · simp
      · intro i h1 h2
        simp only [List.getElem_drop, List.getElem_replicate]
        exact hz _ (by omega) _
    rw [e]
    generalize xs.length - (m + 1) = q
    induction q with
    | zero => rfl
    | succ q ih => simp [List.replicate_succ, val64, ih]
  have hl := val64_lt (a := xs.take m) (fun x hx => hw x (List.mem_of_mem_take hx))
  have e3 : (xs.take m).length = m := by simp; omega
  rw [e3] at hl
  rw [val64_split xs m hm, hd]
  simp only [Int.mul_zero, Int.add_zero]
  have hp : (2 : Int) ^ (64 * m) = pw64 m := by
    clear hd hl e3 hz h0 hb hm
    induction m with
    | zero => rfl
    | succ m ih => rw [show 64 * (m + 1) = 64 * m + 64 by omega, Int.pow_add, ih, pw64, show (2 : Int) ^ 64 = 18446744073709551616 by decide, Int.mul_comm]
  obtain ⟨g0, g1, g2⟩ := hb
  have p0 := pw64_pos m
  generalize xs[m] = t at *
  have ht : 0 < t := by omega
  refine ⟨by have := Int.mul_nonneg (Int.le_of_lt p0) g0; omega, ?_, Or.inr ?_⟩
  · rw [Int.pow_add, hp]
    have : pw64 m * (t + 1) ≤ pw64 m * 2 ^ b := Int.mul_le_mul_of_nonneg_left (by omega) (by omega)
    rw [Int.mul_add] at this
    omega
  · have hb0 : b ≠ 0 := by rintro rfl; simp at g1; omega
    rcases g2 with g2 | g2
    · exact absurd g2 hb0
    · rw [show 64 * m + b - 1 = 64 * m + (b - 1) by omega, Int.pow_add, hp]
      have : pw64 m * 2 ^ (b - 1) ≤ pw64 m * t := Int.mul_le_mul_of_nonneg_left g2 (by omega)
      omega
set_option maxRecDepth 100000 in
set_option maxHeartbeats 1000000 in
theorem implBits_any (a3 a2 a1 a0 : Int) (h3 : Word a3) (h2 : Word a2) (h1 : Word a1) (h0 : Word a0) (w : World) :
    Calls Try.prog 17 #[.agg #[.int .u64 a3, .int .u64 a2, .int .u64 a1, .int .u64 a0]] w (BitsP ((sw a3 a2 a1 a0).natAbs : Int) w) := by
  go_enter Try.func17, Try.ntmps17
  go_wp2_with fail
  refine (sizeOf_any a3 a2 a1 a0 h3 h2 h1 h0 _).mono ?_
  rintro e w1 ⟨x3, x2, x1, x0, rfl, l3, l2, l1, l0, hu, hB⟩
  have hB1 : Below w.heap.size w w1 := ((Below.refl _ _).alloc (Nat.le_refl _) _).trans (hB.mono (by simp))
  clear hB
  have HU : Hid (uw x3 x2 x1 x0 = ((sw a3 a2 a1 a0).natAbs : Int)) := hu
  clear hu
  have G0 := Wd.new w1 x0 x1 x2 x3 41 rfl
  have HR := row_of4 G0.lt G0.c0 G0.c1 G0.c2 G0.c3 G0.f0 G0.f1 G0.f2 G0.f3
  have hB2 := hB1.alloc hB1.size (Obj.cells #[Value.int IntKind.u64 x0, Value.int IntKind.u64 x1, Value.int IntKind.u64 x2, Value.int IntKind.u64 x3] 41)
  clear G0
  go_wp2_with fail
  refine (countWords_any w1.heap.size 0 4 4 [x0, x1, x2, x3] _ rfl HR (by omega)).mono ?_
  rintro e w2 ⟨n, rfl, hn, hz, hnz, rfl⟩
  have HW := words4 l0 l1 l2 l3
  have HV := val64_4 x0 x1 x2 x3
  generalize hxs : [x0, x1, x2, x3] = xs at *
  have hlx : xs.length = 4 := by rw [← hxs]; rfl
  rw [hlx] at hn
  by_cases hn0 : n = 0
  · subst hn0
    have hv0 : val64 xs = 0 := by
      rw [HV]
      have c0 := hz 0 (by omega) (by omega); have c1 := hz 1 (by omega) (by omega); have c2 := hz 2 (by omega) (by omega); have c3 := hz 3 (by omega) (by omega)
      subst hxs
      simp at c0 c1 c2 c3
      subst c0 c1 c2 c3
      decide
    have HE : Hid (((sw a3 a2 a1 a0).natAbs : Int) = 0) := by show _ = _; rw [← HU.out, ← HV, hv0]
    clear hz hnz HR HW HV hv0 hlx hxs
    go_wp2
    go_ret
    exact ⟨0, rfl, by rw [HE.out]; exact ⟨by decide, by decide, Or.inl rfl⟩, hB2⟩
  · obtain ⟨m, rfl⟩ : ∃ m, n = m + 1 := ⟨n - 1, by omega⟩
    have hml : m < xs.length := by omega
    have hnz' := hnz m rfl hml
    have hc := HR.cell m hml
    rw [Nat.zero_add] at hc
    have hwm := words_at HW m hml
    have HB := fun b hb => bits_words HW m hml hz hnz' (b := b) hb
    rw [HV, HU.out] at HB
    have HB' : Hid (∀ b : Nat, BitsOf xs[m] b → BitsOf ((sw a3 a2 a1 a0).natAbs : Int) (64 * m + b)) := HB
    have hm4 : (m : Int) < 4 := by omega
    have hmn : ((m : Int) + 1 == 0) = false := beq_eq_false_iff_ne.2 (by omega)
    clear hz hnz HR HW HV hxs HB hnz'
    go_wp2_with fail
    refine (len64_any xs[m] hwm _).mono ?_
    rintro e w3 ⟨b, rfl, hb, hB3⟩
    have hb64 : b ≤ 64 := (bits_le hb 64).2 (by rw [show (2 : Int) ^ 64 = 18446744073709551616 by decide]; exact hwm.2)
    have HH : Hid (BitsOf ((sw a3 a2 a1 a0).natAbs : Int) (64 * m + b)) := HB'.out b hb
    have hB4 := hB2.trans (hB3.mono hB2.size)
    clear hb hB3 hB2 HB'
    go_wp2
    go_ret
    exact ⟨64 * m + b, ret_int (by omega), HH.out, hB4⟩
end Go.Proofs.Ytgbogbmbghpadaa

/- The product of two numbers of four words: what the walk of its first statement wants. -/
namespace Go.Proofs.Ytgbogbmbghpadaa
open Go.RowKit
theorem uw_same {x3 x2 x1 x0 y3 y2 y1 y0 : Int} (_h3 : Word x3) (h2 : Word x2) (h1 : Word x1) (h0 : Word x0) (_k3 : Word y3) (k2 : Word y2) (k1 : Word y1) (k0 : Word y0) (h : uw x3 x2 x1 x0 = uw y3 y2 y1 y0) : x3 = y3 ∧ x2 = y2 ∧ x1 = y1 ∧ x0 = y0 := by
  unfold Word uw at *
  omega
theorem size_words (n : Int) (h0 : 0 ≤ n) (h1 : n < 115792089237316195423570985008687907853269984665640564039457584007913129639936) : ∃ x3 x2 x1 x0, Word x3 ∧ Word x2 ∧ Word x1 ∧ Word x0 ∧ uw x3 x2 x1 x0 = n := by
  refine ⟨n / 18446744073709551616 / 18446744073709551616 / 18446744073709551616, n / 18446744073709551616 / 18446744073709551616 % 18446744073709551616, n / 18446744073709551616 % 18446744073709551616, n % 18446744073709551616, ?_⟩
  unfold Word uw
  omega
theorem sw_size {a3 a2 a1 a0 : Int} (h3 : Word a3) (h2 : Word a2) (h1 : Word a1) (h0 : Word a0) : ((sw a3 a2 a1 a0).natAbs : Int) ≤ 57896044618658097711785492504343953926634992332820282019728792003956564819968 := by
  unfold Word sw uw at *
  split <;> omega
/-- The size of a number, its words known ahead. -/
theorem sizeOf_det (a3 a2 a1 a0 : Int) (h3 : Word a3) (h2 : Word a2) (h1 : Word a1) (h0 : Word a0) (x3 x2 x1 x0 : Int) (g3 : Word x3) (g2 : Word x2) (g1 : Word x1) (g0 : Word x0) (hx : uw x3 x2 x1 x0 = ((sw a3 a2 a1 a0).natAbs : Int)) (w : World) :
    Calls Try.prog 41 #[.agg #[.int .u64 a3, .int .u64 a2, .int .u64 a1, .int .u64 a0]] w (WideP x0 x1 x2 x3 w) := by
  refine (sizeOf_any a3 a2 a1 a0 h3 h2 h1 h0 w).mono ?_
  rintro e w1 ⟨y3, y2, y1, y0, rfl, k3, k2, k1, k0, hu, hB⟩
  obtain ⟨rfl, rfl, rfl, rfl⟩ := uw_same k3 k2 k1 k0 g3 g2 g1 g0 (hu.trans hx.symm)
  exact ⟨rfl, hB⟩
theorem tm_cells {a3 a2 a1 a0 b3 b2 b1 b0 : Int} {w W : World} (h : ArgsB w W [[.int .u64 a3, .int .u64 a2, .int .u64 a1, .int .u64 a0], [.int .u64 b3, .int .u64 b2, .int .u64 b1, .int .u64 b0], [.int .u64 0, .int .u64 0, .int .u64 0, .int .u64 0, .int .u64 0, .int .u64 0, .int .u64 0, .int .u64 0]]) : (fun w' => w'.cell? ⟨w.heap.size, 0, none⟩ = some (.int .u64 a3) ∧ w'.cell? ⟨w.heap.size, 1, none⟩ = some (.int .u64 a2) ∧ w'.cell? ⟨w.heap.size, 2, none⟩ = some (.int .u64 a1) ∧ w'.cell? ⟨w.heap.size, 3, none⟩ = some (.int .u64 a0) ∧ w'.cell? ⟨w.heap.size + 1, 0, none⟩ = some (.int .u64 b3) ∧ w'.cell? ⟨w.heap.size + 1, 1, none⟩ = some (.int .u64 b2) ∧ w'.cell? ⟨w.heap.size + 1, 2, none⟩ = some (.int .u64 b1) ∧ w'.cell? ⟨w.heap.size + 1, 3, none⟩ = some (.int .u64 b0)) W :=
  ⟨(h.b 0 rfl).c 0 rfl, (h.b 0 rfl).c 1 rfl, (h.b 0 rfl).c 2 rfl, (h.b 0 rfl).c 3 rfl, (h.b 1 rfl).c 0 rfl, (h.b 1 rfl).c 1 rfl, (h.b 1 rfl).c 2 rfl, (h.b 1 rfl).c 3 rfl⟩
theorem tm_args (a3 a2 a1 a0 b3 b2 b1 b0 : Int) (w : World) : ArgsB w (((w.alloc (.cells #[.int .u64 a3, .int .u64 a2, .int .u64 a1, .int .u64 a0] 26)).alloc (.cells #[.int .u64 b3, .int .u64 b2, .int .u64 b1, .int .u64 b0] 26)).alloc (.cells #[.int .u64 0, .int .u64 0, .int .u64 0, .int .u64 0, .int .u64 0, .int .u64 0, .int .u64 0, .int .u64 0] 53)) [[.int .u64 a3, .int .u64 a2, .int .u64 a1, .int .u64 a0], [.int .u64 b3, .int .u64 b2, .int .u64 b1, .int .u64 b0], [.int .u64 0, .int .u64 0, .int .u64 0, .int .u64 0, .int .u64 0, .int .u64 0, .int .u64 0, .int .u64 0]] := by
  refine ⟨(((Below.refl _ _).alloc (Nat.le_refl _) _).alloc (by simp) _).alloc (by simp; omega) _, fun j vs hj => ?_⟩
  match j, hj with
  | 0, hj => cases hj; exact ((Blk.new w [.int .u64 a3, .int .u64 a2, .int .u64 a1, .int .u64 a0] 26 rfl).alloc _).alloc _
  | 1, hj => cases hj; exact (Blk.new (w.alloc (.cells #[.int .u64 a3, .int .u64 a2, .int .u64 a1, .int .u64 a0] 26)) [.int .u64 b3, .int .u64 b2, .int .u64 b1, .int .u64 b0] 26 (by simp)).alloc _
  | 2, hj => cases hj; exact Blk.new ((w.alloc (.cells #[.int .u64 a3, .int .u64 a2, .int .u64 a1, .int .u64 a0] 26)).alloc (.cells #[.int .u64 b3, .int .u64 b2, .int .u64 b1, .int .u64 b0] 26)) [.int .u64 0, .int .u64 0, .int .u64 0, .int .u64 0, .int .u64 0, .int .u64 0, .int .u64 0, .int .u64 0] 53 (by simp)
  | j + 3, hj => simp at hj
theorem ArgsB.lt3 {w W : World} {a b c : List Value} (h : ArgsB w W [a, b, c]) : w.heap.size + 2 < W.heap.size := (h.b 2 rfl).lt
theorem ArgsB.set4 {w W : World} {a b c : List Value} (h : ArgsB w W [a, b, c]) {g : Nat} (hg : w.heap.size + 2 < g) (v0 v1 v2 v3 : Value) : ArgsB w ((((W.setCell ⟨g, 0, none⟩ v0).setCell ⟨g, 1, none⟩ v1).setCell ⟨g, 2, none⟩ v2).setCell ⟨g, 3, none⟩ v3) [a, b, c] :=
  (((h.set (by exact hg) _).set (by exact hg) _).set (by exact hg) _).set (by exact hg) _
theorem Blk.stored4 {W : World} {g : Nat} {z0 z1 z2 z3 : Value} (G : Blk W g [z0, z1, z2, z3]) (v0 v1 v2 v3 : Value) : Blk ((((W.setCell ⟨g, 0, none⟩ v0).setCell ⟨g, 1, none⟩ v1).setCell ⟨g, 2, none⟩ v2).setCell ⟨g, 3, none⟩ v3) g [v0, v1, v2, v3] :=
  (((G.setI 0 (by simp) v0).setI 1 (by simp) v1).setI 2 (by simp) v2).setI 3 (by simp) v3
theorem Blk.new2 (W : World) (o : Obj) (vs : List Value) (T : TypeId) : Blk ((W.alloc o).alloc (.cells vs.toArray T)) (W.heap.size + 1) vs := Blk.new _ _ _ (by simp)
/-- Two rows of four values laid behind the arguments. -/
def CutT (w wx : World) (vss : List (List Value)) (xs ys : List Value) (p q : Value) : Prop :=
  ∃ g g', p = .pointer (some ⟨g, 0, none⟩) ∧ q = .pointer (some ⟨g', 0, none⟩) ∧ g ≠ g' ∧ w.heap.size + 2 < g ∧ w.heap.size + 2 < g' ∧ ArgsB w wx vss ∧ Blk wx g xs ∧ Blk wx g' ys
theorem CutT.drew {w wx : World} {vss : List (List Value)} {xs ys : List Value} {p q : Value} (h : CutT w wx vss xs ys p q) : CutT w wx.drew vss xs ys p q := by
  obtain ⟨g, g', e, f, n, l, l', A, B, C⟩ := h
  exact ⟨g, g', e, f, n, l, l', A.drew, B.drew, C.drew⟩
theorem cutT_nn {w X : World} {a b c : List Value} {xs ys : List Value} {T T' : TypeId} (h : ArgsB w X [a, b, c]) (hl : w.heap.size + 2 < X.heap.size) : CutT w ((X.alloc (.cells xs.toArray T)).alloc (.cells ys.toArray T')) [a, b, c] xs ys (.pointer (some ⟨X.heap.size, 0, none⟩)) (.pointer (some ⟨X.heap.size + 1, 0, none⟩)) :=
  ⟨_, _, rfl, rfl, by omega, hl, by omega, (h.alloc _).alloc _, (Blk.new _ _ _ rfl).alloc _, Blk.new2 _ _ _ _⟩
theorem cutT_nn' {w X : World} {a b c : List Value} {xs ys : List Value} {T T' : TypeId} (h : ArgsB w X [a, b, c]) (hl : w.heap.size + 2 < X.heap.size) : CutT w ((X.alloc (.cells ys.toArray T)).alloc (.cells xs.toArray T')) [a, b, c] xs ys (.pointer (some ⟨X.heap.size + 1, 0, none⟩)) (.pointer (some ⟨X.heap.size, 0, none⟩)) :=
  ⟨_, _, rfl, rfl, by omega, by omega, hl, (h.alloc _).alloc _, Blk.new2 _ _ _ _, (Blk.new _ _ _ rfl).alloc _⟩
theorem cutT_sn {w X : World} {a b c : List Value} {v0 v1 v2 v3 z0 z1 z2 z3 : Value} {ys : List Value} {T : TypeId} {g : Nat} (h : ArgsB w X [a, b, c]) (G : Blk X g [z0, z1, z2, z3]) (hg : w.heap.size + 2 < g) (hl : w.heap.size + 2 < X.heap.size) : CutT w (((((X.setCell ⟨g, 0, none⟩ v0).setCell ⟨g, 1, none⟩ v1).setCell ⟨g, 2, none⟩ v2).setCell ⟨g, 3, none⟩ v3).alloc (.cells ys.toArray T)) [a, b, c] [v0, v1, v2, v3] ys (.pointer (some ⟨g, 0, none⟩)) (.pointer (some ⟨X.heap.size, 0, none⟩)) :=
  ⟨_, _, rfl, rfl, by have := G.lt; omega, hg, hl, (h.set4 hg _ _ _ _).alloc _, (G.stored4 _ _ _ _).alloc _, Blk.new _ _ _ (by simp)⟩
theorem cutT_sn' {w X : World} {a b c : List Value} {v0 v1 v2 v3 z0 z1 z2 z3 : Value} {xs : List Value} {T : TypeId} {g : Nat} (h : ArgsB w X [a, b, c]) (G : Blk X g [z0, z1, z2, z3]) (hg : w.heap.size + 2 < g) (hl : w.heap.size + 2 < X.heap.size) : CutT w (((((X.setCell ⟨g, 0, none⟩ v0).setCell ⟨g, 1, none⟩ v1).setCell ⟨g, 2, none⟩ v2).setCell ⟨g, 3, none⟩ v3).alloc (.cells xs.toArray T)) [a, b, c] xs [v0, v1, v2, v3] (.pointer (some ⟨X.heap.size, 0, none⟩)) (.pointer (some ⟨g, 0, none⟩)) :=
  ⟨_, _, rfl, rfl, by have := G.lt; omega, hl, hg, (h.set4 hg _ _ _ _).alloc _, Blk.new _ _ _ (by simp), (G.stored4 _ _ _ _).alloc _⟩
theorem cutT_ss {w X : World} {a b c : List Value} {v0 v1 v2 v3 u0 u1 u2 u3 z0 z1 z2 z3 y0 y1 y2 y3 : Value} {g g' : Nat} (h : ArgsB w X [a, b, c]) (G : Blk X g [z0, z1, z2, z3]) (G' : Blk X g' [y0, y1, y2, y3]) (hg : w.heap.size + 2 < g) (hg' : w.heap.size + 2 < g') (hne : g ≠ g') :
    CutT w ((((((((X.setCell ⟨g, 0, none⟩ v0).setCell ⟨g, 1, none⟩ v1).setCell ⟨g, 2, none⟩ v2).setCell ⟨g, 3, none⟩ v3).setCell ⟨g', 0, none⟩ u0).setCell ⟨g', 1, none⟩ u1).setCell ⟨g', 2, none⟩ u2).setCell ⟨g', 3, none⟩ u3) [a, b, c] [v0, v1, v2, v3] [u0, u1, u2, u3] (.pointer (some ⟨g, 0, none⟩)) (.pointer (some ⟨g', 0, none⟩)) :=
  ⟨_, _, rfl, rfl, hne, hg, hg', (h.set4 hg _ _ _ _).set4 hg' _ _ _ _, (G.stored4 _ _ _ _).set4 hne, (G'.set4 (fun e => hne e.symm)).stored4 _ _ _ _⟩
end Go.Proofs.Ytgbogbmbghpadaa

/- The walk of the program's product of two numbers of four words. -/
namespace Go.Proofs.Ytgbogbmbghpadaa
open Go.RowKit
def TimesP (z : Int) (w : World) (e : Ending) (w' : World) : Prop :=
  ∃ z0 z1 z2 z3 z4 z5 z6 z7, e = .returned (L8 z0 z1 z2 z3 z4 z5 z6 z7) ∧ Words [z0, z1, z2, z3, z4, z5, z6, z7] ∧ sl z0 z1 z2 z3 z4 z5 z6 z7 = z ∧ Below w.heap.size w w'
theorem arr4 : Try.prog.arrayLen 41 = 4 := by kernel_rfl
theorem und4 : Try.prog.underlying 41 = some (.array (Try.prog.arrayLen 41) (Try.prog.elem 41)) := by kernel_rfl
theorem siz4 (w : World) : (sizeOf (Try.prog.elem 41)).run Try.prog w = .ok 1 w := by kernel_rfl
theorem slice4_h (g n : Nat) (hn : n ≤ 4) (w : World) : (Instr.sliceAt 41 (.pointer (some ⟨g, 0, none⟩)) none (some (.int .i64 n)) none).run Try.prog w = .ok (.slice (some ⟨g, 0, none⟩) n 4) w := by
  rw [run_sliceAt_array_h w _ _ und4 _ _ (by omega) (by rw [arr4]; omega), siz4, arr4]
  simp [Result.andThen, slicedAt, Addr.add]
theorem row_of_blk {W : World} {g : Nat} {xs : List Int} (h : Blk W g (xs.map (Value.int .u64))) : Row W g 0 xs :=
  ⟨fun i hi => by rw [Nat.zero_add]; exact h.c i (by simp [hi]), fun i hi => by rw [Nat.zero_add]; exact h.f i (v := .int .u64 xs[i]) (by simp [hi]), h.lt⟩
structure Tm3 (w wr : World) (vss : List (List Value)) (g g' gp : Nat) (xs ys zs : List Int) : Prop where
  args : ArgsB w wr vss
  x : Blk wr g (xs.map (Value.int .u64))
  y : Blk wr g' (ys.map (Value.int .u64))
  p : Blk wr gp (zs.map (Value.int .u64))
theorem Tm3.drew {w wr : World} {vss : List (List Value)} {g g' gp : Nat} {xs ys zs : List Int} (h : Tm3 w wr vss g g' gp xs ys zs) (n : Nat) : Tm3 w (wr.drewN n) vss g g' gp xs ys zs := ⟨⟨bdrew h.args.1 n, h.args.2⟩, h.x, h.y, h.p⟩
theorem Tm3.set {w wr : World} {vss : List (List Value)} {g g' gp : Nat} {xs ys zs : List Int} (h : Tm3 w wr vss g g' gp xs ys zs) (h1 : g ≠ gp) (h2 : g' ≠ gp) (hg : w.heap.size + vss.length ≤ gp) (j : Nat) (hj : j < zs.length) (u : Int) : Tm3 w (wr.setCell ⟨gp, j, none⟩ (.int .u64 u)) vss g g' gp xs ys (zs.set j u) :=
  ⟨h.args.set hg _, h.x.setO h1 _, h.y.setO h2 _, by have := h.p.setI j (by simpa using hj) (.int .u64 u); rwa [← List.map_set] at this⟩
theorem Tm3.cx {w wr : World} {vss : List (List Value)} {g g' gp : Nat} {xs ys zs : List Int} (h : Tm3 w wr vss g g' gp xs ys zs) (j : Nat) (hj : j < xs.length) : wr.cell? ⟨g, j, none⟩ = some (.int .u64 xs[j]) := h.x.c j (by simp [hj])
theorem Tm3.cy {w wr : World} {vss : List (List Value)} {g g' gp : Nat} {xs ys zs : List Int} (h : Tm3 w wr vss g g' gp xs ys zs) (j : Nat) (hj : j < ys.length) : wr.cell? ⟨g', j, none⟩ = some (.int .u64 ys[j]) := h.y.c j (by simp [hj])
theorem Tm3.cp {w wr : World} {vss : List (List Value)} {g g' gp : Nat} {xs ys zs : List Int} (h : Tm3 w wr vss g g' gp xs ys zs) (j : Nat) (hj : j < zs.length) : wr.cell? ⟨gp, j, none⟩ = some (.int .u64 zs[j]) ∧ wr.frozen? ⟨gp, j, none⟩ = false := ⟨h.p.c j (by simp [hj]), h.p.f j (v := .int .u64 zs[j]) (by simp [hj])⟩
theorem mul64n (x y hi lo : Int) (hx : Word x) (hy : Word y) (h1 : x * y / 18446744073709551616 = hi) (h2 : x * y % 18446744073709551616 = lo) (w : World) : Calls Try.prog 61 #[.int .u64 x, .int .u64 y] w (fun e w' => e = .returned (.tuple #[.int .u64 hi, .int .u64 lo]) ∧ w' = w) := by
  refine (mul64 x y hx hy w).mono ?_
  rintro e w' ⟨rfl, rfl⟩
  rw [h1, h2]
  exact ⟨rfl, rfl⟩
theorem add64n (x y s c : Int) (hx : Word x) (hy : Word y) (h1 : (x + y) % 18446744073709551616 = s) (h2 : (x + y) / 18446744073709551616 = c) (w : World) : (callFunc 62 #[.int .u64 x, .int .u64 y, .int .u64 0]).run Try.prog w = .ok (.value (.tuple #[.int .u64 s, .int .u64 c])) w := by
  rw [add64 x y 0 hx hy (by decide) (by decide) w, Int.add_zero, h1, h2]
theorem Tm3.step {w wr wr' : World} {vss : List (List Value)} {g g' gp : Nat} {xs ys zs : List Int} (h : Tm3 w wr vss g g' gp xs ys zs) (hB : Below wr.heap.size wr wr') : Tm3 w wr' vss g g' gp xs ys zs := ⟨h.args.step hB, h.x.step hB, h.y.step hB, h.p.step hB⟩
theorem Tm3.drew1 {w wr : World} {vss : List (List Value)} {g g' gp : Nat} {xs ys zs : List Int} (h : Tm3 w wr vss g g' gp xs ys zs) : Tm3 w wr.drew vss g g' gp xs ys zs := ⟨h.args.drew, h.x.drew, h.y.drew, h.p.drew⟩
theorem tm3_cells {a3 a2 a1 a0 b3 b2 b1 b0 z0 z1 z2 z3 z4 z5 z6 z7 : Int} {w W : World} {g g' gp : Nat} {xs ys : List Int} (h : Tm3 w W [[.int .u64 a3, .int .u64 a2, .int .u64 a1, .int .u64 a0], [.int .u64 b3, .int .u64 b2, .int .u64 b1, .int .u64 b0], [.int .u64 0, .int .u64 0, .int .u64 0, .int .u64 0, .int .u64 0, .int .u64 0, .int .u64 0, .int .u64 0]] g g' gp xs ys [z0, z1, z2, z3, z4, z5, z6, z7]) : (fun w' => w'.cell? ⟨gp, 0, none⟩ = some (.int .u64 z0) ∧ w'.cell? ⟨gp, 1, none⟩ = some (.int .u64 z1) ∧ w'.cell? ⟨gp, 2, none⟩ = some (.int .u64 z2) ∧ w'.cell? ⟨gp, 3, none⟩ = some (.int .u64 z3) ∧ w'.cell? ⟨gp, 4, none⟩ = some (.int .u64 z4) ∧ w'.cell? ⟨gp, 5, none⟩ = some (.int .u64 z5) ∧ w'.cell? ⟨gp, 6, none⟩ = some (.int .u64 z6) ∧ w'.cell? ⟨gp, 7, none⟩ = some (.int .u64 z7) ∧ w'.cell? ⟨w.heap.size, 0, none⟩ = some (.int .u64 a3) ∧ w'.cell? ⟨w.heap.size, 1, none⟩ = some (.int .u64 a2) ∧ w'.cell? ⟨w.heap.size, 2, none⟩ = some (.int .u64 a1) ∧ w'.cell? ⟨w.heap.size, 3, none⟩ = some (.int .u64 a0) ∧ w'.cell? ⟨w.heap.size + 1, 0, none⟩ = some (.int .u64 b3) ∧ w'.cell? ⟨w.heap.size + 1, 1, none⟩ = some (.int .u64 b2) ∧ w'.cell? ⟨w.heap.size + 1, 2, none⟩ = some (.int .u64 b1) ∧ w'.cell? ⟨w.heap.size + 1, 3, none⟩ = some (.int .u64 b0)) W :=
  ⟨h.p.c 0 rfl, h.p.c 1 rfl, h.p.c 2 rfl, h.p.c 3 rfl, h.p.c 4 rfl, h.p.c 5 rfl, h.p.c 6 rfl, h.p.c 7 rfl, (h.args.b 0 rfl).c 0 rfl, (h.args.b 0 rfl).c 1 rfl, (h.args.b 0 rfl).c 2 rfl, (h.args.b 0 rfl).c 3 rfl, (h.args.b 1 rfl).c 0 rfl, (h.args.b 1 rfl).c 1 rfl, (h.args.b 1 rfl).c 2 rfl, (h.args.b 1 rfl).c 3 rfl⟩
theorem tm3_cells8 {a3 a2 a1 a0 b3 b2 b1 b0 z0 z1 z2 z3 z4 z5 z6 z7 : Int} {w W : World} {g g' gp : Nat} {xs ys : List Int} {v0 v1 v2 v3 v4 v5 v6 v7 : Value} (h : Tm3 w W [[.int .u64 a3, .int .u64 a2, .int .u64 a1, .int .u64 a0], [.int .u64 b3, .int .u64 b2, .int .u64 b1, .int .u64 b0], [.int .u64 0, .int .u64 0, .int .u64 0, .int .u64 0, .int .u64 0, .int .u64 0, .int .u64 0, .int .u64 0]] g g' gp xs ys [z0, z1, z2, z3, z4, z5, z6, z7]) (hg : w.heap.size + 2 < gp) : (fun w' => w'.cell? ⟨gp, 0, none⟩ = some (.int .u64 z0) ∧ w'.cell? ⟨gp, 1, none⟩ = some (.int .u64 z1) ∧ w'.cell? ⟨gp, 2, none⟩ = some (.int .u64 z2) ∧ w'.cell? ⟨gp, 3, none⟩ = some (.int .u64 z3) ∧ w'.cell? ⟨gp, 4, none⟩ = some (.int .u64 z4) ∧ w'.cell? ⟨gp, 5, none⟩ = some (.int .u64 z5) ∧ w'.cell? ⟨gp, 6, none⟩ = some (.int .u64 z6) ∧ w'.cell? ⟨gp, 7, none⟩ = some (.int .u64 z7) ∧ w'.cell? ⟨w.heap.size, 0, none⟩ = some (.int .u64 a3) ∧ w'.cell? ⟨w.heap.size, 1, none⟩ = some (.int .u64 a2) ∧ w'.cell? ⟨w.heap.size, 2, none⟩ = some (.int .u64 a1) ∧ w'.cell? ⟨w.heap.size, 3, none⟩ = some (.int .u64 a0) ∧ w'.cell? ⟨w.heap.size + 1, 0, none⟩ = some (.int .u64 b3) ∧ w'.cell? ⟨w.heap.size + 1, 1, none⟩ = some (.int .u64 b2) ∧ w'.cell? ⟨w.heap.size + 1, 2, none⟩ = some (.int .u64 b1) ∧ w'.cell? ⟨w.heap.size + 1, 3, none⟩ = some (.int .u64 b0)) ((((((((W.setCell ⟨w.heap.size + 1 + 1, 0, none⟩ v0).setCell ⟨w.heap.size + 1 + 1, 1, none⟩ v1).setCell ⟨w.heap.size + 1 + 1, 2, none⟩ v2).setCell ⟨w.heap.size + 1 + 1, 3, none⟩ v3).setCell ⟨w.heap.size + 1 + 1, 4, none⟩ v4).setCell ⟨w.heap.size + 1 + 1, 5, none⟩ v5).setCell ⟨w.heap.size + 1 + 1, 6, none⟩ v6).setCell ⟨w.heap.size + 1 + 1, 7, none⟩ v7) := by
  have p : Blk _ gp _ := ((((((((h.p.setO (p := ⟨w.heap.size + 1 + 1, 0, none⟩) (by show gp ≠ w.heap.size + 1 + 1; omega) v0).setO (p := ⟨w.heap.size + 1 + 1, 1, none⟩) (by show gp ≠ w.heap.size + 1 + 1; omega) v1).setO (p := ⟨w.heap.size + 1 + 1, 2, none⟩) (by show gp ≠ w.heap.size + 1 + 1; omega) v2).setO (p := ⟨w.heap.size + 1 + 1, 3, none⟩) (by show gp ≠ w.heap.size + 1 + 1; omega) v3).setO (p := ⟨w.heap.size + 1 + 1, 4, none⟩) (by show gp ≠ w.heap.size + 1 + 1; omega) v4).setO (p := ⟨w.heap.size + 1 + 1, 5, none⟩) (by show gp ≠ w.heap.size + 1 + 1; omega) v5).setO (p := ⟨w.heap.size + 1 + 1, 6, none⟩) (by show gp ≠ w.heap.size + 1 + 1; omega) v6).setO (p := ⟨w.heap.size + 1 + 1, 7, none⟩) (by show gp ≠ w.heap.size + 1 + 1; omega) v7)
  have a : Blk _ (w.heap.size + 0) _ := (((((((((h.args.b 0 rfl).setO (p := ⟨w.heap.size + 1 + 1, 0, none⟩) (by show w.heap.size + 0 ≠ w.heap.size + 1 + 1; omega) v0).setO (p := ⟨w.heap.size + 1 + 1, 1, none⟩) (by show w.heap.size + 0 ≠ w.heap.size + 1 + 1; omega) v1).setO (p := ⟨w.heap.size + 1 + 1, 2, none⟩) (by show w.heap.size + 0 ≠ w.heap.size + 1 + 1; omega) v2).setO (p := ⟨w.heap.size + 1 + 1, 3, none⟩) (by show w.heap.size + 0 ≠ w.heap.size + 1 + 1; omega) v3).setO (p := ⟨w.heap.size + 1 + 1, 4, none⟩) (by show w.heap.size + 0 ≠ w.heap.size + 1 + 1; omega) v4).setO (p := ⟨w.heap.size + 1 + 1, 5, none⟩) (by show w.heap.size + 0 ≠ w.heap.size + 1 + 1; omega) v5).setO (p := ⟨w.heap.size + 1 + 1, 6, none⟩) (by show w.heap.size + 0 ≠ w.heap.size + 1 + 1; omega) v6).setO (p := ⟨w.heap.size + 1 + 1, 7, none⟩) (by show w.heap.size + 0 ≠ w.heap.size + 1 + 1; omega) v7)
  have b : Blk _ (w.heap.size + 1) _ := (((((((((h.args.b 1 rfl).setO (p := ⟨w.heap.size + 1 + 1, 0, none⟩) (by show w.heap.size + 1 ≠ w.heap.size + 1 + 1; omega) v0).setO (p := ⟨w.heap.size + 1 + 1, 1, none⟩) (by show w.heap.size + 1 ≠ w.heap.size + 1 + 1; omega) v1).setO (p := ⟨w.heap.size + 1 + 1, 2, none⟩) (by show w.heap.size + 1 ≠ w.heap.size + 1 + 1; omega) v2).setO (p := ⟨w.heap.size + 1 + 1, 3, none⟩) (by show w.heap.size + 1 ≠ w.heap.size + 1 + 1; omega) v3).setO (p := ⟨w.heap.size + 1 + 1, 4, none⟩) (by show w.heap.size + 1 ≠ w.heap.size + 1 + 1; omega) v4).setO (p := ⟨w.heap.size + 1 + 1, 5, none⟩) (by show w.heap.size + 1 ≠ w.heap.size + 1 + 1; omega) v5).setO (p := ⟨w.heap.size + 1 + 1, 6, none⟩) (by show w.heap.size + 1 ≠ w.heap.size + 1 + 1; omega) v6).setO (p := ⟨w.heap.size + 1 + 1, 7, none⟩) (by show w.heap.size + 1 ≠ w.heap.size + 1 + 1; omega) v7)
  exact ⟨p.c 0 rfl, p.c 1 rfl, p.c 2 rfl, p.c 3 rfl, p.c 4 rfl, p.c 5 rfl, p.c 6 rfl, p.c 7 rfl, a.c 0 rfl, a.c 1 rfl, a.c 2 rfl, a.c 3 rfl, b.c 0 rfl, b.c 1 rfl, b.c 2 rfl, b.c 3 rfl⟩
theorem sl_top {z0 z1 z2 z3 z4 z5 z6 z7 : Int} (h : Words [z0, z1, z2, z3, z4, z5, z6, z7]) : (z7 < 9223372036854775808 ↔ val64 [z0, z1, z2, z3, z4, z5, z6, z7] < 6703903964971298549787012499102923063739682910296196688861780721860882015036773488400937149083451713845015929093243025426876941405973284973216824503042048) ∧ 0 ≤ val64 [z0, z1, z2, z3, z4, z5, z6, z7] ∧ val64 [z0, z1, z2, z3, z4, z5, z6, z7] < 13407807929942597099574024998205846127479365820592393377723561443721764030073546976801874298166903427690031858186486050853753882811946569946433649006084096 := by
  obtain ⟨h0, h1, h2, h3, h4, h5, h6, h7⟩ := words8_of h
  unfold Word at *
  simp only [val64]
  omega
theorem nat_abs_cases (A : Int) : (0 ≤ A ∧ (A.natAbs : Int) = A) ∨ (A < 0 ∧ (A.natAbs : Int) = -A) := by omega
theorem sl_signed {z0 z1 z2 z3 z4 z5 z6 z7 A B V : Int} {b : Bool} (h : Words [z0, z1, z2, z3, z4, z5, z6, z7]) (hA : (A.natAbs : Int) ≤ 57896044618658097711785492504343953926634992332820282019728792003956564819968) (hB : (B.natAbs : Int) ≤ 57896044618658097711785492504343953926634992332820282019728792003956564819968) (hV : V = (A.natAbs : Int) * (B.natAbs : Int)) (hb : b = (decide (A < 0) != decide (B < 0)))
    (hz : ∃ c, 0 ≤ c ∧ c ≤ 1 ∧ val64 [z0, z1, z2, z3, z4, z5, z6, z7] = if b then 0 - V + c * 13407807929942597099574024998205846127479365820592393377723561443721764030073546976801874298166903427690031858186486050853753882811946569946433649006084096 else V) : sl z0 z1 z2 z3 z4 z5 z6 z7 = A * B := by
  obtain ⟨t1, t2, t3⟩ := sl_top h
  obtain ⟨c, c0, c1, hv⟩ := hz
  have m0 : 0 ≤ V := by rw [hV]; exact Int.mul_nonneg (by omega) (by omega)
  have m1 : V ≤ 3351951982485649274893506249551461531869841455148098344430890360930441007518386744200468574541725856922507964546621512713438470702986642486608412251521024 := by
    rw [hV]
    have h1 : (A.natAbs : Int) * (B.natAbs : Int) ≤ 57896044618658097711785492504343953926634992332820282019728792003956564819968 * (B.natAbs : Int) := Int.mul_le_mul_of_nonneg_right hA (by omega)
    omega
  have e : A * B = if b then -V else V := by
    rw [hV, hb]
    rcases nat_abs_cases A with ⟨p, e1⟩ | ⟨p, e1⟩ <;> rcases nat_abs_cases B with ⟨q, e2⟩ | ⟨q, e2⟩ <;> rw [e1, e2]
    · simp [show ¬ A < 0 by omega, show ¬ B < 0 by omega]
    · simp [show ¬ A < 0 by omega, q, Int.mul_neg]
    · simp [p, show ¬ B < 0 by omega, Int.neg_mul]
    · simp [p, q, Int.neg_mul, Int.mul_neg]
  unfold sl
  generalize val64 [z0, z1, z2, z3, z4, z5, z6, z7] = U at *
  rw [e]
  clear hV e hb
  obtain rfl | rfl : c = 0 ∨ c = 1 := by omega
  · cases b
    · simp only [Bool.false_eq_true, if_false] at hv ⊢
      rw [if_pos (t1.2 (by omega))]; omega
    · simp only [if_true] at hv ⊢
      rw [if_pos (t1.2 (by omega))]; omega
  · cases b
    · simp only [Bool.false_eq_true, if_false] at hv ⊢
      rw [if_pos (t1.2 (by omega))]; omega
    · simp only [if_true] at hv ⊢
      rw [if_neg (by rw [t1]; omega)]; omega
set_option maxRecDepth 100000 in
set_option maxHeartbeats 4000000 in
theorem times_any (a3 a2 a1 a0 b3 b2 b1 b0 : Int) (h3 : Word a3) (h2 : Word a2) (h1 : Word a1) (h0 : Word a0) (k3 : Word b3) (k2 : Word b2) (k1 : Word b1) (k0 : Word b0) (w : World) :
    Calls Try.prog 32 #[.agg #[.int .u64 a3, .int .u64 a2, .int .u64 a1, .int .u64 a0], .agg #[.int .u64 b3, .int .u64 b2, .int .u64 b1, .int .u64 b0]] w (TimesP (sw a3 a2 a1 a0 * sw b3 b2 b1 b0) w) := by
  obtain ⟨x3, x2, x1, x0, e3, e2, e1, e0, hx⟩ := size_words ((sw a3 a2 a1 a0).natAbs : Int) (by omega) (by have := sw_size h3 h2 h1 h0; omega)
  obtain ⟨y3, y2, y1, y0, f3, f2, f1, f0, hy⟩ := size_words ((sw b3 b2 b1 b0).natAbs : Int) (by omega) (by have := sw_size k3 k2 k1 k0; omega)
  have T0 := tm_args a3 a2 a1 a0 b3 b2 b1 b0 w
  have tok1 : True := trivial
  go_enter Try.func32, Try.ntmps32
  go_upto_region 1 with fail
  generalize (((w.alloc (.cells #[.int .u64 a3, .int .u64 a2, .int .u64 a1, .int .u64 a0] 26)).alloc (.cells #[.int .u64 b3, .int .u64 b2, .int .u64 b1, .int .u64 b0] 26)).alloc (.cells #[.int .u64 0, .int .u64 0, .int .u64 0, .int .u64 0, .int .u64 0, .int .u64 0, .int .u64 0, .int .u64 0] 53)) = W at *
  go_cut [5, 6] (fun p q wx => CutT w wx [[.int .u64 a3, .int .u64 a2, .int .u64 a1, .int .u64 a0], [.int .u64 b3, .int .u64 b2, .int .u64 b1, .int .u64 b0], [.int .u64 0, .int .u64 0, .int .u64 0, .int .u64 0, .int .u64 0, .int .u64 0, .int .u64 0, .int .u64 0]] [.int .u64 x0, .int .u64 x1, .int .u64 x2, .int .u64 x3] [.int .u64 y0, .int .u64 y1, .int .u64 y2, .int .u64 y3] p q)
  case first =>
    go_region_held3 (fun w' => w'.cell? ⟨w.heap.size, 0, none⟩ = some (.int .u64 a3) ∧ w'.cell? ⟨w.heap.size, 1, none⟩ = some (.int .u64 a2) ∧ w'.cell? ⟨w.heap.size, 2, none⟩ = some (.int .u64 a1) ∧ w'.cell? ⟨w.heap.size, 3, none⟩ = some (.int .u64 a0) ∧ w'.cell? ⟨w.heap.size + 1, 0, none⟩ = some (.int .u64 b3) ∧ w'.cell? ⟨w.heap.size + 1, 1, none⟩ = some (.int .u64 b2) ∧ w'.cell? ⟨w.heap.size + 1, 2, none⟩ = some (.int .u64 b1) ∧ w'.cell? ⟨w.heap.size + 1, 3, none⟩ = some (.int .u64 b0)) (first | (with_reducible exact tm_cells T0) | (with_reducible exact tm_cells T0.drew) | (with_reducible exact tm_cells (T0.alloc _)) | (with_reducible exact tm_cells (T0.alloc _).drew) | (with_reducible exact tm_cells ((T0.alloc _).alloc _)) | (with_reducible exact tm_cells ((T0.alloc _).alloc _).drew) | (with_reducible exact tm_cells (T0.set4 (by omega) _ _ _ _)) | (with_reducible exact tm_cells ((T0.set4 (by omega) _ _ _ _).alloc _)) | (with_reducible exact tm_cells ((T0.set4 (by omega) _ _ _ _).set4 (by omega) _ _ _ _)) | (exact tm_cells T0.drew) | skip)
      (first
        | (go_at_call 41; have _t := tok1; refine (sizeOf_det a3 a2 a1 a0 h3 h2 h1 h0 x3 x2 x1 x0 e3 e2 e1 e0 hx _).mono ?_; rintro e w1 ⟨rfl, hB⟩; (first | (have T1 : ArgsB w w1 [[.int .u64 a3, .int .u64 a2, .int .u64 a1, .int .u64 a0], [.int .u64 b3, .int .u64 b2, .int .u64 b1, .int .u64 b0], [.int .u64 0, .int .u64 0, .int .u64 0, .int .u64 0, .int .u64 0, .int .u64 0, .int .u64 0, .int .u64 0]] := (by with_reducible exact T0.step hB); have hltw1 := T0.lt3; try (replace G0 := G0.step hB; have z0c := G0.c 0 rfl; have z0f := G0.f 0 rfl; have z1c := G0.c 1 rfl; have z1f := G0.f 1 rfl; have z2c := G0.c 2 rfl; have z2f := G0.f 2 rfl; have z3c := G0.c 3 rfl; have z3f := G0.f 3 rfl; have zlt := G0.lt); try (replace G1 := G1.step hB; have y0c := G1.c 0 rfl; have y0f := G1.f 0 rfl; have y1c := G1.c 1 rfl; have y1f := G1.f 1 rfl; have y2c := G1.c 2 rfl; have y2f := G1.f 2 rfl; have y3c := G1.c 3 rfl; have y3f := G1.f 3 rfl; have ylt := G1.lt)) | (have T1 : ArgsB w w1 [[.int .u64 a3, .int .u64 a2, .int .u64 a1, .int .u64 a0], [.int .u64 b3, .int .u64 b2, .int .u64 b1, .int .u64 b0], [.int .u64 0, .int .u64 0, .int .u64 0, .int .u64 0, .int .u64 0, .int .u64 0, .int .u64 0, .int .u64 0]] := (by with_reducible exact T0.drew.step hB); have hltw1 := T0.lt3; try (replace G0 := G0.drew.step hB; have z0c := G0.c 0 rfl; have z0f := G0.f 0 rfl; have z1c := G0.c 1 rfl; have z1f := G0.f 1 rfl; have z2c := G0.c 2 rfl; have z2f := G0.f 2 rfl; have z3c := G0.c 3 rfl; have z3f := G0.f 3 rfl; have zlt := G0.lt); try (replace G1 := G1.drew.step hB; have y0c := G1.c 0 rfl; have y0f := G1.f 0 rfl; have y1c := G1.c 1 rfl; have y1f := G1.f 1 rfl; have y2c := G1.c 2 rfl; have y2f := G1.f 2 rfl; have y3c := G1.c 3 rfl; have y3f := G1.f 3 rfl; have ylt := G1.lt)) | (have T1 : ArgsB w w1 [[.int .u64 a3, .int .u64 a2, .int .u64 a1, .int .u64 a0], [.int .u64 b3, .int .u64 b2, .int .u64 b1, .int .u64 b0], [.int .u64 0, .int .u64 0, .int .u64 0, .int .u64 0, .int .u64 0, .int .u64 0, .int .u64 0, .int .u64 0]] := (by with_reducible exact (T0.alloc _).step hB); have hltw1 := T0.lt3; (first | (have G1 := (Blk.new _ [.int .u64 0, .int .u64 0, .int .u64 0, .int .u64 0] _ rfl).step hB; have hgg := G0.lt; replace G0 := (G0.alloc _).step hB; have z0c := G0.c 0 rfl; have z0f := G0.f 0 rfl; have z1c := G0.c 1 rfl; have z1f := G0.f 1 rfl; have z2c := G0.c 2 rfl; have z2f := G0.f 2 rfl; have z3c := G0.c 3 rfl; have z3f := G0.f 3 rfl; have zlt := G0.lt; have y0c := G1.c 0 rfl; have y0f := G1.f 0 rfl; have y1c := G1.c 1 rfl; have y1f := G1.f 1 rfl; have y2c := G1.c 2 rfl; have y2f := G1.f 2 rfl; have y3c := G1.c 3 rfl; have y3f := G1.f 3 rfl; have ylt := G1.lt) | (have G0 := (Blk.new _ [.int .u64 0, .int .u64 0, .int .u64 0, .int .u64 0] _ rfl).step hB; have z0c := G0.c 0 rfl; have z0f := G0.f 0 rfl; have z1c := G0.c 1 rfl; have z1f := G0.f 1 rfl; have z2c := G0.c 2 rfl; have z2f := G0.f 2 rfl; have z3c := G0.c 3 rfl; have z3f := G0.f 3 rfl; have zlt := G0.lt))) | (have T1 : ArgsB w w1 [[.int .u64 a3, .int .u64 a2, .int .u64 a1, .int .u64 a0], [.int .u64 b3, .int .u64 b2, .int .u64 b1, .int .u64 b0], [.int .u64 0, .int .u64 0, .int .u64 0, .int .u64 0, .int .u64 0, .int .u64 0, .int .u64 0, .int .u64 0]] := (by with_reducible exact (T0.alloc _).drew.step hB); have hltw1 := T0.lt3; (first | (have G1 := (Blk.new _ [.int .u64 0, .int .u64 0, .int .u64 0, .int .u64 0] _ rfl).drew.step hB; have hgg := G0.lt; replace G0 := (G0.alloc _).drew.step hB; have z0c := G0.c 0 rfl; have z0f := G0.f 0 rfl; have z1c := G0.c 1 rfl; have z1f := G0.f 1 rfl; have z2c := G0.c 2 rfl; have z2f := G0.f 2 rfl; have z3c := G0.c 3 rfl; have z3f := G0.f 3 rfl; have zlt := G0.lt; have y0c := G1.c 0 rfl; have y0f := G1.f 0 rfl; have y1c := G1.c 1 rfl; have y1f := G1.f 1 rfl; have y2c := G1.c 2 rfl; have y2f := G1.f 2 rfl; have y3c := G1.c 3 rfl; have y3f := G1.f 3 rfl; have ylt := G1.lt) | (have G0 := (Blk.new _ [.int .u64 0, .int .u64 0, .int .u64 0, .int .u64 0] _ rfl).drew.step hB; have z0c := G0.c 0 rfl; have z0f := G0.f 0 rfl; have z1c := G0.c 1 rfl; have z1f := G0.f 1 rfl; have z2c := G0.c 2 rfl; have z2f := G0.f 2 rfl; have z3c := G0.c 3 rfl; have z3f := G0.f 3 rfl; have zlt := G0.lt))) | (have T1 : ArgsB w w1 [[.int .u64 a3, .int .u64 a2, .int .u64 a1, .int .u64 a0], [.int .u64 b3, .int .u64 b2, .int .u64 b1, .int .u64 b0], [.int .u64 0, .int .u64 0, .int .u64 0, .int .u64 0, .int .u64 0, .int .u64 0, .int .u64 0, .int .u64 0]] := (by with_reducible exact ((T0.alloc _).alloc _).step hB); have hltw1 := T0.lt3; have G0 := ((Blk.new _ [.int .u64 0, .int .u64 0, .int .u64 0, .int .u64 0] _ rfl).alloc _).step hB; have G1 := (Blk.new2 _ _ [.int .u64 0, .int .u64 0, .int .u64 0, .int .u64 0] _).step hB; have z0c := G0.c 0 rfl; have z0f := G0.f 0 rfl; have z1c := G0.c 1 rfl; have z1f := G0.f 1 rfl; have z2c := G0.c 2 rfl; have z2f := G0.f 2 rfl; have z3c := G0.c 3 rfl; have z3f := G0.f 3 rfl; have zlt := G0.lt; have y0c := G1.c 0 rfl; have y0f := G1.f 0 rfl; have y1c := G1.c 1 rfl; have y1f := G1.f 1 rfl; have y2c := G1.c 2 rfl; have y2f := G1.f 2 rfl; have y3c := G1.c 3 rfl; have y3f := G1.f 3 rfl; have ylt := G1.lt) | (have T1 : ArgsB w w1 [[.int .u64 a3, .int .u64 a2, .int .u64 a1, .int .u64 a0], [.int .u64 b3, .int .u64 b2, .int .u64 b1, .int .u64 b0], [.int .u64 0, .int .u64 0, .int .u64 0, .int .u64 0, .int .u64 0, .int .u64 0, .int .u64 0, .int .u64 0]] := (by with_reducible exact ((T0.alloc _).alloc _).drew.step hB); have hltw1 := T0.lt3; have G0 := ((Blk.new _ [.int .u64 0, .int .u64 0, .int .u64 0, .int .u64 0] _ rfl).alloc _).drew.step hB; have G1 := (Blk.new2 _ _ [.int .u64 0, .int .u64 0, .int .u64 0, .int .u64 0] _).drew.step hB; have z0c := G0.c 0 rfl; have z0f := G0.f 0 rfl; have z1c := G0.c 1 rfl; have z1f := G0.f 1 rfl; have z2c := G0.c 2 rfl; have z2f := G0.f 2 rfl; have z3c := G0.c 3 rfl; have z3f := G0.f 3 rfl; have zlt := G0.lt; have y0c := G1.c 0 rfl; have y0f := G1.f 0 rfl; have y1c := G1.c 1 rfl; have y1f := G1.f 1 rfl; have y2c := G1.c 2 rfl; have y2f := G1.f 2 rfl; have y3c := G1.c 3 rfl; have y3f := G1.f 3 rfl; have ylt := G1.lt)); clear T0; have T0 := T1; clear T1; clear tok1 _t hB)
        | (go_at_call 41; refine (sizeOf_det b3 b2 b1 b0 k3 k2 k1 k0 y3 y2 y1 y0 f3 f2 f1 f0 hy _).mono ?_; rintro e w2 ⟨rfl, hB⟩; (first | (have T1 : ArgsB w w2 [[.int .u64 a3, .int .u64 a2, .int .u64 a1, .int .u64 a0], [.int .u64 b3, .int .u64 b2, .int .u64 b1, .int .u64 b0], [.int .u64 0, .int .u64 0, .int .u64 0, .int .u64 0, .int .u64 0, .int .u64 0, .int .u64 0, .int .u64 0]] := (by with_reducible exact T0.step hB); have hltw2 := T0.lt3; try (replace G0 := G0.step hB; have z0c := G0.c 0 rfl; have z0f := G0.f 0 rfl; have z1c := G0.c 1 rfl; have z1f := G0.f 1 rfl; have z2c := G0.c 2 rfl; have z2f := G0.f 2 rfl; have z3c := G0.c 3 rfl; have z3f := G0.f 3 rfl; have zlt := G0.lt); try (replace G1 := G1.step hB; have y0c := G1.c 0 rfl; have y0f := G1.f 0 rfl; have y1c := G1.c 1 rfl; have y1f := G1.f 1 rfl; have y2c := G1.c 2 rfl; have y2f := G1.f 2 rfl; have y3c := G1.c 3 rfl; have y3f := G1.f 3 rfl; have ylt := G1.lt)) | (have T1 : ArgsB w w2 [[.int .u64 a3, .int .u64 a2, .int .u64 a1, .int .u64 a0], [.int .u64 b3, .int .u64 b2, .int .u64 b1, .int .u64 b0], [.int .u64 0, .int .u64 0, .int .u64 0, .int .u64 0, .int .u64 0, .int .u64 0, .int .u64 0, .int .u64 0]] := (by with_reducible exact T0.drew.step hB); have hltw2 := T0.lt3; try (replace G0 := G0.drew.step hB; have z0c := G0.c 0 rfl; have z0f := G0.f 0 rfl; have z1c := G0.c 1 rfl; have z1f := G0.f 1 rfl; have z2c := G0.c 2 rfl; have z2f := G0.f 2 rfl; have z3c := G0.c 3 rfl; have z3f := G0.f 3 rfl; have zlt := G0.lt); try (replace G1 := G1.drew.step hB; have y0c := G1.c 0 rfl; have y0f := G1.f 0 rfl; have y1c := G1.c 1 rfl; have y1f := G1.f 1 rfl; have y2c := G1.c 2 rfl; have y2f := G1.f 2 rfl; have y3c := G1.c 3 rfl; have y3f := G1.f 3 rfl; have ylt := G1.lt)) | (have T1 : ArgsB w w2 [[.int .u64 a3, .int .u64 a2, .int .u64 a1, .int .u64 a0], [.int .u64 b3, .int .u64 b2, .int .u64 b1, .int .u64 b0], [.int .u64 0, .int .u64 0, .int .u64 0, .int .u64 0, .int .u64 0, .int .u64 0, .int .u64 0, .int .u64 0]] := (by with_reducible exact (T0.alloc _).step hB); have hltw2 := T0.lt3; (first | (have G1 := (Blk.new _ [.int .u64 0, .int .u64 0, .int .u64 0, .int .u64 0] _ rfl).step hB; have hgg := G0.lt; replace G0 := (G0.alloc _).step hB; have z0c := G0.c 0 rfl; have z0f := G0.f 0 rfl; have z1c := G0.c 1 rfl; have z1f := G0.f 1 rfl; have z2c := G0.c 2 rfl; have z2f := G0.f 2 rfl; have z3c := G0.c 3 rfl; have z3f := G0.f 3 rfl; have zlt := G0.lt; have y0c := G1.c 0 rfl; have y0f := G1.f 0 rfl; have y1c := G1.c 1 rfl; have y1f := G1.f 1 rfl; have y2c := G1.c 2 rfl; have y2f := G1.f 2 rfl; have y3c := G1.c 3 rfl; have y3f := G1.f 3 rfl; have ylt := G1.lt) | (have G0 := (Blk.new _ [.int .u64 0, .int .u64 0, .int .u64 0, .int .u64 0] _ rfl).step hB; have z0c := G0.c 0 rfl; have z0f := G0.f 0 rfl; have z1c := G0.c 1 rfl; have z1f := G0.f 1 rfl; have z2c := G0.c 2 rfl; have z2f := G0.f 2 rfl; have z3c := G0.c 3 rfl; have z3f := G0.f 3 rfl; have zlt := G0.lt))) | (have T1 : ArgsB w w2 [[.int .u64 a3, .int .u64 a2, .int .u64 a1, .int .u64 a0], [.int .u64 b3, .int .u64 b2, .int .u64 b1, .int .u64 b0], [.int .u64 0, .int .u64 0, .int .u64 0, .int .u64 0, .int .u64 0, .int .u64 0, .int .u64 0, .int .u64 0]] := (by with_reducible exact (T0.alloc _).drew.step hB); have hltw2 := T0.lt3; (first | (have G1 := (Blk.new _ [.int .u64 0, .int .u64 0, .int .u64 0, .int .u64 0] _ rfl).drew.step hB; have hgg := G0.lt; replace G0 := (G0.alloc _).drew.step hB; have z0c := G0.c 0 rfl; have z0f := G0.f 0 rfl; have z1c := G0.c 1 rfl; have z1f := G0.f 1 rfl; have z2c := G0.c 2 rfl; have z2f := G0.f 2 rfl; have z3c := G0.c 3 rfl; have z3f := G0.f 3 rfl; have zlt := G0.lt; have y0c := G1.c 0 rfl; have y0f := G1.f 0 rfl; have y1c := G1.c 1 rfl; have y1f := G1.f 1 rfl; have y2c := G1.c 2 rfl; have y2f := G1.f 2 rfl; have y3c := G1.c 3 rfl; have y3f := G1.f 3 rfl; have ylt := G1.lt) | (have G0 := (Blk.new _ [.int .u64 0, .int .u64 0, .int .u64 0, .int .u64 0] _ rfl).drew.step hB; have z0c := G0.c 0 rfl; have z0f := G0.f 0 rfl; have z1c := G0.c 1 rfl; have z1f := G0.f 1 rfl; have z2c := G0.c 2 rfl; have z2f := G0.f 2 rfl; have z3c := G0.c 3 rfl; have z3f := G0.f 3 rfl; have zlt := G0.lt))) | (have T1 : ArgsB w w2 [[.int .u64 a3, .int .u64 a2, .int .u64 a1, .int .u64 a0], [.int .u64 b3, .int .u64 b2, .int .u64 b1, .int .u64 b0], [.int .u64 0, .int .u64 0, .int .u64 0, .int .u64 0, .int .u64 0, .int .u64 0, .int .u64 0, .int .u64 0]] := (by with_reducible exact ((T0.alloc _).alloc _).step hB); have hltw2 := T0.lt3; have G0 := ((Blk.new _ [.int .u64 0, .int .u64 0, .int .u64 0, .int .u64 0] _ rfl).alloc _).step hB; have G1 := (Blk.new2 _ _ [.int .u64 0, .int .u64 0, .int .u64 0, .int .u64 0] _).step hB; have z0c := G0.c 0 rfl; have z0f := G0.f 0 rfl; have z1c := G0.c 1 rfl; have z1f := G0.f 1 rfl; have z2c := G0.c 2 rfl; have z2f := G0.f 2 rfl; have z3c := G0.c 3 rfl; have z3f := G0.f 3 rfl; have zlt := G0.lt; have y0c := G1.c 0 rfl; have y0f := G1.f 0 rfl; have y1c := G1.c 1 rfl; have y1f := G1.f 1 rfl; have y2c := G1.c 2 rfl; have y2f := G1.f 2 rfl; have y3c := G1.c 3 rfl; have y3f := G1.f 3 rfl; have ylt := G1.lt) | (have T1 : ArgsB w w2 [[.int .u64 a3, .int .u64 a2, .int .u64 a1, .int .u64 a0], [.int .u64 b3, .int .u64 b2, .int .u64 b1, .int .u64 b0], [.int .u64 0, .int .u64 0, .int .u64 0, .int .u64 0, .int .u64 0, .int .u64 0, .int .u64 0, .int .u64 0]] := (by with_reducible exact ((T0.alloc _).alloc _).drew.step hB); have hltw2 := T0.lt3; have G0 := ((Blk.new _ [.int .u64 0, .int .u64 0, .int .u64 0, .int .u64 0] _ rfl).alloc _).drew.step hB; have G1 := (Blk.new2 _ _ [.int .u64 0, .int .u64 0, .int .u64 0, .int .u64 0] _).drew.step hB; have z0c := G0.c 0 rfl; have z0f := G0.f 0 rfl; have z1c := G0.c 1 rfl; have z1f := G0.f 1 rfl; have z2c := G0.c 2 rfl; have z2f := G0.f 2 rfl; have z3c := G0.c 3 rfl; have z3f := G0.f 3 rfl; have zlt := G0.lt; have y0c := G1.c 0 rfl; have y0f := G1.f 0 rfl; have y1c := G1.c 1 rfl; have y1f := G1.f 1 rfl; have y2c := G1.c 2 rfl; have y2f := G1.f 2 rfl; have y3c := G1.c 3 rfl; have y3f := G1.f 3 rfl; have ylt := G1.lt)); clear T0; have T0 := T1; clear T1; clear hB))
    all_goals go_wp2_with fail
    all_goals go_meet
    all_goals first | (with_reducible exact cutT_nn T0 T0.lt3) | (with_reducible exact cutT_nn' T0 T0.lt3) | (with_reducible exact cutT_sn T0 G0 (by omega) T0.lt3) | (with_reducible exact cutT_sn' T0 G0 (by omega) T0.lt3) | (with_reducible exact cutT_ss T0 G0 G1 (by omega) (by omega) (by omega)) | (with_reducible exact cutT_ss T0 G1 G0 (by omega) (by omega) (by omega))
  case rest =>
    clear T0 tok1
    obtain ⟨g, g', hp, hq, hne, hg, hg', T0, GX, GY⟩ := hcut
    subst hp; subst hq
    have hw4 : Words [x0, x1, x2, x3] := words4 e0 e1 e2 e3
    have hv4 : Words [y0, y1, y2, y3] := words4 f0 f1 f2 f3
    have HVX : Hid (val64 [x0, x1, x2, x3] = ((sw a3 a2 a1 a0).natAbs : Int)) := by show _ = _; rw [val64_4, hx]
    have HVY : Hid (val64 [y0, y1, y2, y3] = ((sw b3 b2 b1 b0).natAbs : Int)) := by show _ = _; rw [val64_4, hy]
    have HX : Hid (Words [x0, x1, x2, x3]) := hw4
    have HY : Hid (Words [y0, y1, y2, y3]) := hv4
    have HS : Tm3 w (wc.alloc (.cells #[.int .u64 0, .int .u64 0, .int .u64 0, .int .u64 0, .int .u64 0, .int .u64 0, .int .u64 0, .int .u64 0] 53)) [[.int .u64 a3, .int .u64 a2, .int .u64 a1, .int .u64 a0], [.int .u64 b3, .int .u64 b2, .int .u64 b1, .int .u64 b0], [.int .u64 0, .int .u64 0, .int .u64 0, .int .u64 0, .int .u64 0, .int .u64 0, .int .u64 0, .int .u64 0]] g g' wc.heap.size [x0, x1, x2, x3] [y0, y1, y2, y3] [0, 0, 0, 0, 0, 0, 0, 0] := ⟨T0.alloc _, GX.alloc _, GY.alloc _, Blk.new wc [.int .u64 0, .int .u64 0, .int .u64 0, .int .u64 0, .int .u64 0, .int .u64 0, .int .u64 0, .int .u64 0] 53 rfl⟩
    have hgx := GX.lt; have hgy := GY.lt; have hl3 := T0.lt3
    clear T0 GX GY hx hy e3 e2 e1 e0 f3 f2 f1 f0 hw4 hv4
    go_upto_region 3 with fail
    generalize wc.alloc (.cells #[.int .u64 0, .int .u64 0, .int .u64 0, .int .u64 0, .int .u64 0, .int .u64 0, .int .u64 0, .int .u64 0] 53) = W1 at *
    have ng : g ≠ wc.heap.size := by omega
    have ng' : g' ≠ wc.heap.size := by omega
    have hgp : w.heap.size + 2 < wc.heap.size := hl3
    generalize wc.heap.size = gp at *
    generalize hxs : [x0, x1, x2, x3] = xs at *
    generalize hys : [y0, y1, y2, y3] = ys at *
    have HLX : Hid (xs.length = 4) := by show _ = _; rw [← hxs]; rfl
    have HLY : Hid (ys.length = 4) := by show _ = _; rw [← hys]; rfl
    clear hxs hys hgx hgy hl3
    have RX : Row W1 g 0 xs := row_of_blk HS.x
    have RY : Row W1 g' 0 ys := row_of_blk HS.y
    go_wp2_with fail
    refine (countWords_any g' 0 4 4 ys _ HLY.out RY (by decide)).mono ?_
    rintro e w1 ⟨n, rfl, hn, hz, -, rfl⟩
    go_wp2_with fail
    refine (countWords_any g 0 4 4 xs _ HLX.out RX (by decide)).mono ?_
    rintro e w1 ⟨m, rfl, hm, hzm, -, rfl⟩
    have hm4 : m ≤ 4 := by have := HLX.out; omega
    have hn4 : n ≤ 4 := by have := HLY.out; omega
    have HCX : Hid (val64 (xs.take m) = val64 xs) := val64_cut xs m hm hzm
    have HCY : Hid (val64 (ys.take n) = val64 ys) := val64_cut ys n hn hz
    have HLN : Hid ((ys.take n).length = n) := by show _ = _; rw [List.length_take]; omega
    have SM := slice4_h g m hm4
    have HI : TmI xs (ys.take n) [0, 0, 0, 0, 0, 0, 0, 0] 0 := tm_start _ _
    clear hz hzm hm hn RX RY
    go_wp2_with fail
    go_loopw [26] (fun i wr => ∃ (c : Nat) (zs : List Int), c ≤ m ∧ i = .int .i64 c ∧ TmI xs (ys.take n) zs c ∧ Tm3 w wr [[.int .u64 a3, .int .u64 a2, .int .u64 a1, .int .u64 a0], [.int .u64 b3, .int .u64 b2, .int .u64 b1, .int .u64 b0], [.int .u64 0, .int .u64 0, .int .u64 0, .int .u64 0, .int .u64 0, .int .u64 0, .int .u64 0, .int .u64 0]] g g' gp xs ys zs) (fun i _ => m - (intOf i).toNat)
    case atStart => exact ⟨0, _, by omega, rfl, HI, HS⟩
    case round =>
      clear HI HS SM
      obtain ⟨c, zs, hc, rfl, hI, hT⟩ := hrel
      by_cases hc4 : c < m
      · have hcx : c < xs.length := by have := HLX.out; omega
        have HJ := tm_in hI xs[c]
        have HWX := words_at HX.out c hcx
        have hcI : (c : Int) < m := by omega
        have hcJ : (c : Int) < 4 := by omega
        have q1 := hT.cx c hcx
        clear hI
        go_wp2
        obtain ⟨wo, hwo⟩ : ∃ wo : World, wo = wr := ⟨_, rfl⟩
        subst hwo
        clear q1
        go_loopw [11, 32] (fun o k wr => ∃ (j : Nat) (ov : Int) (zs : List Int), j ≤ n ∧ k = .int .i64 j ∧ Word ov ∧ o = .int .u64 ov ∧ TmJ xs (ys.take n) zs c j xs[c] ov ∧ Tm3 w wr [[.int .u64 a3, .int .u64 a2, .int .u64 a1, .int .u64 a0], [.int .u64 b3, .int .u64 b2, .int .u64 b1, .int .u64 b0], [.int .u64 0, .int .u64 0, .int .u64 0, .int .u64 0, .int .u64 0, .int .u64 0, .int .u64 0, .int .u64 0]] g g' gp xs ys zs) (fun _ k _ => n - (intOf k).toNat)
        case atStart => exact ⟨0, 0, _, by omega, rfl, wd0, rfl, HJ, hT⟩
        case round =>
          clear HJ hT
          obtain ⟨j, ov, zs', hj, rfl, ho, rfl, hJ, hT⟩ := hrel
          have hlen := hJ.len
          by_cases hj4 : j < n
          · have hjy : j < ys.length := by have := HLY.out; omega
            have hjn : j < (ys.take n).length := by have := HLN.out; omega
            have hij : c + j < zs'.length := by omega
            have q2 := hT.cy j hjy
            obtain ⟨q3, q4⟩ := hT.cp (c + j) hij
            have HWY := words_at HY.out j hjy
            have HWZ := words_at hJ.wds (c + j) hij
            obtain ⟨P0, P1⟩ := word_mul HWX HWY
            obtain ⟨hi, ehi⟩ : ∃ v, xs[c] * ys[j] / 18446744073709551616 = v := ⟨_, rfl⟩
            obtain ⟨lo, elo⟩ : ∃ v, xs[c] * ys[j] % 18446744073709551616 = v := ⟨_, rfl⟩
            obtain ⟨t1, t2, t3, t4, t5, t6, t7, t8⟩ := tm_arith P0 P1 HWZ ho
            rw [ehi] at t1 t4 t6
            rw [elo] at t2 t3 t4 t5 t6
            have M1 := mul64n xs[c] ys[j] hi lo HWX HWY ehi elo
            obtain ⟨l1, el1⟩ : ∃ v, (lo + zs'[c + j]) % 18446744073709551616 = v := ⟨_, rfl⟩
            obtain ⟨c1, ec1⟩ : ∃ v, (lo + zs'[c + j]) / 18446744073709551616 = v := ⟨_, rfl⟩
            have A1 := add64n lo zs'[c + j] l1 c1 t2 HWZ el1 ec1
            rw [el1] at t3 t5 t6
            rw [ec1] at t4 t6
            obtain ⟨n1, en1⟩ : ∃ v, (l1 + ov) % 18446744073709551616 = v := ⟨_, rfl⟩
            obtain ⟨c2, ec2⟩ : ∃ v, (l1 + ov) / 18446744073709551616 = v := ⟨_, rfl⟩
            have A2 := add64n l1 ov n1 c2 t3 ho en1 ec2
            rw [en1] at t5
            rw [ec2] at t6
            have R1 := tm_step hJ hjn hij (xs[c] * ys[j] + zs'[c + j] + ov) (by rw [List.getElem_take]) t8
            have R2 := hT.set ng ng' hgp (c + j) hij n1
            rw [← t5, ← t6] at R1
            rw [← t6] at t7
            have d1 : 0 ≤ hi := t1.1
            have d2 : 0 ≤ c1 := by rw [← ec1]; have := t2.1; have := HWZ.1; omega
            have d3 : 0 ≤ c2 := by rw [← ec2]; have := t3.1; have := ho.1; omega
            obtain ⟨d4, d5⟩ : 0 ≤ hi + c1 + c2 ∧ hi + c1 + c2 < 18446744073709551616 := t7
            clear hJ hT hlen t1 t2 t3 t5 t6 t8 P0 P1 ehi elo el1 ec1 en1 ec2 HWY HWZ
            have hjI : (j : Int) < n := by omega
            have hjJ : (j : Int) < 4 := by omega
            have hcj : (c : Int) + j < 8 := by omega
            go_wp2_with fail
            refine (M1 _).mono ?_
            rintro e w1 ⟨rfl, rfl⟩
            clear M1
            go_wp2
            go_roundw
            case rel => exact ⟨j + 1, _, _, by omega, by go_num, ⟨d4, d5⟩, rfl, R1, R2⟩
            case measure => simp [intOf]; omega
          · obtain rfl : j = n := by omega
            have him : c + (ys.take j).length < zs'.length := by have := HLN.out; omega
            have hJ' : TmJ xs (ys.take j) zs' c (ys.take j).length xs[c] ov := by rw [HLN.out]; exact hJ
            have R1 := tm_out hcx hJ' him ho
            rw [HLN.out] at R1 him
            obtain ⟨q3, q4⟩ := hT.cp (c + j) him
            have R2 := hT.set ng ng' hgp (c + j) him ov
            clear hJ hJ' hT hlen
            have hcj : (c : Int) + j < 8 := by omega
            go_wp2
            go_roundw
            case rel => exact ⟨c + 1, _, by omega, by go_num, R1, R2⟩
            case measure => simp [intOf]; omega
      · obtain rfl : c = m := by omega
        obtain ⟨z0, z1, z2, z3, z4, z5, z6, z7, rfl⟩ := list8 hI.len
        have wz := hI.wds
        have HV : Hid (val64 [z0, z1, z2, z3, z4, z5, z6, z7] = ((sw a3 a2 a1 a0).natAbs : Int) * ((sw b3 b2 b1 b0).natAbs : Int)) := by
          show _ = _
          rw [hI.eq, HCX.out, HCY.out, HVX.out, HVY.out]
        obtain ⟨pa, hpa⟩ : ∃ b, (a3 / 9223372036854775808 == 1) = b := ⟨_, rfl⟩
        obtain ⟨pb, hpb⟩ : ∃ b, (b3 / 9223372036854775808 == 1) = b := ⟨_, rfl⟩
        have HPA : Hid (pa = decide (sw a3 a2 a1 a0 < 0)) := by show _ = _; rw [← hpa, Bool.eq_iff_iff]; have := sw_neg h3 h2 h1 h0; unfold Word at h3; simp; omega
        have HPB : Hid (pb = decide (sw b3 b2 b1 b0 < 0)) := by show _ = _; rw [← hpb, Bool.eq_iff_iff]; have := sw_neg k3 k2 k1 k0; unfold Word at k3; simp; omega
        have tok1 : True := trivial
        clear hI hc hc4
        go_upto_region 20 with fail
        go_region_held3 (fun w' => w'.cell? ⟨gp, 0, none⟩ = some (.int .u64 z0) ∧ w'.cell? ⟨gp, 1, none⟩ = some (.int .u64 z1) ∧ w'.cell? ⟨gp, 2, none⟩ = some (.int .u64 z2) ∧ w'.cell? ⟨gp, 3, none⟩ = some (.int .u64 z3) ∧ w'.cell? ⟨gp, 4, none⟩ = some (.int .u64 z4) ∧ w'.cell? ⟨gp, 5, none⟩ = some (.int .u64 z5) ∧ w'.cell? ⟨gp, 6, none⟩ = some (.int .u64 z6) ∧ w'.cell? ⟨gp, 7, none⟩ = some (.int .u64 z7) ∧ w'.cell? ⟨w.heap.size, 0, none⟩ = some (.int .u64 a3) ∧ w'.cell? ⟨w.heap.size, 1, none⟩ = some (.int .u64 a2) ∧ w'.cell? ⟨w.heap.size, 2, none⟩ = some (.int .u64 a1) ∧ w'.cell? ⟨w.heap.size, 3, none⟩ = some (.int .u64 a0) ∧ w'.cell? ⟨w.heap.size + 1, 0, none⟩ = some (.int .u64 b3) ∧ w'.cell? ⟨w.heap.size + 1, 1, none⟩ = some (.int .u64 b2) ∧ w'.cell? ⟨w.heap.size + 1, 2, none⟩ = some (.int .u64 b1) ∧ w'.cell? ⟨w.heap.size + 1, 3, none⟩ = some (.int .u64 b0)) (first | (with_reducible exact tm3_cells hT) | (with_reducible exact tm3_cells hT.drew1) | (with_reducible exact tm3_cells8 hT hgp))
          (first
            | (go_at_call 27; have _t := tok1; refine (isBelow_any a3 a2 a1 a0 h3 pa hpa _).mono ?_; rintro e w1 ⟨rfl, hB⟩; (first | (have T1 := hT.step hB) | (have T1 := hT.drew1.step hB)); clear hT; have hT := T1; clear T1; clear tok1 _t hB)
            | (go_at_call 27; refine (isBelow_any b3 b2 b1 b0 k3 pb hpb _).mono ?_; rintro e w2 ⟨rfl, hB⟩; (first | (have T1 := hT.step hB) | (have T1 := hT.drew1.step hB)); clear hT; have hT := T1; clear T1; clear hB)
            | (go_at_call 39; refine (signed_any z0 z1 z2 z3 z4 z5 z6 z7 _ wz _).mono ?_; rintro e w3 ⟨r0, r1, r2, r3, r4, r5, r6, r7, rfl, wr8, hr8, hB⟩; (first | (have T1 := hT.step hB) | (have T1 := hT.drew1.step hB)); clear hT; have hT := T1; clear T1; have o0 := (hT.args.b 2 rfl).c 0 rfl; have p0 := (hT.args.b 2 rfl).f 0 rfl; have o1 := (hT.args.b 2 rfl).c 1 rfl; have p1 := (hT.args.b 2 rfl).f 1 rfl; have o2 := (hT.args.b 2 rfl).c 2 rfl; have p2 := (hT.args.b 2 rfl).f 2 rfl; have o3 := (hT.args.b 2 rfl).c 3 rfl; have p3 := (hT.args.b 2 rfl).f 3 rfl; have o4 := (hT.args.b 2 rfl).c 4 rfl; have p4 := (hT.args.b 2 rfl).f 4 rfl; have o5 := (hT.args.b 2 rfl).c 5 rfl; have p5 := (hT.args.b 2 rfl).f 5 rfl; have o6 := (hT.args.b 2 rfl).c 6 rfl; have p6 := (hT.args.b 2 rfl).f 6 rfl; have o7 := (hT.args.b 2 rfl).c 7 rfl; have p7 := (hT.args.b 2 rfl).f 7 rfl; have olt := (hT.args.b 2 rfl).lt; clear hB))
        all_goals have HB := hT.args.below
        all_goals have HR := sl_signed wr8 (sw_size h3 h2 h1 h0) (sw_size k3 k2 k1 k0) HV.out (by rw [HPA.out, HPB.out]; rfl) hr8
        all_goals clear hr8 hT
        all_goals go_wp2
        all_goals refine bodyPost_ret (v := L8 r0 r1 r2 r3 r4 r5 r6 r7) (by simp [results, Try.results32, go_sem, o0, o1, o2, o3, o4, o5, o6, o7]) rfl ?_
        all_goals refine ⟨r0, r1, r2, r3, r4, r5, r6, r7, rfl, wr8, HR, ?_⟩
        all_goals repeat' (refine Below.setCell ?_ (by simp; try omega) _)
        all_goals exact HB
end Go.Proofs.Ytgbogbmbghpadaa

/- The walk of the program's product of four words, told as four. -/
namespace Go.Proofs.Ytgbogbmbghpadaa
open Go.RowKit
theorem im_args (a3 a2 a1 a0 b3 b2 b1 b0 : Int) (w : World) : ArgsB w (((w.alloc (.cells #[.int .u64 a3, .int .u64 a2, .int .u64 a1, .int .u64 a0] 26)).alloc (.cells #[.int .u64 b3, .int .u64 b2, .int .u64 b1, .int .u64 b0] 26)).alloc (.cells #[.int .u64 0, .int .u64 0, .int .u64 0, .int .u64 0] 26)) [[.int .u64 a3, .int .u64 a2, .int .u64 a1, .int .u64 a0], [.int .u64 b3, .int .u64 b2, .int .u64 b1, .int .u64 b0], [.int .u64 0, .int .u64 0, .int .u64 0, .int .u64 0]] := by
  refine ⟨(((Below.refl _ _).alloc (Nat.le_refl _) _).alloc (by simp) _).alloc (by simp; omega) _, fun j vs hj => ?_⟩
  match j, hj with
  | 0, hj => cases hj; exact ((Blk.new w [.int .u64 a3, .int .u64 a2, .int .u64 a1, .int .u64 a0] 26 rfl).alloc _).alloc _
  | 1, hj => cases hj; exact (Blk.new (w.alloc (.cells #[.int .u64 a3, .int .u64 a2, .int .u64 a1, .int .u64 a0] 26)) [.int .u64 b3, .int .u64 b2, .int .u64 b1, .int .u64 b0] 26 (by simp)).alloc _
  | 2, hj => cases hj; exact Blk.new ((w.alloc (.cells #[.int .u64 a3, .int .u64 a2, .int .u64 a1, .int .u64 a0] 26)).alloc (.cells #[.int .u64 b3, .int .u64 b2, .int .u64 b1, .int .u64 b0] 26)) [.int .u64 0, .int .u64 0, .int .u64 0, .int .u64 0] 26 (by simp)
  | j + 3, hj => simp at hj
set_option maxRecDepth 100000 in
set_option maxHeartbeats 1000000 in
theorem implMul_any (a3 a2 a1 a0 b3 b2 b1 b0 : Int) (h3 : Word a3) (h2 : Word a2) (h1 : Word a1) (h0 : Word a0) (k3 : Word b3) (k2 : Word b2) (k1 : Word b1) (k0 : Word b0) (w : World) :
    Calls Try.prog 10 #[.agg #[.int .u64 a3, .int .u64 a2, .int .u64 a1, .int .u64 a0], .agg #[.int .u64 b3, .int .u64 b2, .int .u64 b1, .int .u64 b0]] w (TellP (sw a3 a2 a1 a0 * sw b3 b2 b1 b0) w) := by
  have T0 := im_args a3 a2 a1 a0 b3 b2 b1 b0 w
  go_enter Try.func10, Try.ntmps10
  go_wp2_with fail
  refine (times_any a3 a2 a1 a0 b3 b2 b1 b0 h3 h2 h1 h0 k3 k2 k1 k0 _).mono ?_
  rintro e w1 ⟨z0, z1, z2, z3, z4, z5, z6, z7, rfl, wz, hz, hB⟩
  replace T0 := T0.step hB
  clear hB
  go_wp2_with fail
  refine (tellWide_any z0 z1 z2 z3 z4 z5 z6 z7 wz _).mono ?_
  intro e w2 hT
  have hTT := tellP_from T0.below hT
  replace T0 := T0.step hT.1
  obtain ⟨x3, x2, x1, x0, p, rfl⟩ := tellP_shape hT
  have c0 := (T0.b 2 rfl).c 0 rfl; have f0 := (T0.b 2 rfl).f 0 rfl; have c1 := (T0.b 2 rfl).c 1 rfl; have f1 := (T0.b 2 rfl).f 1 rfl; have c2 := (T0.b 2 rfl).c 2 rfl; have f2 := (T0.b 2 rfl).f 2 rfl; have c3 := (T0.b 2 rfl).c 3 rfl; have f3 := (T0.b 2 rfl).f 3 rfl
  have lt := (T0.b 2 rfl).lt
  rw [hz] at hTT
  clear hT T0 hz wz
  go_wp2
  refine bodyPost_ret (v := .tuple #[.agg #[.int .u64 x3, .int .u64 x2, .int .u64 x1, .int .u64 x0], .bool p]) (by simp [results, Try.results10, go_sem, c0, c1, c2, c3]) rfl ?_
  exact tellP_set (by omega) hTT
end Go.Proofs.Ytgbogbmbghpadaa

/- The walks of the model's sum, difference and negation of four words. -/
namespace Go.Proofs.Ytgbogbmbghpadaa
open Go.RowKit
set_option maxRecDepth 100000 in
set_option maxHeartbeats 2000000 in
theorem specAdd_any (a3 a2 a1 a0 b3 b2 b1 b0 : Int) (h3 : Word a3) (h2 : Word a2) (h1 : Word a1) (h0 : Word a0) (k3 : Word b3) (k2 : Word b2) (k1 : Word b1) (k0 : Word b0) (w : World) :
    Calls Try.prog 9 #[.agg #[.int .u64 a3, .int .u64 a2, .int .u64 a1, .int .u64 a0], .agg #[.int .u64 b3, .int .u64 b2, .int .u64 b1, .int .u64 b0]] w (TellP (sw a3 a2 a1 a0 + sw b3 b2 b1 b0) w) := by
  have T0 := ((twoW_start w a3 a2 a1 a0 b3 b2 b1 b0 26).alloc (Obj.cells #[Value.int IntKind.u64 0, Value.int IntKind.u64 0, Value.int IntKind.u64 0, Value.int IntKind.u64 0] 26)).drew
  have R0 : Wd _ (w.heap.size + 1 + 1) 0 0 0 0 := (Wd.new ((w.alloc (Obj.cells #[Value.int IntKind.u64 a3, Value.int IntKind.u64 a2, Value.int IntKind.u64 a1, Value.int IntKind.u64 a0] 26)).alloc (Obj.cells #[Value.int IntKind.u64 b3, Value.int IntKind.u64 b2, Value.int IntKind.u64 b1, Value.int IntKind.u64 b0] 26)) 0 0 0 0 26 (by simp)).drew
  have tok1 : True := trivial
  go_enter Try.func9, Try.ntmps9
  go_wp2
  generalize ((w.alloc (Obj.cells #[Value.int IntKind.u64 a3, Value.int IntKind.u64 a2, Value.int IntKind.u64 a1, Value.int IntKind.u64 a0] 26)).alloc (Obj.cells #[Value.int IntKind.u64 b3, Value.int IntKind.u64 b2, Value.int IntKind.u64 b1, Value.int IntKind.u64 b0] 26)).alloc (Obj.cells #[Value.int IntKind.u64 0, Value.int IntKind.u64 0, Value.int IntKind.u64 0, Value.int IntKind.u64 0] 26) = W at *
  go_region_held3 (fun w' => w'.cell? ⟨w.heap.size, 0, none⟩ = some (.int .u64 a3) ∧ w'.cell? ⟨w.heap.size, 1, none⟩ = some (.int .u64 a2) ∧ w'.cell? ⟨w.heap.size, 2, none⟩ = some (.int .u64 a1) ∧ w'.cell? ⟨w.heap.size, 3, none⟩ = some (.int .u64 a0) ∧ w'.cell? ⟨w.heap.size + 1, 0, none⟩ = some (.int .u64 b3) ∧ w'.cell? ⟨w.heap.size + 1, 1, none⟩ = some (.int .u64 b2) ∧ w'.cell? ⟨w.heap.size + 1, 2, none⟩ = some (.int .u64 b1) ∧ w'.cell? ⟨w.heap.size + 1, 3, none⟩ = some (.int .u64 b0)) (first | exact T0.cells | exact (T0.set (by omega) _ _ _ _).cells | exact (T0.set (by omega) _ _ _ _).drew.cells)
    (first
      | (go_at_call 30; have _t := tok1; refine (from_any a3 a2 a1 a0 h3 h2 h1 h0 _).mono ?_; rintro e w1 ⟨s1, ao1, n1, c1, ds1, rfl, N1, hB1⟩; replace T0 := T0.step hB1; replace R0 := R0.step hB1; clear tok1 _t hB1)
      | (go_at_call 30; refine (from_any b3 b2 b1 b0 k3 k2 k1 k0 _).mono ?_; rintro e w2 ⟨s2, ao2, n2, c2, ds2, rfl, N2, hB2⟩; replace T0 := T0.step hB2; replace R0 := R0.step hB2; replace N1 := N1.below hB2; clear hB2)
      | (go_at_call 29; refine (add_any s1 s2 ao1 ao2 n1 n2 c1 c2 8 ds1 ds2 _ _ _ N1 N2 (by omega)).mono ?_; rintro e w3 ⟨s3, ao3, n3, c3, ds3, rfl, N3, hB3⟩; replace T0 := T0.step hB3; replace R0 := R0.step hB3; clear hB3 N1 N2)
      | (go_at_call 28; refine (toW_any s3 ao3 n3 c3 ds3 _ 9 _ N3 (by omega)).mono ?_; intro e w4 hT; have hBB := T0.below; have hTT := tellP_from hBB hT; replace T0 := T0.step hT.1; replace R0 := R0.step hT.1; obtain ⟨x3, x2, x1, x0, p, rfl⟩ := tellP_shape hT; have r0 := R0.c0; have r1 := R0.c1; have r2 := R0.c2; have r3 := R0.c3; have f0 := R0.f0; have f1 := R0.f1; have f2 := R0.f2; have f3 := R0.f3; clear hT N3 hBB))
  all_goals go_wp2
  all_goals refine bodyPost_ret (v := .tuple #[.agg #[.int .u64 x3, .int .u64 x2, .int .u64 x1, .int .u64 x0], .bool p]) (by simp [results, Try.results9, go_sem, r0, r1, r2, r3]) rfl ?_
  all_goals first | exact tellP_set (by omega) hTT | exact tellP_drew (tellP_set (by omega) hTT)
end Go.Proofs.Ytgbogbmbghpadaa

/- Numbers that are told, and laws of drawn numbers: what their walks have in common. -/
namespace Go.Proofs.Ytgbogbmbghpadaa
open Go.RowKit
theorem tell_words4 {z : Int} {w w' : World} {e : Ending} (h : TellP z w e w') : ∃ a3 a2 a1 a0 b, e = .returned (.tuple #[.agg #[.int .u64 a3, .int .u64 a2, .int .u64 a1, .int .u64 a0], .bool b]) ∧ (Word a3 ∧ Word a2 ∧ Word a1 ∧ Word a0) ∧ Below w.heap.size w w' := by
  obtain ⟨a3, a2, a1, a0, b, e, h3, h2, h1, h0, hB⟩ := tell_words h
  exact ⟨a3, a2, a1, a0, b, e, ⟨h3, h2, h1, h0⟩, hB⟩
theorem tell_yes {z : Int} {w w' : World} {a3 a2 a1 a0 : Int} (h : TellP z w (.returned (.tuple #[.agg #[.int .u64 a3, .int .u64 a2, .int .u64 a1, .int .u64 a0], .bool true])) w') : told z = true ∧ sw a3 a2 a1 a0 = z := by
  obtain ⟨_, ⟨ht, b3, b2, b1, b0, e, _, _, _, _, hs⟩ | ⟨_, e⟩⟩ := h
  · simp at e
    obtain ⟨rfl, rfl, rfl, rfl⟩ := e
    exact ⟨ht, hs⟩
  · simp at e
theorem tell_no {z : Int} {w w' : World} {a3 a2 a1 a0 : Int} (h : TellP z w (.returned (.tuple #[.agg #[.int .u64 a3, .int .u64 a2, .int .u64 a1, .int .u64 a0], .bool false])) w') : told z = false ∧ True := by
  obtain ⟨_, ⟨_, b3, b2, b1, b0, e, _⟩ | ⟨ht, _⟩⟩ := h
  · simp at e
  · exact ⟨ht, trivial⟩
theorem told_sw {a3 a2 a1 a0 : Int} (h : Word a3 ∧ Word a2 ∧ Word a1 ∧ Word a0) : told (sw a3 a2 a1 a0) = true := by
  obtain ⟨h3, h2, h1, h0⟩ := h
  unfold told
  apply decide_eq_true
  unfold Word sw uw at *
  split <;> omega
/-- A number that is told as these words. -/
theorem tell_back {z : Int} {w w' : World} {a3 a2 a1 a0 b3 b2 b1 b0 : Int} {b : Bool} (h : TellP z w (.returned (.tuple #[.agg #[.int .u64 b3, .int .u64 b2, .int .u64 b1, .int .u64 b0], .bool b])) w') (ha : Word a3 ∧ Word a2 ∧ Word a1 ∧ Word a0) (hz : z = sw a3 a2 a1 a0) : a3 = b3 ∧ a2 = b2 ∧ a1 = b1 ∧ a0 = b0 ∧ true = b := by
  subst hz
  obtain ⟨_, ⟨_, c3, c2, c1, c0, e, g3, g2, g1, g0, hs⟩ | ⟨ht, _⟩⟩ := h
  · simp at e
    obtain ⟨⟨rfl, rfl, rfl, rfl⟩, rfl⟩ := e
    obtain ⟨rfl, rfl, rfl, rfl⟩ := sw_inj g3 g2 g1 g0 ha.1 ha.2.1 ha.2.2.1 ha.2.2.2 hs
    exact ⟨rfl, rfl, rfl, rfl, rfl⟩
  · rw [told_sw ha] at ht; cases ht
theorem big_any (ao : Option Addr) (n cap : Nat) (w : World) (z : Bool) (hz : decide (1048576 < n) = z) : Calls Try.prog 6 #[.slice ao n cap] w (BoolP z w) := by
  subst hz
  go_enter Try.func6, Try.ntmps6
  go_wp2
  go_ret
  exact ⟨by simp; try omega, Below.refl _ _⟩
end Go.Proofs.Ytgbogbmbghpadaa

/- Two numbers drawn for a quotient: the walk. -/
namespace Go.Proofs.Ytgbogbmbghpadaa
open Go.RowKit
set_option maxRecDepth 100000 in
set_option maxHeartbeats 2000000 in
theorem drawDiv_any (ao : Option Addr) (n cap : Nat) (cs : List Int) (w : World) (h : Code w ao n cs) :
    Calls Try.prog 13 #[.slice ao n cap] w (TwoP w) := by
  have A := (Blk.new w [.int .u64 0, .int .u64 0, .int .u64 0, .int .u64 0] 26 rfl).alloc (.cells #[.int .u64 0, .int .u64 0, .int .u64 0, .int .u64 0] 26)
  have B := Blk.new (w.alloc (.cells #[.int .u64 0, .int .u64 0, .int .u64 0, .int .u64 0] 26)) [.int .u64 0, .int .u64 0, .int .u64 0, .int .u64 0] 26 (g := w.heap.size + 1) (by simp)
  have HB : Below w.heap.size w ((w.alloc (.cells #[.int .u64 0, .int .u64 0, .int .u64 0, .int .u64 0] 26)).alloc (.cells #[.int .u64 0, .int .u64 0, .int .u64 0, .int .u64 0] 26)) := ((Below.refl _ _).alloc (Nat.le_refl _) _).alloc (by simp) _
  replace h := h.below HB
  go_enter Try.func13, Try.ntmps13
  go_wp2_with fail
  refine (open_any ao n cap cs _ h).mono ?_
  rintro e w1 ⟨G, rfl, hG, R, hB⟩
  simp at hG
  have hA : w.heap.size ≠ G := by omega
  have hA' : w.heap.size + 1 ≠ G := by omega
  replace A := A.step hB
  replace B := B.step hB
  replace HB : Below w.heap.size w w1 := HB.trans (hB.mono HB.size)
  have K := Kept.refl G w1
  have hl := HB.size
  clear h hB
  go_wp2_with fail
  refine (wide_any G ao n cap cs _ R).mono ?_
  rintro e w2 ⟨_, rfl, ⟨a3, a2, a1, a0, rfl, g⟩, R1, K1⟩
  replace A := A.kept K1 hA
  replace B := B.kept K1 hA'
  replace K := K.trans K1
  clear R K1
  have R := R1
  clear R1
  go_wp2_with fail
  refine (wide_any G ao n cap cs _ R).mono ?_
  rintro e w3 ⟨_, rfl, ⟨b3, b2, b1, b0, rfl, f⟩, R1, K1⟩
  replace A := A.kept K1 hA
  replace B := B.kept K1 hA'
  replace K := K.trans K1
  clear R K1
  have R := R1
  clear R1
  replace HB : Below w.heap.size w w3 := HB.trans (K.below (by omega) hl)
  have pc0 := A.c 0 rfl; have pf0 := A.f 0 rfl; have pc1 := A.c 1 rfl; have pf1 := A.f 1 rfl; have pc2 := A.c 2 rfl; have pf2 := A.f 2 rfl; have pc3 := A.c 3 rfl; have pf3 := A.f 3 rfl; have pl := A.lt; have qc0 := B.c 0 rfl; have qf0 := B.f 0 rfl; have qc1 := B.c 1 rfl; have qf1 := B.f 1 rfl; have qc2 := B.c 2 rfl; have qf2 := B.f 2 rfl; have qc3 := B.c 3 rfl; have qf3 := B.f 3 rfl; have ql := B.lt
  clear A B
  go_wp2
  refine bodyPost_ret (v := .tuple #[.agg #[.int .u64 a3, .int .u64 a2, .int .u64 a1, .int .u64 a0], .agg #[.int .u64 b3, .int .u64 b2, .int .u64 b1, .int .u64 b0]]) (by simp [results, Try.results13, go_sem, pc0, qc0, pc1, qc1, pc2, qc2, pc3, qc3]) rfl ?_
  exact ⟨a3, a2, a1, a0, b3, b2, b1, b0, rfl, g, f, two_done HB⟩
end Go.Proofs.Ytgbogbmbghpadaa

/- Long division by words: the reckoning. -/
namespace Go.Proofs.Ytgbogbmbghpadaa
open Go.RowKit
theorem pq_pos (n : Nat) : 0 < pw64 n := by
  induction n with
  | zero => decide
  | succ n ih => simp only [pw64]; omega
theorem pw64_mono {a b : Nat} (h : a ≤ b) : pw64 a ≤ pw64 b := by
  obtain ⟨k, rfl⟩ := Nat.exists_eq_add_of_le h
  rw [pw64_add]
  have h1 := pq_pos a
  have h2 := pq_pos k
  have : pw64 a * 1 ≤ pw64 a * pw64 k := Int.mul_le_mul_of_nonneg_left (by omega) (by omega)
  omega
theorem vq_append (a b : List Int) : val64 (a ++ b) = val64 a + pw64 a.length * val64 b := by
  induction a with
  | nil => simp [val64, pw64]
  | cons d t ih => simp only [List.cons_append, val64, List.length_cons, pw64, ih]; grind
theorem words_cons {d : Int} {t : List Int} : Words (d :: t) ↔ Word d ∧ Words t := by
  constructor
  · intro h; exact ⟨h d (by simp), fun x hx => h x (by simp [hx])⟩
  · rintro ⟨h1, h2⟩ x hx
    rcases List.mem_cons.1 hx with rfl | hx
    · exact h1
    · exact h2 x hx
theorem words_nil : Words [] := by intro d h; simp at h
theorem val64_nonneg {a : List Int} (h : Words a) : 0 ≤ val64 a := by
  induction a with
  | nil => simp [val64]
  | cons d t ih =>
    obtain ⟨h1, h2⟩ := words_cons.1 h
    have := ih h2
    have := h1.1
    simp only [val64]; omega
theorem vq_lt {a : List Int} (h : Words a) : val64 a < pw64 a.length := by
  induction a with
  | nil => simp [val64, pw64]
  | cons d t ih =>
    obtain ⟨h1, h2⟩ := words_cons.1 h
    have := ih h2
    have := h1.2
    simp only [val64, List.length_cons, pw64]; omega
theorem words_take {a : List Int} (h : Words a) (n : Nat) : Words (a.take n) := fun x hx => h x (List.mem_of_mem_take hx)
theorem words_drop {a : List Int} (h : Words a) (n : Nat) : Words (a.drop n) := fun x hx => h x (List.mem_of_mem_drop hx)
theorem val64_inj {a b : List Int} (ha : Words a) (hb : Words b) (hl : a.length = b.length) (h : val64 a = val64 b) : a = b := by
  induction a generalizing b with
  | nil => cases b with
    | nil => rfl
    | cons => simp at hl
  | cons x s ih => cases b with
    | nil => simp at hl
    | cons y t =>
      obtain ⟨h1, h2⟩ := words_cons.1 ha
      obtain ⟨h3, h4⟩ := words_cons.1 hb
      unfold Word at h1 h3
      simp only [val64] at h
      have hxy : x = y := by omega
      subst hxy
      have : s = t := ih h2 h4 (by simpa using hl) (by omega)
      rw [this]
theorem val64_part (a : List Int) (k : Nat) (hk : k ≤ a.length) : val64 a = val64 (a.take k) + pw64 k * val64 (a.drop k) := by
  have h := vq_append (a.take k) (a.drop k)
  rw [List.take_append_drop] at h
  rw [h, List.length_take, Nat.min_eq_left hk]
/-- The words above a place are 0 where the number is less than the base to it. -/
theorem val64_high {a : List Int} (ha : Words a) (k : Nat) (hk : k ≤ a.length) (h : val64 a < pw64 k) : val64 (a.drop k) = 0 ∧ val64 (a.take k) = val64 a := by
  have e := val64_part a k hk
  have e2 := val64_nonneg (words_take ha k)
  have e3 := val64_nonneg (words_drop ha k)
  have e4 : val64 (a.drop k) = 0 := by
    apply Decidable.byContradiction
    intro e4
    have : pw64 k * 1 ≤ pw64 k * val64 (a.drop k) := Int.mul_le_mul_of_nonneg_left (by omega) (by have := pq_pos k; omega)
    omega
  exact ⟨e4, by rw [e4] at e; omega⟩
theorem val64_zero_at {a : List Int} (ha : Words a) (h : val64 a = 0) (j : Nat) (hj : j < a.length) : a[j] = 0 := by
  induction a generalizing j with
  | nil => simp at hj
  | cons d t ih =>
    obtain ⟨h1, h2⟩ := words_cons.1 ha
    have := val64_nonneg h2
    have := h1.1
    simp only [val64] at h
    cases j with
    | zero => simp; omega
    | succ j => simp; exact ih h2 (by omega) j (by simpa using hj)
theorem val64_zeros (n : Nat) : val64 (List.replicate n 0) = 0 := by
  induction n with
  | zero => rfl
  | succ n ih => simp [List.replicate_succ, val64, ih]
/-- Rows that are alike above a place are in order as the words there. -/
theorem vq_above {a b : List Int} (ha : Words a) (hb : Words b) (k : Nat) (h1 : k < a.length) (h2 : k < b.length) (he : a.drop (k + 1) = b.drop (k + 1)) (hlt : a[k] < b[k]) : val64 a < val64 b := by
  have s1 := val64_part a (k + 1) h1
  have s2 := val64_part b (k + 1) h2
  rw [val64_take a k h1] at s1
  rw [val64_take b k h2] at s2
  rw [he] at s1
  have e1 := vq_lt (words_take ha k)
  have e2 := val64_nonneg (words_take hb k)
  rw [List.length_take, Nat.min_eq_left (by omega)] at e1
  have e4 := pq_pos k
  have e5 : pw64 k * (a[k] + 1) ≤ pw64 k * b[k] := Int.mul_le_mul_of_nonneg_left (by omega) (by omega)
  rw [Int.mul_add] at e5
  omega
/-- The guess of a digit is not below it. -/
theorem kn_guess {W B P wl bl hi lo top : Int} (hP : 0 < P) (hW : W = wl + P * (lo + 18446744073709551616 * hi)) (hwl : wl < P) (hB : B = bl + P * top) (hbl : 0 ≤ bl) (ht : 0 < top) (hWB : W < 18446744073709551616 * B) (hW0 : 0 ≤ W) :
    W / B ≤ (if top ≤ hi then 18446744073709551615 else (hi * 18446744073709551616 + lo) / top) := by
  have hPt : P * 1 ≤ P * top := Int.mul_le_mul_of_nonneg_left (by omega) (by omega)
  have hB0 : 0 < B := by omega
  split
  · have : W / B < 18446744073709551616 := Int.ediv_lt_of_lt_mul hB0 hWB
    omega
  · rw [Int.le_ediv_iff_mul_le ht]
    have q0 := Int.ediv_nonneg (a := W) (b := B) (by omega) (by omega)
    have q1 := Int.ediv_mul_le W (b := B) (by omega)
    generalize W / B = Q at *
    have e1 : Q * B = Q * bl + P * (Q * top) := by rw [hB]; grind
    have e2 := Int.mul_nonneg q0 hbl
    apply Int.le_of_lt_add_one
    apply Int.lt_of_mul_lt_mul_left (a := P) _ (by omega)
    have e3 : P * (hi * 18446744073709551616 + lo + 1) = P * (lo + 18446744073709551616 * hi) + P := by grind
    omega
/-- A digit that is not below the quotient, and with which no more is taken than there is, is the quotient. -/
theorem kn_digit {W B d : Int} (hB : 0 < B) (h1 : W / B ≤ d) (h2 : d * B ≤ W) : d = W / B := by
  have := (Int.le_ediv_iff_mul_le hB).2 h2
  omega
theorem kn_more {W B d : Int} (hB : 0 < B) (hW : 0 ≤ W) (h2 : W < d * B) : W / B ≤ d - 1 ∧ 1 ≤ d := by
  have := Int.ediv_lt_of_lt_mul hB h2
  have := Int.ediv_nonneg hW (Int.le_of_lt hB)
  omega
theorem pow_split (r : Nat) (hr : r ≤ 64) : (2 : Int) ^ r * 2 ^ (64 - r) = 18446744073709551616 := by
  rw [← Int.pow_add, show r + (64 - r) = 64 by omega]; decide
theorem shl_mod (d : Int) (r : Nat) (hr : r ≤ 64) : (d * 2 ^ r) % 18446744073709551616 = 2 ^ r * (d % 2 ^ (64 - r)) ∧ d * 2 ^ r / 18446744073709551616 = d / 2 ^ (64 - r) := by
  have h := pow_split r hr
  have hp : (0 : Int) < 2 ^ r := Int.pow_pos (by decide)
  rw [← h, Int.mul_comm d]
  exact ⟨Int.mul_emod_mul_of_pos _ _ hp, Int.mul_ediv_mul_of_pos _ _ hp⟩
/-- Lower bits beside what is moved to the left, as far as a word goes. -/
theorem or_shl64 (c d : Int) (r : Nat) (hr : r ≤ 64) (hc0 : 0 ≤ c) (hc : c < 2 ^ r) :
    bits .or .u64 c (IntKind.u64.wrap (d * 2 ^ r)) = c + (d * 2 ^ r) % 18446744073709551616 := by
  have hp : (0 : Int) < 2 ^ (64 - r) := Int.pow_pos (by decide)
  have hp2 : (0 : Int) < 2 ^ r := Int.pow_pos (by decide)
  rw [IntKind.wrap_u64, (shl_mod d r hr).1]
  have m0 := Int.emod_nonneg d (b := 2 ^ (64 - r)) (by omega)
  have m1 := Int.emod_lt_of_pos d hp
  generalize d % 2 ^ (64 - r) = m at *
  have hb : c + 2 ^ r * m < 18446744073709551616 := by
    have := pow_split r hr
    have h1 : (2 : Int) ^ r * (m + 1) ≤ 2 ^ r * 2 ^ (64 - r) := Int.mul_le_mul_of_nonneg_left (by omega) (by omega)
    rw [Int.mul_add] at h1
    omega
  have hm := Int.mul_nonneg (Int.le_of_lt hp2) m0
  obtain ⟨c, rfl⟩ := Int.eq_ofNat_of_zero_le hc0
  obtain ⟨m, rfl⟩ := Int.eq_ofNat_of_zero_le m0
  rw [ipow] at hc hb hm ⊢
  have hc' : c < 2 ^ r := by omega
  have e : (((2 ^ r : Nat) : Int) * (m : Int)) = ((2 ^ r * m : Nat) : Int) := (Int.natCast_mul _ _).symm
  rw [e] at hb hm ⊢
  rw [bits_or_u64_nat c (2 ^ r * m) (by omega) (by omega), Nat.or_comm, ← Nat.two_pow_add_eq_or_of_lt hc' m]
  omega
/-- One word moved to the left: what stays in it, and what goes over. -/
theorem lift_step (d : Int) (r : Nat) (hr : r ≤ 64) (hd0 : 0 ≤ d) (hd : d < 18446744073709551616) :
    (d * 2 ^ r) % 18446744073709551616 + 18446744073709551616 * (d / 2 ^ (64 - r)) = d * 2 ^ r ∧ 0 ≤ d / 2 ^ (64 - r) ∧ d / 2 ^ (64 - r) < 2 ^ r := by
  have h := shl_mod d r hr
  have hp : (0 : Int) < 2 ^ (64 - r) := Int.pow_pos (by decide)
  refine ⟨?_, Int.ediv_nonneg hd0 (by omega), ?_⟩
  · rw [← h.2]; exact Int.emod_add_mul_ediv _ _
  · apply Int.ediv_lt_of_lt_mul hp
    rw [pow_split r hr]; exact hd
/-- Between the rounds of the shift up. -/
structure LuI (xs zs : List Int) (r k : Nat) : Prop where
  len : zs.length = 9
  wds : Words zs
  eq : val64 zs = 2 ^ r * val64 (xs.take k)
  low : ∀ h : k < zs.length, zs[k] < 2 ^ r
  zero : ∀ j, k < j → (h : j < zs.length) → zs[j] = 0
theorem pow_le64 {r : Nat} (hr : r < 64) : (2 : Int) ^ r ≤ 9223372036854775808 := by
  rw [ipow]
  have := Nat.pow_le_pow_right (n := 2) (by omega) (show r ≤ 63 by omega)
  simp at this; omega
theorem lu_start (xs : List Int) (r : Nat) : LuI xs (List.replicate 9 0) r 0 := by
  refine ⟨rfl, ?_, by simp [val64], fun h => ?_, fun j _ h => List.getElem_replicate _⟩
  · intro d hd
    rw [List.eq_of_mem_replicate hd]; exact ⟨by decide, by decide⟩
  · rw [List.getElem_replicate]; exact Int.pow_pos (by decide)
theorem lu_words {xs zs : List Int} {r k : Nat} (h : LuI xs zs r k) (hk : k < xs.length) (hr : r < 64) (hx : Words xs) (hz : k < zs.length) :
    0 ≤ zs[k] ∧ zs[k] < 2 ^ r ∧ Word (zs[k] + (xs[k] * 2 ^ r) % 18446744073709551616) ∧ Word (xs[k] / 2 ^ (64 - r)) := by
  have hw := words_at h.wds k hz
  have hl := h.low hz
  have hx := words_at hx k hk
  obtain ⟨s1, s2, s3⟩ := lift_step xs[k] r (by omega) hx.1 hx.2
  have hs := shl_mod xs[k] r (by omega)
  have hp := pow_split r (by omega)
  have hp1 : (0 : Int) < 2 ^ (64 - r) := Int.pow_pos (by decide)
  have m1 := Int.emod_lt_of_pos xs[k] hp1
  have m0 := Int.emod_nonneg xs[k] (b := 2 ^ (64 - r)) (by omega)
  have hp2 : (0 : Int) < 2 ^ r := Int.pow_pos (by decide)
  have hpl := pow_le64 hr
  refine ⟨hw.1, hl, ?_, s2, by omega⟩
  rw [hs.1]
  generalize xs[k] % 2 ^ (64 - r) = m at *
  have h1 : (2 : Int) ^ r * (m + 1) ≤ 2 ^ r * 2 ^ (64 - r) := Int.mul_le_mul_of_nonneg_left (by omega) (by omega)
  rw [Int.mul_add] at h1
  have h2 := Int.mul_nonneg (Int.le_of_lt hp2) m0
  have := hw.1
  exact ⟨by omega, by omega⟩
theorem lu_step {xs zs : List Int} {r k : Nat} (h : LuI xs zs r k) (hk : k < xs.length) (hk8 : k < 8) (hr : r < 64) (hx : Words xs) (hz : k < zs.length) (u v : Int) (hu : u = zs[k] + (xs[k] * 2 ^ r) % 18446744073709551616) (hv : v = xs[k] / 2 ^ (64 - r)) :
    LuI xs ((zs.set k u).set (k + 1) v) r (k + 1) := by
  obtain ⟨w0, w1, w2, w3⟩ := lu_words h hk hr hx hz
  have hx := words_at hx k hk
  obtain ⟨s1, s2, s3⟩ := lift_step xs[k] r (by omega) hx.1 hx.2
  have hl := h.len
  rw [← hu] at w2
  rw [← hv] at w3 s1 s3
  have hz1 : k + 1 < zs.length := by omega
  have e0 := h.zero (k + 1) (by omega) hz1
  refine ⟨by simpa using hl, words_set (words_set h.wds _ w2) _ w3, ?_, fun hh => ?_, fun j hj hh => ?_⟩
  · rw [val64_set _ _ (by simpa using hz1), val64_set _ _ hz, List.getElem_set_ne (by omega), e0, h.eq, val64_take xs k hk, hu, pw64]
    generalize xs[k] = d at *
    generalize zs[k] = z at *
    generalize val64 (xs.take k) = X at *
    generalize pw64 k = P at *
    have : 2 ^ r * (X + P * d) = 2 ^ r * X + P * (d * 2 ^ r) := by grind
    rw [this, ← s1]
    grind
  · rw [List.getElem_set_self]; exact s3
  · have hh' : j < zs.length := by simpa using hh
    rw [List.getElem_set_ne (by omega), List.getElem_set_ne (by omega)]
    exact h.zero j (by omega) hh'
theorem lu_end {xs zs : List Int} {r : Nat} (h : LuI xs zs r 8) (hl : xs.length = 8) : val64 zs = 2 ^ r * val64 xs := by
  have := h.eq
  rwa [List.take_of_length_le (by omega)] at this
/-- Between the rounds of the shift down. -/
structure LdI (us zs : List Int) (r k : Nat) : Prop where
  len : zs.length = 8
  wds : Words zs
  eq : ∀ h : k < us.length, ∀ h0 : 0 < us.length, (2 : Int) ^ r * val64 (zs.take k) + us[0] % 2 ^ r = val64 (us.take k) + pw64 k * (us[k] % 2 ^ r)
theorem ld_start (us zs : List Int) (r : Nat) (hl : zs.length = 8) (hw : Words zs) : LdI us zs r 0 := by
  refine ⟨hl, hw, fun h h0 => ?_⟩
  simp [val64, pw64]
theorem ld_words {us : List Int} {r k : Nat} (hk : k < us.length) (hk1 : k + 1 < us.length) (hr : r < 64) (hu : Words us) :
    0 ≤ us[k] / 2 ^ r ∧ us[k] / 2 ^ r < 2 ^ (64 - r) ∧ Word (us[k] / 2 ^ r + (us[k + 1] * 2 ^ (64 - r)) % 18446744073709551616) := by
  have hx := words_at hu k hk
  have hp2 : (0 : Int) < 2 ^ r := Int.pow_pos (by decide)
  have hp1 : (0 : Int) < 2 ^ (64 - r) := Int.pow_pos (by decide)
  have hp := pow_split r (by omega)
  have h1 : us[k] / 2 ^ r < 2 ^ (64 - r) := by
    apply Int.ediv_lt_of_lt_mul hp2
    rw [Int.mul_comm, hp]; exact hx.2
  have h0 := Int.ediv_nonneg (b := 2 ^ r) hx.1 (by omega)
  refine ⟨h0, h1, ?_⟩
  have hs := shl_mod us[k + 1] (64 - r) (by omega)
  rw [hs.1, show 64 - (64 - r) = r by omega]
  have m1 := Int.emod_lt_of_pos us[k + 1] hp2
  have m0 := Int.emod_nonneg us[k + 1] (b := 2 ^ r) (by omega)
  generalize us[k + 1] % 2 ^ r = m at *
  have h3 : (2 : Int) ^ (64 - r) * (m + 1) ≤ 2 ^ (64 - r) * 2 ^ r := Int.mul_le_mul_of_nonneg_left (by omega) (by omega)
  rw [Int.mul_add, Int.mul_comm (2 ^ (64 - r)) (2 ^ r), hp] at h3
  have h4 := Int.mul_nonneg (Int.le_of_lt hp1) m0
  exact ⟨by omega, by omega⟩
theorem ld_step {us zs : List Int} {r k : Nat} (h : LdI us zs r k) (hk : k < us.length) (hk1 : k + 1 < us.length) (hr : r < 64) (hu : Words us) (hz : k < zs.length) (u : Int) (e : u = us[k] / 2 ^ r + (us[k + 1] * 2 ^ (64 - r)) % 18446744073709551616) :
    LdI us (zs.set k u) r (k + 1) := by
  obtain ⟨w0, w1, w2⟩ := ld_words hk hk1 hr hu
  rw [← e] at w2
  refine ⟨by simpa using h.len, words_set h.wds _ w2, fun h1 h0 => ?_⟩
  have q := h.eq hk h0
  have hs := shl_mod us[k + 1] (64 - r) (by omega)
  have hp := pow_split r (by omega)
  have t1 : (zs.set k u).take k = zs.take k := by
    rw [List.take_set]
    exact List.set_eq_of_length_le (by simp; omega)
  rw [val64_take _ k (by simpa using hz), val64_take us k hk, List.getElem_set_self, t1, pw64]
  have e1 : (2 : Int) ^ r * u = us[k] - us[k] % 2 ^ r + 18446744073709551616 * (us[k + 1] % 2 ^ r) := by
    rw [e, hs.1, show 64 - (64 - r) = r by omega]
    have := Int.mul_ediv_add_emod us[k] (2 ^ r)
    rw [← hp]
    generalize us[k] / 2 ^ r = a at *
    generalize us[k] % 2 ^ r = b at *
    generalize us[k + 1] % 2 ^ r = c at *
    grind
  generalize us[k + 1] % 2 ^ r = c at *
  generalize us[k] % 2 ^ r = b at *
  generalize us[0] % 2 ^ r = b0 at *
  generalize us[k] = uk at *
  generalize pw64 k = P at *
  generalize val64 (zs.take k) = Z at *
  generalize val64 (us.take k) = U at *
  have : (2 : Int) ^ r * (Z + P * u) = 2 ^ r * Z + P * (2 ^ r * u) := by grind
  rw [this, e1]
  grind
theorem ld_end {us zs : List Int} {r : Nat} {m : Int} (h : LdI us zs r 8) (hl : us.length = 9) (hu : Words us) (hm : val64 us = 2 ^ r * m) (hb : m < pw64 8) : val64 zs = m := by
  have q := h.eq (by omega) (by omega)
  have hp2 : (0 : Int) < 2 ^ r := Int.pow_pos (by decide)
  rw [List.take_of_length_le (by have := h.len; omega)] at q
  have e8 := val64_part us 8 (by omega)
  rw [List.drop_eq_getElem_cons (by omega), List.drop_of_length_le (by omega)] at e8
  simp only [val64, Int.mul_zero, Int.add_zero] at e8
  have hx := words_at hu 8 (by omega)
  have t0 := val64_nonneg (words_take hu 8)
  have l8 : us[8] < 2 ^ r := by
    apply Int.lt_of_not_ge
    intro hge
    have h1 : pw64 8 * (2 : Int) ^ r ≤ pw64 8 * us[8] := Int.mul_le_mul_of_nonneg_left hge (Int.le_of_lt (pq_pos 8))
    have h2 : (2 : Int) ^ r * (m + 1) ≤ 2 ^ r * pw64 8 := Int.mul_le_mul_of_nonneg_left (by omega) (by omega)
    rw [Int.mul_add, Int.mul_comm (2 ^ r) (pw64 8)] at h2
    omega
  rw [Int.emod_eq_of_lt hx.1 l8] at q
  have q2 : (2 : Int) ^ r * val64 zs + us[0] % 2 ^ r = 2 ^ r * m := by omega
  have m1 := Int.emod_lt_of_pos us[0] hp2
  have m0 := Int.emod_nonneg us[0] (b := 2 ^ r) (by omega)
  have e1 : (2 ^ r * m) / 2 ^ r = m := Int.mul_ediv_cancel_left _ (by omega)
  rw [← q2, Int.add_comm, Int.add_mul_ediv_left _ _ (by omega), Int.ediv_eq_zero_of_lt m0 m1] at e1
  omega
end Go.Proofs.Ytgbogbmbghpadaa
