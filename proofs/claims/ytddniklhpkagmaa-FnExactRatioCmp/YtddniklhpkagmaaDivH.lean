/- The quotient bit by bit: the reckoning. -/
import Derived.Test.YtddniklhpkagmaaBase4
namespace Go.Proofs.Ytddniklhpkagmaa
open Go.RowKit
theorem p2_pow (i : Nat) : pw (i / 32) * 2 ^ (i % 32) = (2 : Int) ^ i := by
  have h : ∀ m : Nat, pw m = (2 : Int) ^ (32 * m) := by
    intro m
    induction m with
    | zero => simp [pw]
    | succ m ih => rw [pw, ih, show 32 * (m + 1) = 32 * m + 32 by omega, Int.pow_add]; grind
  rw [h, ← Int.pow_add]
  congr 1
  omega
/-- All bits of the digits below k are 0. -/
def QZ (qs : List Int) (k : Nat) : Prop := (∀ j, j < k / 32 → (h : j < qs.length) → qs[j] = 0) ∧ ∀ h : k / 32 < qs.length, qs[k / 32] % 2 ^ (k % 32) = 0
theorem ipow_pos (r : Nat) : (0 : Int) < 2 ^ r := by rw [ipow2]; exact Int.natCast_pos.2 (Nat.two_pow_pos r)
theorem mod_half {w : Int} {r : Nat} (h : w % 2 ^ (r + 1) = 0) : w % 2 ^ r = 0 := by
  have e : (2 : Int) ^ (r + 1) = 2 ^ r * 2 := by rw [Int.pow_succ]
  rw [e] at h
  exact Int.emod_eq_zero_of_dvd (Int.dvd_trans (Int.dvd_mul_right _ _) (Int.dvd_of_emod_eq_zero h))
theorem qz_digit {qs : List Int} {i : Nat} (h : QZ qs (i + 1)) (hi : i / 32 < qs.length) : qs[i / 32] % 2 ^ (i % 32 + 1) = 0 := by
  by_cases hr : i % 32 = 31
  · have := h.1 (i / 32) (by omega) hi
    rw [this]; simp
  · have h2 := h.2 (by rw [show (i + 1) / 32 = i / 32 by omega]; exact hi)
    have e1 : (i + 1) / 32 = i / 32 := by omega
    have e2 : (i + 1) % 32 = i % 32 + 1 := by omega
    simpa [e1, e2] using h2
theorem qz_down {qs : List Int} {i : Nat} (h : QZ qs (i + 1)) (hi : i / 32 < qs.length) : QZ qs i :=
  ⟨fun j hj hl => h.1 j (by omega) hl, fun _ => mod_half (qz_digit h hi)⟩
theorem qz_set {qs : List Int} {i : Nat} (h : QZ qs (i + 1)) (hi : i / 32 < qs.length) : QZ (qs.set (i / 32) (qs[i / 32] + 2 ^ (i % 32))) i := by
  refine ⟨fun j hj hl => ?_, fun hl => ?_⟩
  · rw [List.getElem_set_ne (by omega)]
    exact h.1 j (by omega) (by simpa using hl)
  · rw [List.getElem_set_self]
    have := mod_half (qz_digit h hi)
    rw [Int.add_emod, this]
    simp
theorem or_u32 (a b : Nat) (ha : a < 4294967296) (hb : b < 4294967296) : bits .or .u32 (a : Int) (b : Int) = ((a ||| b : Nat) : Int) := by
  have hx : a ||| b < 2 ^ 32 := Nat.or_lt_two_pow (by omega) (by omega)
  have h1 : (BitVec.ofInt 32 (a : Int)).toNat = a := by
    rw [BitVec.ofInt_natCast, BitVec.toNat_ofNat]; exact Nat.mod_eq_of_lt (by omega)
  have h2 : (BitVec.ofInt 32 (b : Int)).toNat = b := by
    rw [BitVec.ofInt_natCast, BitVec.toNat_ofNat]; exact Nat.mod_eq_of_lt (by omega)
  show IntKind.u32.wrap ((BitVec.ofInt 32 (a : Int) ||| BitVec.ofInt 32 (b : Int)).toNat : Int) = _
  rw [BitVec.toNat_or, h1, h2, IntKind.wrap_u32]
  omega
theorem or_bit {w : Int} {r : Nat} (hr : r < 32) (h0 : 0 ≤ w) (h1 : w < 4294967296) (hm : w % 2 ^ (r + 1) = 0) : bits .or .u32 w (2 ^ r) = w + 2 ^ r ∧ w + 2 ^ r < 4294967296 := by
  obtain ⟨a, rfl⟩ := Int.eq_ofNat_of_zero_le h0
  have e : ((2 : Int) ^ r) = ((2 ^ r : Nat) : Int) := by simp
  have e' : ((2 : Int) ^ (r + 1)) = ((2 ^ (r + 1) : Nat) : Int) := by simp
  rw [e'] at hm
  have hd : 2 ^ (r + 1) ∣ a := by
    have : ((2 ^ (r + 1) : Nat) : Int) ∣ (a : Int) := Int.dvd_of_emod_eq_zero hm
    exact Int.natCast_dvd_natCast.1 this
  obtain ⟨v, rfl⟩ := hd
  have hp : (2 : Nat) ^ r < 2 ^ (r + 1) := by rw [Nat.pow_succ]; have := Nat.two_pow_pos r; omega
  have ho := Nat.two_pow_add_eq_or_of_lt hp v
  have hlt : 2 ^ (r + 1) * v + 2 ^ r < 4294967296 := by
    have h32 : (2 : Nat) ^ 32 = 2 ^ (r + 1) * 2 ^ (31 - r) := by rw [← Nat.pow_add]; congr 1; omega
    have hv : v < 2 ^ (31 - r) := by
      apply Decidable.byContradiction
      intro hn
      have : 2 ^ (r + 1) * 2 ^ (31 - r) ≤ 2 ^ (r + 1) * v := Nat.mul_le_mul_left _ (by omega)
      omega
    have : 2 ^ (r + 1) * (v + 1) ≤ 2 ^ (r + 1) * 2 ^ (31 - r) := Nat.mul_le_mul_left _ hv
    rw [Nat.mul_add, Nat.mul_one] at this
    omega
  rw [e]
  refine ⟨?_, by omega⟩
  rw [or_u32 _ _ (by omega) (by omega), ← ho]
  omega
/-- Between the rounds: x is q times y and the rest, which is less than 2^k times y. -/
structure DvI (X Y : Int) (qs : List Int) (R : Int) (k N : Nat) : Prop where
  len : qs.length = N
  dig : Dig qs
  eq : X = val qs * Y + R
  r0 : 0 ≤ R
  lt : R < 2 ^ k * Y
  qz : QZ qs k
theorem dv_skip {X Y : Int} {qs : List Int} {R : Int} {i N : Nat} (h : DvI X Y qs R (i + 1) N) (hi : i / 32 < N) (hR : R < 2 ^ i * Y) : DvI X Y qs R i N :=
  ⟨h.len, h.dig, h.eq, h.r0, hR, qz_down h.qz (by rw [h.len]; exact hi)⟩
theorem dv_take {X Y : Int} {qs : List Int} {R : Int} {i N : Nat} (h : DvI X Y qs R (i + 1) N) (hi : i / 32 < qs.length) (hR : 2 ^ i * Y ≤ R) : DvI X Y (qs.set (i / 32) (qs[i / 32] + 2 ^ (i % 32))) (R - 2 ^ i * Y) i N ∧ bits .or .u32 qs[i / 32] (2 ^ (i % 32)) = qs[i / 32] + 2 ^ (i % 32) := by
  obtain ⟨w0, w1⟩ := dig_at h.dig (i / 32) hi
  obtain ⟨o1, o2⟩ := or_bit (r := i % 32) (by omega) w0 w1 (qz_digit h.qz hi)
  have hp := ipow_pos (i % 32)
  refine ⟨⟨by simpa using h.len, dig_set h.dig _ (by omega) o2, ?_, by omega, ?_, qz_set h.qz hi⟩, o1⟩
  · rw [val_set qs _ hi, show qs[i / 32] + 2 ^ (i % 32) - qs[i / 32] = (2 : Int) ^ (i % 32) by omega, p2_pow, Int.add_mul]
    have := h.eq
    omega
  · have := h.lt
    rw [Int.pow_succ] at this
    have e : (2 : Int) ^ i * 2 * Y = 2 ^ i * Y + 2 ^ i * Y := by grind
    omega
theorem dv_end {X Y : Int} {qs : List Int} {R : Int} {N : Nat} (h : DvI X Y qs R 0 N) (hY : 0 < Y) : val qs = X / Y ∧ R = X % Y := by
  have h1 := h.lt
  simp at h1
  have h2 := h.r0
  have h3 := h.eq
  have e1 : X / Y = val qs := by
    rw [h3, Int.add_comm, Int.add_mul_ediv_right _ _ (by omega), Int.ediv_eq_zero_of_lt h2 h1]
    omega
  refine ⟨e1.symm, ?_⟩
  have := Int.emod_add_mul_ediv X Y
  rw [e1] at this
  have e : Y * val qs = val qs * Y := Int.mul_comm _ _
  omega
theorem dv_start {X Y : Int} {bx bz : Nat} (hx : BitsOf X bx) (hy : BitsOf Y bz) (hY : 0 < Y) (h : bz ≤ bx) (N : Nat) : DvI X Y (List.replicate N 0) X (bx - bz + 1) N := by
  refine ⟨by simp, fun d hd => by rw [List.eq_of_mem_replicate hd]; decide, by simp [val_zeros], hx.1, ?_, ⟨fun j _ hl => by simp, fun hl => by simp⟩⟩
  have hb : bz ≠ 0 := by
    rintro rfl
    have := hy.2.1
    simp at this
    omega
  have h2 : (2 : Int) ^ (bz - 1) ≤ Y := by
    rcases hy.2.2 with h2 | h2
    · exact absurd h2 hb
    · exact h2
  have e : (2 : Int) ^ bx = 2 ^ (bx - bz + 1) * 2 ^ (bz - 1) := by rw [← Int.pow_add]; congr 1; omega
  have h3 := hx.2.1
  have h4 : (2 : Int) ^ (bx - bz + 1) * 2 ^ (bz - 1) ≤ 2 ^ (bx - bz + 1) * Y := Int.mul_le_mul_of_nonneg_left h2 (by have := ipow_pos (bx - bz + 1); omega)
  omega
theorem dv_less {X Y : Int} {bx bz : Nat} (hx : BitsOf X bx) (hy : BitsOf Y bz) (h : bx < bz) : X / Y = 0 ∧ X % Y = X ∧ X < Y := by
  have h2 : (2 : Int) ^ (bz - 1) ≤ Y := by
    rcases hy.2.2 with h2 | h2
    · omega
    · exact h2
  have h3 := ipow2_mono (show bx ≤ bz - 1 by omega)
  have h4 := hx.2.1
  have h5 : X < Y := by omega
  exact ⟨Int.ediv_eq_zero_of_lt hx.1 h5, Int.emod_eq_of_lt hx.1 h5, h5⟩
end Go.Proofs.Ytddniklhpkagmaa
