/- Part 7 of the walks that the proof leans on. -/
import Derived.Test.YtpfpmapmimnjgaaPart6
import Derived.Test.YtpfpmapmimnjgaaPart1
import Derived.Test.YtpfpmapmimnjgaaPart3
import Derived.Test.YtpfpmapmimnjgaaPart2
import Derived.Deep.RegionHeld3
import Derived.Test.YtpfpmapmimnjgaaRows
import Derived.ProofKit
import Derived.Lib.SmallJoins
/- The quotient bit by bit: the reckoning. -/
namespace Go.Proofs.Ytpfpmapmimnjgaa
open Go.RowKit
theorem p2_pow (i : Nat) : pw (i / 32) * 2 ^ (i % 32) = (2 : Int) ^ i := by
  have h : ∀ m : Nat, pw m = (2 : Int) ^ (32 * m) := by
    intro m
    induction m with
    | zero => simp [pw]
    | succ m ih => rw [pw, ih, show 32 * (m + 1) = 32 * m + 32 by omega, Int.pow_add]; grind
  rw [h, ← Int.pow_add]
  congr 1
  omega
/-- All bits of the digits below k are 0. -/
def QZ (qs : List Int) (k : Nat) : Prop := (∀ j, j < k / 32 → (h : j < qs.length) → qs[j] = 0) ∧ ∀ h : k / 32 < qs.length, qs[k / 32] % 2 ^ (k % 32) = 0
theorem ipow_pos (r : Nat) : (0 : Int) < 2 ^ r := by rw [ipow2]; exact Int.natCast_pos.2 (Nat.two_pow_pos r)
theorem mod_half {w : Int} {r : Nat} (h : w % 2 ^ (r + 1) = 0) : w % 2 ^ r = 0 := by
  have e : (2 : Int) ^ (r + 1) = 2 ^ r * 2 := by rw [Int.pow_succ]
  rw [e] at h
  exact Int.emod_eq_zero_of_dvd (Int.dvd_trans (Int.dvd_mul_right _ _) (Int.dvd_of_emod_eq_zero h))
theorem qz_digit {qs : List Int} {i : Nat} (h : QZ qs (i + 1)) (hi : i / 32 < qs.length) : qs[i / 32] % 2 ^ (i % 32 + 1) = 0 := by
  by_cases hr : i % 32 = 31
  · have := h.1 (i / 32) (by omega) hi
    rw [this]; simp
  · have h2 := h.2 (by rw [show (i + 1) / 32 = i / 32 by omega]; exact hi)
    have e1 : (i + 1) / 32 = i / 32 := by omega
    have e2 : (i + 1) % 32 = i % 32 + 1 := by omega
    simpa [e1, e2] using h2
theorem qz_down {qs : List Int} {i : Nat} (h : QZ qs (i + 1)) (hi : i / 32 < qs.length) : QZ qs i :=
  ⟨fun j hj hl => h.1 j (by omega) hl, fun _ => mod_half (qz_digit h hi)⟩
theorem qz_set {qs : List Int} {i : Nat} (h : QZ qs (i + 1)) (hi : i / 32 < qs.length) : QZ (qs.set (i / 32) (qs[i / 32] + 2 ^ (i % 32))) i := by
  refine ⟨fun j hj hl => ?_, fun hl => ?_⟩
  · rw [List.getElem_set_ne (by omega)]
    exact h.1 j (by omega) (by simpa using hl)
  · rw [List.getElem_set_self]
    have := mod_half (qz_digit h hi)
    rw [Int.add_emod, this]
    simp
theorem or_u32 (a b : Nat) (ha : a < 4294967296) (hb : b < 4294967296) : bits .or .u32 (a : Int) (b : Int) = ((a ||| b : Nat) : Int) := by
  have hx : a ||| b < 2 ^ 32 := Nat.or_lt_two_pow (by omega) (by omega)
  have h1 : (BitVec.ofInt 32 (a : Int)).toNat = a := by
    rw [BitVec.ofInt_natCast, BitVec.toNat_ofNat]; exact Nat.mod_eq_of_lt (by omega)
  have h2 : (BitVec.ofInt 32 (b : Int)).toNat = b := by
    rw [BitVec.ofInt_natCast, BitVec.toNat_ofNat]; exact Nat.mod_eq_of_lt (by omega)
  show IntKind.u32.wrap ((BitVec.ofInt 32 (a : Int) ||| BitVec.ofInt 32 (b : Int)).toNat : Int) = _
  rw [BitVec.toNat_or, h1, h2, IntKind.wrap_u32]
  omega
theorem or_bit {w : Int} {r : Nat} (hr : r < 32) (h0 : 0 ≤ w) (h1 : w < 4294967296) (hm : w % 2 ^ (r + 1) = 0) : bits .or .u32 w (2 ^ r) = w + 2 ^ r ∧ w + 2 ^ r < 4294967296 := by
  obtain ⟨a, rfl⟩ := Int.eq_ofNat_of_zero_le h0
  have e : ((2 : Int) ^ r) = ((2 ^ r : Nat) : Int) := by simp
  have e' : ((2 : Int) ^ (r + 1)) = ((2 ^ (r + 1) : Nat) : Int) := by simp
  rw [e'] at hm
  have hd : 2 ^ (r + 1) ∣ a := by
    have : ((2 ^ (r + 1) : Nat) : Int) ∣ (a : Int) := Int.dvd_of_emod_eq_zero hm
    exact Int.natCast_dvd_natCast.1 this
  obtain ⟨v, rfl⟩ := hd
  have hp : (2 : Nat) ^ r < 2 ^ (r + 1) := by rw [Nat.pow_succ]; have := Nat.two_pow_pos r; omega
  have ho := Nat.two_pow_add_eq_or_of_lt hp v
  have hlt : 2 ^ (r + 1) * v + 2 ^ r < 4294967296 := by
    have h32 : (2 : Nat) ^ 32 = 2 ^ (r + 1) * 2 ^ (31 - r) := by rw [← Nat.pow_add]; congr 1; omega
    have hv : v < 2 ^ (31 - r) := by
      apply Decidable.byContradiction
      intro hn
      have : 2 ^ (r + 1) * 2 ^ (31 - r) ≤ 2 ^ (r + 1) * v := Nat.mul_le_mul_left _ (by omega)
      omega
    have : 2 ^ (r + 1) * (v + 1) ≤ 2 ^ (r + 1) * 2 ^ (31 - r) := Nat.mul_le_mul_left _ hv
    rw [Nat.mul_add, Nat.mul_one] at this
    omega
  rw [e]
  refine ⟨?_, by omega⟩
  rw [or_u32 _ _ (by omega) (by omega), ← ho]
  omega
/-- Between the rounds: x is q times y and the rest, which is less than 2^k times y. -/
structure DvI (X Y : Int) (qs : List Int) (R : Int) (k N : Nat) : Prop where
  len : qs.length = N
  dig : Dig qs
  eq : X = val qs * Y + R
  r0 : 0 ≤ R
  lt : R < 2 ^ k * Y
  qz : QZ qs k
theorem dv_skip {X Y : Int} {qs : List Int} {R : Int} {i N : Nat} (h : DvI X Y qs R (i + 1) N) (hi : i / 32 < N) (hR : R < 2 ^ i * Y) : DvI X Y qs R i N :=
  ⟨h.len, h.dig, h.eq, h.r0, hR, qz_down h.qz (by rw [h.len]; exact hi)⟩
theorem dv_take {X Y : Int} {qs : List Int} {R : Int} {i N : Nat} (h : DvI X Y qs R (i + 1) N) (hi : i / 32 < qs.length) (hR : 2 ^ i * Y ≤ R) : DvI X Y (qs.set (i / 32) (qs[i / 32] + 2 ^ (i % 32))) (R - 2 ^ i * Y) i N ∧ bits .or .u32 qs[i / 32] (2 ^ (i % 32)) = qs[i / 32] + 2 ^ (i % 32) := by
  obtain ⟨w0, w1⟩ := dig_at h.dig (i / 32) hi
  obtain ⟨o1, o2⟩ := or_bit (r := i % 32) (by omega) w0 w1 (qz_digit h.qz hi)
  have hp := ipow_pos (i % 32)
  refine ⟨⟨by simpa using h.len, dig_set h.dig _ (by omega) o2, ?_, by omega, ?_, qz_set h.qz hi⟩, o1⟩
  · rw [val_set qs _ hi, show qs[i / 32] + 2 ^ (i % 32) - qs[i / 32] = (2 : Int) ^ (i % 32) by omega, p2_pow, Int.add_mul]
    have := h.eq
    omega
  · have := h.lt
    rw [Int.pow_succ] at this
    have e : (2 : Int) ^ i * 2 * Y = 2 ^ i * Y + 2 ^ i * Y := by grind
    omega
theorem dv_end {X Y : Int} {qs : List Int} {R : Int} {N : Nat} (h : DvI X Y qs R 0 N) (hY : 0 < Y) : val qs = X / Y ∧ R = X % Y := by
  have h1 := h.lt
  simp at h1
  have h2 := h.r0
  have h3 := h.eq
  have e1 : X / Y = val qs := by
    rw [h3, Int.add_comm, Int.add_mul_ediv_right _ _ (by omega), Int.ediv_eq_zero_of_lt h2 h1]
    omega
  refine ⟨e1.symm, ?_⟩
  have := Int.emod_add_mul_ediv X Y
  rw [e1] at this
  have e : Y * val qs = val qs * Y := Int.mul_comm _ _
  omega
theorem dv_start {X Y : Int} {bx bz : Nat} (hx : BitsOf X bx) (hy : BitsOf Y bz) (hY : 0 < Y) (h : bz ≤ bx) (N : Nat) : DvI X Y (List.replicate N 0) X (bx - bz + 1) N := by
  refine ⟨by simp, fun d hd => by rw [List.eq_of_mem_replicate hd]; decide, by simp [val_zeros], hx.1, ?_, ⟨fun j _ hl => by simp, fun hl => by simp⟩⟩
  have hb : bz ≠ 0 := by
    rintro rfl
    have := hy.2.1
    simp at this
    omega
  have h2 : (2 : Int) ^ (bz - 1) ≤ Y := by
    rcases hy.2.2 with h2 | h2
    · exact absurd h2 hb
    · exact h2
  have e : (2 : Int) ^ bx = 2 ^ (bx - bz + 1) * 2 ^ (bz - 1) := by rw [← Int.pow_add]; congr 1; omega
  have h3 := hx.2.1
  have h4 : (2 : Int) ^ (bx - bz + 1) * 2 ^ (bz - 1) ≤ 2 ^ (bx - bz + 1) * Y := Int.mul_le_mul_of_nonneg_left h2 (by have := ipow_pos (bx - bz + 1); omega)
  omega
theorem dv_less {X Y : Int} {bx bz : Nat} (hx : BitsOf X bx) (hy : BitsOf Y bz) (h : bx < bz) : X / Y = 0 ∧ X % Y = X ∧ X < Y := by
  have h2 : (2 : Int) ^ (bz - 1) ≤ Y := by
    rcases hy.2.2 with h2 | h2
    · omega
    · exact h2
  have h3 := ipow2_mono (show bx ≤ bz - 1 by omega)
  have h4 := hx.2.1
  have h5 : X < Y := by omega
  exact ⟨Int.ediv_eq_zero_of_lt hx.1 h5, Int.emod_eq_of_lt hx.1 h5, h5⟩
end Go.Proofs.Ytpfpmapmimnjgaa

/- The difference of digits and the trimming once more, with where their answers lie. -/
namespace Go.Proofs.Ytpfpmapmimnjgaa
open Go.RowKit
def SubAt (n : Nat) (z : Int) (w : World) (e : Ending) (w' : World) : Prop := DigsP n z w e w' ∧ ∃ cap, e = .returned (.slice (some ⟨w.heap.size, 0, none⟩) n cap)
def TrimAt (neg : Bool) (ao : Option Addr) (n : Nat) (ds : List Int) (w : World) (e : Ending) (w' : World) : Prop :=
  TrimP neg n ds w e w' ∧ ∃ s' ao' n' cap', e = .returned (.agg #[.bool s', .slice ao' n' cap']) ∧ (ao' = ao ∨ ao' = none)
set_option maxRecDepth 100000 in
set_option maxHeartbeats 400000 in
theorem subAbs_at (ao bo : Option Addr) (n m ca cb : Nat) (xs ys : List Int) (w : World) (hx : xs.length = n) (hy : ys.length = m) (dx : Dig xs) (dy : Dig ys) (rx : Rd w ao xs) (ry : Rd w bo ys) (hm : n ≤ 1000000) (_hm' : m ≤ 1000000)
    (hle : val ys ≤ val xs) :
    Calls Try.prog 90 #[.slice ao n ca, .slice bo m cb] w (SubAt n (val xs - val ys) w) := by
  obtain ⟨i0, hi, hz0, hz1, hz2⟩ := info_parts Try.info88
  have HX : Hid (xs.length = n) := hx
  have HY : Hid (ys.length = m) := hy
  have HDX : Hid (Dig xs) := dx
  have HDY : Hid (Dig ys) := dy
  have HRX : Hid (Rd w ao xs) := rx
  have HRY : Hid (Rd w bo ys) := ry
  have HLE : Hid (val ys ≤ val xs) := hle
  clear rx ry dx dy hx hy hle
  go_enter Try.func90, Try.ntmps90
  go_wp2_with (at_make; refine wpList_make_own _ rfl _ _ 54 rfl w.heap.size 110 i0 (.int .u32 0) 1 Try.underlying54 hi hz0 hz1 _ _ _ n rfl rfl rfl (by rw [hz2]; omega) (by unfold maxLen; omega) (Nat.le_refl _) ?_)
  intro w1 hown hgrow
  go_wp2
  go_loopw [5, 6, 7] (fun o c i wr => ∃ (k : Nat) (cv : Int) (zs : List Int), k ≤ n ∧ i = .int .i64 k ∧ 0 ≤ cv ∧ cv ≤ 1 ∧ c = .int .u64 cv ∧ o = .slice (some ⟨w.heap.size, 0, none⟩) k n ∧ SubI w wr n xs ys k cv zs) (fun _ _ i _ => n - (intOf i).toNat)
  case atStart => exact ⟨0, 0, [], Nat.zero_le _, rfl, by decide, by decide, rfl, rfl, ⟨rfl, dig_nil, by simp [val], hown, (Below.refl _ _).grown hgrow (Nat.le_refl _) (by simp)⟩⟩
  case round =>
    obtain ⟨k, cv, zs, hk, rfl, hc0, hc1, rfl, rfl, hI⟩ := hrel
    by_cases hkn : k < n
    · have hkx : k < xs.length := by have := HX.out; omega
      obtain ⟨b, off, rfl, hbl, hcx0⟩ := HRX.out k hkx
      have hcx := (hI.below.cell (p := ⟨b, off + k, none⟩) hbl).trans hcx0
      clear hcx0
      have hxd := dig_at HDX.out k hkx
      obtain ⟨hx0, hx1⟩ := hxd
      by_cases hkm : k < m
      · have hky : k < ys.length := by have := HY.out; omega
        obtain ⟨b', off', rfl, hbl', hcy0⟩ := HRY.out k hky
        have hcy := (hI.below.cell (p := ⟨b', off' + k, none⟩) hbl').trans hcy0
        clear hcy0
        obtain ⟨hy0, hy1⟩ := dig_at HDY.out k hky
        by_cases hlt : xs[k] < cv + ys[k]
        · go_wp2_with (at_builtin; refine wpList_append_fits _ rfl _ _ 54 rfl w.heap.size 110 i0 1 Try.underlying54 hi hz1 w.heap.size k n _ rfl (hI.own.alloc _) ⟨wr.heap.size, 0, none⟩ 1 1 [.int .u32 (xs[k] + 4294967296 - (cv + ys[k]))] rfl rfl (cell_one_new _ _ _) (one_cell _ _) (by omega) ?_)
          intro w2 hown2 hgrow2
          go_wp2
          go_roundw
          case rel => exact ⟨k + 1, 1, zs ++ [xs[k] + 4294967296 - (cv + ys[k])], by omega, by go_num, by decide, by decide, rfl, rfl, sub_step hI hc0 hc1 _ 1 (by decide) (by omega) (by omega) (by simp [List.getD, hkx, hky] <;> omega) hown2 hgrow2⟩
          case measure => simp [intOf]; omega
        · go_wp2_with (at_builtin; refine wpList_append_fits _ rfl _ _ 54 rfl w.heap.size 110 i0 1 Try.underlying54 hi hz1 w.heap.size k n _ rfl (hI.own.alloc _) ⟨wr.heap.size, 0, none⟩ 1 1 [.int .u32 (xs[k] - (cv + ys[k]))] rfl rfl (cell_one_new _ _ _) (one_cell _ _) (by omega) ?_)
          intro w2 hown2 hgrow2
          go_wp2
          go_roundw
          case rel => exact ⟨k + 1, 0, zs ++ [xs[k] - (cv + ys[k])], by omega, by go_num, by decide, by decide, rfl, rfl, sub_step hI hc0 hc1 _ 0 (by decide) (by omega) (by omega) (by simp [List.getD, hkx, hky] <;> omega) hown2 hgrow2⟩
          case measure => simp [intOf]; omega
      · by_cases hlt : xs[k] < cv
        · go_wp2_with (at_builtin; refine wpList_append_fits _ rfl _ _ 54 rfl w.heap.size 110 i0 1 Try.underlying54 hi hz1 w.heap.size k n _ rfl (hI.own.alloc _) ⟨wr.heap.size, 0, none⟩ 1 1 [.int .u32 (xs[k] + 4294967296 - cv)] rfl rfl (cell_one_new _ _ _) (one_cell _ _) (by omega) ?_)
          intro w2 hown2 hgrow2
          go_wp2
          go_roundw
          case rel => exact ⟨k + 1, 1, zs ++ [xs[k] + 4294967296 - cv], by omega, by go_num, by decide, by decide, rfl, rfl, sub_step hI hc0 hc1 _ 1 (by decide) (by omega) (by omega) (by have := HY.out; simp [List.getD, hkx, show ¬ k < ys.length by omega] <;> omega) hown2 hgrow2⟩
          case measure => simp [intOf]; omega
        · go_wp2_with (at_builtin; refine wpList_append_fits _ rfl _ _ 54 rfl w.heap.size 110 i0 1 Try.underlying54 hi hz1 w.heap.size k n _ rfl (hI.own.alloc _) ⟨wr.heap.size, 0, none⟩ 1 1 [.int .u32 (xs[k] - cv)] rfl rfl (cell_one_new _ _ _) (one_cell _ _) (by omega) ?_)
          intro w2 hown2 hgrow2
          go_wp2
          go_roundw
          case rel => exact ⟨k + 1, 0, zs ++ [xs[k] - cv], by omega, by go_num, by decide, by decide, rfl, rfl, sub_step hI hc0 hc1 _ 0 (by decide) (by omega) (by omega) (by have := HY.out; simp [List.getD, hkx, show ¬ k < ys.length by omega] <;> omega) hown2 hgrow2⟩
          case measure => simp [intOf]; omega
    · go_wp2
      go_ret
      obtain rfl : k = n := by omega
      exact ⟨sub_done hI hc0 hc1 HX.out HDX.out HDY.out HLE.out, _, rfl⟩
set_option maxHeartbeats 400000 in
theorem trim_at (neg : Bool) (ao : Option Addr) (n cap : Nat) (ds : List Int) (w : World) (hn : ds.length = n) (hc : n ≤ cap) (hd : Dig ds) (hr : Rd w ao ds) (hm : n ≤ 1000000000) :
    Calls Try.prog 87 #[.bool neg, .slice ao n cap] w (TrimAt neg ao n ds w) := by
  go_enter Try.func87, Try.ntmps87
  go_wp2
  go_loop [5] (fun i => ∃ k : Nat, k ≤ n ∧ i = .int .i64 k ∧ ∀ j, k ≤ j → (h : j < ds.length) → ds[j] = 0) (fun i => (intOf i).toNat)
  case atStart => exact ⟨n, Nat.le_refl _, rfl, fun j h1 h2 => by omega⟩
  case round =>
    obtain ⟨k, hk, rfl, hz⟩ := hrel
    have HN : Hid (ds.length = n) := hn
    have HD : Hid (Dig ds) := hd
    have HZ : Hid (∀ j, k ≤ j → (h : j < ds.length) → ds[j] = 0) := hz
    have HR : Hid (Rd w ao ds) := hr
    clear hz hr hd hn
    by_cases hk0 : 0 < k
    · obtain ⟨m, rfl⟩ : ∃ m, k = m + 1 := ⟨k - 1, by omega⟩
      have hml : m < ds.length := by have := HN.out; omega
      obtain ⟨b, off, rfl, hbl, hcell0⟩ := HR.out m hml
      have hcell := cell_alloc (o := Obj.cells #[Value.bool false, Value.slice none 0 0] 56) hbl hcell0
      clear hcell0
      go_wp2
      · go_round
        case rel =>
          have h0 : (ds[m] == 0) = true := by assumption
          exact ⟨m, by omega, by go_num, fun j h1 h2 => by
            by_cases e : j = m
            · subst e; simpa using h0
            · exact HZ.out j (by omega) h2⟩
        case measure => simp [intOf]
      · refine bodyPost_ret (v := .agg #[.bool neg, .slice (some ⟨b, off, none⟩) (m + 1) cap]) (by simp [results, Try.results87, go_sem]) rfl ?_
        have h0 : (ds[m] == 0) = false := by assumption
        exact ⟨trim_some neg n cap ds w _ HN.out hc HD.out HR.out m hml (by simpa using h0) HZ.out ((Below.refl _ _).alloc (Nat.le_refl _) _), _, _, _, _, rfl, Or.inl rfl⟩
    · go_wp2
      refine bodyPost_ret (v := .agg #[.bool false, .slice none 0 0]) (by simp [results, Try.results87, go_sem]) rfl ?_
      exact ⟨trim_none neg n ds w _ (fun j h => HZ.out j (by omega) h) ((Below.refl _ _).alloc (Nat.le_refl _) _), _, _, _, _, rfl, Or.inr rfl⟩
end Go.Proofs.Ytpfpmapmimnjgaa

/- The walk of the model's quotient and rest of digits, bit by bit. -/
namespace Go.Proofs.Ytpfpmapmimnjgaa
open Go.RowKit
def DivP (n : Nat) (X Y : Int) (w : World) (e : Ending) (w' : World) : Prop :=
  ∃ (qo : Option Addr) (qn qc : Nat) (qs : List Int) (ro : Option Addr) (rn rc : Nat) (rs : List Int), e = .returned (.tuple #[.slice qo qn qc, .slice ro rn rc]) ∧
    (qs.length = qn ∧ qn ≤ qc ∧ qn ≤ n + 1 ∧ Nrm qs ∧ val qs = X / Y ∧ Rd w' qo qs) ∧ (rs.length = rn ∧ rn ≤ rc ∧ rn ≤ n ∧ Nrm rs ∧ val rs = X % Y ∧ Rd w' ro rs) ∧ Below w.heap.size w w'
theorem bits_le32 {v : Int} {b n : Nat} (h : BitsOf v b) (hv : v < pw n) : b ≤ 32 * n := by
  apply Decidable.byContradiction
  intro hn
  have hp := p2_pow (32 * n)
  rw [show 32 * n / 32 = n by omega, show 32 * n % 32 = 0 by omega] at hp
  simp only [Int.pow_zero, Int.mul_one] at hp
  rw [hp] at hv
  rcases h.2.2 with h2 | h2
  · omega
  · have := ipow2_mono (show 32 * n ≤ b - 1 by omega)
    omega
/-- What lies in memory between the rounds. -/
structure DvM (W wr : World) (g : Nat) (qs : List Int) (ro : Option Addr) (rn rc : Nat) (rs : List Int) (n : Nat) : Prop where
  below : Below W.heap.size W wr
  q : Blk wr g (qs.map (Value.int .u32))
  rlen : rs.length = rn
  rcap : rn ≤ rc
  rle : rn ≤ n
  rnrm : Nrm rs
  rrd : Rd wr ro rs
  rne : ∀ b off, ro = some ⟨b, off, none⟩ → rs ≠ [] → b ≠ g
theorem DvM.step {W wr wr' : World} {g : Nat} {qs : List Int} {ro : Option Addr} {rn rc : Nat} {rs : List Int} {n : Nat} (h : DvM W wr g qs ro rn rc rs n) (hB : Below wr.heap.size wr wr') : DvM W wr' g qs ro rn rc rs n :=
  ⟨h.below.trans (hB.mono h.below.size), h.q.step hB, h.rlen, h.rcap, h.rle, h.rnrm, h.rrd.below hB (Nat.le_refl _), h.rne⟩
theorem Rd.setNe {w : World} {ao : Option Addr} {ds : List Int} (h : Rd w ao ds) {p : Addr} (hp : ∀ b off, ao = some ⟨b, off, none⟩ → ds ≠ [] → b ≠ p.block) (u : Value) : Rd (w.setCell p u) ao ds := by
  intro i hi
  obtain ⟨b, off, e, hb, hc⟩ := h i hi
  refine ⟨b, off, e, by simpa [World.setCell] using hb, (World.cell?_setCell_other _ _ _ _ ?_).trans hc⟩
  intro e2
  rw [e2] at hp
  exact hp b off e (by rintro rfl; simp at hi) rfl
set_option maxRecDepth 100000 in
set_option maxHeartbeats 4000000 in
theorem divAbs_any (ao bo : Option Addr) (n m ca cb : Nat) (xs ys : List Int) (w : World) (hx : xs.length = n) (hy : ys.length = m) (nx : Nrm xs) (ny : Nrm ys) (rx : Rd w ao xs) (ry : Rd w bo ys) (hc : n ≤ ca) (hn : n ≤ 10000) (hm : m ≤ 10000) (hY : 0 < val ys) :
    Calls Try.prog 86 #[.slice ao n ca, .slice bo m cb] w (DivP n (val xs) (val ys) w) := by
  obtain ⟨i0, hi, hz0, hz1, hz2⟩ := info_parts Try.info88
  go_enter Try.func86, Try.ntmps86
  go_wp2_with fail
  refine (bits_any ao n ca xs _ hx nx rx (by omega)).mono ?_
  rintro e w1 ⟨bx, rfl, hbx, hB⟩
  replace rx := rx.below hB (Nat.le_refl _)
  replace ry := ry.below hB (Nat.le_refl _)
  have HB1 := hB
  clear hB
  go_wp2_with fail
  refine (bits_any bo m cb ys _ hy ny ry (by omega)).mono ?_
  rintro e w2 ⟨bz, rfl, hbz, hB⟩
  replace rx := rx.below hB (Nat.le_refl _)
  replace ry := ry.below hB (Nat.le_refl _)
  have HB2 : Below w.heap.size w w2 := HB1.trans (hB.mono HB1.size)
  clear hB HB1
  have l1 := bits_le32 (n := n) hbx (by rw [← hx]; exact val_lt nx.1)
  have l2 := bits_le32 (n := m) hbz (by rw [← hy]; exact val_lt ny.1)
  by_cases hlt : bx < bz
  · obtain ⟨v1, v2, v3⟩ := dv_less hbx hbz hlt
    have i1 : (bx : Int) - bz < 0 := by omega
    clear hi hz0 hz1 hz2 hbx hbz
    go_wp2
    go_ret2
    exact ⟨none, 0, 0, [], ao, n, ca, xs, rfl, ⟨rfl, by omega, by omega, nrm_nil, by rw [v1]; rfl, Rd.nil _ _⟩, ⟨hx, hc, Nat.le_refl _, nx, v2.symm, rx⟩, HB2⟩
  · have HI := dv_start hbx hbz hY (by omega) ((bx - bz) / 32 + 1)
    obtain ⟨N, hN⟩ : ∃ N, bx - bz = N := ⟨_, rfl⟩
    have eN : (bx : Int) - bz = (N : Int) := by omega
    have hN1 : N ≤ 32 * n := by omega
    rw [hN] at HI
    clear hbx hbz hN hlt l1 l2
    obtain ⟨K, hK⟩ : ∃ K, N / 32 = K := ⟨_, rfl⟩
    have eK : (N : Int) / 32 = (K : Int) := by omega
    rw [hK] at HI
    go_wp2_with (at_make; refine wpList_make_full _ rfl _ _ 54 rfl w2.heap.size 110 i0 (.int .u32 0) 1 Try.underlying54 hi hz0 hz1 _ _ _ _ (K + 1) rfl rfl (by omega) (by omega) (by rw [hz2]; omega) (by unfold maxLen; omega) (Nat.le_refl _) ?_)
    intro w3 hown hgrow
    have M0 : DvM w2 w3 w2.heap.size (List.replicate (K + 1) 0) ao n ca xs n := by
      rw [made_one] at hown
      refine ⟨(Below.refl _ _).grown hgrow (Nat.le_refl _) (by simp), ⟨(hown.lt _ rfl).2, fun j v hj => ?_⟩, hx, hc, Nat.le_refl _, nx, rx.below ((Below.refl _ _).grown hgrow (Nat.le_refl _) (by simp)) (Nat.le_refl _), ?_⟩
      · have hjl : j < K + 1 := by
          apply Decidable.byContradiction
          intro hn
          rw [List.getElem?_eq_none (by simp; omega)] at hj
          cases hj
        refine ⟨?_, hown.frozenAt j⟩
        rw [hown.cellAt j (by omega)]
        simpa using hj
      · rintro b off rfl hne
        obtain ⟨b', off', e, hb, _⟩ := rx 0 (List.length_pos_iff.2 hne)
        cases e
        omega
    have HBW : Below w.heap.size w w3 := HB2.trans (M0.below.mono HB2.size)
    clear hown hgrow hi hz0 hz1 hz2
    have hKn : K ≤ n := by omega
    go_wp2
    go_loopw [8, 9] (fun r i wr => ∃ (k : Nat) (ro : Option Addr) (rn rc : Nat) (rs qs : List Int), k ≤ N + 1 ∧ i = .int .i64 ((k : Int) - 1) ∧ r = .slice ro rn rc ∧ DvI (val xs) (val ys) qs (val rs) k (K + 1) ∧ DvM w2 wr w2.heap.size qs ro rn rc rs n) (fun _ i _ => (intOf i + 1).toNat)
    case atStart => exact ⟨N + 1, ao, n, ca, xs, _, Nat.le_refl _, by go_num, rfl, HI, M0⟩
    case round =>
      clear HI M0
      obtain ⟨k, ro, rn, rc, rs, qs, hk, rfl, rfl, hI, hM⟩ := hrel
      by_cases hk0 : 0 < k
      · obtain ⟨j, rfl⟩ : ∃ j, k = j + 1 := ⟨k - 1, by omega⟩
        rw [show (((j + 1 : Nat) : Int) - 1) = (j : Int) by omega]
        have ryr := ry.below hM.below (Nat.le_refl _)
        go_wp2_with fail
        refine (left_any bo m cb j ys _ hy ny.1 ryr (by omega) (by omega)).mono ?_
        rintro e w4 ⟨so, sn, sc, ss, rfl, k1, k2, k3, k4, k5, k6, hB⟩
        have hM4 := hM.step hB
        have e2 : val ss = 2 ^ j * val ys := by rw [k5, ← Int.mul_assoc, p2_pow]
        clear hM hB k5 ryr
        go_wp2_with fail
        refine (cmpAbs_any ro so rn sn rc sc rs ss _ hM4.rlen k1 hM4.rnrm k4 hM4.rrd k6 (by have := hM4.rle; omega) (by omega)).mono ?_
        rintro e w5 ⟨rfl, hB⟩
        have hM5 := hM4.step hB
        replace k6 := k6.below hB (Nat.le_refl _)
        clear hM4 hB
        by_cases hle : val rs < 2 ^ j * val ys
        · have hcm : decide (0 ≤ cmpI (val rs) (val ss)) = false := by rw [cmpI_lt (by rw [e2]; exact hle)]; decide
          have R1 := dv_skip hI (by omega) hle
          clear hI e2 k1 k2 k3 k4 k6
          generalize cmpI (val rs) (val ss) = cm at *
          go_wp2
          go_roundw
          case rel => exact ⟨j, ro, rn, rc, rs, qs, by omega, by go_num, rfl, R1, hM5⟩
          case measure => simp [intOf]
        · have hcm : 0 ≤ cmpI (val rs) (val ss) := by
            rcases Int.lt_trichotomy (val rs) (val ss) with h | h | h
            · rw [e2] at h; exact absurd h hle
            · rw [cmpI_eq h]; decide
            · rw [cmpI_gt h]; decide
          generalize cmpI (val rs) (val ss) = cm at *
          go_wp2_with fail
          refine (subAbs_at ro so rn sn rc sc rs ss _ hM5.rlen k1 hM5.rnrm.1 k4.1 hM5.rrd k6 (by have := hM5.rle; omega) (by omega) (by rw [e2]; omega)).mono ?_
          rintro e w6 ⟨⟨o6, c6, z6, rfl, d1, d2, d3, d4, d5, hB⟩, c6', he⟩
          simp only [Ending.returned.injEq, Value.slice.injEq, true_and] at he
          obtain ⟨rfl, rfl⟩ := he
          have hM6 := hM5.step hB
          have hg5 := hM5.q.lt
          clear hM5 hB k1 k2 k3 k4 k6 hcm
          go_wp2_with fail
          refine (trim_at false (some ⟨w5.heap.size, 0, none⟩) rn c6 z6 _ d1 d2 d3 d5 (by have := hM6.rle; omega)).mono ?_
          rintro e w7 ⟨⟨s7, o7, n7, c7, z7, rfl, t1, t2, t3, t4, t5, t6, t7, hB⟩, s8, o8, n8, c8, he, ho⟩
          simp only [Ending.returned.injEq, Value.agg.injEq, Array.mk.injEq, List.cons.injEq, Value.bool.injEq, Value.slice.injEq, and_true] at he
          obtain ⟨rfl, rfl, rfl, rfl⟩ := he
          have hM7 := hM6.step hB
          have hjl : j / 32 < qs.length := by rw [hI.len]; omega
          obtain ⟨R1, oq⟩ := dv_take hI hjl (by omega)
          have ev : val z7 = val rs - 2 ^ j * val ys := by rw [t5, d4, e2]
          rw [← ev] at R1
          have cq := hM7.q.c (j / 32) (v := .int .u32 qs[j / 32]) (by simp [hjl])
          have fq := hM7.q.f (j / 32) (v := .int .u32 qs[j / 32]) (by simp [hjl])
          have hNe : ∀ b off, o7 = some ⟨b, off, none⟩ → z7 ≠ [] → b ≠ w2.heap.size := by
            rintro b off e _
            rcases ho with ho | ho
            · rw [ho] at e; cases e; omega
            · rw [ho] at e; cases e
          have R2 : DvM w2 (w7.setCell ⟨w2.heap.size, j / 32, none⟩ (.int .u32 (qs[j / 32] + 2 ^ (j % 32)))) w2.heap.size (qs.set (j / 32) (qs[j / 32] + 2 ^ (j % 32))) o7 n7 c7 z7 n := by
            refine ⟨hM7.below.setCell (Nat.le_refl _) _, ?_, t1, t2, by have := hM7.rle; omega, t4, t7.setNe hNe _, hNe⟩
            have := hM7.q.setI (j / 32) (by simpa using hjl) (.int .u32 (qs[j / 32] + 2 ^ (j % 32)))
            rwa [← List.map_set] at this
          clear hM6 hM7 t1 t2 t3 t4 t5 t6 t7 d1 d2 d3 d4 d5 hB ho hNe ev hI e2
          have e3 : (j : Int) / 32 = ((j / 32 : Nat) : Int) := by omega
          have e4 : (j : Int) % 32 = ((j % 32 : Nat) : Int) := by omega
          have e5 : ((j / 32 : Nat) : Int) < (K : Int) + 1 := by omega
          have fd := field_d (.bool s7) (.slice o7 n7 c7)
          have e6 : (2 : Int) ^ (j % 32) % 4294967296 = 2 ^ (j % 32) := by
            have h31 := ipow2_mono (show j % 32 ≤ 31 by omega)
            have hp := ipow_pos (j % 32)
            have : (2 : Int) ^ 31 = 2147483648 := by decide
            omega
          generalize hjq : j / 32 = jq at *
          generalize hjr : j % 32 = jr at *
          go_wp2
          go_roundw
          case rel =>
            exact ⟨j, o7, n7, c7, z7, _, by omega, rfl, rfl, R1, R2⟩
          case measure => simp [intOf]
      · obtain rfl : k = 0 := by omega
        obtain ⟨v1, v2⟩ := dv_end hI hY
        have hq := hM.q
        have rq : Rd wr (some ⟨w2.heap.size, 0, none⟩) qs := fun i hi => ⟨w2.heap.size, 0, rfl, hq.lt, by rw [Nat.zero_add]; exact hq.c i (by simp [hi])⟩
        have hlq := hI.len
        have hdq := hI.dig
        clear hI hq
        go_wp2_with fail
        refine (trim_at false (some ⟨w2.heap.size, 0, none⟩) (K + 1) (K + 1) qs _ hlq (Nat.le_refl _) hdq rq (by omega)).mono ?_
        rintro e w7 ⟨⟨s7, o7, n7, c7, z7, rfl, t1, t2, t3, t4, t5, t6, t7, hB⟩, _⟩
        have hM7 := hM.step hB
        have HBE : Below w.heap.size w w7 := HB2.trans (hM7.below.mono HB2.size)
        clear hM hB
        have fd := field_d (.bool s7) (.slice o7 n7 c7)
        clear t6
        go_wp2
        go_ret2
        exact ⟨o7, n7, c7, z7, ro, rn, rc, rs, rfl, ⟨t1, t2, by omega, t4, by rw [t5]; exact v1, t7⟩, ⟨hM7.rlen, hM7.rcap, hM7.rle, hM7.rnrm, v2, hM7.rrd⟩, HBE⟩
end Go.Proofs.Ytpfpmapmimnjgaa

/- The walk of the model's greatest common divisor. -/
namespace Go.Proofs.Ytpfpmapmimnjgaa
open Go.RowKit
/-- The digits that lie behind a slice. -/
def digsOf (w : World) : Value → List Int
  | .slice (some a) n _ => (List.range n).map fun i => match w.cell? ⟨a.block, a.off + i, none⟩ with | some v => intOf v | none => 0
  | _ => []
theorem digs_of {w : World} {ao : Option Addr} {n cap : Nat} {ds : List Int} (h : Rd w ao ds) (hl : ds.length = n) : digsOf w (.slice ao n cap) = ds := by
  by_cases h0 : n = 0
  · subst h0
    have : ds = [] := List.eq_nil_of_length_eq_zero hl
    subst this
    cases ao <;> simp [digsOf]
  · obtain ⟨b, off, rfl, _, _⟩ := h 0 (by omega)
    simp only [digsOf]
    apply List.ext_getElem
    · simp [hl]
    · intro i h1 h2
      obtain ⟨b', off', e, _, hc⟩ := h i h2
      cases e
      simp [hc, intOf]
structure GdI (W wr : World) (xo : Option Addr) (xn xc : Nat) (xs : List Int) (yo : Option Addr) (yn yc : Nat) (ys : List Int) (k G : Nat) : Prop where
  below : Below W.heap.size W wr
  xlen : xs.length = xn
  xcap : xn ≤ xc
  xle : xn ≤ k
  xnrm : Nrm xs
  xrd : Rd wr xo xs
  ylen : ys.length = yn
  ycap : yn ≤ yc
  yle : yn ≤ k
  ynrm : Nrm ys
  yrd : Rd wr yo ys
  gcd : Int.gcd (val xs) (val ys) = G
theorem gcd_step {x y : Int} (hx : 0 ≤ x) (hy : 0 < y) : Int.gcd y (x % y) = Int.gcd x y := by
  obtain ⟨a, rfl⟩ := Int.eq_ofNat_of_zero_le hx
  obtain ⟨b, rfl⟩ := Int.eq_ofNat_of_zero_le (show 0 ≤ y by omega)
  rw [show ((a : Int) % (b : Int)) = ((a % b : Nat) : Int) from (Int.natCast_emod a b).symm, Int.gcd_natCast_natCast, Int.gcd_natCast_natCast, Nat.gcd_comm a b, Nat.gcd_rec b a, Nat.gcd_comm]
set_option maxRecDepth 100000 in
set_option maxHeartbeats 2000000 in
theorem gcd_any (s t : Bool) (ao bo : Option Addr) (n m ca cb k : Nat) (xs ys : List Int) (x y : Int) (w : World) (hx : IsNum w s ao n ca xs x k) (hy : IsNum w t bo m cb ys y k) (hk : k ≤ 9000) :
    Calls Try.prog 57 #[.agg #[.bool s, .slice ao n ca], .agg #[.bool t, .slice bo m cb]] w (NumP k (Int.gcd x y : Int) w) := by
  have T0 := two_start w (.bool s) (.slice ao n ca) (.bool t) (.slice bo m cb)
  have HX := hx.below T0.below
  have HY := hy.below T0.below
  have G0 : Int.gcd (val xs) (val ys) = Int.gcd x y := by rw [hx.val, hy.val]; simp [Int.gcd]
  clear hx hy
  go_enter Try.func57, Try.ntmps57
  go_upto_region 1 with fail
  generalize ((w.alloc (Obj.cells #[Value.bool s, Value.slice ao n ca] 56)).alloc (Obj.cells #[Value.bool t, Value.slice bo m cb] 56)).alloc (Obj.cells #[Value.bool false, Value.slice none 0 0] 56) = W at *
  have q1 := T0.a1; have q3 := T0.b1
  have I0 : GdI W W ao n ca xs bo m cb ys k (Int.gcd x y) := ⟨Below.refl _ _, HX.len, HX.cap, HX.le, HX.nrm, HX.rd, HY.len, HY.cap, HY.le, HY.nrm, HY.rd, G0⟩
  clear HX HY G0
  have hsz := T0.sz
  go_wp2
  go_loopw [5, 6] (fun u v wr => ∃ (xo : Option Addr) (xn xc : Nat) (xs : List Int) (yo : Option Addr) (yn yc : Nat) (ys : List Int), u = .slice xo xn xc ∧ v = .slice yo yn yc ∧ GdI W wr xo xn xc xs yo yn yc ys k (Int.gcd x y)) (fun _ v wr => (val (digsOf wr v)).toNat)
  case atStart => exact ⟨ao, n, ca, xs, bo, m, cb, ys, rfl, rfl, I0⟩
  case round =>
    clear I0
    obtain ⟨xo, xn, xc, xs, yo, yn, yc, ys, rfl, rfl, I0⟩ := hrel
    by_cases hy0 : 0 < yn
    · have i1 : (0 : Int) < (yn : Int) := by omega
      have hyp := nrm_pos I0.ynrm (by intro e; have := I0.ylen; rw [e] at this; simp at this; omega)
      have hd := digs_of (cap := yc) I0.yrd I0.ylen
      go_wp2_with fail
      refine (divAbs_any xo yo xn yn xc yc xs ys _ I0.xlen I0.ylen I0.xnrm I0.ynrm I0.xrd I0.yrd I0.xcap (by have := I0.xle; omega) (by have := I0.yle; omega) (by omega)).mono ?_
      rintro e w4 ⟨qo, qn, qc, qs, ro, rn, rc, rs, rfl, -, ⟨r1, r2, r3, r4, r5, r6⟩, hB⟩
      have I1 : GdI W w4 yo yn yc ys ro rn rc rs k (Int.gcd x y) := ⟨I0.below.trans (hB.mono I0.below.size), I0.ylen, I0.ycap, I0.yle, I0.ynrm, I0.yrd.below hB (Nat.le_refl _), r1, r2, by have := I0.xle; omega, r4, r6, by rw [r5, gcd_step (val_nonneg I0.xnrm.1) (by omega)]; exact I0.gcd⟩
      have hlt : (val rs).toNat < (val ys).toNat := by
        have h1 := Int.emod_lt_of_pos (val xs) (show 0 < val ys by omega)
        have h2 := Int.emod_nonneg (val xs) (show val ys ≠ 0 by omega)
        rw [r5]
        omega
      have hd2 := digs_of (cap := rc) r6 r1
      clear I0 hB r1 r2 r3 r4 r5 r6
      go_wp2
      go_roundw
      case rel => exact ⟨yo, yn, yc, ys, ro, rn, rc, rs, rfl, rfl, I1⟩
      case measure => rw [hd, hd2]; exact hlt
    · obtain rfl : yn = 0 := by omega
      have hys : ys = [] := List.eq_nil_of_length_eq_zero I0.ylen
      have hG : val xs = ((Int.gcd x y : Int).natAbs : Int) := by
        rw [← I0.gcd, hys]
        have := val_nonneg I0.xnrm.1
        simp [val, Int.gcd]
        omega
      have T1 := T0.step I0.below
      have hxk := I0.xle
      clear q1 q3
      go_wp2_with fail
      refine (trim_any false xo xn xc xs _ I0.xlen I0.xcap I0.xnrm.1 I0.xrd (by omega)).mono ?_
      rintro e w3 ⟨neg', ao', n', cap', ds', rfl, k1, k2, k3, k4, k5, k6, k7, k8⟩
      have T2 := T1.step k8
      have HN := num_of (z := (Int.gcd x y : Int)) (k := k) k1 k2 (by omega) k4 (k5.trans hG) (k6.trans (by rw [hG])) k7 rfl (by intro _; simp)
      have c0 := T2.r0; have c1 := T2.r1; have f0 := T2.f0; have f1 := T2.f1
      have HB := T2.below
      clear k1 k2 k3 k4 k5 k6 k7 k8 T1 T2 I0
      go_wp2
      refine bodyPost_ret (v := .agg #[.bool neg', .slice ao' n' cap']) (by simp [results, Try.results57, go_sem, c0, c1]) rfl ?_
      exact num_ret (by omega) c0 c1 HN HB
end Go.Proofs.Ytpfpmapmimnjgaa

/- The walk of the model's common divisor of two numbers of four words. -/
namespace Go.Proofs.Ytpfpmapmimnjgaa
open Go.RowKit
set_option maxRecDepth 100000 in
set_option maxHeartbeats 2000000 in
theorem specGcd_any (a3 a2 a1 a0 b3 b2 b1 b0 : Int) (h3 : Word a3) (h2 : Word a2) (h1 : Word a1) (h0 : Word a0) (k3 : Word b3) (k2 : Word b2) (k1 : Word b1) (k0 : Word b0) (w : World) :
    Calls Try.prog 20 #[.agg #[.int .u64 a3, .int .u64 a2, .int .u64 a1, .int .u64 a0], .agg #[.int .u64 b3, .int .u64 b2, .int .u64 b1, .int .u64 b0]] w (TellP (Int.gcd (sw a3 a2 a1 a0) (sw b3 b2 b1 b0) : Int) w) := by
  have T0 := ((twoW_start w a3 a2 a1 a0 b3 b2 b1 b0 25).alloc (Obj.cells #[Value.int IntKind.u64 0, Value.int IntKind.u64 0, Value.int IntKind.u64 0, Value.int IntKind.u64 0] 25)).drew
  have R0 : Wd _ (w.heap.size + 1 + 1) 0 0 0 0 := (Wd.new ((w.alloc (Obj.cells #[Value.int IntKind.u64 a3, Value.int IntKind.u64 a2, Value.int IntKind.u64 a1, Value.int IntKind.u64 a0] 25)).alloc (Obj.cells #[Value.int IntKind.u64 b3, Value.int IntKind.u64 b2, Value.int IntKind.u64 b1, Value.int IntKind.u64 b0] 25)) 0 0 0 0 25 (by simp)).drew
  have tok1 : True := trivial
  go_enter Try.func20, Try.ntmps20
  go_wp2
  generalize ((w.alloc (Obj.cells #[Value.int IntKind.u64 a3, Value.int IntKind.u64 a2, Value.int IntKind.u64 a1, Value.int IntKind.u64 a0] 25)).alloc (Obj.cells #[Value.int IntKind.u64 b3, Value.int IntKind.u64 b2, Value.int IntKind.u64 b1, Value.int IntKind.u64 b0] 25)).alloc (Obj.cells #[Value.int IntKind.u64 0, Value.int IntKind.u64 0, Value.int IntKind.u64 0, Value.int IntKind.u64 0] 25) = W at *
  go_region_held3 (fun w' => w'.cell? ⟨w.heap.size, 0, none⟩ = some (.int .u64 a3) ∧ w'.cell? ⟨w.heap.size, 1, none⟩ = some (.int .u64 a2) ∧ w'.cell? ⟨w.heap.size, 2, none⟩ = some (.int .u64 a1) ∧ w'.cell? ⟨w.heap.size, 3, none⟩ = some (.int .u64 a0) ∧ w'.cell? ⟨w.heap.size + 1, 0, none⟩ = some (.int .u64 b3) ∧ w'.cell? ⟨w.heap.size + 1, 1, none⟩ = some (.int .u64 b2) ∧ w'.cell? ⟨w.heap.size + 1, 2, none⟩ = some (.int .u64 b1) ∧ w'.cell? ⟨w.heap.size + 1, 3, none⟩ = some (.int .u64 b0)) (first | exact T0.cells | exact (T0.set (by omega) _ _ _ _).cells | exact (T0.set (by omega) _ _ _ _).drew.cells)
    (first
      | (go_at_call 47; have _t := tok1; refine (from_any a3 a2 a1 a0 h3 h2 h1 h0 _).mono ?_; rintro e w1 ⟨s1, ao1, n1, c1, ds1, rfl, N1, hB1⟩; replace T0 := T0.step hB1; replace R0 := R0.step hB1; clear tok1 _t hB1)
      | (go_at_call 47; refine (from_any b3 b2 b1 b0 k3 k2 k1 k0 _).mono ?_; rintro e w2 ⟨s2, ao2, n2, c2, ds2, rfl, N2, hB2⟩; replace T0 := T0.step hB2; replace R0 := R0.step hB2; replace N1 := N1.below hB2; clear hB2)
      | (go_at_call 57; refine (gcd_any s1 s2 ao1 ao2 n1 n2 c1 c2 8 ds1 ds2 _ _ _ N1 N2 (by omega)).mono ?_; rintro e w3 ⟨s3, ao3, n3, c3, ds3, rfl, N3, hB3⟩; replace T0 := T0.step hB3; replace R0 := R0.step hB3; clear hB3 N1 N2)
      | (go_at_call 48; refine (toW_any s3 ao3 n3 c3 ds3 _ 8 _ N3 (by omega)).mono ?_; intro e w4 hT; have hBB := T0.below; have hTT := tellP_from hBB hT; replace T0 := T0.step hT.1; replace R0 := R0.step hT.1; obtain ⟨x3, x2, x1, x0, p, rfl⟩ := tellP_shape hT; have r0 := R0.c0; have r1 := R0.c1; have r2 := R0.c2; have r3 := R0.c3; have f0 := R0.f0; have f1 := R0.f1; have f2 := R0.f2; have f3 := R0.f3; clear hT N3 hBB))
  all_goals go_wp2
  all_goals refine bodyPost_ret (v := .tuple #[.agg #[.int .u64 x3, .int .u64 x2, .int .u64 x1, .int .u64 x0], .bool p]) (by simp [results, Try.results20, go_sem, r0, r1, r2, r3]) rfl ?_
  all_goals first | exact tellP_set (by omega) hTT | exact tellP_drew (tellP_set (by omega) hTT)
end Go.Proofs.Ytpfpmapmimnjgaa

/- The walk of the law over laws.FnExactWideGcd: the program's answer and the model's. -/
namespace Go.Proofs.Ytpfpmapmimnjgaa
open Go.RowKit
set_option maxRecDepth 100000 in
set_option maxHeartbeats 4000000 in
theorem lawGcd_any (a3 a2 a1 a0 b3 b2 b1 b0 : Int) (h3 : Word a3) (h2 : Word a2) (h1 : Word a1) (h0 : Word a0) (k3 : Word b3) (k2 : Word b2) (k1 : Word b1) (k0 : Word b0) (w : World) :
    Calls Try.prog 4 #[.agg #[.int .u64 a3, .int .u64 a2, .int .u64 a1, .int .u64 a0], .agg #[.int .u64 b3, .int .u64 b2, .int .u64 b1, .int .u64 b0]] w (BoolP true w) := by
  have T0 := twoW_start w a3 a2 a1 a0 b3 b2 b1 b0 24
  have tok1 : True := trivial
  go_enter Try.func4, Try.ntmps4
  go_upto_region 1 with fail
  generalize (w.alloc (Obj.cells #[Value.int IntKind.u64 a3, Value.int IntKind.u64 a2, Value.int IntKind.u64 a1, Value.int IntKind.u64 a0] 24)).alloc (Obj.cells #[Value.int IntKind.u64 b3, Value.int IntKind.u64 b2, Value.int IntKind.u64 b1, Value.int IntKind.u64 b0] 24) = W at *
  go_cut [5, 6] (fun p q wx => CutL (Int.gcd (sw a3 a2 a1 a0) (sw b3 b2 b1 b0) : Int) w wx a3 a2 a1 a0 b3 b2 b1 b0 p q)
  case first =>
    go_region_held3 (fun w' => w'.cell? ⟨w.heap.size, 0, none⟩ = some (.int .u64 a3) ∧ w'.cell? ⟨w.heap.size, 1, none⟩ = some (.int .u64 a2) ∧ w'.cell? ⟨w.heap.size, 2, none⟩ = some (.int .u64 a1) ∧ w'.cell? ⟨w.heap.size, 3, none⟩ = some (.int .u64 a0) ∧ w'.cell? ⟨w.heap.size + 1, 0, none⟩ = some (.int .u64 b3) ∧ w'.cell? ⟨w.heap.size + 1, 1, none⟩ = some (.int .u64 b2) ∧ w'.cell? ⟨w.heap.size + 1, 2, none⟩ = some (.int .u64 b1) ∧ w'.cell? ⟨w.heap.size + 1, 3, none⟩ = some (.int .u64 b0)) (first | (with_reducible exact cells8x T0) | (with_reducible exact cells8x T0.drew) | (with_reducible exact cells8x (T0.alloc _)) | (with_reducible exact cells8x (T0.alloc _).drew) | (with_reducible exact cells8x (T0.set (by omega) _ _ _ _)))
      (first
        | (go_at_call 17; have _t := tok1; refine (toWide_any a3 a2 a1 a0 _).mono ?_; rintro e w1 ⟨rfl, hB⟩; (first | (have T1 : TwoW w w1 a3 a2 a1 a0 b3 b2 b1 b0 := (by with_reducible exact T0.step hB); try (replace G0 := G0.step hB; have z0c := G0.c0; have z1c := G0.c1; have z2c := G0.c2; have z3c := G0.c3; have z0f := G0.f0; have z1f := G0.f1; have z2f := G0.f2; have z3f := G0.f3)) | (have T1 : TwoW w w1 a3 a2 a1 a0 b3 b2 b1 b0 := (by with_reducible exact T0.drew.step hB); try (replace G0 := G0.step hB; have z0c := G0.c0; have z1c := G0.c1; have z2c := G0.c2; have z3c := G0.c3; have z0f := G0.f0; have z1f := G0.f1; have z2f := G0.f2; have z3f := G0.f3)) | (have T1 : TwoW w w1 a3 a2 a1 a0 b3 b2 b1 b0 := (by with_reducible exact (T0.alloc _).step hB); have hg := T0.b.lt; have G0 := (Wd.new _ 0 0 0 0 _ rfl).step hB; have z0c := G0.c0; have z1c := G0.c1; have z2c := G0.c2; have z3c := G0.c3; have z0f := G0.f0; have z1f := G0.f1; have z2f := G0.f2; have z3f := G0.f3) | (have T1 : TwoW w w1 a3 a2 a1 a0 b3 b2 b1 b0 := (by with_reducible exact (T0.alloc _).drew.step hB); have hg := T0.b.lt; have G0 := (Wd.new _ 0 0 0 0 _ rfl).drew.step hB; have z0c := G0.c0; have z1c := G0.c1; have z2c := G0.c2; have z3c := G0.c3; have z0f := G0.f0; have z1f := G0.f1; have z2f := G0.f2; have z3f := G0.f3)); clear T0; have T0 := T1; clear T1; clear tok1 _t hB)
        | (go_at_call 17; refine (toWide_any b3 b2 b1 b0 _).mono ?_; rintro e w2 ⟨rfl, hB⟩; (first | (have T1 : TwoW w w2 a3 a2 a1 a0 b3 b2 b1 b0 := (by with_reducible exact T0.step hB); try (replace G0 := G0.step hB; have z0c := G0.c0; have z1c := G0.c1; have z2c := G0.c2; have z3c := G0.c3; have z0f := G0.f0; have z1f := G0.f1; have z2f := G0.f2; have z3f := G0.f3)) | (have T1 : TwoW w w2 a3 a2 a1 a0 b3 b2 b1 b0 := (by with_reducible exact T0.drew.step hB); try (replace G0 := G0.step hB; have z0c := G0.c0; have z1c := G0.c1; have z2c := G0.c2; have z3c := G0.c3; have z0f := G0.f0; have z1f := G0.f1; have z2f := G0.f2; have z3f := G0.f3)) | (have T1 : TwoW w w2 a3 a2 a1 a0 b3 b2 b1 b0 := (by with_reducible exact (T0.alloc _).step hB); have hg := T0.b.lt; have G0 := (Wd.new _ 0 0 0 0 _ rfl).step hB; have z0c := G0.c0; have z1c := G0.c1; have z2c := G0.c2; have z3c := G0.c3; have z0f := G0.f0; have z1f := G0.f1; have z2f := G0.f2; have z3f := G0.f3) | (have T1 : TwoW w w2 a3 a2 a1 a0 b3 b2 b1 b0 := (by with_reducible exact (T0.alloc _).drew.step hB); have hg := T0.b.lt; have G0 := (Wd.new _ 0 0 0 0 _ rfl).drew.step hB; have z0c := G0.c0; have z1c := G0.c1; have z2c := G0.c2; have z3c := G0.c3; have z0f := G0.f0; have z1f := G0.f1; have z2f := G0.f2; have z3f := G0.f3)); clear T0; have T0 := T1; clear T1; clear hB)
        | (go_at_call 20; refine (specGcd_any a3 a2 a1 a0 b3 b2 b1 b0 h3 h2 h1 h0 k3 k2 k1 k0 _).mono ?_; intro e w3 hT; obtain ⟨x3, x2, x1, x0, t, rfl⟩ := tellP_shape hT; have hB := hT.1; (first | (have T1 : TwoW w w3 a3 a2 a1 a0 b3 b2 b1 b0 := (by with_reducible exact T0.step hB); try (replace G0 := G0.step hB; have z0c := G0.c0; have z1c := G0.c1; have z2c := G0.c2; have z3c := G0.c3; have z0f := G0.f0; have z1f := G0.f1; have z2f := G0.f2; have z3f := G0.f3)) | (have T1 : TwoW w w3 a3 a2 a1 a0 b3 b2 b1 b0 := (by with_reducible exact T0.drew.step hB); try (replace G0 := G0.step hB; have z0c := G0.c0; have z1c := G0.c1; have z2c := G0.c2; have z3c := G0.c3; have z0f := G0.f0; have z1f := G0.f1; have z2f := G0.f2; have z3f := G0.f3)) | (have T1 : TwoW w w3 a3 a2 a1 a0 b3 b2 b1 b0 := (by with_reducible exact (T0.alloc _).step hB); have hg := T0.b.lt; have G0 := (Wd.new _ 0 0 0 0 _ rfl).step hB; have z0c := G0.c0; have z1c := G0.c1; have z2c := G0.c2; have z3c := G0.c3; have z0f := G0.f0; have z1f := G0.f1; have z2f := G0.f2; have z3f := G0.f3) | (have T1 : TwoW w w3 a3 a2 a1 a0 b3 b2 b1 b0 := (by with_reducible exact (T0.alloc _).drew.step hB); have hg := T0.b.lt; have G0 := (Wd.new _ 0 0 0 0 _ rfl).drew.step hB; have z0c := G0.c0; have z1c := G0.c1; have z2c := G0.c2; have z3c := G0.c3; have z0f := G0.f0; have z1f := G0.f1; have z2f := G0.f2; have z3f := G0.f3)); clear T0; have T0 := T1; clear T1; clear hB))
    all_goals go_wp2_with fail
    all_goals go_meet
    all_goals first | (with_reducible exact cutL_new T0 hT) | (with_reducible exact cutL_set T0 G0 (by omega) hT) | exact cutL_drew (cutL_new T0 hT) | exact cutL_drew (cutL_set T0 G0 (by omega) hT)
  case rest =>
    clear T0
    obtain ⟨g, s3, s2, s1, s0, p, hp, hq, T0, L0⟩ := hcut
    subst hp; subst hq
    go_upto_region 2 with fail
    go_cut [7, 8] (fun p' q' wx => CutL (Int.gcd (sw a3 a2 a1 a0) (sw b3 b2 b1 b0) : Int) w wx a3 a2 a1 a0 b3 b2 b1 b0 p' q' ∧ LayP (Int.gcd (sw a3 a2 a1 a0) (sw b3 b2 b1 b0) : Int) w wx g s3 s2 s1 s0 p)
    case first =>
      go_region_held3 (fun w' => w'.cell? ⟨w.heap.size, 0, none⟩ = some (.int .u64 a3) ∧ w'.cell? ⟨w.heap.size, 1, none⟩ = some (.int .u64 a2) ∧ w'.cell? ⟨w.heap.size, 2, none⟩ = some (.int .u64 a1) ∧ w'.cell? ⟨w.heap.size, 3, none⟩ = some (.int .u64 a0) ∧ w'.cell? ⟨w.heap.size + 1, 0, none⟩ = some (.int .u64 b3) ∧ w'.cell? ⟨w.heap.size + 1, 1, none⟩ = some (.int .u64 b2) ∧ w'.cell? ⟨w.heap.size + 1, 2, none⟩ = some (.int .u64 b1) ∧ w'.cell? ⟨w.heap.size + 1, 3, none⟩ = some (.int .u64 b0)) (first | (with_reducible exact cells8x T0) | (with_reducible exact cells8x T0.drew) | (with_reducible exact cells8x (T0.alloc _)) | (with_reducible exact cells8x (T0.alloc _).drew) | (with_reducible exact cells8x (T0.set (by omega) _ _ _ _)))
        (first
          | (go_at_call 17; have _t := tok1; refine (toWide_any a3 a2 a1 a0 _).mono ?_; rintro e w1 ⟨rfl, hB⟩; (first | (have T1 : TwoW w w1 a3 a2 a1 a0 b3 b2 b1 b0 := (by with_reducible exact T0.step hB); replace L0 := L0.step hB; try (replace G0 := G0.step hB; have z0c := G0.c0; have z1c := G0.c1; have z2c := G0.c2; have z3c := G0.c3; have z0f := G0.f0; have z1f := G0.f1; have z2f := G0.f2; have z3f := G0.f3)) | (have T1 : TwoW w w1 a3 a2 a1 a0 b3 b2 b1 b0 := (by with_reducible exact T0.drew.step hB); replace L0 := L0.drew.step hB; try (replace G0 := G0.step hB; have z0c := G0.c0; have z1c := G0.c1; have z2c := G0.c2; have z3c := G0.c3; have z0f := G0.f0; have z1f := G0.f1; have z2f := G0.f2; have z3f := G0.f3)) | (have T1 : TwoW w w1 a3 a2 a1 a0 b3 b2 b1 b0 := (by with_reducible exact (T0.alloc _).step hB); have hg := T0.b.lt; have hgL0 := L0.1.lt; replace L0 := (L0.alloc _).step hB; have G0 := (Wd.new _ 0 0 0 0 _ rfl).step hB; have z0c := G0.c0; have z1c := G0.c1; have z2c := G0.c2; have z3c := G0.c3; have z0f := G0.f0; have z1f := G0.f1; have z2f := G0.f2; have z3f := G0.f3) | (have T1 : TwoW w w1 a3 a2 a1 a0 b3 b2 b1 b0 := (by with_reducible exact (T0.alloc _).drew.step hB); have hg := T0.b.lt; have hgL0 := L0.1.lt; replace L0 := (L0.alloc _).drew.step hB; have G0 := (Wd.new _ 0 0 0 0 _ rfl).drew.step hB; have z0c := G0.c0; have z1c := G0.c1; have z2c := G0.c2; have z3c := G0.c3; have z0f := G0.f0; have z1f := G0.f1; have z2f := G0.f2; have z3f := G0.f3)); clear T0; have T0 := T1; clear T1; clear tok1 _t hB)
          | (go_at_call 17; refine (toWide_any b3 b2 b1 b0 _).mono ?_; rintro e w2 ⟨rfl, hB⟩; (first | (have T1 : TwoW w w2 a3 a2 a1 a0 b3 b2 b1 b0 := (by with_reducible exact T0.step hB); replace L0 := L0.step hB; try (replace G0 := G0.step hB; have z0c := G0.c0; have z1c := G0.c1; have z2c := G0.c2; have z3c := G0.c3; have z0f := G0.f0; have z1f := G0.f1; have z2f := G0.f2; have z3f := G0.f3)) | (have T1 : TwoW w w2 a3 a2 a1 a0 b3 b2 b1 b0 := (by with_reducible exact T0.drew.step hB); replace L0 := L0.drew.step hB; try (replace G0 := G0.step hB; have z0c := G0.c0; have z1c := G0.c1; have z2c := G0.c2; have z3c := G0.c3; have z0f := G0.f0; have z1f := G0.f1; have z2f := G0.f2; have z3f := G0.f3)) | (have T1 : TwoW w w2 a3 a2 a1 a0 b3 b2 b1 b0 := (by with_reducible exact (T0.alloc _).step hB); have hg := T0.b.lt; have hgL0 := L0.1.lt; replace L0 := (L0.alloc _).step hB; have G0 := (Wd.new _ 0 0 0 0 _ rfl).step hB; have z0c := G0.c0; have z1c := G0.c1; have z2c := G0.c2; have z3c := G0.c3; have z0f := G0.f0; have z1f := G0.f1; have z2f := G0.f2; have z3f := G0.f3) | (have T1 : TwoW w w2 a3 a2 a1 a0 b3 b2 b1 b0 := (by with_reducible exact (T0.alloc _).drew.step hB); have hg := T0.b.lt; have hgL0 := L0.1.lt; replace L0 := (L0.alloc _).drew.step hB; have G0 := (Wd.new _ 0 0 0 0 _ rfl).drew.step hB; have z0c := G0.c0; have z1c := G0.c1; have z2c := G0.c2; have z3c := G0.c3; have z0f := G0.f0; have z1f := G0.f1; have z2f := G0.f2; have z3f := G0.f3)); clear T0; have T0 := T1; clear T1; clear hB)
          | (go_at_call 21; refine (implGcd_any a3 a2 a1 a0 b3 b2 b1 b0 h3 h2 h1 h0 k3 k2 k1 k0 _).mono ?_; intro e w3 hT; obtain ⟨x3, x2, x1, x0, t, rfl⟩ := tellP_shape hT; have hB := hT.1; (first | (have T1 : TwoW w w3 a3 a2 a1 a0 b3 b2 b1 b0 := (by with_reducible exact T0.step hB); replace L0 := L0.step hB; try (replace G0 := G0.step hB; have z0c := G0.c0; have z1c := G0.c1; have z2c := G0.c2; have z3c := G0.c3; have z0f := G0.f0; have z1f := G0.f1; have z2f := G0.f2; have z3f := G0.f3)) | (have T1 : TwoW w w3 a3 a2 a1 a0 b3 b2 b1 b0 := (by with_reducible exact T0.drew.step hB); replace L0 := L0.drew.step hB; try (replace G0 := G0.step hB; have z0c := G0.c0; have z1c := G0.c1; have z2c := G0.c2; have z3c := G0.c3; have z0f := G0.f0; have z1f := G0.f1; have z2f := G0.f2; have z3f := G0.f3)) | (have T1 : TwoW w w3 a3 a2 a1 a0 b3 b2 b1 b0 := (by with_reducible exact (T0.alloc _).step hB); have hg := T0.b.lt; have hgL0 := L0.1.lt; replace L0 := (L0.alloc _).step hB; have G0 := (Wd.new _ 0 0 0 0 _ rfl).step hB; have z0c := G0.c0; have z1c := G0.c1; have z2c := G0.c2; have z3c := G0.c3; have z0f := G0.f0; have z1f := G0.f1; have z2f := G0.f2; have z3f := G0.f3) | (have T1 : TwoW w w3 a3 a2 a1 a0 b3 b2 b1 b0 := (by with_reducible exact (T0.alloc _).drew.step hB); have hg := T0.b.lt; have hgL0 := L0.1.lt; replace L0 := (L0.alloc _).drew.step hB; have G0 := (Wd.new _ 0 0 0 0 _ rfl).drew.step hB; have z0c := G0.c0; have z1c := G0.c1; have z2c := G0.c2; have z3c := G0.c3; have z0f := G0.f0; have z1f := G0.f1; have z2f := G0.f2; have z3f := G0.f3)); clear T0; have T0 := T1; clear T1; clear hB))
      all_goals go_wp2_with fail
      all_goals go_meet
      all_goals first | (with_reducible exact ⟨cutL_new T0 hT, L0.alloc _⟩) | (with_reducible exact ⟨cutL_set T0 G0 (by omega) hT, L0.set (by omega) _ _ _ _⟩) | exact ⟨cutL_drew (cutL_new T0 hT), (L0.alloc _).drew⟩ | exact ⟨cutL_drew (cutL_set T0 G0 (by omega) hT), (L0.set (by omega) _ _ _ _).drew⟩
    case rest =>
      clear T0 L0 tok1
      obtain ⟨⟨g', t3, t2, t1, t0, p', hp, hq, T0, L1⟩, L0⟩ := hcut
      subst hp; subst hq
      obtain ⟨G0, _, _, _, hT⟩ := L0
      obtain ⟨G1, _, _, _, hT'⟩ := L1
      obtain ⟨rfl, rfl, rfl, rfl, rfl⟩ := tellP_same hT hT'
      have HB : Hid (Below w.heap.size w _) := T0.below
      have c0 := G0.c0; have c1 := G0.c1; have c2 := G0.c2; have c3 := G0.c3; have d0 := G1.c0; have d1 := G1.c1; have d2 := G1.c2; have d3 := G1.c3
      have hpp : (p == p) = true := by simp
      clear hT hT' T0 G0 G1
      go_wp2_with fail
      refine (eqWide_same _ _ _ _ _).mono ?_
      rintro e w5 ⟨rfl, hB⟩
      have HB2 : Hid (Below w.heap.size w w5) := HB.out.trans (hB.mono HB.out.size)
      clear hB
      go_wp2
      go_ret
      exact ⟨rfl, HB2.out⟩
end Go.Proofs.Ytpfpmapmimnjgaa

/- How a value of four words reads as data: opened and shut. -/
namespace Go.Proofs.Ytpfpmapmimnjgaa
open Go.ChangeShapes Go.WideShapes Go.ChangeAt Go.RowKit Go.Joins
theorem Try.own : ownKnob Try.prog.godebug = none := by kernel_rfl
theorem Try.cells28 : Try.prog.cellsOf 24 = 4 := by kernel_rfl
theorem word_of_wf {x : Int} (h : (Lit.int .u64 x).wf = true) : Word x := by
  simp [Lit.wf, IntKind.min, IntKind.max, IntKind.signed, IntKind.bits] at h
  exact ⟨by omega, by omega⟩
theorem int_of_wf {x : Int} (h : (Lit.int .i64 x).wf = true) : -9223372036854775808 ≤ x ∧ x ≤ 9223372036854775807 := by
  simp [Lit.wf, IntKind.min, IntKind.max, IntKind.signed, IntKind.bits] at h
  exact ⟨by omega, by omega⟩
set_option maxRecDepth 100000 in
/-- A value of four words, opened. -/
theorem open_wide {H : Type} {enc : TypeId × Value → H} {w : World} {b0 : Nat} {v : Value} {d : DataW H} {p : List MemPlace} (hv : Value.okWide Try.prog w .any b0 24 v) (h : DataW.Trod enc Try.prog w 0 (fun _ => true) true 24 v d p) :
    ∃ a3 a2 a1 a0 : Int, v = .agg #[.int .u64 a3, .int .u64 a2, .int .u64 a1, .int .u64 a0] ∧ d = .agg [.lit (.int .u64 a3), .lit (.int .u64 a2), .lit (.int .u64 a1), .lit (.int .u64 a0)] ∧ p = [] ∧ (Lit.int .u64 a3).wf = true ∧ (Lit.int .u64 a2).wf = true ∧ (Lit.int .u64 a1).wf = true ∧ (Lit.int .u64 a0).wf = true := by
  obtain ⟨c0, c1, c2, c3, y0, y1, y2, y3, m, rfl, rfl, rfl, hy0, hy1, hy2, hy3⟩ := open_agg4 Try.underlying24 (by kernel_rfl) Try.cells28 hv h
  obtain ⟨a, e0, rfl, wa⟩ := DataW.trod_int Try.underlying22 hy0
  obtain ⟨b, e1, rfl, wb⟩ := DataW.trod_int Try.underlying22 hy1
  obtain ⟨c, e2, rfl, wc⟩ := DataW.trod_int Try.underlying22 hy2
  obtain ⟨e, e3, rfl, we⟩ := DataW.trod_int Try.underlying22 hy3
  simp at e0 e1 e2 e3
  subst e0 e1 e2 e3
  exact ⟨a, b, c, e, rfl, rfl, rfl, wa, wb, wc, we⟩
theorem shut_wide {H : Type} {enc : TypeId × Value → H} {w : World} {base : Nat} {spare : TypeId → Bool} {held : Bool} {a3 a2 a1 a0 : Int} (w3 : (Lit.int .u64 a3).wf = true) (w2 : (Lit.int .u64 a2).wf = true) (w1 : (Lit.int .u64 a1).wf = true) (w0 : (Lit.int .u64 a0).wf = true) :
    DataW.Trod enc Try.prog w base spare held 24 (.agg #[.int .u64 a3, .int .u64 a2, .int .u64 a1, .int .u64 a0]) (.agg [.lit (.int .u64 a3), .lit (.int .u64 a2), .lit (.int .u64 a1), .lit (.int .u64 a0)]) [] :=
  shut_agg4 (y0 := (.lit (.int .u64 a3), [])) (y1 := (.lit (.int .u64 a2), [])) (y2 := (.lit (.int .u64 a1), [])) (y3 := (.lit (.int .u64 a0), [])) Try.underlying24 (by kernel_rfl) Try.cells28
    ⟨1, by simp [DataW.trod, Try.underlying22, w3]⟩ ⟨1, by simp [DataW.trod, Try.underlying22, w2]⟩ ⟨1, by simp [DataW.trod, Try.underlying22, w1]⟩ ⟨1, by simp [DataW.trod, Try.underlying22, w0]⟩
end Go.Proofs.Ytpfpmapmimnjgaa
