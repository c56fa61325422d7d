/- The walks of the number's bits, of a number made from an integer, of its sign and of its negation. -/
import Derived.Test.YtinilehbhdpdkaaLeft
import Derived.Test.YtinilehbhdpdkaaCmpAbs
namespace Go.Proofs.Ytinilehbhdpdkaa
open Go.RowKit
def BitsP (v : Int) (w : World) (e : Ending) (w' : World) : Prop := ∃ b : Nat, e = .returned (.int .i64 b) ∧ BitsOf v b ∧ Below w.heap.size w w'
set_option maxHeartbeats 400000 in
theorem bits_any (ao : Option Addr) (n cap : Nat) (ds : List Int) (w : World) (hn : ds.length = n) (hd : Nrm ds) (hr : Rd w ao ds) (hm : n ≤ 1000000) :
    Calls Try.prog 42 #[.slice ao n cap] w (BitsP (val ds) w) := by
  by_cases h0 : n = 0
  · subst h0
    have : ds = [] := List.eq_nil_of_length_eq_zero hn
    subst this
    clear hn hd hr
    go_enter Try.func42, Try.ntmps42
    go_wp2
    go_ret
    exact ⟨0, rfl, ⟨by decide, by decide, Or.inl rfl⟩, Below.refl _ _⟩
  · obtain ⟨m, rfl⟩ : ∃ m, n = m + 1 := ⟨n - 1, by omega⟩
    have hml : m < ds.length := by omega
    obtain ⟨b, off, rfl, hbl, hcell⟩ := hr m hml
    obtain ⟨l, t, hds, ht⟩ : ∃ l t, ds = l ++ [t] ∧ t ≠ 0 := by
      rcases hd.2 with h | h
      · rw [h] at hn; simp at hn
      · exact h
    have hll : l.length = m := by rw [hds] at hn; simpa using hn
    have hlast : ds[m] = t := by subst hds; simp [← hll]
    rw [hlast] at hcell
    have htd : 0 ≤ t ∧ t < 4294967296 := by have := dig_at hd.1 m hml; rw [hlast] at this; exact this
    obtain ⟨ht0, ht1⟩ := htd
    have H : Hid (∀ j, BitsOf t j → BitsOf (val ds) (32 * m + j)) := fun j hj => by
      have := bits_top ds hd.1 t l hds j hj ht
      rwa [hll] at this
    clear hd hr hn hlast hds hll hml
    go_enter Try.func42, Try.ntmps42
    go_wp2
    go_loop [3, 4] (fun nn x => ∃ (j : Nat) (xv : Int), j ≤ 32 ∧ nn = .int .i64 ((m : Int) * 32 + j) ∧ x = .int .u32 xv ∧ 0 ≤ xv ∧ xv < 4294967296 ∧ xv = t / 2 ^ j ∧ (j = 0 ∨ (2 : Int) ^ (j - 1) ≤ t)) (fun _ x => (intOf x).toNat)
    case atStart => exact ⟨0, t, by omega, by simp, rfl, ht0, ht1, by simp, Or.inl rfl⟩
    case round =>
      obtain ⟨j, xv, hj, rfl, rfl, hx0, hx1, hxe, hjj⟩ := hrel
      have HX : Hid (xv = t / 2 ^ j) := hxe
      have HJ : Hid (j = 0 ∨ (2 : Int) ^ (j - 1) ≤ t) := hjj
      clear hxe hjj
      by_cases hp : 0 < xv
      · go_wp2
        go_round
        case rel =>
          obtain ⟨g1, g2⟩ := bits_half_step HX.out hp
          have g3 : j < 32 := by
            apply Nat.lt_of_not_le
            intro h
            have := ipow2_mono h
            rcases g2 with g2 | g2
            · omega
            · simp only [Nat.add_sub_cancel] at g2; omega
          exact ⟨j + 1, xv / 2, by omega, by go_num, rfl, by omega, by omega, g1, g2⟩
        case measure => simp [intOf]; omega
      · go_wp2
        go_ret
        exact ⟨32 * m + j, ret_int (by omega), H.out j (bits_half ht0 HX.out HJ.out (by omega)), Below.refl _ _⟩
set_option maxRecDepth 100000 in
set_option maxHeartbeats 400000 in
theorem int_any (n : Int) (w : World) (h0 : -9223372036854775808 ≤ n) (h1 : n ≤ 9223372036854775807) :
    Calls Try.prog 37 #[.int .i64 n] w (NumP 2 n w) := by
  by_cases hn : n < 0
  · obtain ⟨u, hu⟩ : ∃ u, u = -n := ⟨_, rfl⟩
    have hw : IntKind.u64.wrap (-IntKind.u64.wrap n) = u := by rw [IntKind.wrap_u64, IntKind.wrap_u64]; omega
    have HU : Hid (u = -n) := hu
    have hu0 : 0 < u := by omega
    have hu1 : u ≤ 9223372036854775808 := by omega
    clear hu
    go_enter Try.func37, Try.ntmps37
    go_wp2_with fail
    refine (trim_any true _ 2 2 [u % 4294967296, u / 4294967296] _ rfl (Nat.le_refl _) (dig_cons.2 ⟨by omega, dig_cons.2 ⟨by omega, dig_nil⟩⟩) (Rd.lit _ (by simp) rfl (by simp [maxLen])) (by omega)).mono ?_
    rintro e w3 ⟨neg', ao', n', cap', ds', rfl, k1, k2, k3, k4, k5, k6, k7, k8⟩
    obtain ⟨c0, c1, f0, f1, hz, hB⟩ := res2 (((Below.refl (w.heap.size + 1) _).alloc (by simp) _).trans (k8.mono (by simp)))
    have HN := num_of (z := n) k1 k2 k3 k4 k5 k6 k7 (by have := HU.out; simp [val]; omega) (by intro _; simp [hn])
    have HB : Hid (Below w.heap.size w w3) := hB
    clear k1 k2 k3 k4 k5 k6 k7 k8 hB
    go_wp2
    refine bodyPost_ret (v := .agg #[.bool neg', .slice ao' n' cap']) (by simp [results, Try.results37, go_sem, c0, c1]) rfl ?_
    exact num_ret (Nat.le_refl _) c0 c1 HN HB.out
  · go_enter Try.func37, Try.ntmps37
    go_wp2_with fail
    refine (trim_any false _ 2 2 [n % 4294967296, n / 4294967296] _ rfl (Nat.le_refl _) (dig_cons.2 ⟨by omega, dig_cons.2 ⟨by omega, dig_nil⟩⟩) (Rd.lit _ (by simp) rfl (by simp [maxLen])) (by omega)).mono ?_
    rintro e w3 ⟨neg', ao', n', cap', ds', rfl, k1, k2, k3, k4, k5, k6, k7, k8⟩
    obtain ⟨c0, c1, f0, f1, hz, hB⟩ := res2 (((Below.refl (w.heap.size + 1) _).alloc (by simp) _).trans (k8.mono (by simp)))
    have HN := num_of (z := n) k1 k2 k3 k4 k5 k6 k7 (by simp [val]; omega) (by intro _; simp [hn])
    have HB : Hid (Below w.heap.size w w3) := hB
    clear k1 k2 k3 k4 k5 k6 k7 k8 hB
    go_wp2
    refine bodyPost_ret (v := .agg #[.bool neg', .slice ao' n' cap']) (by simp [results, Try.results37, go_sem, c0, c1]) rfl ?_
    exact num_ret (Nat.le_refl _) c0 c1 HN HB.out
set_option maxHeartbeats 400000 in
theorem sign_any (s : Bool) (ao : Option Addr) (n cap : Nat) (ds : List Int) (z : Int) (k : Nat) (w : World) (h : IsNum w s ao n cap ds z k) :
    Calls Try.prog 50 #[.agg #[.bool s, .slice ao n cap]] w (IntP (cmpI z 0) w) := by
  have h1 := h.zero
  have h2 := h.neg
  by_cases hz : z = 0
  · have hn := h1.2 hz
    subst hn
    clear h1 h2 h
    go_enter Try.func50, Try.ntmps50
    go_wp2
    go_ret
    exact ⟨ret_int (cmpI_eq hz), (Below.refl _ _).alloc (Nat.le_refl _) _⟩
  · have hn : ((n : Int) == 0) = false := beq_eq_false_iff_ne.2 (by have := fun h => hz (h1.1 h); omega)
    clear h1 h
    by_cases hs : z < 0
    · have : s = true := by rw [h2]; simpa using hs
      subst this
      clear h2
      go_enter Try.func50, Try.ntmps50
      go_wp2
      go_ret
      exact ⟨ret_int (cmpI_lt hs), (Below.refl _ _).alloc (Nat.le_refl _) _⟩
    · have : s = false := by rw [h2]; simpa using hs
      subst this
      clear h2
      go_enter Try.func50, Try.ntmps50
      go_wp2
      go_ret
      exact ⟨ret_int (cmpI_gt (by omega)), (Below.refl _ _).alloc (Nat.le_refl _) _⟩
end Go.Proofs.Ytinilehbhdpdkaa
