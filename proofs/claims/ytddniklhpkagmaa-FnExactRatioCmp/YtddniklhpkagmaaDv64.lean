/- The walk of the quotient of two words by one. -/
import Derived.Test.YtddniklhpkagmaaDvH
import Derived.Test.YtddniklhpkagmaaBase3
import Derived.Deep.CutBlock
import Derived.Deep.QuietTactic
import Derived.BigQuiet
import Derived.Deep.DeepCutAuto
namespace Go.Proofs.Ytddniklhpkagmaa
open Go.RowKit
/-- How many of a word's 64 bits stand above its highest one that is set. -/
def LeadP (x : Int) (w : World) (e : Ending) (w' : World) : Prop := ∃ s : Nat, e = .returned (.int .i64 s) ∧ s ≤ 64 ∧ BitsOf x (64 - s) ∧ Below w.heap.size w w'
set_option maxRecDepth 100000 in
set_option maxHeartbeats 400000 in
theorem lead_any (x : Int) (h : Word x) (w : World) : Calls Try.prog 101 #[.int .u64 x] w (LeadP x w) := by
  go_enter Try.func101, Try.ntmps101
  go_wp2_with fail
  refine (len64_any x h _).mono ?_
  rintro e w1 ⟨b, rfl, hb, hB⟩
  have hb64 : b ≤ 64 := (bits_le hb 64).2 (by have := h.2; rw [show (2 : Int) ^ 64 = 18446744073709551616 by decide]; exact this)
  have HB : Hid (BitsOf x b) := hb
  clear hb
  go_wp2
  go_ret
  exact ⟨64 - b, by simp; omega, by omega, by rw [show 64 - (64 - b) = b by omega]; exact HB.out, hB⟩
def QuoP (hi lo y : Int) (w : World) (e : Ending) (w' : World) : Prop := e = .returned (.tuple #[.int .u64 ((hi * 18446744073709551616 + lo) / y), .int .u64 ((hi * 18446744073709551616 + lo) % y)]) ∧ Below w.heap.size w w'
set_option maxRecDepth 100000 in
set_option maxHeartbeats 1000000 in
theorem div64_any (hi lo y : Int) (h1 : Word hi) (h2 : Word lo) (h3 : Word y) (hy : hi < y) (w : World) : Calls Try.prog 108 #[.int .u64 hi, .int .u64 lo, .int .u64 y] w (QuoP hi lo y w) := by
  have hy0 : 0 < y := by have := h1.1; omega
  by_cases h0 : hi = 0
  · subst h0
    have d1 : lo.tdiv y = lo / y := Int.tdiv_eq_ediv_of_nonneg h2.1
    have d2 : lo.tmod y = lo % y := Int.tmod_eq_emod_of_nonneg h2.1
    have d3 := wrap_word (Int.ediv_nonneg h2.1 (Int.le_of_lt hy0)) (Int.lt_of_le_of_lt (Int.ediv_le_self y h2.1) h2.2)
    have d4 := wrap_word (Int.emod_nonneg lo (b := y) (by omega)) (Int.lt_trans (Int.emod_lt_of_pos lo hy0) h3.2)
    obtain ⟨l0, l1⟩ := h2
    obtain ⟨m0, m1⟩ := h3
    clear h1
    go_enter Try.func108, Try.ntmps108
    go_wp2
    go_quiet (fail)
    go_wp2
    go_ret2
    exact ⟨by simp, bdrew (Below.refl _ _) _⟩
  · obtain ⟨a0, a1⟩ := h1
    obtain ⟨b0, b1⟩ := h2
    obtain ⟨c0, c1⟩ := h3
    go_enter Try.func108, Try.ntmps108
    go_wp2_with fail
    refine (lead_any y ⟨c0, c1⟩ _).mono ?_
    rintro e w1 ⟨s, rfl, hs, hb, hB⟩
    obtain ⟨hs64, v63, v64, A0, A1, AE, t1, t0⟩ := dv_up ⟨a0, a1⟩ ⟨b0, b1⟩ ⟨c0, c1⟩ hy hs hb
    have hv := wrap_word (show 0 ≤ y * 2 ^ s by omega) v64
    have hA : bits .or .u64 (IntKind.u64.wrap (hi * 2 ^ s)) (lo / 2 ^ (64 - s)) = hi * 2 ^ s + lo / 2 ^ (64 - s) := by
      have p1 := pow_le64 hs64
      have w1 : 0 ≤ hi * 2 ^ s ∧ hi * 2 ^ s < 18446744073709551616 := by
        have := Int.mul_nonneg a0 (Int.le_of_lt (Int.pow_pos (n := 2) (m := s) (by decide)))
        omega
      rw [bits_or_comm (by rw [IntKind.wrap_u64]; exact ⟨by omega, by omega⟩) ⟨t0, by omega⟩, or_shl64 _ _ _ hs t0 t1]
      omega
    have hL : IntKind.u64.wrap (lo * 2 ^ s) = (lo * 2 ^ s) % 18446744073709551616 := IntKind.wrap_u64 _
    obtain ⟨v, ev⟩ : ∃ v, y * 2 ^ s = v := ⟨_, rfl⟩
    obtain ⟨a, ea⟩ : ∃ a, hi * 2 ^ s + lo / 2 ^ (64 - s) = a := ⟨_, rfl⟩
    obtain ⟨L, eL⟩ : ∃ L, (lo * 2 ^ s) % 18446744073709551616 = L := ⟨_, rfl⟩
    have L0 : 0 ≤ L := by omega
    have L1 : L < 18446744073709551616 := by omega
    rw [ea] at hA A0 A1 AE
    rw [ev] at v63 v64 A1
    replace hv := hv.trans ev
    rw [eL] at hL AE
    have hv0 := and_low v ⟨by omega, v64⟩
    have hc0 := and_low L ⟨L0, L1⟩
    obtain ⟨v1, ev1⟩ : ∃ x, v / 4294967296 = x := ⟨_, rfl⟩
    obtain ⟨v0, ev0⟩ : ∃ x, v % 4294967296 = x := ⟨_, rfl⟩
    obtain ⟨b, ebb⟩ : ∃ x, L / 4294967296 = x := ⟨_, rfl⟩
    obtain ⟨c, ec⟩ : ∃ x, L % 4294967296 = x := ⟨_, rfl⟩
    rw [ev0] at hv0
    rw [ec] at hc0
    have VV : v = v1 * 4294967296 + v0 := by omega
    have LL : L = b * 4294967296 + c := by omega
    have G : DvG v1 v0 a b := ⟨by omega, by omega, by omega, by omega, A0, by omega, by omega, by omega⟩
    have hcc : 0 ≤ c ∧ c < 4294967296 := by omega
    have AE' : Hid (a * 18446744073709551616 + (b * 4294967296 + c) = (hi * 18446744073709551616 + lo) * 2 ^ s) := by show _ = _; rw [← LL]; exact AE
    have VE : Hid (y * 2 ^ s = v1 * 4294967296 + v0) := by show _ = _; rw [← VV]; exact ev
    obtain ⟨D, q00, q01, r01⟩ := dw_start G
    obtain ⟨F1, F2⟩ := dv_first G
    have R0 := D.r0
    generalize a - a / v1 * v1 = r at *
    generalize a / v1 = q at *
    have hv10 : v1 ≠ 0 := by have := G.h1; omega
    clear AE eL ea ev hb
    obtain ⟨g1, g2, g3, g4, g5, g6, g7, g8⟩ := id G
    have HVV : Hid (v = v1 * 4294967296 + v0) := VV
    clear VV LL
    go_upto_block 0 with fail
    go_cut [15, 16] (fun p _ wx => wx = w1 ∧ p = .int .u64 ((a * 4294967296 + b) / (v1 * 4294967296 + v0)))
    case first =>
      go_wp2_with fail
      go_loop [15, 16] (fun p z => ∃ q r : Int, p = .int .u64 q ∧ z = .int .u64 r ∧ DwI v1 v0 a b q r ∧ 0 ≤ q ∧ q ≤ 4294967297 ∧ 0 ≤ r ∧ r < 4294967296) (fun p _ => (intOf p).toNat)
      case atStart => exact ⟨q, r, rfl, rfl, D, q00, q01, R0, by omega⟩
      case round =>
        clear D F1 F2 q00 q01 R0 r01
        obtain ⟨q, r, rfl, rfl, D, q0, q1, r0, r1⟩ := hrel
        by_cases c1 : 4294967296 ≤ q
        · obtain ⟨D', hq1⟩ := dv_down G D (Or.inl c1)
          clear D
          have Q1 := wrap_word (show 0 ≤ q - 1 by omega) (show q - 1 < 18446744073709551616 by omega)
          have Q2 := wrap_word (show 0 ≤ r + v1 by omega) (show r + v1 < 18446744073709551616 by omega)
          go_wp2
          · have hge : 4294967296 ≤ r + v1 := by omega
            have E := dw_end G D' (Or.inl ⟨by omega, hge⟩)
            go_meet
            case rel => exact ⟨rfl, by rw [E]⟩
          · go_round
            case rel => exact ⟨q - 1, r + v1, rfl, rfl, D', by omega, by omega, by omega, by omega⟩
            case measure => simp [intOf]; omega
        · obtain ⟨T1, T2⟩ := dv_test ⟨g3, g4⟩ ⟨q0, by omega⟩ ⟨r0, r1⟩ ⟨g7, g8⟩
          by_cases c2 : 4294967296 * r + b < q * v0
          · obtain ⟨D', hq1⟩ := dv_down G D (Or.inr c2)
            clear D
            have Q1 := wrap_word (show 0 ≤ q - 1 by omega) (show q - 1 < 18446744073709551616 by omega)
            have Q2 := wrap_word (show 0 ≤ r + v1 by omega) (show r + v1 < 18446744073709551616 by omega)
            go_wp2
            · have hge : 4294967296 ≤ r + v1 := by omega
              have E := dw_end G D' (Or.inl ⟨by omega, hge⟩)
              go_meet
              case rel => exact ⟨rfl, by rw [E]⟩
            · go_round
              case rel => exact ⟨q - 1, r + v1, rfl, rfl, D', by omega, by omega, by omega, by omega⟩
              case measure => simp [intOf]; omega
          · have E : Hid (q = (a * 4294967296 + b) / (v1 * 4294967296 + v0)) := dw_end G D (Or.inr (by omega))
            clear D
            go_wp2
            go_meet
            case rel => exact ⟨rfl, by rw [E.out]⟩
    case rest =>
      obtain ⟨rfl, rfl⟩ := hcut
      obtain ⟨RB0, RB1⟩ := dv_rest G
      obtain ⟨Q0, Q1, _, _⟩ := dv_q G
      have HV := HVV.out
      rw [← HV] at RB0 RB1 Q0 Q1 ⊢
      have HQ : Hid ((a * 4294967296 + b) / v = (a * 4294967296 + b) / v) := rfl
      obtain ⟨Q, eQ⟩ : ∃ Q, (a * 4294967296 + b) / v = Q := ⟨_, rfl⟩
      have HR := dv_left (v := v) (q := Q) (a := a) (b := b) (by rw [← eQ]; exact RB0) (by rw [← eQ]; omega)
      rw [eQ] at RB0 RB1 Q0 Q1 ⊢
      obtain ⟨R, eR⟩ : ∃ R, a * 4294967296 + b - Q * v = R := ⟨_, rfl⟩
      rw [eR] at HR RB0 RB1
      have HQE : Hid ((a * 4294967296 + b) / v = Q) := eQ
      have HRE : Hid (a * 4294967296 + b - Q * v = R) := eR
      clear eQ eR D F1 F2 q00 q01 R0 r01 HV HQ
      have G2 : DvG v1 v0 R c := ⟨g1, g2, g3, g4, RB0, by rw [← HVV.out]; exact RB1, hcc.1, hcc.2⟩
      obtain ⟨D, q00, q01, r01⟩ := dw_start G2
      obtain ⟨F1, F2⟩ := dv_first G2
      have R0 := D.r0
      generalize R - R / v1 * v1 = r at *
      generalize R / v1 = q at *
      go_upto_block 2 with fail
      go_cut [18, 16] (fun p _ wx => wx = wc ∧ p = .int .u64 ((R * 4294967296 + c) / (v1 * 4294967296 + v0)))
      case first =>
        go_wp2_with fail
        go_loop [18, 16] (fun p z => ∃ q r : Int, p = .int .u64 q ∧ z = .int .u64 r ∧ DwI v1 v0 R c q r ∧ 0 ≤ q ∧ q ≤ 4294967297 ∧ 0 ≤ r ∧ r < 4294967296) (fun p _ => (intOf p).toNat)
        case atStart => exact ⟨q, r, rfl, rfl, D, q00, q01, R0, by omega⟩
        case round =>
          clear D F1 F2 q00 q01 R0 r01
          obtain ⟨q, r, rfl, rfl, D, q0, q1, r0, r1⟩ := hrel
          by_cases c1 : 4294967296 ≤ q
          · obtain ⟨D', hq1⟩ := dv_down G2 D (Or.inl c1)
            clear D
            have Q1 := wrap_word (show 0 ≤ q - 1 by omega) (show q - 1 < 18446744073709551616 by omega)
            have Q2 := wrap_word (show 0 ≤ r + v1 by omega) (show r + v1 < 18446744073709551616 by omega)
            go_wp2
            · have hge : 4294967296 ≤ r + v1 := by omega
              have E := dw_end G2 D' (Or.inl ⟨by omega, hge⟩)
              go_meet
              case rel => exact ⟨rfl, by rw [E]⟩
            · go_round
              case rel => exact ⟨q - 1, r + v1, rfl, rfl, D', by omega, by omega, by omega, by omega⟩
              case measure => simp [intOf]; omega
          · obtain ⟨T1, T2⟩ := dv_test ⟨g3, g4⟩ ⟨q0, by omega⟩ ⟨r0, r1⟩ hcc
            by_cases c2 : 4294967296 * r + c < q * v0
            · obtain ⟨D', hq1⟩ := dv_down G2 D (Or.inr c2)
              clear D
              have Q1 := wrap_word (show 0 ≤ q - 1 by omega) (show q - 1 < 18446744073709551616 by omega)
              have Q2 := wrap_word (show 0 ≤ r + v1 by omega) (show r + v1 < 18446744073709551616 by omega)
              go_wp2
              · have hge : 4294967296 ≤ r + v1 := by omega
                have E := dw_end G2 D' (Or.inl ⟨by omega, hge⟩)
                go_meet
                case rel => exact ⟨rfl, by rw [E]⟩
              · go_round
                case rel => exact ⟨q - 1, r + v1, rfl, rfl, D', by omega, by omega, by omega, by omega⟩
                case measure => simp [intOf]; omega
            · have E : Hid (q = (R * 4294967296 + c) / (v1 * 4294967296 + v0)) := dw_end G2 D (Or.inr (by omega))
              clear D
              go_wp2
              go_meet
              case rel => exact ⟨rfl, by rw [E.out]⟩
      case rest =>
        obtain ⟨rfl, rfl⟩ := hcut
        obtain ⟨RC0, RC1⟩ := dv_rest G2
        obtain ⟨P0, P1, _, _⟩ := dv_q G2
        have HV := HVV.out
        rw [← HV] at RC0 RC1 P0 P1 ⊢
        obtain ⟨P, eP⟩ : ∃ P, (R * 4294967296 + c) / v = P := ⟨_, rfl⟩
        have HS := dv_left (v := v) (q := P) (a := R) (b := c) (by rw [← eP]; exact RC0) (by rw [← eP]; omega)
        rw [eP] at RC0 RC1 P0 P1 ⊢
        obtain ⟨S, eS⟩ : ∃ S, R * 4294967296 + c - P * v = S := ⟨_, rfl⟩
        rw [eS] at HS RC0 RC1
        have HT : IntKind.u64.wrap (IntKind.u64.wrap (Q * 4294967296) + P) = Q * 4294967296 + P := by
          simp only [IntKind.wrap_u64]
          omega
        obtain ⟨E1, E2⟩ := dv_two (v := v) (a := a) (b := b) (c := c) (q1 := Q) (r1 := R) (q0 := P) (r0 := S) (by omega) HRE.out.symm eP.symm eS.symm
        rw [AE'.out, HVV.out, ← VE.out] at E1 E2
        obtain ⟨E3, E4⟩ := dv_down_s E1 E2
        have HE3 : Hid (Q * 4294967296 + P = (hi * 18446744073709551616 + lo) / y) := E3
        have HE4 : Hid (S / 2 ^ s = (hi * 18446744073709551616 + lo) % y) := E4
        clear eP eS D F1 F2 q00 q01 R0 r01 HV E1 E2 E3 E4
        go_wp2
        go_ret2
        exact ⟨by simp [HE3.out, HE4.out], hB⟩
end Go.Proofs.Ytddniklhpkagmaa
