/- Part 11 of the walks that the proof leans on. -/
import Derived.Test.YtmjlgmoohpnhfaaPart9
import Derived.Test.YtmjlgmoohpnhfaaPart10
import Derived.Laws.AppendOwn
import Derived.Test.YtmjlgmoohpnhfaaPart6
import Derived.Test.YtmjlgmoohpnhfaaPart3
import Derived.SizedLaws
import Derived.Deep.Slices
import Derived.Test.YtmjlgmoohpnhfaaRows
import Derived.ProofKit
import Derived.Lib.SmallJoins
/- What is at fault in a ring: the model's walk. -/
namespace Go.Proofs.Ytmjlgmoohpnhfaa
open Go.RowKit
set_option maxRecDepth 100000 in
set_option maxHeartbeats 200000000 in
theorem specRingFault_any (ao : Option Addr) (n cap : Nat) (p : Ps) (hn : n ≤ 1048576) (w : World) (hS : SpIn w ao n p) : Calls Try.prog 78 #[.agg #[.slice ao n cap]] w (VP (.int .i64 (rgF n p)) w) := by
  have B0 := Blk.new w [.slice ao n cap] 28 rfl
  have HB0 : Below w.heap.size w (w.alloc (.cells #[.slice ao n cap] 28)) := (Below.refl _ w).alloc (Nat.le_refl _) _
  have HS0 := hS.step HB0
  have b0 := B0.c 0 rfl
  have hnI : (n : Int) ≤ 1048576 := by omega
  clear hS
  go_enter Try.func78, Try.ntmps78
  go_upto_region 1 with fail
  generalize (w.alloc (.cells #[.slice ao n cap] 28)) = W1 at *
  by_cases h1 : n < 3
  · have HO : Hid (rgF n p = 1) := by show _ = _; unfold rgF; rw [if_pos h1]
    have h1I : (n : Int) < 3 := by omega
    clear HS0 B0
    go_wp2
    go_ret
    exact ⟨by rw [HO.out]; rfl, HB0⟩
  by_cases h2 : 12 < n
  · have HO : Hid (rgF n p = 2) := by show _ = _; unfold rgF; rw [if_neg h1, if_pos h2]
    have h1I : (3 : Int) ≤ n := by omega
    have h2I : (12 : Int) < n := by omega
    clear HS0 B0
    go_wp2
    go_ret
    exact ⟨by rw [HO.out]; rfl, HB0⟩
  have h1I : (3 : Int) ≤ n := by omega
  have h2I : (n : Int) ≤ 12 := by omega
  have HS : Hid (SpIn W1 ao n p) := HS0
  clear HS0
  go_wp2_with fail
  clear b0
  go_loopw [4] (fun i wr => ∃ c : Nat, c ≤ n ∧ i = .int .i64 c ∧ (∀ j, j < c → spotOk (p j).1 (p j).2 = true) ∧ Below W1.heap.size W1 wr) (fun i _ => n - (intOf i).toNat)
  case atStart => exact ⟨0, by omega, rfl, fun j hj => by omega, Below.refl _ _⟩
  case round =>
    obtain ⟨c, hc, rfl, hall, HB⟩ := hrel
    have HA : Hid (∀ j, j < c → spotOk (p j).1 (p j).2 = true) := hall
    clear hall
    by_cases hcn : c < n
    · obtain ⟨A, off, rfl, hA, q0, q1⟩ := HS.out.step HB c hcn
      have hcI : (c : Int) < n := by omega
      have b0 := (B0.step HB).c 0 rfl
      go_wp2_with fail
      refine (specSpotOk_any (p c).1 (p c).2 _ rfl _).mono ?_
      rintro e w1 ⟨rfl, hB⟩
      replace HB := HB.trans (hB.mono HB.size)
      clear hB q0 q1 hA b0
      by_cases hk : spotOk (p c).1 (p c).2 = true
      · rw [hk]
        have HK : Hid (spotOk (p c).1 (p c).2 = true) := hk
        clear hk
        go_wp2
        go_roundw
        case rel => exact ⟨c + 1, by omega, by go_num, fun j hj => by
          rcases Nat.lt_or_ge j c with h | h
          · exact HA.out j h
          · obtain rfl : j = c := by omega
            exact HK.out, HB⟩
        case measure => simp [intOf]; omega
      · have HO : Hid (rgF n p = 3) := by show _ = _; unfold rgF; rw [if_neg h1, if_neg h2, if_pos (fun h => hk (h c hcn))]
        rw [Bool.eq_false_iff.2 hk]
        have HBF := HB0.trans (HB.mono HB0.size)
        clear hk
        go_wp2
        go_ret
        exact ⟨by rw [HO.out]; rfl, HBF⟩
    · obtain rfl : n = c := by omega
      have HB1 := HB0.trans (HB.mono HB0.size)
      have HS1 : Hid (SpIn wr ao n p) := HS.out.step HB
      have B1 := B0.step HB
      clear HS B0 HB
      go_wp2_with fail
      generalize wr = W2 at *
      go_loopw [5] (fun i wr => ∃ c : Nat, c ≤ n ∧ i = .int .i64 c ∧ (∀ j, j < c → ∀ k, k < j → p j ≠ p k) ∧ Below W2.heap.size W2 wr) (fun i _ => n - (intOf i).toNat)
      case atStart => exact ⟨0, by omega, rfl, fun j hj => by omega, Below.refl _ _⟩
      case round =>
        rename_i hrel
        obtain ⟨c, hc, rfl, hall, HB⟩ := hrel
        have HC : Hid (∀ j, j < c → ∀ k, k < j → p j ≠ p k) := hall
        clear hall
        by_cases hcn : c < n
        · have hcI : (c : Int) < n := by omega
          have HSo : Hid (SpIn wr ao n p) := HS1.out.step HB
          have HB4 := HB1.trans (HB.mono HB1.size)
          have B3 := B1.step HB
          have HBo := HB
          clear HB
          go_wp2_with fail
          generalize wr = W4 at *
          go_loopw [6] (fun i wr => ∃ d : Nat, d ≤ c ∧ i = .int .i64 d ∧ (∀ k, k < d → p c ≠ p k) ∧ Below W4.heap.size W4 wr) (fun i _ => c - (intOf i).toNat)
          case atStart => exact ⟨0, by omega, rfl, fun j hj => by omega, Below.refl _ _⟩
          case round =>
            rename_i hrel
            obtain ⟨d, hd, rfl, hall, HB⟩ := hrel
            have HE : Hid (∀ k, k < d → p c ≠ p k) := hall
            clear hall
            by_cases hdn : d < c
            · have hdI : (d : Int) < c := by omega
              have hdI2 : (d : Int) < n := by omega
              obtain ⟨A, off, rfl, hA, q0, q1⟩ := HSo.out.step HB c hcn
              obtain ⟨A', off', hao, -, m0, m1⟩ := HSo.out.step HB d (by omega)
              obtain ⟨rfl, rfl⟩ : A = A' ∧ off = off' := by simpa using hao
              have b0 := (B3.step HB).c 0 rfl
              have EQ := eqSp2 (p c).1 (p c).2 (p d).1 (p d).2
              have KS : (fun w' : World => w'.cell? ⟨w.heap.size, 0, none⟩ = some (.slice (some ⟨A, off, none⟩) n cap) ∧ w'.cell? ⟨A, off + c * 2, none⟩ = some (.int .i64 (p c).1) ∧ w'.cell? ⟨A, off + c * 2 + 1, none⟩ = some (.int .i64 (p c).2) ∧ w'.cell? ⟨A, off + d * 2, none⟩ = some (.int .i64 (p d).1) ∧ w'.cell? ⟨A, off + d * 2 + 1, none⟩ = some (.int .i64 (p d).2)) wr := ⟨b0, q0, q1, m0, m1⟩
              go_upto_region 17 with fail
              go_region_held3 (fun w' : World => w'.cell? ⟨w.heap.size, 0, none⟩ = some (.slice (some ⟨A, off, none⟩) n cap) ∧ w'.cell? ⟨A, off + c * 2, none⟩ = some (.int .i64 (p c).1) ∧ w'.cell? ⟨A, off + c * 2 + 1, none⟩ = some (.int .i64 (p c).2) ∧ w'.cell? ⟨A, off + d * 2, none⟩ = some (.int .i64 (p d).1) ∧ w'.cell? ⟨A, off + d * 2 + 1, none⟩ = some (.int .i64 (p d).2)) (exact KS) (fail)
              all_goals have HBD := HB.drew
              all_goals clear KS b0 q0 q1 m0 m1 EQ hao hA HB
              all_goals by_cases h : (p c).1 = (p d).1 ∧ (p c).2 = (p d).2
              all_goals first
                | (have HO : Hid (rgF n p = 4) := by
                     show _ = _
                     unfold rgF
                     rw [if_neg h1, if_neg h2, if_neg (fun hh => hh HA.out), if_pos (fun hh => hh c hcn d hdn (Prod.ext h.1 h.2))]
                   have d1 : (decide ((p c).1 = (p d).1) && decide ((p c).2 = (p d).2)) = true := by simp [h.1, h.2]
                   rw [d1]
                   have HBF := HB4.trans (HBD.mono HB4.size)
                   clear d1 h
                   go_wp2
                   go_ret
                   exact ⟨by rw [HO.out]; rfl, HBF⟩)
                | (have HH : Hid (p c ≠ p d) := fun e => h ⟨by rw [e], by rw [e]⟩
                   have d1 : (decide ((p c).1 = (p d).1) && decide ((p c).2 = (p d).2)) = false := by
                     rw [Bool.eq_false_iff]
                     intro hh
                     simp at hh
                     exact h hh
                   rw [d1]
                   clear d1 h
                   go_wp2
                   go_roundw)
              case rel => exact ⟨d + 1, by omega, by go_num, fun k hk => by
                rcases Nat.lt_or_ge k d with h | h
                · exact HE.out k h
                · obtain rfl : k = d := by omega
                  exact HH.out, HBD⟩
              case measure => simp [intOf]; omega
            · obtain rfl : c = d := by omega
              have HBF := HBo.trans (HB.mono HBo.size)
              clear HB HBo HB4 HSo B3
              go_wp2
              go_roundw
              case rel => exact ⟨c + 1, by omega, by go_num, fun j hj => by
                rcases Nat.lt_or_ge j c with h | h
                · exact HC.out j h
                · obtain rfl : j = c := by omega
                  exact HE.out, HBF⟩
              case measure => simp [intOf]; omega
        · obtain rfl : n = c := by omega
          have HB3 := HB1.trans (HB.mono HB1.size)
          have HS2 : Hid (SpIn wr ao n p) := HS1.out.step HB
          have B2 := B1.step HB
          clear HS1 B1 HB HB1
          go_wp2_with fail
          generalize wr = W3 at *
          go_loopw [7] (fun i wr => ∃ c : Nat, c ≤ n ∧ i = .int .i64 c ∧ (∀ j, j < c → ∀ k, k < j → bdB n p j k = false) ∧ Below W3.heap.size W3 wr) (fun i _ => n - (intOf i).toNat)
          case atStart => exact ⟨0, by omega, rfl, fun j hj => by omega, Below.refl _ _⟩
          case round =>
            rename_i hrel
            obtain ⟨c, hc, rfl, hall, HB⟩ := hrel
            have HD : Hid (∀ j, j < c → ∀ k, k < j → bdB n p j k = false) := hall
            clear hall
            by_cases hcn : c < n
            · have hcI : (c : Int) < n := by omega
              have HSo : Hid (SpIn wr ao n p) := HS2.out.step HB
              have HB4 := HB3.trans (HB.mono HB3.size)
              have B3 := B2.step HB
              have HBo := HB
              clear HB
              go_wp2_with fail
              generalize wr = W4 at *
              go_loopw [8] (fun i wr => ∃ d : Nat, d ≤ c ∧ i = .int .i64 d ∧ (∀ k, k < d → bdB n p c k = false) ∧ Below W4.heap.size W4 wr) (fun i _ => c - (intOf i).toNat)
              case atStart => exact ⟨0, by omega, rfl, fun j hj => by omega, Below.refl _ _⟩
              case round =>
                rename_i hrel
                obtain ⟨d, hd, rfl, hall, HB⟩ := hrel
                have HE : Hid (∀ k, k < d → bdB n p c k = false) := hall
                clear hall
                by_cases hdn : d < c
                · have hdI : (d : Int) < c := by omega
                  have HSr := HSo.out.step HB
                  have B4 := B3.step HB
                  obtain ⟨A, off, rfl, -, -, -⟩ := HSr c hcn
                  obtain ⟨i1, i2, i3, i4⟩ := in1_seg (side_ok HA.out HC.out (by omega) hcn)
                  obtain ⟨j1, j2, j3, j4⟩ := in1_seg (side_ok HA.out HC.out (by omega) (show d < n by omega))
                  have L1 := fun w h => l5Side_any (some ⟨A, off, none⟩) n cap p c hcn hn w h
                  have L2 := fun w h => l5Side_any (some ⟨A, off, none⟩) n cap p d (by omega) hn w h
                  have LM := l4Meet_any (sdA n p c).1 (sdA n p c).2.1 (sdA n p c).2.2.1 (sdA n p c).2.2.2 (sdA n p d).1 (sdA n p d).2.1 (sdA n p d).2.2.1 (sdA n p d).2.2.2 i1 i2 i3 i4 j1 j2 j3 j4
                  have hbs := bd_same HC.out (by omega) hcn hdn
                  have hkin : kdA n p c d = 0 ∨ kdA n p c d = 1 ∨ kdA n p c d = 2 := knd_in _ _ _ _ _ _ _ _
                  go_upto_region 25 with fail
                  go_cut [9] (fun m wx => m = .int .i64 (kdA n p c d) ∧ Below wr.heap.size wr wx)
                  case first =>
                    clear HE HD HB4 HSo HS2 HA HC hbs hkin L1 L2 LM
                    refine reg25 (c := c) (d := d) hcn (by omega) hn HSr i1 i2 i3 i4 j1 j2 j3 j4 (by have hz := HB3.size; have hz2 := HBo.size; first | exact B4.lt | omega) (B4.c 0 rfl) rfl rfl rfl rfl (by simp) (by simp) (by simp) (by simp) ?_
                    rintro ⟨tm, df⟩ Wz hz hdf hoff h9 hBz
                    simp only at hz hdf hoff h9
                    subst hdf
                    have htm := tmps_fold [64, 65, 66, 67, 68, 69, 70, 63, 71, 72, 73, 10, 11, 9] tm _ hz hoff
                    simp only [List.foldl, List.setIfInBounds_toArray, List.set_cons_zero, List.set_cons_succ, h9] at htm
                    clear hz hoff
                    generalize tm.getD 64 undef = u0, tm.getD 65 undef = u1, tm.getD 66 undef = u2, tm.getD 67 undef = u3, tm.getD 68 undef = u4, tm.getD 69 undef = u5, tm.getD 70 undef = u6, tm.getD 63 undef = u7, tm.getD 71 undef = u8, tm.getD 72 undef = u9, tm.getD 73 undef = u10, tm.getD 10 undef = u11, tm.getD 11 undef = u12 at htm
                    clear h9
                    subst htm
                    go_wp2_with fail
                    go_meet
                    exact ⟨rfl, hBz⟩
                  case rest =>
                    obtain ⟨hm, hBc⟩ := hcut
                    subst hm
                    have HB5 := HB.trans (hBc.mono HB.size)
                    clear hBc HB B4 HSr L1 L2 LM i1 i2 i3 i4 j1 j2 j3 j4
                    generalize kdA n p c d = z at *
                    have hs1 : IntKind.i64.wrap ((c : Int) - 1) = (c : Int) - 1 := by rw [IntKind.wrap_i64]; omega
                    have hs2 : IntKind.i64.wrap ((n : Int) - 1) = (n : Int) - 1 := by rw [IntKind.wrap_i64]; omega
                    have HBS : Hid (bdB n p c d = ((nxB n c d && !(decide (z = 1))) || (!(nxB n c d) && !(decide (z = 0))))) := hbs
                    clear hbs
                    have HBF := HB4.trans (HB5.mono HB4.size)
                    rcases (show (d + 1 = c) ∨ (d + 1 ≠ c ∧ d = 0 ∧ c + 1 = n) ∨ (d + 1 ≠ c ∧ d = 0 ∧ c + 1 ≠ n) ∨ (d + 1 ≠ c ∧ d ≠ 0) by omega) with hN1 | hN2 | hN3 | hN4
                    · have HX : Hid (nxB n c d = true) := by show _ = _; unfold nxB; simp; omega
                      have b1 : ((d : Int) == (c : Int) - 1) = true := beq_iff_eq.2 (by omega)
                      clear hN1
                      rcases hkin with rfl | rfl | rfl
                      · have HO : Hid (rgF n p = 5) := by
                          show _ = _
                          unfold rgF
                          rw [if_neg h1, if_neg h2, if_neg (fun hh => hh HA.out), if_neg (fun hh => hh HC.out), if_pos (fun hh => by
                            have e := hh c hcn d hdn
                            rw [HBS.out, HX.out] at e
                            simp at e)]
                        go_wp2
                        go_ret
                        exact ⟨by rw [HO.out]; rfl, HBF⟩
                      · have HN : Hid (bdB n p c d = false) := by show _ = _; rw [HBS.out, HX.out]; rfl
                        go_wp2
                        go_roundw
                        case rel => exact ⟨d + 1, by omega, by go_num, fun k hk => by
                          rcases Nat.lt_or_ge k d with h | h
                          · exact HE.out k h
                          · obtain rfl : k = d := by omega
                            exact HN.out, HB5⟩
                        case measure => simp [intOf]; omega
                      · have HO : Hid (rgF n p = 5) := by
                          show _ = _
                          unfold rgF
                          rw [if_neg h1, if_neg h2, if_neg (fun hh => hh HA.out), if_neg (fun hh => hh HC.out), if_pos (fun hh => by
                            have e := hh c hcn d hdn
                            rw [HBS.out, HX.out] at e
                            simp at e)]
                        go_wp2
                        go_ret
                        exact ⟨by rw [HO.out]; rfl, HBF⟩
                    · have HX : Hid (nxB n c d = true) := by show _ = _; unfold nxB; simp; omega
                      have b1 : ((d : Int) == (c : Int) - 1) = false := beq_eq_false_iff_ne.2 (by omega)
                      have b2 : ((d : Int) == 0) = true := beq_iff_eq.2 (by omega)
                      have b3 : ((c : Int) == (n : Int) - 1) = true := beq_iff_eq.2 (by omega)
                      clear hN2
                      rcases hkin with rfl | rfl | rfl
                      · have HO : Hid (rgF n p = 5) := by
                          show _ = _
                          unfold rgF
                          rw [if_neg h1, if_neg h2, if_neg (fun hh => hh HA.out), if_neg (fun hh => hh HC.out), if_pos (fun hh => by
                            have e := hh c hcn d hdn
                            rw [HBS.out, HX.out] at e
                            simp at e)]
                        go_wp2
                        go_ret
                        exact ⟨by rw [HO.out]; rfl, HBF⟩
                      · have HN : Hid (bdB n p c d = false) := by show _ = _; rw [HBS.out, HX.out]; rfl
                        go_wp2
                        go_roundw
                        case rel => exact ⟨d + 1, by omega, by go_num, fun k hk => by
                          rcases Nat.lt_or_ge k d with h | h
                          · exact HE.out k h
                          · obtain rfl : k = d := by omega
                            exact HN.out, HB5⟩
                        case measure => simp [intOf]; omega
                      · have HO : Hid (rgF n p = 5) := by
                          show _ = _
                          unfold rgF
                          rw [if_neg h1, if_neg h2, if_neg (fun hh => hh HA.out), if_neg (fun hh => hh HC.out), if_pos (fun hh => by
                            have e := hh c hcn d hdn
                            rw [HBS.out, HX.out] at e
                            simp at e)]
                        go_wp2
                        go_ret
                        exact ⟨by rw [HO.out]; rfl, HBF⟩
                    · have HX : Hid (nxB n c d = false) := by show _ = _; unfold nxB; rw [Bool.eq_false_iff]; intro hh; simp at hh; omega
                      have b1 : ((d : Int) == (c : Int) - 1) = false := beq_eq_false_iff_ne.2 (by omega)
                      have b2 : ((d : Int) == 0) = true := beq_iff_eq.2 (by omega)
                      have b3 : ((c : Int) == (n : Int) - 1) = false := beq_eq_false_iff_ne.2 (by omega)
                      clear hN3
                      rcases hkin with rfl | rfl | rfl
                      · have HN : Hid (bdB n p c d = false) := by show _ = _; rw [HBS.out, HX.out]; rfl
                        go_wp2
                        go_roundw
                        case rel => exact ⟨d + 1, by omega, by go_num, fun k hk => by
                          rcases Nat.lt_or_ge k d with h | h
                          · exact HE.out k h
                          · obtain rfl : k = d := by omega
                            exact HN.out, HB5⟩
                        case measure => simp [intOf]; omega
                      · have HO : Hid (rgF n p = 5) := by
                          show _ = _
                          unfold rgF
                          rw [if_neg h1, if_neg h2, if_neg (fun hh => hh HA.out), if_neg (fun hh => hh HC.out), if_pos (fun hh => by
                            have e := hh c hcn d hdn
                            rw [HBS.out, HX.out] at e
                            simp at e)]
                        go_wp2
                        go_ret
                        exact ⟨by rw [HO.out]; rfl, HBF⟩
                      · have HO : Hid (rgF n p = 5) := by
                          show _ = _
                          unfold rgF
                          rw [if_neg h1, if_neg h2, if_neg (fun hh => hh HA.out), if_neg (fun hh => hh HC.out), if_pos (fun hh => by
                            have e := hh c hcn d hdn
                            rw [HBS.out, HX.out] at e
                            simp at e)]
                        go_wp2
                        go_ret
                        exact ⟨by rw [HO.out]; rfl, HBF⟩
                    · have HX : Hid (nxB n c d = false) := by show _ = _; unfold nxB; rw [Bool.eq_false_iff]; intro hh; simp at hh; omega
                      have b1 : ((d : Int) == (c : Int) - 1) = false := beq_eq_false_iff_ne.2 (by omega)
                      have b2 : ((d : Int) == 0) = false := beq_eq_false_iff_ne.2 (by omega)
                      clear hN4
                      rcases hkin with rfl | rfl | rfl
                      · have HN : Hid (bdB n p c d = false) := by show _ = _; rw [HBS.out, HX.out]; rfl
                        go_wp2
                        go_roundw
                        case rel => exact ⟨d + 1, by omega, by go_num, fun k hk => by
                          rcases Nat.lt_or_ge k d with h | h
                          · exact HE.out k h
                          · obtain rfl : k = d := by omega
                            exact HN.out, HB5⟩
                        case measure => simp [intOf]; omega
                      · have HO : Hid (rgF n p = 5) := by
                          show _ = _
                          unfold rgF
                          rw [if_neg h1, if_neg h2, if_neg (fun hh => hh HA.out), if_neg (fun hh => hh HC.out), if_pos (fun hh => by
                            have e := hh c hcn d hdn
                            rw [HBS.out, HX.out] at e
                            simp at e)]
                        go_wp2
                        go_ret
                        exact ⟨by rw [HO.out]; rfl, HBF⟩
                      · have HO : Hid (rgF n p = 5) := by
                          show _ = _
                          unfold rgF
                          rw [if_neg h1, if_neg h2, if_neg (fun hh => hh HA.out), if_neg (fun hh => hh HC.out), if_pos (fun hh => by
                            have e := hh c hcn d hdn
                            rw [HBS.out, HX.out] at e
                            simp at e)]
                        go_wp2
                        go_ret
                        exact ⟨by rw [HO.out]; rfl, HBF⟩
                · obtain rfl : c = d := by omega
                  have HBF := HBo.trans (HB.mono HBo.size)
                  clear HB HBo HB4 HSo B3
                  go_wp2
                  go_roundw
                  case rel => exact ⟨c + 1, by omega, by go_num, fun j hj => by
                    rcases Nat.lt_or_ge j c with h | h
                    · exact HD.out j h
                    · obtain rfl : j = c := by omega
                      exact HE.out, HBF⟩
                  case measure => simp [intOf]; omega
            · obtain rfl : n = c := by omega
              have HO : Hid (rgF n p = 0) := by
                show _ = _
                unfold rgF
                rw [if_neg h1, if_neg h2, if_neg (fun hh => hh HA.out), if_neg (fun hh => hh HC.out), if_neg (fun hh => hh HD.out)]
              have HBF := HB3.trans (HB.mono HB3.size)
              clear HS2 B2 HB HB3 HA HC HD
              go_wp2
              go_ret
              exact ⟨by rw [HO.out]; rfl, HBF⟩
end Go.Proofs.Ytmjlgmoohpnhfaa

/- Rings that are turned: the program's small walks. -/
namespace Go.Proofs.Ytmjlgmoohpnhfaa
open Go.RowKit
set_option maxRecDepth 100000 in
theorem rright_any (ao : Option Addr) (n cap : Nat) (p : Ps) (hn : n ≤ 1048576) (hcap : n ≤ cap) (hcap2 : cap ≤ 9223372036854775807) (w : World) (hS : SpIn w ao n p) : Calls Try.prog 38 #[.agg #[.slice ao n cap]] w (BoolP (decide (rgF n p = 0)) w) := by
  have C := fun w h => implRingFault_any ao n cap p hn hcap hcap2 w h
  have HS := hS.step ((Below.refl _ _).alloc (Nat.le_refl _) (.cells #[.slice ao n cap] 28))
  revert C
  generalize rgF n p = o
  intro C
  clear hS
  go_enter Try.func38, Try.ntmps38
  go_wp2_with fail
  refine (C _ HS).mono ?_
  rintro e w1 ⟨rfl, hB⟩
  have HB : Below w.heap.size w w1 := ((Below.refl _ _).alloc (Nat.le_refl _) _).trans (hB.mono (by simp))
  clear hB C HS
  by_cases h : o = 0
  · subst h
    go_wp2
    go_ret
    exact ⟨rfl, HB⟩
  · have hf : (o == 0) = false := by simp; omega
    have HD : Hid (decide (o = 0) = false) := decide_eq_false h
    go_wp2
    go_ret
    exact ⟨by rw [HD.out]; rfl, HB⟩
set_option maxRecDepth 100000 in
theorem l5OkD_any (ao : Option Addr) (n cap : Nat) (p : Ps) (hn : n ≤ 1048576) (w : World) (hS : SpIn w ao n p) : Calls Try.prog 34 #[.agg #[.slice ao n cap]] w (BoolP (decide (rgF n p = 0)) w) := by
  have C := fun w h => specRingFault_any ao n cap p hn w h
  have HS := hS.step ((Below.refl _ _).alloc (Nat.le_refl _) (.cells #[.slice ao n cap] 28))
  revert C
  generalize rgF n p = o
  intro C
  clear hS
  go_enter Try.func34, Try.ntmps34
  go_wp2_with fail
  refine (C _ HS).mono ?_
  rintro e w1 ⟨rfl, hB⟩
  have HB : Below w.heap.size w w1 := ((Below.refl _ _).alloc (Nat.le_refl _) _).trans (hB.mono (by simp))
  clear hB C HS
  by_cases h : o = 0
  · subst h
    go_wp2
    go_ret
    exact ⟨rfl, HB⟩
  · have hf : (o == 0) = false := by simp; omega
    have HD : Hid (decide (o = 0) = false) := decide_eq_false h
    go_wp2
    go_ret
    exact ⟨by rw [HD.out]; rfl, HB⟩
/-- The cells of n spots, one behind the other. -/
def spL (n : Nat) (p : Ps) : List Value := (List.range (n * 2)).map fun (i : Nat) => Value.int .i64 (spW p i)
theorem spL_at {n : Nat} {p : Ps} {i : Nat} (h : i < n * 2) : (spL n p)[i]? = some (.int .i64 (spW p i)) := by simp [spL, h]
/-- A slice of the call's own, with these spots. -/
def SpOwn (w : World) (base : Nat) (v : Value) (n : Nat) (p : Ps) : Prop :=
  (v = .slice none 0 0 ∧ n = 0) ∨ ∃ g cap f, v = .slice (some ⟨g, 0, none⟩) n cap ∧ base ≤ g ∧ n ≤ cap ∧ cap ≤ maxLen ∧ w.rowIs g 55 (cap * 2) f ∧ ∀ i, i < n * 2 → f i = .int .i64 (spW p i)
theorem SpOwn.of {w : World} {base : Nat} {v : Value} {n : Nat} {p : Ps} (h : w.ownsRow base 55 2 v n (spL n p)) : SpOwn w base v n p := by
  rcases h.2 with ⟨h1, h2⟩ | ⟨g, cap, cur, h1, h2, h3, h4, h5, h6, h7⟩
  · exact .inl ⟨h1, h2⟩
  · refine .inr ⟨g, cap, fun i => cur.getD i undef, h1, h2, h4, h5, ⟨cur, h3, by omega, fun i hi => ?_⟩, fun i hi => ?_⟩
    · simp [Array.getD_eq_getD_getElem?, show i < cur.size by omega]
    · have e : (cur.toList.take (n * 2))[i]? = (spL n p)[i]? := by rw [h7]
      rw [List.getElem?_take_of_lt hi, spL_at hi] at e
      simp only [Array.getElem?_toList] at e
      show cur.getD i undef = _
      rw [Array.getD_eq_getD_getElem?, e]
      rfl
end Go.Proofs.Ytmjlgmoohpnhfaa

/- Whether two rings meet: the model's walk. -/
namespace Go.Proofs.Ytmjlgmoohpnhfaa
open Go.RowKit
/-- What is asked of a ring whose sides are gone through. -/
structure RgOk (n : Nat) (p : Ps) : Prop where
  h3 : 3 ≤ n
  h12 : n ≤ 12
  ok : ∀ i, i < n → spotOk (p i).1 (p i).2 = true
  one : OneN n p
theorem rgF_ok {n : Nat} {p : Ps} (h : rgF n p = 0) : RgOk n p := by
  unfold rgF at h
  repeat' split at h
  all_goals first | omega | skip
  rename_i h1 h2 h3 h4 h5
  exact ⟨by omega, by omega, Decidable.not_not.1 h3, Decidable.not_not.1 h4⟩
set_option maxRecDepth 100000 in
set_option maxHeartbeats 8000000 in
theorem l5Meet_any (ao bo : Option Addr) (n cap m cap2 : Nat) (p q : Ps) (hp : RgOk n p) (hq : RgOk m q) (w : World) (hSp : SpIn w ao n p) (hSq : SpIn w bo m q) : Calls Try.prog 45 #[.agg #[.slice ao n cap], .agg #[.slice bo m cap2]] w (VP (.bool (rmB n p m q)) w) := by
  have A0 := (Blk.new w [.slice ao n cap] 28 rfl).alloc (.cells #[.slice bo m cap2] 28)
  have A1 := Blk.new (w.alloc (.cells #[.slice ao n cap] 28)) [.slice bo m cap2] 28 (g := w.heap.size + 1) (by simp)
  have HB0 : Below w.heap.size w ((w.alloc (.cells #[.slice ao n cap] 28)).alloc (.cells #[.slice bo m cap2] 28)) := ((Below.refl _ w).alloc (Nat.le_refl _) _).alloc (by simp) _
  have HP : Hid (RgOk n p) := hp
  have HQ : Hid (RgOk m q) := hq
  have h12 := hp.h12
  have m12 := hq.h12
  have hnI : (n : Int) ≤ 12 := by omega
  have hmI : (m : Int) ≤ 12 := by omega
  have HSp : Hid (SpIn ((w.alloc (.cells #[.slice ao n cap] 28)).alloc (.cells #[.slice bo m cap2] 28)) ao n p) := hSp.step HB0
  have HSq : Hid (SpIn ((w.alloc (.cells #[.slice ao n cap] 28)).alloc (.cells #[.slice bo m cap2] 28)) bo m q) := hSq.step HB0
  clear hSp hSq hp hq
  go_enter Try.func45, Try.ntmps45
  go_wp2_with fail
  generalize ((w.alloc (.cells #[.slice ao n cap] 28)).alloc (.cells #[.slice bo m cap2] 28)) = W1 at *
  go_loopw [5] (fun i wr => ∃ c : Nat, c ≤ n ∧ i = .int .i64 c ∧ (∀ j, j < c → ∀ k, k < m → kdX n p m q j k = 0) ∧ Below W1.heap.size W1 wr) (fun i _ => n - (intOf i).toNat)
  case atStart => exact ⟨0, by omega, rfl, fun j hj => by omega, Below.refl _ _⟩
  case round =>
    obtain ⟨c, hc, rfl, hall, HB⟩ := hrel
    have HD : Hid (∀ j, j < c → ∀ k, k < m → kdX n p m q j k = 0) := hall
    clear hall
    have b0 := (A0.step HB).c 0 rfl
    by_cases hcn : c < n
    · have hcI : (c : Int) < n := by omega
      have HBo := HB
      have HSp2 : Hid (SpIn wr ao n p) := HSp.out.step HB
      have HSq2 : Hid (SpIn wr bo m q) := HSq.out.step HB
      have D0 := A0.step HB
      have D1 := A1.step HB
      clear HB
      go_wp2_with fail
      clear b0
      generalize wr = W4 at *
      go_loopw [6] (fun i wr => ∃ d : Nat, d ≤ m ∧ i = .int .i64 d ∧ (∀ k, k < d → kdX n p m q c k = 0) ∧ Below W4.heap.size W4 wr) (fun i _ => m - (intOf i).toNat)
      case atStart => exact ⟨0, by omega, rfl, fun j hj => by omega, Below.refl _ _⟩
      case round =>
        rename_i hrel
        obtain ⟨d, hd, rfl, hall, HB⟩ := hrel
        have HE : Hid (∀ k, k < d → kdX n p m q c k = 0) := hall
        clear hall
        have b1 := (D1.step HB).c 0 rfl
        by_cases hdn : d < m
        · have hdI : (d : Int) < m := by omega
          have E0 := D0.step HB
          have E1 := D1.step HB
          have SP := HSp2.out.step HB
          have SQ := HSq2.out.step HB
          obtain ⟨i1, i2, i3, i4⟩ := in1_seg (side_ok HP.out.ok HP.out.one HP.out.h3 hcn)
          obtain ⟨j1, j2, j3, j4⟩ := in1_seg (side_ok HQ.out.ok HQ.out.one HQ.out.h3 hdn)
          have HSP : Hid (SpIn wr ao n p) := SP
          have HSQ : Hid (SpIn wr bo m q) := SQ
          clear SP SQ
          go_upto_region 7 with fail
          go_cut [7] (fun z wx => z = .int .i64 (kdX n p m q c d) ∧ Below wr.heap.size wr wx)
          case first =>
            clear b1 HE HD HSp HSq HSp2 HSq2
            refine regMeet (c := c) (d := d) hcn hdn (by omega) (by omega) HSP.out HSQ.out i1 i2 i3 i4 j1 j2 j3 j4 rfl rfl rfl rfl (E0.c 0 rfl) E0.lt (E1.c 0 rfl) E1.lt rfl ?_
            rintro ⟨tm, df⟩ Wz hz hdf hoff h7 hBz
            simp only at hz hdf hoff h7
            change tm.getD 7 undef = .int .i64 (kdX n p m q c d) at h7
            subst hdf
            have htm := tmps_fold [25, 26, 27, 28, 29, 30, 31, 24, 32, 33, 34, 8, 9, 7] tm _ hz hoff
            simp only [List.foldl, List.setIfInBounds_toArray, List.set_cons_zero, List.set_cons_succ, h7] at htm
            clear hz hoff
            generalize tm.getD 25 undef = u0, tm.getD 26 undef = u1, tm.getD 27 undef = u2, tm.getD 28 undef = u3, tm.getD 29 undef = u4, tm.getD 30 undef = u5, tm.getD 31 undef = u6, tm.getD 24 undef = u7, tm.getD 32 undef = u8, tm.getD 33 undef = u9, tm.getD 34 undef = u10, tm.getD 8 undef = u11, tm.getD 9 undef = u12 at htm
            clear h7
            subst htm
            go_wp2_with fail
            go_meet
            exact ⟨rfl, hBz⟩
          case rest =>
            obtain ⟨hm, hBc⟩ := hcut
            subst hm
            have HBN := HB.trans (hBc.mono HB.size)
            clear hBc HB E0 E1 HSP HSQ i1 i2 i3 i4 j1 j2 j3 j4 b1
            by_cases hk : kdX n p m q c d = 0
            · have HK : Hid (kdX n p m q c d = 0) := hk
              rw [hk]
              clear hk
              go_wp2
              go_roundw
              case rel => exact ⟨d + 1, by omega, by go_num, fun k hk => by
                rcases Nat.lt_or_ge k d with h | h
                · exact HE.out k h
                · obtain rfl : k = d := by omega
                  exact HK.out, HBN⟩
              case measure => simp [intOf]; omega
            · have HO : Hid (rmB n p m q = true) := decide_eq_true (fun h => hk (h c hcn d hdn))
              have hk2 : (kdX n p m q c d != 0) = true := by simp [hk]
              revert hk2
              generalize kdX n p m q c d = z
              intro hk2
              have HBF := HB0.trans ((HBo.trans (HBN.mono HBo.size)).mono HB0.size)
              clear hk HBN HBo
              go_wp2
              go_ret
              exact ⟨by rw [HO.out]; rfl, HBF⟩
        · obtain rfl : d = m := by omega
          have HBN := HBo.trans (HB.mono HBo.size)
          clear HBo HB D0 D1 HSp2 HSq2
          go_wp2
          go_roundw
          case rel => exact ⟨c + 1, by omega, by go_num, fun j hj => by
            rcases Nat.lt_or_ge j c with h | h
            · exact HD.out j h
            · obtain rfl : j = c := by omega
              exact HE.out, HBN⟩
          case measure => simp [intOf]; omega
    · obtain rfl : c = n := by omega
      have HO : Hid (rmB c p m q = false) := decide_eq_false (fun h => h HD.out)
      have HBF := HB0.trans (HB.mono HB0.size)
      clear HB HD HSp HSq A0 A1
      go_wp2
      go_ret
      exact ⟨by rw [HO.out]; rfl, HBF⟩
end Go.Proofs.Ytmjlgmoohpnhfaa

/- Whether two rings meet: the program's walk. -/
namespace Go.Proofs.Ytmjlgmoohpnhfaa
open Go.RowKit Go.Shelf
attribute [local go_sem] Oper.semAt_some
set_option maxRecDepth 100000 in
set_option maxHeartbeats 8000000 in
theorem meets_any (ao bo : Option Addr) (n cap m cap2 : Nat) (p q : Ps) (hn3 : 3 ≤ n) (hn : n ≤ 12) (hok : ∀ i, i < n → spotOk (p i).1 (p i).2 = true) (hone : OneN n p) (hm3 : 3 ≤ m) (hm : m ≤ 12) (hokq : ∀ i, i < m → spotOk (q i).1 (q i).2 = true) (honeq : OneN m q) (w : World) (hS : SpIn w ao n p) (hSq : SpIn w bo m q) : Calls Try.prog 46 #[.agg #[.slice ao n cap], .agg #[.slice bo m cap2]] w (VP (.bool (rmB n p m q)) w) := by
  refine (callsIn_wide (n := 12)).1 ?_
  refine callsIn_of_wp_marks Try.func46 rfl trivial ?_ rfl
  simp only [Try.ntmps46, List.size_toArray, List.length_cons, List.length_nil, Nat.reduceAdd, Nat.reduceSub, Array.replicate_succ, Array.replicate_zero, List.push_toArray, List.append_toArray, List.nil_append, List.cons_append]
  gi_wp2_with (refine ⟨trivial, ?_⟩; gi_at_call 86; refine (callsIn_wide.2 (sides_any _ _ _ _)).mono ?_; rintro e w' ⟨rfl, rfl⟩)
  have bA := (((Boxed.new w 28 (.slice ao n cap)).alloc (.cells #[.slice bo m cap2] 28)).alloc (.cells #[.bool false] 4)).alloc (.cells #[.slice ao n cap] 28)
  have bQ := ((Boxed.new (w.alloc (.cells #[.slice ao n cap] 28)) 28 (.slice bo m cap2)).alloc (.cells #[.bool false] 4)).alloc (.cells #[.slice ao n cap] 28)
  have bR := (Boxed.new ((w.alloc (.cells #[.slice ao n cap] 28)).alloc (.cells #[.slice bo m cap2] 28)) 4 (.bool false)).alloc (.cells #[.slice ao n cap] 28)
  have bN := Boxed.new (((w.alloc (.cells #[.slice ao n cap] 28)).alloc (.cells #[.slice bo m cap2] 28)).alloc (.cells #[.bool false] 4)) 28 (.slice ao n cap)
  simp only [World.size_alloc] at bQ bR bN
  have hB0 : Below w.heap.size w ((((w.alloc (.cells #[.slice ao n cap] 28)).alloc (.cells #[.slice bo m cap2] 28)).alloc (.cells #[.bool false] 4)).alloc (.cells #[.slice ao n cap] 28)) := ((((Below.refl _ w).alloc (Nat.le_refl _) _).alloc (by simp) _).alloc (by simp; omega) _).alloc (by simp; omega) _
  have hsz : ((((w.alloc (.cells #[.slice ao n cap] 28)).alloc (.cells #[.slice bo m cap2] 28)).alloc (.cells #[.bool false] 4)).alloc (.cells #[.slice ao n cap] 28)).heap.size = w.heap.size + 4 := by simp
  obtain ⟨W0, hW0⟩ : ∃ W0, ((((w.alloc (.cells #[.slice ao n cap] 28)).alloc (.cells #[.slice bo m cap2] 28)).alloc (.cells #[.bool false] 4)).alloc (.cells #[.slice ao n cap] 28)) = W0 := ⟨_, rfl⟩
  rw [hW0] at bA bQ bR bN hB0 hsz ⊢
  clear hW0
  have hS0 : SpB w.heap.size W0 ao n p := (hS.low).keep (fun k hk => hB0.block k hk)
  have hS1 : SpB w.heap.size W0 bo m q := (hSq.low).keep (fun k hk => hB0.block k hk)
  refine wpIn_rangeFunc_ownH rfl (by omega) (gf := 127) (lb := #[.pointer (some ⟨w.heap.size + 1 + 1 + 1, 0, none⟩)]) rfl trivial (enters_of Try.func127 (by kernel_rfl) rfl)
    (sides_stops (12 - 1) w.heap.size (w.heap.size + 1 + 1 + 1) ao n cap p hn3 hn hok hone W0 (by omega) (by omega) bN.cell hS0) (fun h k => h.trans k) (KpB.put (by omega) (by omega)) (Below.refl _ _) (fun _ => rfl)
    (fun pre W => (∀ i ∈ pre, ∀ k, k < m → kdX n p m q i.1 k = 0) ∧ Below W0.heap.size W0 W)
    (fun c pre W => ((c = .ret ∧ ∃ i ∈ pre, ∃ k, k < m ∧ kdX n p m q i.1 k ≠ 0) ∧ Boxed W (w.heap.size + 1 + 1) 4 (.bool true)) ∧ Below w.heap.size w W)
    (OwnFrom.and (ownFrom_pure _ _) (ownFrom_below (Nat.le_refl _) (Nat.le_refl _)))
    (fun c => OwnFrom.and (OwnFrom.and (ownFrom_pure _ _) (Own.from (boxed_own _ _ _) _)) (ownFrom_below (Nat.le_refl _) (by omega)))
    ⟨by simp, Below.refl _ _⟩
    (fun x a' W => ∃ Bs, BoxV W Bs 103 [.int .i64 (sdA n p x.1).1, .int .i64 (sdA n p x.1).2.1, .int .i64 (sdA n p x.1).2.2.1, .int .i64 (sdA n p x.1).2.2.2] ∧ a' = { tmps := #[.agg #[.slice ao n cap], .agg #[.slice bo m cap2], .pointer (some ⟨w.heap.size, 0, none⟩), .pointer (some ⟨w.heap.size + 1, 0, none⟩), .pointer (some ⟨w.heap.size + 1 + 1, 0, none⟩), undef, .pointer (some ⟨Bs, 0, none⟩), undef, undef, undef, undef, undef, .agg #[.slice ao n cap], .func (.func 127) #[] #[.pointer (some ⟨w.heap.size + 1 + 1 + 1, 0, none⟩)], .int .i64 (x.1 : Int), Sg (sdA n p x.1).1 (sdA n p x.1).2.1 (sdA n p x.1).2.2.1 (sdA n p x.1).2.2.2, undef, undef, undef, undef, undef, undef, undef, undef, undef, undef, undef, undef, undef], defers := [] })
    (fun x a' _ X Y row hs hg hr => by obtain ⟨Bs, e4, e5⟩ := hs; exact ⟨Bs, boxV_own Bs 103 (fun (_ : Unit) => [.int .i64 (sdA n p x.1).1, .int .i64 (sdA n p x.1).2.1, .int .i64 (sdA n p x.1).2.2.1, .int .i64 (sdA n p x.1).2.2.2]) () X Y row e4 hg (fun r e => (hr r e).2), e5⟩)
    ?assign ?body ?done ?stop
  case assign =>
    rintro l pre x W K ⟨hp, hB1⟩ hK
    unfold enS
    gi_wp2
    have hB2 : Below W.heap.size W (W.alloc (.cells #[.int .i64 (sdA n p x.1).1, .int .i64 (sdA n p x.1).2.1, .int .i64 (sdA n p x.1).2.2.1, .int .i64 (sdA n p x.1).2.2.2] 103)) := (Below.refl _ W).alloc (Nat.le_refl _) _
    have hsW := hB1.size
    have b2 := BoxV.new W 103 [.int .i64 (sdA n p x.1).1, .int .i64 (sdA n p x.1).2.1, .int .i64 (sdA n p x.1).2.2.1, .int .i64 (sdA n p x.1).2.2.2]
    exact hK _ _ (below_keeps hB2) (KpB.of hB2 (by omega) (by omega)) ⟨hp, hB1.trans (hB2.mono hB1.size)⟩ ⟨_, b2, rfl⟩
  case body =>
    rintro l pre x a' W hl ⟨r, hr⟩ ⟨hp, hB1⟩ ⟨Bs, bS, rfl⟩ hlt
    have bQ1 := boxed_step bQ hB1
    have cQ := bQ1.cell
    have h1' : 1 ≤ 12 - 1 - 1 := by omega
    gi_wp2_with (refine ⟨trivial, ?_⟩; gi_at_call 86; refine (CallsIn.inRound l (callsIn_wide.2 (sides_any _ _ _ _))).mono ?_; rintro e w' ⟨rfl, rfl⟩)
    have hsW := hB1.size
    have bN1 := Boxed.new W 28 (.slice bo m cap2)
    have hr' : (W.alloc (.cells #[.slice bo m cap2] 28)).heap[l]? = some (.loop r) := (Below.heap_alloc W _ l (Array.getElem?_eq_some_iff.1 hr).1).trans hr
    have hBR : Below W.heap.size W (W.alloc (.cells #[.slice bo m cap2] 28)) := (Below.refl _ W).alloc (Nat.le_refl _) _
    have hSW : SpB w.heap.size (W.alloc (.cells #[.slice bo m cap2] 28)) bo m q := hS1.keep (fun k hk => (hBR.block k (by omega)).trans (hB1.block k (by omega)))
    have hbR := boxed_step bR hB1
    have hxn := x.2
    have hs1 : (W.alloc (.cells #[.slice bo m cap2] 28)).heap.size = W.heap.size + 1 := by simp
    obtain ⟨W1, hW1⟩ : ∃ W1, W.alloc (.cells #[.slice bo m cap2] 28) = W1 := ⟨_, rfl⟩
    rw [hW1] at bN1 hr' hBR hSW hs1 ⊢
    clear hW1
    refine wpIn_rangeFunc_ownN (l₀ := l) (r₀ := r) rfl hr' h1' (gf := 127) (lb := #[.pointer (some ⟨W.heap.size, 0, none⟩)]) rfl trivial (enters_of Try.func127 (by kernel_rfl) rfl)
      ((sides_stops (12 - 1 - 1 - 1) w.heap.size W.heap.size bo m cap2 q hm3 hm hokq honeq W1 (by omega) (by omega) bN1.cell hSW).inRound l) (fun h k => h.trans k) (KpB.put (by omega) (by omega)) (Below.refl _ _) (fun _ => rfl)
      (fun pre' W' => (∀ y ∈ pre', kdX n p m q x.1 y.1 = 0) ∧ Below W1.heap.size W1 W')
      (fun c pre' W' => ((c = .ret ∧ ∃ y ∈ pre', kdX n p m q x.1 y.1 ≠ 0) ∧ Boxed W' (w.heap.size + 1 + 1) 4 (.bool true)) ∧ Below w.heap.size W W' ∧ KeepsFrom W0.heap.size W W')
      (OwnFrom.and (ownFrom_pure _ _) (ownFrom_below (Nat.le_refl _) (Nat.le_refl _)))
      (fun c => OwnFrom.and (OwnFrom.and (ownFrom_pure _ _) (Own.from (boxed_own _ _ _) _)) (OwnFrom.and (ownFrom_below (by omega) (by omega)) (ownFrom_keepsFrom (by omega))))
      ⟨by simp, Below.refl _ _⟩
      (fun y a'' W' => ∃ Bt, BoxV W' Bt 103 [.int .i64 (sdA m q y.1).1, .int .i64 (sdA m q y.1).2.1, .int .i64 (sdA m q y.1).2.2.1, .int .i64 (sdA m q y.1).2.2.2] ∧ a'' = { tmps := #[.agg #[.slice ao n cap], .agg #[.slice bo m cap2], .pointer (some ⟨w.heap.size, 0, none⟩), .pointer (some ⟨w.heap.size + 1, 0, none⟩), .pointer (some ⟨w.heap.size + 1 + 1, 0, none⟩), undef, .pointer (some ⟨Bs, 0, none⟩), undef, .pointer (some ⟨Bt, 0, none⟩), undef, undef, undef, .agg #[.slice ao n cap], .func (.func 127) #[] #[.pointer (some ⟨w.heap.size + 1 + 1 + 1, 0, none⟩)], .int .i64 (x.1 : Int), Sg (sdA n p x.1).1 (sdA n p x.1).2.1 (sdA n p x.1).2.2.1 (sdA n p x.1).2.2.2, .agg #[.slice bo m cap2], .func (.func 127) #[] #[.pointer (some ⟨W.heap.size, 0, none⟩)], .int .i64 (y.1 : Int), Sg (sdA m q y.1).1 (sdA m q y.1).2.1 (sdA m q y.1).2.2.1 (sdA m q y.1).2.2.2, undef, undef, undef, undef, undef, undef, undef, undef, undef], defers := [] })
      (fun y a'' _ X Y row hs hg hrw => by obtain ⟨Bt, e4, e5⟩ := hs; exact ⟨Bt, boxV_own Bt 103 (fun (_ : Unit) => [.int .i64 (sdA m q y.1).1, .int .i64 (sdA m q y.1).2.1, .int .i64 (sdA m q y.1).2.2.1, .int .i64 (sdA m q y.1).2.2.2]) () X Y row e4 hg (fun r e => (hrw r e).2), e5⟩)
      ?assign2 ?body2 ?done2 ?stop2
    case assign2 =>
      rintro l2 pre' y W' K ⟨hq, hBW⟩ hK
      unfold enS
      gi_wp2
      have hB2 : Below W'.heap.size W' (W'.alloc (.cells #[.int .i64 (sdA m q y.1).1, .int .i64 (sdA m q y.1).2.1, .int .i64 (sdA m q y.1).2.2.1, .int .i64 (sdA m q y.1).2.2.2] 103)) := (Below.refl _ W').alloc (Nat.le_refl _) _
      have hsW2 := hBW.size
      have b2 := BoxV.new W' 103 [.int .i64 (sdA m q y.1).1, .int .i64 (sdA m q y.1).2.1, .int .i64 (sdA m q y.1).2.2.1, .int .i64 (sdA m q y.1).2.2.2]
      exact hK _ _ (below_keeps hB2) (KpB.of hB2 (by omega) (by omega)) ⟨hq, hBW.trans (hB2.mono hBW.size)⟩ ⟨_, b2, rfl⟩
    case body2 =>
      rintro l2 pre' y a'' W' _ _ ⟨hq, hBW⟩ ⟨Bt, bT, rfl⟩ _
      have hBX : Below W.heap.size W W' := hBR.trans (hBW.mono hBR.size)
      have bS2 := (bS.step hBX).blk
      have bT2 := bT.blk
      have bR2 := boxed_step hbR hBX
      have s0' := bS2.c 0 rfl; have s1' := bS2.c 1 rfl; have s2' := bS2.c 2 rfl; have s3' := bS2.c 3 rfl
      have t0' := bT2.c 0 rfl; have t1' := bT2.c 1 rfl; have t2' := bT2.c 2 rfl; have t3' := bT2.c 3 rfl
      have hsX := hBW.size
      obtain ⟨i1, i2, i3, i4⟩ := in1_seg (side_ok hok hone hn3 x.2)
      obtain ⟨j1, j2, j3, j4⟩ := in1_seg (side_ok hokq honeq hm3 y.2)
      obtain ⟨r0, r1, r2, r3, r4, r5, r6, r7, r8, r9, r10, r11, s0, s1, s2, s3, s4, s5, s6, s7, s8, s9, s10, s11, hW12⟩ := meetW_12 (sdA n p x.1).1 (sdA n p x.1).2.1 (sdA n p x.1).2.2.1 (sdA n p x.1).2.2.2 (sdA m q y.1).1 (sdA m q y.1).2.1 (sdA m q y.1).2.2.1 (sdA m q y.1).2.2.2
      have MT := meet_det (sdA n p x.1).1 (sdA n p x.1).2.1 (sdA n p x.1).2.2.1 (sdA n p x.1).2.2.2 (sdA m q y.1).1 (sdA m q y.1).2.1 (sdA m q y.1).2.2.1 (sdA m q y.1).2.2.2 i1 i2 i3 i4 j1 j2 j3 j4
      rw [hW12] at MT
      have hkd : kndZ (sdA n p x.1).1 (sdA n p x.1).2.1 (sdA n p x.1).2.2.1 (sdA n p x.1).2.2.2 (sdA m q y.1).1 (sdA m q y.1).2.1 (sdA m q y.1).2.2.1 (sdA m q y.1).2.2.2 = kdX n p m q x.1 y.1 := rfl
      rw [hkd] at MT
      clear i1 i2 i3 i4 j1 j2 j3 j4 hW12 hkd
      generalize hzk : kdX n p m q x.1 y.1 = zk at *
      by_cases hz0 : zk = 0
      · have e1 : (zk != 0) = false := by simp [hz0]
        gi_wp2_with (refine ⟨trivial, ?_⟩; gi_at_call 87; refine (CallsIn.inRound l2 (CallsIn.inRound l (callsIn_wide.2 (MT _)))).mono ?_; rintro e v1 ⟨rfl, hBm⟩)
        have hBN : Below W'.heap.size W' ((v1.alloc (.cells #[.int .u64 r0, .int .u64 r1, .int .u64 r2, .int .u64 r3, .int .u64 r4, .int .u64 r5, .int .u64 r6, .int .u64 r7, .int .u64 r8, .int .u64 r9, .int .u64 r10, .int .u64 r11] 83)).alloc (.cells #[.int .u64 s0, .int .u64 s1, .int .u64 s2, .int .u64 s3, .int .u64 s4, .int .u64 s5, .int .u64 s6, .int .u64 s7, .int .u64 s8, .int .u64 s9, .int .u64 s10, .int .u64 s11] 83)) := (hBm.alloc hBm.size _).alloc (Nat.le_trans hBm.size (by simp)) _
        refine ⟨below_keeps hBN, KpB.of hBN (by omega) (by omega), fun z hz => ?_, hBW.trans (hBN.mono hBW.size)⟩
        rcases List.mem_append.1 hz with h | h
        · exact hq z h
        · simp at h
          subst h
          rw [hzk, hz0]
      · have e1 : (zk != 0) = true := by simp [hz0]
        gi_wp2_with (refine ⟨trivial, ?_⟩; gi_at_call 87; refine (CallsIn.inRound l2 (CallsIn.inRound l (callsIn_wide.2 (MT _)))).mono ?_; rintro e v1 ⟨rfl, hBm⟩; have hBN : Below W'.heap.size W' ((v1.alloc (.cells #[.int .u64 r0, .int .u64 r1, .int .u64 r2, .int .u64 r3, .int .u64 r4, .int .u64 r5, .int .u64 r6, .int .u64 r7, .int .u64 r8, .int .u64 r9, .int .u64 r10, .int .u64 r11] 83)).alloc (.cells #[.int .u64 s0, .int .u64 s1, .int .u64 s2, .int .u64 s3, .int .u64 s4, .int .u64 s5, .int .u64 s6, .int .u64 s7, .int .u64 s8, .int .u64 s9, .int .u64 s10, .int .u64 s11] 83)) := (hBm.alloc hBm.size _).alloc (Nat.le_trans hBm.size (by simp)) _; have bR3 := boxed_step bR2 hBN; have cR3 := bR3.cell; have fR3 := bR3.frozen)
        have hXN := hBX.trans (hBN.mono hBX.size)
        exact ⟨(below_keeps hBN).trans ((KeepsOthers.setCell _ _ _).from _), ⟨⟨⟨rfl, y, List.mem_append.2 (.inr (by simp)), by rw [hzk]; exact hz0⟩, bR3.set _⟩, (hXN.mono (show w.heap.size ≤ W.heap.size by omega)).setCell (p := ⟨w.heap.size + 1 + 1, 0, none⟩) (by simp; omega) _, (below_keeps hXN).trans ((KeepsOthers.setCell _ _ _).from _)⟩⟩
    case done2 =>
      rintro ys' W' rfl ⟨hq, hBW⟩
      have hBX : Below W.heap.size W W' := hBR.trans (hBW.mono hBR.size)
      gi_wp2
      refine ⟨below_keeps hBX, KpB.of hBX (by omega) (by omega), fun i hi => ?_, hB1.trans (hBX.mono hB1.size)⟩
      rcases List.mem_append.1 hi with h | h
      · exact hp i h
      · simp at h
        subst h
        exact fun k hk => hq ⟨k, hk⟩ (List.mem_finRange _)
    case stop2 =>
      rintro c pre' W' hpre ⟨⟨⟨rfl, y, hy, hk⟩, bR2⟩, hBW, hKF⟩
      gi_wp2
      exact ⟨hKF, ⟨⟨rfl, x, List.mem_append.2 (.inr (by simp)), y.1, y.2, hk⟩, bR2⟩, (hB0.trans (hB1.mono (by omega))).trans hBW⟩
  case done =>
    rintro D zs W hD rfl ⟨hp, hB1⟩ hK
    have bR1 := boxed_step bR hB1
    have cR := bR1.cell
    have fR := bR1.frozen
    gi_wp2
    have hK' := (KeepsOthers.setCell W ⟨w.heap.size + 1 + 1, 0, none⟩ (.bool false)).same D _ hK rfl
    refine ⟨by simp, .inl ⟨_, _, rfl, run_takeDeferred hK', ?_⟩⟩
    have hc5 := cell_kept (bR1.set (.bool false)).cell (grownBy_putObj' _ D (.deferred none)) (fun r e => by cases e; exact ⟨_, hK', rfl⟩)
    have hBW : Below w.heap.size w W := hB0.trans (hB1.mono (by omega))
    refine ⟨.bool false, ?_, by unfold rmB; rw [decide_eq_false (fun h => h (fun i hi k hk => hp ⟨i, hi⟩ (List.mem_finRange _) k hk))], (hBW.setCell (p := ⟨w.heap.size + 1 + 1, 0, none⟩) (by simp; omega) _).trans (belowK_b (w := w) (Nat.le_refl _) _ D _ _ (by omega) hK' rfl rfl)⟩
    simp [results, Try.results46, go_sem, hc5]
  case stop =>
    rintro D c pre W hD hpre ⟨⟨⟨rfl, i, hi, k, hk, hbd⟩, bR1⟩, hB1⟩ hK
    have cR := bR1.cell
    gi_wp2
    refine ⟨by simp, .inl ⟨_, _, rfl, run_takeDeferred hK, ?_⟩⟩
    have hc5 := cell_kept bR1.cell (grownBy_putObj' _ D (.deferred none)) (fun r e => by cases e; exact ⟨_, hK, rfl⟩)
    have hd : rmB n p m q = true := decide_eq_true (fun h => hbd (h i.1 i.2 k hk))
    refine ⟨.bool true, ?_, by rw [hd], hB1.trans (belowK_b (w := w) (Nat.le_refl _) _ D _ _ (by omega) hK rfl rfl)⟩
    simp [results, Try.results46, go_sem, hc5]
end Go.Proofs.Ytmjlgmoohpnhfaa

/- Whether two rings meet: both answers. -/
namespace Go.Proofs.Ytmjlgmoohpnhfaa
open Go.RowKit
/-- What is told of two rings. -/
def rmV (n : Nat) (p : Ps) (m : Nat) (q : Ps) : Bool := decide (rgF n p = 0) && (decide (rgF m q = 0) && rmB n p m q)
theorem two_slices (w : World) (a b : Value) (T : TypeId) : ArgsB w ((w.alloc (.cells #[a] T)).alloc (.cells #[b] T)) [[a], [b]] := by
  refine ⟨((Below.refl _ _).alloc (Nat.le_refl _) _).alloc (by simp) _, fun j vs hj => ?_⟩
  match j, hj with
  | 0, hj => cases hj; exact (Blk.new w [a] T rfl).alloc _
  | 1, hj => cases hj; exact Blk.new (w.alloc (.cells #[a] T)) [b] T (by simp)
  | j + 2, hj => simp at hj
set_option maxRecDepth 100000 in
set_option maxHeartbeats 4000000 in
theorem specRingsMeet_any (ao bo : Option Addr) (n cap m cap2 : Nat) (p q : Ps) (hn : n ≤ 1048576) (hm : m ≤ 1048576) (w : World) (hS : SpIn w ao n p) (hSq : SpIn w bo m q) : Calls Try.prog 15 #[.agg #[.slice ao n cap], .agg #[.slice bo m cap2]] w (VP (.bool (rmV n p m q)) w) := by
  have T0 := two_slices w (.slice ao n cap) (.slice bo m cap2) 28
  have HP : Hid (SpIn w ao n p) := hS
  have HQ : Hid (SpIn w bo m q) := hSq
  have O1 := fun w h => l5OkD_any ao n cap p hn w h
  have O2 := fun w h => l5OkD_any bo m cap2 q hm w h
  have MM := fun (h1 : rgF n p = 0) (h2 : rgF m q = 0) w h k => l5Meet_any ao bo n cap m cap2 p q (rgF_ok h1) (rgF_ok h2) w h k
  have hv : Hid (rmV n p m q = (decide (rgF n p = 0) && (decide (rgF m q = 0) && rmB n p m q))) := rfl
  clear hS hSq
  generalize rmV n p m q = o at *
  have X0 : Blk _ w.heap.size _ := T0.b 0 rfl; have a0 := X0.c 0 rfl
  go_enter Try.func15, Try.ntmps15
  go_upto_region 1 with fail
  generalize ((w.alloc (.cells #[.slice ao n cap] 28)).alloc (.cells #[.slice bo m cap2] 28)) = W at *
  go_wp2_with fail
  refine (O1 _ (HP.out.step T0.below)).mono ?_
  rintro e w1 ⟨rfl, hB⟩
  replace T0 := T0.step hB
  clear hB X0 a0 O1
  by_cases h1 : rgF n p = 0
  · rw [decide_eq_true h1]
    have H1 : Hid (rgF n p = 0) := h1
    clear h1
    have X1 : Blk _ (w.heap.size + 1) _ := T0.b 1 rfl; have b0 := X1.c 0 rfl
    go_wp2_with fail
    refine (O2 _ (HQ.out.step T0.below)).mono ?_
    rintro e w2 ⟨rfl, hB⟩
    replace T0 := T0.step hB
    clear hB X1 b0 O2
    by_cases h2 : rgF m q = 0
    · rw [decide_eq_true h2]
      have H2 : Hid (rgF m q = 0) := h2
      clear h2
      have X0 : Blk _ w.heap.size _ := T0.b 0 rfl; have a0 := X0.c 0 rfl; have X1 : Blk _ (w.heap.size + 1) _ := T0.b 1 rfl; have b0 := X1.c 0 rfl
      go_wp2_with fail
      refine (MM H1.out H2.out _ (HP.out.step T0.below) (HQ.out.step T0.below)).mono ?_
      rintro e w3 ⟨rfl, hB⟩
      have HB := (T0.step hB).below
      clear hB X0 a0 X1 b0 T0 MM
      have hv2 : Hid (o = rmB n p m q) := by show _ = _; rw [hv.out, decide_eq_true H1.out, decide_eq_true H2.out]; rfl
      clear hv
      generalize rmB n p m q = z at *
      cases z
      all_goals go_wp2
      all_goals go_ret
      all_goals exact ⟨by rw [hv2.out]; rfl, HB⟩
    · rw [decide_eq_false h2]
      have hv2 : Hid (o = false) := by show _ = _; rw [hv.out, decide_eq_false h2, Bool.false_and, Bool.and_false]
      have HB := T0.below
      clear h2 hv T0 MM
      go_wp2
      go_ret
      exact ⟨by rw [hv2.out]; rfl, HB⟩
  · rw [decide_eq_false h1]
    have hv2 : Hid (o = false) := by show _ = _; rw [hv.out, decide_eq_false h1, Bool.false_and]
    have HB := T0.below
    clear h1 hv T0 MM O2
    go_wp2
    go_ret
    exact ⟨by rw [hv2.out]; rfl, HB⟩
set_option maxRecDepth 100000 in
set_option maxHeartbeats 4000000 in
theorem implRingsMeet_any (ao bo : Option Addr) (n cap m cap2 : Nat) (p q : Ps) (hn : n ≤ 1048576) (hm : m ≤ 1048576) (hc1 : n ≤ cap) (hc2 : cap ≤ 9223372036854775807) (hc3 : m ≤ cap2) (hc4 : cap2 ≤ 9223372036854775807) (w : World) (hS : SpIn w ao n p) (hSq : SpIn w bo m q) : Calls Try.prog 16 #[.agg #[.slice ao n cap], .agg #[.slice bo m cap2]] w (VP (.bool (rmV n p m q)) w) := by
  have T0 := two_slices w (.slice ao n cap) (.slice bo m cap2) 28
  have HP : Hid (SpIn w ao n p) := hS
  have HQ : Hid (SpIn w bo m q) := hSq
  have O1 := fun w h => rright_any ao n cap p hn hc1 hc2 w h
  have O2 := fun w h => rright_any bo m cap2 q hm hc3 hc4 w h
  have MM := fun (h1 : rgF n p = 0) (h2 : rgF m q = 0) w h k => meets_any ao bo n cap m cap2 p q (rgF_ok h1).h3 (rgF_ok h1).h12 (rgF_ok h1).ok (rgF_ok h1).one (rgF_ok h2).h3 (rgF_ok h2).h12 (rgF_ok h2).ok (rgF_ok h2).one w h k
  have hv : Hid (rmV n p m q = (decide (rgF n p = 0) && (decide (rgF m q = 0) && rmB n p m q))) := rfl
  clear hS hSq
  generalize rmV n p m q = o at *
  have X0 : Blk _ w.heap.size _ := T0.b 0 rfl; have a0 := X0.c 0 rfl
  go_enter Try.func16, Try.ntmps16
  go_upto_region 1 with fail
  generalize ((w.alloc (.cells #[.slice ao n cap] 28)).alloc (.cells #[.slice bo m cap2] 28)) = W at *
  go_wp2_with fail
  refine (O1 _ (HP.out.step T0.below)).mono ?_
  rintro e w1 ⟨rfl, hB⟩
  replace T0 := T0.step hB
  clear hB X0 a0 O1
  by_cases h1 : rgF n p = 0
  · rw [decide_eq_true h1]
    have H1 : Hid (rgF n p = 0) := h1
    clear h1
    have X1 : Blk _ (w.heap.size + 1) _ := T0.b 1 rfl; have b0 := X1.c 0 rfl
    go_wp2_with fail
    refine (O2 _ (HQ.out.step T0.below)).mono ?_
    rintro e w2 ⟨rfl, hB⟩
    replace T0 := T0.step hB
    clear hB X1 b0 O2
    by_cases h2 : rgF m q = 0
    · rw [decide_eq_true h2]
      have H2 : Hid (rgF m q = 0) := h2
      clear h2
      have X0 : Blk _ w.heap.size _ := T0.b 0 rfl; have a0 := X0.c 0 rfl; have X1 : Blk _ (w.heap.size + 1) _ := T0.b 1 rfl; have b0 := X1.c 0 rfl
      go_wp2_with fail
      refine (MM H1.out H2.out _ (HP.out.step T0.below) (HQ.out.step T0.below)).mono ?_
      rintro e w3 ⟨rfl, hB⟩
      have HB := (T0.step hB).below
      clear hB X0 a0 X1 b0 T0 MM
      have hv2 : Hid (o = rmB n p m q) := by show _ = _; rw [hv.out, decide_eq_true H1.out, decide_eq_true H2.out]; rfl
      clear hv
      generalize rmB n p m q = z at *
      cases z
      all_goals go_wp2
      all_goals go_ret
      all_goals exact ⟨by rw [hv2.out]; rfl, HB⟩
    · rw [decide_eq_false h2]
      have hv2 : Hid (o = false) := by show _ = _; rw [hv.out, decide_eq_false h2, Bool.false_and, Bool.and_false]
      have HB := T0.below
      clear h2 hv T0 MM
      go_wp2
      go_ret
      exact ⟨by rw [hv2.out]; rfl, HB⟩
  · rw [decide_eq_false h1]
    have hv2 : Hid (o = false) := by show _ = _; rw [hv.out, decide_eq_false h1, Bool.false_and]
    have HB := T0.below
    clear h1 hv T0 MM O2
    go_wp2
    go_ret
    exact ⟨by rw [hv2.out]; rfl, HB⟩
end Go.Proofs.Ytmjlgmoohpnhfaa

/- Whether two rings meet: the law. -/
namespace Go.Proofs.Ytmjlgmoohpnhfaa
open Go.RowKit
set_option maxRecDepth 100000 in
set_option maxHeartbeats 8000000 in
theorem lawRingsMeet_any (ao bo : Option Addr) (n cap m cap2 : Nat) (p q : Ps) (hn : n ≤ 9223372036854775807) (hm : m ≤ 9223372036854775807) (w : World) (hS : SpIn w ao n p) (hSq : SpIn w bo m q) : Calls Try.prog 4 #[.agg #[.slice ao n cap], .agg #[.slice bo m cap2]] w (BoolP true w) := by
  have T0 := two_slices w (.slice ao n cap) (.slice bo m cap2) 24
  have HP : Hid (SpIn w ao n p) := hS
  have HQ : Hid (SpIn w bo m q) := hSq
  have SZ := szRing_any ao n cap 1048576 (by omega) (by omega) hn
  clear hS hSq
  have X0 : Blk _ w.heap.size _ := T0.b 0 rfl; have a0 := X0.c 0 rfl
  go_enter Try.func4, Try.ntmps4
  go_upto_region 2 with fail
  generalize ((w.alloc (.cells #[.slice ao n cap] 24)).alloc (.cells #[.slice bo m cap2] 24)) = W at *
  by_cases hs : n ≤ 1048576
  · rw [if_pos (by omega)] at SZ
    have hsI : (n : Int) ≤ 1048576 := by omega
    go_wp2_with fail
    refine (SZ _).mono ?_
    rintro e w1 ⟨rfl, hB⟩
    replace T0 := T0.step hB
    clear hB SZ X0 a0
    have hz : (0 : Int) ≤ 1048576 - n := by omega
    have SZ2 := szRing_any bo m cap2 (1048576 - n) (by omega) (by omega) hm
    have X1 : Blk _ (w.heap.size + 1) _ := T0.b 1 rfl; have b0 := X1.c 0 rfl
    go_upto_region 5 with fail
    by_cases hs2 : (m : Int) ≤ 1048576 - n
    · rw [if_pos hs2] at SZ2
      go_wp2_with fail
      refine (SZ2 _).mono ?_
      rintro e w2 ⟨rfl, hB⟩
      replace T0 := T0.step hB
      clear hB SZ2 X1 b0
      have hz2 : (0 : Int) ≤ 1048576 - n - m := by omega
      have T1 := fun w h => toRing_any ao n cap p hs w h
      have T2 := fun w h => toRing_any bo m cap2 q (by omega) w h
      have SP := fun a b w h k => specRingsMeet_any a b n n m m p q hs (by omega) w h k
      have IM := fun a b w h k => implRingsMeet_any a b n n m m p q hs (by omega) (Nat.le_refl _) (by omega) (Nat.le_refl _) (by omega) w h k
      have EQ1 := fun a b w h k => eqRing_any a b n n n p hs w h k
      have EQ2 := fun a b w h k => eqRing_any a b m m m q (by omega) w h k
      generalize rmV n p m q = o at *
      have hoo : (o != o) = false := by simp
      have H0 : Below w2.heap.size w2 w2 := Below.refl _ _
      have HK : ∀ V, Below w2.heap.size w2 V → (fun w' : World => w'.cell? ⟨w.heap.size, 0, none⟩ = some (.slice ao n cap) ∧ w'.cell? ⟨w.heap.size + 1, 0, none⟩ = some (.slice bo m cap2)) V := fun V h => ⟨((T0.b 0 rfl).step h).c 0 rfl, ((T0.b 1 rfl).step h).c 0 rfl⟩
      have SA : Hid (SpIn w2 ao n p) := HP.out.step T0.below
      have SB : Hid (SpIn w2 bo m q) := HQ.out.step T0.below
      have tk1 : True := trivial
      go_upto_region 8 with fail
      go_cut [6] (fun z wx => z = .bool o ∧ Below w2.heap.size w2 wx)
      case first =>
        clear EQ1 EQ2 IM HP HQ
        go_region_held3 (fun w' : World => w'.cell? ⟨w.heap.size, 0, none⟩ = some (.slice ao n cap) ∧ w'.cell? ⟨w.heap.size + 1, 0, none⟩ = some (.slice bo m cap2)) (refine HK _ ?_ <;> repeat (first | (with_reducible exact H0) | (with_reducible refine Below.drew ?_)))
          (first
            | (go_at_call 10; have _t := tk1; refine (T1 _ (SA.out.step (by first | (with_reducible exact H0) | (with_reducible exact H0.drew)))).mono ?_; rintro e w3 ⟨g1, rfl, _, R1, hB⟩; (first | (have Hn : Below w2.heap.size w2 w3 := (by with_reducible exact H0.trans (hB.mono H0.size))) | (have Hn : Below w2.heap.size w2 w3 := (by with_reducible exact H0.drew.trans (hB.mono H0.drew.size)))); have R1' := spIn_row R1; clear hB H0 R1 tk1 _t; have H0 := Hn; clear Hn)
            | (go_at_call 10; refine (T2 _ (SB.out.step (by first | (with_reducible exact H0) | (with_reducible exact H0.drew)))).mono ?_; rintro e w4 ⟨g2, rfl, _, R2, hB⟩; (first | (have Hn : Below w2.heap.size w2 w4 := (by with_reducible exact H0.trans (hB.mono H0.size))) | (have Hn : Below w2.heap.size w2 w4 := (by with_reducible exact H0.drew.trans (hB.mono H0.drew.size)))); have R2' := spIn_row R2; (first | (have R3 := R1'.step hB) | (have R3 := R1'.drew.step hB)); clear hB H0 R2 R1'; have H0 := Hn; clear Hn)
            | (go_at_call 15; refine (SP _ _ _ (by first | (with_reducible exact R3) | (with_reducible exact R3.drew)) (by first | (with_reducible exact R2') | (with_reducible exact R2'.drew))).mono ?_; rintro e w5 ⟨rfl, hB⟩; (first | (have Hn : Below w2.heap.size w2 w5 := (by with_reducible exact H0.trans (hB.mono H0.size))) | (have Hn : Below w2.heap.size w2 w5 := (by with_reducible exact H0.drew.trans (hB.mono H0.drew.size)))); clear hB H0; have H0 := Hn; clear Hn))
        all_goals go_wp2_with fail
        all_goals go_meet
        all_goals exact ⟨rfl, by first | (with_reducible exact H0) | (with_reducible exact H0.drew)⟩
      case rest =>
        obtain ⟨hq, hB⟩ := hcut
        subst hq
        generalize wc = w5 at *
        replace T0 := T0.step hB
        clear hB H0 HK SA SB SP tk1
        have X0 : Blk _ w.heap.size _ := T0.b 0 rfl; have a0 := X0.c 0 rfl
        go_wp2_with fail
        refine (T1 _ (HP.out.step T0.below)).mono ?_
        rintro e w6 ⟨g1, rfl, _, R1, hB⟩
        replace T0 := T0.step hB
        have R1' := spIn_row R1
        clear hB X0 a0 R1
        have B5 := Blk.new w6 [.slice (some ⟨g1, 0, none⟩) n n] 28 rfl
        have hB6 := (Below.refl w6.heap.size w6).alloc (Nat.le_refl _) (.cells #[.slice (some ⟨g1, 0, none⟩) n n] 28)
        replace T0 := T0.step hB6
        replace R1' := R1'.step hB6
        clear hB6
        go_upto_region 10 with fail
        generalize w6.alloc (.cells #[.slice (some ⟨g1, 0, none⟩) n n] 28) = W6 at *
        have X1 : Blk _ (w.heap.size + 1) _ := T0.b 1 rfl; have b0 := X1.c 0 rfl
        go_wp2_with fail
        refine (T2 _ (HQ.out.step T0.below)).mono ?_
        rintro e w7 ⟨g2, rfl, _, R2, hB⟩
        replace T0 := T0.step hB
        replace R1' := R1'.step hB
        replace B5 := B5.step hB
        have R2' := spIn_row R2
        clear hB X1 b0 R2
        have B7 := Blk.new w7 [.slice (some ⟨g2, 0, none⟩) m m] 28 rfl
        have hB8 := (Below.refl w7.heap.size w7).alloc (Nat.le_refl _) (.cells #[.slice (some ⟨g2, 0, none⟩) m m] 28)
        replace T0 := T0.step hB8
        replace R1' := R1'.step hB8
        replace R2' := R2'.step hB8
        replace B5 := B5.step hB8
        clear hB8
        go_upto_region 11 with fail
        generalize w7.alloc (.cells #[.slice (some ⟨g2, 0, none⟩) m m] 28) = W7 at *
        have c0 := B5.c 0 rfl; have d0 := B7.c 0 rfl
        go_wp2_with fail
        refine (IM _ _ _ R1' R2').mono ?_
        rintro e w8 ⟨rfl, hB⟩
        replace T0 := T0.step hB
        replace R1' := R1'.step hB
        replace R2' := R2'.step hB
        replace B5 := B5.step hB
        replace B7 := B7.step hB
        clear hB c0 d0 IM
        have SA : Hid (SpIn w8 ao n p) := HP.out.step T0.below
        clear HP
        go_upto_region 14 with fail
        go_cut [39] (fun z wx => z = .bool false ∧ Below w8.heap.size w8 wx)
        case first =>
          have H0 : Below w8.heap.size w8 w8 := Below.refl _ _
          have HK : ∀ V, Below w8.heap.size w8 V → (fun w' : World => w'.cell? ⟨w6.heap.size, 0, none⟩ = some (.slice (some ⟨g1, 0, none⟩) n n) ∧ w'.cell? ⟨w.heap.size, 0, none⟩ = some (.slice ao n cap)) V := fun V h => ⟨(B5.step h).c 0 rfl, ((T0.b 0 rfl).step h).c 0 rfl⟩
          go_region_held3 (fun w' : World => w'.cell? ⟨w6.heap.size, 0, none⟩ = some (.slice (some ⟨g1, 0, none⟩) n n) ∧ w'.cell? ⟨w.heap.size, 0, none⟩ = some (.slice ao n cap)) (refine HK _ ?_ <;> repeat (first | (with_reducible exact H0) | (with_reducible refine Below.drew ?_)))
            (first
              | (go_at_call 10; refine (T1 _ (SA.out.step (by first | (with_reducible exact H0) | (with_reducible exact H0.drew)))).mono ?_; rintro e w9 ⟨g3, rfl, _, R3, hB⟩; (first | (have Hn : Below w8.heap.size w8 w9 := (by with_reducible exact H0.trans (hB.mono H0.size))) | (have Hn : Below w8.heap.size w8 w9 := (by with_reducible exact H0.drew.trans (hB.mono H0.drew.size)))); have R3' := spIn_row R3; clear hB H0 R3; have H0 := Hn; clear Hn)
              | (go_at_call 12; refine (EQ1 _ _ _ (R1'.step (by first | (with_reducible exact H0) | (with_reducible exact H0.drew))) (by first | (with_reducible exact R3') | (with_reducible exact R3'.drew))).mono ?_; rintro e w10 ⟨rfl, hB⟩; (first | (have Hn : Below w8.heap.size w8 w10 := (by with_reducible exact H0.trans (hB.mono H0.size))) | (have Hn : Below w8.heap.size w8 w10 := (by with_reducible exact H0.drew.trans (hB.mono H0.drew.size)))); clear hB H0; have H0 := Hn; clear Hn))
          all_goals go_wp2_with fail
          all_goals go_meet
          all_goals exact ⟨rfl, by first | (with_reducible exact H0) | (with_reducible exact H0.drew)⟩
        case rest =>
          obtain ⟨hq, hB⟩ := hcut
          subst hq
          generalize wc = w11 at *
          replace T0 := T0.step hB
          replace R2' := R2'.step hB
          replace B7 := B7.step hB
          clear hB R1' B5 T1 EQ1 SA
          have SB : Hid (SpIn w11 bo m q) := HQ.out.step T0.below
          clear HQ
          go_upto_region 16 with fail
          go_cut [44] (fun z wx => z = .bool false ∧ Below w11.heap.size w11 wx)
          case first =>
            have H0 : Below w11.heap.size w11 w11 := Below.refl _ _
            have HK : ∀ V, Below w11.heap.size w11 V → (fun w' : World => w'.cell? ⟨w7.heap.size, 0, none⟩ = some (.slice (some ⟨g2, 0, none⟩) m m) ∧ w'.cell? ⟨w.heap.size + 1, 0, none⟩ = some (.slice bo m cap2)) V := fun V h => ⟨(B7.step h).c 0 rfl, ((T0.b 1 rfl).step h).c 0 rfl⟩
            go_region_held3 (fun w' : World => w'.cell? ⟨w7.heap.size, 0, none⟩ = some (.slice (some ⟨g2, 0, none⟩) m m) ∧ w'.cell? ⟨w.heap.size + 1, 0, none⟩ = some (.slice bo m cap2)) (refine HK _ ?_ <;> repeat (first | (with_reducible exact H0) | (with_reducible refine Below.drew ?_)))
              (first
                | (go_at_call 10; refine (T2 _ (SB.out.step (by first | (with_reducible exact H0) | (with_reducible exact H0.drew)))).mono ?_; rintro e w12 ⟨g3, rfl, _, R3, hB⟩; (first | (have Hn : Below w11.heap.size w11 w12 := (by with_reducible exact H0.trans (hB.mono H0.size))) | (have Hn : Below w11.heap.size w11 w12 := (by with_reducible exact H0.drew.trans (hB.mono H0.drew.size)))); have R3' := spIn_row R3; clear hB H0 R3; have H0 := Hn; clear Hn)
                | (go_at_call 12; refine (EQ2 _ _ _ (R2'.step (by first | (with_reducible exact H0) | (with_reducible exact H0.drew))) (by first | (with_reducible exact R3') | (with_reducible exact R3'.drew))).mono ?_; rintro e w13 ⟨rfl, hB⟩; (first | (have Hn : Below w11.heap.size w11 w13 := (by with_reducible exact H0.trans (hB.mono H0.size))) | (have Hn : Below w11.heap.size w11 w13 := (by with_reducible exact H0.drew.trans (hB.mono H0.drew.size)))); clear hB H0; have H0 := Hn; clear Hn))
            all_goals go_wp2_with fail
            all_goals go_meet
            all_goals exact ⟨rfl, by first | (with_reducible exact H0) | (with_reducible exact H0.drew)⟩
          case rest =>
            obtain ⟨hq, hB⟩ := hcut
            subst hq
            have HB := (T0.step hB).below
            clear hB R2' B7 T2 EQ2 SB T0
            go_wp2
            go_ret
            exact ⟨rfl, HB⟩
    · rw [if_neg hs2] at SZ2
      go_wp2_with fail
      refine (SZ2 _).mono ?_
      rintro e w2 ⟨rfl, hB⟩
      have HB := (T0.step hB).below
      clear hB SZ2 X1 b0 T0
      go_wp2
      go_ret
      exact ⟨rfl, HB⟩
  · rw [if_neg (by omega)] at SZ
    go_wp2_with fail
    refine (SZ _).mono ?_
    rintro e w1 ⟨rfl, hB⟩
    have HB := (T0.step hB).below
    clear hB SZ X0 a0 T0
    go_wp2
    go_ret
    exact ⟨rfl, HB⟩
end Go.Proofs.Ytmjlgmoohpnhfaa

/- Rows of rings: copied, held against one another, counted. -/
namespace Go.Proofs.Ytmjlgmoohpnhfaa
open Go.RowKit
/-- n rings lie behind a slice's address, each a slice of spots. -/
def RgIn (w : World) (ao : Option Addr) (n : Nat) (S : Nat → Option Addr × Nat) (L : Nat → Nat) (q : Nat → Ps) : Prop :=
  ∀ i, i < n → ∃ A off, ao = some ⟨A, off, none⟩ ∧ A < w.heap.size ∧ w.cell? ⟨A, off + i, none⟩ = some (.slice (S i).1 (L i) (S i).2) ∧ SpIn w (S i).1 (L i) (q i)
theorem RgIn.step {w w' : World} {ao : Option Addr} {n : Nat} {S : Nat → Option Addr × Nat} {L : Nat → Nat} {q : Nat → Ps} (h : RgIn w ao n S L q) (hB : Below w.heap.size w w') : RgIn w' ao n S L q := fun i hi => by
  obtain ⟨A, off, e, hA, h0, h1⟩ := h i hi
  exact ⟨A, off, e, Nat.lt_of_lt_of_le hA hB.size, (hB.cell (p := ⟨A, off + i, none⟩) hA).trans h0, h1.step hB⟩
theorem RgIn.set {w : World} {ao : Option Addr} {n : Nat} {S : Nat → Option Addr × Nat} {L : Nat → Nat} {q : Nat → Ps} (h : RgIn w ao n S L q) {p : Addr} (ha : ∀ a, ao = some a → a.block ≠ p.block) (hb : ∀ i a, i < n → (S i).1 = some a → a.block ≠ p.block) (u : Value) : RgIn (w.setCell p u) ao n S L q := fun i hi => by
  obtain ⟨A, off, e, hA, h0, h1⟩ := h i hi
  have hk : ∀ g, g ≠ p.block → (w.setCell p u).heap[g]? = w.heap[g]? := fun g hg => Below.heap_setCell _ _ _ _ hg
  refine ⟨A, off, e, by simpa [World.setCell] using hA, (World.cell?_of_block (a := ⟨A, off + i, none⟩) (hk A (ha _ e))).trans h0, fun k hk2 => ?_⟩
  obtain ⟨A2, off2, e2, hA2, c0, c1⟩ := h1 k hk2
  exact ⟨A2, off2, e2, by simpa [World.setCell] using hA2, (World.cell?_of_block (a := ⟨A2, off2 + k * 2, none⟩) (hk A2 (hb i _ hi e2))).trans c0, (World.cell?_of_block (a := ⟨A2, off2 + k * 2 + 1, none⟩) (hk A2 (hb i _ hi e2))).trans c1⟩
theorem RgIn.drew {w : World} {ao : Option Addr} {n : Nat} {S : Nat → Option Addr × Nat} {L : Nat → Nat} {q : Nat → Ps} (h : RgIn w ao n S L q) : RgIn w.drew ao n S L q := h
end Go.Proofs.Ytmjlgmoohpnhfaa

/- How spots and segments read as data, beside points: opened and shut. -/
namespace Go.Proofs.Ytmjlgmoohpnhfaa
open Go.ChangeShapes Go.WideShapes Go.ChangeAt Go.RowKit Go.Joins
abbrev Wf (x : Int) : Prop := (Lit.int .i64 x).wf = true
abbrev SpD {H : Type} (x y : Int) : DataW H := .agg [.lit (.int .i64 x), .lit (.int .i64 y)]
theorem trod_spot {H : Type} {enc : TypeId × Value → H} {w : World} {base : Nat} {spare : TypeId → Bool} {held : Bool} {n : Nat} {c0 c1 : Value} {y : DataW H × List MemPlace} (h : DataW.trod enc Try.prog w base spare held n 44 [c0, c1] = some y) :
    ∃ a b : Int, c0 = .int .i64 a ∧ c1 = .int .i64 b ∧ y = (SpD a b, []) ∧ Wf a ∧ Wf b := by
  obtain ⟨y0, y1, m, hx, _, h0, h1⟩ := trod_struct2 Try.underlying44 h
  obtain ⟨a, e0, rfl, wa⟩ := DataW.trod_int Try.underlying2 h0
  obtain ⟨b, e1, rfl, wb⟩ := DataW.trod_int Try.underlying2 h1
  have k : Try.prog.cellsOf 2 = 1 := by kernel_rfl
  simp [k] at e0 e1
  exact ⟨a, b, e0, e1, hx, wa, wb⟩
end Go.Proofs.Ytmjlgmoohpnhfaa

/- How rings, and rows of rings, read as data. -/
namespace Go.Proofs.Ytmjlgmoohpnhfaa
open Go.ChangeShapes Go.WideShapes Go.ChangeAt Go.RowKit Go.Joins
theorem Try.laidOut : laidOutB Try.prog = true := by kernel_rfl
theorem Try.cellsSpotL : Try.prog.cellsOf 44 = 2 := by kernel_rfl
theorem Try.cellsRing : Try.prog.cellsOf 24 = 1 := by kernel_rfl
theorem Try.cellsSpotS : Try.prog.cellsOf 22 = 1 := by kernel_rfl
theorem spots_of {H : Type} {enc : TypeId × Value → H} {W : World} {a : Addr} {len m n : Nat} {D : Nat → DataW H} {Pl : Nat → List MemPlace} (hl : len ≤ m)
    (hx : ∀ i, i < m → ∃ cs', W.cells? 0 (a.add (i * Try.prog.cellsOf 44)) (Try.prog.cellsOf 44) = some cs' ∧ DataW.trod enc Try.prog W 0 (fun _ => true) true n 44 cs' = some (D i, Pl i))
    (hlt : ∀ x ∈ MemPlace.row a (m * Try.prog.cellsOf 44), x.block < W.heap.size) : ∃ p : Ps, SpIn W (some a) len p := by
  rw [Try.cellsSpotL] at hx hlt
  have each : ∀ i, i < m → ∃ q : Int × Int, W.cell? (a.add (i * 2)) = some (.int .i64 q.1) ∧ W.cell? (a.add (i * 2 + 1)) = some (.int .i64 q.2) := by
    intro i hi
    obtain ⟨cs', h1, h2⟩ := hx i hi
    obtain ⟨_, hlen, hcell⟩ := World.cells?_some h1
    match cs', hlen with
    | [v0, v1], _ =>
      have e0 := hcell 0 (by omega); have e1 := hcell 1 (by omega)
      rw [Go.Deep.add_add] at e0 e1
      obtain ⟨x, y, rfl, rfl, -, -, -⟩ := trod_spot h2
      exact ⟨(x, y), by simpa using e0, by simpa using e1⟩
  obtain ⟨q, hq⟩ := Go.Deep.choose_lt each
  obtain ⟨ab, ao, spot⟩ := a
  refine ⟨q, fun i hi => ?_⟩
  have hspot : spot = none := by simpa [Addr.add] using World.cell?_spot (hq 0 (by omega)).1
  subst hspot
  obtain ⟨c0, c1⟩ := hq i (by omega)
  rw [Addr.add_lit] at c0 c1
  exact ⟨ab, ao, rfl, hlt (.cell ab (ao + i * 2)) (by simp only [MemPlace.row, List.mem_map, List.mem_range]; exact ⟨i * 2, by omega, rfl⟩), c0, by simpa [Nat.add_assoc] using c1⟩
set_option maxRecDepth 100000 in
/-- A ring that is handed in: a slice of spots. -/
theorem open_ring {H : Type} {enc : TypeId × Value → H} {W : World} {base : Nat} {v : Value} {d : DataW H} {pl : List MemPlace} (ok : Value.okWide Try.prog W .any base 24 v) (h : DataW.Trod enc Try.prog W 0 (fun _ => true) true 24 v d pl) (hlt : ∀ x ∈ pl, x.block < W.heap.size) :
    ∃ ao n cap p, v = .agg #[.slice ao n cap] ∧ n ≤ 9223372036854775807 ∧ SpIn W ao n p := by
  obtain ⟨cs, rfl, hsz⟩ := okWide_struct Try.underlying24 ok
  rw [Try.cellsRing] at hsz
  obtain ⟨c0, rfl⟩ : ∃ c0, cs = #[c0] := by
    obtain ⟨l⟩ := cs
    match l, hsz with
    | [c0], _ => exact ⟨c0, rfl⟩
  obtain ⟨fuel, hf⟩ := h
  simp only [Value.cells] at hf
  obtain ⟨y0, k, hy, _, g0⟩ := trod_struct1 Try.underlying24 hf
  simp [Try.cellsSpotS] at g0
  have hpl : pl = y0.2 := by have := congrArg Prod.snd hy; simpa using this
  rcases Go.Deep.open_slice Try.underlying22 g0 with ⟨hcs, -⟩ | ⟨a', len', cap', m', n', D', Pl', hcs, _, hl', hm', hz', hx', hel'⟩
  · simp at hcs
    subst hcs
    exact ⟨none, 0, 0, fun _ => (0, 0), rfl, Nat.zero_le _, fun i hi => absurd hi (Nat.not_lt_zero _)⟩
  · simp at hcs
    subst hcs
    simp only [if_true] at hz'
    have hb : ∀ x ∈ MemPlace.row a' (m' * Try.prog.cellsOf 44), x.block < W.heap.size := fun x hxx => hlt x (by
      rw [hpl, hx']
      exact List.mem_append_left _ hxx)
    obtain ⟨p, hp⟩ := spots_of (len := len') (by omega) hel' hb
    exact ⟨some a', len', cap', p, rfl, by have := hm'; simp [maxLen] at this; omega, hp⟩
end Go.Proofs.Ytmjlgmoohpnhfaa

/- What the row of a law asks of the program as a whole, each by itself. -/
namespace Go.Proofs.Ytmjlgmoohpnhfaa
open Go.ChangeShapes Go.WideShapes Go.ChangeAt Go.RowKit Go.Joins
theorem jn_laid : laidOutB Try.pinned.checked.prog = true := by kernel_rfl
theorem jn_maps : mapsRowed Try.pinned.checked.prog = true := by kernel_rfl
theorem jn_enter : Try.pinned.checked.prog.mayEnter = true := by kernel_rfl
theorem jn_heard : Try.pinned.checked.prog.stopsHeard = true := by kernel_rfl
end Go.Proofs.Ytmjlgmoohpnhfaa
