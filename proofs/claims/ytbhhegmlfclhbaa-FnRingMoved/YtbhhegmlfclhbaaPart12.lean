/- Part 12 of the walks that the proof leans on. -/
import Derived.Test.YtbhhegmlfclhbaaPart11
import Derived.Test.YtbhhegmlfclhbaaPart9
import Derived.Laws.AppendOwn
import Derived.Test.YtbhhegmlfclhbaaPart4
import Derived.Test.YtbhhegmlfclhbaaPart7
import Derived.Test.YtbhhegmlfclhbaaPart3
/- What is at fault in a ring: the model's walk. -/
namespace Go.Proofs.Ytbhhegmlfclhbaa
open Go.RowKit
set_option maxRecDepth 100000 in
set_option maxHeartbeats 200000000 in
theorem specRingFault_any (ao : Option Addr) (n cap : Nat) (p : Ps) (hn : n ≤ 1048576) (w : World) (hS : SpIn w ao n p) : Calls Try.prog 7 #[.agg #[.slice ao n cap]] w (VP (.int .i64 (rgF n p)) w) := by
  have B0 := Blk.new w [.slice ao n cap] 26 rfl
  have HB0 : Below w.heap.size w (w.alloc (.cells #[.slice ao n cap] 26)) := (Below.refl _ w).alloc (Nat.le_refl _) _
  have HS0 := hS.step HB0
  have b0 := B0.c 0 rfl
  have hnI : (n : Int) ≤ 1048576 := by omega
  clear hS
  go_enter Try.func7, Try.ntmps7
  go_upto_region 1 with fail
  generalize (w.alloc (.cells #[.slice ao n cap] 26)) = W1 at *
  by_cases h1 : n < 3
  · have HO : Hid (rgF n p = 1) := by show _ = _; unfold rgF; rw [if_pos h1]
    have h1I : (n : Int) < 3 := by omega
    clear HS0 B0
    go_wp2
    go_ret
    exact ⟨by rw [HO.out]; rfl, HB0⟩
  by_cases h2 : 12 < n
  · have HO : Hid (rgF n p = 2) := by show _ = _; unfold rgF; rw [if_neg h1, if_pos h2]
    have h1I : (3 : Int) ≤ n := by omega
    have h2I : (12 : Int) < n := by omega
    clear HS0 B0
    go_wp2
    go_ret
    exact ⟨by rw [HO.out]; rfl, HB0⟩
  have h1I : (3 : Int) ≤ n := by omega
  have h2I : (n : Int) ≤ 12 := by omega
  have HS : Hid (SpIn W1 ao n p) := HS0
  clear HS0
  go_wp2_with fail
  clear b0
  go_loopw [4] (fun i wr => ∃ c : Nat, c ≤ n ∧ i = .int .i64 c ∧ (∀ j, j < c → spotOk (p j).1 (p j).2 = true) ∧ Below W1.heap.size W1 wr) (fun i _ => n - (intOf i).toNat)
  case atStart => exact ⟨0, by omega, rfl, fun j hj => by omega, Below.refl _ _⟩
  case round =>
    obtain ⟨c, hc, rfl, hall, HB⟩ := hrel
    have HA : Hid (∀ j, j < c → spotOk (p j).1 (p j).2 = true) := hall
    clear hall
    by_cases hcn : c < n
    · obtain ⟨A, off, rfl, hA, q0, q1⟩ := HS.out.step HB c hcn
      have hcI : (c : Int) < n := by omega
      have b0 := (B0.step HB).c 0 rfl
      go_wp2_with fail
      refine (specSpotOk_any (p c).1 (p c).2 _ rfl _).mono ?_
      rintro e w1 ⟨rfl, hB⟩
      replace HB := HB.trans (hB.mono HB.size)
      clear hB q0 q1 hA b0
      by_cases hk : spotOk (p c).1 (p c).2 = true
      · rw [hk]
        have HK : Hid (spotOk (p c).1 (p c).2 = true) := hk
        clear hk
        go_wp2
        go_roundw
        case rel => exact ⟨c + 1, by omega, by go_num, fun j hj => by
          rcases Nat.lt_or_ge j c with h | h
          · exact HA.out j h
          · obtain rfl : j = c := by omega
            exact HK.out, HB⟩
        case measure => simp [intOf]; omega
      · have HO : Hid (rgF n p = 3) := by show _ = _; unfold rgF; rw [if_neg h1, if_neg h2, if_pos (fun h => hk (h c hcn))]
        rw [Bool.eq_false_iff.2 hk]
        have HBF := HB0.trans (HB.mono HB0.size)
        clear hk
        go_wp2
        go_ret
        exact ⟨by rw [HO.out]; rfl, HBF⟩
    · obtain rfl : n = c := by omega
      have HB1 := HB0.trans (HB.mono HB0.size)
      have HS1 : Hid (SpIn wr ao n p) := HS.out.step HB
      have B1 := B0.step HB
      clear HS B0 HB
      go_wp2_with fail
      generalize wr = W2 at *
      go_loopw [5] (fun i wr => ∃ c : Nat, c ≤ n ∧ i = .int .i64 c ∧ (∀ j, j < c → ∀ k, k < j → p j ≠ p k) ∧ Below W2.heap.size W2 wr) (fun i _ => n - (intOf i).toNat)
      case atStart => exact ⟨0, by omega, rfl, fun j hj => by omega, Below.refl _ _⟩
      case round =>
        rename_i hrel
        obtain ⟨c, hc, rfl, hall, HB⟩ := hrel
        have HC : Hid (∀ j, j < c → ∀ k, k < j → p j ≠ p k) := hall
        clear hall
        by_cases hcn : c < n
        · have hcI : (c : Int) < n := by omega
          have HSo : Hid (SpIn wr ao n p) := HS1.out.step HB
          have HB4 := HB1.trans (HB.mono HB1.size)
          have B3 := B1.step HB
          have HBo := HB
          clear HB
          go_wp2_with fail
          generalize wr = W4 at *
          go_loopw [6] (fun i wr => ∃ d : Nat, d ≤ c ∧ i = .int .i64 d ∧ (∀ k, k < d → p c ≠ p k) ∧ Below W4.heap.size W4 wr) (fun i _ => c - (intOf i).toNat)
          case atStart => exact ⟨0, by omega, rfl, fun j hj => by omega, Below.refl _ _⟩
          case round =>
            rename_i hrel
            obtain ⟨d, hd, rfl, hall, HB⟩ := hrel
            have HE : Hid (∀ k, k < d → p c ≠ p k) := hall
            clear hall
            by_cases hdn : d < c
            · have hdI : (d : Int) < c := by omega
              have hdI2 : (d : Int) < n := by omega
              obtain ⟨A, off, rfl, hA, q0, q1⟩ := HSo.out.step HB c hcn
              obtain ⟨A', off', hao, -, m0, m1⟩ := HSo.out.step HB d (by omega)
              obtain ⟨rfl, rfl⟩ : A = A' ∧ off = off' := by simpa using hao
              have b0 := (B3.step HB).c 0 rfl
              have EQ := eqSp2 (p c).1 (p c).2 (p d).1 (p d).2
              have KS : (fun w' : World => w'.cell? ⟨w.heap.size, 0, none⟩ = some (.slice (some ⟨A, off, none⟩) n cap) ∧ w'.cell? ⟨A, off + c * 2, none⟩ = some (.int .i64 (p c).1) ∧ w'.cell? ⟨A, off + c * 2 + 1, none⟩ = some (.int .i64 (p c).2) ∧ w'.cell? ⟨A, off + d * 2, none⟩ = some (.int .i64 (p d).1) ∧ w'.cell? ⟨A, off + d * 2 + 1, none⟩ = some (.int .i64 (p d).2)) wr := ⟨b0, q0, q1, m0, m1⟩
              go_upto_region 17 with fail
              go_region_held3 (fun w' : World => w'.cell? ⟨w.heap.size, 0, none⟩ = some (.slice (some ⟨A, off, none⟩) n cap) ∧ w'.cell? ⟨A, off + c * 2, none⟩ = some (.int .i64 (p c).1) ∧ w'.cell? ⟨A, off + c * 2 + 1, none⟩ = some (.int .i64 (p c).2) ∧ w'.cell? ⟨A, off + d * 2, none⟩ = some (.int .i64 (p d).1) ∧ w'.cell? ⟨A, off + d * 2 + 1, none⟩ = some (.int .i64 (p d).2)) (exact KS) (fail)
              all_goals have HBD := HB.drew
              all_goals clear KS b0 q0 q1 m0 m1 EQ hao hA HB
              all_goals by_cases h : (p c).1 = (p d).1 ∧ (p c).2 = (p d).2
              all_goals first
                | (have HO : Hid (rgF n p = 4) := by
                     show _ = _
                     unfold rgF
                     rw [if_neg h1, if_neg h2, if_neg (fun hh => hh HA.out), if_pos (fun hh => hh c hcn d hdn (Prod.ext h.1 h.2))]
                   have d1 : (decide ((p c).1 = (p d).1) && decide ((p c).2 = (p d).2)) = true := by simp [h.1, h.2]
                   rw [d1]
                   have HBF := HB4.trans (HBD.mono HB4.size)
                   clear d1 h
                   go_wp2
                   go_ret
                   exact ⟨by rw [HO.out]; rfl, HBF⟩)
                | (have HH : Hid (p c ≠ p d) := fun e => h ⟨by rw [e], by rw [e]⟩
                   have d1 : (decide ((p c).1 = (p d).1) && decide ((p c).2 = (p d).2)) = false := by
                     rw [Bool.eq_false_iff]
                     intro hh
                     simp at hh
                     exact h hh
                   rw [d1]
                   clear d1 h
                   go_wp2
                   go_roundw)
              case rel => exact ⟨d + 1, by omega, by go_num, fun k hk => by
                rcases Nat.lt_or_ge k d with h | h
                · exact HE.out k h
                · obtain rfl : k = d := by omega
                  exact HH.out, HBD⟩
              case measure => simp [intOf]; omega
            · obtain rfl : c = d := by omega
              have HBF := HBo.trans (HB.mono HBo.size)
              clear HB HBo HB4 HSo B3
              go_wp2
              go_roundw
              case rel => exact ⟨c + 1, by omega, by go_num, fun j hj => by
                rcases Nat.lt_or_ge j c with h | h
                · exact HC.out j h
                · obtain rfl : j = c := by omega
                  exact HE.out, HBF⟩
              case measure => simp [intOf]; omega
        · obtain rfl : n = c := by omega
          have HB3 := HB1.trans (HB.mono HB1.size)
          have HS2 : Hid (SpIn wr ao n p) := HS1.out.step HB
          have B2 := B1.step HB
          clear HS1 B1 HB HB1
          go_wp2_with fail
          generalize wr = W3 at *
          go_loopw [7] (fun i wr => ∃ c : Nat, c ≤ n ∧ i = .int .i64 c ∧ (∀ j, j < c → ∀ k, k < j → bdB n p j k = false) ∧ Below W3.heap.size W3 wr) (fun i _ => n - (intOf i).toNat)
          case atStart => exact ⟨0, by omega, rfl, fun j hj => by omega, Below.refl _ _⟩
          case round =>
            rename_i hrel
            obtain ⟨c, hc, rfl, hall, HB⟩ := hrel
            have HD : Hid (∀ j, j < c → ∀ k, k < j → bdB n p j k = false) := hall
            clear hall
            by_cases hcn : c < n
            · have hcI : (c : Int) < n := by omega
              have HSo : Hid (SpIn wr ao n p) := HS2.out.step HB
              have HB4 := HB3.trans (HB.mono HB3.size)
              have B3 := B2.step HB
              have HBo := HB
              clear HB
              go_wp2_with fail
              generalize wr = W4 at *
              go_loopw [8] (fun i wr => ∃ d : Nat, d ≤ c ∧ i = .int .i64 d ∧ (∀ k, k < d → bdB n p c k = false) ∧ Below W4.heap.size W4 wr) (fun i _ => c - (intOf i).toNat)
              case atStart => exact ⟨0, by omega, rfl, fun j hj => by omega, Below.refl _ _⟩
              case round =>
                rename_i hrel
                obtain ⟨d, hd, rfl, hall, HB⟩ := hrel
                have HE : Hid (∀ k, k < d → bdB n p c k = false) := hall
                clear hall
                by_cases hdn : d < c
                · have hdI : (d : Int) < c := by omega
                  have HSr := HSo.out.step HB
                  have B4 := B3.step HB
                  obtain ⟨A, off, rfl, -, -, -⟩ := HSr c hcn
                  obtain ⟨i1, i2, i3, i4⟩ := in1_seg (side_ok HA.out HC.out (by omega) hcn)
                  obtain ⟨j1, j2, j3, j4⟩ := in1_seg (side_ok HA.out HC.out (by omega) (show d < n by omega))
                  have L1 := fun w h => l5Side_any (some ⟨A, off, none⟩) n cap p c hcn hn w h
                  have L2 := fun w h => l5Side_any (some ⟨A, off, none⟩) n cap p d (by omega) hn w h
                  have LM := l4Meet_any (sdA n p c).1 (sdA n p c).2.1 (sdA n p c).2.2.1 (sdA n p c).2.2.2 (sdA n p d).1 (sdA n p d).2.1 (sdA n p d).2.2.1 (sdA n p d).2.2.2 i1 i2 i3 i4 j1 j2 j3 j4
                  have hbs := bd_same HC.out (by omega) hcn hdn
                  have hkin : kdA n p c d = 0 ∨ kdA n p c d = 1 ∨ kdA n p c d = 2 := knd_in _ _ _ _ _ _ _ _
                  go_upto_region 25 with fail
                  go_cut [9] (fun m wx => m = .int .i64 (kdA n p c d) ∧ Below wr.heap.size wr wx)
                  case first =>
                    clear HE HD HB4 HSo HS2 HA HC hbs hkin L1 L2 LM
                    refine reg25 (c := c) (d := d) hcn (by omega) hn HSr i1 i2 i3 i4 j1 j2 j3 j4 (by have hz := HB3.size; have hz2 := HBo.size; first | exact B4.lt | omega) (B4.c 0 rfl) rfl rfl rfl rfl (by simp) (by simp) (by simp) (by simp) ?_
                    rintro ⟨tm, df⟩ Wz hz hdf hoff h9 hBz
                    simp only at hz hdf hoff h9
                    subst hdf
                    have htm := tmps_fold [64, 65, 66, 67, 68, 69, 70, 63, 71, 72, 73, 10, 11, 9] tm _ hz hoff
                    simp only [List.foldl, List.setIfInBounds_toArray, List.set_cons_zero, List.set_cons_succ, h9] at htm
                    clear hz hoff
                    generalize tm.getD 64 undef = u0, tm.getD 65 undef = u1, tm.getD 66 undef = u2, tm.getD 67 undef = u3, tm.getD 68 undef = u4, tm.getD 69 undef = u5, tm.getD 70 undef = u6, tm.getD 63 undef = u7, tm.getD 71 undef = u8, tm.getD 72 undef = u9, tm.getD 73 undef = u10, tm.getD 10 undef = u11, tm.getD 11 undef = u12 at htm
                    clear h9
                    subst htm
                    go_wp2_with fail
                    go_meet
                    exact ⟨rfl, hBz⟩
                  case rest =>
                    obtain ⟨hm, hBc⟩ := hcut
                    subst hm
                    have HB5 := HB.trans (hBc.mono HB.size)
                    clear hBc HB B4 HSr L1 L2 LM i1 i2 i3 i4 j1 j2 j3 j4
                    generalize kdA n p c d = z at *
                    have hs1 : IntKind.i64.wrap ((c : Int) - 1) = (c : Int) - 1 := by rw [IntKind.wrap_i64]; omega
                    have hs2 : IntKind.i64.wrap ((n : Int) - 1) = (n : Int) - 1 := by rw [IntKind.wrap_i64]; omega
                    have HBS : Hid (bdB n p c d = ((nxB n c d && !(decide (z = 1))) || (!(nxB n c d) && !(decide (z = 0))))) := hbs
                    clear hbs
                    have HBF := HB4.trans (HB5.mono HB4.size)
                    rcases (show (d + 1 = c) ∨ (d + 1 ≠ c ∧ d = 0 ∧ c + 1 = n) ∨ (d + 1 ≠ c ∧ d = 0 ∧ c + 1 ≠ n) ∨ (d + 1 ≠ c ∧ d ≠ 0) by omega) with hN1 | hN2 | hN3 | hN4
                    · have HX : Hid (nxB n c d = true) := by show _ = _; unfold nxB; simp; omega
                      have b1 : ((d : Int) == (c : Int) - 1) = true := beq_iff_eq.2 (by omega)
                      clear hN1
                      rcases hkin with rfl | rfl | rfl
                      · have HO : Hid (rgF n p = 5) := by
                          show _ = _
                          unfold rgF
                          rw [if_neg h1, if_neg h2, if_neg (fun hh => hh HA.out), if_neg (fun hh => hh HC.out), if_pos (fun hh => by
                            have e := hh c hcn d hdn
                            rw [HBS.out, HX.out] at e
                            simp at e)]
                        go_wp2
                        go_ret
                        exact ⟨by rw [HO.out]; rfl, HBF⟩
                      · have HN : Hid (bdB n p c d = false) := by show _ = _; rw [HBS.out, HX.out]; rfl
                        go_wp2
                        go_roundw
                        case rel => exact ⟨d + 1, by omega, by go_num, fun k hk => by
                          rcases Nat.lt_or_ge k d with h | h
                          · exact HE.out k h
                          · obtain rfl : k = d := by omega
                            exact HN.out, HB5⟩
                        case measure => simp [intOf]; omega
                      · have HO : Hid (rgF n p = 5) := by
                          show _ = _
                          unfold rgF
                          rw [if_neg h1, if_neg h2, if_neg (fun hh => hh HA.out), if_neg (fun hh => hh HC.out), if_pos (fun hh => by
                            have e := hh c hcn d hdn
                            rw [HBS.out, HX.out] at e
                            simp at e)]
                        go_wp2
                        go_ret
                        exact ⟨by rw [HO.out]; rfl, HBF⟩
                    · have HX : Hid (nxB n c d = true) := by show _ = _; unfold nxB; simp; omega
                      have b1 : ((d : Int) == (c : Int) - 1) = false := beq_eq_false_iff_ne.2 (by omega)
                      have b2 : ((d : Int) == 0) = true := beq_iff_eq.2 (by omega)
                      have b3 : ((c : Int) == (n : Int) - 1) = true := beq_iff_eq.2 (by omega)
                      clear hN2
                      rcases hkin with rfl | rfl | rfl
                      · have HO : Hid (rgF n p = 5) := by
                          show _ = _
                          unfold rgF
                          rw [if_neg h1, if_neg h2, if_neg (fun hh => hh HA.out), if_neg (fun hh => hh HC.out), if_pos (fun hh => by
                            have e := hh c hcn d hdn
                            rw [HBS.out, HX.out] at e
                            simp at e)]
                        go_wp2
                        go_ret
                        exact ⟨by rw [HO.out]; rfl, HBF⟩
                      · have HN : Hid (bdB n p c d = false) := by show _ = _; rw [HBS.out, HX.out]; rfl
                        go_wp2
                        go_roundw
                        case rel => exact ⟨d + 1, by omega, by go_num, fun k hk => by
                          rcases Nat.lt_or_ge k d with h | h
                          · exact HE.out k h
                          · obtain rfl : k = d := by omega
                            exact HN.out, HB5⟩
                        case measure => simp [intOf]; omega
                      · have HO : Hid (rgF n p = 5) := by
                          show _ = _
                          unfold rgF
                          rw [if_neg h1, if_neg h2, if_neg (fun hh => hh HA.out), if_neg (fun hh => hh HC.out), if_pos (fun hh => by
                            have e := hh c hcn d hdn
                            rw [HBS.out, HX.out] at e
                            simp at e)]
                        go_wp2
                        go_ret
                        exact ⟨by rw [HO.out]; rfl, HBF⟩
                    · have HX : Hid (nxB n c d = false) := by show _ = _; unfold nxB; rw [Bool.eq_false_iff]; intro hh; simp at hh; omega
                      have b1 : ((d : Int) == (c : Int) - 1) = false := beq_eq_false_iff_ne.2 (by omega)
                      have b2 : ((d : Int) == 0) = true := beq_iff_eq.2 (by omega)
                      have b3 : ((c : Int) == (n : Int) - 1) = false := beq_eq_false_iff_ne.2 (by omega)
                      clear hN3
                      rcases hkin with rfl | rfl | rfl
                      · have HN : Hid (bdB n p c d = false) := by show _ = _; rw [HBS.out, HX.out]; rfl
                        go_wp2
                        go_roundw
                        case rel => exact ⟨d + 1, by omega, by go_num, fun k hk => by
                          rcases Nat.lt_or_ge k d with h | h
                          · exact HE.out k h
                          · obtain rfl : k = d := by omega
                            exact HN.out, HB5⟩
                        case measure => simp [intOf]; omega
                      · have HO : Hid (rgF n p = 5) := by
                          show _ = _
                          unfold rgF
                          rw [if_neg h1, if_neg h2, if_neg (fun hh => hh HA.out), if_neg (fun hh => hh HC.out), if_pos (fun hh => by
                            have e := hh c hcn d hdn
                            rw [HBS.out, HX.out] at e
                            simp at e)]
                        go_wp2
                        go_ret
                        exact ⟨by rw [HO.out]; rfl, HBF⟩
                      · have HO : Hid (rgF n p = 5) := by
                          show _ = _
                          unfold rgF
                          rw [if_neg h1, if_neg h2, if_neg (fun hh => hh HA.out), if_neg (fun hh => hh HC.out), if_pos (fun hh => by
                            have e := hh c hcn d hdn
                            rw [HBS.out, HX.out] at e
                            simp at e)]
                        go_wp2
                        go_ret
                        exact ⟨by rw [HO.out]; rfl, HBF⟩
                    · have HX : Hid (nxB n c d = false) := by show _ = _; unfold nxB; rw [Bool.eq_false_iff]; intro hh; simp at hh; omega
                      have b1 : ((d : Int) == (c : Int) - 1) = false := beq_eq_false_iff_ne.2 (by omega)
                      have b2 : ((d : Int) == 0) = false := beq_eq_false_iff_ne.2 (by omega)
                      clear hN4
                      rcases hkin with rfl | rfl | rfl
                      · have HN : Hid (bdB n p c d = false) := by show _ = _; rw [HBS.out, HX.out]; rfl
                        go_wp2
                        go_roundw
                        case rel => exact ⟨d + 1, by omega, by go_num, fun k hk => by
                          rcases Nat.lt_or_ge k d with h | h
                          · exact HE.out k h
                          · obtain rfl : k = d := by omega
                            exact HN.out, HB5⟩
                        case measure => simp [intOf]; omega
                      · have HO : Hid (rgF n p = 5) := by
                          show _ = _
                          unfold rgF
                          rw [if_neg h1, if_neg h2, if_neg (fun hh => hh HA.out), if_neg (fun hh => hh HC.out), if_pos (fun hh => by
                            have e := hh c hcn d hdn
                            rw [HBS.out, HX.out] at e
                            simp at e)]
                        go_wp2
                        go_ret
                        exact ⟨by rw [HO.out]; rfl, HBF⟩
                      · have HO : Hid (rgF n p = 5) := by
                          show _ = _
                          unfold rgF
                          rw [if_neg h1, if_neg h2, if_neg (fun hh => hh HA.out), if_neg (fun hh => hh HC.out), if_pos (fun hh => by
                            have e := hh c hcn d hdn
                            rw [HBS.out, HX.out] at e
                            simp at e)]
                        go_wp2
                        go_ret
                        exact ⟨by rw [HO.out]; rfl, HBF⟩
                · obtain rfl : c = d := by omega
                  have HBF := HBo.trans (HB.mono HBo.size)
                  clear HB HBo HB4 HSo B3
                  go_wp2
                  go_roundw
                  case rel => exact ⟨c + 1, by omega, by go_num, fun j hj => by
                    rcases Nat.lt_or_ge j c with h | h
                    · exact HD.out j h
                    · obtain rfl : j = c := by omega
                      exact HE.out, HBF⟩
                  case measure => simp [intOf]; omega
            · obtain rfl : n = c := by omega
              have HO : Hid (rgF n p = 0) := by
                show _ = _
                unfold rgF
                rw [if_neg h1, if_neg h2, if_neg (fun hh => hh HA.out), if_neg (fun hh => hh HC.out), if_neg (fun hh => hh HD.out)]
              have HBF := HB3.trans (HB.mono HB3.size)
              clear HS2 B2 HB HB3 HA HC HD
              go_wp2
              go_ret
              exact ⟨by rw [HO.out]; rfl, HBF⟩
end Go.Proofs.Ytbhhegmlfclhbaa

/- Rings that are turned: the program's small walks. -/
namespace Go.Proofs.Ytbhhegmlfclhbaa
open Go.RowKit
set_option maxRecDepth 100000 in
theorem rright_any (ao : Option Addr) (n cap : Nat) (p : Ps) (hn : n ≤ 1048576) (hcap : n ≤ cap) (hcap2 : cap ≤ 9223372036854775807) (w : World) (hS : SpIn w ao n p) : Calls Try.prog 22 #[.agg #[.slice ao n cap]] w (BoolP (decide (rgF n p = 0)) w) := by
  have C := fun w h => implRingFault_any ao n cap p hn hcap hcap2 w h
  have HS := hS.step ((Below.refl _ _).alloc (Nat.le_refl _) (.cells #[.slice ao n cap] 26))
  revert C
  generalize rgF n p = o
  intro C
  clear hS
  go_enter Try.func22, Try.ntmps22
  go_wp2_with fail
  refine (C _ HS).mono ?_
  rintro e w1 ⟨rfl, hB⟩
  have HB : Below w.heap.size w w1 := ((Below.refl _ _).alloc (Nat.le_refl _) _).trans (hB.mono (by simp))
  clear hB C HS
  by_cases h : o = 0
  · subst h
    go_wp2
    go_ret
    exact ⟨rfl, HB⟩
  · have hf : (o == 0) = false := by simp; omega
    have HD : Hid (decide (o = 0) = false) := decide_eq_false h
    go_wp2
    go_ret
    exact ⟨by rw [HD.out]; rfl, HB⟩
/-- The cells of n spots, one behind the other. -/
def spL (n : Nat) (p : Ps) : List Value := (List.range (n * 2)).map fun (i : Nat) => Value.int .i64 (spW p i)
theorem spL_len (n : Nat) (p : Ps) : (spL n p).length = n * 2 := by simp [spL]
theorem spL_at {n : Nat} {p : Ps} {i : Nat} (h : i < n * 2) : (spL n p)[i]? = some (.int .i64 (spW p i)) := by simp [spL, h]
theorem spIn_at {w : World} {g n : Nat} {p : Ps} (h : SpIn w (some ⟨g, 0, none⟩) n p) {j : Nat} (hj : j < n * 2) : g < w.heap.size ∧ w.cell? ⟨g, j, none⟩ = some (.int .i64 (spW p j)) := by
  obtain ⟨A, off, e, hA, h0, h1⟩ := h (j / 2) (by omega)
  cases e
  rcases Nat.mod_two_eq_zero_or_one j with e | e
  · refine ⟨hA, ?_⟩
    have := spW0 p (j / 2)
    rw [show 0 + j / 2 * 2 = j by omega] at h0
    rw [show j / 2 * 2 = j by omega] at this
    rw [h0, this]
  · refine ⟨hA, ?_⟩
    have := spW1 p (j / 2)
    rw [show 0 + j / 2 * 2 + 1 = j by omega] at h1
    rw [show j / 2 * 2 + 1 = j by omega] at this
    rw [h1, this]
set_option maxRecDepth 100000 in
set_option maxHeartbeats 2000000 in
theorem clone_in (g n cap : Nat) (p : Ps) (hn : n ≤ 1048576) (w : World) (R : SpIn w (some ⟨g, 0, none⟩) n p) :
    Calls Try.prog 46 #[.slice (some ⟨g, 0, none⟩) n cap] w (fun e w' => ∃ v, e = .returned v ∧ v ≠ .slice none 0 0 ∧ w'.ownsRow w.heap.size 38 2 v n (spL n p) ∧ Below w.heap.size w w') := by
  obtain ⟨i0, hi, hz0, hz1, hz2⟩ := info_parts Try.infoSpot
  have q := fun (w : World) (a : Option Addr) (n c n' c' : Nat) => Lib.run_eql_slice_nil (P := Try.prog) w _ _ a n c n' c' Try.underlying24
  have HR : Hid (SpIn w (some ⟨g, 0, none⟩) n p) := R
  clear R
  go_enter Try.func46, Try.ntmps46
  go_wp2_with (at_builtin; refine wpList_append_own _ rfl _ _ 24 rfl w.heap.size 38 i0 (.agg #[.int .i64 0, .int .i64 0]) 2 16 Try.underlying24 hi hz0 hz1 hz2 rfl (by decide) _ _ _ rfl (World.ownsRow_made w #[] 0 (Nat.le_refl _) (by decide) rfl) ⟨g, 0, none⟩ n cap (spL n p) rfl ?c1 ?c2 ?c3 ?c4 ?c5 ?c6 ?_)
  case c1 => exact spL_len n p
  case c2 =>
    intro j u hj
    have hjl : j < n * 2 := by have := (List.getElem?_eq_some_iff.1 hj).1; rw [spL_len] at this; exact this
    rw [spL_at hjl] at hj
    cases hj
    rw [Addr.add_lit, Nat.zero_add]
    exact cell_alloc (spIn_at HR.out hjl).1 (spIn_at HR.out hjl).2
  case c3 =>
    intro u hu
    obtain ⟨i, _, rfl⟩ := List.mem_map.1 hu
    rfl
  case c4 => unfold maxLen; omega
  case c5 => omega
  case c6 => simp
  intro v w1 hown hgrow hne
  have HB : Below w.heap.size w w1 := ((Below.refl _ _).alloc (Nat.le_refl _) _).grown hgrow (by simp) (fun k hk => by cases hk; exact Nat.le_refl _)
  clear hgrow
  go_wp2
  go_ret
  exact ⟨_, rfl, hne, hown, HB⟩
/-- A slice of the call's own, with these spots. -/
def SpOwn (w : World) (base : Nat) (v : Value) (n : Nat) (p : Ps) : Prop :=
  (v = .slice none 0 0 ∧ n = 0) ∨ ∃ g cap f, v = .slice (some ⟨g, 0, none⟩) n cap ∧ base ≤ g ∧ n ≤ cap ∧ cap ≤ maxLen ∧ w.rowIs g 38 (cap * 2) f ∧ ∀ i, i < n * 2 → f i = .int .i64 (spW p i)
theorem SpOwn.of {w : World} {base : Nat} {v : Value} {n : Nat} {p : Ps} (h : w.ownsRow base 38 2 v n (spL n p)) : SpOwn w base v n p := by
  rcases h.2 with ⟨h1, h2⟩ | ⟨g, cap, cur, h1, h2, h3, h4, h5, h6, h7⟩
  · exact .inl ⟨h1, h2⟩
  · refine .inr ⟨g, cap, fun i => cur.getD i undef, h1, h2, h4, h5, ⟨cur, h3, by omega, fun i hi => ?_⟩, fun i hi => ?_⟩
    · simp [Array.getD_eq_getD_getElem?, show i < cur.size by omega]
    · have e : (cur.toList.take (n * 2))[i]? = (spL n p)[i]? := by rw [h7]
      rw [List.getElem?_take_of_lt hi, spL_at hi] at e
      simp only [Array.getElem?_toList] at e
      show cur.getD i undef = _
      rw [Array.getD_eq_getD_getElem?, e]
      rfl
/-- The first spot, then the others from the last one back. -/
def turnP (n : Nat) (p : Ps) : Ps := fun k => if k = 0 then p 0 else p (n - k)
/-- So far: turned at both ends. -/
def revP (n : Nat) (p : Ps) (i : Nat) : Ps := fun k => if k = 0 then p 0 else if k < 1 + i ∨ n - 1 < k + i then p (n - k) else p k
theorem revP_zero {n : Nat} (p : Ps) {k : Nat} (hk : k < n) : revP n p 0 k = p k := by
  unfold revP
  split
  · subst k; rfl
  · rw [if_neg (by omega)]
theorem revP_end {n i : Nat} (p : Ps) (hi : n - 2 ≤ i + i) {k : Nat} (hk : k < n) : revP n p i k = turnP n p k := by
  unfold revP turnP
  split
  · rfl
  · split
    · rfl
    · rw [show n - k = k by omega]
theorem spW_congr {p q : Ps} {n : Nat} (h : ∀ k, k < n → p k = q k) {i : Nat} (hi : i < n * 2) : spW p i = spW q i := by
  unfold spW
  rw [h (i / 2) (by omega)]
theorem revP_step {n i j : Nat} (p : Ps) (h : i + j + 2 = n) (hij : i < j) (f : Nat → Value) (hf : ∀ k, k < n * 2 → f k = .int .i64 (spW (revP n p i) k)) {k : Nat} (hk : k < n * 2) :
    (if k = 2 + j * 2 + 1 then .int .i64 (spW (revP n p i) (2 + i * 2 + 1)) else if k = 2 + j * 2 then .int .i64 (spW (revP n p i) (2 + i * 2)) else if k = 2 + i * 2 + 1 then .int .i64 (spW (revP n p i) (2 + j * 2 + 1)) else if k = 2 + i * 2 then .int .i64 (spW (revP n p i) (2 + j * 2)) else f k) = Value.int .i64 (spW (revP n p (i + 1)) k) := by
  have e1 : ∀ q : Ps, spW q (2 + i * 2) = (q (1 + i)).1 := fun q => by rw [show 2 + i * 2 = (1 + i) * 2 by omega]; exact spW0 q _
  have e2 : ∀ q : Ps, spW q (2 + i * 2 + 1) = (q (1 + i)).2 := fun q => by rw [show 2 + i * 2 + 1 = (1 + i) * 2 + 1 by omega]; exact spW1 q _
  have e3 : ∀ q : Ps, spW q (2 + j * 2) = (q (1 + j)).1 := fun q => by rw [show 2 + j * 2 = (1 + j) * 2 by omega]; exact spW0 q _
  have e4 : ∀ q : Ps, spW q (2 + j * 2 + 1) = (q (1 + j)).2 := fun q => by rw [show 2 + j * 2 + 1 = (1 + j) * 2 + 1 by omega]; exact spW1 q _
  have a1 : revP n p i (1 + i) = p (1 + i) := by unfold revP; rw [if_neg (by omega), if_neg (by omega)]
  have a2 : revP n p i (1 + j) = p (1 + j) := by unfold revP; rw [if_neg (by omega), if_neg (by omega)]
  have b1 : revP n p (i + 1) (1 + i) = p (1 + j) := by unfold revP; rw [if_neg (by omega), if_pos (by omega), show n - (1 + i) = 1 + j by omega]
  have b2 : revP n p (i + 1) (1 + j) = p (1 + i) := by unfold revP; rw [if_neg (by omega), if_pos (by omega), show n - (1 + j) = 1 + i by omega]
  by_cases c1 : k = 2 + j * 2 + 1
  · rw [if_pos c1, c1, e4, e2, a1, b2]
  rw [if_neg c1]
  by_cases c2 : k = 2 + j * 2
  · rw [if_pos c2, c2, e3, e1, a1, b2]
  rw [if_neg c2]
  by_cases c3 : k = 2 + i * 2 + 1
  · rw [if_pos c3, c3, e4, e2, a2, b1]
  rw [if_neg c3]
  by_cases c4 : k = 2 + i * 2
  · rw [if_pos c4, c4, e3, e1, a2, b1]
  rw [if_neg c4, hf k hk]
  have : revP n p i (k / 2) = revP n p (i + 1) (k / 2) := by
    unfold revP
    split
    · rfl
    · by_cases d : k / 2 < 1 + i ∨ n - 1 < k / 2 + i
      · rw [if_pos d, if_pos (by omega)]
      · rw [if_neg d, if_neg (by omega)]
  unfold spW
  rw [this]
end Go.Proofs.Ytbhhegmlfclhbaa

/- A drawn ring by its spots. -/
namespace Go.Proofs.Ytbhhegmlfclhbaa
open Go.RowKit
def psOf (L : List Int) : Ps := fun i => (L.getD (i * 2) 0, L.getD (i * 2 + 1) 0)
theorem psOf_at (L : List Int) (i : Nat) : spW (psOf L) i = L.getD i 0 := by
  rcases Nat.mod_two_eq_zero_or_one i with e | e
  · have := spW0 (psOf L) (i / 2)
    rw [show i / 2 * 2 = i by omega] at this
    rw [this]
    show L.getD (i / 2 * 2) 0 = _
    rw [show i / 2 * 2 = i by omega]
  · have := spW1 (psOf L) (i / 2)
    rw [show i / 2 * 2 + 1 = i by omega] at this
    rw [this]
    show L.getD (i / 2 * 2 + 1) 0 = _
    rw [show i / 2 * 2 + 1 = i by omega]
theorem psOf_cells {L : List Int} {c : Nat} (h : L.length = c * 2) : L.map (Value.int .i64) = spL c (psOf L) := by
  refine List.ext_getElem? fun i => ?_
  by_cases hi : i < c * 2
  · rw [spL_at hi, psOf_at, List.getElem?_map, List.getElem?_eq_getElem (by omega)]
    simp [List.getD_eq_getElem?_getD, List.getElem?_eq_getElem (show i < L.length by omega)]
  · rw [List.getElem?_eq_none (by rw [List.length_map]; omega), List.getElem?_eq_none (by rw [spL_len]; omega)]
theorem SpRow.spots {w : World} {base : Nat} {v : Value} {c : Nat} {L : List Int} (h : SpRow w base v c L) : w.ownsRow base 38 2 v c (spL c (psOf L)) := by
  have hl := h.len
  unfold SpRow at h
  rw [psOf_cells hl] at h
  exact h
/-- The first spots of a row. -/
theorem SpRow.cut {w : World} {base g' c cap' : Nat} {L : List Int} (h : SpRow w base (.slice (some ⟨g', 0, none⟩) c cap') c L) {j : Nat} (hj : j ≤ c) : SpRow w base (.slice (some ⟨g', 0, none⟩) j cap') j (L.take (j * 2)) := by
  have hl := h.len
  rcases h with ⟨_, h1 | ⟨g, cap, cur, h1, h2, h3, h4, h5, h6, h7⟩⟩
  · cases h1.1
  · cases h1
    refine ⟨by rw [List.length_map, List.length_take]; omega, .inr ⟨_, _, cur, rfl, h2, h3, by omega, h5, h6, ?_⟩⟩
    have : cur.toList.take (j * 2) = (cur.toList.take (c * 2)).take (j * 2) := by rw [List.take_take]; congr 1; omega
    rw [this, h7, List.map_take]
end Go.Proofs.Ytbhhegmlfclhbaa

/- A drawn ring that may be at fault: the drawn regions. -/
namespace Go.Proofs.Ytbhhegmlfclhbaa
open Go.RowKit
theorem sp_setO {w : World} {base c gr cp j : Nat} {L : List Int} {A4 k : Nat} (h : SpRow w base (.slice (some ⟨gr, 0, none⟩) j cp) c L) (hne : A4 ≠ gr) (u : Value) : SpRow (w.setCell ⟨A4, k, none⟩ u) base (.slice (some ⟨gr, 0, none⟩) j cp) c L := by
  rcases h with ⟨h0, h1 | ⟨g', cap, cur, h1, h2, h3, h4⟩⟩
  · exact ⟨h0, .inl h1⟩
  · refine ⟨h0, .inr ⟨g', cap, cur, h1, h2, ?_, h4⟩⟩
    have e : gr = g' := by cases h1; rfl
    rw [Below.heap_setCell _ _ _ _ (by show g' ≠ A4; omega)]
    exact h3
/-- A ring's row, and the reader. -/
def DrG (wA : World) (g : Nat) (ao : Option Addr) (n cap : Nat) (cs : List Int) (o : Value) (c : Nat) (W : World) : Prop := (∃ L, SpRow W wA.heap.size o c L) ∧ Rdr W g ao n cap cs ∧ Kept g wA W
/-- The block A4 holds such a row. -/
def DrD (wA : World) (g : Nat) (ao : Option Addr) (n cap : Nat) (cs : List Int) (A4 : Nat) (W : World) : Prop := ∃ (o : Option Addr) (c cp : Nat), c ≤ 14 ∧ Blk W A4 [.slice o c cp] ∧ DrG wA g ao n cap cs (.slice o c cp) c W
theorem DrG.kept {wA : World} {g : Nat} {ao : Option Addr} {n cap : Nat} {cs : List Int} {o : Value} {c : Nat} {W W2 : World} (h : DrG wA g ao n cap cs o c W) (hg : g < wA.heap.size) (R : Rdr W2 g ao n cap cs) (K : Kept g W W2) : DrG wA g ao n cap cs o c W2 := by
  obtain ⟨⟨Lq, O⟩, _, K0⟩ := h
  exact ⟨⟨Lq, O.kept K hg⟩, R, K0.trans K⟩
theorem DrG.alloc {wA : World} {g : Nat} {ao : Option Addr} {n cap : Nat} {cs : List Int} {v : Value} {c : Nat} {W : World} (h : DrG wA g ao n cap cs v c W) (o : Obj) : DrG wA g ao n cap cs v c (W.alloc o) := by
  obtain ⟨⟨Lq, O⟩, R, K⟩ := h
  exact ⟨⟨Lq, O.alloc o⟩, R.alloc o, K.alloc o⟩
theorem row_ne {w : World} {base A gn c cp : Nat} {L : List Int} {ao : Option Addr} {b d : Nat} (xA : Blk w A [.slice ao b d]) (O : SpRow w base (.slice (some ⟨gn, 0, none⟩) c cp) c L) (hc : 0 < c) : A ≠ gn := by
  intro h
  subst h
  have hl := O.len
  have h1 := xA.c 0 rfl
  obtain ⟨z, Z, rfl⟩ : ∃ z Z, L = z :: Z := by
    cases L with
    | nil => simp at hl; omega
    | cons z Z => exact ⟨z, Z, rfl⟩
  have h2 := (ownG_blk O).c 0 (v := .int .i64 z) (by simp)
  rw [h1] at h2
  cases h2
theorem one1 (x y : Int) : ∀ u ∈ [Value.int .i64 x, Value.int .i64 y], u.oneCell' = true := by
  intro u hu
  simp only [List.mem_cons, List.mem_nil_iff, or_false] at hu
  rcases hu with rfl | rfl <;> rfl
theorem one2 (x y z t : Int) : ∀ u ∈ [Value.int .i64 x, Value.int .i64 y, Value.int .i64 z, Value.int .i64 t], u.oneCell' = true := by
  intro u hu
  simp only [List.mem_cons, List.mem_nil_iff, or_false] at hu
  rcases hu with rfl | rfl | rfl | rfl <;> rfl
def Vrd5 (_wA : World) (g : Nat) (_ao : Option Addr) (_n _cap : Nat) (_cs : List Int) (A4 gr cc cp : Nat) (_B : Nat) : Nat → Value → World → Prop
  | 0, v, _ => v = .pointer (some ⟨A4, 0, none⟩)
  | 1, v, _ => v = (.slice (some ⟨gr, 0, none⟩) cc cp)
  | 2, v, _ => v = .pointer (some ⟨g, 0, none⟩)
  | 3, v, _ => v = .pointer (some ⟨A4, 0, none⟩)
  | 4, v, _ => v = (.slice (some ⟨gr, 0, none⟩) cc cp)
  | 5, v, _ => v = .int .i64 (cc : Nat)
  | 6, v, _ => ∃ j : Nat, v = .int .i64 (j : Nat) ∧ j < cc
  | 7, v, _ => ∃ j : Nat, j ≤ cc ∧ v = .slice (some ⟨gr, 0, none⟩) j cp
  | 8, v, _ => v = .pointer (some ⟨A4, 0, none⟩)
  | _, _, _ => True
theorem Vrd5.mono {wA : World} {g : Nat} {ao : Option Addr} {n cap : Nat} {cs : List Int} {A4 gr cc cp : Nat} {B j : Nat} {v : Value} {W W2 : World} (_hB : Below W.heap.size W W2) (h : Vrd5 wA g ao n cap cs A4 gr cc cp B j v W) : Vrd5 wA g ao n cap cs A4 gr cc cp B j v W2 := by
  unfold Vrd5 at *
  split <;> simp only at h <;> first | exact h | trivial
theorem Vrd5.same {wA : World} {g : Nat} {ao : Option Addr} {n cap : Nat} {cs : List Int} {A4 gr cc cp : Nat} {B j : Nat} {v : Value} {W W2 : World} (h : Vrd5 wA g ao n cap cs A4 gr cc cp B j v W) : Vrd5 wA g ao n cap cs A4 gr cc cp B j v W2 := by
  unfold Vrd5 at *
  split <;> simp only at h <;> first | exact h | trivial
def Srd5 (wA : World) (g : Nat) (ao : Option Addr) (n cap : Nat) (cs : List Int) (A4 gr cc cp : Nat) (lz : Array Bool) (_az : Act) (W : World) : Prop := StI 10 9 A4 (.slice (some ⟨gr, 0, none⟩) cc cp) (DrG wA g ao n cap cs (.slice (some ⟨gr, 0, none⟩) cc cp) cc) (DrD wA g ao n cap cs A4) lz W

def Jrd5 (wA : World) (g : Nat) (ao : Option Addr) (n cap : Nat) (cs : List Int) (A4 gr cc cp : Nat) (w0 : World) (a0 : Act) (lz : Array Bool) (az : Act) (W : World) : Prop := InvQ (g) [some 13, some 14, some 15, some 16, some 17, some 18, some 19, some 20, some 21, none] (Vrd5 wA g ao n cap cs A4 gr cc cp (g)) w0 a0 lz az W ∧ Srd5 wA g ao n cap cs A4 gr cc cp lz az W
set_option maxRecDepth 100000 in
set_option maxHeartbeats 4000000 in
theorem rd5 {Q : Exit → Act → World → Prop} {wA : World} {g : Nat} {ao : Option Addr} {n cap : Nat} {cs : List Int} {A4 gr cc cp : Nat}  {w0 : World} {a0 : Act} {idq : Nat} {t0 t1 t2 t3 t4 t5 t6 t7 t8 t9 : TypeId} {q0 q1 q2 q3 q4 q5 q6 q7 q8 q9 : String}
    (hgA : g < wA.heap.size) (hA4 : wA.heap.size ≤ A4) (c3 : 3 ≤ cc) (c14 : cc ≤ 12) (ccp : cc ≤ cp) (agr : A4 ≠ gr) (s0 : Blk w0.drew A4 [(.slice (some ⟨gr, 0, none⟩) cc cp)] ∧ DrG wA g ao n cap cs (.slice (some ⟨gr, 0, none⟩) cc cp) cc w0.drew) (h4 : a0.tmps[4]? = some (.pointer (some ⟨A4, 0, none⟩))) (h3 : a0.tmps[3]? = some (.pointer (some ⟨g, 0, none⟩)))  (hz : a0.tmps.size = 43)
    (hQ : ∀ aq W, aq.tmps.size = a0.tmps.size → aq.defers = a0.defers → (∀ e, e ∉ ([13, 14, 15, 16, 17, 18, 19, 20, 21] : List Nat) → aq.tmps[e]? = a0.tmps[e]?) → Vrd5 wA g ao n cap cs A4 gr cc cp (g) 9 undef W → Below (g) w0 W → (DrD wA g ao n cap cs A4 W) → Q .normal aq W) :
    (Code.region idq #[{ dst := some 13, op := Op.fieldAddr 26 (Operand.tmp 4) 0, type := t0, pos := q0, after := #[], guard := none },
    { dst := some 14, op := Op.load 24 (Operand.tmp 13), type := t1, pos := q1, after := #[{ on := 0, ground := Ground.data }], guard := none },
    { dst := some 15, op := Op.move (Operand.tmp 3), type := t2, pos := q2, after := #[], guard := none },
    { dst := some 16, op := Op.fieldAddr 26 (Operand.tmp 4) 0, type := t3, pos := q3, after := #[], guard := none },
    { dst := some 17, op := Op.load 24 (Operand.tmp 16), type := t4, pos := q4, after := #[{ on := 3, ground := Ground.data }], guard := none },
    { dst := some 18, op := Op.call { callee := Callee.builtin Builtin.len, args := #[Operand.tmp 17], argTypes := #[24] }, type := t5, pos := q5, after := #[{ on := 4, ground := Ground.data }], guard := none },
    { dst := some 19, op := Op.call { callee := Callee.value (Operand.func 14), args := #[Operand.tmp 15, Operand.tmp 18], argTypes := #[33, 3] }, type := t6, pos := q6, after := #[{ on := 2, ground := Ground.data }, { on := 5, ground := Ground.data }], guard := none },
    { dst := some 20, op := Op.slice 24 (Operand.tmp 14) none (some (Operand.tmp 19)) none, type := t7, pos := q7, after := #[{ on := 1, ground := Ground.data }, { on := 6, ground := Ground.data }], guard := none },
    { dst := some 21, op := Op.fieldAddr 26 (Operand.tmp 4) 0, type := t8, pos := q8, after := #[{ on := 0, ground := Ground.phase }, { on := 1, ground := Ground.phase }, { on := 2, ground := Ground.phase }, { on := 3, ground := Ground.phase }, { on := 4, ground := Ground.phase }, { on := 5, ground := Ground.phase }, { on := 6, ground := Ground.phase }, { on := 7, ground := Ground.phase }], guard := none },
    { dst := none, op := Op.store 24 (Operand.tmp 21) (Operand.tmp 20), type := t9, pos := q9, after := #[{ on := 8, ground := Ground.data }, { on := 7, ground := Ground.data }, { on := 6, ground := Ground.chain }, { on := 0, ground := Ground.phase }, { on := 1, ground := Ground.phase }, { on := 2, ground := Ground.phase }, { on := 3, ground := Ground.phase }, { on := 4, ground := Ground.phase }, { on := 5, ground := Ground.phase }, { on := 6, ground := Ground.phase }, { on := 7, ground := Ground.phase }], guard := none }] true).wp Try.prog Q a0 w0 := by
  have hS : distS [some 13, some 14, some 15, some 16, some 17, some 18, some 19, some 20, some 21, none] = true := rfl
  refine wp_region_inv (by kernel_rfl) (Jrd5 wA g ao n cap cs A4 gr cc cp w0 a0) ⟨⟨rfl, rfl, rfl, fun _ _ => rfl, (Below.refl _ w0).drew, fun j d hj => ?_, fun j hj => ?_⟩, StI.start (by exact s0)⟩ ?_ ?_
  · exfalso
    rw [Array.getD_eq_getD_getElem?, Array.getElem?_replicate] at hj
    split at hj <;> simp at hj
  · exfalso
    rw [Array.getD_eq_getD_getElem?, Array.getElem?_replicate] at hj
    split at hj <;> simp at hj
  · intro lq aq W iq oq ⟨hJ, hs⟩ hl ho hall
    have hJ2 := hJ
    obtain ⟨z1, z2, z3, z4, z5, z6, z7⟩ := hJ
    have g4 : aq.tmps.getD 4 undef = .pointer (some ⟨A4, 0, none⟩) := by rw [Array.getD_eq_getD_getElem?, z4 4 (by decide), h4]; rfl
    have g3 : aq.tmps.getD 3 undef = .pointer (some ⟨g, 0, none⟩) := by rw [Array.getD_eq_getD_getElem?, z4 3 (by decide), h3]; rfl
    match iq, ho with
    | 0, ho =>
      cases ho
      refine wpOp_of rfl rfl ?_
      have hq := fun (W2 : World) => hs.quiet (W2 := W2) 0 (by decide) hl (by decide)
      obtain ⟨xA, gA⟩ := hs.2.1 (hs.off (by decide) hl)
      have xa0 := xA.c 0 rfl
      have hK := fun (v : Value) (W2 : World) hW hT hv (hs : Srd5 wA g ao n cap cs A4 gr cc cp (lq.setIfInBounds 0 true) (aq.put (some 13) v) W2) => show (Jrd5 wA g ao n cap cs A4 gr cc cp w0 a0) (lq.setIfInBounds 0 true) (aq.put (some 13) v) W2 from ⟨hJ2.put hS 0 13 rfl (by omega) (W' := W2) hW hT v hv, hs⟩
      clear ho hall hl hQ
      generalize (Jrd5 wA g ao n cap cs A4 gr cc cp w0 a0) (lq.setIfInBounds 0 true) = K at hK ⊢
      clear hJ2 hS z1 z2 z3 z4 z6 z7
      go_simp
      exact hK _ _ z5 (fun _ _ h => h) rfl (hq _ (fun a b => ⟨a, b⟩))
    | 1, ho =>
      cases ho
      refine wpOp_of rfl rfl ?_
      have f0 : (aq.tmps.getD 13 undef) = .pointer (some ⟨A4, 0, none⟩) := z6 0 13 (hall { on := 0, ground := Ground.data } (by simp) rfl) rfl
      have hq := fun (W2 : World) => hs.quiet (W2 := W2) 1 (by decide) hl (by decide)
      obtain ⟨xA, gA⟩ := hs.2.1 (hs.off (by decide) hl)
      have xa0 := xA.c 0 rfl
      have hK := fun (v : Value) (W2 : World) hW hT hv (hs : Srd5 wA g ao n cap cs A4 gr cc cp (lq.setIfInBounds 1 true) (aq.put (some 14) v) W2) => show (Jrd5 wA g ao n cap cs A4 gr cc cp w0 a0) (lq.setIfInBounds 1 true) (aq.put (some 14) v) W2 from ⟨hJ2.put hS 1 14 rfl (by omega) (W' := W2) hW hT v hv, hs⟩
      clear ho hall hl hQ
      generalize (Jrd5 wA g ao n cap cs A4 gr cc cp w0 a0) (lq.setIfInBounds 1 true) = K at hK ⊢
      clear hJ2 hS z1 z2 z3 z4 z6 z7
      go_simp
      exact hK _ _ z5 (fun _ _ h => h) rfl (hq _ (fun a b => ⟨a, b⟩))
    | 2, ho =>
      cases ho
      refine wpOp_of rfl rfl ?_
      have hq := fun (W2 : World) => hs.quiet (W2 := W2) 2 (by decide) hl (by decide)
      obtain ⟨xA, gA⟩ := hs.2.1 (hs.off (by decide) hl)
      have xa0 := xA.c 0 rfl
      have hK := fun (v : Value) (W2 : World) hW hT hv (hs : Srd5 wA g ao n cap cs A4 gr cc cp (lq.setIfInBounds 2 true) (aq.put (some 15) v) W2) => show (Jrd5 wA g ao n cap cs A4 gr cc cp w0 a0) (lq.setIfInBounds 2 true) (aq.put (some 15) v) W2 from ⟨hJ2.put hS 2 15 rfl (by omega) (W' := W2) hW hT v hv, hs⟩
      clear ho hall hl hQ
      generalize (Jrd5 wA g ao n cap cs A4 gr cc cp w0 a0) (lq.setIfInBounds 2 true) = K at hK ⊢
      clear hJ2 hS z1 z2 z3 z4 z6 z7
      go_simp
      exact hK _ _ z5 (fun _ _ h => h) rfl (hq _ (fun a b => ⟨a, b⟩))
    | 3, ho =>
      cases ho
      refine wpOp_of rfl rfl ?_
      have hq := fun (W2 : World) => hs.quiet (W2 := W2) 3 (by decide) hl (by decide)
      obtain ⟨xA, gA⟩ := hs.2.1 (hs.off (by decide) hl)
      have xa0 := xA.c 0 rfl
      have hK := fun (v : Value) (W2 : World) hW hT hv (hs : Srd5 wA g ao n cap cs A4 gr cc cp (lq.setIfInBounds 3 true) (aq.put (some 16) v) W2) => show (Jrd5 wA g ao n cap cs A4 gr cc cp w0 a0) (lq.setIfInBounds 3 true) (aq.put (some 16) v) W2 from ⟨hJ2.put hS 3 16 rfl (by omega) (W' := W2) hW hT v hv, hs⟩
      clear ho hall hl hQ
      generalize (Jrd5 wA g ao n cap cs A4 gr cc cp w0 a0) (lq.setIfInBounds 3 true) = K at hK ⊢
      clear hJ2 hS z1 z2 z3 z4 z6 z7
      go_simp
      exact hK _ _ z5 (fun _ _ h => h) rfl (hq _ (fun a b => ⟨a, b⟩))
    | 4, ho =>
      cases ho
      refine wpOp_of rfl rfl ?_
      have f3 : (aq.tmps.getD 16 undef) = .pointer (some ⟨A4, 0, none⟩) := z6 3 16 (hall { on := 3, ground := Ground.data } (by simp) rfl) rfl
      have hq := fun (W2 : World) => hs.quiet (W2 := W2) 4 (by decide) hl (by decide)
      obtain ⟨xA, gA⟩ := hs.2.1 (hs.off (by decide) hl)
      have xa0 := xA.c 0 rfl
      have hK := fun (v : Value) (W2 : World) hW hT hv (hs : Srd5 wA g ao n cap cs A4 gr cc cp (lq.setIfInBounds 4 true) (aq.put (some 17) v) W2) => show (Jrd5 wA g ao n cap cs A4 gr cc cp w0 a0) (lq.setIfInBounds 4 true) (aq.put (some 17) v) W2 from ⟨hJ2.put hS 4 17 rfl (by omega) (W' := W2) hW hT v hv, hs⟩
      clear ho hall hl hQ
      generalize (Jrd5 wA g ao n cap cs A4 gr cc cp w0 a0) (lq.setIfInBounds 4 true) = K at hK ⊢
      clear hJ2 hS z1 z2 z3 z4 z6 z7
      go_simp
      exact hK _ _ z5 (fun _ _ h => h) rfl (hq _ (fun a b => ⟨a, b⟩))
    | 5, ho =>
      cases ho
      refine wpOp_of rfl rfl ?_
      have f4 : (aq.tmps.getD 17 undef) = (.slice (some ⟨gr, 0, none⟩) cc cp) := z6 4 17 (hall { on := 4, ground := Ground.data } (by simp) rfl) rfl
      have hq := fun (W2 : World) => hs.quiet (W2 := W2) 5 (by decide) hl (by decide)
      obtain ⟨xA, gA⟩ := hs.2.1 (hs.off (by decide) hl)
      have xa0 := xA.c 0 rfl
      have hK := fun (v : Value) (W2 : World) hW hT hv (hs : Srd5 wA g ao n cap cs A4 gr cc cp (lq.setIfInBounds 5 true) (aq.put (some 18) v) W2) => show (Jrd5 wA g ao n cap cs A4 gr cc cp w0 a0) (lq.setIfInBounds 5 true) (aq.put (some 18) v) W2 from ⟨hJ2.put hS 5 18 rfl (by omega) (W' := W2) hW hT v hv, hs⟩
      clear ho hall hl hQ
      generalize (Jrd5 wA g ao n cap cs A4 gr cc cp w0 a0) (lq.setIfInBounds 5 true) = K at hK ⊢
      clear hJ2 hS z1 z2 z3 z4 z6 z7
      go_simp
      exact hK _ _ z5 (fun _ _ h => h) rfl (hq _ (fun a b => ⟨a, b⟩))
    | 6, ho =>
      cases ho
      refine wpOp_of rfl rfl ?_
      have f2 : (aq.tmps.getD 15 undef) = .pointer (some ⟨g, 0, none⟩) := z6 2 15 (hall { on := 2, ground := Ground.data } (by simp) rfl) rfl
      have f5 : (aq.tmps.getD 18 undef) = .int .i64 (cc : Nat) := z6 5 18 (hall { on := 5, ground := Ground.data } (by simp) rfl) rfl
      have hq := fun (W2 : World) => hs.quiet (W2 := W2) 6 (by decide) hl (by decide)
      obtain ⟨xA, gA⟩ := hs.2.1 (hs.off (by decide) hl)
      have xa0 := xA.c 0 rfl
      have hK := fun (v : Value) (W2 : World) hW hT hv (hs : Srd5 wA g ao n cap cs A4 gr cc cp (lq.setIfInBounds 6 true) (aq.put (some 19) v) W2) => show (Jrd5 wA g ao n cap cs A4 gr cc cp w0 a0) (lq.setIfInBounds 6 true) (aq.put (some 19) v) W2 from ⟨hJ2.put hS 6 19 rfl (by omega) (W' := W2) hW hT v hv, hs⟩
      clear ho hall hl hQ
      generalize (Jrd5 wA g ao n cap cs A4 gr cc cp w0 a0) (lq.setIfInBounds 6 true) = K at hK ⊢
      clear hJ2 hS z1 z2 z3 z4 z6 z7
      go_simp
      refine (below_any (cc : Int) (by omega) (by omega) g ao n cap cs W gA.2.1).mono ?_
      rintro e v1 ⟨_, rfl, ⟨jz, rfl, j0, j1⟩, R1, K1⟩
      obtain ⟨j, rfl⟩ := Int.eq_ofNat_of_zero_le j0
      exact hK _ _ (z5.trans (kept_below gA.2.1.lt K1)) (fun _ _ h => Vrd5.same h) ⟨j, rfl, by omega⟩ (hq _ (fun a b => ⟨a.kept K1 (by omega), b.kept hgA R1 K1⟩))
    | 7, ho =>
      cases ho
      refine wpOp_of rfl rfl ?_
      have f1 : (aq.tmps.getD 14 undef) = (.slice (some ⟨gr, 0, none⟩) cc cp) := z6 1 14 (hall { on := 1, ground := Ground.data } (by simp) rfl) rfl
      have f6 : ∃ j : Nat, (aq.tmps.getD 19 undef) = .int .i64 (j : Nat) ∧ j < cc := z6 6 19 (hall { on := 6, ground := Ground.data } (by simp) rfl) rfl
      have hq := fun (W2 : World) => hs.quiet (W2 := W2) 7 (by decide) hl (by decide)
      obtain ⟨xA, gA⟩ := hs.2.1 (hs.off (by decide) hl)
      have xa0 := xA.c 0 rfl
      obtain ⟨j, ej, jc⟩ := f6
      have jp : j ≤ cp := by omega
      have hK := fun (v : Value) (W2 : World) hW hT hv (hs : Srd5 wA g ao n cap cs A4 gr cc cp (lq.setIfInBounds 7 true) (aq.put (some 20) v) W2) => show (Jrd5 wA g ao n cap cs A4 gr cc cp w0 a0) (lq.setIfInBounds 7 true) (aq.put (some 20) v) W2 from ⟨hJ2.put hS 7 20 rfl (by omega) (W' := W2) hW hT v hv, hs⟩
      clear ho hall hl hQ
      generalize (Jrd5 wA g ao n cap cs A4 gr cc cp w0 a0) (lq.setIfInBounds 7 true) = K at hK ⊢
      clear hJ2 hS z1 z2 z3 z4 z6 z7
      go_simp
      exact hK _ _ z5 (fun _ _ h => h) ⟨j, by omega, rfl⟩ (hq _ (fun a b => ⟨a, b⟩))
    | 8, ho =>
      cases ho
      refine wpOp_of rfl rfl ?_
      have hq := fun (W2 : World) => hs.quiet (W2 := W2) 8 (by decide) hl (by decide)
      obtain ⟨xA, gA⟩ := hs.2.1 (hs.off (by decide) hl)
      have xa0 := xA.c 0 rfl
      have hK := fun (v : Value) (W2 : World) hW hT hv (hs : Srd5 wA g ao n cap cs A4 gr cc cp (lq.setIfInBounds 8 true) (aq.put (some 21) v) W2) => show (Jrd5 wA g ao n cap cs A4 gr cc cp w0 a0) (lq.setIfInBounds 8 true) (aq.put (some 21) v) W2 from ⟨hJ2.put hS 8 21 rfl (by omega) (W' := W2) hW hT v hv, hs⟩
      clear ho hall hl hQ
      generalize (Jrd5 wA g ao n cap cs A4 gr cc cp w0 a0) (lq.setIfInBounds 8 true) = K at hK ⊢
      clear hJ2 hS z1 z2 z3 z4 z6 z7
      go_simp
      exact hK _ _ z5 (fun _ _ h => h) rfl (hq _ (fun a b => ⟨a, b⟩))
    | 9, ho =>
      cases ho
      refine wpOp_of rfl rfl ?_
      have f8 : (aq.tmps.getD 21 undef) = .pointer (some ⟨A4, 0, none⟩) := z6 8 21 (hall { on := 8, ground := Ground.data } (by simp) rfl) rfl
      have f7 : ∃ j : Nat, j ≤ cc ∧ (aq.tmps.getD 20 undef) = .slice (some ⟨gr, 0, none⟩) j cp := z6 7 20 (hall { on := 7, ground := Ground.data } (by simp) rfl) rfl
      have hq := fun (W2 : World) (hD : DrD wA g ao n cap cs A4 W2) => StI.stored (n := 10) (iz := 9) (A := A4) (D := (DrD wA g ao n cap cs A4)) (o := (.slice (some ⟨gr, 0, none⟩) cc cp)) (G := (DrG wA g ao n cap cs (.slice (some ⟨gr, 0, none⟩) cc cp) cc)) (W2 := W2) hl (fun j hj hn => match j, hj, hn with | 0, _, _ => hall { on := 0, ground := Ground.phase } (by simp) rfl | 1, _, _ => hall { on := 1, ground := Ground.phase } (by simp) rfl | 2, _, _ => hall { on := 2, ground := Ground.phase } (by simp) rfl | 3, _, _ => hall { on := 3, ground := Ground.phase } (by simp) rfl | 4, _, _ => hall { on := 4, ground := Ground.phase } (by simp) rfl | 5, _, _ => hall { on := 5, ground := Ground.phase } (by simp) rfl | 6, _, _ => hall { on := 6, ground := Ground.chain } (by simp) rfl | 7, _, _ => hall { on := 7, ground := Ground.data } (by simp) rfl | 8, _, _ => hall { on := 8, ground := Ground.data } (by simp) rfl | 9, _, hn => absurd rfl hn | j + 10, hj, _ => absurd hj (by omega)) hD
      obtain ⟨xA, gA⟩ := hs.2.1 (getD_tf hl)
      have xa0 := xA.c 0 rfl; have y0 := xA.f 0 rfl; have al := xA.lt
      obtain ⟨j, jc, ej⟩ := f7
      have hK := fun (W2 : World) hW hT hv (hs : Srd5 wA g ao n cap cs A4 gr cc cp (lq.setIfInBounds 9 true) aq W2) => show (Jrd5 wA g ao n cap cs A4 gr cc cp w0 a0) (lq.setIfInBounds 9 true) aq W2 from ⟨hJ2.world 9 rfl (W' := W2) hW hT hv, hs⟩
      clear ho hall hl hQ
      generalize (Jrd5 wA g ao n cap cs A4 gr cc cp w0 a0) (lq.setIfInBounds 9 true) = K at hK ⊢
      clear hJ2 hS z1 z2 z3 z4 z6 z7
      obtain ⟨⟨Lq, O⟩, sR, sK⟩ := gA
      go_simp
      refine hK _ (z5.setCell (p := ⟨A4, 0, none⟩) (show g ≤ A4 by omega) _) (fun _ _ h => Vrd5.same h) trivial (hq _ ⟨some ⟨gr, 0, none⟩, j, cp, by omega, xA.setI 0 (by simp) _, ⟨Lq.take (j * 2), ?_⟩, ?_, ?_⟩)
      · exact sp_setO (O.cut jc) agr _
      · exact rdr_below sR ((Below.refl wA.heap.size W).setCell (p := ⟨A4, 0, none⟩) hA4 _) hgA
      · exact kept_setO sK hgA hA4
    | iq + 10, ho => simp at ho
  · intro lq aq W ⟨hJ, hs⟩ hr
    obtain ⟨z1, z2, z3, z4, z5, z6, z7⟩ := hJ
    have hl := listed_of hr [0, 1, 2, 3, 4, 5, 6, 7, 8, 9] [] (by simp) (by kernel_rfl) (by rw [z1]; decide)
    exact hQ aq W z2 z3 (fun e he => z4 e (by simpa using he)) (z7 9 (hl 9 (by simp)) rfl) z5 (hs.2.2 (hl 9 (by simp)))
def Vrd7 (_wA : World) (g : Nat) (_ao : Option Addr) (_n _cap : Nat) (_cs : List Int) (A4 gr cc cp : Nat) (_B : Nat) : Nat → Value → World → Prop
  | 0, v, _ => v = .pointer (some ⟨A4, 0, none⟩)
  | 1, v, _ => v = (.slice (some ⟨gr, 0, none⟩) cc cp)
  | 2, v, _ => v = .pointer (some ⟨g, 0, none⟩)
  | 3, v, _ => ∃ p q : Int, v = .agg #[.int .i64 p, .int .i64 q]
  | 6, v, _ => v = .pointer (some ⟨A4, 0, none⟩)
  | _, _, _ => True
theorem Vrd7.mono {wA : World} {g : Nat} {ao : Option Addr} {n cap : Nat} {cs : List Int} {A4 gr cc cp : Nat} {B j : Nat} {v : Value} {W W2 : World} (_hB : Below W.heap.size W W2) (h : Vrd7 wA g ao n cap cs A4 gr cc cp B j v W) : Vrd7 wA g ao n cap cs A4 gr cc cp B j v W2 := by
  unfold Vrd7 at *
  split <;> simp only at h <;> first | exact h | trivial
theorem Vrd7.same {wA : World} {g : Nat} {ao : Option Addr} {n cap : Nat} {cs : List Int} {A4 gr cc cp : Nat} {B j : Nat} {v : Value} {W W2 : World} (h : Vrd7 wA g ao n cap cs A4 gr cc cp B j v W) : Vrd7 wA g ao n cap cs A4 gr cc cp B j v W2 := by
  unfold Vrd7 at *
  split <;> simp only at h <;> first | exact h | trivial
def Srd7 (wA : World) (g : Nat) (ao : Option Addr) (n cap : Nat) (cs : List Int) (A4 gr cc cp : Nat) (lz : Array Bool) (az : Act) (W : World) : Prop := AsI 8 4 5 7 A4 28 29 1 (.slice (some ⟨gr, 0, none⟩) cc cp) cc (DrG wA g ao n cap cs) (fun ge W => wA.heap.size ≤ ge ∧ ∃ y0 y1 : Int, Blk W ge [.int .i64 y0, .int .i64 y1]) (DrD wA g ao n cap cs A4) lz az W

def Jrd7 (wA : World) (g : Nat) (ao : Option Addr) (n cap : Nat) (cs : List Int) (A4 gr cc cp : Nat) (w0 : World) (a0 : Act) (lz : Array Bool) (az : Act) (W : World) : Prop := InvQ (g) [some 24, some 25, some 26, some 27, some 28, some 29, some 30, none] (Vrd7 wA g ao n cap cs A4 gr cc cp (g)) w0 a0 lz az W ∧ Srd7 wA g ao n cap cs A4 gr cc cp lz az W
set_option maxRecDepth 100000 in
set_option maxHeartbeats 4000000 in
theorem rd7 {Q : Exit → Act → World → Prop} {wA : World} {g : Nat} {ao : Option Addr} {n cap : Nat} {cs : List Int} {A4 gr cc cp : Nat}  {w0 : World} {a0 : Act} {idq : Nat} {t0 t1 t2 t3 t4 t5 t6 t7 : TypeId} {q0 q1 q2 q3 q4 q5 q6 q7 : String}
    (hgA : g < wA.heap.size) (hA4 : wA.heap.size ≤ A4) (c3 : 3 ≤ cc) (c14 : cc ≤ 12) (agr : A4 ≠ gr) (s0 : Blk w0.drew A4 [(.slice (some ⟨gr, 0, none⟩) cc cp)] ∧ DrG wA g ao n cap cs (.slice (some ⟨gr, 0, none⟩) cc cp) cc w0.drew) (h4 : a0.tmps[4]? = some (.pointer (some ⟨A4, 0, none⟩))) (h3 : a0.tmps[3]? = some (.pointer (some ⟨g, 0, none⟩)))  (hz : a0.tmps.size = 43)
    (hQ : ∀ aq W, aq.tmps.size = a0.tmps.size → aq.defers = a0.defers → (∀ e, e ∉ ([24, 25, 26, 27, 28, 29, 30] : List Nat) → aq.tmps[e]? = a0.tmps[e]?) → Vrd7 wA g ao n cap cs A4 gr cc cp (g) 7 undef W → Below (g) w0 W → (DrD wA g ao n cap cs A4 W) → Q .normal aq W) :
    (Code.region idq #[{ dst := some 24, op := Op.fieldAddr 26 (Operand.tmp 4) 0, type := t0, pos := q0, after := #[], guard := none },
    { dst := some 25, op := Op.load 24 (Operand.tmp 24), type := t1, pos := q1, after := #[{ on := 0, ground := Ground.data }], guard := none },
    { dst := some 26, op := Op.move (Operand.tmp 3), type := t2, pos := q2, after := #[], guard := none },
    { dst := some 27, op := Op.call { callee := Callee.value (Operand.func 15), args := #[Operand.tmp 26], argTypes := #[33] }, type := t3, pos := q3, after := #[{ on := 2, ground := Ground.data }], guard := none },
    { dst := some 28, op := Op.buildSlice 24 1 #[(0, Operand.tmp 27)], type := t4, pos := q4, after := #[{ on := 3, ground := Ground.data }], guard := none },
    { dst := some 29, op := Op.call { callee := Callee.builtin Builtin.append, args := #[Operand.tmp 25, Operand.tmp 28], argTypes := #[24, 24] }, type := t5, pos := q5, after := #[{ on := 1, ground := Ground.data }, { on := 4, ground := Ground.data }, { on := 3, ground := Ground.chain }], guard := none },
    { dst := some 30, op := Op.fieldAddr 26 (Operand.tmp 4) 0, type := t6, pos := q6, after := #[{ on := 0, ground := Ground.phase }, { on := 1, ground := Ground.phase }, { on := 2, ground := Ground.phase }, { on := 3, ground := Ground.phase }, { on := 4, ground := Ground.phase }, { on := 5, ground := Ground.phase }], guard := none },
    { dst := none, op := Op.store 24 (Operand.tmp 30) (Operand.tmp 29), type := t7, pos := q7, after := #[{ on := 6, ground := Ground.data }, { on := 5, ground := Ground.data }, { on := 5, ground := Ground.chain }, { on := 0, ground := Ground.phase }, { on := 1, ground := Ground.phase }, { on := 2, ground := Ground.phase }, { on := 3, ground := Ground.phase }, { on := 4, ground := Ground.phase }, { on := 5, ground := Ground.phase }], guard := none }] true).wp Try.prog Q a0 w0 := by
  have hS : distS [some 24, some 25, some 26, some 27, some 28, some 29, some 30, none] = true := rfl
  refine wp_region_inv (by kernel_rfl) (Jrd7 wA g ao n cap cs A4 gr cc cp w0 a0) ⟨⟨rfl, rfl, rfl, fun _ _ => rfl, (Below.refl _ w0).drew, fun j d hj => ?_, fun j hj => ?_⟩, AsI.start (by exact s0)⟩ ?_ ?_
  · exfalso
    rw [Array.getD_eq_getD_getElem?, Array.getElem?_replicate] at hj
    split at hj <;> simp at hj
  · exfalso
    rw [Array.getD_eq_getD_getElem?, Array.getElem?_replicate] at hj
    split at hj <;> simp at hj
  · intro lq aq W iq oq ⟨hJ, hs⟩ hl ho hall
    have hJ2 := hJ
    obtain ⟨z1, z2, z3, z4, z5, z6, z7⟩ := hJ
    have g4 : aq.tmps.getD 4 undef = .pointer (some ⟨A4, 0, none⟩) := by rw [Array.getD_eq_getD_getElem?, z4 4 (by decide), h4]; rfl
    have g3 : aq.tmps.getD 3 undef = .pointer (some ⟨g, 0, none⟩) := by rw [Array.getD_eq_getD_getElem?, z4 3 (by decide), h3]; rfl
    match iq, ho with
    | 0, ho =>
      cases ho
      refine wpOp_of rfl rfl ?_
      have hq := fun (v : Value) (W2 : World) => hs.quiet (W2 := W2) 0 24 v (by decide) hl (by decide) (by decide) (by decide) (by decide) (by decide)
      have xA := hs.2.1 (hs.off (by decide) hl)
      have xa0 := xA.c 0 rfl
      have hK := fun (v : Value) (W2 : World) hW hT hv (hs : Srd7 wA g ao n cap cs A4 gr cc cp (lq.setIfInBounds 0 true) (aq.put (some 24) v) W2) => show (Jrd7 wA g ao n cap cs A4 gr cc cp w0 a0) (lq.setIfInBounds 0 true) (aq.put (some 24) v) W2 from ⟨hJ2.put hS 0 24 rfl (by omega) (W' := W2) hW hT v hv, hs⟩
      clear ho hall hl hQ
      generalize (Jrd7 wA g ao n cap cs A4 gr cc cp w0 a0) (lq.setIfInBounds 0 true) = K at hK ⊢
      clear hJ2 hS z1 z2 z3 z4 z6 z7
      go_simp
      exact hK _ _ z5 (fun _ _ h => h) rfl (hq _ _ (fun a => a) (fun _ _ a => a) (fun _ a => a))
    | 1, ho =>
      cases ho
      refine wpOp_of rfl rfl ?_
      have f0 : (aq.tmps.getD 24 undef) = .pointer (some ⟨A4, 0, none⟩) := z6 0 24 (hall { on := 0, ground := Ground.data } (by simp) rfl) rfl
      have hq := fun (v : Value) (W2 : World) => hs.quiet (W2 := W2) 1 25 v (by decide) hl (by decide) (by decide) (by decide) (by decide) (by decide)
      have xA := hs.2.1 (hs.off (by decide) hl)
      have xa0 := xA.c 0 rfl
      have hK := fun (v : Value) (W2 : World) hW hT hv (hs : Srd7 wA g ao n cap cs A4 gr cc cp (lq.setIfInBounds 1 true) (aq.put (some 25) v) W2) => show (Jrd7 wA g ao n cap cs A4 gr cc cp w0 a0) (lq.setIfInBounds 1 true) (aq.put (some 25) v) W2 from ⟨hJ2.put hS 1 25 rfl (by omega) (W' := W2) hW hT v hv, hs⟩
      clear ho hall hl hQ
      generalize (Jrd7 wA g ao n cap cs A4 gr cc cp w0 a0) (lq.setIfInBounds 1 true) = K at hK ⊢
      clear hJ2 hS z1 z2 z3 z4 z6 z7
      go_simp
      exact hK _ _ z5 (fun _ _ h => h) rfl (hq _ _ (fun a => a) (fun _ _ a => a) (fun _ a => a))
    | 2, ho =>
      cases ho
      refine wpOp_of rfl rfl ?_
      have hq := fun (v : Value) (W2 : World) => hs.quiet (W2 := W2) 2 26 v (by decide) hl (by decide) (by decide) (by decide) (by decide) (by decide)
      have xA := hs.2.1 (hs.off (by decide) hl)
      have xa0 := xA.c 0 rfl
      have hK := fun (v : Value) (W2 : World) hW hT hv (hs : Srd7 wA g ao n cap cs A4 gr cc cp (lq.setIfInBounds 2 true) (aq.put (some 26) v) W2) => show (Jrd7 wA g ao n cap cs A4 gr cc cp w0 a0) (lq.setIfInBounds 2 true) (aq.put (some 26) v) W2 from ⟨hJ2.put hS 2 26 rfl (by omega) (W' := W2) hW hT v hv, hs⟩
      clear ho hall hl hQ
      generalize (Jrd7 wA g ao n cap cs A4 gr cc cp w0 a0) (lq.setIfInBounds 2 true) = K at hK ⊢
      clear hJ2 hS z1 z2 z3 z4 z6 z7
      go_simp
      exact hK _ _ z5 (fun _ _ h => h) rfl (hq _ _ (fun a => a) (fun _ _ a => a) (fun _ a => a))
    | 3, ho =>
      cases ho
      refine wpOp_of rfl rfl ?_
      have f2 : (aq.tmps.getD 26 undef) = .pointer (some ⟨g, 0, none⟩) := z6 2 26 (hall { on := 2, ground := Ground.data } (by simp) rfl) rfl
      have hq := fun (v : Value) (W2 : World) => hs.quiet (W2 := W2) 3 27 v (by decide) hl (by decide) (by decide) (by decide) (by decide) (by decide)
      have xA := hs.2.1 (hs.off (by decide) hl)
      have xa0 := xA.c 0 rfl
      have gR : Rdr W g ao n cap cs := by
        cases hh : lq.getD 5 false with
        | false => exact (hs.2.2.1 hh).1.2.1
        | true => exact (hs.2.2.2.1 (hs.off (by decide) hl) hh).2.1
      have hK := fun (v : Value) (W2 : World) hW hT hv (hs : Srd7 wA g ao n cap cs A4 gr cc cp (lq.setIfInBounds 3 true) (aq.put (some 27) v) W2) => show (Jrd7 wA g ao n cap cs A4 gr cc cp w0 a0) (lq.setIfInBounds 3 true) (aq.put (some 27) v) W2 from ⟨hJ2.put hS 3 27 rfl (by omega) (W' := W2) hW hT v hv, hs⟩
      clear ho hall hl hQ
      generalize (Jrd7 wA g ao n cap cs A4 gr cc cp w0 a0) (lq.setIfInBounds 3 true) = K at hK ⊢
      clear hJ2 hS z1 z2 z3 z4 z6 z7
      go_simp
      refine (spot_any g ao n cap cs W gR).mono ?_
      rintro e v1 ⟨_, rfl, ⟨p, q, rfl, _, _, _, _⟩, R1, K1⟩
      exact hK _ _ (z5.trans (kept_below gR.lt K1)) (fun _ _ h => Vrd7.same h) ⟨p, q, rfl⟩ (hq _ _ (fun a => a.kept K1 (by omega)) (fun _ _ b => b.kept hgA R1 K1) (fun ge e => ⟨e.1, (by obtain ⟨h1, y0, y1, h2⟩ := e; exact ⟨y0, y1, h2.kept K1 (by omega)⟩)⟩))
    | 4, ho =>
      cases ho
      refine wpOp_of rfl rfl ?_
      have f3 : ∃ p q : Int, (aq.tmps.getD 27 undef) = .agg #[.int .i64 p, .int .i64 q] := z6 3 27 (hall { on := 3, ground := Ground.data } (by simp) rfl) rfl
      obtain ⟨p3q, r3q, f3⟩ := f3
      have hq := fun (ge ce : Nat) (W2 : World) => hs.built (W2 := W2) (g := ge) (cp := ce) (by decide) hl (by decide) (by decide) (by decide) (by rw [z2, hz]; decide)
      have gR : Rdr W g ao n cap cs := by
        cases hh : lq.getD 5 false with
        | false => exact (hs.2.2.1 hh).1.2.1
        | true => exact (hs.2.2.2.1 (hs.off (by decide) hl) hh).2.1
      have sK : wA.heap.size ≤ W.heap.size := by
        cases hh : lq.getD 5 false with
        | false => exact (hs.2.2.1 hh).1.2.2.size
        | true => exact (hs.2.2.2.1 (hs.off (by decide) hl) hh).2.2.size
      rw [Array.getD_eq_getD_getElem?] at f3
      have hK := fun (v : Value) (W2 : World) hW hT hv (hs : Srd7 wA g ao n cap cs A4 gr cc cp (lq.setIfInBounds 4 true) (aq.put (some 28) v) W2) => show (Jrd7 wA g ao n cap cs A4 gr cc cp w0 a0) (lq.setIfInBounds 4 true) (aq.put (some 28) v) W2 from ⟨hJ2.put hS 4 28 rfl (by omega) (W' := W2) hW hT v hv, hs⟩
      clear ho hall hl hQ
      generalize (Jrd7 wA g ao n cap cs A4 gr cc cp w0 a0) (lq.setIfInBounds 4 true) = K at hK ⊢
      clear hJ2 hS z1 z2 z3 z4 z6 z7
      have zs := z5.size
      go_simp
      exact hK _ _ (z5.alloc (by omega) _) (fun _ _ h => Vrd7.same h) trivial (hq _ _ _ (fun a => a.alloc _) (fun _ _ b => b.alloc _) ⟨sK, p3q, r3q, Blk.new W [.int .i64 p3q, .int .i64 r3q] _ rfl⟩)
    | 5, ho =>
      cases ho
      refine wpOp_of rfl rfl ?_
      have f1 : (aq.tmps.getD 25 undef) = (.slice (some ⟨gr, 0, none⟩) cc cp) := z6 1 25 (hall { on := 1, ground := Ground.data } (by simp) rfl) rfl
      have hq := fun (v : Value) (W2 : World) => hs.appended (W2 := W2) (by decide) hl (by decide) (by rw [z2, hz]; decide) v
      obtain ⟨⟨⟨Lq, ow⟩, gR, gK⟩, hb⟩ := hs.2.2.1 (getD_tf hl)
      obtain ⟨ge, ce, ee, el, y0, y1, X⟩ := hb (hall { on := 4, ground := Ground.data } (by simp) rfl)
      obtain ⟨i0, hi, hz0, hz1, hz2⟩ := info_parts Try.infoSpotR
      have hK := fun (v : Value) (W2 : World) hW hT hv (hs : Srd7 wA g ao n cap cs A4 gr cc cp (lq.setIfInBounds 5 true) (aq.put (some 29) v) W2) => show (Jrd7 wA g ao n cap cs A4 gr cc cp w0 a0) (lq.setIfInBounds 5 true) (aq.put (some 29) v) W2 from ⟨hJ2.put hS 5 29 rfl (by omega) (W' := W2) hW hT v hv, hs⟩
      clear ho hall hl hQ
      generalize (Jrd7 wA g ao n cap cs A4 gr cc cp w0 a0) (lq.setIfInBounds 5 true) = K at hK ⊢
      clear hJ2 hS z1 z2 z3 z4 z6 z7
      have zs := z5.size
      have gs := gK.size
      refine wp_append_own (P := Try.prog) W (Operand.tmp 25) (Operand.tmp 28) 24 rfl wA.heap.size 38 i0 (.agg #[.int .i64 0, .int .i64 0]) 2 16 Try.underlying24 hi hz0 hz1 hz2 rfl (by decide) (.slice (some ⟨gr, 0, none⟩) cc cp) cc (Lq.map (Value.int .i64)) (by assumption) ow ⟨ge, 0, none⟩ 1 ce [.int .i64 y0, .int .i64 y1] ee rfl (blk_news X) (one1 _ _ ) (by unfold maxLen; omega) (by omega) (by omega) ?_
      intro v' w' ho2 hgr _
      exact hK v' w' (z5.grown hgr (by omega) (fun k hk => Nat.le_trans (Nat.le_of_lt hgA) (ow.lt k hk).1)) (fun _ _ h => Vrd7.same h) trivial (hq v' w' (fun a => blk_grown a hgr (by intro h; cases h; exact agr rfl)) ⟨⟨Lq ++ [y0, y1], (by unfold SpRow; rw [List.map_append]; exact ho2)⟩, rdr_grown gR hgr (fun k hk => Nat.lt_of_lt_of_le hgA (ow.lt k hk).1), kept_grown gK hgr (fun k hk => (ow.lt k hk).1)⟩)
    | 6, ho =>
      cases ho
      refine wpOp_of rfl rfl ?_
      have hq := fun (v : Value) (W2 : World) => hs.quiet (W2 := W2) 6 30 v (by decide) hl (by decide) (by decide) (by decide) (by decide) (by decide)
      have xA := hs.2.1 (hs.off (by decide) hl)
      have xa0 := xA.c 0 rfl
      have hK := fun (v : Value) (W2 : World) hW hT hv (hs : Srd7 wA g ao n cap cs A4 gr cc cp (lq.setIfInBounds 6 true) (aq.put (some 30) v) W2) => show (Jrd7 wA g ao n cap cs A4 gr cc cp w0 a0) (lq.setIfInBounds 6 true) (aq.put (some 30) v) W2 from ⟨hJ2.put hS 6 30 rfl (by omega) (W' := W2) hW hT v hv, hs⟩
      clear ho hall hl hQ
      generalize (Jrd7 wA g ao n cap cs A4 gr cc cp w0 a0) (lq.setIfInBounds 6 true) = K at hK ⊢
      clear hJ2 hS z1 z2 z3 z4 z6 z7
      go_simp
      exact hK _ _ z5 (fun _ _ h => h) rfl (hq _ _ (fun a => a) (fun _ _ a => a) (fun _ a => a))
    | 7, ho =>
      cases ho
      refine wpOp_of rfl rfl ?_
      have f6 : (aq.tmps.getD 30 undef) = .pointer (some ⟨A4, 0, none⟩) := z6 6 30 (hall { on := 6, ground := Ground.data } (by simp) rfl) rfl
      have hq := fun (W2 : World) (hD : DrD wA g ao n cap cs A4 W2) => AsI.stored (n := 8) (ib := 4) (ia := 5) (iz := 7) (A := A4) (de := 28) (da := 29) (m := 1) (c := cc) (az := aq) (D := (DrD wA g ao n cap cs A4)) (E := (fun ge W => wA.heap.size ≤ ge ∧ ∃ y0 y1 : Int, Blk W ge [.int .i64 y0, .int .i64 y1])) (o := (.slice (some ⟨gr, 0, none⟩) cc cp)) (G := (DrG wA g ao n cap cs)) (W2 := W2) hl (fun j hj hn => match j, hj, hn with | 0, _, _ => hall { on := 0, ground := Ground.phase } (by simp) rfl | 1, _, _ => hall { on := 1, ground := Ground.phase } (by simp) rfl | 2, _, _ => hall { on := 2, ground := Ground.phase } (by simp) rfl | 3, _, _ => hall { on := 3, ground := Ground.phase } (by simp) rfl | 4, _, _ => hall { on := 4, ground := Ground.phase } (by simp) rfl | 5, _, _ => hall { on := 5, ground := Ground.data } (by simp) rfl | 6, _, _ => hall { on := 6, ground := Ground.data } (by simp) rfl | 7, _, hn => absurd rfl hn | j + 8, hj, _ => absurd hj (by omega)) (by decide) (by decide) hD
      have xA := hs.2.1 (getD_tf hl)
      have gA := hs.2.2.2.1 (getD_tf hl) (hall { on := 5, ground := Ground.data } (by simp) rfl)
      have xa0 := xA.c 0 rfl; have y0 := xA.f 0 rfl; have al := xA.lt
      generalize hv0 : aq.tmps.getD 29 undef = v0 at gA
      obtain ⟨⟨Lq, O⟩, sR, sK⟩ := gA
      obtain ⟨gn, cn, rfl, bn, _, _⟩ := ownG_form O (by omega)
      have hne : A4 ≠ gn := row_ne xA O (by omega)
      have hK := fun (W2 : World) hW hT hv (hs : Srd7 wA g ao n cap cs A4 gr cc cp (lq.setIfInBounds 7 true) aq W2) => show (Jrd7 wA g ao n cap cs A4 gr cc cp w0 a0) (lq.setIfInBounds 7 true) aq W2 from ⟨hJ2.world 7 rfl (W' := W2) hW hT hv, hs⟩
      clear ho hall hl hQ
      generalize (Jrd7 wA g ao n cap cs A4 gr cc cp w0 a0) (lq.setIfInBounds 7 true) = K at hK ⊢
      clear hJ2 hS z1 z2 z3 z4 z6 z7
      go_simp
      refine hK _ (z5.setCell (p := ⟨A4, 0, none⟩) (show g ≤ A4 by omega) _) (fun _ _ h => Vrd7.same h) trivial (hq _ ⟨some ⟨gn, 0, none⟩, cc + 1, cn, by omega, xA.setI 0 (by simp) _, ⟨Lq, ?_⟩, ?_, ?_⟩)
      · exact sp_setO O hne _
      · exact rdr_below sR ((Below.refl wA.heap.size W).setCell (p := ⟨A4, 0, none⟩) hA4 _) hgA
      · exact kept_setO sK hgA hA4
    | iq + 8, ho => simp at ho
  · intro lq aq W ⟨hJ, hs⟩ hr
    obtain ⟨z1, z2, z3, z4, z5, z6, z7⟩ := hJ
    have hl := listed_of hr [0, 1, 2, 3, 4, 5, 6, 7] [] (by simp) (by kernel_rfl) (by rw [z1]; decide)
    exact hQ aq W z2 z3 (fun e he => z4 e (by simpa using he)) (z7 7 (hl 7 (by simp)) rfl) z5 (hs.2.2.2.2 (hl 7 (by simp)))
def Vrd9 (_wA : World) (g : Nat) (_ao : Option Addr) (_n _cap : Nat) (_cs : List Int) (A4 gr cc cp : Nat) (_B : Nat) : Nat → Value → World → Prop
  | 0, v, _ => v = .pointer (some ⟨A4, 0, none⟩)
  | 1, v, _ => v = (.slice (some ⟨gr, 0, none⟩) cc cp)
  | 2, v, _ => v = .pointer (some ⟨g, 0, none⟩)
  | 3, v, _ => ∃ p q : Int, v = .agg #[.int .i64 p, .int .i64 q]
  | 4, v, _ => v = .pointer (some ⟨g, 0, none⟩)
  | 5, v, _ => ∃ p q : Int, v = .agg #[.int .i64 p, .int .i64 q]
  | 8, v, _ => v = .pointer (some ⟨A4, 0, none⟩)
  | _, _, _ => True
theorem Vrd9.mono {wA : World} {g : Nat} {ao : Option Addr} {n cap : Nat} {cs : List Int} {A4 gr cc cp : Nat} {B j : Nat} {v : Value} {W W2 : World} (_hB : Below W.heap.size W W2) (h : Vrd9 wA g ao n cap cs A4 gr cc cp B j v W) : Vrd9 wA g ao n cap cs A4 gr cc cp B j v W2 := by
  unfold Vrd9 at *
  split <;> simp only at h <;> first | exact h | trivial
theorem Vrd9.same {wA : World} {g : Nat} {ao : Option Addr} {n cap : Nat} {cs : List Int} {A4 gr cc cp : Nat} {B j : Nat} {v : Value} {W W2 : World} (h : Vrd9 wA g ao n cap cs A4 gr cc cp B j v W) : Vrd9 wA g ao n cap cs A4 gr cc cp B j v W2 := by
  unfold Vrd9 at *
  split <;> simp only at h <;> first | exact h | trivial
def Srd9 (wA : World) (g : Nat) (ao : Option Addr) (n cap : Nat) (cs : List Int) (A4 gr cc cp : Nat) (lz : Array Bool) (az : Act) (W : World) : Prop := AsI 10 6 7 9 A4 39 40 2 (.slice (some ⟨gr, 0, none⟩) cc cp) cc (DrG wA g ao n cap cs) (fun ge W => wA.heap.size ≤ ge ∧ ∃ y0 y1 y2 y3 : Int, Blk W ge [.int .i64 y0, .int .i64 y1, .int .i64 y2, .int .i64 y3]) (DrD wA g ao n cap cs A4) lz az W

def Jrd9 (wA : World) (g : Nat) (ao : Option Addr) (n cap : Nat) (cs : List Int) (A4 gr cc cp : Nat) (w0 : World) (a0 : Act) (lz : Array Bool) (az : Act) (W : World) : Prop := InvQ (g) [some 33, some 34, some 35, some 36, some 37, some 38, some 39, some 40, some 41, none] (Vrd9 wA g ao n cap cs A4 gr cc cp (g)) w0 a0 lz az W ∧ Srd9 wA g ao n cap cs A4 gr cc cp lz az W
set_option maxRecDepth 100000 in
set_option maxHeartbeats 4000000 in
theorem rd9 {Q : Exit → Act → World → Prop} {wA : World} {g : Nat} {ao : Option Addr} {n cap : Nat} {cs : List Int} {A4 gr cc cp : Nat}  {w0 : World} {a0 : Act} {idq : Nat} {t0 t1 t2 t3 t4 t5 t6 t7 t8 t9 : TypeId} {q0 q1 q2 q3 q4 q5 q6 q7 q8 q9 : String}
    (hgA : g < wA.heap.size) (hA4 : wA.heap.size ≤ A4) (c3 : 3 ≤ cc) (c14 : cc ≤ 12) (agr : A4 ≠ gr) (s0 : Blk w0.drew A4 [(.slice (some ⟨gr, 0, none⟩) cc cp)] ∧ DrG wA g ao n cap cs (.slice (some ⟨gr, 0, none⟩) cc cp) cc w0.drew) (h4 : a0.tmps[4]? = some (.pointer (some ⟨A4, 0, none⟩))) (h3 : a0.tmps[3]? = some (.pointer (some ⟨g, 0, none⟩)))  (hz : a0.tmps.size = 43)
    (hQ : ∀ aq W, aq.tmps.size = a0.tmps.size → aq.defers = a0.defers → (∀ e, e ∉ ([33, 34, 35, 36, 37, 38, 39, 40, 41] : List Nat) → aq.tmps[e]? = a0.tmps[e]?) → Vrd9 wA g ao n cap cs A4 gr cc cp (g) 9 undef W → Below (g) w0 W → (DrD wA g ao n cap cs A4 W) → Q .normal aq W) :
    (Code.region idq #[{ dst := some 33, op := Op.fieldAddr 26 (Operand.tmp 4) 0, type := t0, pos := q0, after := #[], guard := none },
    { dst := some 34, op := Op.load 24 (Operand.tmp 33), type := t1, pos := q1, after := #[{ on := 0, ground := Ground.data }], guard := none },
    { dst := some 35, op := Op.move (Operand.tmp 3), type := t2, pos := q2, after := #[], guard := none },
    { dst := some 36, op := Op.call { callee := Callee.value (Operand.func 15), args := #[Operand.tmp 35], argTypes := #[33] }, type := t3, pos := q3, after := #[{ on := 2, ground := Ground.data }], guard := none },
    { dst := some 37, op := Op.move (Operand.tmp 3), type := t4, pos := q4, after := #[], guard := none },
    { dst := some 38, op := Op.call { callee := Callee.value (Operand.func 15), args := #[Operand.tmp 37], argTypes := #[33] }, type := t5, pos := q5, after := #[{ on := 4, ground := Ground.data }, { on := 3, ground := Ground.chain }], guard := none },
    { dst := some 39, op := Op.buildSlice 24 2 #[(0, Operand.tmp 36), (1, Operand.tmp 38)], type := t6, pos := q6, after := #[{ on := 3, ground := Ground.data }, { on := 5, ground := Ground.data }], guard := none },
    { dst := some 40, op := Op.call { callee := Callee.builtin Builtin.append, args := #[Operand.tmp 34, Operand.tmp 39], argTypes := #[24, 24] }, type := t7, pos := q7, after := #[{ on := 1, ground := Ground.data }, { on := 6, ground := Ground.data }, { on := 5, ground := Ground.chain }], guard := none },
    { dst := some 41, op := Op.fieldAddr 26 (Operand.tmp 4) 0, type := t8, pos := q8, after := #[{ on := 0, ground := Ground.phase }, { on := 1, ground := Ground.phase }, { on := 2, ground := Ground.phase }, { on := 3, ground := Ground.phase }, { on := 4, ground := Ground.phase }, { on := 5, ground := Ground.phase }, { on := 6, ground := Ground.phase }, { on := 7, ground := Ground.phase }], guard := none },
    { dst := none, op := Op.store 24 (Operand.tmp 41) (Operand.tmp 40), type := t9, pos := q9, after := #[{ on := 8, ground := Ground.data }, { on := 7, ground := Ground.data }, { on := 7, ground := Ground.chain }, { on := 0, ground := Ground.phase }, { on := 1, ground := Ground.phase }, { on := 2, ground := Ground.phase }, { on := 3, ground := Ground.phase }, { on := 4, ground := Ground.phase }, { on := 5, ground := Ground.phase }, { on := 6, ground := Ground.phase }, { on := 7, ground := Ground.phase }], guard := none }] true).wp Try.prog Q a0 w0 := by
  have hS : distS [some 33, some 34, some 35, some 36, some 37, some 38, some 39, some 40, some 41, none] = true := rfl
  refine wp_region_inv (by kernel_rfl) (Jrd9 wA g ao n cap cs A4 gr cc cp w0 a0) ⟨⟨rfl, rfl, rfl, fun _ _ => rfl, (Below.refl _ w0).drew, fun j d hj => ?_, fun j hj => ?_⟩, AsI.start (by exact s0)⟩ ?_ ?_
  · exfalso
    rw [Array.getD_eq_getD_getElem?, Array.getElem?_replicate] at hj
    split at hj <;> simp at hj
  · exfalso
    rw [Array.getD_eq_getD_getElem?, Array.getElem?_replicate] at hj
    split at hj <;> simp at hj
  · intro lq aq W iq oq ⟨hJ, hs⟩ hl ho hall
    have hJ2 := hJ
    obtain ⟨z1, z2, z3, z4, z5, z6, z7⟩ := hJ
    have g4 : aq.tmps.getD 4 undef = .pointer (some ⟨A4, 0, none⟩) := by rw [Array.getD_eq_getD_getElem?, z4 4 (by decide), h4]; rfl
    have g3 : aq.tmps.getD 3 undef = .pointer (some ⟨g, 0, none⟩) := by rw [Array.getD_eq_getD_getElem?, z4 3 (by decide), h3]; rfl
    match iq, ho with
    | 0, ho =>
      cases ho
      refine wpOp_of rfl rfl ?_
      have hq := fun (v : Value) (W2 : World) => hs.quiet (W2 := W2) 0 33 v (by decide) hl (by decide) (by decide) (by decide) (by decide) (by decide)
      have xA := hs.2.1 (hs.off (by decide) hl)
      have xa0 := xA.c 0 rfl
      have hK := fun (v : Value) (W2 : World) hW hT hv (hs : Srd9 wA g ao n cap cs A4 gr cc cp (lq.setIfInBounds 0 true) (aq.put (some 33) v) W2) => show (Jrd9 wA g ao n cap cs A4 gr cc cp w0 a0) (lq.setIfInBounds 0 true) (aq.put (some 33) v) W2 from ⟨hJ2.put hS 0 33 rfl (by omega) (W' := W2) hW hT v hv, hs⟩
      clear ho hall hl hQ
      generalize (Jrd9 wA g ao n cap cs A4 gr cc cp w0 a0) (lq.setIfInBounds 0 true) = K at hK ⊢
      clear hJ2 hS z1 z2 z3 z4 z6 z7
      go_simp
      exact hK _ _ z5 (fun _ _ h => h) rfl (hq _ _ (fun a => a) (fun _ _ a => a) (fun _ a => a))
    | 1, ho =>
      cases ho
      refine wpOp_of rfl rfl ?_
      have f0 : (aq.tmps.getD 33 undef) = .pointer (some ⟨A4, 0, none⟩) := z6 0 33 (hall { on := 0, ground := Ground.data } (by simp) rfl) rfl
      have hq := fun (v : Value) (W2 : World) => hs.quiet (W2 := W2) 1 34 v (by decide) hl (by decide) (by decide) (by decide) (by decide) (by decide)
      have xA := hs.2.1 (hs.off (by decide) hl)
      have xa0 := xA.c 0 rfl
      have hK := fun (v : Value) (W2 : World) hW hT hv (hs : Srd9 wA g ao n cap cs A4 gr cc cp (lq.setIfInBounds 1 true) (aq.put (some 34) v) W2) => show (Jrd9 wA g ao n cap cs A4 gr cc cp w0 a0) (lq.setIfInBounds 1 true) (aq.put (some 34) v) W2 from ⟨hJ2.put hS 1 34 rfl (by omega) (W' := W2) hW hT v hv, hs⟩
      clear ho hall hl hQ
      generalize (Jrd9 wA g ao n cap cs A4 gr cc cp w0 a0) (lq.setIfInBounds 1 true) = K at hK ⊢
      clear hJ2 hS z1 z2 z3 z4 z6 z7
      go_simp
      exact hK _ _ z5 (fun _ _ h => h) rfl (hq _ _ (fun a => a) (fun _ _ a => a) (fun _ a => a))
    | 2, ho =>
      cases ho
      refine wpOp_of rfl rfl ?_
      have hq := fun (v : Value) (W2 : World) => hs.quiet (W2 := W2) 2 35 v (by decide) hl (by decide) (by decide) (by decide) (by decide) (by decide)
      have xA := hs.2.1 (hs.off (by decide) hl)
      have xa0 := xA.c 0 rfl
      have hK := fun (v : Value) (W2 : World) hW hT hv (hs : Srd9 wA g ao n cap cs A4 gr cc cp (lq.setIfInBounds 2 true) (aq.put (some 35) v) W2) => show (Jrd9 wA g ao n cap cs A4 gr cc cp w0 a0) (lq.setIfInBounds 2 true) (aq.put (some 35) v) W2 from ⟨hJ2.put hS 2 35 rfl (by omega) (W' := W2) hW hT v hv, hs⟩
      clear ho hall hl hQ
      generalize (Jrd9 wA g ao n cap cs A4 gr cc cp w0 a0) (lq.setIfInBounds 2 true) = K at hK ⊢
      clear hJ2 hS z1 z2 z3 z4 z6 z7
      go_simp
      exact hK _ _ z5 (fun _ _ h => h) rfl (hq _ _ (fun a => a) (fun _ _ a => a) (fun _ a => a))
    | 3, ho =>
      cases ho
      refine wpOp_of rfl rfl ?_
      have f2 : (aq.tmps.getD 35 undef) = .pointer (some ⟨g, 0, none⟩) := z6 2 35 (hall { on := 2, ground := Ground.data } (by simp) rfl) rfl
      have hq := fun (v : Value) (W2 : World) => hs.quiet (W2 := W2) 3 36 v (by decide) hl (by decide) (by decide) (by decide) (by decide) (by decide)
      have xA := hs.2.1 (hs.off (by decide) hl)
      have xa0 := xA.c 0 rfl
      have gR : Rdr W g ao n cap cs := by
        cases hh : lq.getD 7 false with
        | false => exact (hs.2.2.1 hh).1.2.1
        | true => exact (hs.2.2.2.1 (hs.off (by decide) hl) hh).2.1
      have hK := fun (v : Value) (W2 : World) hW hT hv (hs : Srd9 wA g ao n cap cs A4 gr cc cp (lq.setIfInBounds 3 true) (aq.put (some 36) v) W2) => show (Jrd9 wA g ao n cap cs A4 gr cc cp w0 a0) (lq.setIfInBounds 3 true) (aq.put (some 36) v) W2 from ⟨hJ2.put hS 3 36 rfl (by omega) (W' := W2) hW hT v hv, hs⟩
      clear ho hall hl hQ
      generalize (Jrd9 wA g ao n cap cs A4 gr cc cp w0 a0) (lq.setIfInBounds 3 true) = K at hK ⊢
      clear hJ2 hS z1 z2 z3 z4 z6 z7
      go_simp
      refine (spot_any g ao n cap cs W gR).mono ?_
      rintro e v1 ⟨_, rfl, ⟨p, q, rfl, _, _, _, _⟩, R1, K1⟩
      exact hK _ _ (z5.trans (kept_below gR.lt K1)) (fun _ _ h => Vrd9.same h) ⟨p, q, rfl⟩ (hq _ _ (fun a => a.kept K1 (by omega)) (fun _ _ b => b.kept hgA R1 K1) (fun ge e => ⟨e.1, (by obtain ⟨h1, y0, y1, y2, y3, h2⟩ := e; exact ⟨y0, y1, y2, y3, h2.kept K1 (by omega)⟩)⟩))
    | 4, ho =>
      cases ho
      refine wpOp_of rfl rfl ?_
      have hq := fun (v : Value) (W2 : World) => hs.quiet (W2 := W2) 4 37 v (by decide) hl (by decide) (by decide) (by decide) (by decide) (by decide)
      have xA := hs.2.1 (hs.off (by decide) hl)
      have xa0 := xA.c 0 rfl
      have hK := fun (v : Value) (W2 : World) hW hT hv (hs : Srd9 wA g ao n cap cs A4 gr cc cp (lq.setIfInBounds 4 true) (aq.put (some 37) v) W2) => show (Jrd9 wA g ao n cap cs A4 gr cc cp w0 a0) (lq.setIfInBounds 4 true) (aq.put (some 37) v) W2 from ⟨hJ2.put hS 4 37 rfl (by omega) (W' := W2) hW hT v hv, hs⟩
      clear ho hall hl hQ
      generalize (Jrd9 wA g ao n cap cs A4 gr cc cp w0 a0) (lq.setIfInBounds 4 true) = K at hK ⊢
      clear hJ2 hS z1 z2 z3 z4 z6 z7
      go_simp
      exact hK _ _ z5 (fun _ _ h => h) rfl (hq _ _ (fun a => a) (fun _ _ a => a) (fun _ a => a))
    | 5, ho =>
      cases ho
      refine wpOp_of rfl rfl ?_
      have f4 : (aq.tmps.getD 37 undef) = .pointer (some ⟨g, 0, none⟩) := z6 4 37 (hall { on := 4, ground := Ground.data } (by simp) rfl) rfl
      have hq := fun (v : Value) (W2 : World) => hs.quiet (W2 := W2) 5 38 v (by decide) hl (by decide) (by decide) (by decide) (by decide) (by decide)
      have xA := hs.2.1 (hs.off (by decide) hl)
      have xa0 := xA.c 0 rfl
      have gR : Rdr W g ao n cap cs := by
        cases hh : lq.getD 7 false with
        | false => exact (hs.2.2.1 hh).1.2.1
        | true => exact (hs.2.2.2.1 (hs.off (by decide) hl) hh).2.1
      have hK := fun (v : Value) (W2 : World) hW hT hv (hs : Srd9 wA g ao n cap cs A4 gr cc cp (lq.setIfInBounds 5 true) (aq.put (some 38) v) W2) => show (Jrd9 wA g ao n cap cs A4 gr cc cp w0 a0) (lq.setIfInBounds 5 true) (aq.put (some 38) v) W2 from ⟨hJ2.put hS 5 38 rfl (by omega) (W' := W2) hW hT v hv, hs⟩
      clear ho hall hl hQ
      generalize (Jrd9 wA g ao n cap cs A4 gr cc cp w0 a0) (lq.setIfInBounds 5 true) = K at hK ⊢
      clear hJ2 hS z1 z2 z3 z4 z6 z7
      go_simp
      refine (spot_any g ao n cap cs W gR).mono ?_
      rintro e v1 ⟨_, rfl, ⟨p, q, rfl, _, _, _, _⟩, R1, K1⟩
      exact hK _ _ (z5.trans (kept_below gR.lt K1)) (fun _ _ h => Vrd9.same h) ⟨p, q, rfl⟩ (hq _ _ (fun a => a.kept K1 (by omega)) (fun _ _ b => b.kept hgA R1 K1) (fun ge e => ⟨e.1, (by obtain ⟨h1, y0, y1, y2, y3, h2⟩ := e; exact ⟨y0, y1, y2, y3, h2.kept K1 (by omega)⟩)⟩))
    | 6, ho =>
      cases ho
      refine wpOp_of rfl rfl ?_
      have f3 : ∃ p q : Int, (aq.tmps.getD 36 undef) = .agg #[.int .i64 p, .int .i64 q] := z6 3 36 (hall { on := 3, ground := Ground.data } (by simp) rfl) rfl
      obtain ⟨p3q, r3q, f3⟩ := f3
      have f5 : ∃ p q : Int, (aq.tmps.getD 38 undef) = .agg #[.int .i64 p, .int .i64 q] := z6 5 38 (hall { on := 5, ground := Ground.data } (by simp) rfl) rfl
      obtain ⟨p5q, r5q, f5⟩ := f5
      have hq := fun (ge ce : Nat) (W2 : World) => hs.built (W2 := W2) (g := ge) (cp := ce) (by decide) hl (by decide) (by decide) (by decide) (by rw [z2, hz]; decide)
      have gR : Rdr W g ao n cap cs := by
        cases hh : lq.getD 7 false with
        | false => exact (hs.2.2.1 hh).1.2.1
        | true => exact (hs.2.2.2.1 (hs.off (by decide) hl) hh).2.1
      have sK : wA.heap.size ≤ W.heap.size := by
        cases hh : lq.getD 7 false with
        | false => exact (hs.2.2.1 hh).1.2.2.size
        | true => exact (hs.2.2.2.1 (hs.off (by decide) hl) hh).2.2.size
      rw [Array.getD_eq_getD_getElem?] at f3
      rw [Array.getD_eq_getD_getElem?] at f5
      have hK := fun (v : Value) (W2 : World) hW hT hv (hs : Srd9 wA g ao n cap cs A4 gr cc cp (lq.setIfInBounds 6 true) (aq.put (some 39) v) W2) => show (Jrd9 wA g ao n cap cs A4 gr cc cp w0 a0) (lq.setIfInBounds 6 true) (aq.put (some 39) v) W2 from ⟨hJ2.put hS 6 39 rfl (by omega) (W' := W2) hW hT v hv, hs⟩
      clear ho hall hl hQ
      generalize (Jrd9 wA g ao n cap cs A4 gr cc cp w0 a0) (lq.setIfInBounds 6 true) = K at hK ⊢
      clear hJ2 hS z1 z2 z3 z4 z6 z7
      have zs := z5.size
      go_simp
      exact hK _ _ (z5.alloc (by omega) _) (fun _ _ h => Vrd9.same h) trivial (hq _ _ _ (fun a => a.alloc _) (fun _ _ b => b.alloc _) ⟨sK, p3q, r3q, p5q, r5q, Blk.new W [.int .i64 p3q, .int .i64 r3q, .int .i64 p5q, .int .i64 r5q] _ rfl⟩)
    | 7, ho =>
      cases ho
      refine wpOp_of rfl rfl ?_
      have f1 : (aq.tmps.getD 34 undef) = (.slice (some ⟨gr, 0, none⟩) cc cp) := z6 1 34 (hall { on := 1, ground := Ground.data } (by simp) rfl) rfl
      have hq := fun (v : Value) (W2 : World) => hs.appended (W2 := W2) (by decide) hl (by decide) (by rw [z2, hz]; decide) v
      obtain ⟨⟨⟨Lq, ow⟩, gR, gK⟩, hb⟩ := hs.2.2.1 (getD_tf hl)
      obtain ⟨ge, ce, ee, el, y0, y1, y2, y3, X⟩ := hb (hall { on := 6, ground := Ground.data } (by simp) rfl)
      obtain ⟨i0, hi, hz0, hz1, hz2⟩ := info_parts Try.infoSpotR
      have hK := fun (v : Value) (W2 : World) hW hT hv (hs : Srd9 wA g ao n cap cs A4 gr cc cp (lq.setIfInBounds 7 true) (aq.put (some 40) v) W2) => show (Jrd9 wA g ao n cap cs A4 gr cc cp w0 a0) (lq.setIfInBounds 7 true) (aq.put (some 40) v) W2 from ⟨hJ2.put hS 7 40 rfl (by omega) (W' := W2) hW hT v hv, hs⟩
      clear ho hall hl hQ
      generalize (Jrd9 wA g ao n cap cs A4 gr cc cp w0 a0) (lq.setIfInBounds 7 true) = K at hK ⊢
      clear hJ2 hS z1 z2 z3 z4 z6 z7
      have zs := z5.size
      have gs := gK.size
      refine wp_append_own (P := Try.prog) W (Operand.tmp 34) (Operand.tmp 39) 24 rfl wA.heap.size 38 i0 (.agg #[.int .i64 0, .int .i64 0]) 2 16 Try.underlying24 hi hz0 hz1 hz2 rfl (by decide) (.slice (some ⟨gr, 0, none⟩) cc cp) cc (Lq.map (Value.int .i64)) (by assumption) ow ⟨ge, 0, none⟩ 2 ce [.int .i64 y0, .int .i64 y1, .int .i64 y2, .int .i64 y3] ee rfl (blk_news X) (one2 _ _ _ _ ) (by unfold maxLen; omega) (by omega) (by omega) ?_
      intro v' w' ho2 hgr _
      exact hK v' w' (z5.grown hgr (by omega) (fun k hk => Nat.le_trans (Nat.le_of_lt hgA) (ow.lt k hk).1)) (fun _ _ h => Vrd9.same h) trivial (hq v' w' (fun a => blk_grown a hgr (by intro h; cases h; exact agr rfl)) ⟨⟨Lq ++ [y0, y1, y2, y3], (by unfold SpRow; rw [List.map_append]; exact ho2)⟩, rdr_grown gR hgr (fun k hk => Nat.lt_of_lt_of_le hgA (ow.lt k hk).1), kept_grown gK hgr (fun k hk => (ow.lt k hk).1)⟩)
    | 8, ho =>
      cases ho
      refine wpOp_of rfl rfl ?_
      have hq := fun (v : Value) (W2 : World) => hs.quiet (W2 := W2) 8 41 v (by decide) hl (by decide) (by decide) (by decide) (by decide) (by decide)
      have xA := hs.2.1 (hs.off (by decide) hl)
      have xa0 := xA.c 0 rfl
      have hK := fun (v : Value) (W2 : World) hW hT hv (hs : Srd9 wA g ao n cap cs A4 gr cc cp (lq.setIfInBounds 8 true) (aq.put (some 41) v) W2) => show (Jrd9 wA g ao n cap cs A4 gr cc cp w0 a0) (lq.setIfInBounds 8 true) (aq.put (some 41) v) W2 from ⟨hJ2.put hS 8 41 rfl (by omega) (W' := W2) hW hT v hv, hs⟩
      clear ho hall hl hQ
      generalize (Jrd9 wA g ao n cap cs A4 gr cc cp w0 a0) (lq.setIfInBounds 8 true) = K at hK ⊢
      clear hJ2 hS z1 z2 z3 z4 z6 z7
      go_simp
      exact hK _ _ z5 (fun _ _ h => h) rfl (hq _ _ (fun a => a) (fun _ _ a => a) (fun _ a => a))
    | 9, ho =>
      cases ho
      refine wpOp_of rfl rfl ?_
      have f8 : (aq.tmps.getD 41 undef) = .pointer (some ⟨A4, 0, none⟩) := z6 8 41 (hall { on := 8, ground := Ground.data } (by simp) rfl) rfl
      have hq := fun (W2 : World) (hD : DrD wA g ao n cap cs A4 W2) => AsI.stored (n := 10) (ib := 6) (ia := 7) (iz := 9) (A := A4) (de := 39) (da := 40) (m := 2) (c := cc) (az := aq) (D := (DrD wA g ao n cap cs A4)) (E := (fun ge W => wA.heap.size ≤ ge ∧ ∃ y0 y1 y2 y3 : Int, Blk W ge [.int .i64 y0, .int .i64 y1, .int .i64 y2, .int .i64 y3])) (o := (.slice (some ⟨gr, 0, none⟩) cc cp)) (G := (DrG wA g ao n cap cs)) (W2 := W2) hl (fun j hj hn => match j, hj, hn with | 0, _, _ => hall { on := 0, ground := Ground.phase } (by simp) rfl | 1, _, _ => hall { on := 1, ground := Ground.phase } (by simp) rfl | 2, _, _ => hall { on := 2, ground := Ground.phase } (by simp) rfl | 3, _, _ => hall { on := 3, ground := Ground.phase } (by simp) rfl | 4, _, _ => hall { on := 4, ground := Ground.phase } (by simp) rfl | 5, _, _ => hall { on := 5, ground := Ground.phase } (by simp) rfl | 6, _, _ => hall { on := 6, ground := Ground.phase } (by simp) rfl | 7, _, _ => hall { on := 7, ground := Ground.data } (by simp) rfl | 8, _, _ => hall { on := 8, ground := Ground.data } (by simp) rfl | 9, _, hn => absurd rfl hn | j + 10, hj, _ => absurd hj (by omega)) (by decide) (by decide) hD
      have xA := hs.2.1 (getD_tf hl)
      have gA := hs.2.2.2.1 (getD_tf hl) (hall { on := 7, ground := Ground.data } (by simp) rfl)
      have xa0 := xA.c 0 rfl; have y0 := xA.f 0 rfl; have al := xA.lt
      generalize hv0 : aq.tmps.getD 40 undef = v0 at gA
      obtain ⟨⟨Lq, O⟩, sR, sK⟩ := gA
      obtain ⟨gn, cn, rfl, bn, _, _⟩ := ownG_form O (by omega)
      have hne : A4 ≠ gn := row_ne xA O (by omega)
      have hK := fun (W2 : World) hW hT hv (hs : Srd9 wA g ao n cap cs A4 gr cc cp (lq.setIfInBounds 9 true) aq W2) => show (Jrd9 wA g ao n cap cs A4 gr cc cp w0 a0) (lq.setIfInBounds 9 true) aq W2 from ⟨hJ2.world 9 rfl (W' := W2) hW hT hv, hs⟩
      clear ho hall hl hQ
      generalize (Jrd9 wA g ao n cap cs A4 gr cc cp w0 a0) (lq.setIfInBounds 9 true) = K at hK ⊢
      clear hJ2 hS z1 z2 z3 z4 z6 z7
      go_simp
      refine hK _ (z5.setCell (p := ⟨A4, 0, none⟩) (show g ≤ A4 by omega) _) (fun _ _ h => Vrd9.same h) trivial (hq _ ⟨some ⟨gn, 0, none⟩, cc + 2, cn, by omega, xA.setI 0 (by simp) _, ⟨Lq, ?_⟩, ?_, ?_⟩)
      · exact sp_setO O hne _
      · exact rdr_below sR ((Below.refl wA.heap.size W).setCell (p := ⟨A4, 0, none⟩) hA4 _) hgA
      · exact kept_setO sK hgA hA4
    | iq + 10, ho => simp at ho
  · intro lq aq W ⟨hJ, hs⟩ hr
    obtain ⟨z1, z2, z3, z4, z5, z6, z7⟩ := hJ
    have hl := listed_of hr [0, 1, 2, 3, 4, 5, 6, 7, 8, 9] [] (by simp) (by kernel_rfl) (by rw [z1]; decide)
    exact hQ aq W z2 z3 (fun e he => z4 e (by simpa using he)) (z7 9 (hl 9 (by simp)) rfl) z5 (hs.2.2.2.2 (hl 9 (by simp)))
end Go.Proofs.Ytbhhegmlfclhbaa

/- A ring that may be at fault, drawn from a code. -/
namespace Go.Proofs.Ytbhhegmlfclhbaa
open Go.RowKit
/-- A ring of the call's own. -/
def RfP (w : World) (e : Ending) (w' : World) : Prop := ∃ v c L, e = .returned (.agg #[v]) ∧ c ≤ 14 ∧ SpRow w' w.heap.size v c L ∧ Below w.heap.size w w'
set_option maxRecDepth 100000 in
set_option maxHeartbeats 8000000 in
theorem drawRingFault_any (ao : Option Addr) (n cap : Nat) (cs : List Int) (w : World) (h : Code w ao n cs) : Calls Try.prog 5 #[.slice ao n cap] w (RfP w) := by
  have B := Blk.new w [.slice none 0 0] 26 rfl
  rw [show ([.slice none 0 0] : List Value).toArray = #[.slice none 0 0] from rfl] at B
  have HB : Below w.heap.size w (w.alloc (.cells #[.slice none 0 0] 26)) := (Below.refl _ _).alloc (Nat.le_refl _) _
  replace h := h.below HB
  go_enter Try.func5, Try.ntmps5
  go_wp2_with fail
  refine (open_any ao n cap cs _ h).mono ?_
  rintro e w1 ⟨g, rfl, hG, R, hB⟩
  simp at hG
  have hne : w.heap.size ≠ g := by omega
  replace B := B.step hB
  have bl1 := B.lt
  replace HB : Below w.heap.size w w1 := HB.trans (hB.mono HB.size)
  have hgA := R.lt
  clear hB h
  go_wp2_with fail
  refine (ring_any g ao n cap cs _ R).mono ?_
  rintro e w2 ⟨v, cc, Lq, rfl, c3, c12, O, R1, K1⟩
  obtain ⟨gr, cp, rfl, hgr, ccp, _⟩ := ownG_form O (by omega)
  have grl : gr < w2.heap.size := (O.lt gr rfl).2
  replace B := B.kept K1 hne
  replace HB := HB.trans (K1.below (by omega) HB.size)
  have agr : w2.heap.size ≠ gr := by omega
  have hs2 := K1.size
  have X4 : Blk (w2.alloc (.cells #[(.slice (some ⟨gr, 0, none⟩) cc cp)] 26)) w2.heap.size [(.slice (some ⟨gr, 0, none⟩) cc cp)] := Blk.new w2 [(.slice (some ⟨gr, 0, none⟩) cc cp)] 26 rfl
  have D4 : DrG w1 g ao n cap cs (.slice (some ⟨gr, 0, none⟩) cc cp) cc (w2.alloc (.cells #[(.slice (some ⟨gr, 0, none⟩) cc cp)] 26)) := ⟨⟨Lq, O.alloc _⟩, R1.alloc _, K1.alloc _⟩
  replace B : Blk (w2.alloc (.cells #[(.slice (some ⟨gr, 0, none⟩) cc cp)] 26)) w.heap.size [.slice none 0 0] := B.alloc _
  replace HB : Below w.heap.size w (w2.alloc (.cells #[(.slice (some ⟨gr, 0, none⟩) cc cp)] 26)) := HB.alloc HB.size _
  clear R R1 K1 O
  go_upto_region 3 with fail
  revert X4 D4 B HB
  generalize (w2.alloc (.cells #[(.slice (some ⟨gr, 0, none⟩) cc cp)] 26)) = W2
  intro X4 D4 B HB
  go_wp2_with fail
  refine (below_any 8 (by decide) (by decide) g ao n cap cs _ D4.2.1).mono ?_
  rintro e w3 ⟨_, rfl, ⟨jz, rfl, j0, j1⟩, R1, K1⟩
  replace B := B.kept K1 hne
  replace HB := HB.trans (K1.below (by omega) HB.size)
  have S0 : Hid (Blk w3.drew w2.heap.size [(.slice (some ⟨gr, 0, none⟩) cc cp)] ∧ DrG w1 g ao n cap cs (.slice (some ⟨gr, 0, none⟩) cc cp) cc w3.drew) := ⟨(X4.kept K1 (by omega)).drew, D4.kept hgA R1.drew K1.drew⟩
  have S1 : Blk w3 w2.heap.size [(.slice (some ⟨gr, 0, none⟩) cc cp)] ∧ DrG w1 g ao n cap cs (.slice (some ⟨gr, 0, none⟩) cc cp) cc w3 := ⟨X4.kept K1 (by omega), D4.kept hgA R1 K1⟩
  clear X4 D4 R1 K1 hs2
  rcases (show jz = 0 ∨ jz = 1 ∨ jz = 2 ∨ 3 ≤ jz by omega) with rfl | rfl | rfl | h3
  · go_upto_region 5 with fail
    refine rd5 (wA := w1) (g := g) (ao := ao) (n := n) (cap := cap) (cs := cs) (A4 := w2.heap.size) (gr := gr) (cc := cc) (cp := cp) hgA (by omega) c3 c12 ccp agr S0.out rfl rfl rfl ?_
    rintro ⟨tm, df⟩ W6 hz hdf hoff _ hBz hD
    simp only at hz hdf hoff
    subst hdf
    have htm := tmps_fold [13, 14, 15, 16, 17, 18, 19, 20, 21] tm _ hz hoff
    simp only [List.foldl, List.setIfInBounds_toArray, List.set_cons_zero, List.set_cons_succ] at htm
    clear hz hoff
    generalize tm.getD 13 undef = s0, tm.getD 14 undef = s1, tm.getD 15 undef = s2, tm.getD 16 undef = s3, tm.getD 17 undef = s4, tm.getD 18 undef = s5, tm.getD 19 undef = s6, tm.getD 20 undef = s7, tm.getD 21 undef = s8 at htm
    subst htm
    replace B : Blk W6 w.heap.size [.slice none 0 0] := B.below hBz (by omega)
    replace HB : Below w.heap.size w W6 := HB.trans (hBz.mono (by omega))
    clear hBz S0
    obtain ⟨qo, qc, qp, hq, X4, ⟨Lq, O⟩, _, K⟩ := hD
    have HE : Hid (SpRow W6 w1.heap.size (.slice qo qc qp) qc Lq) := O
    have x0 := X4.c 0 rfl; have o0 := B.c 0 rfl; have f0 := B.f 0 rfl; have ol := B.lt
    clear O X4 K
    go_wp2
    refine bodyPost_ret (v := .agg #[.slice qo qc qp]) (by simp [results, Try.results5, go_sem, o0]) rfl ?_
    refine ⟨_, qc, Lq, rfl, hq, ?_, HB.setCell (Nat.le_refl _) _⟩
    exact ownG_mono (ownG_setO HE.out (p := ⟨w.heap.size, 0, none⟩) (by show w.heap.size < _; omega) _) (by omega)
  · go_upto_region 7 with fail
    refine rd7 (wA := w1) (g := g) (ao := ao) (n := n) (cap := cap) (cs := cs) (A4 := w2.heap.size) (gr := gr) (cc := cc) (cp := cp) hgA (by omega) c3 c12 agr S0.out rfl rfl rfl ?_
    rintro ⟨tm, df⟩ W6 hz hdf hoff _ hBz hD
    simp only at hz hdf hoff
    subst hdf
    have htm := tmps_fold [24, 25, 26, 27, 28, 29, 30] tm _ hz hoff
    simp only [List.foldl, List.setIfInBounds_toArray, List.set_cons_zero, List.set_cons_succ] at htm
    clear hz hoff
    generalize tm.getD 24 undef = s0, tm.getD 25 undef = s1, tm.getD 26 undef = s2, tm.getD 27 undef = s3, tm.getD 28 undef = s4, tm.getD 29 undef = s5, tm.getD 30 undef = s6 at htm
    subst htm
    replace B : Blk W6 w.heap.size [.slice none 0 0] := B.below hBz (by omega)
    replace HB : Below w.heap.size w W6 := HB.trans (hBz.mono (by omega))
    clear hBz S0
    obtain ⟨qo, qc, qp, hq, X4, ⟨Lq, O⟩, _, K⟩ := hD
    have HE : Hid (SpRow W6 w1.heap.size (.slice qo qc qp) qc Lq) := O
    have x0 := X4.c 0 rfl; have o0 := B.c 0 rfl; have f0 := B.f 0 rfl; have ol := B.lt
    clear O X4 K
    go_wp2
    refine bodyPost_ret (v := .agg #[.slice qo qc qp]) (by simp [results, Try.results5, go_sem, o0]) rfl ?_
    refine ⟨_, qc, Lq, rfl, hq, ?_, HB.setCell (Nat.le_refl _) _⟩
    exact ownG_mono (ownG_setO HE.out (p := ⟨w.heap.size, 0, none⟩) (by show w.heap.size < _; omega) _) (by omega)
  · go_upto_region 9 with fail
    refine rd9 (wA := w1) (g := g) (ao := ao) (n := n) (cap := cap) (cs := cs) (A4 := w2.heap.size) (gr := gr) (cc := cc) (cp := cp) hgA (by omega) c3 c12 agr S0.out rfl rfl rfl ?_
    rintro ⟨tm, df⟩ W6 hz hdf hoff _ hBz hD
    simp only at hz hdf hoff
    subst hdf
    have htm := tmps_fold [33, 34, 35, 36, 37, 38, 39, 40, 41] tm _ hz hoff
    simp only [List.foldl, List.setIfInBounds_toArray, List.set_cons_zero, List.set_cons_succ] at htm
    clear hz hoff
    generalize tm.getD 33 undef = s0, tm.getD 34 undef = s1, tm.getD 35 undef = s2, tm.getD 36 undef = s3, tm.getD 37 undef = s4, tm.getD 38 undef = s5, tm.getD 39 undef = s6, tm.getD 40 undef = s7, tm.getD 41 undef = s8 at htm
    subst htm
    replace B : Blk W6 w.heap.size [.slice none 0 0] := B.below hBz (by omega)
    replace HB : Below w.heap.size w W6 := HB.trans (hBz.mono (by omega))
    clear hBz S0
    obtain ⟨qo, qc, qp, hq, X4, ⟨Lq, O⟩, _, K⟩ := hD
    have HE : Hid (SpRow W6 w1.heap.size (.slice qo qc qp) qc Lq) := O
    have x0 := X4.c 0 rfl; have o0 := B.c 0 rfl; have f0 := B.f 0 rfl; have ol := B.lt
    clear O X4 K
    go_wp2
    refine bodyPost_ret (v := .agg #[.slice qo qc qp]) (by simp [results, Try.results5, go_sem, o0]) rfl ?_
    refine ⟨_, qc, Lq, rfl, hq, ?_, HB.setCell (Nat.le_refl _) _⟩
    exact ownG_mono (ownG_setO HE.out (p := ⟨w.heap.size, 0, none⟩) (by show w.heap.size < _; omega) _) (by omega)
  · have n0 : (jz == 0) = false := beq_eq_false_iff_ne.2 (by omega)
    have n1 : (jz == 1) = false := beq_eq_false_iff_ne.2 (by omega)
    have n2 : (jz == 2) = false := beq_eq_false_iff_ne.2 (by omega)
    have hD : DrD w1 g ao n cap cs w2.heap.size w3 := ⟨some ⟨gr, 0, none⟩, cc, cp, by omega, S1⟩
    clear S0 S1
    obtain ⟨qo, qc, qp, hq, X4, ⟨Lq, O⟩, _, K⟩ := hD
    have HE : Hid (SpRow w3 w1.heap.size (.slice qo qc qp) qc Lq) := O
    have x0 := X4.c 0 rfl; have o0 := B.c 0 rfl; have f0 := B.f 0 rfl; have ol := B.lt
    clear O X4 K
    go_wp2
    refine bodyPost_ret (v := .agg #[.slice qo qc qp]) (by simp [results, Try.results5, go_sem, o0]) rfl ?_
    refine ⟨_, qc, Lq, rfl, hq, ?_, HB.setCell (Nat.le_refl _) _⟩
    exact ownG_mono (ownG_setO HE.out (p := ⟨w.heap.size, 0, none⟩) (by show w.heap.size < _; omega) _) (by omega)
end Go.Proofs.Ytbhhegmlfclhbaa
