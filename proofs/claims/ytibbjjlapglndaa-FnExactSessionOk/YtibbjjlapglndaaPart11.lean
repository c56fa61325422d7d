/- Part 11 of the walks that the proof leans on. -/
import Derived.Test.YtibbjjlapglndaaPart9
import Derived.Test.YtibbjjlapglndaaPart10
import Derived.Laws.AppendOwn
import Derived.Test.YtibbjjlapglndaaPart3
/- What is at fault in a ring: the model's walk. -/
namespace Go.Proofs.Ytibbjjlapglndaa
open Go.RowKit
set_option maxRecDepth 100000 in
set_option maxHeartbeats 200000000 in
theorem specRingFault_any (ao : Option Addr) (n cap : Nat) (p : Ps) (hn : n ≤ 1048576) (w : World) (hS : SpIn w ao n p) : Calls Try.prog 16 #[.agg #[.slice ao n cap]] w (VP (.int .i64 (rgF n p)) w) := by
  have B0 := Blk.new w [.slice ao n cap] 45 rfl
  have HB0 : Below w.heap.size w (w.alloc (.cells #[.slice ao n cap] 45)) := (Below.refl _ w).alloc (Nat.le_refl _) _
  have HS0 := hS.step HB0
  have b0 := B0.c 0 rfl
  have hnI : (n : Int) ≤ 1048576 := by omega
  clear hS
  go_enter Try.func16, Try.ntmps16
  go_upto_region 1 with fail
  generalize (w.alloc (.cells #[.slice ao n cap] 45)) = W1 at *
  by_cases h1 : n < 3
  · have HO : Hid (rgF n p = 1) := by show _ = _; unfold rgF; rw [if_pos h1]
    have h1I : (n : Int) < 3 := by omega
    clear HS0 B0
    go_wp2
    go_ret
    exact ⟨by rw [HO.out]; rfl, HB0⟩
  by_cases h2 : 12 < n
  · have HO : Hid (rgF n p = 2) := by show _ = _; unfold rgF; rw [if_neg h1, if_pos h2]
    have h1I : (3 : Int) ≤ n := by omega
    have h2I : (12 : Int) < n := by omega
    clear HS0 B0
    go_wp2
    go_ret
    exact ⟨by rw [HO.out]; rfl, HB0⟩
  have h1I : (3 : Int) ≤ n := by omega
  have h2I : (n : Int) ≤ 12 := by omega
  have HS : Hid (SpIn W1 ao n p) := HS0
  clear HS0
  go_wp2_with fail
  clear b0
  go_loopw [4] (fun i wr => ∃ c : Nat, c ≤ n ∧ i = .int .i64 c ∧ (∀ j, j < c → spotOk (p j).1 (p j).2 = true) ∧ Below W1.heap.size W1 wr) (fun i _ => n - (intOf i).toNat)
  case atStart => exact ⟨0, by omega, rfl, fun j hj => by omega, Below.refl _ _⟩
  case round =>
    obtain ⟨c, hc, rfl, hall, HB⟩ := hrel
    have HA : Hid (∀ j, j < c → spotOk (p j).1 (p j).2 = true) := hall
    clear hall
    by_cases hcn : c < n
    · obtain ⟨A, off, rfl, hA, q0, q1⟩ := HS.out.step HB c hcn
      have hcI : (c : Int) < n := by omega
      have b0 := (B0.step HB).c 0 rfl
      go_wp2_with fail
      refine (specSpotOk_any (p c).1 (p c).2 _ rfl _).mono ?_
      rintro e w1 ⟨rfl, hB⟩
      replace HB := HB.trans (hB.mono HB.size)
      clear hB q0 q1 hA b0
      by_cases hk : spotOk (p c).1 (p c).2 = true
      · rw [hk]
        have HK : Hid (spotOk (p c).1 (p c).2 = true) := hk
        clear hk
        go_wp2
        go_roundw
        case rel => exact ⟨c + 1, by omega, by go_num, fun j hj => by
          rcases Nat.lt_or_ge j c with h | h
          · exact HA.out j h
          · obtain rfl : j = c := by omega
            exact HK.out, HB⟩
        case measure => simp [intOf]; omega
      · have HO : Hid (rgF n p = 3) := by show _ = _; unfold rgF; rw [if_neg h1, if_neg h2, if_pos (fun h => hk (h c hcn))]
        rw [Bool.eq_false_iff.2 hk]
        have HBF := HB0.trans (HB.mono HB0.size)
        clear hk
        go_wp2
        go_ret
        exact ⟨by rw [HO.out]; rfl, HBF⟩
    · obtain rfl : n = c := by omega
      have HB1 := HB0.trans (HB.mono HB0.size)
      have HS1 : Hid (SpIn wr ao n p) := HS.out.step HB
      have B1 := B0.step HB
      clear HS B0 HB
      go_wp2_with fail
      generalize wr = W2 at *
      go_loopw [5] (fun i wr => ∃ c : Nat, c ≤ n ∧ i = .int .i64 c ∧ (∀ j, j < c → ∀ k, k < j → p j ≠ p k) ∧ Below W2.heap.size W2 wr) (fun i _ => n - (intOf i).toNat)
      case atStart => exact ⟨0, by omega, rfl, fun j hj => by omega, Below.refl _ _⟩
      case round =>
        rename_i hrel
        obtain ⟨c, hc, rfl, hall, HB⟩ := hrel
        have HC : Hid (∀ j, j < c → ∀ k, k < j → p j ≠ p k) := hall
        clear hall
        by_cases hcn : c < n
        · have hcI : (c : Int) < n := by omega
          have HSo : Hid (SpIn wr ao n p) := HS1.out.step HB
          have HB4 := HB1.trans (HB.mono HB1.size)
          have B3 := B1.step HB
          have HBo := HB
          clear HB
          go_wp2_with fail
          generalize wr = W4 at *
          go_loopw [6] (fun i wr => ∃ d : Nat, d ≤ c ∧ i = .int .i64 d ∧ (∀ k, k < d → p c ≠ p k) ∧ Below W4.heap.size W4 wr) (fun i _ => c - (intOf i).toNat)
          case atStart => exact ⟨0, by omega, rfl, fun j hj => by omega, Below.refl _ _⟩
          case round =>
            rename_i hrel
            obtain ⟨d, hd, rfl, hall, HB⟩ := hrel
            have HE : Hid (∀ k, k < d → p c ≠ p k) := hall
            clear hall
            by_cases hdn : d < c
            · have hdI : (d : Int) < c := by omega
              have hdI2 : (d : Int) < n := by omega
              obtain ⟨A, off, rfl, hA, q0, q1⟩ := HSo.out.step HB c hcn
              obtain ⟨A', off', hao, -, m0, m1⟩ := HSo.out.step HB d (by omega)
              obtain ⟨rfl, rfl⟩ : A = A' ∧ off = off' := by simpa using hao
              have b0 := (B3.step HB).c 0 rfl
              have EQ := eqSp2 (p c).1 (p c).2 (p d).1 (p d).2
              have KS : (fun w' : World => w'.cell? ⟨w.heap.size, 0, none⟩ = some (.slice (some ⟨A, off, none⟩) n cap) ∧ w'.cell? ⟨A, off + c * 2, none⟩ = some (.int .i64 (p c).1) ∧ w'.cell? ⟨A, off + c * 2 + 1, none⟩ = some (.int .i64 (p c).2) ∧ w'.cell? ⟨A, off + d * 2, none⟩ = some (.int .i64 (p d).1) ∧ w'.cell? ⟨A, off + d * 2 + 1, none⟩ = some (.int .i64 (p d).2)) wr := ⟨b0, q0, q1, m0, m1⟩
              go_upto_region 17 with fail
              go_region_held3 (fun w' : World => w'.cell? ⟨w.heap.size, 0, none⟩ = some (.slice (some ⟨A, off, none⟩) n cap) ∧ w'.cell? ⟨A, off + c * 2, none⟩ = some (.int .i64 (p c).1) ∧ w'.cell? ⟨A, off + c * 2 + 1, none⟩ = some (.int .i64 (p c).2) ∧ w'.cell? ⟨A, off + d * 2, none⟩ = some (.int .i64 (p d).1) ∧ w'.cell? ⟨A, off + d * 2 + 1, none⟩ = some (.int .i64 (p d).2)) (exact KS) (fail)
              all_goals have HBD := HB.drew
              all_goals clear KS b0 q0 q1 m0 m1 EQ hao hA HB
              all_goals by_cases h : (p c).1 = (p d).1 ∧ (p c).2 = (p d).2
              all_goals first
                | (have HO : Hid (rgF n p = 4) := by
                     show _ = _
                     unfold rgF
                     rw [if_neg h1, if_neg h2, if_neg (fun hh => hh HA.out), if_pos (fun hh => hh c hcn d hdn (Prod.ext h.1 h.2))]
                   have d1 : (decide ((p c).1 = (p d).1) && decide ((p c).2 = (p d).2)) = true := by simp [h.1, h.2]
                   rw [d1]
                   have HBF := HB4.trans (HBD.mono HB4.size)
                   clear d1 h
                   go_wp2
                   go_ret
                   exact ⟨by rw [HO.out]; rfl, HBF⟩)
                | (have HH : Hid (p c ≠ p d) := fun e => h ⟨by rw [e], by rw [e]⟩
                   have d1 : (decide ((p c).1 = (p d).1) && decide ((p c).2 = (p d).2)) = false := by
                     rw [Bool.eq_false_iff]
                     intro hh
                     simp at hh
                     exact h hh
                   rw [d1]
                   clear d1 h
                   go_wp2
                   go_roundw)
              case rel => exact ⟨d + 1, by omega, by go_num, fun k hk => by
                rcases Nat.lt_or_ge k d with h | h
                · exact HE.out k h
                · obtain rfl : k = d := by omega
                  exact HH.out, HBD⟩
              case measure => simp [intOf]; omega
            · obtain rfl : c = d := by omega
              have HBF := HBo.trans (HB.mono HBo.size)
              clear HB HBo HB4 HSo B3
              go_wp2
              go_roundw
              case rel => exact ⟨c + 1, by omega, by go_num, fun j hj => by
                rcases Nat.lt_or_ge j c with h | h
                · exact HC.out j h
                · obtain rfl : j = c := by omega
                  exact HE.out, HBF⟩
              case measure => simp [intOf]; omega
        · obtain rfl : n = c := by omega
          have HB3 := HB1.trans (HB.mono HB1.size)
          have HS2 : Hid (SpIn wr ao n p) := HS1.out.step HB
          have B2 := B1.step HB
          clear HS1 B1 HB HB1
          go_wp2_with fail
          generalize wr = W3 at *
          go_loopw [7] (fun i wr => ∃ c : Nat, c ≤ n ∧ i = .int .i64 c ∧ (∀ j, j < c → ∀ k, k < j → bdB n p j k = false) ∧ Below W3.heap.size W3 wr) (fun i _ => n - (intOf i).toNat)
          case atStart => exact ⟨0, by omega, rfl, fun j hj => by omega, Below.refl _ _⟩
          case round =>
            rename_i hrel
            obtain ⟨c, hc, rfl, hall, HB⟩ := hrel
            have HD : Hid (∀ j, j < c → ∀ k, k < j → bdB n p j k = false) := hall
            clear hall
            by_cases hcn : c < n
            · have hcI : (c : Int) < n := by omega
              have HSo : Hid (SpIn wr ao n p) := HS2.out.step HB
              have HB4 := HB3.trans (HB.mono HB3.size)
              have B3 := B2.step HB
              have HBo := HB
              clear HB
              go_wp2_with fail
              generalize wr = W4 at *
              go_loopw [8] (fun i wr => ∃ d : Nat, d ≤ c ∧ i = .int .i64 d ∧ (∀ k, k < d → bdB n p c k = false) ∧ Below W4.heap.size W4 wr) (fun i _ => c - (intOf i).toNat)
              case atStart => exact ⟨0, by omega, rfl, fun j hj => by omega, Below.refl _ _⟩
              case round =>
                rename_i hrel
                obtain ⟨d, hd, rfl, hall, HB⟩ := hrel
                have HE : Hid (∀ k, k < d → bdB n p c k = false) := hall
                clear hall
                by_cases hdn : d < c
                · have hdI : (d : Int) < c := by omega
                  have HSr := HSo.out.step HB
                  have B4 := B3.step HB
                  obtain ⟨A, off, rfl, -, -, -⟩ := HSr c hcn
                  obtain ⟨i1, i2, i3, i4⟩ := in1_seg (side_ok HA.out HC.out (by omega) hcn)
                  obtain ⟨j1, j2, j3, j4⟩ := in1_seg (side_ok HA.out HC.out (by omega) (show d < n by omega))
                  have L1 := fun w h => l5Side_any (some ⟨A, off, none⟩) n cap p c hcn hn w h
                  have L2 := fun w h => l5Side_any (some ⟨A, off, none⟩) n cap p d (by omega) hn w h
                  have LM := l4Meet_any (sdA n p c).1 (sdA n p c).2.1 (sdA n p c).2.2.1 (sdA n p c).2.2.2 (sdA n p d).1 (sdA n p d).2.1 (sdA n p d).2.2.1 (sdA n p d).2.2.2 i1 i2 i3 i4 j1 j2 j3 j4
                  have hbs := bd_same HC.out (by omega) hcn hdn
                  have hkin : kdA n p c d = 0 ∨ kdA n p c d = 1 ∨ kdA n p c d = 2 := knd_in _ _ _ _ _ _ _ _
                  go_upto_region 25 with fail
                  go_cut [9] (fun m wx => m = .int .i64 (kdA n p c d) ∧ Below wr.heap.size wr wx)
                  case first =>
                    clear HE HD HB4 HSo HS2 HA HC hbs hkin L1 L2 LM
                    refine reg25 (c := c) (d := d) hcn (by omega) hn HSr i1 i2 i3 i4 j1 j2 j3 j4 (by have hz := HB3.size; have hz2 := HBo.size; first | exact B4.lt | omega) (B4.c 0 rfl) rfl rfl rfl rfl (by simp) (by simp) (by simp) (by simp) ?_
                    rintro ⟨tm, df⟩ Wz hz hdf hoff h9 hBz
                    simp only at hz hdf hoff h9
                    subst hdf
                    have htm := tmps_fold [64, 65, 66, 67, 68, 69, 70, 63, 71, 72, 73, 10, 11, 9] tm _ hz hoff
                    simp only [List.foldl, List.setIfInBounds_toArray, List.set_cons_zero, List.set_cons_succ, h9] at htm
                    clear hz hoff
                    generalize tm.getD 64 undef = u0, tm.getD 65 undef = u1, tm.getD 66 undef = u2, tm.getD 67 undef = u3, tm.getD 68 undef = u4, tm.getD 69 undef = u5, tm.getD 70 undef = u6, tm.getD 63 undef = u7, tm.getD 71 undef = u8, tm.getD 72 undef = u9, tm.getD 73 undef = u10, tm.getD 10 undef = u11, tm.getD 11 undef = u12 at htm
                    clear h9
                    subst htm
                    go_wp2_with fail
                    go_meet
                    exact ⟨rfl, hBz⟩
                  case rest =>
                    obtain ⟨hm, hBc⟩ := hcut
                    subst hm
                    have HB5 := HB.trans (hBc.mono HB.size)
                    clear hBc HB B4 HSr L1 L2 LM i1 i2 i3 i4 j1 j2 j3 j4
                    generalize kdA n p c d = z at *
                    have hs1 : IntKind.i64.wrap ((c : Int) - 1) = (c : Int) - 1 := by rw [IntKind.wrap_i64]; omega
                    have hs2 : IntKind.i64.wrap ((n : Int) - 1) = (n : Int) - 1 := by rw [IntKind.wrap_i64]; omega
                    have HBS : Hid (bdB n p c d = ((nxB n c d && !(decide (z = 1))) || (!(nxB n c d) && !(decide (z = 0))))) := hbs
                    clear hbs
                    have HBF := HB4.trans (HB5.mono HB4.size)
                    rcases (show (d + 1 = c) ∨ (d + 1 ≠ c ∧ d = 0 ∧ c + 1 = n) ∨ (d + 1 ≠ c ∧ d = 0 ∧ c + 1 ≠ n) ∨ (d + 1 ≠ c ∧ d ≠ 0) by omega) with hN1 | hN2 | hN3 | hN4
                    · have HX : Hid (nxB n c d = true) := by show _ = _; unfold nxB; simp; omega
                      have b1 : ((d : Int) == (c : Int) - 1) = true := beq_iff_eq.2 (by omega)
                      clear hN1
                      rcases hkin with rfl | rfl | rfl
                      · have HO : Hid (rgF n p = 5) := by
                          show _ = _
                          unfold rgF
                          rw [if_neg h1, if_neg h2, if_neg (fun hh => hh HA.out), if_neg (fun hh => hh HC.out), if_pos (fun hh => by
                            have e := hh c hcn d hdn
                            rw [HBS.out, HX.out] at e
                            simp at e)]
                        go_wp2
                        go_ret
                        exact ⟨by rw [HO.out]; rfl, HBF⟩
                      · have HN : Hid (bdB n p c d = false) := by show _ = _; rw [HBS.out, HX.out]; rfl
                        go_wp2
                        go_roundw
                        case rel => exact ⟨d + 1, by omega, by go_num, fun k hk => by
                          rcases Nat.lt_or_ge k d with h | h
                          · exact HE.out k h
                          · obtain rfl : k = d := by omega
                            exact HN.out, HB5⟩
                        case measure => simp [intOf]; omega
                      · have HO : Hid (rgF n p = 5) := by
                          show _ = _
                          unfold rgF
                          rw [if_neg h1, if_neg h2, if_neg (fun hh => hh HA.out), if_neg (fun hh => hh HC.out), if_pos (fun hh => by
                            have e := hh c hcn d hdn
                            rw [HBS.out, HX.out] at e
                            simp at e)]
                        go_wp2
                        go_ret
                        exact ⟨by rw [HO.out]; rfl, HBF⟩
                    · have HX : Hid (nxB n c d = true) := by show _ = _; unfold nxB; simp; omega
                      have b1 : ((d : Int) == (c : Int) - 1) = false := beq_eq_false_iff_ne.2 (by omega)
                      have b2 : ((d : Int) == 0) = true := beq_iff_eq.2 (by omega)
                      have b3 : ((c : Int) == (n : Int) - 1) = true := beq_iff_eq.2 (by omega)
                      clear hN2
                      rcases hkin with rfl | rfl | rfl
                      · have HO : Hid (rgF n p = 5) := by
                          show _ = _
                          unfold rgF
                          rw [if_neg h1, if_neg h2, if_neg (fun hh => hh HA.out), if_neg (fun hh => hh HC.out), if_pos (fun hh => by
                            have e := hh c hcn d hdn
                            rw [HBS.out, HX.out] at e
                            simp at e)]
                        go_wp2
                        go_ret
                        exact ⟨by rw [HO.out]; rfl, HBF⟩
                      · have HN : Hid (bdB n p c d = false) := by show _ = _; rw [HBS.out, HX.out]; rfl
                        go_wp2
                        go_roundw
                        case rel => exact ⟨d + 1, by omega, by go_num, fun k hk => by
                          rcases Nat.lt_or_ge k d with h | h
                          · exact HE.out k h
                          · obtain rfl : k = d := by omega
                            exact HN.out, HB5⟩
                        case measure => simp [intOf]; omega
                      · have HO : Hid (rgF n p = 5) := by
                          show _ = _
                          unfold rgF
                          rw [if_neg h1, if_neg h2, if_neg (fun hh => hh HA.out), if_neg (fun hh => hh HC.out), if_pos (fun hh => by
                            have e := hh c hcn d hdn
                            rw [HBS.out, HX.out] at e
                            simp at e)]
                        go_wp2
                        go_ret
                        exact ⟨by rw [HO.out]; rfl, HBF⟩
                    · have HX : Hid (nxB n c d = false) := by show _ = _; unfold nxB; rw [Bool.eq_false_iff]; intro hh; simp at hh; omega
                      have b1 : ((d : Int) == (c : Int) - 1) = false := beq_eq_false_iff_ne.2 (by omega)
                      have b2 : ((d : Int) == 0) = true := beq_iff_eq.2 (by omega)
                      have b3 : ((c : Int) == (n : Int) - 1) = false := beq_eq_false_iff_ne.2 (by omega)
                      clear hN3
                      rcases hkin with rfl | rfl | rfl
                      · have HN : Hid (bdB n p c d = false) := by show _ = _; rw [HBS.out, HX.out]; rfl
                        go_wp2
                        go_roundw
                        case rel => exact ⟨d + 1, by omega, by go_num, fun k hk => by
                          rcases Nat.lt_or_ge k d with h | h
                          · exact HE.out k h
                          · obtain rfl : k = d := by omega
                            exact HN.out, HB5⟩
                        case measure => simp [intOf]; omega
                      · have HO : Hid (rgF n p = 5) := by
                          show _ = _
                          unfold rgF
                          rw [if_neg h1, if_neg h2, if_neg (fun hh => hh HA.out), if_neg (fun hh => hh HC.out), if_pos (fun hh => by
                            have e := hh c hcn d hdn
                            rw [HBS.out, HX.out] at e
                            simp at e)]
                        go_wp2
                        go_ret
                        exact ⟨by rw [HO.out]; rfl, HBF⟩
                      · have HO : Hid (rgF n p = 5) := by
                          show _ = _
                          unfold rgF
                          rw [if_neg h1, if_neg h2, if_neg (fun hh => hh HA.out), if_neg (fun hh => hh HC.out), if_pos (fun hh => by
                            have e := hh c hcn d hdn
                            rw [HBS.out, HX.out] at e
                            simp at e)]
                        go_wp2
                        go_ret
                        exact ⟨by rw [HO.out]; rfl, HBF⟩
                    · have HX : Hid (nxB n c d = false) := by show _ = _; unfold nxB; rw [Bool.eq_false_iff]; intro hh; simp at hh; omega
                      have b1 : ((d : Int) == (c : Int) - 1) = false := beq_eq_false_iff_ne.2 (by omega)
                      have b2 : ((d : Int) == 0) = false := beq_eq_false_iff_ne.2 (by omega)
                      clear hN4
                      rcases hkin with rfl | rfl | rfl
                      · have HN : Hid (bdB n p c d = false) := by show _ = _; rw [HBS.out, HX.out]; rfl
                        go_wp2
                        go_roundw
                        case rel => exact ⟨d + 1, by omega, by go_num, fun k hk => by
                          rcases Nat.lt_or_ge k d with h | h
                          · exact HE.out k h
                          · obtain rfl : k = d := by omega
                            exact HN.out, HB5⟩
                        case measure => simp [intOf]; omega
                      · have HO : Hid (rgF n p = 5) := by
                          show _ = _
                          unfold rgF
                          rw [if_neg h1, if_neg h2, if_neg (fun hh => hh HA.out), if_neg (fun hh => hh HC.out), if_pos (fun hh => by
                            have e := hh c hcn d hdn
                            rw [HBS.out, HX.out] at e
                            simp at e)]
                        go_wp2
                        go_ret
                        exact ⟨by rw [HO.out]; rfl, HBF⟩
                      · have HO : Hid (rgF n p = 5) := by
                          show _ = _
                          unfold rgF
                          rw [if_neg h1, if_neg h2, if_neg (fun hh => hh HA.out), if_neg (fun hh => hh HC.out), if_pos (fun hh => by
                            have e := hh c hcn d hdn
                            rw [HBS.out, HX.out] at e
                            simp at e)]
                        go_wp2
                        go_ret
                        exact ⟨by rw [HO.out]; rfl, HBF⟩
                · obtain rfl : c = d := by omega
                  have HBF := HBo.trans (HB.mono HBo.size)
                  clear HB HBo HB4 HSo B3
                  go_wp2
                  go_roundw
                  case rel => exact ⟨c + 1, by omega, by go_num, fun j hj => by
                    rcases Nat.lt_or_ge j c with h | h
                    · exact HD.out j h
                    · obtain rfl : j = c := by omega
                      exact HE.out, HBF⟩
                  case measure => simp [intOf]; omega
            · obtain rfl : n = c := by omega
              have HO : Hid (rgF n p = 0) := by
                show _ = _
                unfold rgF
                rw [if_neg h1, if_neg h2, if_neg (fun hh => hh HA.out), if_neg (fun hh => hh HC.out), if_neg (fun hh => hh HD.out)]
              have HBF := HB3.trans (HB.mono HB3.size)
              clear HS2 B2 HB HB3 HA HC HD
              go_wp2
              go_ret
              exact ⟨by rw [HO.out]; rfl, HBF⟩
end Go.Proofs.Ytibbjjlapglndaa

/- Rings that are turned: the program's small walks. -/
namespace Go.Proofs.Ytibbjjlapglndaa
open Go.RowKit
/-- The cells of n spots, one behind the other. -/
def spL (n : Nat) (p : Ps) : List Value := (List.range (n * 2)).map fun (i : Nat) => Value.int .i64 (spW p i)
theorem spL_at {n : Nat} {p : Ps} {i : Nat} (h : i < n * 2) : (spL n p)[i]? = some (.int .i64 (spW p i)) := by simp [spL, h]
/-- A slice of the call's own, with these spots. -/
def SpOwn (w : World) (base : Nat) (v : Value) (n : Nat) (p : Ps) : Prop :=
  (v = .slice none 0 0 ∧ n = 0) ∨ ∃ g cap f, v = .slice (some ⟨g, 0, none⟩) n cap ∧ base ≤ g ∧ n ≤ cap ∧ cap ≤ maxLen ∧ w.rowIs g 54 (cap * 2) f ∧ ∀ i, i < n * 2 → f i = .int .i64 (spW p i)
theorem SpOwn.of {w : World} {base : Nat} {v : Value} {n : Nat} {p : Ps} (h : w.ownsRow base 54 2 v n (spL n p)) : SpOwn w base v n p := by
  rcases h.2 with ⟨h1, h2⟩ | ⟨g, cap, cur, h1, h2, h3, h4, h5, h6, h7⟩
  · exact .inl ⟨h1, h2⟩
  · refine .inr ⟨g, cap, fun i => cur.getD i undef, h1, h2, h4, h5, ⟨cur, h3, by omega, fun i hi => ?_⟩, fun i hi => ?_⟩
    · simp [Array.getD_eq_getD_getElem?, show i < cur.size by omega]
    · have e : (cur.toList.take (n * 2))[i]? = (spL n p)[i]? := by rw [h7]
      rw [List.getElem?_take_of_lt hi, spL_at hi] at e
      simp only [Array.getElem?_toList] at e
      show cur.getD i undef = _
      rw [Array.getD_eq_getD_getElem?, e]
      rfl
end Go.Proofs.Ytibbjjlapglndaa

/- Whether two rings meet: the model's walk. -/
namespace Go.Proofs.Ytibbjjlapglndaa
open Go.RowKit
/-- What is asked of a ring whose sides are gone through. -/
structure RgOk (n : Nat) (p : Ps) : Prop where
  h3 : 3 ≤ n
  h12 : n ≤ 12
  ok : ∀ i, i < n → spotOk (p i).1 (p i).2 = true
  one : OneN n p
theorem rgF_ok {n : Nat} {p : Ps} (h : rgF n p = 0) : RgOk n p := by
  unfold rgF at h
  repeat' split at h
  all_goals first | omega | skip
  rename_i h1 h2 h3 h4 h5
  exact ⟨by omega, by omega, Decidable.not_not.1 h3, Decidable.not_not.1 h4⟩
set_option maxRecDepth 100000 in
set_option maxHeartbeats 8000000 in
theorem l5Meet_any (ao bo : Option Addr) (n cap m cap2 : Nat) (p q : Ps) (hp : RgOk n p) (hq : RgOk m q) (w : World) (hSp : SpIn w ao n p) (hSq : SpIn w bo m q) : Calls Try.prog 17 #[.agg #[.slice ao n cap], .agg #[.slice bo m cap2]] w (VP (.bool (rmB n p m q)) w) := by
  have A0 := (Blk.new w [.slice ao n cap] 45 rfl).alloc (.cells #[.slice bo m cap2] 45)
  have A1 := Blk.new (w.alloc (.cells #[.slice ao n cap] 45)) [.slice bo m cap2] 45 (g := w.heap.size + 1) (by simp)
  have HB0 : Below w.heap.size w ((w.alloc (.cells #[.slice ao n cap] 45)).alloc (.cells #[.slice bo m cap2] 45)) := ((Below.refl _ w).alloc (Nat.le_refl _) _).alloc (by simp) _
  have HP : Hid (RgOk n p) := hp
  have HQ : Hid (RgOk m q) := hq
  have h12 := hp.h12
  have m12 := hq.h12
  have hnI : (n : Int) ≤ 12 := by omega
  have hmI : (m : Int) ≤ 12 := by omega
  have HSp : Hid (SpIn ((w.alloc (.cells #[.slice ao n cap] 45)).alloc (.cells #[.slice bo m cap2] 45)) ao n p) := hSp.step HB0
  have HSq : Hid (SpIn ((w.alloc (.cells #[.slice ao n cap] 45)).alloc (.cells #[.slice bo m cap2] 45)) bo m q) := hSq.step HB0
  clear hSp hSq hp hq
  go_enter Try.func17, Try.ntmps17
  go_wp2_with fail
  generalize ((w.alloc (.cells #[.slice ao n cap] 45)).alloc (.cells #[.slice bo m cap2] 45)) = W1 at *
  go_loopw [5] (fun i wr => ∃ c : Nat, c ≤ n ∧ i = .int .i64 c ∧ (∀ j, j < c → ∀ k, k < m → kdX n p m q j k = 0) ∧ Below W1.heap.size W1 wr) (fun i _ => n - (intOf i).toNat)
  case atStart => exact ⟨0, by omega, rfl, fun j hj => by omega, Below.refl _ _⟩
  case round =>
    obtain ⟨c, hc, rfl, hall, HB⟩ := hrel
    have HD : Hid (∀ j, j < c → ∀ k, k < m → kdX n p m q j k = 0) := hall
    clear hall
    have b0 := (A0.step HB).c 0 rfl
    by_cases hcn : c < n
    · have hcI : (c : Int) < n := by omega
      have HBo := HB
      have HSp2 : Hid (SpIn wr ao n p) := HSp.out.step HB
      have HSq2 : Hid (SpIn wr bo m q) := HSq.out.step HB
      have D0 := A0.step HB
      have D1 := A1.step HB
      clear HB
      go_wp2_with fail
      clear b0
      generalize wr = W4 at *
      go_loopw [6] (fun i wr => ∃ d : Nat, d ≤ m ∧ i = .int .i64 d ∧ (∀ k, k < d → kdX n p m q c k = 0) ∧ Below W4.heap.size W4 wr) (fun i _ => m - (intOf i).toNat)
      case atStart => exact ⟨0, by omega, rfl, fun j hj => by omega, Below.refl _ _⟩
      case round =>
        rename_i hrel
        obtain ⟨d, hd, rfl, hall, HB⟩ := hrel
        have HE : Hid (∀ k, k < d → kdX n p m q c k = 0) := hall
        clear hall
        have b1 := (D1.step HB).c 0 rfl
        by_cases hdn : d < m
        · have hdI : (d : Int) < m := by omega
          have E0 := D0.step HB
          have E1 := D1.step HB
          have SP := HSp2.out.step HB
          have SQ := HSq2.out.step HB
          obtain ⟨i1, i2, i3, i4⟩ := in1_seg (side_ok HP.out.ok HP.out.one HP.out.h3 hcn)
          obtain ⟨j1, j2, j3, j4⟩ := in1_seg (side_ok HQ.out.ok HQ.out.one HQ.out.h3 hdn)
          have HSP : Hid (SpIn wr ao n p) := SP
          have HSQ : Hid (SpIn wr bo m q) := SQ
          clear SP SQ
          go_upto_region 7 with fail
          go_cut [7] (fun z wx => z = .int .i64 (kdX n p m q c d) ∧ Below wr.heap.size wr wx)
          case first =>
            clear b1 HE HD HSp HSq HSp2 HSq2
            refine regMeet (c := c) (d := d) hcn hdn (by omega) (by omega) HSP.out HSQ.out i1 i2 i3 i4 j1 j2 j3 j4 rfl rfl rfl rfl (E0.c 0 rfl) E0.lt (E1.c 0 rfl) E1.lt rfl ?_
            rintro ⟨tm, df⟩ Wz hz hdf hoff h7 hBz
            simp only at hz hdf hoff h7
            change tm.getD 7 undef = .int .i64 (kdX n p m q c d) at h7
            subst hdf
            have htm := tmps_fold [25, 26, 27, 28, 29, 30, 31, 24, 32, 33, 34, 8, 9, 7] tm _ hz hoff
            simp only [List.foldl, List.setIfInBounds_toArray, List.set_cons_zero, List.set_cons_succ, h7] at htm
            clear hz hoff
            generalize tm.getD 25 undef = u0, tm.getD 26 undef = u1, tm.getD 27 undef = u2, tm.getD 28 undef = u3, tm.getD 29 undef = u4, tm.getD 30 undef = u5, tm.getD 31 undef = u6, tm.getD 24 undef = u7, tm.getD 32 undef = u8, tm.getD 33 undef = u9, tm.getD 34 undef = u10, tm.getD 8 undef = u11, tm.getD 9 undef = u12 at htm
            clear h7
            subst htm
            go_wp2_with fail
            go_meet
            exact ⟨rfl, hBz⟩
          case rest =>
            obtain ⟨hm, hBc⟩ := hcut
            subst hm
            have HBN := HB.trans (hBc.mono HB.size)
            clear hBc HB E0 E1 HSP HSQ i1 i2 i3 i4 j1 j2 j3 j4 b1
            by_cases hk : kdX n p m q c d = 0
            · have HK : Hid (kdX n p m q c d = 0) := hk
              rw [hk]
              clear hk
              go_wp2
              go_roundw
              case rel => exact ⟨d + 1, by omega, by go_num, fun k hk => by
                rcases Nat.lt_or_ge k d with h | h
                · exact HE.out k h
                · obtain rfl : k = d := by omega
                  exact HK.out, HBN⟩
              case measure => simp [intOf]; omega
            · have HO : Hid (rmB n p m q = true) := decide_eq_true (fun h => hk (h c hcn d hdn))
              have hk2 : (kdX n p m q c d != 0) = true := by simp [hk]
              revert hk2
              generalize kdX n p m q c d = z
              intro hk2
              have HBF := HB0.trans ((HBo.trans (HBN.mono HBo.size)).mono HB0.size)
              clear hk HBN HBo
              go_wp2
              go_ret
              exact ⟨by rw [HO.out]; rfl, HBF⟩
        · obtain rfl : d = m := by omega
          have HBN := HBo.trans (HB.mono HBo.size)
          clear HBo HB D0 D1 HSp2 HSq2
          go_wp2
          go_roundw
          case rel => exact ⟨c + 1, by omega, by go_num, fun j hj => by
            rcases Nat.lt_or_ge j c with h | h
            · exact HD.out j h
            · obtain rfl : j = c := by omega
              exact HE.out, HBN⟩
          case measure => simp [intOf]; omega
    · obtain rfl : c = n := by omega
      have HO : Hid (rmB c p m q = false) := decide_eq_false (fun h => h HD.out)
      have HBF := HB0.trans (HB.mono HB0.size)
      clear HB HD HSp HSq A0 A1
      go_wp2
      go_ret
      exact ⟨by rw [HO.out]; rfl, HBF⟩
end Go.Proofs.Ytibbjjlapglndaa

/- Whether two rings meet: the program's walk. -/
namespace Go.Proofs.Ytibbjjlapglndaa
open Go.RowKit Go.Shelf
attribute [local go_sem] Oper.semAt_some
set_option maxRecDepth 100000 in
set_option maxHeartbeats 8000000 in
theorem meets_any (ao bo : Option Addr) (n cap m cap2 : Nat) (p q : Ps) (hn3 : 3 ≤ n) (hn : n ≤ 12) (hok : ∀ i, i < n → spotOk (p i).1 (p i).2 = true) (hone : OneN n p) (hm3 : 3 ≤ m) (hm : m ≤ 12) (hokq : ∀ i, i < m → spotOk (q i).1 (q i).2 = true) (honeq : OneN m q) (w : World) (hS : SpIn w ao n p) (hSq : SpIn w bo m q) : Calls Try.prog 33 #[.agg #[.slice ao n cap], .agg #[.slice bo m cap2]] w (VP (.bool (rmB n p m q)) w) := by
  refine (callsIn_wide (n := 12)).1 ?_
  refine callsIn_of_wp_marks Try.func33 rfl trivial ?_ rfl
  simp only [Try.ntmps33, List.size_toArray, List.length_cons, List.length_nil, Nat.reduceAdd, Nat.reduceSub, Array.replicate_succ, Array.replicate_zero, List.push_toArray, List.append_toArray, List.nil_append, List.cons_append]
  gi_wp2_with (refine ⟨trivial, ?_⟩; gi_at_call 46; refine (callsIn_wide.2 (sides_any _ _ _ _)).mono ?_; rintro e w' ⟨rfl, rfl⟩)
  have bA := (((Boxed.new w 45 (.slice ao n cap)).alloc (.cells #[.slice bo m cap2] 45)).alloc (.cells #[.bool false] 4)).alloc (.cells #[.slice ao n cap] 45)
  have bQ := ((Boxed.new (w.alloc (.cells #[.slice ao n cap] 45)) 45 (.slice bo m cap2)).alloc (.cells #[.bool false] 4)).alloc (.cells #[.slice ao n cap] 45)
  have bR := (Boxed.new ((w.alloc (.cells #[.slice ao n cap] 45)).alloc (.cells #[.slice bo m cap2] 45)) 4 (.bool false)).alloc (.cells #[.slice ao n cap] 45)
  have bN := Boxed.new (((w.alloc (.cells #[.slice ao n cap] 45)).alloc (.cells #[.slice bo m cap2] 45)).alloc (.cells #[.bool false] 4)) 45 (.slice ao n cap)
  simp only [World.size_alloc] at bQ bR bN
  have hB0 : Below w.heap.size w ((((w.alloc (.cells #[.slice ao n cap] 45)).alloc (.cells #[.slice bo m cap2] 45)).alloc (.cells #[.bool false] 4)).alloc (.cells #[.slice ao n cap] 45)) := ((((Below.refl _ w).alloc (Nat.le_refl _) _).alloc (by simp) _).alloc (by simp; omega) _).alloc (by simp; omega) _
  have hsz : ((((w.alloc (.cells #[.slice ao n cap] 45)).alloc (.cells #[.slice bo m cap2] 45)).alloc (.cells #[.bool false] 4)).alloc (.cells #[.slice ao n cap] 45)).heap.size = w.heap.size + 4 := by simp
  obtain ⟨W0, hW0⟩ : ∃ W0, ((((w.alloc (.cells #[.slice ao n cap] 45)).alloc (.cells #[.slice bo m cap2] 45)).alloc (.cells #[.bool false] 4)).alloc (.cells #[.slice ao n cap] 45)) = W0 := ⟨_, rfl⟩
  rw [hW0] at bA bQ bR bN hB0 hsz ⊢
  clear hW0
  have hS0 : SpB w.heap.size W0 ao n p := (hS.low).keep (fun k hk => hB0.block k hk)
  have hS1 : SpB w.heap.size W0 bo m q := (hSq.low).keep (fun k hk => hB0.block k hk)
  refine wpIn_rangeFunc_ownH rfl (by omega) (gf := 59) (lb := #[.pointer (some ⟨w.heap.size + 1 + 1 + 1, 0, none⟩)]) rfl trivial (enters_of Try.func59 (by kernel_rfl) rfl)
    (sides_stops (12 - 1) w.heap.size (w.heap.size + 1 + 1 + 1) ao n cap p hn3 hn hok hone W0 (by omega) (by omega) bN.cell hS0) (fun h k => h.trans k) (KpB.put (by omega) (by omega)) (Below.refl _ _) (fun _ => rfl)
    (fun pre W => (∀ i ∈ pre, ∀ k, k < m → kdX n p m q i.1 k = 0) ∧ Below W0.heap.size W0 W)
    (fun c pre W => ((c = .ret ∧ ∃ i ∈ pre, ∃ k, k < m ∧ kdX n p m q i.1 k ≠ 0) ∧ Boxed W (w.heap.size + 1 + 1) 4 (.bool true)) ∧ Below w.heap.size w W)
    (OwnFrom.and (ownFrom_pure _ _) (ownFrom_below (Nat.le_refl _) (Nat.le_refl _)))
    (fun c => OwnFrom.and (OwnFrom.and (ownFrom_pure _ _) (Own.from (boxed_own _ _ _) _)) (ownFrom_below (Nat.le_refl _) (by omega)))
    ⟨by simp, Below.refl _ _⟩
    (fun x a' W => ∃ Bs, BoxV W Bs 63 [.int .i64 (sdA n p x.1).1, .int .i64 (sdA n p x.1).2.1, .int .i64 (sdA n p x.1).2.2.1, .int .i64 (sdA n p x.1).2.2.2] ∧ a' = { tmps := #[.agg #[.slice ao n cap], .agg #[.slice bo m cap2], .pointer (some ⟨w.heap.size, 0, none⟩), .pointer (some ⟨w.heap.size + 1, 0, none⟩), .pointer (some ⟨w.heap.size + 1 + 1, 0, none⟩), undef, .pointer (some ⟨Bs, 0, none⟩), undef, undef, undef, undef, undef, .agg #[.slice ao n cap], .func (.func 59) #[] #[.pointer (some ⟨w.heap.size + 1 + 1 + 1, 0, none⟩)], .int .i64 (x.1 : Int), Sg (sdA n p x.1).1 (sdA n p x.1).2.1 (sdA n p x.1).2.2.1 (sdA n p x.1).2.2.2, undef, undef, undef, undef, undef, undef, undef, undef, undef, undef, undef, undef, undef], defers := [] })
    (fun x a' _ X Y row hs hg hr => by obtain ⟨Bs, e4, e5⟩ := hs; exact ⟨Bs, boxV_own Bs 63 (fun (_ : Unit) => [.int .i64 (sdA n p x.1).1, .int .i64 (sdA n p x.1).2.1, .int .i64 (sdA n p x.1).2.2.1, .int .i64 (sdA n p x.1).2.2.2]) () X Y row e4 hg (fun r e => (hr r e).2), e5⟩)
    ?assign ?body ?done ?stop
  case assign =>
    rintro l pre x W K ⟨hp, hB1⟩ hK
    unfold enS
    gi_wp2
    have hB2 : Below W.heap.size W (W.alloc (.cells #[.int .i64 (sdA n p x.1).1, .int .i64 (sdA n p x.1).2.1, .int .i64 (sdA n p x.1).2.2.1, .int .i64 (sdA n p x.1).2.2.2] 63)) := (Below.refl _ W).alloc (Nat.le_refl _) _
    have hsW := hB1.size
    have b2 := BoxV.new W 63 [.int .i64 (sdA n p x.1).1, .int .i64 (sdA n p x.1).2.1, .int .i64 (sdA n p x.1).2.2.1, .int .i64 (sdA n p x.1).2.2.2]
    exact hK _ _ (below_keeps hB2) (KpB.of hB2 (by omega) (by omega)) ⟨hp, hB1.trans (hB2.mono hB1.size)⟩ ⟨_, b2, rfl⟩
  case body =>
    rintro l pre x a' W hl ⟨r, hr⟩ ⟨hp, hB1⟩ ⟨Bs, bS, rfl⟩ hlt
    have bQ1 := boxed_step bQ hB1
    have cQ := bQ1.cell
    have h1' : 1 ≤ 12 - 1 - 1 := by omega
    gi_wp2_with (refine ⟨trivial, ?_⟩; gi_at_call 46; refine (CallsIn.inRound l (callsIn_wide.2 (sides_any _ _ _ _))).mono ?_; rintro e w' ⟨rfl, rfl⟩)
    have hsW := hB1.size
    have bN1 := Boxed.new W 45 (.slice bo m cap2)
    have hr' : (W.alloc (.cells #[.slice bo m cap2] 45)).heap[l]? = some (.loop r) := (Below.heap_alloc W _ l (Array.getElem?_eq_some_iff.1 hr).1).trans hr
    have hBR : Below W.heap.size W (W.alloc (.cells #[.slice bo m cap2] 45)) := (Below.refl _ W).alloc (Nat.le_refl _) _
    have hSW : SpB w.heap.size (W.alloc (.cells #[.slice bo m cap2] 45)) bo m q := hS1.keep (fun k hk => (hBR.block k (by omega)).trans (hB1.block k (by omega)))
    have hbR := boxed_step bR hB1
    have hxn := x.2
    have hs1 : (W.alloc (.cells #[.slice bo m cap2] 45)).heap.size = W.heap.size + 1 := by simp
    obtain ⟨W1, hW1⟩ : ∃ W1, W.alloc (.cells #[.slice bo m cap2] 45) = W1 := ⟨_, rfl⟩
    rw [hW1] at bN1 hr' hBR hSW hs1 ⊢
    clear hW1
    refine wpIn_rangeFunc_ownN (l₀ := l) (r₀ := r) rfl hr' h1' (gf := 59) (lb := #[.pointer (some ⟨W.heap.size, 0, none⟩)]) rfl trivial (enters_of Try.func59 (by kernel_rfl) rfl)
      ((sides_stops (12 - 1 - 1 - 1) w.heap.size W.heap.size bo m cap2 q hm3 hm hokq honeq W1 (by omega) (by omega) bN1.cell hSW).inRound l) (fun h k => h.trans k) (KpB.put (by omega) (by omega)) (Below.refl _ _) (fun _ => rfl)
      (fun pre' W' => (∀ y ∈ pre', kdX n p m q x.1 y.1 = 0) ∧ Below W1.heap.size W1 W')
      (fun c pre' W' => ((c = .ret ∧ ∃ y ∈ pre', kdX n p m q x.1 y.1 ≠ 0) ∧ Boxed W' (w.heap.size + 1 + 1) 4 (.bool true)) ∧ Below w.heap.size W W' ∧ KeepsFrom W0.heap.size W W')
      (OwnFrom.and (ownFrom_pure _ _) (ownFrom_below (Nat.le_refl _) (Nat.le_refl _)))
      (fun c => OwnFrom.and (OwnFrom.and (ownFrom_pure _ _) (Own.from (boxed_own _ _ _) _)) (OwnFrom.and (ownFrom_below (by omega) (by omega)) (ownFrom_keepsFrom (by omega))))
      ⟨by simp, Below.refl _ _⟩
      (fun y a'' W' => ∃ Bt, BoxV W' Bt 63 [.int .i64 (sdA m q y.1).1, .int .i64 (sdA m q y.1).2.1, .int .i64 (sdA m q y.1).2.2.1, .int .i64 (sdA m q y.1).2.2.2] ∧ a'' = { tmps := #[.agg #[.slice ao n cap], .agg #[.slice bo m cap2], .pointer (some ⟨w.heap.size, 0, none⟩), .pointer (some ⟨w.heap.size + 1, 0, none⟩), .pointer (some ⟨w.heap.size + 1 + 1, 0, none⟩), undef, .pointer (some ⟨Bs, 0, none⟩), undef, .pointer (some ⟨Bt, 0, none⟩), undef, undef, undef, .agg #[.slice ao n cap], .func (.func 59) #[] #[.pointer (some ⟨w.heap.size + 1 + 1 + 1, 0, none⟩)], .int .i64 (x.1 : Int), Sg (sdA n p x.1).1 (sdA n p x.1).2.1 (sdA n p x.1).2.2.1 (sdA n p x.1).2.2.2, .agg #[.slice bo m cap2], .func (.func 59) #[] #[.pointer (some ⟨W.heap.size, 0, none⟩)], .int .i64 (y.1 : Int), Sg (sdA m q y.1).1 (sdA m q y.1).2.1 (sdA m q y.1).2.2.1 (sdA m q y.1).2.2.2, undef, undef, undef, undef, undef, undef, undef, undef, undef], defers := [] })
      (fun y a'' _ X Y row hs hg hrw => by obtain ⟨Bt, e4, e5⟩ := hs; exact ⟨Bt, boxV_own Bt 63 (fun (_ : Unit) => [.int .i64 (sdA m q y.1).1, .int .i64 (sdA m q y.1).2.1, .int .i64 (sdA m q y.1).2.2.1, .int .i64 (sdA m q y.1).2.2.2]) () X Y row e4 hg (fun r e => (hrw r e).2), e5⟩)
      ?assign2 ?body2 ?done2 ?stop2
    case assign2 =>
      rintro l2 pre' y W' K ⟨hq, hBW⟩ hK
      unfold enS
      gi_wp2
      have hB2 : Below W'.heap.size W' (W'.alloc (.cells #[.int .i64 (sdA m q y.1).1, .int .i64 (sdA m q y.1).2.1, .int .i64 (sdA m q y.1).2.2.1, .int .i64 (sdA m q y.1).2.2.2] 63)) := (Below.refl _ W').alloc (Nat.le_refl _) _
      have hsW2 := hBW.size
      have b2 := BoxV.new W' 63 [.int .i64 (sdA m q y.1).1, .int .i64 (sdA m q y.1).2.1, .int .i64 (sdA m q y.1).2.2.1, .int .i64 (sdA m q y.1).2.2.2]
      exact hK _ _ (below_keeps hB2) (KpB.of hB2 (by omega) (by omega)) ⟨hq, hBW.trans (hB2.mono hBW.size)⟩ ⟨_, b2, rfl⟩
    case body2 =>
      rintro l2 pre' y a'' W' _ _ ⟨hq, hBW⟩ ⟨Bt, bT, rfl⟩ _
      have hBX : Below W.heap.size W W' := hBR.trans (hBW.mono hBR.size)
      have bS2 := (bS.step hBX).blk
      have bT2 := bT.blk
      have bR2 := boxed_step hbR hBX
      have s0' := bS2.c 0 rfl; have s1' := bS2.c 1 rfl; have s2' := bS2.c 2 rfl; have s3' := bS2.c 3 rfl
      have t0' := bT2.c 0 rfl; have t1' := bT2.c 1 rfl; have t2' := bT2.c 2 rfl; have t3' := bT2.c 3 rfl
      have hsX := hBW.size
      obtain ⟨i1, i2, i3, i4⟩ := in1_seg (side_ok hok hone hn3 x.2)
      obtain ⟨j1, j2, j3, j4⟩ := in1_seg (side_ok hokq honeq hm3 y.2)
      obtain ⟨r0, r1, r2, r3, r4, r5, r6, r7, r8, r9, r10, r11, s0, s1, s2, s3, s4, s5, s6, s7, s8, s9, s10, s11, hW12⟩ := meetW_12 (sdA n p x.1).1 (sdA n p x.1).2.1 (sdA n p x.1).2.2.1 (sdA n p x.1).2.2.2 (sdA m q y.1).1 (sdA m q y.1).2.1 (sdA m q y.1).2.2.1 (sdA m q y.1).2.2.2
      have MT := meet_det (sdA n p x.1).1 (sdA n p x.1).2.1 (sdA n p x.1).2.2.1 (sdA n p x.1).2.2.2 (sdA m q y.1).1 (sdA m q y.1).2.1 (sdA m q y.1).2.2.1 (sdA m q y.1).2.2.2 i1 i2 i3 i4 j1 j2 j3 j4
      rw [hW12] at MT
      have hkd : kndZ (sdA n p x.1).1 (sdA n p x.1).2.1 (sdA n p x.1).2.2.1 (sdA n p x.1).2.2.2 (sdA m q y.1).1 (sdA m q y.1).2.1 (sdA m q y.1).2.2.1 (sdA m q y.1).2.2.2 = kdX n p m q x.1 y.1 := rfl
      rw [hkd] at MT
      clear i1 i2 i3 i4 j1 j2 j3 j4 hW12 hkd
      generalize hzk : kdX n p m q x.1 y.1 = zk at *
      by_cases hz0 : zk = 0
      · have e1 : (zk != 0) = false := by simp [hz0]
        gi_wp2_with (refine ⟨trivial, ?_⟩; gi_at_call 47; refine (CallsIn.inRound l2 (CallsIn.inRound l (callsIn_wide.2 (MT _)))).mono ?_; rintro e v1 ⟨rfl, hBm⟩)
        have hBN : Below W'.heap.size W' ((v1.alloc (.cells #[.int .u64 r0, .int .u64 r1, .int .u64 r2, .int .u64 r3, .int .u64 r4, .int .u64 r5, .int .u64 r6, .int .u64 r7, .int .u64 r8, .int .u64 r9, .int .u64 r10, .int .u64 r11] 86)).alloc (.cells #[.int .u64 s0, .int .u64 s1, .int .u64 s2, .int .u64 s3, .int .u64 s4, .int .u64 s5, .int .u64 s6, .int .u64 s7, .int .u64 s8, .int .u64 s9, .int .u64 s10, .int .u64 s11] 86)) := (hBm.alloc hBm.size _).alloc (Nat.le_trans hBm.size (by simp)) _
        refine ⟨below_keeps hBN, KpB.of hBN (by omega) (by omega), fun z hz => ?_, hBW.trans (hBN.mono hBW.size)⟩
        rcases List.mem_append.1 hz with h | h
        · exact hq z h
        · simp at h
          subst h
          rw [hzk, hz0]
      · have e1 : (zk != 0) = true := by simp [hz0]
        gi_wp2_with (refine ⟨trivial, ?_⟩; gi_at_call 47; refine (CallsIn.inRound l2 (CallsIn.inRound l (callsIn_wide.2 (MT _)))).mono ?_; rintro e v1 ⟨rfl, hBm⟩; have hBN : Below W'.heap.size W' ((v1.alloc (.cells #[.int .u64 r0, .int .u64 r1, .int .u64 r2, .int .u64 r3, .int .u64 r4, .int .u64 r5, .int .u64 r6, .int .u64 r7, .int .u64 r8, .int .u64 r9, .int .u64 r10, .int .u64 r11] 86)).alloc (.cells #[.int .u64 s0, .int .u64 s1, .int .u64 s2, .int .u64 s3, .int .u64 s4, .int .u64 s5, .int .u64 s6, .int .u64 s7, .int .u64 s8, .int .u64 s9, .int .u64 s10, .int .u64 s11] 86)) := (hBm.alloc hBm.size _).alloc (Nat.le_trans hBm.size (by simp)) _; have bR3 := boxed_step bR2 hBN; have cR3 := bR3.cell; have fR3 := bR3.frozen)
        have hXN := hBX.trans (hBN.mono hBX.size)
        exact ⟨(below_keeps hBN).trans ((KeepsOthers.setCell _ _ _).from _), ⟨⟨⟨rfl, y, List.mem_append.2 (.inr (by simp)), by rw [hzk]; exact hz0⟩, bR3.set _⟩, (hXN.mono (show w.heap.size ≤ W.heap.size by omega)).setCell (p := ⟨w.heap.size + 1 + 1, 0, none⟩) (by simp; omega) _, (below_keeps hXN).trans ((KeepsOthers.setCell _ _ _).from _)⟩⟩
    case done2 =>
      rintro ys' W' rfl ⟨hq, hBW⟩
      have hBX : Below W.heap.size W W' := hBR.trans (hBW.mono hBR.size)
      gi_wp2
      refine ⟨below_keeps hBX, KpB.of hBX (by omega) (by omega), fun i hi => ?_, hB1.trans (hBX.mono hB1.size)⟩
      rcases List.mem_append.1 hi with h | h
      · exact hp i h
      · simp at h
        subst h
        exact fun k hk => hq ⟨k, hk⟩ (List.mem_finRange _)
    case stop2 =>
      rintro c pre' W' hpre ⟨⟨⟨rfl, y, hy, hk⟩, bR2⟩, hBW, hKF⟩
      gi_wp2
      exact ⟨hKF, ⟨⟨rfl, x, List.mem_append.2 (.inr (by simp)), y.1, y.2, hk⟩, bR2⟩, (hB0.trans (hB1.mono (by omega))).trans hBW⟩
  case done =>
    rintro D zs W hD rfl ⟨hp, hB1⟩ hK
    have bR1 := boxed_step bR hB1
    have cR := bR1.cell
    have fR := bR1.frozen
    gi_wp2
    have hK' := (KeepsOthers.setCell W ⟨w.heap.size + 1 + 1, 0, none⟩ (.bool false)).same D _ hK rfl
    refine ⟨by simp, .inl ⟨_, _, rfl, run_takeDeferred hK', ?_⟩⟩
    have hc5 := cell_kept (bR1.set (.bool false)).cell (grownBy_putObj' _ D (.deferred none)) (fun r e => by cases e; exact ⟨_, hK', rfl⟩)
    have hBW : Below w.heap.size w W := hB0.trans (hB1.mono (by omega))
    refine ⟨.bool false, ?_, by unfold rmB; rw [decide_eq_false (fun h => h (fun i hi k hk => hp ⟨i, hi⟩ (List.mem_finRange _) k hk))], (hBW.setCell (p := ⟨w.heap.size + 1 + 1, 0, none⟩) (by simp; omega) _).trans (belowK_b (w := w) (Nat.le_refl _) _ D _ _ (by omega) hK' rfl rfl)⟩
    simp [results, Try.results33, go_sem, hc5]
  case stop =>
    rintro D c pre W hD hpre ⟨⟨⟨rfl, i, hi, k, hk, hbd⟩, bR1⟩, hB1⟩ hK
    have cR := bR1.cell
    gi_wp2
    refine ⟨by simp, .inl ⟨_, _, rfl, run_takeDeferred hK, ?_⟩⟩
    have hc5 := cell_kept bR1.cell (grownBy_putObj' _ D (.deferred none)) (fun r e => by cases e; exact ⟨_, hK, rfl⟩)
    have hd : rmB n p m q = true := decide_eq_true (fun h => hbd (h i.1 i.2 k hk))
    refine ⟨.bool true, ?_, by rw [hd], hB1.trans (belowK_b (w := w) (Nat.le_refl _) _ D _ _ (by omega) hK rfl rfl)⟩
    simp [results, Try.results33, go_sem, hc5]
end Go.Proofs.Ytibbjjlapglndaa

/- What is at fault in a layer: the reckoning, and the program's walk. -/
namespace Go.Proofs.Ytibbjjlapglndaa
open Go.RowKit
/-- How many spots the first rings have together. -/
def sumR (L : Nat → Nat) : Nat → Nat
  | 0 => 0
  | i + 1 => sumR L i + L i
theorem sumR_le {L : Nat → Nat} {n : Nat} (hL : ∀ i, i < n → L i ≤ 1048576) : ∀ c, c ≤ n → sumR L c ≤ c * 1048576
  | 0, _ => by simp [sumR]
  | c + 1, h => by
    have := sumR_le hL c (by omega)
    have := hL c (by omega)
    rw [sumR]
    omega
/-- The first place at which something holds. -/
def firstP (P : Nat → Bool) (n : Nat) : Option Nat := (List.range n).find? P
theorem firstP_some {P : Nat → Bool} {n c : Nat} (hc : c < n) (h : P c = true) (ha : ∀ j, j < c → P j = false) : firstP P n = some c := by
  unfold firstP
  rw [List.find?_range_eq_some]
  exact ⟨h, by simpa using hc, fun j hj => by simp [ha j hj]⟩
theorem firstP_none {P : Nat → Bool} {n : Nat} (ha : ∀ j, j < n → P j = false) : firstP P n = none := by
  unfold firstP
  rw [List.find?_eq_none]
  intro x hx
  rw [ha x (by simpa using hx)]
  simp
/-- Whether the ring at a place meets one ahead of it. -/
def mtA (L : Nat → Nat) (q : Nat → Ps) (i : Nat) : Bool := (List.range i).any fun k => rmB (L i) (q i) (L k) (q k)
theorem mtA_true {L : Nat → Nat} {q : Nat → Ps} {i k : Nat} (hk : k < i) (h : rmB (L i) (q i) (L k) (q k) = true) : mtA L q i = true := List.any_eq_true.2 ⟨k, by simpa using hk, h⟩
theorem mtA_false {L : Nat → Nat} {q : Nat → Ps} {i : Nat} (h : ∀ k, k < i → rmB (L i) (q i) (L k) (q k) = false) : mtA L q i = false := List.any_eq_false.2 fun k hk => by rw [h k (by simpa using hk)]; simp
/-- Of right rings: the first one that meets one ahead of it. -/
def mfV (n : Nat) (L : Nat → Nat) (q : Nat → Ps) : Int × Int := match firstP (mtA L q) n with
  | some i => (3, i)
  | none => (0, 0)
/-- What is at fault in a layer, and where. -/
def lyF (n : Nat) (L : Nat → Nat) (q : Nat → Ps) : Int × Int :=
  if 6 < n then (1, 0) else if 20 < sumR L n then (2, 0) else
    match firstP (fun i => decide (rgF (L i) (q i) ≠ 0)) n with
    | some i => (10 + rgF (L i) (q i), i)
    | none => mfV n L q
theorem rgF_in (n : Nat) (p : Ps) : 0 ≤ rgF n p ∧ rgF n p ≤ 5 := by
  unfold rgF
  repeat' split
  all_goals omega
def TwoP (x : Int × Int) (w : World) : Ending → World → Prop := VP (.tuple #[.int .i64 x.1, .int .i64 x.2]) w
set_option maxRecDepth 100000 in
set_option maxHeartbeats 4000000 in
theorem countSpots_any (ao : Option Addr) (n cap : Nat) (S : Nat → Option Addr × Nat) (L : Nat → Nat) (q : Nat → Ps) (hn : n ≤ 6) (hL : ∀ i, i < n → L i ≤ 1048576) (w : World) (hS : RgIn w ao n S L q) : Calls Try.prog 19 #[.slice ao n cap] w (VP (.int .i64 (sumR L n : Nat)) w) := by
  have HS : Hid (RgIn w ao n S L q) := hS
  have HL : Hid (∀ i, i < n → L i ≤ 1048576) := hL
  have hnI : (n : Int) ≤ 6 := by omega
  clear hS hL
  go_enter Try.func19, Try.ntmps19
  go_wp2_with fail
  go_loopw [3, 8] (fun s i wr => ∃ c : Nat, c ≤ n ∧ i = .int .i64 c ∧ s = .int .i64 (sumR L c : Nat) ∧ Below w.heap.size w wr) (fun _ i _ => n - (intOf i).toNat)
  case atStart => exact ⟨0, by omega, rfl, rfl, Below.refl _ _⟩
  case round =>
    obtain ⟨c, hc, rfl, rfl, HB⟩ := hrel
    by_cases hcn : c < n
    · obtain ⟨A, off, rfl, hA, q0, -⟩ := HS.out.step HB c hcn
      have hcI : (c : Int) < n := by omega
      have s1 := sumR_le HL.out c hc
      have s2 := HL.out c hcn
      have hw : IntKind.i64.wrap (((sumR L c : Nat) : Int) + (L c : Int)) = ((sumR L (c + 1) : Nat) : Int) := by rw [IntKind.wrap_i64, sumR]; omega
      have HBN : Below w.heap.size w (wr.alloc (.cells #[.slice (S c).1 (L c) (S c).2] 45)) := HB.alloc HB.size _
      clear s1 s2 HB
      go_wp2
      go_roundw
      case rel => exact ⟨c + 1, by omega, by go_num, rfl, HBN⟩
      case measure => simp [intOf]; omega
    · obtain rfl : c = n := by omega
      clear HS HL
      go_wp2
      go_ret
      exact ⟨rfl, HB⟩
set_option maxRecDepth 100000 in
set_option maxHeartbeats 8000000 in
theorem meetingFault_any (ao : Option Addr) (n cap : Nat) (S : Nat → Option Addr × Nat) (L : Nat → Nat) (q : Nat → Ps) (hn : n ≤ 6) (hcap : n ≤ cap) (hcap2 : cap ≤ 9223372036854775807) (hR : ∀ i, i < n → RgOk (L i) (q i)) (w : World) (hS : RgIn w ao n S L q) : Calls Try.prog 21 #[.slice ao n cap] w (TwoP (mfV n L q) w) := by
  have HS : Hid (RgIn w ao n S L q) := hS
  have HR : Hid (∀ i, i < n → RgOk (L i) (q i)) := hR
  have hnI : (n : Int) ≤ 6 := by omega
  have hcI1 : (n : Int) ≤ cap := by omega
  have hcI2 : (cap : Int) ≤ 9223372036854775807 := by omega
  clear hS hR
  go_enter Try.func21, Try.ntmps21
  go_wp2_with fail
  go_step3
  go_wp2_with fail
  go_step3
  go_wp2_with fail
  go_loopw [4, 5, 12] (fun a b i wr => ∃ c : Nat, c ≤ n ∧ i = .int .i64 c ∧ a = .int .i64 0 ∧ b = .int .i64 0 ∧ (∀ j, j < c → mtA L q j = false) ∧ Below w.heap.size w wr) (fun _ _ i _ => n - (intOf i).toNat)
  case atStart => exact ⟨0, by omega, rfl, rfl, rfl, fun j hj => by omega, Below.refl _ _⟩
  case round =>
    obtain ⟨c, hc, rfl, rfl, rfl, hall, HB⟩ := hrel
    have HA : Hid (∀ j, j < c → mtA L q j = false) := hall
    clear hall
    by_cases hcn : c < n
    · obtain ⟨A, off, rfl, hA, q0, hsp⟩ := HS.out.step HB c hcn
      have hcI : (c : Int) < n := by omega
      have hcc : (c : Int) ≤ cap := by omega
      have hc0 : (0 : Int) ≤ c := by omega
      have hB1 := (Below.refl wr.heap.size wr).alloc (Nat.le_refl _) (.cells #[.slice (S c).1 (L c) (S c).2] 45)
      have B1 := Blk.new wr [.slice (S c).1 (L c) (S c).2] 45 rfl
      have HBo := HB.trans (hB1.mono HB.size)
      clear HB hsp hA
      go_wp2_with fail
      clear q0 hB1
      generalize wr.alloc (.cells #[.slice (S c).1 (L c) (S c).2] 45) = W4 at *
      generalize wr.heap.size = gr at *
      go_loopw [4, 5, 21] (fun a b i wr => ∃ d : Nat, d ≤ c ∧ i = .int .i64 d ∧ a = .int .i64 0 ∧ b = .int .i64 0 ∧ (∀ k, k < d → rmB (L c) (q c) (L k) (q k) = false) ∧ Below W4.heap.size W4 wr) (fun _ _ i _ => c - (intOf i).toNat)
      case atStart => exact ⟨0, by omega, rfl, rfl, rfl, fun j hj => by omega, Below.refl _ _⟩
      case round =>
        rename_i hrel
        obtain ⟨d, hd, rfl, rfl, rfl, hall, HB⟩ := hrel
        have HE : Hid (∀ k, k < d → rmB (L c) (q c) (L k) (q k) = false) := hall
        clear hall
        have HB2 := HBo.trans (HB.mono HBo.size)
        by_cases hdn : d < c
        · have hdI : (d : Int) < c := by omega
          obtain ⟨A', off', hao, hA, q0, hsp⟩ := HS.out.step HB2 d (by omega)
          obtain ⟨rfl, rfl⟩ : A = A' ∧ off = off' := by simpa using hao
          have hsc : SpIn wr (S c).1 (L c) (q c) := by
            obtain ⟨_, _, _, _, _, h⟩ := HS.out.step HB2 c hcn
            exact h
          have hB3 := (Below.refl wr.heap.size wr).alloc (Nat.le_refl _) (.cells #[.slice (S d).1 (L d) (S d).2] 45)
          have B2 := (B1.step HB).step hB3
          have b1 := B2.c 0 rfl
          have b3 := (Blk.new wr [.slice (S d).1 (L d) (S d).2] 45 rfl).c 0 rfl
          replace hsc := hsc.step hB3
          replace hsp := hsp.step hB3
          have r1 := HR.out c hcn
          have r2 := HR.out d (by omega)
          have MM := fun w h k => meets_any (S c).1 (S d).1 (L c) (S c).2 (L d) (S d).2 (q c) (q d) r1.h3 r1.h12 r1.ok r1.one r2.h3 r2.h12 r2.ok r2.one w h k
          have HBN := HB.trans (hB3.mono HB.size)
          clear hA hao r1 r2 HB2 HB hB3 B2
          go_upto_region 8 with fail
          clear q0
          generalize wr.alloc (.cells #[.slice (S d).1 (L d) (S d).2] 45) = W5 at *
          generalize wr.heap.size = gd at *
          go_wp2_with fail
          refine (MM _ hsc hsp).mono ?_
          rintro e w1 ⟨rfl, hB⟩
          replace HBN := HBN.trans (hB.mono HBN.size)
          clear hB hsc hsp MM b1 b3
          cases hk : rmB (L c) (q c) (L d) (q d)
          · have HK : Hid (rmB (L c) (q c) (L d) (q d) = false) := hk
            clear hk
            go_wp2
            go_roundw
            case rel => exact ⟨d + 1, by omega, by go_num, rfl, rfl, fun k hk => by
              rcases Nat.lt_or_ge k d with h | h
              · exact HE.out k h
              · obtain rfl : k = d := by omega
                exact HK.out, HBN⟩
            case measure => simp [intOf]; omega
          · have HO : Hid (mfV n L q = (3, (c : Int))) := by
              show _ = _
              unfold mfV
              rw [firstP_some hcn (mtA_true hdn hk) HA.out]
            have HBF := HBo.trans (HBN.mono HBo.size)
            clear hk HBN HBo
            go_wp2
            go_ret2
            exact ⟨by rw [HO.out]; rfl, HBF⟩
        · obtain rfl : d = c := by omega
          have HBN := HBo.trans (HB.mono HBo.size)
          have HM : Hid (mtA L q d = false) := mtA_false HE.out
          clear HBo HB B1 HB2
          go_wp2
          go_roundw
          case rel => exact ⟨d + 1, by omega, by go_num, rfl, rfl, fun j hj => by
            rcases Nat.lt_or_ge j d with h | h
            · exact HA.out j h
            · obtain rfl : j = d := by omega
              exact HM.out, HBN⟩
          case measure => simp [intOf]; omega
    · obtain rfl : c = n := by omega
      have HO : Hid (mfV c L q = (0, 0)) := by
        show _ = _
        unfold mfV
        rw [firstP_none HA.out]
      clear HS HR
      go_wp2
      go_ret2
      exact ⟨by rw [HO.out]; rfl, HB⟩
set_option maxRecDepth 100000 in
set_option maxHeartbeats 8000000 in
theorem implLayerFault_any (ao : Option Addr) (n cap : Nat) (S : Nat → Option Addr × Nat) (L : Nat → Nat) (q : Nat → Ps) (hn : n ≤ 1048576) (hcap : n ≤ cap) (hcap2 : cap ≤ 9223372036854775807) (hL : ∀ i, i < n → L i ≤ 1048576) (hC : ∀ i, i < n → L i ≤ (S i).2 ∧ (S i).2 ≤ 9223372036854775807) (w : World) (hS : RgIn w ao n S L q) : Calls Try.prog 8 #[.slice ao n cap] w (TwoP (lyF n L q) w) := by
  have hnI : (n : Int) ≤ 1048576 := by omega
  by_cases h6 : 6 < n
  · have HO : Hid (lyF n L q = (1, 0)) := by show _ = _; unfold lyF; rw [if_pos h6]
    have h6I : (6 : Int) < n := by omega
    clear hS hL hC
    go_enter Try.func8, Try.ntmps8
    go_wp2
    go_ret2
    exact ⟨by rw [HO.out]; rfl, Below.refl _ _⟩
  have h6I : (n : Int) ≤ 6 := by omega
  have CS := fun w h => countSpots_any ao n cap S L q (by omega) hL w h
  have HS : Hid (RgIn w ao n S L q) := hS
  have HL : Hid (∀ i, i < n → L i ≤ 1048576) := hL
  have HC : Hid (∀ i, i < n → L i ≤ (S i).2 ∧ (S i).2 ≤ 9223372036854775807) := hC
  have hz := sumR_le hL n (Nat.le_refl _)
  have hzI : ((sumR L n : Nat) : Int) ≤ 6291456 := by omega
  clear hS hL hC hz
  go_enter Try.func8, Try.ntmps8
  go_wp2_with fail
  refine (CS _ HS.out).mono ?_
  rintro e w1 ⟨rfl, hB⟩
  have HB1 := hB
  clear hB CS
  by_cases h20 : 20 < sumR L n
  · have HO : Hid (lyF n L q = (2, 0)) := by show _ = _; unfold lyF; rw [if_neg h6, if_pos h20]
    have h20I : (20 : Int) < (sumR L n : Nat) := by omega
    clear HS HL HC
    go_wp2
    go_ret2
    exact ⟨by rw [HO.out]; rfl, HB1⟩
  have h20I : ((sumR L n : Nat) : Int) ≤ 20 := by omega
  go_wp2_with fail
  go_loopw [15] (fun i wr => ∃ c : Nat, c ≤ n ∧ i = .int .i64 c ∧ (∀ j, j < c → rgF (L j) (q j) = 0) ∧ Below w.heap.size w wr) (fun i _ => n - (intOf i).toNat)
  case atStart => exact ⟨0, by omega, rfl, fun j hj => by omega, HB1⟩
  case round =>
    clear HB1
    obtain ⟨c, hc, rfl, hall, HB⟩ := hrel
    have HA : Hid (∀ j, j < c → rgF (L j) (q j) = 0) := hall
    clear hall
    by_cases hcn : c < n
    · obtain ⟨A, off, rfl, hA, q0, hsp⟩ := HS.out.step HB c hcn
      have hcI : (c : Int) < n := by omega
      have hB1 := (Below.refl wr.heap.size wr).alloc (Nat.le_refl _) (.cells #[.slice (S c).1 (L c) (S c).2] 45)
      replace hsp := hsp.step hB1
      have HBN := HB.trans (hB1.mono HB.size)
      have RF := fun w h => implRingFault_any (S c).1 (L c) (S c).2 (q c) (HL.out c hcn) (HC.out c hcn).1 (HC.out c hcn).2 w h
      have hin := rgF_in (L c) (q c)
      have hrz : Hid (rgF (L c) (q c) = 0 ∨ rgF (L c) (q c) ≠ 0) := Decidable.em _
      have HFs : Hid (rgF (L c) (q c) ≠ 0 → lyF n L q = (10 + rgF (L c) (q c), (c : Int))) := fun hk => by
        unfold lyF
        rw [if_neg h6, if_neg h20, firstP_some (P := fun i => decide (rgF (L i) (q i) ≠ 0)) hcn (decide_eq_true hk) (fun j hj => decide_eq_false (fun h => h (HA.out j hj)))]
      have HFz : Hid (rgF (L c) (q c) = 0 → ∀ j, j < c + 1 → rgF (L j) (q j) = 0) := fun hk j hj => by
        rcases Nat.lt_or_ge j c with h | h
        · exact HA.out j h
        · obtain rfl : j = c := by omega
          exact hk
      clear hA HB hB1
      go_wp2_with fail
      generalize wr.alloc (.cells #[.slice (S c).1 (L c) (S c).2] 45) = W4 at *
      refine (RF _ hsp).mono ?_
      rintro e w2 ⟨rfl, hB⟩
      replace HBN := HBN.trans (hB.mono HBN.size)
      clear hB RF hsp q0
      generalize rgF (L c) (q c) = z at *
      by_cases hz : z = 0
      · subst hz
        go_wp2
        go_roundw
        case rel => exact ⟨c + 1, by omega, by go_num, HFz.out (by trivial), HBN⟩
        case measure => simp [intOf]; omega
      · have hz2 : (z != 0) = true := by simp [hz]
        have HO : Hid (lyF n L q = (10 + z, (c : Int))) := HFs.out hz
        have hw : IntKind.i64.wrap (10 + z) = 10 + z := by rw [IntKind.wrap_i64]; omega
        clear HFs HFz hrz hin
        go_wp2
        go_ret2
        exact ⟨by rw [HO.out]; rfl, HBN⟩
    · obtain rfl : c = n := by omega
      have MF := fun w h => meetingFault_any ao c cap S L q (by omega) hcap hcap2 (fun i hi => rgF_ok (HA.out i hi)) w h
      have HO : Hid (lyF c L q = mfV c L q) := by
        show _ = _
        unfold lyF
        rw [if_neg h6, if_neg h20, firstP_none (P := fun i => decide (rgF (L i) (q i) ≠ 0)) (fun j hj => decide_eq_false (fun h => h (HA.out j hj)))]
      unfold TwoP at MF
      generalize mfV c L q = o at *
      go_wp2_with fail
      refine (MF _ (HS.out.step HB)).mono ?_
      rintro e w2 ⟨rfl, hB⟩
      replace HB := HB.trans (hB.mono HB.size)
      clear hB MF HS HL HC HA
      go_wp2
      go_ret2
      exact ⟨by rw [HO.out]; rfl, HB⟩
end Go.Proofs.Ytibbjjlapglndaa

/- What is at fault in a layer: the model's walk. -/
namespace Go.Proofs.Ytibbjjlapglndaa
open Go.RowKit
set_option maxRecDepth 100000 in
set_option maxHeartbeats 8000000 in
theorem specLayerFault_any (ao : Option Addr) (n cap : Nat) (S : Nat → Option Addr × Nat) (L : Nat → Nat) (q : Nat → Ps) (hn : n ≤ 1048576) (hL : ∀ i, i < n → L i ≤ 1048576) (w : World) (hS : RgIn w ao n S L q) : Calls Try.prog 6 #[.slice ao n cap] w (TwoP (lyF n L q) w) := by
  have hnI : (n : Int) ≤ 1048576 := by omega
  by_cases h6 : 6 < n
  · have HO : Hid (lyF n L q = (1, 0)) := by show _ = _; unfold lyF; rw [if_pos h6]
    have h6I : (6 : Int) < n := by omega
    clear hS hL
    go_enter Try.func6, Try.ntmps6
    go_wp2
    go_ret2
    exact ⟨by rw [HO.out]; rfl, Below.refl _ _⟩
  have h6I : (n : Int) ≤ 6 := by omega
  have HS : Hid (RgIn w ao n S L q) := hS
  have HL : Hid (∀ i, i < n → L i ≤ 1048576) := hL
  have hz := sumR_le hL n (Nat.le_refl _)
  have hzI : ((sumR L n : Nat) : Int) ≤ 6291456 := by omega
  clear hS hL hz
  go_enter Try.func6, Try.ntmps6
  go_wp2_with fail
  go_loopw [4, 5] (fun s i wr => ∃ c : Nat, c ≤ n ∧ i = .int .i64 c ∧ s = .int .i64 (sumR L c : Nat) ∧ Below w.heap.size w wr) (fun _ i _ => n - (intOf i).toNat)
  case atStart => exact ⟨0, by omega, rfl, rfl, Below.refl _ _⟩
  case round =>
    obtain ⟨c, hc, rfl, rfl, HBa⟩ := hrel
    by_cases hcn : c < n
    · obtain ⟨A, off, rfl, hA, q0, -⟩ := HS.out.step HBa c hcn
      have hcI : (c : Int) < n := by omega
      have s1 := sumR_le HL.out c hc
      have s2 := HL.out c hcn
      have hw : IntKind.i64.wrap (((sumR L c : Nat) : Int) + (L c : Int)) = ((sumR L (c + 1) : Nat) : Int) := by rw [IntKind.wrap_i64, sumR]; omega
      clear s1 s2
      go_wp2
      go_roundw
      case rel => exact ⟨c + 1, by omega, by go_num, by trivial, HBa⟩
      case measure => simp [intOf]; omega
    · obtain rfl : c = n := by omega
      by_cases h20 : 20 < sumR L c
      · have HO : Hid (lyF c L q = (2, 0)) := by show _ = _; unfold lyF; rw [if_neg h6, if_pos h20]
        have h20I : (20 : Int) < (sumR L c : Nat) := by omega
        clear HS HL
        go_wp2
        go_ret2
        exact ⟨by rw [HO.out]; rfl, HBa⟩
      have h20I : ((sumR L c : Nat) : Int) ≤ 20 := by omega
      go_wp2_with fail
      generalize hcm : c = m at *
      clear hcm
      have HSa : Hid (RgIn wr ao m S L q) := HS.out.step HBa
      clear HS
      generalize wr = W2 at *
      go_loopw [6] (fun i wx => ∃ c : Nat, c ≤ m ∧ i = .int .i64 c ∧ (∀ j, j < c → rgF (L j) (q j) = 0) ∧ Below W2.heap.size W2 wx) (fun i _ => m - (intOf i).toNat)
      case atStart => exact ⟨0, by omega, rfl, fun j hj => by omega, Below.refl _ _⟩
      case round =>
        rename_i hrel
        obtain ⟨c, hc, rfl, hall, HB⟩ := hrel
        have HA : Hid (∀ j, j < c → rgF (L j) (q j) = 0) := hall
        clear hall
        by_cases hcn : c < m
        · obtain ⟨A, off, rfl, hA, q0, hsp⟩ := HSa.out.step HB c hcn
          have hcI : (c : Int) < m := by omega
          have RF := fun w h => specRingFault_any (S c).1 (L c) (S c).2 (q c) (HL.out c hcn) w h
          have hin := rgF_in (L c) (q c)
          have HFs : Hid (rgF (L c) (q c) ≠ 0 → lyF m L q = (10 + rgF (L c) (q c), (c : Int))) := fun hk => by
            unfold lyF
            rw [if_neg h6, if_neg h20, firstP_some (P := fun i => decide (rgF (L i) (q i) ≠ 0)) hcn (decide_eq_true hk) (fun j hj => decide_eq_false (fun h => h (HA.out j hj)))]
          have HFz : Hid (rgF (L c) (q c) = 0 → ∀ j, j < c + 1 → rgF (L j) (q j) = 0) := fun hk j hj => by
            rcases Nat.lt_or_ge j c with h | h
            · exact HA.out j h
            · obtain rfl : j = c := by omega
              exact hk
          clear hA
          go_wp2_with fail
          refine (RF _ hsp).mono ?_
          rintro e w2 ⟨rfl, hB⟩
          replace HB := HB.trans (hB.mono HB.size)
          clear hB RF hsp q0
          generalize rgF (L c) (q c) = z at *
          by_cases hz : z = 0
          · subst hz
            go_wp2
            go_roundw
            case rel => exact ⟨c + 1, by omega, by go_num, HFz.out (by trivial), HB⟩
            case measure => simp [intOf]; omega
          · have hz2 : (z != 0) = true := by simp [hz]
            have HO : Hid (lyF m L q = (10 + z, (c : Int))) := HFs.out hz
            have hw : IntKind.i64.wrap (10 + z) = 10 + z := by rw [IntKind.wrap_i64]; omega
            clear HFs HFz hin
            go_wp2
            go_ret2
            exact ⟨by rw [HO.out]; rfl, HBa.trans (HB.mono HBa.size)⟩
        · obtain rfl : m = c := by omega
          have HR : Hid (∀ i, i < m → RgOk (L i) (q i)) := fun i hi => rgF_ok (HA.out i hi)
          have HO1 : Hid (lyF m L q = mfV m L q) := by
            show _ = _
            unfold lyF
            rw [if_neg h6, if_neg h20, firstP_none (P := fun i => decide (rgF (L i) (q i) ≠ 0)) (fun j hj => decide_eq_false (fun h => h (HA.out j hj)))]
          have HS2 : Hid (RgIn wr ao m S L q) := HSa.out.step HB
          have HBf := HBa.trans (HB.mono HBa.size)
          clear HA HB HSa
          go_wp2_with fail
          generalize wr = W3 at *
          go_loopw [8] (fun i wx => ∃ c : Nat, c ≤ m ∧ i = .int .i64 c ∧ (∀ j, j < c → mtA L q j = false) ∧ Below W3.heap.size W3 wx) (fun i _ => m - (intOf i).toNat)
          case atStart => exact ⟨0, by omega, rfl, fun j hj => by omega, Below.refl _ _⟩
          case round =>
            rename_i hrel
            obtain ⟨c, hc, rfl, hall, HB⟩ := hrel
            have HA : Hid (∀ j, j < c → mtA L q j = false) := hall
            clear hall
            by_cases hcn : c < m
            · have hcI : (c : Int) < m := by omega
              have HBo := HB
              clear HB
              go_wp2_with fail
              generalize wr = W4 at *
              go_loopw [9] (fun i wx => ∃ d : Nat, d ≤ c ∧ i = .int .i64 d ∧ (∀ k, k < d → rmB (L c) (q c) (L k) (q k) = false) ∧ Below W4.heap.size W4 wx) (fun i _ => c - (intOf i).toNat)
              case atStart => exact ⟨0, by omega, rfl, fun j hj => by omega, Below.refl _ _⟩
              case round =>
                rename_i hrel
                obtain ⟨d, hd, rfl, hall, HB⟩ := hrel
                have HE : Hid (∀ k, k < d → rmB (L c) (q c) (L k) (q k) = false) := hall
                clear hall
                have HB2 := HBo.trans (HB.mono HBo.size)
                by_cases hdn : d < c
                · have hdI : (d : Int) < c := by omega
                  obtain ⟨A, off, rfl, hA, q0, hsc⟩ := HS2.out.step HB2 c hcn
                  obtain ⟨A', off', hao, -, q1, hsp⟩ := HS2.out.step HB2 d (by omega)
                  obtain ⟨rfl, rfl⟩ : A = A' ∧ off = off' := by simpa using hao
                  have hdm : (d : Int) < m := by omega
                  have MM := fun w h k => l5Meet_any (S c).1 (S d).1 (L c) (S c).2 (L d) (S d).2 (q c) (q d) (HR.out c hcn) (HR.out d (by omega)) w h k
                  have H0 := Below.refl wr.heap.size wr
                  have HK : ∀ V, Below wr.heap.size wr V → (fun w' : World => w'.cell? ⟨A, off + c, none⟩ = some (.slice (S c).1 (L c) (S c).2) ∧ w'.cell? ⟨A, off + d, none⟩ = some (.slice (S d).1 (L d) (S d).2)) V := fun V h => ⟨(h.cell (p := ⟨A, _, none⟩) hA).trans q0, (h.cell (p := ⟨A, _, none⟩) hA).trans q1⟩
                  clear hao
                  go_upto_region 22 with fail
                  go_cut [64] (fun z wx => z = .bool (rmB (L c) (q c) (L d) (q d)) ∧ Below wr.heap.size wr wx)
                  case first =>
                    clear HE HA HR HS2 HL
                    go_region_held3 (fun w' : World => w'.cell? ⟨A, off + c, none⟩ = some (.slice (S c).1 (L c) (S c).2) ∧ w'.cell? ⟨A, off + d, none⟩ = some (.slice (S d).1 (L d) (S d).2)) (refine HK _ ?_ <;> repeat (first | (with_reducible exact H0) | (with_reducible refine Below.drew ?_)))
                      (first
                        | (go_at_call 17; refine (MM _ (by first | (with_reducible exact hsc) | (with_reducible exact hsc.drew)) (by first | (with_reducible exact hsp) | (with_reducible exact hsp.drew))).mono ?_; rintro e w3 ⟨rfl, hB⟩; (first | (have Hn : Below wr.heap.size wr w3 := (by with_reducible exact H0.trans (hB.mono H0.size))) | (have Hn : Below wr.heap.size wr w3 := (by with_reducible exact H0.drew.trans (hB.mono H0.drew.size)))); clear hB H0; have H0 := Hn; clear Hn))
                    all_goals go_wp2_with fail
                    all_goals go_meet
                    all_goals exact ⟨rfl, by first | (with_reducible exact H0) | (with_reducible exact H0.drew)⟩
                  case rest =>
                    obtain ⟨hq, hB⟩ := hcut
                    subst hq
                    have HBN := HB.trans (hB.mono HB.size)
                    clear hB HB HB2 H0 HK MM hsc hsp q0 q1 hA
                    cases hk : rmB (L c) (q c) (L d) (q d)
                    · have HK : Hid (rmB (L c) (q c) (L d) (q d) = false) := hk
                      clear hk
                      go_wp2
                      go_roundw
                      case rel => exact ⟨d + 1, by omega, by go_num, fun k hk => by
                        rcases Nat.lt_or_ge k d with h | h
                        · exact HE.out k h
                        · obtain rfl : k = d := by omega
                          exact HK.out, HBN⟩
                      case measure => simp [intOf]; omega
                    · have HO : Hid (lyF m L q = (3, (c : Int))) := by
                        show _ = _
                        rw [HO1.out]
                        unfold mfV
                        rw [firstP_some hcn (mtA_true hdn hk) HA.out]
                      have HBF := HBf.trans ((HBo.trans (HBN.mono HBo.size)).mono HBf.size)
                      clear hk HBN HBo HBf
                      go_wp2
                      go_ret2
                      exact ⟨by rw [HO.out]; rfl, HBF⟩
                · obtain rfl : d = c := by omega
                  have HBN := HBo.trans (HB.mono HBo.size)
                  have HM : Hid (mtA L q d = false) := mtA_false HE.out
                  clear HBo HB HB2
                  go_wp2
                  go_roundw
                  case rel => exact ⟨d + 1, by omega, by go_num, fun j hj => by
                    rcases Nat.lt_or_ge j d with h | h
                    · exact HA.out j h
                    · obtain rfl : j = d := by omega
                      exact HM.out, HBN⟩
                  case measure => simp [intOf]; omega
            · obtain rfl : m = c := by omega
              have HO : Hid (lyF m L q = (0, 0)) := by
                show _ = _
                rw [HO1.out]
                unfold mfV
                rw [firstP_none HA.out]
              have HBF := HBf.trans (HB.mono HBf.size)
              clear HS2 HR HL
              go_wp2
              go_ret2
              exact ⟨by rw [HO.out]; rfl, HBF⟩
end Go.Proofs.Ytibbjjlapglndaa

/- What is at fault in a layer: the law. -/
namespace Go.Proofs.Ytibbjjlapglndaa
open Go.RowKit
end Go.Proofs.Ytibbjjlapglndaa

/- Whether both layers of a session are right: both sides, the copies, the law. -/
namespace Go.Proofs.Ytibbjjlapglndaa
open Go.RowKit
def lyB (n : Nat) (L : Nat → Nat) (q : Nat → Ps) : Bool := decide ((lyF n L q).1 = 0)
set_option maxRecDepth 100000 in
set_option maxHeartbeats 4000000 in
theorem l6Ok_any (ao : Option Addr) (n cap : Nat) (S : Nat → Option Addr × Nat) (L : Nat → Nat) (q : Nat → Ps) (hn : n ≤ 1048576) (hL : ∀ i, i < n → L i ≤ 1048576) (w : World) (hS : RgIn w ao n S L q) : Calls Try.prog 23 #[.slice ao n cap] w (VP (.bool (lyB n L q)) w) := by
  have C := specLayerFault_any ao n cap S L q hn hL w hS
  unfold lyB
  unfold TwoP at C
  revert C
  generalize lyF n L q = o
  obtain ⟨o1, o2⟩ := o
  intro C
  clear hS hL
  go_enter Try.func23, Try.ntmps23
  go_wp2_with fail
  refine C.mono ?_
  rintro e w1 ⟨rfl, hB⟩
  by_cases h : o1 = 0
  · subst h
    go_wp2
    go_ret
    exact ⟨rfl, hB⟩
  · have hf : (o1 == 0) = false := by simp; omega
    have HD : Hid (decide (o1 = 0) = false) := decide_eq_false h
    go_wp2
    go_ret
    exact ⟨by simp only [HD.out]; rfl, hB⟩
set_option maxRecDepth 100000 in
set_option maxHeartbeats 4000000 in
theorem isLayer_any (ao : Option Addr) (n cap : Nat) (S : Nat → Option Addr × Nat) (L : Nat → Nat) (q : Nat → Ps) (hn : n ≤ 1048576) (hcap : n ≤ cap) (hcap2 : cap ≤ 9223372036854775807) (hL : ∀ i, i < n → L i ≤ 1048576) (hC : ∀ i, i < n → L i ≤ (S i).2 ∧ (S i).2 ≤ 9223372036854775807) (w : World) (hS : RgIn w ao n S L q) : Calls Try.prog 24 #[.slice ao n cap] w (VP (.bool (lyB n L q)) w) := by
  have C := implLayerFault_any ao n cap S L q hn hcap hcap2 hL hC w hS
  unfold lyB
  unfold TwoP at C
  revert C
  generalize lyF n L q = o
  obtain ⟨o1, o2⟩ := o
  intro C
  clear hS hL hC
  go_enter Try.func24, Try.ntmps24
  go_wp2_with fail
  refine C.mono ?_
  rintro e w1 ⟨rfl, hB⟩
  by_cases h : o1 = 0
  · subst h
    go_wp2
    go_ret
    exact ⟨rfl, hB⟩
  · have hf : (o1 == 0) = false := by simp; omega
    have HD : Hid (decide (o1 = 0) = false) := decide_eq_false h
    go_wp2
    go_ret
    exact ⟨by simp only [HD.out]; rfl, hB⟩
set_option maxRecDepth 100000 in
set_option maxHeartbeats 4000000 in
theorem specSessionOk_any (ao bo : Option Addr) (n cap m cap2 : Nat) (S U : Nat → Option Addr × Nat) (L M : Nat → Nat) (q r : Nat → Ps) (hn : n ≤ 1048576) (hm : m ≤ 1048576) (hL : ∀ i, i < n → L i ≤ 1048576) (hM : ∀ i, i < m → M i ≤ 1048576) (w : World) (hS : RgIn w ao n S L q) (hU : RgIn w bo m U M r) : Calls Try.prog 11 #[.agg #[.slice ao n cap, .slice bo m cap2]] w (VP (.bool (lyB n L q && lyB m M r)) w) := by
  have B0 := Blk.new w [.slice ao n cap, .slice bo m cap2] 35 rfl
  have HB : Below w.heap.size w (w.alloc (.cells #[.slice ao n cap, .slice bo m cap2] 35)) := (Below.refl _ w).alloc (Nat.le_refl _) _
  have HS : Hid (RgIn (w.alloc (.cells #[.slice ao n cap, .slice bo m cap2] 35)) ao n S L q) := hS.step HB
  have HU : Hid (RgIn (w.alloc (.cells #[.slice ao n cap, .slice bo m cap2] 35)) bo m U M r) := hU.step HB
  have b0 := B0.c 0 rfl
  have C1 := fun w h => l6Ok_any ao n cap S L q hn hL w h
  have C2 := fun w h => l6Ok_any bo m cap2 U M r hm hM w h
  clear hS hU hL hM
  have hv : Hid ((lyB n L q && lyB m M r) = (lyB n L q && lyB m M r)) := rfl
  generalize ho : (lyB n L q && lyB m M r) = o
  have HO : Hid ((lyB n L q && lyB m M r) = o) := ho
  clear ho hv
  go_enter Try.func11, Try.ntmps11
  go_upto_region 1 with fail
  generalize w.alloc (.cells #[.slice ao n cap, .slice bo m cap2] 35) = W at *
  go_wp2_with fail
  refine (C1 _ HS.out).mono ?_
  rintro e w1 ⟨rfl, hB⟩
  replace HB := HB.trans (hB.mono HB.size)
  replace B0 := B0.step hB
  have HU2 : Hid (RgIn w1 bo m U M r) := HU.out.step hB
  clear hB C1 b0 HU HS
  cases hz : lyB n L q
  · have HO2 : Hid (o = false) := by show _ = _; rw [← HO.out, hz]; rfl
    clear hz HO
    clear HU2 C2 B0
    go_wp2
    go_ret
    exact ⟨by rw [HO2.out]; rfl, HB⟩
  · have HO2 : Hid (o = lyB m M r) := by show _ = _; rw [← HO.out, hz]; rfl
    clear hz HO
    have b1 := B0.c 1 rfl
    go_wp2_with fail
    refine (C2 _ HU2.out).mono ?_
    rintro e w2 ⟨rfl, hB⟩
    replace HB := HB.trans (hB.mono HB.size)
    clear hB C2 b1 HU2 B0
    generalize lyB m M r = zz at *
    cases zz
    all_goals go_wp2
    all_goals go_ret
    all_goals exact ⟨by rw [HO2.out]; rfl, HB⟩
set_option maxRecDepth 100000 in
set_option maxHeartbeats 4000000 in
theorem implSessionOk_any (ao bo : Option Addr) (n cap m cap2 : Nat) (S U : Nat → Option Addr × Nat) (L M : Nat → Nat) (q r : Nat → Ps) (hn : n ≤ 1048576) (hm : m ≤ 1048576) (hL : ∀ i, i < n → L i ≤ 1048576) (hM : ∀ i, i < m → M i ≤ 1048576) (hc1 : n ≤ cap) (hc2 : cap ≤ 9223372036854775807) (hc3 : m ≤ cap2) (hc4 : cap2 ≤ 9223372036854775807) (hC : ∀ i, i < n → L i ≤ (S i).2 ∧ (S i).2 ≤ 9223372036854775807) (hD : ∀ i, i < m → M i ≤ (U i).2 ∧ (U i).2 ≤ 9223372036854775807) (w : World) (hS : RgIn w ao n S L q) (hU : RgIn w bo m U M r) : Calls Try.prog 13 #[.agg #[.slice ao n cap, .slice bo m cap2]] w (VP (.bool (lyB n L q && lyB m M r)) w) := by
  have B0 := Blk.new w [.slice ao n cap, .slice bo m cap2] 35 rfl
  have HB : Below w.heap.size w (w.alloc (.cells #[.slice ao n cap, .slice bo m cap2] 35)) := (Below.refl _ w).alloc (Nat.le_refl _) _
  have HS : Hid (RgIn (w.alloc (.cells #[.slice ao n cap, .slice bo m cap2] 35)) ao n S L q) := hS.step HB
  have HU : Hid (RgIn (w.alloc (.cells #[.slice ao n cap, .slice bo m cap2] 35)) bo m U M r) := hU.step HB
  have b0 := B0.c 0 rfl
  have C1 := fun w h => isLayer_any ao n cap S L q hn hc1 hc2 hL hC w h
  have C2 := fun w h => isLayer_any bo m cap2 U M r hm hc3 hc4 hM hD w h
  clear hC hD
  clear hS hU hL hM
  have hv : Hid ((lyB n L q && lyB m M r) = (lyB n L q && lyB m M r)) := rfl
  generalize ho : (lyB n L q && lyB m M r) = o
  have HO : Hid ((lyB n L q && lyB m M r) = o) := ho
  clear ho hv
  go_enter Try.func13, Try.ntmps13
  go_upto_region 1 with fail
  generalize w.alloc (.cells #[.slice ao n cap, .slice bo m cap2] 35) = W at *
  go_wp2_with fail
  refine (C1 _ HS.out).mono ?_
  rintro e w1 ⟨rfl, hB⟩
  replace HB := HB.trans (hB.mono HB.size)
  replace B0 := B0.step hB
  have HU2 : Hid (RgIn w1 bo m U M r) := HU.out.step hB
  clear hB C1 b0 HU HS
  cases hz : lyB n L q
  · have HO2 : Hid (o = false) := by show _ = _; rw [← HO.out, hz]; rfl
    clear hz HO
    clear HU2 C2 B0
    go_wp2
    go_ret
    exact ⟨by rw [HO2.out]; rfl, HB⟩
  · have HO2 : Hid (o = lyB m M r) := by show _ = _; rw [← HO.out, hz]; rfl
    clear hz HO
    have b1 := B0.c 1 rfl
    go_wp2_with fail
    refine (C2 _ HU2.out).mono ?_
    rintro e w2 ⟨rfl, hB⟩
    replace HB := HB.trans (hB.mono HB.size)
    clear hB C2 b1 HU2 B0
    generalize lyB m M r = zz at *
    cases zz
    all_goals go_wp2
    all_goals go_ret
    all_goals exact ⟨by rw [HO2.out]; rfl, HB⟩
set_option maxRecDepth 100000 in
set_option maxHeartbeats 4000000 in
theorem toSession_any (ao bo : Option Addr) (n cap m cap2 : Nat) (S U : Nat → Option Addr × Nat) (L M : Nat → Nat) (q r : Nat → Ps) (hn : n ≤ 1048576) (hm : m ≤ 1048576) (hL : ∀ i, i < n → L i ≤ 1048576) (hM : ∀ i, i < m → M i ≤ 1048576) (w : World) (hS : RgIn w ao n S L q) (hU : RgIn w bo m U M r) : Calls Try.prog 12 #[.agg #[.slice ao n cap, .slice bo m cap2]] w (fun e w' => ∃ g h S' U', e = .returned (.agg #[.slice (some ⟨g, 0, none⟩) n n, .slice (some ⟨h, 0, none⟩) m m]) ∧ RgIn w' (some ⟨g, 0, none⟩) n S' L q ∧ RgIn w' (some ⟨h, 0, none⟩) m U' M r ∧ (∀ i, (S' i).2 = L i) ∧ (∀ i, (U' i).2 = M i) ∧ Below w.heap.size w w') := by
  have HB : Below w.heap.size w (((w.alloc (.cells #[.slice ao n cap, .slice bo m cap2] 31)).alloc (.cells #[.slice none 0 0, .slice none 0 0] 35)).alloc (.cells #[.slice none 0 0, .slice none 0 0] 35)) := (((Below.refl _ w).alloc (Nat.le_refl _) _).alloc (by simp) _).alloc (by simp; omega) _
  have B0 := ((Blk.new w [.slice ao n cap, .slice bo m cap2] 31 rfl).alloc (.cells #[.slice none 0 0, .slice none 0 0] 35)).alloc (.cells #[.slice none 0 0, .slice none 0 0] 35)
  have B1 := (Blk.new (w.alloc (.cells #[.slice ao n cap, .slice bo m cap2] 31)) [.slice none 0 0, .slice none 0 0] 35 (g := w.heap.size + 1) (by simp)).alloc (.cells #[.slice none 0 0, .slice none 0 0] 35)
  have B2 := Blk.new ((w.alloc (.cells #[.slice ao n cap, .slice bo m cap2] 31)).alloc (.cells #[.slice none 0 0, .slice none 0 0] 35)) [.slice none 0 0, .slice none 0 0] 35 (g := w.heap.size + 1 + 1) (by simp)
  have HS := hS.step HB
  have HU := hU.step HB
  have HUw : Hid (RgIn w bo m U M r) := hU
  have hsz : (((w.alloc (.cells #[.slice ao n cap, .slice bo m cap2] 31)).alloc (.cells #[.slice none 0 0, .slice none 0 0] 35)).alloc (.cells #[.slice none 0 0, .slice none 0 0] 35)).heap.size = w.heap.size + 3 := by simp
  have T1 := fun w h => toRingS_any ao n cap S L q hn hL w h
  have T2 := fun w h => toRingS_any bo m cap2 U M r hm hM w h
  clear hS hU hL hM
  go_enter Try.func12, Try.ntmps12
  have b0 := B0.c 0 rfl
  go_upto_region 2 with fail
  generalize (((w.alloc (.cells #[.slice ao n cap, .slice bo m cap2] 31)).alloc (.cells #[.slice none 0 0, .slice none 0 0] 35)).alloc (.cells #[.slice none 0 0, .slice none 0 0] 35)) = W at *
  go_wp2_with fail
  refine (T1 _ HS).mono ?_
  rintro e w1 ⟨g, S', rfl, R1, hS1, ⟨hg, hgs⟩, hB⟩
  replace B0 := B0.step hB; replace B1 := B1.step hB; replace B2 := B2.step hB
  replace HB := HB.trans (hB.mono HB.size)
  replace HU := HU.step hB
  rw [hsz] at hg hgs
  clear hB T1 b0 HS
  have c0 := B2.c 0 rfl; have f0 := B2.f 0 rfl; have l2 := B2.lt
  have R1' : RgIn (w1.setCell ⟨w.heap.size + 1 + 1, 0, none⟩ (.slice (some ⟨g, 0, none⟩) n n)) (some ⟨g, 0, none⟩) n S' L q := R1.set (fun a ha => by cases ha; show g ≠ w.heap.size + 1 + 1; omega) (fun i a hi ha => by have := hgs i a hi ha; show a.block ≠ w.heap.size + 1 + 1; omega) _
  have D0 := B0.setO (p := ⟨w.heap.size + 1 + 1, 0, none⟩) (by show w.heap.size ≠ w.heap.size + 1 + 1; omega) (.slice (some ⟨g, 0, none⟩) n n)
  have D1 := B1.setO (p := ⟨w.heap.size + 1 + 1, 0, none⟩) (by show w.heap.size + 1 ≠ w.heap.size + 1 + 1; omega) (.slice (some ⟨g, 0, none⟩) n n)
  have D2 := B2.setI 0 (by simp) (.slice (some ⟨g, 0, none⟩) n n)
  have HBD : Below w.heap.size w (w1.setCell ⟨w.heap.size + 1 + 1, 0, none⟩ (.slice (some ⟨g, 0, none⟩) n n)) := HB.setCell (by show w.heap.size ≤ w.heap.size + 1 + 1; omega) _
  have HU1 : RgIn (w1.setCell ⟨w.heap.size + 1 + 1, 0, none⟩ (.slice (some ⟨g, 0, none⟩) n n)) bo m U M r := HUw.out.step HBD
  have hsz2 : (w1.setCell ⟨w.heap.size + 1 + 1, 0, none⟩ (.slice (some ⟨g, 0, none⟩) n n)).heap.size = w1.heap.size := by simp
  clear B0 B1 B2 HB HU R1
  go_upto_region 3 with fail
  generalize w1.setCell ⟨w.heap.size + 1 + 1, 0, none⟩ (.slice (some ⟨g, 0, none⟩) n n) = W2 at *
  clear c0 f0 l2
  have b1 := D0.c 1 rfl
  have lw := D2.lt
  go_wp2_with fail
  refine (T2 _ HU1).mono ?_
  rintro e w3 ⟨h, U', rfl, R2, hU1, ⟨hh, hhs⟩, hB⟩
  replace D1 := D1.step hB; replace D2 := D2.step hB
  replace HBD := HBD.trans (hB.mono HBD.size)
  replace R1' := R1'.step hB
  clear hB T2 b1 HU1 D0
  have c0 := D2.c 0 rfl; have c1 := D2.c 1 rfl; have f1 := D2.f 1 rfl; have l2 := D2.lt; have e0 := D1.c 0 rfl; have e1 := D1.c 1 rfl; have y0 := D1.f 0 rfl; have y1 := D1.f 1 rfl; have l1 := D1.lt
  have HF : Hid (Below w.heap.size w (((w3.setCell ⟨w.heap.size + 1 + 1, 1, none⟩ (.slice (some ⟨h, 0, none⟩) m m)).setCell ⟨w.heap.size + 1, 0, none⟩ (.slice (some ⟨g, 0, none⟩) n n)).setCell ⟨w.heap.size + 1, 1, none⟩ (.slice (some ⟨h, 0, none⟩) m m))) := (((HBD.setCell (p := ⟨w.heap.size + 1 + 1, 1, none⟩) (by show w.heap.size ≤ w.heap.size + 1 + 1; omega) _).setCell (p := ⟨w.heap.size + 1, 0, none⟩) (by show w.heap.size ≤ w.heap.size + 1; omega) _).setCell (p := ⟨w.heap.size + 1, 1, none⟩) (by show w.heap.size ≤ w.heap.size + 1; omega) _)
  have keep : ∀ {ao n S L q} (X : World) (p : Addr) (u : Value), RgIn X ao n S L q → (∀ a, ao = some a → w.heap.size + 3 ≤ a.block) → (∀ i a, i < n → (S i).1 = some a → w.heap.size + 3 ≤ a.block) → p.block < w.heap.size + 3 → RgIn (X.setCell p u) ao n S L q := fun X p u hR ha hb hp => hR.set (fun a e => by have := ha a e; omega) (fun i a hi e => by have := hb i a hi e; omega) u
  have HR1 : Hid (RgIn (((w3.setCell ⟨w.heap.size + 1 + 1, 1, none⟩ (.slice (some ⟨h, 0, none⟩) m m)).setCell ⟨w.heap.size + 1, 0, none⟩ (.slice (some ⟨g, 0, none⟩) n n)).setCell ⟨w.heap.size + 1, 1, none⟩ (.slice (some ⟨h, 0, none⟩) m m)) (some ⟨g, 0, none⟩) n S' L q) := keep _ _ _ (keep _ _ _ (keep _ _ _ R1' (fun a e => by cases e; exact hg) (fun i a hi e => hgs i a hi e) (by show w.heap.size + 1 + 1 < _; omega)) (fun a e => by cases e; exact hg) (fun i a hi e => hgs i a hi e) (by show w.heap.size + 1 < _; omega)) (fun a e => by cases e; exact hg) (fun i a hi e => hgs i a hi e) (by show w.heap.size + 1 < _; omega)
  have hh3 : w.heap.size + 3 ≤ h := by omega
  have hhs3 : ∀ i a, i < m → (U' i).1 = some a → w.heap.size + 3 ≤ a.block := fun i a hi e => by have := hhs i a hi e; omega
  have HR2 : Hid (RgIn (((w3.setCell ⟨w.heap.size + 1 + 1, 1, none⟩ (.slice (some ⟨h, 0, none⟩) m m)).setCell ⟨w.heap.size + 1, 0, none⟩ (.slice (some ⟨g, 0, none⟩) n n)).setCell ⟨w.heap.size + 1, 1, none⟩ (.slice (some ⟨h, 0, none⟩) m m)) (some ⟨h, 0, none⟩) m U' M r) := keep _ _ _ (keep _ _ _ (keep _ _ _ R2 (fun a e => by cases e; exact hh3) hhs3 (by show w.heap.size + 1 + 1 < _; omega)) (fun a e => by cases e; exact hh3) hhs3 (by show w.heap.size + 1 < _; omega)) (fun a e => by cases e; exact hh3) hhs3 (by show w.heap.size + 1 < _; omega)
  clear keep R1' R2 HBD D1 D2 hh hhs hhs3 hgs
  go_wp2
  refine bodyPost_ret (v := .agg #[.slice (some ⟨g, 0, none⟩) n n, .slice (some ⟨h, 0, none⟩) m m]) (by simp [results, Try.results12, go_sem, e0, e1]) rfl ?_
  exact ⟨g, h, S', U', rfl, HR1.out, HR2.out, hS1, hU1, HF.out⟩
set_option maxRecDepth 100000 in
set_option maxHeartbeats 4000000 in
theorem eqSession_any (ao bo co dn : Option Addr) (n m : Nat) (c1 c2 c3 c4 : Nat) (S U S2 U2 : Nat → Option Addr × Nat) (L M : Nat → Nat) (q r : Nat → Ps) (hn : n ≤ 1048576) (hm : m ≤ 1048576) (hL : ∀ i, i < n → L i ≤ 1048576) (hM : ∀ i, i < m → M i ≤ 1048576) (w : World) (hS : RgIn w ao n S L q) (hU : RgIn w bo m U M r) (hS2 : RgIn w co n S2 L q) (hU2 : RgIn w dn m U2 M r) : Calls Try.prog 14 #[.agg #[.slice ao n c1, .slice bo m c2], .agg #[.slice co n c3, .slice dn m c4]] w (BoolP true w) := by
  have HB : Below w.heap.size w ((w.alloc (.cells #[.slice ao n c1, .slice bo m c2] 35)).alloc (.cells #[.slice co n c3, .slice dn m c4] 35)) := ((Below.refl _ w).alloc (Nat.le_refl _) _).alloc (by simp) _
  have B0 := (Blk.new w [.slice ao n c1, .slice bo m c2] 35 rfl).alloc (.cells #[.slice co n c3, .slice dn m c4] 35)
  have B1 := Blk.new (w.alloc (.cells #[.slice ao n c1, .slice bo m c2] 35)) [.slice co n c3, .slice dn m c4] 35 (g := w.heap.size + 1) (by simp)
  have E1 := fun w h h' => eqRingS_any ao co n c1 c3 S S2 L q hn hL w h h'
  have E2 := fun w h h' => eqRingS_any bo dn m c2 c4 U U2 M r hm hM w h h'
  have X1 := hS.step HB
  have X2 := hS2.step HB
  have X3 := hU.step HB
  have X4 := hU2.step HB
  clear hS hU hS2 hU2 hL hM
  go_enter Try.func14, Try.ntmps14
  go_upto_region 1 with fail
  generalize ((w.alloc (.cells #[.slice ao n c1, .slice bo m c2] 35)).alloc (.cells #[.slice co n c3, .slice dn m c4] 35)) = W at *
  have b0 := B0.c 0 rfl; have b1 := B1.c 0 rfl
  go_wp2_with fail
  refine (E1 _ X1 X2).mono ?_
  rintro e w1 ⟨rfl, hB⟩
  replace HB := HB.trans (hB.mono HB.size)
  replace B0 := B0.step hB; replace B1 := B1.step hB
  replace X3 := X3.step hB; replace X4 := X4.step hB
  clear hB b0 b1 E1 X1 X2
  have b0 := B0.c 1 rfl; have b1 := B1.c 1 rfl
  go_wp2_with fail
  refine (E2 _ X3 X4).mono ?_
  rintro e w2 ⟨rfl, hB⟩
  replace HB := HB.trans (hB.mono HB.size)
  clear hB b0 b1 E2 X3 X4 B0 B1
  go_wp2
  go_ret
  exact ⟨rfl, HB⟩
set_option maxRecDepth 100000 in
set_option maxHeartbeats 4000000 in
theorem szSession_any (ao bo : Option Addr) (n cap m cap2 : Nat) (S U : Nat → Option Addr × Nat) (L M : Nat → Nat) (q r : Nat → Ps) (hn : n ≤ 9223372036854775807) (hm : m ≤ 9223372036854775807) (hL : ∀ i, i < n → L i ≤ 9223372036854775807) (hM : ∀ i, i < m → M i ≤ 9223372036854775807) (w : World) (hS : RgIn w ao n S L q) (hU : RgIn w bo m U M r) : Calls Try.prog 10 #[.agg #[.slice ao n cap, .slice bo m cap2], .int .i64 1048576] w (fun e w' => ∃ z : Int, e = .returned (.int .i64 z) ∧ -1 ≤ z ∧ z ≤ 1048576 ∧ (0 ≤ z → (n ≤ 1048576 ∧ ∀ i, i < n → L i ≤ 1048576) ∧ (m ≤ 1048576 ∧ ∀ i, i < m → M i ≤ 1048576)) ∧ Below w.heap.size w w') := by
  have HB : Below w.heap.size w (w.alloc (.cells #[.slice ao n cap, .slice bo m cap2] 31)) := (Below.refl _ w).alloc (Nat.le_refl _) _
  have B0 := Blk.new w [.slice ao n cap, .slice bo m cap2] 31 rfl
  have X1 := hS.step HB
  have X2 := hU.step HB
  have Z1 := fun w h => szRingS_any 1048576 (by omega) (by omega) ao n cap S L q hn hL w h
  have Z2 := fun l h0 h1 w h => szRingS_any l h0 h1 bo m cap2 U M r hm hM w h
  clear hS hU hL hM
  go_enter Try.func10, Try.ntmps10
  go_upto_region 1 with fail
  generalize w.alloc (.cells #[.slice ao n cap, .slice bo m cap2] 31) = W at *
  have b0 := B0.c 0 rfl
  go_wp2_with fail
  refine (Z1 _ X1).mono ?_
  rintro e w1 ⟨z, rfl, z0, z1, hz, hB⟩
  replace HB := HB.trans (hB.mono HB.size)
  replace B0 := B0.step hB
  replace X2 := X2.step hB
  have HZ : Hid (0 ≤ z → n ≤ 1048576 ∧ ∀ i, i < n → L i ≤ 1048576) := hz
  clear hB b0 Z1 X1 hz
  by_cases hp : 0 ≤ z
  · have b1 := B0.c 1 rfl
    have Z3 := fun w h => Z2 z hp z1 w h
    clear Z2
    go_wp2_with fail
    refine (Z3 _ X2).mono ?_
    rintro e w2 ⟨y, rfl, y0, y1, hy, hB⟩
    replace HB := HB.trans (hB.mono HB.size)
    have HY : Hid (0 ≤ y → m ≤ 1048576 ∧ ∀ i, i < m → M i ≤ 1048576) := hy
    clear hB b1 Z3 X2 hy B0
    by_cases hp2 : 0 ≤ y
    · go_wp2
      go_ret
      exact ⟨y, rfl, y0, y1, fun _ => ⟨HZ.out hp, HY.out hp2⟩, HB⟩
    · have hp3 : y < 0 := by omega
      go_wp2
      go_ret
      exact ⟨-1, rfl, by omega, by omega, fun h => by omega, HB⟩
  · have hp3 : z < 0 := by omega
    clear Z2 X2 B0
    go_wp2
    go_ret
    exact ⟨-1, rfl, by omega, by omega, fun h => by omega, HB⟩
set_option maxRecDepth 100000 in
set_option maxHeartbeats 8000000 in
theorem lawSessionOk_any (ao bo : Option Addr) (n cap m cap2 : Nat) (S U : Nat → Option Addr × Nat) (L M : Nat → Nat) (q r : Nat → Ps) (hn : n ≤ 9223372036854775807) (hm : m ≤ 9223372036854775807) (hL : ∀ i, i < n → L i ≤ 9223372036854775807) (hM : ∀ i, i < m → M i ≤ 9223372036854775807) (w : World) (hS : RgIn w ao n S L q) (hU : RgIn w bo m U M r) : Calls Try.prog 4 #[.agg #[.slice ao n cap, .slice bo m cap2]] w (BoolP true w) := by
  have HB : Below w.heap.size w (w.alloc (.cells #[.slice ao n cap, .slice bo m cap2] 31)) := (Below.refl _ w).alloc (Nat.le_refl _) _
  have B0 := Blk.new w [.slice ao n cap, .slice bo m cap2] 31 rfl
  have X1 := hS.step HB
  have X2 := hU.step HB
  have SZ := fun w h h' => szSession_any ao bo n cap m cap2 S U L M q r hn hm hL hM w h h'
  clear hS hU hL hM hn hm
  go_enter Try.func4, Try.ntmps4
  go_upto_region 2 with fail
  generalize w.alloc (.cells #[.slice ao n cap, .slice bo m cap2] 31) = W at *
  have b0 := B0.c 0 rfl; have b1 := B0.c 1 rfl
  go_wp2_with fail
  refine (SZ _ X1 X2).mono ?_
  rintro e w1 ⟨z, rfl, z0, z1, hz, hB⟩
  replace HB := HB.trans (hB.mono HB.size)
  replace B0 := B0.step hB
  replace X1 := X1.step hB
  replace X2 := X2.step hB
  clear hB b0 b1 SZ
  by_cases hz0 : 0 ≤ z
  · obtain ⟨⟨hn, hL⟩, hm, hM⟩ := hz hz0
    have T1 := fun w h h' => toSession_any ao bo n cap m cap2 S U L M q r hn hm hL hM w h h'
    have SP := fun a b S U w h h' => specSessionOk_any a b n n m m S U L M q r hn hm hL hM w h h'
    have IM := fun a b S U hc hd w h h' => implSessionOk_any a b n n m m S U L M q r hn hm hL hM (Nat.le_refl _) (by omega) (Nat.le_refl _) (by omega) hc hd w h h'
    have EQ := fun a b c d S U S2 U2 w h h' h2 h3 => eqSession_any a b c d n m n m n m S U S2 U2 L M q r hn hm hL hM w h h' h2 h3
    have HL : Hid (∀ i, i < n → L i ≤ 1048576) := hL
    have HM : Hid (∀ i, i < m → M i ≤ 1048576) := hM
    generalize (lyB n L q && lyB m M r) = o at *
    have hoo : (o != o) = false := by simp
    clear hz hL hM
    have b0 := B0.c 0 rfl; have b1 := B0.c 1 rfl
    go_wp2_with fail
    refine (T1 _ X1 X2).mono ?_
    rintro e w2 ⟨g1, k1, S1, U1, rfl, R1, Q1, -, -, hB⟩
    replace HB := HB.trans (hB.mono HB.size)
    replace B0 := B0.step hB
    replace X1 := X1.step hB
    replace X2 := X2.step hB
    clear hB b0 b1
    go_wp2_with fail
    refine (SP _ _ _ _ _ R1 Q1).mono ?_
    rintro e w3 ⟨rfl, hB⟩
    replace HB := HB.trans (hB.mono HB.size)
    replace B0 := B0.step hB
    replace X1 := X1.step hB
    replace X2 := X2.step hB
    clear hB R1 Q1 SP
    have b0 := B0.c 0 rfl; have b1 := B0.c 1 rfl
    go_wp2_with fail
    refine (T1 _ X1 X2).mono ?_
    rintro e w4 ⟨g2, k2, S2, U2, rfl, R2, Q2, hS2, hU2, hB⟩
    replace HB := HB.trans (hB.mono HB.size)
    replace B0 := B0.step hB
    replace X1 := X1.step hB
    replace X2 := X2.step hB
    have HC : Hid (∀ i, i < n → L i ≤ (S2 i).2 ∧ (S2 i).2 ≤ 9223372036854775807) := fun i hi => by
      have := HL.out i hi
      rw [hS2 i]
      omega
    have HD : Hid (∀ i, i < m → M i ≤ (U2 i).2 ∧ (U2 i).2 ≤ 9223372036854775807) := fun i hi => by
      have := HM.out i hi
      rw [hU2 i]
      omega
    have B5 := Blk.new w4 [.slice (some ⟨g2, 0, none⟩) n n, .slice (some ⟨k2, 0, none⟩) m m] 35 rfl
    have hB6 := (Below.refl w4.heap.size w4).alloc (Nat.le_refl _) (.cells #[.slice (some ⟨g2, 0, none⟩) n n, .slice (some ⟨k2, 0, none⟩) m m] 35)
    replace HB := HB.trans (hB6.mono HB.size)
    replace B0 := B0.step hB6
    replace X1 := X1.step hB6
    replace X2 := X2.step hB6
    replace R2 := R2.step hB6
    replace Q2 := Q2.step hB6
    clear hB hS2 hU2 b0 b1 hB6
    go_upto_region 7 with fail
    generalize w4.alloc (.cells #[.slice (some ⟨g2, 0, none⟩) n n, .slice (some ⟨k2, 0, none⟩) m m] 35) = W5 at *
    have c0 := B5.c 0 rfl; have c1 := B5.c 1 rfl
    go_wp2_with fail
    refine (IM _ _ _ _ HC.out HD.out _ R2 Q2).mono ?_
    rintro e w5 ⟨rfl, hB⟩
    replace HB := HB.trans (hB.mono HB.size)
    replace B0 := B0.step hB
    replace B5 := B5.step hB
    replace X1 := X1.step hB
    replace X2 := X2.step hB
    replace R2 := R2.step hB
    replace Q2 := Q2.step hB
    clear hB IM c0 c1
    have H0 : Below w5.heap.size w5 w5 := Below.refl _ _
    have HK : ∀ V, Below w5.heap.size w5 V → (fun w' : World => w'.cell? ⟨w4.heap.size, 0, none⟩ = some (.slice (some ⟨g2, 0, none⟩) n n) ∧ w'.cell? ⟨w4.heap.size, 1, none⟩ = some (.slice (some ⟨k2, 0, none⟩) m m) ∧ w'.cell? ⟨w.heap.size, 0, none⟩ = some (.slice ao n cap) ∧ w'.cell? ⟨w.heap.size, 1, none⟩ = some (.slice bo m cap2)) V := fun V h => ⟨(B5.step h).c 0 rfl, (B5.step h).c 1 rfl, (B0.step h).c 0 rfl, (B0.step h).c 1 rfl⟩
    go_upto_region 10 with fail
    go_region_held3 (fun w' : World => w'.cell? ⟨w4.heap.size, 0, none⟩ = some (.slice (some ⟨g2, 0, none⟩) n n) ∧ w'.cell? ⟨w4.heap.size, 1, none⟩ = some (.slice (some ⟨k2, 0, none⟩) m m) ∧ w'.cell? ⟨w.heap.size, 0, none⟩ = some (.slice ao n cap) ∧ w'.cell? ⟨w.heap.size, 1, none⟩ = some (.slice bo m cap2)) (refine HK _ ?_ <;> repeat (first | (with_reducible exact H0) | (with_reducible refine Below.drew ?_)))
      (first
        | (go_at_call 12; refine (T1 _ (X1.step (by first | (with_reducible exact H0) | (with_reducible exact H0.drew))) (X2.step (by first | (with_reducible exact H0) | (with_reducible exact H0.drew)))).mono ?_; rintro e w6 ⟨g3, k3, S3, U3, rfl, R3, Q3, -, -, hB⟩; (first | (have Hn : Below w5.heap.size w5 w6 := (by with_reducible exact H0.trans (hB.mono H0.size))) | (have Hn : Below w5.heap.size w5 w6 := (by with_reducible exact H0.drew.trans (hB.mono H0.drew.size)))); clear hB H0; have H0 := Hn; clear Hn)
        | (go_at_call 14; refine (EQ _ _ _ _ _ _ _ _ _ (R2.step (by first | (with_reducible exact H0) | (with_reducible exact H0.drew))) (Q2.step (by first | (with_reducible exact H0) | (with_reducible exact H0.drew))) (by first | (with_reducible exact R3) | (with_reducible exact R3.drew)) (by first | (with_reducible exact Q3) | (with_reducible exact Q3.drew))).mono ?_; rintro e w7 ⟨rfl, hB⟩; (first | (have Hn : Below w5.heap.size w5 w7 := (by with_reducible exact H0.trans (hB.mono H0.size))) | (have Hn : Below w5.heap.size w5 w7 := (by with_reducible exact H0.drew.trans (hB.mono H0.drew.size)))); clear hB H0; have H0 := Hn; clear Hn))
    all_goals replace HB := HB.trans (H0.mono HB.size)
    all_goals clear HK H0 R2 Q2 R3 Q3 B0 B5 EQ T1 X1 X2
    all_goals go_wp2
    all_goals go_ret
    all_goals exact ⟨rfl, by first | exact HB | exact HB.drew⟩
  · clear hz
    have hz' : z < 0 := by omega
    clear X1 X2 B0
    go_wp2
    go_ret
    exact ⟨rfl, HB⟩
end Go.Proofs.Ytibbjjlapglndaa

/- How spots and segments read as data, beside points: opened and shut. -/
namespace Go.Proofs.Ytibbjjlapglndaa
open Go.ChangeShapes Go.WideShapes Go.ChangeAt Go.RowKit Go.Joins
abbrev Wf (x : Int) : Prop := (Lit.int .i64 x).wf = true
abbrev SpD {H : Type} (x y : Int) : DataW H := .agg [.lit (.int .i64 x), .lit (.int .i64 y)]
theorem trod_spot {H : Type} {enc : TypeId × Value → H} {w : World} {base : Nat} {spare : TypeId → Bool} {held : Bool} {n : Nat} {c0 c1 : Value} {y : DataW H × List MemPlace} (h : DataW.trod enc Try.prog w base spare held n 77 [c0, c1] = some y) :
    ∃ a b : Int, c0 = .int .i64 a ∧ c1 = .int .i64 b ∧ y = (SpD a b, []) ∧ Wf a ∧ Wf b := by
  obtain ⟨y0, y1, m, hx, _, h0, h1⟩ := trod_struct2 Try.underlying77 h
  obtain ⟨a, e0, rfl, wa⟩ := DataW.trod_int Try.underlying2 h0
  obtain ⟨b, e1, rfl, wb⟩ := DataW.trod_int Try.underlying2 h1
  have k : Try.prog.cellsOf 2 = 1 := by kernel_rfl
  simp [k] at e0 e1
  exact ⟨a, b, e0, e1, hx, wa, wb⟩
end Go.Proofs.Ytibbjjlapglndaa
