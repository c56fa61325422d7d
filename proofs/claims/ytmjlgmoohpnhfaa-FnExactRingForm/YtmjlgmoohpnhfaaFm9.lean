/- Part 9 of the walks that the proof leans on. -/
import Derived.Test.YtmjlgmoohpnhfaaFm8
import Derived.Test.YtmjlgmoohpnhfaaFm6
import Derived.Laws.AppendOwn
import Derived.Test.YtmjlgmoohpnhfaaFm3
import Derived.Deep.OwnRows
import Derived.WalkSmall
import Derived.Test.YtmjlgmoohpnhfaaFm4
import Derived.Lib.AppendZeros
import Derived.Test.YtmjlgmoohpnhfaaFm1
/- What is at fault in a ring: the model's walk. -/
namespace Go.Proofs.Ytmjlgmoohpnhfaa
open Go.RowKit
set_option maxRecDepth 100000 in
set_option maxHeartbeats 200000000 in
theorem specRingFault_any (ao : Option Addr) (n cap : Nat) (p : Ps) (hn : n ≤ 1048576) (w : World) (hS : SpIn w ao n p) : Calls Try.prog 78 #[.agg #[.slice ao n cap]] w (VP (.int .i64 (rgF n p)) w) := by
  have B0 := Blk.new w [.slice ao n cap] 28 rfl
  have HB0 : Below w.heap.size w (w.alloc (.cells #[.slice ao n cap] 28)) := (Below.refl _ w).alloc (Nat.le_refl _) _
  have HS0 := hS.step HB0
  have b0 := B0.c 0 rfl
  have hnI : (n : Int) ≤ 1048576 := by omega
  clear hS
  go_enter Try.func78, Try.ntmps78
  go_upto_region 1 with fail
  generalize (w.alloc (.cells #[.slice ao n cap] 28)) = W1 at *
  by_cases h1 : n < 3
  · have HO : Hid (rgF n p = 1) := by show _ = _; unfold rgF; rw [if_pos h1]
    have h1I : (n : Int) < 3 := by omega
    clear HS0 B0
    go_wp2
    go_ret
    exact ⟨by rw [HO.out]; rfl, HB0⟩
  by_cases h2 : 12 < n
  · have HO : Hid (rgF n p = 2) := by show _ = _; unfold rgF; rw [if_neg h1, if_pos h2]
    have h1I : (3 : Int) ≤ n := by omega
    have h2I : (12 : Int) < n := by omega
    clear HS0 B0
    go_wp2
    go_ret
    exact ⟨by rw [HO.out]; rfl, HB0⟩
  have h1I : (3 : Int) ≤ n := by omega
  have h2I : (n : Int) ≤ 12 := by omega
  have HS : Hid (SpIn W1 ao n p) := HS0
  clear HS0
  go_wp2_with fail
  clear b0
  go_loopw [4] (fun i wr => ∃ c : Nat, c ≤ n ∧ i = .int .i64 c ∧ (∀ j, j < c → spotOk (p j).1 (p j).2 = true) ∧ Below W1.heap.size W1 wr) (fun i _ => n - (intOf i).toNat)
  case atStart => exact ⟨0, by omega, rfl, fun j hj => by omega, Below.refl _ _⟩
  case round =>
    obtain ⟨c, hc, rfl, hall, HB⟩ := hrel
    have HA : Hid (∀ j, j < c → spotOk (p j).1 (p j).2 = true) := hall
    clear hall
    by_cases hcn : c < n
    · obtain ⟨A, off, rfl, hA, q0, q1⟩ := HS.out.step HB c hcn
      have hcI : (c : Int) < n := by omega
      have b0 := (B0.step HB).c 0 rfl
      go_wp2_with fail
      refine (specSpotOk_any (p c).1 (p c).2 _ rfl _).mono ?_
      rintro e w1 ⟨rfl, hB⟩
      replace HB := HB.trans (hB.mono HB.size)
      clear hB q0 q1 hA b0
      by_cases hk : spotOk (p c).1 (p c).2 = true
      · rw [hk]
        have HK : Hid (spotOk (p c).1 (p c).2 = true) := hk
        clear hk
        go_wp2
        go_roundw
        case rel => exact ⟨c + 1, by omega, by go_num, fun j hj => by
          rcases Nat.lt_or_ge j c with h | h
          · exact HA.out j h
          · obtain rfl : j = c := by omega
            exact HK.out, HB⟩
        case measure => simp [intOf]; omega
      · have HO : Hid (rgF n p = 3) := by show _ = _; unfold rgF; rw [if_neg h1, if_neg h2, if_pos (fun h => hk (h c hcn))]
        rw [Bool.eq_false_iff.2 hk]
        have HBF := HB0.trans (HB.mono HB0.size)
        clear hk
        go_wp2
        go_ret
        exact ⟨by rw [HO.out]; rfl, HBF⟩
    · obtain rfl : n = c := by omega
      have HB1 := HB0.trans (HB.mono HB0.size)
      have HS1 : Hid (SpIn wr ao n p) := HS.out.step HB
      have B1 := B0.step HB
      clear HS B0 HB
      go_wp2_with fail
      generalize wr = W2 at *
      go_loopw [5] (fun i wr => ∃ c : Nat, c ≤ n ∧ i = .int .i64 c ∧ (∀ j, j < c → ∀ k, k < j → p j ≠ p k) ∧ Below W2.heap.size W2 wr) (fun i _ => n - (intOf i).toNat)
      case atStart => exact ⟨0, by omega, rfl, fun j hj => by omega, Below.refl _ _⟩
      case round =>
        rename_i hrel
        obtain ⟨c, hc, rfl, hall, HB⟩ := hrel
        have HC : Hid (∀ j, j < c → ∀ k, k < j → p j ≠ p k) := hall
        clear hall
        by_cases hcn : c < n
        · have hcI : (c : Int) < n := by omega
          have HSo : Hid (SpIn wr ao n p) := HS1.out.step HB
          have HB4 := HB1.trans (HB.mono HB1.size)
          have B3 := B1.step HB
          have HBo := HB
          clear HB
          go_wp2_with fail
          generalize wr = W4 at *
          go_loopw [6] (fun i wr => ∃ d : Nat, d ≤ c ∧ i = .int .i64 d ∧ (∀ k, k < d → p c ≠ p k) ∧ Below W4.heap.size W4 wr) (fun i _ => c - (intOf i).toNat)
          case atStart => exact ⟨0, by omega, rfl, fun j hj => by omega, Below.refl _ _⟩
          case round =>
            rename_i hrel
            obtain ⟨d, hd, rfl, hall, HB⟩ := hrel
            have HE : Hid (∀ k, k < d → p c ≠ p k) := hall
            clear hall
            by_cases hdn : d < c
            · have hdI : (d : Int) < c := by omega
              have hdI2 : (d : Int) < n := by omega
              obtain ⟨A, off, rfl, hA, q0, q1⟩ := HSo.out.step HB c hcn
              obtain ⟨A', off', hao, -, m0, m1⟩ := HSo.out.step HB d (by omega)
              obtain ⟨rfl, rfl⟩ : A = A' ∧ off = off' := by simpa using hao
              have b0 := (B3.step HB).c 0 rfl
              have EQ := eqSp2 (p c).1 (p c).2 (p d).1 (p d).2
              have KS : (fun w' : World => w'.cell? ⟨w.heap.size, 0, none⟩ = some (.slice (some ⟨A, off, none⟩) n cap) ∧ w'.cell? ⟨A, off + c * 2, none⟩ = some (.int .i64 (p c).1) ∧ w'.cell? ⟨A, off + c * 2 + 1, none⟩ = some (.int .i64 (p c).2) ∧ w'.cell? ⟨A, off + d * 2, none⟩ = some (.int .i64 (p d).1) ∧ w'.cell? ⟨A, off + d * 2 + 1, none⟩ = some (.int .i64 (p d).2)) wr := ⟨b0, q0, q1, m0, m1⟩
              go_upto_region 17 with fail
              go_region_held3 (fun w' : World => w'.cell? ⟨w.heap.size, 0, none⟩ = some (.slice (some ⟨A, off, none⟩) n cap) ∧ w'.cell? ⟨A, off + c * 2, none⟩ = some (.int .i64 (p c).1) ∧ w'.cell? ⟨A, off + c * 2 + 1, none⟩ = some (.int .i64 (p c).2) ∧ w'.cell? ⟨A, off + d * 2, none⟩ = some (.int .i64 (p d).1) ∧ w'.cell? ⟨A, off + d * 2 + 1, none⟩ = some (.int .i64 (p d).2)) (exact KS) (fail)
              all_goals have HBD := HB.drew
              all_goals clear KS b0 q0 q1 m0 m1 EQ hao hA HB
              all_goals by_cases h : (p c).1 = (p d).1 ∧ (p c).2 = (p d).2
              all_goals first
                | (have HO : Hid (rgF n p = 4) := by
                     show _ = _
                     unfold rgF
                     rw [if_neg h1, if_neg h2, if_neg (fun hh => hh HA.out), if_pos (fun hh => hh c hcn d hdn (Prod.ext h.1 h.2))]
                   have d1 : (decide ((p c).1 = (p d).1) && decide ((p c).2 = (p d).2)) = true := by simp [h.1, h.2]
                   rw [d1]
                   have HBF := HB4.trans (HBD.mono HB4.size)
                   clear d1 h
                   go_wp2
                   go_ret
                   exact ⟨by rw [HO.out]; rfl, HBF⟩)
                | (have HH : Hid (p c ≠ p d) := fun e => h ⟨by rw [e], by rw [e]⟩
                   have d1 : (decide ((p c).1 = (p d).1) && decide ((p c).2 = (p d).2)) = false := by
                     rw [Bool.eq_false_iff]
                     intro hh
                     simp at hh
                     exact h hh
                   rw [d1]
                   clear d1 h
                   go_wp2
                   go_roundw)
              case rel => exact ⟨d + 1, by omega, by go_num, fun k hk => by
                rcases Nat.lt_or_ge k d with h | h
                · exact HE.out k h
                · obtain rfl : k = d := by omega
                  exact HH.out, HBD⟩
              case measure => simp [intOf]; omega
            · obtain rfl : c = d := by omega
              have HBF := HBo.trans (HB.mono HBo.size)
              clear HB HBo HB4 HSo B3
              go_wp2
              go_roundw
              case rel => exact ⟨c + 1, by omega, by go_num, fun j hj => by
                rcases Nat.lt_or_ge j c with h | h
                · exact HC.out j h
                · obtain rfl : j = c := by omega
                  exact HE.out, HBF⟩
              case measure => simp [intOf]; omega
        · obtain rfl : n = c := by omega
          have HB3 := HB1.trans (HB.mono HB1.size)
          have HS2 : Hid (SpIn wr ao n p) := HS1.out.step HB
          have B2 := B1.step HB
          clear HS1 B1 HB HB1
          go_wp2_with fail
          generalize wr = W3 at *
          go_loopw [7] (fun i wr => ∃ c : Nat, c ≤ n ∧ i = .int .i64 c ∧ (∀ j, j < c → ∀ k, k < j → bdB n p j k = false) ∧ Below W3.heap.size W3 wr) (fun i _ => n - (intOf i).toNat)
          case atStart => exact ⟨0, by omega, rfl, fun j hj => by omega, Below.refl _ _⟩
          case round =>
            rename_i hrel
            obtain ⟨c, hc, rfl, hall, HB⟩ := hrel
            have HD : Hid (∀ j, j < c → ∀ k, k < j → bdB n p j k = false) := hall
            clear hall
            by_cases hcn : c < n
            · have hcI : (c : Int) < n := by omega
              have HSo : Hid (SpIn wr ao n p) := HS2.out.step HB
              have HB4 := HB3.trans (HB.mono HB3.size)
              have B3 := B2.step HB
              have HBo := HB
              clear HB
              go_wp2_with fail
              generalize wr = W4 at *
              go_loopw [8] (fun i wr => ∃ d : Nat, d ≤ c ∧ i = .int .i64 d ∧ (∀ k, k < d → bdB n p c k = false) ∧ Below W4.heap.size W4 wr) (fun i _ => c - (intOf i).toNat)
              case atStart => exact ⟨0, by omega, rfl, fun j hj => by omega, Below.refl _ _⟩
              case round =>
                rename_i hrel
                obtain ⟨d, hd, rfl, hall, HB⟩ := hrel
                have HE : Hid (∀ k, k < d → bdB n p c k = false) := hall
                clear hall
                by_cases hdn : d < c
                · have hdI : (d : Int) < c := by omega
                  have HSr := HSo.out.step HB
                  have B4 := B3.step HB
                  obtain ⟨A, off, rfl, -, -, -⟩ := HSr c hcn
                  obtain ⟨i1, i2, i3, i4⟩ := in1_seg (side_ok HA.out HC.out (by omega) hcn)
                  obtain ⟨j1, j2, j3, j4⟩ := in1_seg (side_ok HA.out HC.out (by omega) (show d < n by omega))
                  have L1 := fun w h => l5Side_any (some ⟨A, off, none⟩) n cap p c hcn hn w h
                  have L2 := fun w h => l5Side_any (some ⟨A, off, none⟩) n cap p d (by omega) hn w h
                  have LM := l4Meet_any (sdA n p c).1 (sdA n p c).2.1 (sdA n p c).2.2.1 (sdA n p c).2.2.2 (sdA n p d).1 (sdA n p d).2.1 (sdA n p d).2.2.1 (sdA n p d).2.2.2 i1 i2 i3 i4 j1 j2 j3 j4
                  have hbs := bd_same HC.out (by omega) hcn hdn
                  have hkin : kdA n p c d = 0 ∨ kdA n p c d = 1 ∨ kdA n p c d = 2 := knd_in _ _ _ _ _ _ _ _
                  go_upto_region 25 with fail
                  go_cut [9] (fun m wx => m = .int .i64 (kdA n p c d) ∧ Below wr.heap.size wr wx)
                  case first =>
                    clear HE HD HB4 HSo HS2 HA HC hbs hkin L1 L2 LM
                    refine reg25 (c := c) (d := d) hcn (by omega) hn HSr i1 i2 i3 i4 j1 j2 j3 j4 (by have hz := HB3.size; have hz2 := HBo.size; first | exact B4.lt | omega) (B4.c 0 rfl) rfl rfl rfl rfl (by simp) (by simp) (by simp) (by simp) ?_
                    rintro ⟨tm, df⟩ Wz hz hdf hoff h9 hBz
                    simp only at hz hdf hoff h9
                    subst hdf
                    have htm := tmps_fold [64, 65, 66, 67, 68, 69, 70, 63, 71, 72, 73, 10, 11, 9] tm _ hz hoff
                    simp only [List.foldl, List.setIfInBounds_toArray, List.set_cons_zero, List.set_cons_succ, h9] at htm
                    clear hz hoff
                    generalize tm.getD 64 undef = u0, tm.getD 65 undef = u1, tm.getD 66 undef = u2, tm.getD 67 undef = u3, tm.getD 68 undef = u4, tm.getD 69 undef = u5, tm.getD 70 undef = u6, tm.getD 63 undef = u7, tm.getD 71 undef = u8, tm.getD 72 undef = u9, tm.getD 73 undef = u10, tm.getD 10 undef = u11, tm.getD 11 undef = u12 at htm
                    clear h9
                    subst htm
                    go_wp2_with fail
                    go_meet
                    exact ⟨rfl, hBz⟩
                  case rest =>
                    obtain ⟨hm, hBc⟩ := hcut
                    subst hm
                    have HB5 := HB.trans (hBc.mono HB.size)
                    clear hBc HB B4 HSr L1 L2 LM i1 i2 i3 i4 j1 j2 j3 j4
                    generalize kdA n p c d = z at *
                    have hs1 : IntKind.i64.wrap ((c : Int) - 1) = (c : Int) - 1 := by rw [IntKind.wrap_i64]; omega
                    have hs2 : IntKind.i64.wrap ((n : Int) - 1) = (n : Int) - 1 := by rw [IntKind.wrap_i64]; omega
                    have HBS : Hid (bdB n p c d = ((nxB n c d && !(decide (z = 1))) || (!(nxB n c d) && !(decide (z = 0))))) := hbs
                    clear hbs
                    have HBF := HB4.trans (HB5.mono HB4.size)
                    rcases (show (d + 1 = c) ∨ (d + 1 ≠ c ∧ d = 0 ∧ c + 1 = n) ∨ (d + 1 ≠ c ∧ d = 0 ∧ c + 1 ≠ n) ∨ (d + 1 ≠ c ∧ d ≠ 0) by omega) with hN1 | hN2 | hN3 | hN4
                    · have HX : Hid (nxB n c d = true) := by show _ = _; unfold nxB; simp; omega
                      have b1 : ((d : Int) == (c : Int) - 1) = true := beq_iff_eq.2 (by omega)
                      clear hN1
                      rcases hkin with rfl | rfl | rfl
                      · have HO : Hid (rgF n p = 5) := by
                          show _ = _
                          unfold rgF
                          rw [if_neg h1, if_neg h2, if_neg (fun hh => hh HA.out), if_neg (fun hh => hh HC.out), if_pos (fun hh => by
                            have e := hh c hcn d hdn
                            rw [HBS.out, HX.out] at e
                            simp at e)]
                        go_wp2
                        go_ret
                        exact ⟨by rw [HO.out]; rfl, HBF⟩
                      · have HN : Hid (bdB n p c d = false) := by show _ = _; rw [HBS.out, HX.out]; rfl
                        go_wp2
                        go_roundw
                        case rel => exact ⟨d + 1, by omega, by go_num, fun k hk => by
                          rcases Nat.lt_or_ge k d with h | h
                          · exact HE.out k h
                          · obtain rfl : k = d := by omega
                            exact HN.out, HB5⟩
                        case measure => simp [intOf]; omega
                      · have HO : Hid (rgF n p = 5) := by
                          show _ = _
                          unfold rgF
                          rw [if_neg h1, if_neg h2, if_neg (fun hh => hh HA.out), if_neg (fun hh => hh HC.out), if_pos (fun hh => by
                            have e := hh c hcn d hdn
                            rw [HBS.out, HX.out] at e
                            simp at e)]
                        go_wp2
                        go_ret
                        exact ⟨by rw [HO.out]; rfl, HBF⟩
                    · have HX : Hid (nxB n c d = true) := by show _ = _; unfold nxB; simp; omega
                      have b1 : ((d : Int) == (c : Int) - 1) = false := beq_eq_false_iff_ne.2 (by omega)
                      have b2 : ((d : Int) == 0) = true := beq_iff_eq.2 (by omega)
                      have b3 : ((c : Int) == (n : Int) - 1) = true := beq_iff_eq.2 (by omega)
                      clear hN2
                      rcases hkin with rfl | rfl | rfl
                      · have HO : Hid (rgF n p = 5) := by
                          show _ = _
                          unfold rgF
                          rw [if_neg h1, if_neg h2, if_neg (fun hh => hh HA.out), if_neg (fun hh => hh HC.out), if_pos (fun hh => by
                            have e := hh c hcn d hdn
                            rw [HBS.out, HX.out] at e
                            simp at e)]
                        go_wp2
                        go_ret
                        exact ⟨by rw [HO.out]; rfl, HBF⟩
                      · have HN : Hid (bdB n p c d = false) := by show _ = _; rw [HBS.out, HX.out]; rfl
                        go_wp2
                        go_roundw
                        case rel => exact ⟨d + 1, by omega, by go_num, fun k hk => by
                          rcases Nat.lt_or_ge k d with h | h
                          · exact HE.out k h
                          · obtain rfl : k = d := by omega
                            exact HN.out, HB5⟩
                        case measure => simp [intOf]; omega
                      · have HO : Hid (rgF n p = 5) := by
                          show _ = _
                          unfold rgF
                          rw [if_neg h1, if_neg h2, if_neg (fun hh => hh HA.out), if_neg (fun hh => hh HC.out), if_pos (fun hh => by
                            have e := hh c hcn d hdn
                            rw [HBS.out, HX.out] at e
                            simp at e)]
                        go_wp2
                        go_ret
                        exact ⟨by rw [HO.out]; rfl, HBF⟩
                    · have HX : Hid (nxB n c d = false) := by show _ = _; unfold nxB; rw [Bool.eq_false_iff]; intro hh; simp at hh; omega
                      have b1 : ((d : Int) == (c : Int) - 1) = false := beq_eq_false_iff_ne.2 (by omega)
                      have b2 : ((d : Int) == 0) = true := beq_iff_eq.2 (by omega)
                      have b3 : ((c : Int) == (n : Int) - 1) = false := beq_eq_false_iff_ne.2 (by omega)
                      clear hN3
                      rcases hkin with rfl | rfl | rfl
                      · have HN : Hid (bdB n p c d = false) := by show _ = _; rw [HBS.out, HX.out]; rfl
                        go_wp2
                        go_roundw
                        case rel => exact ⟨d + 1, by omega, by go_num, fun k hk => by
                          rcases Nat.lt_or_ge k d with h | h
                          · exact HE.out k h
                          · obtain rfl : k = d := by omega
                            exact HN.out, HB5⟩
                        case measure => simp [intOf]; omega
                      · have HO : Hid (rgF n p = 5) := by
                          show _ = _
                          unfold rgF
                          rw [if_neg h1, if_neg h2, if_neg (fun hh => hh HA.out), if_neg (fun hh => hh HC.out), if_pos (fun hh => by
                            have e := hh c hcn d hdn
                            rw [HBS.out, HX.out] at e
                            simp at e)]
                        go_wp2
                        go_ret
                        exact ⟨by rw [HO.out]; rfl, HBF⟩
                      · have HO : Hid (rgF n p = 5) := by
                          show _ = _
                          unfold rgF
                          rw [if_neg h1, if_neg h2, if_neg (fun hh => hh HA.out), if_neg (fun hh => hh HC.out), if_pos (fun hh => by
                            have e := hh c hcn d hdn
                            rw [HBS.out, HX.out] at e
                            simp at e)]
                        go_wp2
                        go_ret
                        exact ⟨by rw [HO.out]; rfl, HBF⟩
                    · have HX : Hid (nxB n c d = false) := by show _ = _; unfold nxB; rw [Bool.eq_false_iff]; intro hh; simp at hh; omega
                      have b1 : ((d : Int) == (c : Int) - 1) = false := beq_eq_false_iff_ne.2 (by omega)
                      have b2 : ((d : Int) == 0) = false := beq_eq_false_iff_ne.2 (by omega)
                      clear hN4
                      rcases hkin with rfl | rfl | rfl
                      · have HN : Hid (bdB n p c d = false) := by show _ = _; rw [HBS.out, HX.out]; rfl
                        go_wp2
                        go_roundw
                        case rel => exact ⟨d + 1, by omega, by go_num, fun k hk => by
                          rcases Nat.lt_or_ge k d with h | h
                          · exact HE.out k h
                          · obtain rfl : k = d := by omega
                            exact HN.out, HB5⟩
                        case measure => simp [intOf]; omega
                      · have HO : Hid (rgF n p = 5) := by
                          show _ = _
                          unfold rgF
                          rw [if_neg h1, if_neg h2, if_neg (fun hh => hh HA.out), if_neg (fun hh => hh HC.out), if_pos (fun hh => by
                            have e := hh c hcn d hdn
                            rw [HBS.out, HX.out] at e
                            simp at e)]
                        go_wp2
                        go_ret
                        exact ⟨by rw [HO.out]; rfl, HBF⟩
                      · have HO : Hid (rgF n p = 5) := by
                          show _ = _
                          unfold rgF
                          rw [if_neg h1, if_neg h2, if_neg (fun hh => hh HA.out), if_neg (fun hh => hh HC.out), if_pos (fun hh => by
                            have e := hh c hcn d hdn
                            rw [HBS.out, HX.out] at e
                            simp at e)]
                        go_wp2
                        go_ret
                        exact ⟨by rw [HO.out]; rfl, HBF⟩
                · obtain rfl : c = d := by omega
                  have HBF := HBo.trans (HB.mono HBo.size)
                  clear HB HBo HB4 HSo B3
                  go_wp2
                  go_roundw
                  case rel => exact ⟨c + 1, by omega, by go_num, fun j hj => by
                    rcases Nat.lt_or_ge j c with h | h
                    · exact HD.out j h
                    · obtain rfl : j = c := by omega
                      exact HE.out, HBF⟩
                  case measure => simp [intOf]; omega
            · obtain rfl : n = c := by omega
              have HO : Hid (rgF n p = 0) := by
                show _ = _
                unfold rgF
                rw [if_neg h1, if_neg h2, if_neg (fun hh => hh HA.out), if_neg (fun hh => hh HC.out), if_neg (fun hh => hh HD.out)]
              have HBF := HB3.trans (HB.mono HB3.size)
              clear HS2 B2 HB HB3 HA HC HD
              go_wp2
              go_ret
              exact ⟨by rw [HO.out]; rfl, HBF⟩
end Go.Proofs.Ytmjlgmoohpnhfaa

/- Rings that are turned: the program's small walks. -/
namespace Go.Proofs.Ytmjlgmoohpnhfaa
open Go.RowKit
set_option maxRecDepth 100000 in
theorem rright_any (ao : Option Addr) (n cap : Nat) (p : Ps) (hn : n ≤ 1048576) (hcap : n ≤ cap) (hcap2 : cap ≤ 9223372036854775807) (w : World) (hS : SpIn w ao n p) : Calls Try.prog 38 #[.agg #[.slice ao n cap]] w (BoolP (decide (rgF n p = 0)) w) := by
  have C := fun w h => implRingFault_any ao n cap p hn hcap hcap2 w h
  have HS := hS.step ((Below.refl _ _).alloc (Nat.le_refl _) (.cells #[.slice ao n cap] 28))
  revert C
  generalize rgF n p = o
  intro C
  clear hS
  go_enter Try.func38, Try.ntmps38
  go_wp2_with fail
  refine (C _ HS).mono ?_
  rintro e w1 ⟨rfl, hB⟩
  have HB : Below w.heap.size w w1 := ((Below.refl _ _).alloc (Nat.le_refl _) _).trans (hB.mono (by simp))
  clear hB C HS
  by_cases h : o = 0
  · subst h
    go_wp2
    go_ret
    exact ⟨rfl, HB⟩
  · have hf : (o == 0) = false := by simp; omega
    have HD : Hid (decide (o = 0) = false) := decide_eq_false h
    go_wp2
    go_ret
    exact ⟨by rw [HD.out]; rfl, HB⟩
set_option maxRecDepth 100000 in
theorem l5OkD_any (ao : Option Addr) (n cap : Nat) (p : Ps) (hn : n ≤ 1048576) (w : World) (hS : SpIn w ao n p) : Calls Try.prog 34 #[.agg #[.slice ao n cap]] w (BoolP (decide (rgF n p = 0)) w) := by
  have C := fun w h => specRingFault_any ao n cap p hn w h
  have HS := hS.step ((Below.refl _ _).alloc (Nat.le_refl _) (.cells #[.slice ao n cap] 28))
  revert C
  generalize rgF n p = o
  intro C
  clear hS
  go_enter Try.func34, Try.ntmps34
  go_wp2_with fail
  refine (C _ HS).mono ?_
  rintro e w1 ⟨rfl, hB⟩
  have HB : Below w.heap.size w w1 := ((Below.refl _ _).alloc (Nat.le_refl _) _).trans (hB.mono (by simp))
  clear hB C HS
  by_cases h : o = 0
  · subst h
    go_wp2
    go_ret
    exact ⟨rfl, HB⟩
  · have hf : (o == 0) = false := by simp; omega
    have HD : Hid (decide (o = 0) = false) := decide_eq_false h
    go_wp2
    go_ret
    exact ⟨by rw [HD.out]; rfl, HB⟩
/-- The cells of n spots, one behind the other. -/
def spL (n : Nat) (p : Ps) : List Value := (List.range (n * 2)).map fun (i : Nat) => Value.int .i64 (spW p i)
theorem spL_len (n : Nat) (p : Ps) : (spL n p).length = n * 2 := by simp [spL]
theorem spL_at {n : Nat} {p : Ps} {i : Nat} (h : i < n * 2) : (spL n p)[i]? = some (.int .i64 (spW p i)) := by simp [spL, h]
set_option maxRecDepth 100000 in
set_option maxHeartbeats 2000000 in
theorem clone_any (g n cap : Nat) (p : Ps) (hn : n ≤ 1048576) (w : World) (R : w.rowIs g 55 (n * 2) (fun i => .int .i64 (spW p i))) :
    Calls Try.prog 82 #[.slice (some ⟨g, 0, none⟩) n cap] w (fun e w' => ∃ v, e = .returned v ∧ v ≠ .slice none 0 0 ∧ w'.ownsRow w.heap.size 55 2 v n (spL n p) ∧ Below w.heap.size w w') := by
  obtain ⟨i0, hi, hz0, hz1, hz2⟩ := info_parts Try.infoSpot
  have q := fun (w : World) (a : Option Addr) (n c n' c' : Nat) => Lib.run_eql_slice_nil (P := Try.prog) w _ _ a n c n' c' Try.underlying26
  have HR : Hid (w.rowIs g 55 (n * 2) (fun i => .int .i64 (spW p i))) := R
  clear R
  go_enter Try.func82, Try.ntmps82
  go_wp2_with (at_builtin; refine wpList_append_own _ rfl _ _ 26 rfl w.heap.size 55 i0 (.agg #[.int .i64 0, .int .i64 0]) 2 16 Try.underlying26 hi hz0 hz1 hz2 rfl (by decide) _ _ _ rfl (World.ownsRow_made w #[] 0 (Nat.le_refl _) (by decide) rfl) ⟨g, 0, none⟩ n cap (spL n p) rfl ?c1 ?c2 ?c3 ?c4 ?c5 ?c6 ?_)
  case c1 => exact spL_len n p
  case c2 =>
    intro j u hj
    have hjl : j < n * 2 := by have := (List.getElem?_eq_some_iff.1 hj).1; rw [spL_len] at this; exact this
    rw [spL_at hjl] at hj
    cases hj
    rw [Addr.add_lit, Nat.zero_add]
    exact cell_alloc HR.out.lt (HR.out.cell hjl)
  case c3 =>
    intro u hu
    obtain ⟨i, _, rfl⟩ := List.mem_map.1 hu
    rfl
  case c4 => unfold maxLen; omega
  case c5 => omega
  case c6 => simp
  intro v w1 hown hgrow hne
  have HB : Below w.heap.size w w1 := ((Below.refl _ _).alloc (Nat.le_refl _) _).grown hgrow (by simp) (fun k hk => by cases hk; exact Nat.le_refl _)
  clear hgrow
  go_wp2
  go_ret
  exact ⟨_, rfl, hne, hown, HB⟩
/-- A slice of the call's own, with these spots. -/
def SpOwn (w : World) (base : Nat) (v : Value) (n : Nat) (p : Ps) : Prop :=
  (v = .slice none 0 0 ∧ n = 0) ∨ ∃ g cap f, v = .slice (some ⟨g, 0, none⟩) n cap ∧ base ≤ g ∧ n ≤ cap ∧ cap ≤ maxLen ∧ w.rowIs g 55 (cap * 2) f ∧ ∀ i, i < n * 2 → f i = .int .i64 (spW p i)
theorem SpOwn.of {w : World} {base : Nat} {v : Value} {n : Nat} {p : Ps} (h : w.ownsRow base 55 2 v n (spL n p)) : SpOwn w base v n p := by
  rcases h.2 with ⟨h1, h2⟩ | ⟨g, cap, cur, h1, h2, h3, h4, h5, h6, h7⟩
  · exact .inl ⟨h1, h2⟩
  · refine .inr ⟨g, cap, fun i => cur.getD i undef, h1, h2, h4, h5, ⟨cur, h3, by omega, fun i hi => ?_⟩, fun i hi => ?_⟩
    · simp [Array.getD_eq_getD_getElem?, show i < cur.size by omega]
    · have e : (cur.toList.take (n * 2))[i]? = (spL n p)[i]? := by rw [h7]
      rw [List.getElem?_take_of_lt hi, spL_at hi] at e
      simp only [Array.getElem?_toList] at e
      show cur.getD i undef = _
      rw [Array.getD_eq_getD_getElem?, e]
      rfl
/-- The first spot, then the others from the last one back. -/
def turnP (n : Nat) (p : Ps) : Ps := fun k => if k = 0 then p 0 else p (n - k)
/-- So far: turned at both ends. -/
def revP (n : Nat) (p : Ps) (i : Nat) : Ps := fun k => if k = 0 then p 0 else if k < 1 + i ∨ n - 1 < k + i then p (n - k) else p k
theorem revP_zero {n : Nat} (p : Ps) {k : Nat} (hk : k < n) : revP n p 0 k = p k := by
  unfold revP
  split
  · subst k; rfl
  · rw [if_neg (by omega)]
theorem revP_end {n i : Nat} (p : Ps) (hi : n - 2 ≤ i + i) {k : Nat} (hk : k < n) : revP n p i k = turnP n p k := by
  unfold revP turnP
  split
  · rfl
  · split
    · rfl
    · rw [show n - k = k by omega]
theorem spW_congr {p q : Ps} {n : Nat} (h : ∀ k, k < n → p k = q k) {i : Nat} (hi : i < n * 2) : spW p i = spW q i := by
  unfold spW
  rw [h (i / 2) (by omega)]
theorem revP_step {n i j : Nat} (p : Ps) (h : i + j + 2 = n) (hij : i < j) (f : Nat → Value) (hf : ∀ k, k < n * 2 → f k = .int .i64 (spW (revP n p i) k)) {k : Nat} (hk : k < n * 2) :
    (if k = 2 + j * 2 + 1 then .int .i64 (spW (revP n p i) (2 + i * 2 + 1)) else if k = 2 + j * 2 then .int .i64 (spW (revP n p i) (2 + i * 2)) else if k = 2 + i * 2 + 1 then .int .i64 (spW (revP n p i) (2 + j * 2 + 1)) else if k = 2 + i * 2 then .int .i64 (spW (revP n p i) (2 + j * 2)) else f k) = Value.int .i64 (spW (revP n p (i + 1)) k) := by
  have e1 : ∀ q : Ps, spW q (2 + i * 2) = (q (1 + i)).1 := fun q => by rw [show 2 + i * 2 = (1 + i) * 2 by omega]; exact spW0 q _
  have e2 : ∀ q : Ps, spW q (2 + i * 2 + 1) = (q (1 + i)).2 := fun q => by rw [show 2 + i * 2 + 1 = (1 + i) * 2 + 1 by omega]; exact spW1 q _
  have e3 : ∀ q : Ps, spW q (2 + j * 2) = (q (1 + j)).1 := fun q => by rw [show 2 + j * 2 = (1 + j) * 2 by omega]; exact spW0 q _
  have e4 : ∀ q : Ps, spW q (2 + j * 2 + 1) = (q (1 + j)).2 := fun q => by rw [show 2 + j * 2 + 1 = (1 + j) * 2 + 1 by omega]; exact spW1 q _
  have a1 : revP n p i (1 + i) = p (1 + i) := by unfold revP; rw [if_neg (by omega), if_neg (by omega)]
  have a2 : revP n p i (1 + j) = p (1 + j) := by unfold revP; rw [if_neg (by omega), if_neg (by omega)]
  have b1 : revP n p (i + 1) (1 + i) = p (1 + j) := by unfold revP; rw [if_neg (by omega), if_pos (by omega), show n - (1 + i) = 1 + j by omega]
  have b2 : revP n p (i + 1) (1 + j) = p (1 + i) := by unfold revP; rw [if_neg (by omega), if_pos (by omega), show n - (1 + j) = 1 + i by omega]
  by_cases c1 : k = 2 + j * 2 + 1
  · rw [if_pos c1, c1, e4, e2, a1, b2]
  rw [if_neg c1]
  by_cases c2 : k = 2 + j * 2
  · rw [if_pos c2, c2, e3, e1, a1, b2]
  rw [if_neg c2]
  by_cases c3 : k = 2 + i * 2 + 1
  · rw [if_pos c3, c3, e4, e2, a2, b1]
  rw [if_neg c3]
  by_cases c4 : k = 2 + i * 2
  · rw [if_pos c4, c4, e3, e1, a2, b1]
  rw [if_neg c4, hf k hk]
  have : revP n p i (k / 2) = revP n p (i + 1) (k / 2) := by
    unfold revP
    split
    · rfl
    · by_cases d : k / 2 < 1 + i ∨ n - 1 < k / 2 + i
      · rw [if_pos d, if_pos (by omega)]
      · rw [if_neg d, if_neg (by omega)]
  unfold spW
  rw [this]
end Go.Proofs.Ytmjlgmoohpnhfaa

/- Rows of segments: how they lie, and the walks over them. -/
namespace Go.Proofs.Ytmjlgmoohpnhfaa
open Go.RowKit
/-- n segments lie behind a slice's address, their numbers by x. -/
def SegIn (w : World) (ao : Option Addr) (n : Nat) (x : Nat → Int) : Prop :=
  ∀ i, i < n → ∃ A off, ao = some ⟨A, off, none⟩ ∧ A < w.heap.size ∧ ∀ j, j < 4 → w.cell? ⟨A, off + i * 4 + j, none⟩ = some (.int .i64 (x (i * 4 + j)))
theorem SegIn.step {w w' : World} {ao : Option Addr} {n : Nat} {x : Nat → Int} (h : SegIn w ao n x) (hB : Below w.heap.size w w') : SegIn w' ao n x := fun i hi => by
  obtain ⟨A, off, e, hA, hc⟩ := h i hi
  exact ⟨A, off, e, Nat.lt_of_lt_of_le hA hB.size, fun j hj => (hB.cell (p := ⟨A, off + i * 4 + j, none⟩) hA).trans (hc j hj)⟩
theorem SegIn.drew {w : World} {ao : Option Addr} {n : Nat} {x : Nat → Int} (h : SegIn w ao n x) : SegIn w.drew ao n x := h
end Go.Proofs.Ytmjlgmoohpnhfaa

/- Rows of segments: copied and held against one another; the law of what is at fault in them. -/
namespace Go.Proofs.Ytmjlgmoohpnhfaa
open Go.RowKit
theorem row_step {w w' : World} {g n : Nat} {T : TypeId} {f : Nat → Value} (h : w.rowIs g T n f) (hB : Below w.heap.size w w') : w'.rowIs g T n f := h.of_block (hB.block g h.lt)
end Go.Proofs.Ytmjlgmoohpnhfaa

/- Rows of segments: the law of what is at fault in them. -/
namespace Go.Proofs.Ytmjlgmoohpnhfaa
open Go.RowKit
end Go.Proofs.Ytmjlgmoohpnhfaa

/- Rows of numbers: how they lie; copied, held against one another. -/
namespace Go.Proofs.Ytmjlgmoohpnhfaa
open Go.RowKit
/-- n numbers lie behind a slice's address. -/
def NoIn (w : World) (ao : Option Addr) (n : Nat) (x : Nat → Int) : Prop :=
  ∀ i, i < n → ∃ A off, ao = some ⟨A, off, none⟩ ∧ A < w.heap.size ∧ w.cell? ⟨A, off + i, none⟩ = some (.int .i64 (x i))
theorem NoIn.step {w w' : World} {ao : Option Addr} {n : Nat} {x : Nat → Int} (h : NoIn w ao n x) (hB : Below w.heap.size w w') : NoIn w' ao n x := fun i hi => by
  obtain ⟨A, off, e, hA, hc⟩ := h i hi
  exact ⟨A, off, e, Nat.lt_of_lt_of_le hA hB.size, (hB.cell (p := ⟨A, off + i, none⟩) hA).trans hc⟩
end Go.Proofs.Ytmjlgmoohpnhfaa

/- Answers that own their rows of numbers: held against one another, marked, held again; a row of segments marked. -/
namespace Go.Proofs.Ytmjlgmoohpnhfaa
open Go.RowKit
/-- A slice of the call's own, with these numbers. -/
def NoOwn (w : World) (base : Nat) (v : Value) (L : List Int) : Prop :=
  (v = .slice none 0 0 ∧ L = []) ∨ ∃ g cap f, v = .slice (some ⟨g, 0, none⟩) L.length cap ∧ base ≤ g ∧ L.length ≤ cap ∧ w.rowIs g 2 cap f ∧ ∀ i, i < L.length → f i = .int .i64 (L.getD i 0)
theorem NoOwn.step {w w' : World} {base : Nat} {v : Value} {L : List Int} (h : NoOwn w base v L) (hB : Below w.heap.size w w') : NoOwn w' base v L := by
  rcases h with h | ⟨g, cap, f, h1, h2, h3, h4, h5⟩
  · exact .inl h
  · exact .inr ⟨g, cap, f, h1, h2, h3, row_step h4 hB, h5⟩
theorem NoOwn.of {w : World} {base : Nat} {v : Value} {L : List Int} (h : w.ownsRow base 2 1 v L.length (L.map (Value.int .i64))) : NoOwn w base v L := by
  rcases h.2 with ⟨h1, h2⟩ | ⟨g, cap, cur, h1, h2, h3, h4, h5, h6, h7⟩
  · exact .inl ⟨h1, List.length_eq_zero_iff.1 h2⟩
  · refine .inr ⟨g, cap, fun i => cur.getD i undef, h1, h2, h4, ⟨cur, h3, by omega, fun i hi => ?_⟩, fun i hi => ?_⟩
    · simp [Array.getD_eq_getD_getElem?, show i < cur.size by omega]
    · have e : (cur.toList.take (L.length * 1))[i]? = (L.map (Value.int .i64))[i]? := by rw [h7]
      rw [List.getElem?_take_of_lt (by omega), List.getElem?_map, List.getElem?_eq_getElem hi] at e
      simp only [Array.getElem?_toList, Option.map_some] at e
      show cur.getD i undef = _
      rw [Array.getD_eq_getD_getElem?, e]
      simp [List.getD_eq_getElem?_getD, hi]
/-- The slice's own parts, and that its numbers lie there. -/
theorem NoOwn.in {w : World} {base : Nat} {v : Value} {L : List Int} (h : NoOwn w base v L) : ∃ ao cap, v = .slice ao L.length cap ∧ NoIn w ao L.length (fun i => L.getD i 0) := by
  rcases h with ⟨h1, h2⟩ | ⟨g, cap, f, h1, h2, h3, h4, h5⟩
  · subst h2
    exact ⟨none, 0, h1, fun i hi => by simp at hi⟩
  · exact ⟨some ⟨g, 0, none⟩, cap, h1, fun i hi => ⟨g, 0, rfl, h4.lt, by rw [Nat.zero_add, h4.cell (by omega), h5 i hi]⟩⟩
/-- No block has turned but one of those that a base leaves free. -/
def OtherB (h : Option Nat) (w w' : World) : Prop :=
  (∀ g, some g ≠ h → g < w.heap.size → w'.heap[g]? = w.heap[g]?) ∧ w.heap.size ≤ w'.heap.size ∧ ∀ w0 : World, (∀ g, h = some g → w0.heap.size ≤ g) → Below w0.heap.size w0 w → Below w0.heap.size w0 w'
theorem OtherB.row {h : Option Nat} {w w' : World} (k : OtherB h w w') {g n : Nat} {T : TypeId} {f : Nat → Value} (hne : some g ≠ h) (r : w.rowIs g T n f) : w'.rowIs g T n f := r.of_block (k.1 g hne r.lt)
theorem OtherB.own {h : Option Nat} {w w' : World} (k : OtherB h w w') {base : Nat} {v : Value} {L : List Int} (r : NoOwn w base v L) (hne : ∀ g, v.ownBlock = some g → some g ≠ h) : NoOwn w' base v L := by
  rcases r with r | ⟨g, cap, f, h1, h2, h3, h4, h5⟩
  · exact .inl r
  · exact .inr ⟨g, cap, f, h1, h2, h3, k.row (hne g (by subst h1; rfl)) h4, h5⟩
theorem OtherB.blk {h : Option Nat} {w w' : World} (k : OtherB h w w') {g : Nat} {vs : List Value} (hne : some g ≠ h) (r : Blk w g vs) : Blk w' g vs := by
  refine ⟨Nat.lt_of_lt_of_le r.lt k.2.1, fun i v hi => ⟨?_, ?_⟩⟩
  · have := r.c i hi
    unfold World.cell? at this ⊢
    simp only [k.1 g hne r.lt]
    exact this
  · have := r.f i hi
    unfold World.frozen? at this ⊢
    simp only [k.1 g hne r.lt]
    exact this
theorem OtherB.refl (h : Option Nat) (w : World) : OtherB h w w := ⟨fun _ _ _ => rfl, Nat.le_refl _, fun _ _ H => H⟩
theorem OtherB.set {h : Nat} {w w' : World} (k : OtherB (some h) w w') (i : Nat) (v : Value) : OtherB (some h) w (w'.setCell ⟨h, i, none⟩ v) := by
  refine ⟨fun g hne hg => ?_, by simpa [World.setCell] using k.2.1, fun w0 hb H => (k.2.2 w0 hb H).setCell (by exact hb h rfl) _⟩
  rw [Below.heap_setCell _ _ _ _ (fun e => hne (congrArg some e))]
  exact k.1 g hne hg
theorem OtherB.step {h : Option Nat} {w w' w'' : World} (k : OtherB h w w') (hB : Below w'.heap.size w' w'') : OtherB h w w'' :=
  ⟨fun g hne hg => (hB.block g (Nat.lt_of_lt_of_le hg k.2.1)).trans (k.1 g hne hg), Nat.le_trans k.2.1 hB.size, fun w0 hb H => (k.2.2 w0 hb H).trans (hB.mono (k.2.2 w0 hb H).size)⟩
end Go.Proofs.Ytmjlgmoohpnhfaa

/- Rings that are turned: the program's reversal. -/
namespace Go.Proofs.Ytmjlgmoohpnhfaa
open Go.RowKit
theorem OtherB.drew {h : Option Nat} {w w' : World} (k : OtherB h w w') : OtherB h w w'.drew := ⟨k.1, k.2.1, fun w0 hb H => (k.2.2 w0 hb H).drew⟩
set_option maxRecDepth 100000 in
set_option maxHeartbeats 4000000 in
theorem reverse_any (g n cap : Nat) (p : Ps) (f : Nat → Value) (hn3 : 3 ≤ n) (hn : n ≤ 1048576) (hcap : n ≤ cap) (w : World) (R : w.rowIs g 55 (cap * 2) f) (hf : ∀ k, k < n * 2 → f k = .int .i64 (spW p k)) :
    Calls Try.prog 83 #[.slice (some ⟨g, 2, none⟩) (n - 1) (cap - 1)] w (fun e w' => e = .returned (.tuple #[]) ∧ (∃ f', w'.rowIs g 55 (cap * 2) f' ∧ ∀ k, k < n * 2 → f' k = .int .i64 (spW (turnP n p) k)) ∧ OtherB (some g) w w') := by
  obtain ⟨m, rfl⟩ : ∃ m, n = m + 3 := ⟨n - 3, by omega⟩
  have HR : Hid (w.rowIs g 55 (cap * 2) f ∧ ∀ k, k < (m + 3) * 2 → f k = .int .i64 (spW p k)) := ⟨R, hf⟩
  clear R hf
  rw [show m + 3 - 1 = m + 2 by omega]
  have hmI : (m : Int) + 2 ≤ 1048576 := by omega
  go_enter Try.func83, Try.ntmps83
  go_wp2_with fail
  go_loopw [2, 3] (fun a b wr => ∃ i j : Nat, a = .int .i64 i ∧ b = .int .i64 j ∧ i + j = m + 1 ∧ i ≤ j + 1 ∧ (∃ f', wr.rowIs g 55 (cap * 2) f' ∧ ∀ k, k < (m + 3) * 2 → f' k = .int .i64 (spW (revP (m + 3) p i) k)) ∧ OtherB (some g) w wr) (fun a b _ => (intOf b + 2 - intOf a).toNat)
  case atStart => exact ⟨0, m + 1, rfl, by go_num, by omega, by omega, ⟨f, HR.out.1, fun k hk => by rw [HR.out.2 k hk, spW_congr (fun i hi => (revP_zero p hi).symm) hk]⟩, OtherB.refl _ _⟩
  case round =>
    obtain ⟨i, j, rfl, rfl, hij, hle, ⟨f', R, hf'⟩, K⟩ := hrel
    by_cases hlt : i < j
    · have hltI : (i : Int) < j := by omega
      have x0 := R.cell (i := 2 + i * 2) (by omega); have x1 := R.cell (i := 2 + i * 2 + 1) (by omega)
      have y0 := R.cell (i := 2 + j * 2) (by omega); have y1 := R.cell (i := 2 + j * 2 + 1) (by omega)
      rw [hf' _ (by omega)] at x0 x1 y0 y1
      have xf0 := R.frozen (2 + i * 2); have xf1 := R.frozen (2 + i * 2 + 1); have yf0 := R.frozen (2 + j * 2); have yf1 := R.frozen (2 + j * 2 + 1)
      have HF : Hid (∀ k, k < (m + 3) * 2 → f' k = .int .i64 (spW (revP (m + 3) p i) k)) := hf'
      have HRR : Hid (wr.rowIs g 55 (cap * 2) f') := R
      have HKK : Hid (OtherB (some g) w wr) := K
      clear R K hf' HR
      have hb : i < m + 2 := by omega
      have hb2 : j < m + 2 := by omega
      go_upto_region 3 with fail
      go_region
      have RN := (((HRR.out.set (2 + i * 2) (.int .i64 (spW (revP (m + 3) p i) (2 + j * 2)))).set (2 + i * 2 + 1) (.int .i64 (spW (revP (m + 3) p i) (2 + j * 2 + 1)))).set (2 + j * 2) (.int .i64 (spW (revP (m + 3) p i) (2 + i * 2)))).set (2 + j * 2 + 1) (.int .i64 (spW (revP (m + 3) p i) (2 + i * 2 + 1)))
      have KN := ((((HKK.out.set (2 + i * 2) (.int .i64 (spW (revP (m + 3) p i) (2 + j * 2)))).set (2 + i * 2 + 1) (.int .i64 (spW (revP (m + 3) p i) (2 + j * 2 + 1)))).set (2 + j * 2) (.int .i64 (spW (revP (m + 3) p i) (2 + i * 2)))).set (2 + j * 2 + 1) (.int .i64 (spW (revP (m + 3) p i) (2 + i * 2 + 1)))).drew
      have RD : ∃ f', (((((wr.setCell ⟨g, 2 + i * 2, none⟩ (.int .i64 (spW (revP (m + 3) p i) (2 + j * 2)))).setCell ⟨g, 2 + i * 2 + 1, none⟩ (.int .i64 (spW (revP (m + 3) p i) (2 + j * 2 + 1)))).setCell ⟨g, 2 + j * 2, none⟩ (.int .i64 (spW (revP (m + 3) p i) (2 + i * 2)))).setCell ⟨g, 2 + j * 2 + 1, none⟩ (.int .i64 (spW (revP (m + 3) p i) (2 + i * 2 + 1)))).drew).rowIs g 55 (cap * 2) f' ∧ ∀ k, k < (m + 3) * 2 → f' k = .int .i64 (spW (revP (m + 3) p (i + 1)) k) := ⟨_, RN.drew, fun k hk => revP_step p (by omega) hlt f' HF.out hk⟩
      clear RN HF HRR HKK x0 x1 y0 y1 xf0 xf1 yf0 yf1
      revert KN RD
      generalize ((((wr.setCell ⟨g, 2 + i * 2, none⟩ (.int .i64 (spW (revP (m + 3) p i) (2 + j * 2)))).setCell ⟨g, 2 + i * 2 + 1, none⟩ (.int .i64 (spW (revP (m + 3) p i) (2 + j * 2 + 1)))).setCell ⟨g, 2 + j * 2, none⟩ (.int .i64 (spW (revP (m + 3) p i) (2 + i * 2)))).setCell ⟨g, 2 + j * 2 + 1, none⟩ (.int .i64 (spW (revP (m + 3) p i) (2 + i * 2 + 1)))) = W1
      intro KN RD
      have HKN : Hid (OtherB (some g) w W1.drew) := KN
      have HRD : Hid (∃ f', (W1.drew).rowIs g 55 (cap * 2) f' ∧ ∀ k, k < (m + 3) * 2 → f' k = .int .i64 (spW (revP (m + 3) p (i + 1)) k)) := RD
      clear KN RD
      go_wp2
      go_roundw
      case rel => exact ⟨i + 1, j - 1, by go_num, by congr 1; omega, by omega, by omega, HRD.out, HKN.out⟩
      case measure => simp [intOf]; omega
    · have hltI : ¬ ((i : Int) < j) := by omega
      have HF : Hid (∀ k, k < (m + 3) * 2 → f' k = .int .i64 (spW (turnP (m + 3) p) k)) := fun k hk => by rw [hf' k hk, spW_congr (fun t ht => revP_end p (by omega) ht) hk]
      clear hf'
      go_wp2
      go_end0
      exact ⟨rfl, ⟨f', R, HF.out⟩, K⟩
end Go.Proofs.Ytmjlgmoohpnhfaa

/- Rings that are turned: both sides' answers. -/
namespace Go.Proofs.Ytmjlgmoohpnhfaa
open Go.RowKit
/-- A ring of its own memory. -/
def RingP (n : Nat) (p : Ps) (w : World) (e : Ending) (w' : World) : Prop := ∃ v, e = .returned (.agg #[v]) ∧ SpOwn w' w.heap.size v n p ∧ Below w.heap.size w w'
theorem SpOwn.mono {w : World} {b b' : Nat} {v : Value} {n : Nat} {p : Ps} (h : SpOwn w b' v n p) (hb : b ≤ b') : SpOwn w b v n p := by
  rcases h with h | ⟨g, cap, f, h1, h2, h3⟩
  · exact .inl h
  · exact .inr ⟨g, cap, f, h1, by omega, h3⟩
set_option maxRecDepth 100000 in
set_option maxHeartbeats 2000000 in
theorem turned_any (g n cap : Nat) (p : Ps) (hn3 : 3 ≤ n) (hn : n ≤ 1048576) (w : World) (R : w.rowIs g 55 (n * 2) (fun i => .int .i64 (spW p i))) :
    Calls Try.prog 40 #[.agg #[.slice (some ⟨g, 0, none⟩) n cap]] w (RingP n (turnP n p) w) := by
  have C1 := fun w h => clone_any g n cap p hn w h
  go_enter Try.func40, Try.ntmps40
  go_wp2_with fail
  have HB0 : Below w.heap.size w ((w.alloc (.cells #[.slice (some ⟨g, 0, none⟩) n cap] 28)).alloc (.cells #[.slice none 0 0] 28)) := ((Below.refl _ _).alloc (Nat.le_refl _) _).alloc (by simp) _
  have BR : Blk ((w.alloc (.cells #[.slice (some ⟨g, 0, none⟩) n cap] 28)).alloc (.cells #[.slice none 0 0] 28)) (w.heap.size + 1) [.slice none 0 0] := Blk.new (w.alloc (.cells #[.slice (some ⟨g, 0, none⟩) n cap] 28)) [.slice none 0 0] 28 (by simp)
  have hz : ((w.alloc (.cells #[.slice (some ⟨g, 0, none⟩) n cap] 28)).alloc (.cells #[.slice none 0 0] 28)).heap.size = w.heap.size + 1 + 1 := by simp
  have R0 := rows_step R HB0
  revert HB0 BR hz R0
  generalize ((w.alloc (.cells #[.slice (some ⟨g, 0, none⟩) n cap] 28)).alloc (.cells #[.slice none 0 0] 28)) = W2
  intro HB0 BR hz R0
  refine (C1 _ R0).mono ?_
  rintro e w1 ⟨v, rfl, hne, hown, hB⟩
  replace HB0 := HB0.trans (hB.mono HB0.size)
  replace BR := BR.step hB
  clear R R0 C1 hB
  rcases SpOwn.of hown with ⟨h1, _⟩ | ⟨g', cap', f, rfl, hg', hc', hm', R, hf⟩
  · exact absurd h1 hne
  clear hown hne
  rw [hz] at hg'
  have C2 := reverse_any g' n cap' p f hn3 hn hc' w1 R hf
  have h1c : 1 ≤ cap' := by omega
  have hn1 : 1 ≤ n := by omega
  have hmm := hm'
  unfold maxLen at hmm
  clear R hf
  go_wp2_with fail
  refine C2.mono ?_
  rintro e w2 ⟨rfl, ⟨f', R, hf⟩, K⟩
  clear C2
  replace HB0 := K.2.2 w (fun k hk => by cases hk; omega) HB0
  replace BR := K.blk (fun e => by have := Option.some.inj e; omega) BR
  have HO : Hid (SpOwn w2 w.heap.size (.slice (some ⟨g', 0, none⟩) n cap') n (turnP n p)) := .inr ⟨g', cap', f', rfl, by omega, hc', hm', R, hf⟩
  have r0 := BR.c 0 rfl; have rf := BR.f 0 rfl; have rl := BR.lt
  clear R hf K BR
  go_wp2
  refine bodyPost_ret (v := .agg #[.slice (some ⟨g', 0, none⟩) n cap']) (by simp [results, Try.results40, go_sem, r0]) rfl ?_
  refine ⟨_, rfl, ?_, HB0.setCell (by simp) _⟩
  rcases HO.out with ⟨h, _⟩ | ⟨g2, c2, f2, h1, h2, h3, h4, R, h6⟩
  · cases h
  · cases h1
    exact .inr ⟨g', cap', f2, rfl, h2, h3, h4, R.setOther (by simp; omega) _, h6⟩
def tuN (n : Nat) (p : Ps) : Nat := if rgF n p = 0 then n else 0
theorem rgF_three {n : Nat} {p : Ps} (h : rgF n p = 0) : 3 ≤ n := by
  unfold rgF at h
  split at h
  · cases h
  · omega
theorem argsB_grown2 {w W W' : World} {vss : List (List Value)} {row : Option Nat} (h : ArgsB w W vss) (hl : w.heap.size + vss.length ≤ W.heap.size) (hg : W.grownBy W' row) (hr : ∀ k, row = some k → w.heap.size + vss.length ≤ k) : ArgsB w W' vss := by
  have hB : Below (w.heap.size + vss.length) W W' := (Below.refl _ W).grown hg hl hr
  refine ⟨h.1.trans (hB.mono (by omega)), fun j vs hj => (h.2 j vs hj).below hB ?_⟩
  have := (List.getElem?_eq_some_iff.1 hj).1
  omega
theorem spL_succ (c : Nat) (q : Ps) : spL (c + 1) q = spL c q ++ [.int .i64 (q c).1, .int .i64 (q c).2] := by
  unfold spL
  rw [show (c + 1) * 2 = c * 2 + 1 + 1 by omega, List.range_succ, List.range_succ]
  simp [spW0, spW1]
theorem one_cell2 (x y : Int) : ∀ u ∈ [Value.int .i64 x, Value.int .i64 y], u.oneCell' = true := by
  intro u hu
  simp only [List.mem_cons, List.not_mem_nil, or_false] at hu
  rcases hu with rfl | rfl <;> rfl
set_option maxRecDepth 100000 in
set_option maxHeartbeats 2000000 in
theorem specTurned_any (g n cap : Nat) (p : Ps) (hn : n ≤ 1048576) (w : World) (R : w.rowIs g 55 (n * 2) (fun i => .int .i64 (spW p i))) :
    Calls Try.prog 36 #[.agg #[.slice (some ⟨g, 0, none⟩) n cap]] w (RingP (tuN n p) (turnP n p) w) := by
  have C1 := fun w h => l5OkD_any (some ⟨g, 0, none⟩) n cap p hn w h
  have HB0 : Below w.heap.size w ((w.alloc (.cells #[.slice (some ⟨g, 0, none⟩) n cap] 28)).alloc (.cells #[.slice none 0 0] 28)) := ((Below.refl _ _).alloc (Nat.le_refl _) _).alloc (by simp) _
  have BA : Blk ((w.alloc (.cells #[.slice (some ⟨g, 0, none⟩) n cap] 28)).alloc (.cells #[.slice none 0 0] 28)) w.heap.size [.slice (some ⟨g, 0, none⟩) n cap] := (Blk.new w [.slice (some ⟨g, 0, none⟩) n cap] 28 rfl).alloc _
  have BR : Blk ((w.alloc (.cells #[.slice (some ⟨g, 0, none⟩) n cap] 28)).alloc (.cells #[.slice none 0 0] 28)) (w.heap.size + 1) [.slice none 0 0] := Blk.new (w.alloc (.cells #[.slice (some ⟨g, 0, none⟩) n cap] 28)) [.slice none 0 0] 28 (by simp)
  have hgl := R.lt
  have RW := R
  go_enter Try.func36, Try.ntmps36
  go_wp2_with fail
  replace R := rows_step R HB0
  revert HB0 BR BA R
  generalize ((w.alloc (.cells #[.slice (some ⟨g, 0, none⟩) n cap] 28)).alloc (.cells #[.slice none 0 0] 28)) = W2
  intro HB0 BA BR R
  refine (C1 _ (spIn_row R)).mono ?_
  rintro e w1 ⟨rfl, hB⟩
  replace HB0 := HB0.trans (hB.mono HB0.size)
  replace BR := BR.step hB
  replace BA := BA.step hB
  replace R := rows_step R hB
  clear hB C1
  by_cases h : rgF n p = 0
  · rw [decide_eq_true h]
    have HN : Hid (tuN n p = n) := by show _ = _; unfold tuN; rw [if_pos h]
    have h3 := rgF_three h
    obtain ⟨i0, hi, hz0, hz1, hz2⟩ := info_parts Try.infoSpot
    have a0 := BA.c 0 rfl
    have c0 := R.cell (i := 0) (by omega)
    have c1 := R.cell (i := 1) (by omega)
    have hnI : (n : Int) ≤ 1048576 := by omega
    have hn3I : (3 : Int) ≤ n := by omega
    have al : w.heap.size < w1.heap.size := BA.lt
    have bl : w.heap.size + 1 < w1.heap.size := BR.lt
    have T0 : ArgsB w w1 [[.slice (some ⟨g, 0, none⟩) n cap], [.slice none 0 0]] := ⟨HB0, fun j vs hj => by
      match j, hj with
      | 0, hj => cases hj; exact BA
      | 1, hj => cases hj; exact BR
      | j + 2, hj => simp at hj⟩
    have O1 : (w1.alloc (.cells #[.int .i64 (spW p 0), .int .i64 (spW p 1)] 55)).ownsRow (w.heap.size + 2) 55 2 (.slice (some ⟨w1.heap.size, 0, none⟩) 1 1) 1 (spL 1 (turnP n p)) := by
      refine ⟨by rw [spL_len], .inr ⟨w1.heap.size, 1, #[.int .i64 (spW p 0), .int .i64 (spW p 1)], rfl, by omega, Array.getElem?_push_size, by omega, by decide, rfl, ?_⟩⟩
      simp [spL, turnP, spW, List.range_succ]
    have HRW : Hid (w.rowIs g 55 (n * 2) (fun i => .int .i64 (spW p i))) := RW
    clear h BA BR R HB0
    go_wp2_with fail
    go_loopw [3, 4] (fun o i wr => ∃ c k : Nat, 1 ≤ c ∧ c + k = n ∧ i = .int .i64 (k : Int) ∧ wr.ownsRow (w.heap.size + 2) 55 2 o c (spL c (turnP n p)) ∧ ArgsB w wr [[.slice (some ⟨g, 0, none⟩) n cap], [.slice none 0 0]]) (fun _ i _ => (intOf i).toNat)
    case atStart => exact ⟨1, n - 1, by omega, by omega, by congr 1; omega, O1, T0.alloc _⟩
    case round =>
      clear O1 T0 a0 c0 c1 al bl
      obtain ⟨c, k, hc1, hck, rfl, hown, T0⟩ := hrel
      have HCK : Hid (c + k = n) := hck
      have HBw := T0.below
      have X0 : Blk _ w.heap.size _ := T0.b 0 rfl
      have X1 : Blk _ (w.heap.size + 1) _ := T0.b 1 rfl
      by_cases hlt : 0 < k
      · have R := rows_step HRW.out HBw
        have d0 := R.cell (i := k * 2) (by omega)
        have d1 := R.cell (i := k * 2 + 1) (by omega)
        rw [spW0] at d0
        rw [spW1] at d1
        have ht : turnP n p c = p k := by unfold turnP; rw [if_neg (by omega), show n - c = k by omega]
        have a0 := X0.c 0 rfl
        have hs2 : w.heap.size + 2 ≤ wr.heap.size := X1.lt
        have hgt : (0 : Int) < (k : Int) := by omega
        have hkn : k < n := by omega
        have hcb : c ≤ 1048576 := by omega
        have HT : Hid (turnP n p c = p k) := ht
        clear ht R X0 X1 hck RW
        revert d0 d1 HT
        generalize p k = xy
        intro d0 d1 HT
        go_wp2_with (at_builtin; refine wpList_append_own _ rfl _ _ 26 rfl (w.heap.size + 2) 55 i0 (.agg #[.int .i64 0, .int .i64 0]) 2 16 Try.underlying26 hi hz0 hz1 hz2 rfl (by decide) _ _ _ rfl (hown.alloc _) ⟨wr.heap.size, 0, none⟩ 1 1 [.int .i64 xy.1, .int .i64 xy.2] rfl rfl (cell_two_new _ _ _ _) (one_cell2 _ _) (by unfold maxLen; omega) (by omega) (by simp; omega) ?_)
        intro v' w3 hown2 hgrow2 hnn
        have R1 : w3.ownsRow (w.heap.size + 2) 55 2 v' (c + 1) (spL (c + 1) (turnP n p)) := by rw [spL_succ, HT.out]; exact hown2
        have T4 := argsB_grown2 (T0.alloc _) (by simp; omega) hgrow2 (fun j hj => (hown.lt j hj).1)
        clear hown2 hgrow2 hnn hown T0 d0 d1 a0 HT
        go_wp2
        go_roundw
        case rel => exact ⟨c + 1, k - 1, by omega, by have := HCK.out; omega, by congr 1; omega, R1, T4⟩
        case measure => simp [intOf]; omega
      · obtain rfl : k = 0 := by omega
        obtain rfl : c = n := by omega
        rcases SpOwn.of hown with ⟨_, h0⟩ | ⟨g', cap', f', rfl, hg', hc', hm', R, hf⟩
        · omega
        have HOO : Hid (wr.rowIs g' 55 (cap' * 2) f' ∧ ∀ i, i < c * 2 → f' i = .int .i64 (spW (turnP c p) i)) := ⟨R, hf⟩
        have r0 := X1.c 0 rfl; have rf := X1.f 0 rfl
        clear R hf X0 X1 T0 hown RW HRW
        go_wp2
        refine bodyPost_ret (v := .agg #[.slice (some ⟨g', 0, none⟩) c cap']) (by simp [results, Try.results36, go_sem, r0]) rfl ?_
        rw [HN.out]
        exact ⟨_, rfl, .inr ⟨g', cap', f', rfl, by omega, hc', hm', HOO.out.1.setOther (by simp; omega) _, HOO.out.2⟩, HBw.setCell (by simp) _⟩
  · rw [decide_eq_false h]
    have HN : Hid (tuN n p = 0) := by show _ = _; unfold tuN; rw [if_neg h]
    have r0 := BR.c 0 rfl; have rf := BR.f 0 rfl
    clear h R BA BR
    go_wp2
    refine bodyPost_ret (v := .agg #[.slice none 0 0]) (by simp [results, Try.results36, go_sem, r0]) rfl ?_
    rw [HN.out]
    exact ⟨_, rfl, .inl ⟨rfl, rfl⟩, HB0.setCell (by simp) _⟩
end Go.Proofs.Ytmjlgmoohpnhfaa

/- Areas of rings: the walks of both sides. -/
namespace Go.Proofs.Ytmjlgmoohpnhfaa
open Go.RowKit
theorem rgF_okA {n : Nat} {p : Ps} (h : rgF n p = 0) : 3 ≤ n ∧ n ≤ 12 ∧ (∀ i, i < n → spotOk (p i).1 (p i).2 = true) ∧ OneN n p := by
  unfold rgF at h
  by_cases h1 : n < 3
  · rw [if_pos h1] at h; omega
  rw [if_neg h1] at h
  by_cases h2 : 12 < n
  · rw [if_pos h2] at h; omega
  rw [if_neg h2] at h
  by_cases h3 : ∀ i, i < n → spotOk (p i).1 (p i).2 = true
  · rw [if_neg (fun hh => hh h3)] at h
    by_cases h4 : OneN n p
    · exact ⟨by omega, by omega, h3, h4⟩
    · rw [if_pos h4] at h; omega
  · rw [if_pos h3] at h; omega
/-- Twice the area of the first sides. -/
def arA (n : Nat) (p : Ps) : Nat → Int
  | 0 => 0
  | c + 1 => arA n p c + ((p c).1 * (p ((c + 1) % n)).2 - (p c).2 * (p ((c + 1) % n)).1)
theorem cross_bnd {a b x y : Int} (h1 : spotOk a b = true) (h2 : spotOk x y = true) : -1000000000000 ≤ a * y ∧ a * y ≤ 1000000000000 ∧ -1000000000000 ≤ b * x ∧ b * x ≤ 1000000000000 := by
  obtain ⟨⟨a1, a2⟩, b1, b2⟩ := in1_of h1
  obtain ⟨⟨x1, x2⟩, y1, y2⟩ := in1_of h2
  have e1 := mul_in (p := a) (q := y) (M := 1000000) (N := 1000000) a1 a2 y1 y2
  have e2 := mul_in (p := b) (q := x) (M := 1000000) (N := 1000000) b1 b2 x1 x2
  omega
theorem arA_bnd {n : Nat} {p : Ps} (hok : ∀ i, i < n → spotOk (p i).1 (p i).2 = true) : ∀ c, c ≤ n → -(c * 2000000000000 : Int) ≤ arA n p c ∧ arA n p c ≤ c * 2000000000000
  | 0, _ => by simp [arA]
  | c + 1, h => by
    have ih := arA_bnd hok c (by omega)
    have hb := cross_bnd (hok c (by omega)) (hok ((c + 1) % n) (Nat.mod_lt _ (by omega)))
    rw [arA]
    omega
set_option maxRecDepth 100000 in
set_option maxHeartbeats 4000000 in
theorem area2_any (ao : Option Addr) (n cap : Nat) (p : Ps) (hn : n ≤ 12) (hok : ∀ i, i < n → spotOk (p i).1 (p i).2 = true) (w : World) (hS : SpIn w ao n p) : Calls Try.prog 39 #[.agg #[.slice ao n cap]] w (VP (.int .i64 (arA n p n)) w) := by
  have B0 := Blk.new w [.slice ao n cap] 28 rfl
  have HB0 : Below w.heap.size w (w.alloc (.cells #[.slice ao n cap] 28)) := (Below.refl _ w).alloc (Nat.le_refl _) _
  have hmI : (n : Int) ≤ 12 := by omega
  have HS : Hid (SpIn (w.alloc (.cells #[.slice ao n cap] 28)) ao n p) := hS.step HB0
  clear hS
  go_enter Try.func39, Try.ntmps39
  have b0 := B0.c 0 rfl
  go_wp2_with fail
  generalize (w.alloc (.cells #[.slice ao n cap] 28)) = W1 at *
  go_loopw [3, 9] (fun o i wr => ∃ (c : Nat) (t : Int), c ≤ n ∧ i = .int .i64 c ∧ o = .int .i64 t ∧ Hid (t = arA n p c) ∧ Below W1.heap.size W1 wr) (fun _ i _ => n - (intOf i).toNat)
  case atStart => exact ⟨0, 0, by omega, rfl, rfl, rfl, Below.refl _ _⟩
  case round =>
    obtain ⟨c, t, hc, rfl, rfl, HT, HB⟩ := hrel
    clear b0
    by_cases hcn : c < n
    · obtain ⟨A, off, rfl, hA, q0, q1⟩ := HS.out.step HB c hcn
      have hcI : (c : Int) < n := by omega
      have hm : ((c + 1) % n) < n := Nat.mod_lt _ (by omega)
      have SA := fun w h => spotAfter_any (some ⟨A, off, none⟩) n cap p c hcn (by omega) w h
      obtain ⟨x1, x2⟩ := in1_of (hok c hcn)
      obtain ⟨y1, y2⟩ := in1_of (hok _ hm)
      have CR := cross_det (p c).1 (p c).2 (p ((c + 1) % n)).1 (p ((c + 1) % n)).2 (by omega) (by omega) (by omega) (by omega)
      have hcb := cross_bnd (hok c hcn) (hok _ hm)
      have hab := arA_bnd hok c (by omega)
      have hs : arA n p (c + 1) = arA n p c + ((p c).1 * (p ((c + 1) % n)).2 - (p c).2 * (p ((c + 1) % n)).1) := rfl
      have HNX : Hid (t + ((p c).1 * (p ((c + 1) % n)).2 - (p c).2 * (p ((c + 1) % n)).1) = arA n p (c + 1)) := by show _ = _; rw [hs, HT.out]
      have hwr : IntKind.i64.wrap (t + ((p c).1 * (p ((c + 1) % n)).2 - (p c).2 * (p ((c + 1) % n)).1)) = t + ((p c).1 * (p ((c + 1) % n)).2 - (p c).2 * (p ((c + 1) % n)).1) := by
        rw [IntKind.wrap_i64]
        have := HT.out
        omega
      clear hs hcb hab x1 x2 y1 y2
      replace B0 := B0.step HB
      have hB1 := (Below.refl wr.heap.size wr).alloc (Nat.le_refl _) (.cells #[.int .i64 (p c).1, .int .i64 (p c).2] 55)
      have HBA := HB.alloc HB.size (.cells #[.int .i64 (p c).1, .int .i64 (p c).2] 55)
      have Bs := Blk.new wr [.int .i64 (p c).1, .int .i64 (p c).2] 55 rfl
      replace B0 := B0.step hB1
      have HSA := (HS.out.step HB).step hB1
      clear hB1 HB
      go_upto_region 5 with fail
      generalize wr.alloc (.cells #[.int .i64 (p c).1, .int .i64 (p c).2] 55) = W2 at *
      have H0 : Below W2.heap.size W2 W2 := Below.refl _ _
      have HK : ∀ V, Below W2.heap.size W2 V → (fun w' : World => w'.cell? ⟨w.heap.size, 0, none⟩ = some (.slice (some ⟨A, off, none⟩) n cap) ∧ w'.cell? ⟨wr.heap.size, 0, none⟩ = some (.int .i64 (p c).1) ∧ w'.cell? ⟨wr.heap.size, 1, none⟩ = some (.int .i64 (p c).2)) V := fun V h => ⟨(B0.step h).c 0 rfl, (Bs.step h).c 0 rfl, (Bs.step h).c 1 rfl⟩
      generalize (p c).1 * (p ((c + 1) % n)).2 - (p c).2 * (p ((c + 1) % n)).1 = cr at *
      go_region_held3 (fun w' : World => w'.cell? ⟨w.heap.size, 0, none⟩ = some (.slice (some ⟨A, off, none⟩) n cap) ∧ w'.cell? ⟨wr.heap.size, 0, none⟩ = some (.int .i64 (p c).1) ∧ w'.cell? ⟨wr.heap.size, 1, none⟩ = some (.int .i64 (p c).2)) (refine HK _ ?_ <;> repeat (first | (with_reducible exact H0) | (with_reducible refine Below.drew ?_)))
        (first
          | (go_at_call 81; refine (SA _ (HSA.step (by first | (with_reducible exact H0) | (with_reducible exact H0.drew)))).mono ?_; rintro e v1 ⟨rfl, hB⟩; (first | (have Hn : Below W2.heap.size W2 v1 := (by with_reducible exact H0.trans (hB.mono H0.size))) | (have Hn : Below W2.heap.size W2 v1 := (by with_reducible exact H0.drew.trans (hB.mono H0.drew.size)))); clear hB H0; have H0 := Hn; clear Hn)
          | (go_at_call 80; refine (CR _).mono ?_; rintro e v2 ⟨rfl, hB⟩; (first | (have Hn : Below W2.heap.size W2 v2 := (by with_reducible exact H0.trans (hB.mono H0.size))) | (have Hn : Below W2.heap.size W2 v2 := (by with_reducible exact H0.drew.trans (hB.mono H0.drew.size)))); clear hB H0; have H0 := Hn; clear Hn))
      all_goals have HBN := HBA.trans (H0.mono HBA.size)
      all_goals clear HK H0 SA CR B0 Bs HSA HBA hA q0 q1
      all_goals go_wp2
      all_goals go_roundw
      case rel => exact ⟨c + 1, _, by omega, by go_num, rfl, HNX, by first | exact HBN | exact HBN.drew⟩
      case measure => simp [intOf]; omega
    · obtain rfl : n = c := by omega
      have HBF := HB0.trans (HB.mono HB0.size)
      clear HS B0
      go_wp2
      go_ret
      exact ⟨by rw [← HT.out]; rfl, HBF⟩
set_option maxRecDepth 100000 in
set_option maxHeartbeats 4000000 in
theorem l5Area2_any (ao : Option Addr) (n cap : Nat) (p : Ps) (hn : n ≤ 12) (hok : ∀ i, i < n → spotOk (p i).1 (p i).2 = true) (w : World) (hS : SpIn w ao n p) : Calls Try.prog 35 #[.agg #[.slice ao n cap]] w (VP (.int .i64 (arA n p n)) w) := by
  have B0 := Blk.new w [.slice ao n cap] 28 rfl
  have HB0 : Below w.heap.size w (w.alloc (.cells #[.slice ao n cap] 28)) := (Below.refl _ w).alloc (Nat.le_refl _) _
  have hmI : (n : Int) ≤ 12 := by omega
  have HS : Hid (SpIn (w.alloc (.cells #[.slice ao n cap] 28)) ao n p) := hS.step HB0
  clear hS
  go_enter Try.func35, Try.ntmps35
  go_wp2_with fail
  generalize (w.alloc (.cells #[.slice ao n cap] 28)) = W1 at *
  go_loopw [3, 4] (fun o i wr => ∃ (c : Nat) (t : Int), c ≤ n ∧ i = .int .i64 c ∧ o = .int .i64 t ∧ Hid (t = arA n p c) ∧ Below W1.heap.size W1 wr) (fun _ i _ => n - (intOf i).toNat)
  case atStart => exact ⟨0, 0, by omega, rfl, rfl, rfl, Below.refl _ _⟩
  case round =>
    obtain ⟨c, t, hc, rfl, rfl, HT, HB⟩ := hrel
    by_cases hcn : c < n
    · have hm : ((c + 1) % n) < n := Nat.mod_lt _ (by omega)
      obtain ⟨A, off, rfl, hA, q0, q1⟩ := HS.out.step HB c hcn
      obtain ⟨A', off', hao, -, m0, m1⟩ := HS.out.step HB _ hm
      obtain ⟨rfl, rfl⟩ : A = A' ∧ off = off' := by simpa using hao
      have hcI : (c : Int) < n := by omega
      have hcb := cross_bnd (hok c hcn) (hok _ hm)
      have hab := arA_bnd hok c (by omega)
      have hs : arA n p (c + 1) = arA n p c + ((p c).1 * (p ((c + 1) % n)).2 - (p c).2 * (p ((c + 1) % n)).1) := rfl
      have hrem : ((c : Int) + 1).tmod (n : Int) = ((((c + 1) % n) : Nat) : Int) := by
        rw [Int.tmod_eq_emod_of_nonneg (by omega), Int.natCast_emod]
        rfl
      have hadd : IntKind.i64.wrap ((c : Int) + 1) = (c : Int) + 1 := by rw [IntKind.wrap_i64]; omega
      have hmI2 : ((((c + 1) % n) : Nat) : Int) < n := by omega
      have hl0 : ¬ ((n : Int) = 0) := by omega
      have hl1 : ¬ (n = 0) := by omega
      have b0 := (B0.step HB).c 0 rfl
      have HNX : Hid (t + (p c).1 * (p ((c + 1) % n)).2 - (p c).2 * (p ((c + 1) % n)).1 = arA n p (c + 1)) := by show _ = _; rw [hs, HT.out]; omega
      have k1 : IntKind.i64.wrap ((p c).1 * (p ((c + 1) % n)).2) = (p c).1 * (p ((c + 1) % n)).2 := by rw [IntKind.wrap_i64]; omega
      have k2 : IntKind.i64.wrap ((p c).2 * (p ((c + 1) % n)).1) = (p c).2 * (p ((c + 1) % n)).1 := by rw [IntKind.wrap_i64]; omega
      have k3 : IntKind.i64.wrap (t + (p c).1 * (p ((c + 1) % n)).2) = t + (p c).1 * (p ((c + 1) % n)).2 := by rw [IntKind.wrap_i64]; have := HT.out; omega
      have k4 : IntKind.i64.wrap (t + (p c).1 * (p ((c + 1) % n)).2 - (p c).2 * (p ((c + 1) % n)).1) = t + (p c).1 * (p ((c + 1) % n)).2 - (p c).2 * (p ((c + 1) % n)).1 := by rw [IntKind.wrap_i64]; have := HT.out; omega
      clear hcb hab hs hao
      have hB1 := (Below.refl wr.heap.size wr).alloc (Nat.le_refl _) (.cells #[.int .i64 (p c).1, .int .i64 (p c).2] 55)
      have Bs := Blk.new wr [.int .i64 (p c).1, .int .i64 (p c).2] 55 rfl
      have B2 := (B0.step HB).step hB1
      have HBA := HB.alloc HB.size (.cells #[.int .i64 (p c).1, .int .i64 (p c).2] 55)
      have n0 := (hB1.cell (p := ⟨A, _, none⟩) hA).trans m0
      have n1 := (hB1.cell (p := ⟨A, _, none⟩) hA).trans m1
      have hA2 := Nat.lt_of_lt_of_le hA hB1.size
      clear HB m0 m1
      go_upto_region 6 with fail
      have hsz2 : (wr.alloc (.cells #[.int .i64 (p c).1, .int .i64 (p c).2] 55)).heap.size = wr.heap.size + 1 := by simp
      generalize wr.alloc (.cells #[.int .i64 (p c).1, .int .i64 (p c).2] 55) = W2 at *
      have H0 : Below W2.heap.size W2 W2 := Below.refl _ _
      have HK : ∀ V, Below W2.heap.size W2 V → (fun w' : World => w'.cell? ⟨w.heap.size, 0, none⟩ = some (.slice (some ⟨A, off, none⟩) n cap) ∧ w'.cell? ⟨A, off + ((c + 1) % n) * 2, none⟩ = some (.int .i64 (p ((c + 1) % n)).1) ∧ w'.cell? ⟨A, off + ((c + 1) % n) * 2 + 1, none⟩ = some (.int .i64 (p ((c + 1) % n)).2)) V := fun V h => ⟨(B2.step h).c 0 rfl, (h.cell (p := ⟨A, _, none⟩) hA2).trans n0, (h.cell (p := ⟨A, _, none⟩) hA2).trans n1⟩
      generalize ((c + 1) % n) = e' at *
      clear n0 n1 q0 q1 hA b0 hm
      go_region_held3 (fun w' : World => w'.cell? ⟨w.heap.size, 0, none⟩ = some (.slice (some ⟨A, off, none⟩) n cap) ∧ w'.cell? ⟨A, off + e' * 2, none⟩ = some (.int .i64 (p e').1) ∧ w'.cell? ⟨A, off + e' * 2 + 1, none⟩ = some (.int .i64 (p e').2)) (refine HK _ ?_ <;> repeat (first | (with_reducible exact H0) | (with_reducible refine Below.drew ?_) | (with_reducible refine Below.alloc ?_ (by simp) _) | (with_reducible refine Below.setCell ?_ (by first | exact Nat.le_refl _ | simp) _))) (fail)
      all_goals have hB2 : Below W2.heap.size W2 (W2.alloc (.cells #[.int .i64 (p e').1, .int .i64 (p e').2] 55)).drew := ((Below.refl _ _).alloc (Nat.le_refl _) _).drew
      all_goals have B3 : Blk (W2.alloc (.cells #[.int .i64 (p e').1, .int .i64 (p e').2] 55)).drew (wr.heap.size + 1) [.int .i64 (p e').1, .int .i64 (p e').2] := (Blk.new W2 [.int .i64 (p e').1, .int .i64 (p e').2] 55 (g := wr.heap.size + 1) hsz2.symm).drew
      all_goals have B4 := Bs.step hB2
      all_goals have HBN := HBA.trans (hB2.mono HBA.size)
      all_goals have c0 := B4.c 0 rfl; have c1 := B4.c 1 rfl; have d0 := B3.c 0 rfl; have d1 := B3.c 1 rfl
      all_goals clear HK H0 B2 Bs HBA hB2 B3 B4
      all_goals generalize (W2.alloc (.cells #[.int .i64 (p e').1, .int .i64 (p e').2] 55)).drew = W3 at *
      all_goals go_wp2
      all_goals go_roundw
      case rel => exact ⟨c + 1, _, by omega, by go_num, rfl, HNX, HBN⟩
      case measure => simp [intOf]; omega
    · obtain rfl : n = c := by omega
      have HBF := HB0.trans (HB.mono HB0.size)
      have b0 := (B0.step HB).c 0 rfl
      clear HS B0
      go_wp2
      go_ret
      exact ⟨by rw [← HT.out]; rfl, HBF⟩
end Go.Proofs.Ytmjlgmoohpnhfaa

/- Areas of rings: both sides, and the law. -/
namespace Go.Proofs.Ytmjlgmoohpnhfaa
open Go.RowKit
end Go.Proofs.Ytmjlgmoohpnhfaa

/- A ring's form: its least spot first: the reckoning. -/
namespace Go.Proofs.Ytmjlgmoohpnhfaa
open Go.RowKit
/-- The number of the least of the first c + 1 spots, of several the first. -/
def lsI (q : Ps) : Nat → Nat
  | 0 => 0
  | c + 1 => if lessI (q (c + 1)).1 (q (c + 1)).2 (q (lsI q c)).1 (q (lsI q c)).2 = true then c + 1 else lsI q c
theorem lsI_le (q : Ps) (c : Nat) : lsI q c ≤ c := by
  induction c with
  | zero => exact Nat.le_refl _
  | succ c ih => unfold lsI; split <;> omega
/-- The ring with its area above nought. -/
def upP (n : Nat) (p : Ps) : Ps := if arA n p n < 0 then turnP n p else p
/-- A ring's form. -/
def fmP (n : Nat) (p : Ps) : Ps := fun k => upP n p ((lsI (upP n p) (n - 1) + k) % n)
/-- The spots from one on, then those ahead of it. -/
theorem fm_parts {n l : Nat} (q : Ps) (hl : l < n) {k : Nat} (hk : k < n) : q ((l + k) % n) = if k < n - l then q (l + k) else q (k - (n - l)) := by
  by_cases h : k < n - l
  · rw [if_pos h, Nat.mod_eq_of_lt (by omega)]
  · rw [if_neg h, Nat.mod_eq_sub_mod (by omega), Nat.mod_eq_of_lt (by omega)]
    congr 1
    omega
end Go.Proofs.Ytmjlgmoohpnhfaa

/- slices.Grow of the nil slice, and slices.Concat of two parts of a row of spots. -/
namespace Go.Proofs.Ytmjlgmoohpnhfaa
open Go.RowKit
theorem Try.infoSpotF : (Try.prog.info? 55).map (fun i => (i.zero, i.size, i.bytes)) = some (some (.agg #[.int .i64 0, .int .i64 0]), 2, 16) := by kernel_rfl
set_option maxRecDepth 100000 in
set_option maxHeartbeats 2000000 in
theorem growS_any (n : Nat) (h0 : 0 < n) (hn : n ≤ 1000) (w : World) : Calls Try.prog 84 #[.slice none 0 0, .int .i64 n] w (fun e w' => ∃ v, e = .returned v ∧ w'.ownsRow w.heap.size 55 2 v 0 [] ∧ Below w.heap.size w w') := by
  obtain ⟨i0, hi, hz0, hz1, hz2⟩ := info_parts Try.infoSpotF
  have h1 : ¬ ((n : Int) < 0) := by omega
  have h4 : (n : Int) > 0 := by omega
  have hrz : ∀ ty, (Builtin.append_ #[26, 3] ty #[.slice none 0 0, .int .i64 n]).run Try.prog w = .ok (.slice (some ⟨w.heap.size, 0, none⟩) n (grownCap w n 0 55)) (w.drew.alloc (.cells (Builtin.zeroCells (Value.agg #[.int .i64 0, .int .i64 0]).cells n ++ Builtin.zeroCells (Value.agg #[.int .i64 0, .int .i64 0]).cells (grownCap w n 0 55 - n)) 55)) := fun ty => Lib.run_append_nil_zeros w 26 3 ty 55 i0 _ .i64 .i64 Try.underlying26 Try.underlying3 hi hz0 n h0 (by omega) (by omega) (by rw [hz2]; omega)
  have hGn : n ≤ grownCap w n 0 55 := grownCap_ge w _ _ _
  have hG63 := grownCap_le_maxLen w n 0 55 (by unfold maxLen; omega)
  generalize grownCap w n 0 55 = G at *
  have hG : G ≤ 9223372036854775807 := by unfold maxLen at hG63; omega
  obtain ⟨C, hC, hCs⟩ : ∃ C, Builtin.zeroCells (Value.agg #[.int .i64 0, .int .i64 0]).cells n ++ Builtin.zeroCells (Value.agg #[.int .i64 0, .int .i64 0]).cells (G - n) = C ∧ C.size = G * 2 := by
    refine ⟨_, rfl, ?_⟩
    rw [Array.size_append, size_zeroCells, size_zeroCells, show (Value.agg #[Value.int .i64 0, Value.int .i64 0]).cells.size = 2 from rfl]
    omega
  rw [hC] at hrz
  have hO : (w.drew.alloc (.cells C 55)).ownsRow w.heap.size 55 2 (.slice (some ⟨w.heap.size, 0, none⟩) 0 G) 0 [] := World.ownsRow_made (base := w.heap.size) w.drew C G (Nat.le_refl _) hG63 hCs
  have hB : Below w.heap.size w (w.drew.alloc (.cells C 55)) := (Below.refl _ w).drew.alloc (Nat.le_refl _) _
  clear hC hCs
  clear hG63
  go_enter Try.func84, Try.ntmps84
  go_wp2_with (at_builtin; refine Lib.wpList_append_run _ rfl _ _ _ _ rfl _ _ rfl rfl _ _ (hrz _) ?_)
  go_ret
  exact ⟨_, rfl, hO, hB⟩
/-- The cells of m spots from number l on. -/
def spF (l m : Nat) (q : Ps) : List Value := spL m (fun k => q (l + k))
theorem spF_cell {w : World} {g n l m : Nat} {q : Ps} (h : SpIn w (some ⟨g, 0, none⟩) n q) (hm : l + m ≤ n) : ∀ j u, (spF l m q)[j]? = some u → w.cell? ((⟨g, l * 2, none⟩ : Addr).add j) = some u := by
  intro j u hj
  have hl : j < m * 2 := by
    have := (List.getElem?_eq_some_iff.1 hj).1
    unfold spF at this
    rwa [spL_len] at this
  unfold spF at hj
  rw [spL_at hl] at hj
  cases hj
  obtain ⟨A, off, e, hA, h1, h2⟩ := h (l + j / 2) (by omega)
  cases e
  have ha : (⟨g, l * 2, none⟩ : Addr).add j = ⟨g, l * 2 + j, none⟩ := by unfold Addr.add; split <;> simp_all
  rw [ha]
  rcases (show j % 2 = 0 ∨ j % 2 = 1 by omega) with h0 | h0
  · obtain ⟨i, rfl⟩ : ∃ i, j = i * 2 := ⟨j / 2, by omega⟩
    rw [show i * 2 / 2 = i by omega, Nat.zero_add] at h1
    rw [show l * 2 + i * 2 = (l + i) * 2 by omega, h1, spW0]
  · obtain ⟨i, rfl⟩ : ∃ i, j = i * 2 + 1 := ⟨j / 2, by omega⟩
    rw [show (i * 2 + 1) / 2 = i by omega, Nat.zero_add] at h2
    rw [show l * 2 + (i * 2 + 1) = (l + i) * 2 + 1 by omega, h2, spW1]
theorem spF_one (l m : Nat) (q : Ps) : ∀ u ∈ spF l m q, u.oneCell' = true := by
  intro u hu
  unfold spF spL at hu
  rw [List.mem_map] at hu
  obtain ⟨i, _, rfl⟩ := hu
  rfl
theorem spF_len (l m : Nat) (q : Ps) : (spF l m q).length = m * 2 := spL_len _ _
set_option maxRecDepth 100000 in
set_option maxHeartbeats 4000000 in
theorem concat_any (AS g n l c1 c2 : Nat) (q : Ps) (hl : l < n) (hn : n ≤ 12) (w : World) (A : Blk w AS [.slice (some ⟨g, l * 2, none⟩) (n - l) c1, .slice (some ⟨g, 0, none⟩) l c2]) (S : SpIn w (some ⟨g, 0, none⟩) n q) :
    Calls Try.prog 42 #[.slice (some ⟨AS, 0, none⟩) 2 2] w (fun e w' => ∃ v, e = .returned v ∧ w'.ownsRow w.heap.size 55 2 v n (spF l (n - l) q ++ spF 0 l q) ∧ Below w.heap.size w w') := by
  obtain ⟨i0, hi, hz0, hz1, hz2⟩ := info_parts Try.infoSpotF
  have HS : Hid (SpIn w (some ⟨g, 0, none⟩) n q) := S
  clear S
  obtain ⟨a0, a1⟩ := A.cs2
  go_enter Try.func42, Try.ntmps42
  go_wp2_with fail
  go_loopw [3, 11] (fun o i wr => ∃ k : Nat, k ≤ 2 ∧ i = .int .i64 k ∧ o = .int .i64 (if k = 0 then 0 else if k = 1 then ((n - l : Nat) : Int) else n) ∧ w = wr) (fun _ i _ => 2 - (intOf i).toNat)
  case atStart => exact ⟨0, by omega, rfl, rfl, rfl⟩
  case round =>
    obtain ⟨k, hk, rfl, rfl, rfl⟩ := hrel
    by_cases hk2 : k < 2
    · rcases (by omega : k = 0 ∨ k = 1) with rfl | rfl
      · have w1 : IntKind.i64.wrap (0 + ((n - l : Nat) : Int)) = ((n - l : Nat) : Int) := by rw [IntKind.wrap_i64]; omega
        have p1 : ¬ (((n - l : Nat) : Int) < 0) := by omega
        go_wp2
        go_roundw
        case rel => exact ⟨1, by omega, rfl, by simp, by first | rfl | trivial⟩
        case measure => simp [intOf]
      · have w1 : IntKind.i64.wrap (((n - l : Nat) : Int) + (l : Int)) = (n : Int) := by rw [IntKind.wrap_i64]; omega
        have p1 : ¬ ((n : Int) < 0) := by omega
        go_wp2
        go_roundw
        case rel => exact ⟨2, by omega, rfl, by simp, by first | rfl | trivial⟩
        case measure => simp [intOf]
    · obtain rfl : k = 2 := by omega
      clear a0 a1
      go_wp2_with fail
      refine (growS_any n (by omega) (by omega) _).mono ?_
      rintro e w2 ⟨v, rfl, O, hB⟩
      go_wp2_with fail
      go_loopw [6, 27] (fun o i wr => ∃ k : Nat, k ≤ 2 ∧ i = .int .i64 k ∧ wr.ownsRow w.heap.size 55 2 o (if k = 0 then 0 else if k = 1 then n - l else n) (if k = 0 then [] else if k = 1 then spF l (n - l) q else spF l (n - l) q ++ spF 0 l q) ∧ Below w.heap.size w wr) (fun _ i _ => 2 - (intOf i).toNat)
      case atStart => exact ⟨0, by omega, rfl, O, hB⟩
      case round =>
        clear O hB
        obtain ⟨k, hk, rfl, hown, HB⟩ := hrel
        have A2 := A.below HB (show AS < w.heap.size from A.lt)
        obtain ⟨a0, a1⟩ := A2.cs2
        clear A2
        by_cases hk2 : k < 2
        · rcases (by omega : k = 0 ∨ k = 1) with rfl | rfl
          · change wr.ownsRow w.heap.size 55 2 u6 0 [] at hown
            go_wp2_with (at_builtin; refine wpList_append_own _ rfl _ _ 26 rfl w.heap.size 55 i0 (.agg #[.int .i64 0, .int .i64 0]) 2 16 Try.underlying26 hi hz0 hz1 hz2 rfl (by decide) _ _ _ rfl hown ⟨g, l * 2, none⟩ (n - l) c1 (spF l (n - l) q) rfl (spF_len _ _ _) (spF_cell (HS.out.step HB) (by omega)) (spF_one _ _ _) (by unfold maxLen; omega) (by omega) HB.size ?_)
            intro v' w3 hown2 hgrow hnn
            replace HB := HB.trans ((Below.refl w.heap.size wr).grown hgrow HB.size (fun j hj => (hown.lt j hj).1))
            have O2 : w3.ownsRow w.heap.size 55 2 v' (n - l) (spF l (n - l) q) := by simpa using hown2
            clear hown hown2 hgrow hnn a0 a1
            go_wp2
            go_roundw
            case rel => exact ⟨1, by omega, rfl, O2, HB⟩
            case measure => simp [intOf]
          · change wr.ownsRow w.heap.size 55 2 u6 (n - l) (spF l (n - l) q) at hown
            go_wp2_with (at_builtin; refine wpList_append_own _ rfl _ _ 26 rfl w.heap.size 55 i0 (.agg #[.int .i64 0, .int .i64 0]) 2 16 Try.underlying26 hi hz0 hz1 hz2 rfl (by decide) _ _ _ rfl hown ⟨g, 0, none⟩ l c2 (spF 0 l q) rfl (spF_len _ _ _) (by have := spF_cell (l := 0) (m := l) (HS.out.step HB) (by omega); rwa [Nat.zero_mul] at this) (spF_one _ _ _) (by unfold maxLen; omega) (by omega) HB.size ?_)
            intro v' w3 hown2 hgrow hnn
            replace HB := HB.trans ((Below.refl w.heap.size wr).grown hgrow HB.size (fun j hj => (hown.lt j hj).1))
            have O2 : w3.ownsRow w.heap.size 55 2 v' (n) (spF l (n - l) q ++ spF 0 l q) := by rw [show n - l + l = n by omega] at hown2; exact hown2
            clear hown hown2 hgrow hnn a0 a1
            go_wp2
            go_roundw
            case rel => exact ⟨2, by omega, rfl, O2, HB⟩
            case measure => simp [intOf]
        · obtain rfl : k = 2 := by omega
          change wr.ownsRow w.heap.size 55 2 u6 n (spF l (n - l) q ++ spF 0 l q) at hown
          clear a0 a1
          have HO : Hid (wr.ownsRow w.heap.size 55 2 u6 n (spF l (n - l) q ++ spF 0 l q)) := hown
          clear hown
          go_wp2
          go_ret
          exact ⟨_, rfl, HO.out, HB⟩
/-- The two parts, one behind the other, are the row that begins at number l. -/
theorem spF_rot {n l : Nat} (q : Ps) (hl : l < n) : spF l (n - l) q ++ spF 0 l q = spL n (fun k => q ((l + k) % n)) := by
  apply List.ext_getElem?
  intro j
  by_cases hj : j < n * 2
  · rw [spL_at hj]
    by_cases h1 : j < (n - l) * 2
    · rw [List.getElem?_append_left (by rw [spF_len]; exact h1)]
      unfold spF
      rw [spL_at h1]
      unfold spW; dsimp only
      rw [fm_parts q hl (show j / 2 < n by omega), if_pos (show j / 2 < n - l by omega)]
    · rw [List.getElem?_append_right (by rw [spF_len]; omega), spF_len]
      unfold spF
      rw [spL_at (by omega)]
      unfold spW; dsimp only
      rw [fm_parts q hl (show j / 2 < n by omega), if_neg (show ¬ j / 2 < n - l by omega), show (j - (n - l) * 2) % 2 = j % 2 by omega, show (j - (n - l) * 2) / 2 = j / 2 - (n - l) by omega]
      simp
  · rw [List.getElem?_eq_none (by rw [List.length_append, spF_len, spF_len]; omega), List.getElem?_eq_none (by rw [spL_len]; omega)]
end Go.Proofs.Ytmjlgmoohpnhfaa

/- Operations that are guarded, in a region that is taken by a condition. -/
namespace Go.Proofs.Ytmjlgmoohpnhfaa
variable {P : Program} {ops : Array Oper} {Q : Exit → Act → World → Prop}
end Go.Proofs.Ytmjlgmoohpnhfaa

/- A region that draws its order, by what each slot holds once its operation has come up: the general form. -/
namespace Go.Proofs.Ytmjlgmoohpnhfaa
open Go.RowKit
variable {P : Program} {ops : Array Oper}
/-- No slot is written by two operations. -/
def distS : List (Option Nat) → Bool
  | [] => true
  | none :: r => distS r
  | some d :: r => !(r.contains (some d)) && distS r
theorem distS_inj : ∀ (S : List (Option Nat)) (i j d : Nat), distS S = true → S[i]? = some (some d) → S[j]? = some (some d) → i = j
  | [], i, _, _, _, h, _ => by simp at h
  | o :: r, i, j, d, hd, hi, hj => by
    have hr : distS r = true := by
      cases o with
      | none => exact hd
      | some d' => simp only [distS, Bool.and_eq_true] at hd; exact hd.2
    have hno : ∀ k, o = some d → r[k]? = some (some d) → False := fun k ho hk => by
      subst ho
      simp only [distS, Bool.and_eq_true, Bool.not_eq_true'] at hd
      have hm : some d ∈ r := List.mem_of_getElem? hk
      rw [← List.contains_iff_mem, hd.1] at hm
      cases hm
    match i, j with
    | 0, 0 => rfl
    | 0, j + 1 => exact (hno j (by simpa using hi) (by simpa using hj)).elim
    | i + 1, 0 => exact (hno i (by simpa using hj) (by simpa using hi)).elim
    | i + 1, j + 1 => exact congrArg (· + 1) (distS_inj r i j d hr (by simpa using hi) (by simpa using hj))
/-- What every operation keeps. -/
def InvQ (B : Nat) (S : List (Option Nat)) (V : Nat → Value → World → Prop) (w0 : World) (a0 : Act) (l : Array Bool) (a : Act) (W : World) : Prop :=
  l.size = S.length ∧ a.tmps.size = a0.tmps.size ∧ a.defers = a0.defers ∧ (∀ e, some e ∉ S → a.tmps[e]? = a0.tmps[e]?) ∧ Below B w0 W ∧ (∀ j d, l.getD j false = true → S[j]? = some (some d) → V j (a.tmps.getD d undef) W) ∧ (∀ j, l.getD j false = true → S[j]? = some none → V j undef W)
theorem getD_set_q {l : Array Bool} {i j : Nat} (h : (l.setIfInBounds i true).getD j false = true) (hne : j ≠ i) : l.getD j false = true := by
  rw [getD_set_ne false (Ne.symm hne)] at h
  exact h
theorem InvQ.put {B : Nat} {S : List (Option Nat)} {V : Nat → Value → World → Prop} {w0 : World} {a0 : Act} {l : Array Bool} {a : Act} {W W' : World} (h : InvQ B S V w0 a0 l a W) (hS : distS S = true) (i d : Nat) (hi : S[i]? = some (some d)) (hlt : d < a0.tmps.size)
    (hW : Below B w0 W') (hT : ∀ j v, V j v W → V j v W') (v : Value) (hv : V i v W') : InvQ B S V w0 a0 (l.setIfInBounds i true) (a.put (some d) v) W' := by
  obtain ⟨h1, h2, h3, h4, h5, h6, h7⟩ := h
  refine ⟨by simpa using h1, by simpa [Act.put] using h2, h3, fun e he => ?_, hW, fun j d' hj hd' => ?_, fun j hj hn => ?_⟩
  · have hne : d ≠ e := fun hh => he (hh ▸ List.mem_of_getElem? hi)
    simp only [Act.put]
    rw [Array.getElem?_setIfInBounds_ne hne]
    exact h4 e he
  · by_cases hji : j = i
    · subst hji
      rw [hi] at hd'
      cases hd'
      rw [put_getD_same (by omega)]
      exact hv
    · have hne : d ≠ d' := fun hh => hji (distS_inj S j i d hS (hh ▸ hd') hi)
      rw [put_getD_ne hne]
      exact hT _ _ (h6 j d' (getD_set_q hj hji) hd')
  · have hji : j ≠ i := fun hh => by subst hh; rw [hi] at hn; cases hn
    exact hT _ _ (h7 j (getD_set_q hj hji) hn)
theorem InvQ.world {B : Nat} {S : List (Option Nat)} {V : Nat → Value → World → Prop} {w0 : World} {a0 : Act} {l : Array Bool} {a : Act} {W W' : World} (h : InvQ B S V w0 a0 l a W) (i : Nat) (hi : S[i]? = some none)
    (hW : Below B w0 W') (hT : ∀ j v, V j v W → V j v W') (hv : V i undef W') : InvQ B S V w0 a0 (l.setIfInBounds i true) a W' := by
  obtain ⟨h1, h2, h3, h4, h5, h6, h7⟩ := h
  refine ⟨by simpa using h1, h2, h3, h4, hW, fun j d hj hd => ?_, fun j hj hn => ?_⟩
  · have hji : j ≠ i := fun hh => by subst hh; rw [hi] at hd; cases hd
    exact hT _ _ (h6 j d (getD_set_q hj hji) hd)
  · by_cases hji : j = i
    · subst hji; exact hv
    · exact hT _ _ (h7 j (getD_set_q hj hji) hn)
theorem wp_region_q {Q : Exit → Act → World → Prop} {id : Nat} {a0 : Act} {w0 : World} (hm : P.follows .mixedOrders = true) (B : Nat) (S : List (Option Nat)) (V : Nat → Value → World → Prop) (hSz : ops.size = S.length)
    (hs : ∀ (Q : Exit → Act → World → Prop) l a W i o, InvQ B S V w0 a0 l a W → l.getD i true = false → ops[i]? = some o → (∀ e ∈ o.after, Region.binds .any e = true → l.getD e.on false = true) → wpOp P ops Q i (InvQ B S V w0 a0 (l.setIfInBounds i true)) a W)
    (hd : ∀ l a W, InvQ B S V w0 a0 l a W → Region.ready .any ops l = [] → Q .normal a W) : (Code.region id ops true).wp P Q a0 w0 := by
  refine wp_region_inv hm (InvQ B S V w0 a0) ⟨by simpa using hSz, rfl, rfl, fun _ _ => rfl, (Below.refl _ w0).drew, fun j d hj => ?_, fun j hj => ?_⟩ (hs Q) hd
  all_goals
    exfalso
    rw [Array.getD_eq_getD_getElem?, Array.getElem?_replicate] at hj
    split at hj <;> simp at hj
/-- A block of so many cells. -/
def BlkN (W : World) (g n : Nat) : Prop := ∃ vs : List Value, vs.length = n ∧ Blk W g vs
theorem BlkN.step {W W' : World} {g n : Nat} (h : BlkN W g n) (hB : Below W.heap.size W W') : BlkN W' g n := by
  obtain ⟨vs, h1, h2⟩ := h
  exact ⟨vs, h1, h2.step hB⟩
theorem Blk.setA {W : World} {g : Nat} {vs : List Value} (h : Blk W g vs) (j : Nat) (u : Value) : Blk (W.setCell ⟨g, j, none⟩ u) g (vs.set j u) := by
  rcases Nat.lt_or_ge j vs.length with hj | hj
  · exact h.setI j hj u
  · refine ⟨by simpa [World.setCell] using h.1, fun i v hi => ?_⟩
    rw [List.set_eq_of_length_le hj] at hi
    have hne : i ≠ j := fun e => by
      subst e
      rw [List.getElem?_eq_none hj] at hi
      cases hi
    exact ⟨(World.cell?_setCell_other _ _ _ _ (by simp)).trans (h.c i hi), by simp [go_sem, h.f i hi]⟩
theorem BlkN.set {W : World} {g n : Nat} (h : BlkN W g n) (g' j : Nat) (u : Value) : BlkN (W.setCell ⟨g', j, none⟩ u) g n := by
  obtain ⟨vs, h1, h2⟩ := h
  by_cases hg : g = g'
  · subst hg
    exact ⟨vs.set j u, by simpa using h1, h2.setA j u⟩
  · exact ⟨vs, h1, h2.setO (p := ⟨g', j, none⟩) hg u⟩
end Go.Proofs.Ytmjlgmoohpnhfaa
