/- Part 9 of the walks that the proof leans on. -/
import Derived.Test.YteakhlipmmfilaaGreatLt8
import Derived.Test.YteakhlipmmfilaaGreatLt6
import Derived.Laws.AppendOwn
import Derived.OwnWalkIn
import Derived.RangeFuncBox
import Derived.Test.YteakhlipmmfilaaGreatLt3
import Derived.Deep.OwnRows
import Derived.WalkSmall
import Derived.Test.YteakhlipmmfilaaGreatLt4
import Derived.Test.YteakhlipmmfilaaGreatLt1
import Derived.OrdersIn
import Derived.TacticsIn
import Derived.RangeFuncCalls
import Derived.Sort.CutIn
/- What is at fault in a ring: the model's walk. -/
namespace Go.Proofs.YteakhlipmmfilaaGreat
open Go.RowKit
set_option maxRecDepth 100000 in
set_option maxHeartbeats 200000000 in
theorem specRingFault_any (ao : Option Addr) (n cap : Nat) (p : Ps) (hn : n ≤ 1048576) (w : World) (hS : SpIn w ao n p) : Calls Tryz.prog 116 #[.agg #[.slice ao n cap]] w (VP (.int .i64 (rgF n p)) w) := by
  have B0 := Blk.new w [.slice ao n cap] 57 rfl
  have HB0 : Below w.heap.size w (w.alloc (.cells #[.slice ao n cap] 57)) := (Below.refl _ w).alloc (Nat.le_refl _) _
  have HS0 := hS.step HB0
  have b0 := B0.c 0 rfl
  have hnI : (n : Int) ≤ 1048576 := by omega
  clear hS
  go_enter Tryz.func116, Tryz.ntmps116
  go_upto_region 1 with fail
  generalize (w.alloc (.cells #[.slice ao n cap] 57)) = W1 at *
  by_cases h1 : n < 3
  · have HO : Hid (rgF n p = 1) := by show _ = _; unfold rgF; rw [if_pos h1]
    have h1I : (n : Int) < 3 := by omega
    clear HS0 B0
    go_wp2
    go_ret
    exact ⟨by rw [HO.out]; rfl, HB0⟩
  by_cases h2 : 12 < n
  · have HO : Hid (rgF n p = 2) := by show _ = _; unfold rgF; rw [if_neg h1, if_pos h2]
    have h1I : (3 : Int) ≤ n := by omega
    have h2I : (12 : Int) < n := by omega
    clear HS0 B0
    go_wp2
    go_ret
    exact ⟨by rw [HO.out]; rfl, HB0⟩
  have h1I : (3 : Int) ≤ n := by omega
  have h2I : (n : Int) ≤ 12 := by omega
  have HS : Hid (SpIn W1 ao n p) := HS0
  clear HS0
  go_wp2_with fail
  clear b0
  go_loopw [4] (fun i wr => ∃ c : Nat, c ≤ n ∧ i = .int .i64 c ∧ (∀ j, j < c → spotOk (p j).1 (p j).2 = true) ∧ Below W1.heap.size W1 wr) (fun i _ => n - (intOf i).toNat)
  case atStart => exact ⟨0, by omega, rfl, fun j hj => by omega, Below.refl _ _⟩
  case round =>
    obtain ⟨c, hc, rfl, hall, HB⟩ := hrel
    have HA : Hid (∀ j, j < c → spotOk (p j).1 (p j).2 = true) := hall
    clear hall
    by_cases hcn : c < n
    · obtain ⟨A, off, rfl, hA, q0, q1⟩ := HS.out.step HB c hcn
      have hcI : (c : Int) < n := by omega
      have b0 := (B0.step HB).c 0 rfl
      go_wp2_with fail
      refine (specSpotOk_any (p c).1 (p c).2 _ rfl _).mono ?_
      rintro e w1 ⟨rfl, hB⟩
      replace HB := HB.trans (hB.mono HB.size)
      clear hB q0 q1 hA b0
      by_cases hk : spotOk (p c).1 (p c).2 = true
      · rw [hk]
        have HK : Hid (spotOk (p c).1 (p c).2 = true) := hk
        clear hk
        go_wp2
        go_roundw
        case rel => exact ⟨c + 1, by omega, by go_num, fun j hj => by
          rcases Nat.lt_or_ge j c with h | h
          · exact HA.out j h
          · obtain rfl : j = c := by omega
            exact HK.out, HB⟩
        case measure => simp [intOf]; omega
      · have HO : Hid (rgF n p = 3) := by show _ = _; unfold rgF; rw [if_neg h1, if_neg h2, if_pos (fun h => hk (h c hcn))]
        rw [Bool.eq_false_iff.2 hk]
        have HBF := HB0.trans (HB.mono HB0.size)
        clear hk
        go_wp2
        go_ret
        exact ⟨by rw [HO.out]; rfl, HBF⟩
    · obtain rfl : n = c := by omega
      have HB1 := HB0.trans (HB.mono HB0.size)
      have HS1 : Hid (SpIn wr ao n p) := HS.out.step HB
      have B1 := B0.step HB
      clear HS B0 HB
      go_wp2_with fail
      generalize wr = W2 at *
      go_loopw [5] (fun i wr => ∃ c : Nat, c ≤ n ∧ i = .int .i64 c ∧ (∀ j, j < c → ∀ k, k < j → p j ≠ p k) ∧ Below W2.heap.size W2 wr) (fun i _ => n - (intOf i).toNat)
      case atStart => exact ⟨0, by omega, rfl, fun j hj => by omega, Below.refl _ _⟩
      case round =>
        rename_i hrel
        obtain ⟨c, hc, rfl, hall, HB⟩ := hrel
        have HC : Hid (∀ j, j < c → ∀ k, k < j → p j ≠ p k) := hall
        clear hall
        by_cases hcn : c < n
        · have hcI : (c : Int) < n := by omega
          have HSo : Hid (SpIn wr ao n p) := HS1.out.step HB
          have HB4 := HB1.trans (HB.mono HB1.size)
          have B3 := B1.step HB
          have HBo := HB
          clear HB
          go_wp2_with fail
          generalize wr = W4 at *
          go_loopw [6] (fun i wr => ∃ d : Nat, d ≤ c ∧ i = .int .i64 d ∧ (∀ k, k < d → p c ≠ p k) ∧ Below W4.heap.size W4 wr) (fun i _ => c - (intOf i).toNat)
          case atStart => exact ⟨0, by omega, rfl, fun j hj => by omega, Below.refl _ _⟩
          case round =>
            rename_i hrel
            obtain ⟨d, hd, rfl, hall, HB⟩ := hrel
            have HE : Hid (∀ k, k < d → p c ≠ p k) := hall
            clear hall
            by_cases hdn : d < c
            · have hdI : (d : Int) < c := by omega
              have hdI2 : (d : Int) < n := by omega
              obtain ⟨A, off, rfl, hA, q0, q1⟩ := HSo.out.step HB c hcn
              obtain ⟨A', off', hao, -, m0, m1⟩ := HSo.out.step HB d (by omega)
              obtain ⟨rfl, rfl⟩ : A = A' ∧ off = off' := by simpa using hao
              have b0 := (B3.step HB).c 0 rfl
              have EQ := eqSp2 (p c).1 (p c).2 (p d).1 (p d).2
              have KS : (fun w' : World => w'.cell? ⟨w.heap.size, 0, none⟩ = some (.slice (some ⟨A, off, none⟩) n cap) ∧ w'.cell? ⟨A, off + c * 2, none⟩ = some (.int .i64 (p c).1) ∧ w'.cell? ⟨A, off + c * 2 + 1, none⟩ = some (.int .i64 (p c).2) ∧ w'.cell? ⟨A, off + d * 2, none⟩ = some (.int .i64 (p d).1) ∧ w'.cell? ⟨A, off + d * 2 + 1, none⟩ = some (.int .i64 (p d).2)) wr := ⟨b0, q0, q1, m0, m1⟩
              go_upto_region 17 with fail
              go_region_held3 (fun w' : World => w'.cell? ⟨w.heap.size, 0, none⟩ = some (.slice (some ⟨A, off, none⟩) n cap) ∧ w'.cell? ⟨A, off + c * 2, none⟩ = some (.int .i64 (p c).1) ∧ w'.cell? ⟨A, off + c * 2 + 1, none⟩ = some (.int .i64 (p c).2) ∧ w'.cell? ⟨A, off + d * 2, none⟩ = some (.int .i64 (p d).1) ∧ w'.cell? ⟨A, off + d * 2 + 1, none⟩ = some (.int .i64 (p d).2)) (exact KS) (fail)
              all_goals have HBD := HB.drew
              all_goals clear KS b0 q0 q1 m0 m1 EQ hao hA HB
              all_goals by_cases h : (p c).1 = (p d).1 ∧ (p c).2 = (p d).2
              all_goals first
                | (have HO : Hid (rgF n p = 4) := by
                     show _ = _
                     unfold rgF
                     rw [if_neg h1, if_neg h2, if_neg (fun hh => hh HA.out), if_pos (fun hh => hh c hcn d hdn (Prod.ext h.1 h.2))]
                   have d1 : (decide ((p c).1 = (p d).1) && decide ((p c).2 = (p d).2)) = true := by simp [h.1, h.2]
                   rw [d1]
                   have HBF := HB4.trans (HBD.mono HB4.size)
                   clear d1 h
                   go_wp2
                   go_ret
                   exact ⟨by rw [HO.out]; rfl, HBF⟩)
                | (have HH : Hid (p c ≠ p d) := fun e => h ⟨by rw [e], by rw [e]⟩
                   have d1 : (decide ((p c).1 = (p d).1) && decide ((p c).2 = (p d).2)) = false := by
                     rw [Bool.eq_false_iff]
                     intro hh
                     simp at hh
                     exact h hh
                   rw [d1]
                   clear d1 h
                   go_wp2
                   go_roundw)
              case rel => exact ⟨d + 1, by omega, by go_num, fun k hk => by
                rcases Nat.lt_or_ge k d with h | h
                · exact HE.out k h
                · obtain rfl : k = d := by omega
                  exact HH.out, HBD⟩
              case measure => simp [intOf]; omega
            · obtain rfl : c = d := by omega
              have HBF := HBo.trans (HB.mono HBo.size)
              clear HB HBo HB4 HSo B3
              go_wp2
              go_roundw
              case rel => exact ⟨c + 1, by omega, by go_num, fun j hj => by
                rcases Nat.lt_or_ge j c with h | h
                · exact HC.out j h
                · obtain rfl : j = c := by omega
                  exact HE.out, HBF⟩
              case measure => simp [intOf]; omega
        · obtain rfl : n = c := by omega
          have HB3 := HB1.trans (HB.mono HB1.size)
          have HS2 : Hid (SpIn wr ao n p) := HS1.out.step HB
          have B2 := B1.step HB
          clear HS1 B1 HB HB1
          go_wp2_with fail
          generalize wr = W3 at *
          go_loopw [7] (fun i wr => ∃ c : Nat, c ≤ n ∧ i = .int .i64 c ∧ (∀ j, j < c → ∀ k, k < j → bdB n p j k = false) ∧ Below W3.heap.size W3 wr) (fun i _ => n - (intOf i).toNat)
          case atStart => exact ⟨0, by omega, rfl, fun j hj => by omega, Below.refl _ _⟩
          case round =>
            rename_i hrel
            obtain ⟨c, hc, rfl, hall, HB⟩ := hrel
            have HD : Hid (∀ j, j < c → ∀ k, k < j → bdB n p j k = false) := hall
            clear hall
            by_cases hcn : c < n
            · have hcI : (c : Int) < n := by omega
              have HSo : Hid (SpIn wr ao n p) := HS2.out.step HB
              have HB4 := HB3.trans (HB.mono HB3.size)
              have B3 := B2.step HB
              have HBo := HB
              clear HB
              go_wp2_with fail
              generalize wr = W4 at *
              go_loopw [8] (fun i wr => ∃ d : Nat, d ≤ c ∧ i = .int .i64 d ∧ (∀ k, k < d → bdB n p c k = false) ∧ Below W4.heap.size W4 wr) (fun i _ => c - (intOf i).toNat)
              case atStart => exact ⟨0, by omega, rfl, fun j hj => by omega, Below.refl _ _⟩
              case round =>
                rename_i hrel
                obtain ⟨d, hd, rfl, hall, HB⟩ := hrel
                have HE : Hid (∀ k, k < d → bdB n p c k = false) := hall
                clear hall
                by_cases hdn : d < c
                · have hdI : (d : Int) < c := by omega
                  have HSr := HSo.out.step HB
                  have B4 := B3.step HB
                  obtain ⟨A, off, rfl, -, -, -⟩ := HSr c hcn
                  obtain ⟨i1, i2, i3, i4⟩ := in1_seg (side_ok HA.out HC.out (by omega) hcn)
                  obtain ⟨j1, j2, j3, j4⟩ := in1_seg (side_ok HA.out HC.out (by omega) (show d < n by omega))
                  have L1 := fun w h => l5Side_any (some ⟨A, off, none⟩) n cap p c hcn hn w h
                  have L2 := fun w h => l5Side_any (some ⟨A, off, none⟩) n cap p d (by omega) hn w h
                  have LM := l4Meet_any (sdA n p c).1 (sdA n p c).2.1 (sdA n p c).2.2.1 (sdA n p c).2.2.2 (sdA n p d).1 (sdA n p d).2.1 (sdA n p d).2.2.1 (sdA n p d).2.2.2 i1 i2 i3 i4 j1 j2 j3 j4
                  have hbs := bd_same HC.out (by omega) hcn hdn
                  have hkin : kdA n p c d = 0 ∨ kdA n p c d = 1 ∨ kdA n p c d = 2 := knd_in _ _ _ _ _ _ _ _
                  go_upto_region 25 with fail
                  go_cut [9] (fun m wx => m = .int .i64 (kdA n p c d) ∧ Below wr.heap.size wr wx)
                  case first =>
                    clear HE HD HB4 HSo HS2 HA HC hbs hkin L1 L2 LM
                    refine reg25 (c := c) (d := d) hcn (by omega) hn HSr i1 i2 i3 i4 j1 j2 j3 j4 (by have hz := HB3.size; have hz2 := HBo.size; first | exact B4.lt | omega) (B4.c 0 rfl) rfl rfl rfl rfl (by simp) (by simp) (by simp) (by simp) ?_
                    rintro ⟨tm, df⟩ Wz hz hdf hoff h9 hBz
                    simp only at hz hdf hoff h9
                    subst hdf
                    have htm := tmps_fold [64, 65, 66, 67, 68, 69, 70, 63, 71, 72, 73, 10, 11, 9] tm _ hz hoff
                    simp only [List.foldl, List.setIfInBounds_toArray, List.set_cons_zero, List.set_cons_succ, h9] at htm
                    clear hz hoff
                    generalize tm.getD 64 undef = u0, tm.getD 65 undef = u1, tm.getD 66 undef = u2, tm.getD 67 undef = u3, tm.getD 68 undef = u4, tm.getD 69 undef = u5, tm.getD 70 undef = u6, tm.getD 63 undef = u7, tm.getD 71 undef = u8, tm.getD 72 undef = u9, tm.getD 73 undef = u10, tm.getD 10 undef = u11, tm.getD 11 undef = u12 at htm
                    clear h9
                    subst htm
                    go_wp2_with fail
                    go_meet
                    exact ⟨rfl, hBz⟩
                  case rest =>
                    obtain ⟨hm, hBc⟩ := hcut
                    subst hm
                    have HB5 := HB.trans (hBc.mono HB.size)
                    clear hBc HB B4 HSr L1 L2 LM i1 i2 i3 i4 j1 j2 j3 j4
                    generalize kdA n p c d = z at *
                    have hs1 : IntKind.i64.wrap ((c : Int) - 1) = (c : Int) - 1 := by rw [IntKind.wrap_i64]; omega
                    have hs2 : IntKind.i64.wrap ((n : Int) - 1) = (n : Int) - 1 := by rw [IntKind.wrap_i64]; omega
                    have HBS : Hid (bdB n p c d = ((nxB n c d && !(decide (z = 1))) || (!(nxB n c d) && !(decide (z = 0))))) := hbs
                    clear hbs
                    have HBF := HB4.trans (HB5.mono HB4.size)
                    rcases (show (d + 1 = c) ∨ (d + 1 ≠ c ∧ d = 0 ∧ c + 1 = n) ∨ (d + 1 ≠ c ∧ d = 0 ∧ c + 1 ≠ n) ∨ (d + 1 ≠ c ∧ d ≠ 0) by omega) with hN1 | hN2 | hN3 | hN4
                    · have HX : Hid (nxB n c d = true) := by show _ = _; unfold nxB; simp; omega
                      have b1 : ((d : Int) == (c : Int) - 1) = true := beq_iff_eq.2 (by omega)
                      clear hN1
                      rcases hkin with rfl | rfl | rfl
                      · have HO : Hid (rgF n p = 5) := by
                          show _ = _
                          unfold rgF
                          rw [if_neg h1, if_neg h2, if_neg (fun hh => hh HA.out), if_neg (fun hh => hh HC.out), if_pos (fun hh => by
                            have e := hh c hcn d hdn
                            rw [HBS.out, HX.out] at e
                            simp at e)]
                        go_wp2
                        go_ret
                        exact ⟨by rw [HO.out]; rfl, HBF⟩
                      · have HN : Hid (bdB n p c d = false) := by show _ = _; rw [HBS.out, HX.out]; rfl
                        go_wp2
                        go_roundw
                        case rel => exact ⟨d + 1, by omega, by go_num, fun k hk => by
                          rcases Nat.lt_or_ge k d with h | h
                          · exact HE.out k h
                          · obtain rfl : k = d := by omega
                            exact HN.out, HB5⟩
                        case measure => simp [intOf]; omega
                      · have HO : Hid (rgF n p = 5) := by
                          show _ = _
                          unfold rgF
                          rw [if_neg h1, if_neg h2, if_neg (fun hh => hh HA.out), if_neg (fun hh => hh HC.out), if_pos (fun hh => by
                            have e := hh c hcn d hdn
                            rw [HBS.out, HX.out] at e
                            simp at e)]
                        go_wp2
                        go_ret
                        exact ⟨by rw [HO.out]; rfl, HBF⟩
                    · have HX : Hid (nxB n c d = true) := by show _ = _; unfold nxB; simp; omega
                      have b1 : ((d : Int) == (c : Int) - 1) = false := beq_eq_false_iff_ne.2 (by omega)
                      have b2 : ((d : Int) == 0) = true := beq_iff_eq.2 (by omega)
                      have b3 : ((c : Int) == (n : Int) - 1) = true := beq_iff_eq.2 (by omega)
                      clear hN2
                      rcases hkin with rfl | rfl | rfl
                      · have HO : Hid (rgF n p = 5) := by
                          show _ = _
                          unfold rgF
                          rw [if_neg h1, if_neg h2, if_neg (fun hh => hh HA.out), if_neg (fun hh => hh HC.out), if_pos (fun hh => by
                            have e := hh c hcn d hdn
                            rw [HBS.out, HX.out] at e
                            simp at e)]
                        go_wp2
                        go_ret
                        exact ⟨by rw [HO.out]; rfl, HBF⟩
                      · have HN : Hid (bdB n p c d = false) := by show _ = _; rw [HBS.out, HX.out]; rfl
                        go_wp2
                        go_roundw
                        case rel => exact ⟨d + 1, by omega, by go_num, fun k hk => by
                          rcases Nat.lt_or_ge k d with h | h
                          · exact HE.out k h
                          · obtain rfl : k = d := by omega
                            exact HN.out, HB5⟩
                        case measure => simp [intOf]; omega
                      · have HO : Hid (rgF n p = 5) := by
                          show _ = _
                          unfold rgF
                          rw [if_neg h1, if_neg h2, if_neg (fun hh => hh HA.out), if_neg (fun hh => hh HC.out), if_pos (fun hh => by
                            have e := hh c hcn d hdn
                            rw [HBS.out, HX.out] at e
                            simp at e)]
                        go_wp2
                        go_ret
                        exact ⟨by rw [HO.out]; rfl, HBF⟩
                    · have HX : Hid (nxB n c d = false) := by show _ = _; unfold nxB; rw [Bool.eq_false_iff]; intro hh; simp at hh; omega
                      have b1 : ((d : Int) == (c : Int) - 1) = false := beq_eq_false_iff_ne.2 (by omega)
                      have b2 : ((d : Int) == 0) = true := beq_iff_eq.2 (by omega)
                      have b3 : ((c : Int) == (n : Int) - 1) = false := beq_eq_false_iff_ne.2 (by omega)
                      clear hN3
                      rcases hkin with rfl | rfl | rfl
                      · have HN : Hid (bdB n p c d = false) := by show _ = _; rw [HBS.out, HX.out]; rfl
                        go_wp2
                        go_roundw
                        case rel => exact ⟨d + 1, by omega, by go_num, fun k hk => by
                          rcases Nat.lt_or_ge k d with h | h
                          · exact HE.out k h
                          · obtain rfl : k = d := by omega
                            exact HN.out, HB5⟩
                        case measure => simp [intOf]; omega
                      · have HO : Hid (rgF n p = 5) := by
                          show _ = _
                          unfold rgF
                          rw [if_neg h1, if_neg h2, if_neg (fun hh => hh HA.out), if_neg (fun hh => hh HC.out), if_pos (fun hh => by
                            have e := hh c hcn d hdn
                            rw [HBS.out, HX.out] at e
                            simp at e)]
                        go_wp2
                        go_ret
                        exact ⟨by rw [HO.out]; rfl, HBF⟩
                      · have HO : Hid (rgF n p = 5) := by
                          show _ = _
                          unfold rgF
                          rw [if_neg h1, if_neg h2, if_neg (fun hh => hh HA.out), if_neg (fun hh => hh HC.out), if_pos (fun hh => by
                            have e := hh c hcn d hdn
                            rw [HBS.out, HX.out] at e
                            simp at e)]
                        go_wp2
                        go_ret
                        exact ⟨by rw [HO.out]; rfl, HBF⟩
                    · have HX : Hid (nxB n c d = false) := by show _ = _; unfold nxB; rw [Bool.eq_false_iff]; intro hh; simp at hh; omega
                      have b1 : ((d : Int) == (c : Int) - 1) = false := beq_eq_false_iff_ne.2 (by omega)
                      have b2 : ((d : Int) == 0) = false := beq_eq_false_iff_ne.2 (by omega)
                      clear hN4
                      rcases hkin with rfl | rfl | rfl
                      · have HN : Hid (bdB n p c d = false) := by show _ = _; rw [HBS.out, HX.out]; rfl
                        go_wp2
                        go_roundw
                        case rel => exact ⟨d + 1, by omega, by go_num, fun k hk => by
                          rcases Nat.lt_or_ge k d with h | h
                          · exact HE.out k h
                          · obtain rfl : k = d := by omega
                            exact HN.out, HB5⟩
                        case measure => simp [intOf]; omega
                      · have HO : Hid (rgF n p = 5) := by
                          show _ = _
                          unfold rgF
                          rw [if_neg h1, if_neg h2, if_neg (fun hh => hh HA.out), if_neg (fun hh => hh HC.out), if_pos (fun hh => by
                            have e := hh c hcn d hdn
                            rw [HBS.out, HX.out] at e
                            simp at e)]
                        go_wp2
                        go_ret
                        exact ⟨by rw [HO.out]; rfl, HBF⟩
                      · have HO : Hid (rgF n p = 5) := by
                          show _ = _
                          unfold rgF
                          rw [if_neg h1, if_neg h2, if_neg (fun hh => hh HA.out), if_neg (fun hh => hh HC.out), if_pos (fun hh => by
                            have e := hh c hcn d hdn
                            rw [HBS.out, HX.out] at e
                            simp at e)]
                        go_wp2
                        go_ret
                        exact ⟨by rw [HO.out]; rfl, HBF⟩
                · obtain rfl : c = d := by omega
                  have HBF := HBo.trans (HB.mono HBo.size)
                  clear HB HBo HB4 HSo B3
                  go_wp2
                  go_roundw
                  case rel => exact ⟨c + 1, by omega, by go_num, fun j hj => by
                    rcases Nat.lt_or_ge j c with h | h
                    · exact HD.out j h
                    · obtain rfl : j = c := by omega
                      exact HE.out, HBF⟩
                  case measure => simp [intOf]; omega
            · obtain rfl : n = c := by omega
              have HO : Hid (rgF n p = 0) := by
                show _ = _
                unfold rgF
                rw [if_neg h1, if_neg h2, if_neg (fun hh => hh HA.out), if_neg (fun hh => hh HC.out), if_neg (fun hh => hh HD.out)]
              have HBF := HB3.trans (HB.mono HB3.size)
              clear HS2 B2 HB HB3 HA HC HD
              go_wp2
              go_ret
              exact ⟨by rw [HO.out]; rfl, HBF⟩
end Go.Proofs.YteakhlipmmfilaaGreat

/- Rings that are turned: the program's small walks. -/
namespace Go.Proofs.YteakhlipmmfilaaGreat
open Go.RowKit
/-- The cells of n spots, one behind the other. -/
def spL (n : Nat) (p : Ps) : List Value := (List.range (n * 2)).map fun (i : Nat) => Value.int .i64 (spW p i)
theorem spL_at {n : Nat} {p : Ps} {i : Nat} (h : i < n * 2) : (spL n p)[i]? = some (.int .i64 (spW p i)) := by simp [spL, h]
/-- A slice of the call's own, with these spots. -/
def SpOwn (w : World) (base : Nat) (v : Value) (n : Nat) (p : Ps) : Prop :=
  (v = .slice none 0 0 ∧ n = 0) ∨ ∃ g cap f, v = .slice (some ⟨g, 0, none⟩) n cap ∧ base ≤ g ∧ n ≤ cap ∧ cap ≤ maxLen ∧ w.rowIs g 51 (cap * 2) f ∧ ∀ i, i < n * 2 → f i = .int .i64 (spW p i)
theorem SpOwn.of {w : World} {base : Nat} {v : Value} {n : Nat} {p : Ps} (h : w.ownsRow base 51 2 v n (spL n p)) : SpOwn w base v n p := by
  rcases h.2 with ⟨h1, h2⟩ | ⟨g, cap, cur, h1, h2, h3, h4, h5, h6, h7⟩
  · exact .inl ⟨h1, h2⟩
  · refine .inr ⟨g, cap, fun i => cur.getD i undef, h1, h2, h4, h5, ⟨cur, h3, by omega, fun i hi => ?_⟩, fun i hi => ?_⟩
    · simp [Array.getD_eq_getD_getElem?, show i < cur.size by omega]
    · have e : (cur.toList.take (n * 2))[i]? = (spL n p)[i]? := by rw [h7]
      rw [List.getElem?_take_of_lt hi, spL_at hi] at e
      simp only [Array.getElem?_toList] at e
      show cur.getD i undef = _
      rw [Array.getD_eq_getD_getElem?, e]
      rfl
end Go.Proofs.YteakhlipmmfilaaGreat

/- The sides of a ring as a row: the program's walk. -/
namespace Go.Proofs.YteakhlipmmfilaaGreat
open Go.RowKit Go.Shelf
attribute [local go_sem] Oper.semAt_some
/-- The cells of some sides, one behind the other. -/
def sdC (n : Nat) (p : Ps) (pre : List (Fin n)) : List Value := pre.flatMap fun x => [.int .i64 (sdA n p x.1).1, .int .i64 (sdA n p x.1).2.1, .int .i64 (sdA n p x.1).2.2.1, .int .i64 (sdA n p x.1).2.2.2]
theorem sdC_snoc (n : Nat) (p : Ps) (pre : List (Fin n)) (x : Fin n) : sdC n p (pre ++ [x]) = sdC n p pre ++ [.int .i64 (sdA n p x.1).1, .int .i64 (sdA n p x.1).2.1, .int .i64 (sdA n p x.1).2.2.1, .int .i64 (sdA n p x.1).2.2.2] := by simp [sdC]
theorem Tryz.infoSeg2 : (Tryz.prog.info? 53).map (fun i => (i.zero, i.size, i.bytes)) = some (some (.agg #[.int .i64 0, .int .i64 0, .int .i64 0, .int .i64 0]), 4, 32) := by kernel_rfl
theorem own_mono {w : World} {b b' n : Nat} {e : TypeId} {size : Nat} {v : Value} {xs : List Value} (h : w.ownsRow b' e size v n xs) (hb : b ≤ b') : w.ownsRow b e size v n xs := by
  rcases h with ⟨h0, h1 | ⟨g, cap, cur, h1, h2, h3⟩⟩
  · exact ⟨h0, .inl h1⟩
  · exact ⟨h0, .inr ⟨g, cap, cur, h1, Nat.le_trans hb h2, h3⟩⟩
theorem cell_four_new (w : World) (a b c d : Value) (t : TypeId) : ∀ j u, [a, b, c, d][j]? = some u → (w.alloc (.cells #[a, b, c, d] t)).cell? ((⟨w.heap.size, 0, none⟩ : Addr).add j) = some u := by
  intro j u hj
  match j, hj with
  | 0, hj => simp at hj; subst hj; simp [Addr.add]
  | 1, hj => simp at hj; subst hj; simp [Addr.add]
  | 2, hj => simp at hj; subst hj; simp [Addr.add]
  | 3, hj => simp at hj; subst hj; simp [Addr.add]
  | j + 4, hj => simp at hj
theorem one_cell4 (x y z t : Int) : ∀ u ∈ [Value.int .i64 x, Value.int .i64 y, Value.int .i64 z, Value.int .i64 t], u.oneCell' = true := by
  intro u hu
  simp only [List.mem_cons, List.not_mem_nil, or_false] at hu
  rcases hu with rfl | rfl | rfl | rfl <;> rfl
end Go.Proofs.YteakhlipmmfilaaGreat

/- Rows of segments: how they lie, and the walks over them. -/
namespace Go.Proofs.YteakhlipmmfilaaGreat
open Go.RowKit
/-- n segments lie behind a slice's address, their numbers by x. -/
def SegIn (w : World) (ao : Option Addr) (n : Nat) (x : Nat → Int) : Prop :=
  ∀ i, i < n → ∃ A off, ao = some ⟨A, off, none⟩ ∧ A < w.heap.size ∧ ∀ j, j < 4 → w.cell? ⟨A, off + i * 4 + j, none⟩ = some (.int .i64 (x (i * 4 + j)))
theorem SegIn.step {w w' : World} {ao : Option Addr} {n : Nat} {x : Nat → Int} (h : SegIn w ao n x) (hB : Below w.heap.size w w') : SegIn w' ao n x := fun i hi => by
  obtain ⟨A, off, e, hA, hc⟩ := h i hi
  exact ⟨A, off, e, Nat.lt_of_lt_of_le hA hB.size, fun j hj => (hB.cell (p := ⟨A, off + i * 4 + j, none⟩) hA).trans (hc j hj)⟩
theorem SegIn.drew {w : World} {ao : Option Addr} {n : Nat} {x : Nat → Int} (h : SegIn w ao n x) : SegIn w.drew ao n x := h
end Go.Proofs.YteakhlipmmfilaaGreat

/- Rows of segments: copied and held against one another; the law of what is at fault in them. -/
namespace Go.Proofs.YteakhlipmmfilaaGreat
open Go.RowKit
theorem eqSpot_same (x y : Int) (w : World) : Calls Tryz.prog 73 #[Sp x y, Sp x y] w (BoolP true w) := by
  go_enter Tryz.func73, Tryz.ntmps73
  go_wp2
  go_ret
  exact ⟨rfl, ((Below.refl _ _).alloc (Nat.le_refl _) _).alloc (by simp) _⟩
set_option maxRecDepth 100000 in
theorem eqSeg_same (a b c d : Int) (w : World) : Calls Tryz.prog 36 #[Sg a b c d, Sg a b c d] w (BoolP true w) := by
  have B0 := (Blk.new w [.int .i64 a, .int .i64 b, .int .i64 c, .int .i64 d] 53 rfl).alloc (.cells #[.int .i64 a, .int .i64 b, .int .i64 c, .int .i64 d] 53)
  have B1 := Blk.new (w.alloc (.cells #[.int .i64 a, .int .i64 b, .int .i64 c, .int .i64 d] 53)) [.int .i64 a, .int .i64 b, .int .i64 c, .int .i64 d] 53 (g := w.heap.size + 1) (by simp)
  have HB0 := ((Below.refl _ w).alloc (Nat.le_refl _) (.cells #[.int .i64 a, .int .i64 b, .int .i64 c, .int .i64 d] 53)).alloc (by simp) (.cells #[.int .i64 a, .int .i64 b, .int .i64 c, .int .i64 d] 53)
  go_enter Tryz.func36, Tryz.ntmps36
  go_wp2_with fail
  refine (eqSpot_same _ _ _).mono ?_
  rintro e w1 ⟨rfl, hB⟩
  replace B0 := B0.step hB; replace B1 := B1.step hB
  have HB : Below w.heap.size w w1 := HB0.trans (hB.mono HB0.size)
  clear hB HB0
  have p2 := B0.c 2 rfl; have p3 := B0.c 3 rfl; have q2 := B1.c 2 rfl; have q3 := B1.c 3 rfl
  go_wp2_with fail
  refine (eqSpot_same _ _ _).mono ?_
  rintro e w2 ⟨rfl, hB⟩
  have HB2 : Below w.heap.size w w2 := HB.trans (hB.mono HB.size)
  clear hB HB
  go_wp2
  go_ret
  exact ⟨rfl, HB2⟩
theorem row_step {w w' : World} {g n : Nat} {T : TypeId} {f : Nat → Value} (h : w.rowIs g T n f) (hB : Below w.heap.size w w') : w'.rowIs g T n f := h.of_block (hB.block g h.lt)
end Go.Proofs.YteakhlipmmfilaaGreat

/- Rows of segments: the law of what is at fault in them. -/
namespace Go.Proofs.YteakhlipmmfilaaGreat
open Go.RowKit
set_option maxRecDepth 100000 in
set_option maxHeartbeats 2000000 in
theorem eqSegS_any (ao bo : Option Addr) (n ca cb : Nat) (x : Nat → Int) (hn : n ≤ 1048576) (w : World) (hA : SegIn w ao n x) (hC : SegIn w bo n x) : Calls Tryz.prog 10 #[.slice ao n ca, .slice bo n cb] w (BoolP true w) := by
  have HA : Hid (SegIn w ao n x) := hA
  have HC : Hid (SegIn w bo n x) := hC
  have hnI : (n : Int) ≤ 1048576 := by omega
  clear hA hC
  go_enter Tryz.func10, Tryz.ntmps10
  go_wp2_with fail
  go_loopw [5] (fun i wr => ∃ c : Nat, c ≤ n ∧ i = .int .i64 c ∧ Below w.heap.size w wr) (fun i _ => n - (intOf i).toNat)
  case atStart => exact ⟨0, by omega, rfl, Below.refl _ _⟩
  case round =>
    obtain ⟨c, hc, rfl, HB⟩ := hrel
    by_cases hcn : c < n
    · obtain ⟨A, off, rfl, hA, hcell⟩ := HA.out.step HB c hcn
      have q0 := hcell 0 (by omega); have q1 := hcell 1 (by omega); have q2 := hcell 2 (by omega); have q3 := hcell 3 (by omega)
      simp only [Nat.add_zero] at q0
      obtain ⟨B, off', rfl, hB', hcell'⟩ := HC.out.step HB c hcn
      have r0 := hcell' 0 (by omega); have r1 := hcell' 1 (by omega); have r2 := hcell' 2 (by omega); have r3 := hcell' 3 (by omega)
      simp only [Nat.add_zero] at r0
      have hcI : (c : Int) < n := by omega
      clear hcell hcell'
      have KS : (fun w' => w'.cell? ⟨A, off + c * 4, none⟩ = some (.int .i64 (x (c * 4))) ∧ w'.cell? ⟨A, off + c * 4 + 1, none⟩ = some (.int .i64 (x (c * 4 + 1))) ∧ w'.cell? ⟨A, off + c * 4 + 2, none⟩ = some (.int .i64 (x (c * 4 + 2))) ∧ w'.cell? ⟨A, off + c * 4 + 3, none⟩ = some (.int .i64 (x (c * 4 + 3))) ∧ w'.cell? ⟨B, off' + c * 4, none⟩ = some (.int .i64 (x (c * 4))) ∧ w'.cell? ⟨B, off' + c * 4 + 1, none⟩ = some (.int .i64 (x (c * 4 + 1))) ∧ w'.cell? ⟨B, off' + c * 4 + 2, none⟩ = some (.int .i64 (x (c * 4 + 2))) ∧ w'.cell? ⟨B, off' + c * 4 + 3, none⟩ = some (.int .i64 (x (c * 4 + 3)))) wr := ⟨q0, q1, q2, q3, r0, r1, r2, r3⟩
      go_wp2_with fail
      go_region_held3 (fun w' => w'.cell? ⟨A, off + c * 4, none⟩ = some (.int .i64 (x (c * 4))) ∧ w'.cell? ⟨A, off + c * 4 + 1, none⟩ = some (.int .i64 (x (c * 4 + 1))) ∧ w'.cell? ⟨A, off + c * 4 + 2, none⟩ = some (.int .i64 (x (c * 4 + 2))) ∧ w'.cell? ⟨A, off + c * 4 + 3, none⟩ = some (.int .i64 (x (c * 4 + 3))) ∧ w'.cell? ⟨B, off' + c * 4, none⟩ = some (.int .i64 (x (c * 4))) ∧ w'.cell? ⟨B, off' + c * 4 + 1, none⟩ = some (.int .i64 (x (c * 4 + 1))) ∧ w'.cell? ⟨B, off' + c * 4 + 2, none⟩ = some (.int .i64 (x (c * 4 + 2))) ∧ w'.cell? ⟨B, off' + c * 4 + 3, none⟩ = some (.int .i64 (x (c * 4 + 3)))) (first | (exact KS) | (exact KS'))
        (first
          | (go_at_call 36; refine (eqSeg_same (x (c * 4)) (x (c * 4 + 1)) (x (c * 4 + 2)) (x (c * 4 + 3)) _).mono ?_; rintro e w1 ⟨rfl, hB⟩; have KS' : (fun w' => w'.cell? ⟨A, off + c * 4, none⟩ = some (.int .i64 (x (c * 4))) ∧ w'.cell? ⟨A, off + c * 4 + 1, none⟩ = some (.int .i64 (x (c * 4 + 1))) ∧ w'.cell? ⟨A, off + c * 4 + 2, none⟩ = some (.int .i64 (x (c * 4 + 2))) ∧ w'.cell? ⟨A, off + c * 4 + 3, none⟩ = some (.int .i64 (x (c * 4 + 3))) ∧ w'.cell? ⟨B, off' + c * 4, none⟩ = some (.int .i64 (x (c * 4))) ∧ w'.cell? ⟨B, off' + c * 4 + 1, none⟩ = some (.int .i64 (x (c * 4 + 1))) ∧ w'.cell? ⟨B, off' + c * 4 + 2, none⟩ = some (.int .i64 (x (c * 4 + 2))) ∧ w'.cell? ⟨B, off' + c * 4 + 3, none⟩ = some (.int .i64 (x (c * 4 + 3)))) w1 := ⟨(hB.cell (p := ⟨A, _, none⟩) hA).trans q0, (hB.cell (p := ⟨A, _, none⟩) hA).trans q1, (hB.cell (p := ⟨A, _, none⟩) hA).trans q2, (hB.cell (p := ⟨A, _, none⟩) hA).trans q3, (hB.cell (p := ⟨B, _, none⟩) hB').trans r0, (hB.cell (p := ⟨B, _, none⟩) hB').trans r1, (hB.cell (p := ⟨B, _, none⟩) hB').trans r2, (hB.cell (p := ⟨B, _, none⟩) hB').trans r3⟩; (first | (have HB2 := HB.trans (hB.mono HB.size)) | (have HB2 := HB.drew.trans (hB.mono HB.drew.size))); clear hB))
      all_goals clear HB KS q0 q1 q2 q3 r0 r1 r2 r3
      all_goals go_wp2
      all_goals go_roundw
      case rel => exact ⟨c + 1, by omega, by go_num, HB2⟩
      case measure => simp [intOf]; omega
    · obtain rfl : c = n := by omega
      clear HA HC
      go_wp2
      go_ret
      exact ⟨rfl, HB⟩
end Go.Proofs.YteakhlipmmfilaaGreat

/- Rows of numbers: how they lie; copied, held against one another. -/
namespace Go.Proofs.YteakhlipmmfilaaGreat
open Go.RowKit
/-- n numbers lie behind a slice's address. -/
def NoIn (w : World) (ao : Option Addr) (n : Nat) (x : Nat → Int) : Prop :=
  ∀ i, i < n → ∃ A off, ao = some ⟨A, off, none⟩ ∧ A < w.heap.size ∧ w.cell? ⟨A, off + i, none⟩ = some (.int .i64 (x i))
theorem NoIn.step {w w' : World} {ao : Option Addr} {n : Nat} {x : Nat → Int} (h : NoIn w ao n x) (hB : Below w.heap.size w w') : NoIn w' ao n x := fun i hi => by
  obtain ⟨A, off, e, hA, hc⟩ := h i hi
  exact ⟨A, off, e, Nat.lt_of_lt_of_le hA hB.size, (hB.cell (p := ⟨A, off + i, none⟩) hA).trans hc⟩
end Go.Proofs.YteakhlipmmfilaaGreat

/- Answers that own their rows of numbers: held against one another, marked, held again; a row of segments marked. -/
namespace Go.Proofs.YteakhlipmmfilaaGreat
open Go.RowKit
/-- A slice of the call's own, with these numbers. -/
def NoOwn (w : World) (base : Nat) (v : Value) (L : List Int) : Prop :=
  (v = .slice none 0 0 ∧ L = []) ∨ ∃ g cap f, v = .slice (some ⟨g, 0, none⟩) L.length cap ∧ base ≤ g ∧ L.length ≤ cap ∧ w.rowIs g 2 cap f ∧ ∀ i, i < L.length → f i = .int .i64 (L.getD i 0)
theorem NoOwn.step {w w' : World} {base : Nat} {v : Value} {L : List Int} (h : NoOwn w base v L) (hB : Below w.heap.size w w') : NoOwn w' base v L := by
  rcases h with h | ⟨g, cap, f, h1, h2, h3, h4, h5⟩
  · exact .inl h
  · exact .inr ⟨g, cap, f, h1, h2, h3, row_step h4 hB, h5⟩
theorem NoOwn.of {w : World} {base : Nat} {v : Value} {L : List Int} (h : w.ownsRow base 2 1 v L.length (L.map (Value.int .i64))) : NoOwn w base v L := by
  rcases h.2 with ⟨h1, h2⟩ | ⟨g, cap, cur, h1, h2, h3, h4, h5, h6, h7⟩
  · exact .inl ⟨h1, List.length_eq_zero_iff.1 h2⟩
  · refine .inr ⟨g, cap, fun i => cur.getD i undef, h1, h2, h4, ⟨cur, h3, by omega, fun i hi => ?_⟩, fun i hi => ?_⟩
    · simp [Array.getD_eq_getD_getElem?, show i < cur.size by omega]
    · have e : (cur.toList.take (L.length * 1))[i]? = (L.map (Value.int .i64))[i]? := by rw [h7]
      rw [List.getElem?_take_of_lt (by omega), List.getElem?_map, List.getElem?_eq_getElem hi] at e
      simp only [Array.getElem?_toList, Option.map_some] at e
      show cur.getD i undef = _
      rw [Array.getD_eq_getD_getElem?, e]
      simp [List.getD_eq_getElem?_getD, hi]
/-- The slice's own parts, and that its numbers lie there. -/
theorem NoOwn.in {w : World} {base : Nat} {v : Value} {L : List Int} (h : NoOwn w base v L) : ∃ ao cap, v = .slice ao L.length cap ∧ NoIn w ao L.length (fun i => L.getD i 0) := by
  rcases h with ⟨h1, h2⟩ | ⟨g, cap, f, h1, h2, h3, h4, h5⟩
  · subst h2
    exact ⟨none, 0, h1, fun i hi => by simp at hi⟩
  · exact ⟨some ⟨g, 0, none⟩, cap, h1, fun i hi => ⟨g, 0, rfl, h4.lt, by rw [Nat.zero_add, h4.cell (by omega), h5 i hi]⟩⟩
/-- No block has turned but one of those that a base leaves free. -/
def OtherB (h : Option Nat) (w w' : World) : Prop :=
  (∀ g, some g ≠ h → g < w.heap.size → w'.heap[g]? = w.heap[g]?) ∧ w.heap.size ≤ w'.heap.size ∧ ∀ w0 : World, (∀ g, h = some g → w0.heap.size ≤ g) → Below w0.heap.size w0 w → Below w0.heap.size w0 w'
theorem OtherB.row {h : Option Nat} {w w' : World} (k : OtherB h w w') {g n : Nat} {T : TypeId} {f : Nat → Value} (hne : some g ≠ h) (r : w.rowIs g T n f) : w'.rowIs g T n f := r.of_block (k.1 g hne r.lt)
theorem OtherB.own {h : Option Nat} {w w' : World} (k : OtherB h w w') {base : Nat} {v : Value} {L : List Int} (r : NoOwn w base v L) (hne : ∀ g, v.ownBlock = some g → some g ≠ h) : NoOwn w' base v L := by
  rcases r with r | ⟨g, cap, f, h1, h2, h3, h4, h5⟩
  · exact .inl r
  · exact .inr ⟨g, cap, f, h1, h2, h3, k.row (hne g (by subst h1; rfl)) h4, h5⟩
theorem OtherB.blk {h : Option Nat} {w w' : World} (k : OtherB h w w') {g : Nat} {vs : List Value} (hne : some g ≠ h) (r : Blk w g vs) : Blk w' g vs := by
  refine ⟨Nat.lt_of_lt_of_le r.lt k.2.1, fun i v hi => ⟨?_, ?_⟩⟩
  · have := r.c i hi
    unfold World.cell? at this ⊢
    simp only [k.1 g hne r.lt]
    exact this
  · have := r.f i hi
    unfold World.frozen? at this ⊢
    simp only [k.1 g hne r.lt]
    exact this
theorem OtherB.refl (h : Option Nat) (w : World) : OtherB h w w := ⟨fun _ _ _ => rfl, Nat.le_refl _, fun _ _ H => H⟩
theorem OtherB.set {h : Nat} {w w' : World} (k : OtherB (some h) w w') (i : Nat) (v : Value) : OtherB (some h) w (w'.setCell ⟨h, i, none⟩ v) := by
  refine ⟨fun g hne hg => ?_, by simpa [World.setCell] using k.2.1, fun w0 hb H => (k.2.2 w0 hb H).setCell (by exact hb h rfl) _⟩
  rw [Below.heap_setCell _ _ _ _ (fun e => hne (congrArg some e))]
  exact k.1 g hne hg
theorem OtherB.step {h : Option Nat} {w w' w'' : World} (k : OtherB h w w') (hB : Below w'.heap.size w' w'') : OtherB h w w'' :=
  ⟨fun g hne hg => (hB.block g (Nat.lt_of_lt_of_le hg k.2.1)).trans (k.1 g hne hg), Nat.le_trans k.2.1 hB.size, fun w0 hb H => (k.2.2 w0 hb H).trans (hB.mono (k.2.2 w0 hb H).size)⟩
end Go.Proofs.YteakhlipmmfilaaGreat

/- Rings that are turned: the program's reversal. -/
namespace Go.Proofs.YteakhlipmmfilaaGreat
open Go.RowKit
theorem OtherB.drew {h : Option Nat} {w w' : World} (k : OtherB h w w') : OtherB h w w'.drew := ⟨k.1, k.2.1, fun w0 hb H => (k.2.2 w0 hb H).drew⟩
end Go.Proofs.YteakhlipmmfilaaGreat

/- Rings that are turned: both sides' answers. -/
namespace Go.Proofs.YteakhlipmmfilaaGreat
open Go.RowKit
theorem SpOwn.mono {w : World} {b b' : Nat} {v : Value} {n : Nat} {p : Ps} (h : SpOwn w b' v n p) (hb : b ≤ b') : SpOwn w b v n p := by
  rcases h with h | ⟨g, cap, f, h1, h2, h3⟩
  · exact .inl h
  · exact .inr ⟨g, cap, f, h1, by omega, h3⟩
def tuN (n : Nat) (p : Ps) : Nat := if rgF n p = 0 then n else 0
end Go.Proofs.YteakhlipmmfilaaGreat

/- Rings of their own memory: held against one another, marked, held again. -/
namespace Go.Proofs.YteakhlipmmfilaaGreat
open Go.RowKit
theorem SpOwn.step {w w' : World} {base : Nat} {v : Value} {n : Nat} {p : Ps} (h : SpOwn w base v n p) (hB : Below w.heap.size w w') : SpOwn w' base v n p := by
  rcases h with h | ⟨g, cap, f, h1, h2, h3, h4, h5, h6⟩
  · exact .inl h
  · exact .inr ⟨g, cap, f, h1, h2, h3, h4, rows_step h5 hB, h6⟩
theorem SpOwn.in {w : World} {base : Nat} {v : Value} {n : Nat} {p : Ps} (h : SpOwn w base v n p) : ∃ ao cap, v = .slice ao n cap ∧ SpIn w ao n p := by
  rcases h with ⟨h1, rfl⟩ | ⟨g, cap, f, h1, h2, h3, h4, h5, h6⟩
  · exact ⟨none, 0, h1, fun i hi => by omega⟩
  · have R : w.rowIs g 51 (cap * 2) f := h5
    refine ⟨some ⟨g, 0, none⟩, cap, h1, fun i hi => ⟨g, 0, rfl, R.lt, ?_, ?_⟩⟩
    · rw [Nat.zero_add, R.cell (by omega), h6 _ (by omega), spW0]
    · rw [Nat.zero_add, R.cell (by omega), h6 _ (by omega), spW1]
theorem SpOwn.lt {w : World} {base : Nat} {v : Value} {n : Nat} {p : Ps} (h : SpOwn w base v n p) {g : Nat} (hg : v.ownBlock = some g) : base ≤ g ∧ g < w.heap.size := by
  rcases h with ⟨h1, _⟩ | ⟨g', cap, f, h1, h2, h3, h4, h5, h6⟩
  · subst h1; cases hg
  · subst h1; cases hg; exact ⟨h2, h5.lt⟩
theorem SpOwn.row {w : World} {base g n : Nat} {p : Ps} (R : w.rowIs g 51 (n * 2) (fun i => .int .i64 (spW p i))) (hb : base ≤ g) (hn : n ≤ 1048576) : SpOwn w base (.slice (some ⟨g, 0, none⟩) n n) n p :=
  .inr ⟨g, n, _, rfl, hb, Nat.le_refl _, by unfold maxLen; omega, R, fun _ _ => rfl⟩
theorem OtherB.trans {h : Option Nat} {a b c : World} (k : OtherB h a b) (l : OtherB h b c) : OtherB h a c :=
  ⟨fun g hne hg => (l.1 g hne (Nat.lt_of_lt_of_le hg k.2.1)).trans (k.1 g hne hg), Nat.le_trans k.2.1 l.2.1, fun w0 hb H => l.2.2 w0 hb (k.2.2 w0 hb H)⟩
end Go.Proofs.YteakhlipmmfilaaGreat

/- The sides of a ring as a row: both sides' answers. -/
namespace Go.Proofs.YteakhlipmmfilaaGreat
open Go.RowKit
theorem own_stepG {w w' : World} {base n : Nat} {e : TypeId} {size : Nat} {v : Value} {xs : List Value} (h : w.ownsRow base e size v n xs) (hB : Below w.heap.size w w') : w'.ownsRow base e size v n xs := by
  rcases h with ⟨h0, h1 | ⟨g, cap, cur, h1, h2, h3, h4⟩⟩
  · exact ⟨h0, .inl h1⟩
  · refine ⟨h0, .inr ⟨g, cap, cur, h1, h2, ?_, h4⟩⟩
    rw [hB.block g (Array.getElem?_eq_some_iff.1 h3).1]
    exact h3
def sgCs (n : Nat) (p : Ps) : List Value := if rgF n p = 0 then sdC n p (List.finRange n) else []
end Go.Proofs.YteakhlipmmfilaaGreat

/- Rows of segments of the call's own: held against one another, marked, held again. -/
namespace Go.Proofs.YteakhlipmmfilaaGreat
open Go.RowKit
/-- The numbers of a ring's sides, one behind the other. -/
def sdW (n : Nat) (p : Ps) (k : Nat) : Int := if k % 4 = 0 then (sdA n p (k / 4)).1 else if k % 4 = 1 then (sdA n p (k / 4)).2.1 else if k % 4 = 2 then (sdA n p (k / 4)).2.2.1 else (sdA n p (k / 4)).2.2.2
theorem sdC_upTo (n : Nat) (p : Ps) : ∀ c, c ≤ n → (sdC n p (upTo n c)).length = c * 4 ∧ ∀ k, k < c * 4 → (sdC n p (upTo n c))[k]? = some (.int .i64 (sdW n p k))
  | 0, _ => ⟨by simp [upTo, sdC], fun k hk => by omega⟩
  | c + 1, h => by
    obtain ⟨h1, h2⟩ := sdC_upTo n p c (by omega)
    rw [upTo_succ (show c < n by omega), sdC_snoc]
    refine ⟨by rw [List.length_append, h1]; simp; omega, fun k hk => ?_⟩
    by_cases hlt : k < c * 4
    · rw [List.getElem?_append_left (by omega)]; exact h2 k hlt
    · rw [List.getElem?_append_right (by omega), h1]
      have hd : k / 4 = c := by omega
      unfold sdW
      rw [hd]
      rcases (show k = c * 4 ∨ k = c * 4 + 1 ∨ k = c * 4 + 2 ∨ k = c * 4 + 3 by omega) with rfl | rfl | rfl | rfl
      · rw [show c * 4 - c * 4 = 0 by omega, if_pos (by omega)]; rfl
      · rw [show c * 4 + 1 - c * 4 = 1 by omega, if_neg (by omega), if_pos (by omega)]; rfl
      · rw [show c * 4 + 2 - c * 4 = 2 by omega, if_neg (by omega), if_neg (by omega), if_pos (by omega)]; rfl
      · rw [show c * 4 + 3 - c * 4 = 3 by omega, if_neg (by omega), if_neg (by omega), if_neg (by omega)]; rfl
theorem sgCs_at {n : Nat} {p : Ps} {k : Nat} (hk : k < tuN n p * 4) : (sgCs n p)[k]? = some (.int .i64 (sdW n p k)) := by
  unfold tuN at hk
  unfold sgCs
  split at hk
  · rename_i h
    rw [if_pos h]
    have e : upTo n n = List.finRange n := by unfold upTo; rw [List.take_of_length_le (by simp)]
    have := (sdC_upTo n p n (Nat.le_refl _)).2 k hk
    rwa [e] at this
  · omega
/-- A slice of the call's own, with these segments. -/
def SgOwn (w : World) (base : Nat) (v : Value) (n : Nat) (x : Nat → Int) : Prop :=
  (v = .slice none 0 0 ∧ n = 0) ∨ ∃ g cap f, v = .slice (some ⟨g, 0, none⟩) n cap ∧ base ≤ g ∧ n ≤ cap ∧ w.rowIs g 53 (cap * 4) f ∧ ∀ i, i < n * 4 → f i = .int .i64 (x i)
theorem SgOwn.of {w : World} {base : Nat} {v : Value} {n : Nat} {p : Ps} (h : w.ownsRow base 53 4 v (tuN n p) (sgCs n p)) : SgOwn w base v (tuN n p) (sdW n p) := by
  rcases h.2 with ⟨h1, h2⟩ | ⟨g, cap, cur, h1, h2, h3, h4, h5, h6, h7⟩
  · exact .inl ⟨h1, h2⟩
  · refine .inr ⟨g, cap, fun i => cur.getD i undef, h1, h2, h4, ⟨cur, h3, by omega, fun i hi => ?_⟩, fun i hi => ?_⟩
    · simp [Array.getD_eq_getD_getElem?, show i < cur.size by omega]
    · have e : (cur.toList.take (tuN n p * 4))[i]? = (sgCs n p)[i]? := by rw [h7]
      rw [List.getElem?_take_of_lt hi, sgCs_at hi] at e
      simp only [Array.getElem?_toList] at e
      show cur.getD i undef = _
      rw [Array.getD_eq_getD_getElem?, e]
      rfl
theorem SgOwn.step {w w' : World} {base : Nat} {v : Value} {n : Nat} {x : Nat → Int} (h : SgOwn w base v n x) (hB : Below w.heap.size w w') : SgOwn w' base v n x := by
  rcases h with h | ⟨g, cap, f, h1, h2, h3, h5, h6⟩
  · exact .inl h
  · exact .inr ⟨g, cap, f, h1, h2, h3, rows_step h5 hB, h6⟩
theorem SgOwn.in {w : World} {base : Nat} {v : Value} {n : Nat} {x : Nat → Int} (h : SgOwn w base v n x) : ∃ ao cap, v = .slice ao n cap ∧ SegIn w ao n x := by
  rcases h with ⟨h1, rfl⟩ | ⟨g, cap, f, h1, h2, h3, R, h6⟩
  · exact ⟨none, 0, h1, fun i hi => by omega⟩
  · exact ⟨some ⟨g, 0, none⟩, cap, h1, fun i hi => ⟨g, 0, rfl, R.lt, fun j hj => by rw [Nat.zero_add, R.cell (by omega), h6 _ (by omega)]⟩⟩
theorem SgOwn.lt {w : World} {base : Nat} {v : Value} {n : Nat} {x : Nat → Int} (h : SgOwn w base v n x) {g : Nat} (hg : v.ownBlock = some g) : base ≤ g ∧ g < w.heap.size := by
  rcases h with ⟨h1, _⟩ | ⟨g', cap, f, h1, h2, h3, h5, h6⟩
  · subst h1; cases hg
  · subst h1; cases hg; exact ⟨h2, h5.lt⟩
theorem OtherB.gown {h : Option Nat} {w w' : World} (k : OtherB h w w') {base : Nat} {v : Value} {n : Nat} {x : Nat → Int} (r : SgOwn w base v n x) (hne : ∀ g, v.ownBlock = some g → some g ≠ h) : SgOwn w' base v n x := by
  rcases r with r | ⟨g, cap, f, h1, h2, h3, h5, h6⟩
  · exact .inl r
  · exact .inr ⟨g, cap, f, h1, h2, h3, k.row (hne g (by subst h1; rfl)) h5, h6⟩
theorem eqSegs_own {v v' : Value} {n : Nat} {x : Nat → Int} {b b' : Nat} (hn : n ≤ 1048576) (w : World) (h : SgOwn w b v n x) (h' : SgOwn w b' v' n x) : Calls Tryz.prog 10 #[v, v'] w (BoolP true w) := by
  obtain ⟨ao, cap, rfl, hI⟩ := h.in
  obtain ⟨bo, cap', rfl, hI'⟩ := h'.in
  exact eqSegS_any ao bo n cap cap' x hn w hI hI'
def mkS (i : Nat) : Int := (i : Int) + 1
set_option maxRecDepth 100000 in
set_option maxHeartbeats 4000000 in
theorem markSegO_any (v : Value) (n : Nat) (x : Nat → Int) (base : Nat) (hn : n ≤ 1048576) (w : World) (hO : SgOwn w base v n x) : Calls Tryz.prog 13 #[v, .int .i64 1] w (fun e w' => e = .returned (.int .i64 ((n : Int) * 4 + 1)) ∧ SgOwn w' base v n mkS ∧ OtherB v.ownBlock w w') := by
  rcases hO with ⟨rfl, rfl⟩ | ⟨g, cap, f, rfl, hg, hc, R, hf⟩
  · go_enter Tryz.func13, Tryz.ntmps13
    go_wp2_with fail
    go_loopw [1, 5] (fun o i wr => o = .int .i64 1 ∧ i = .int .i64 0 ∧ wr = w) (fun _ i _ => 0)
    case atStart => exact ⟨rfl, rfl, rfl⟩
    case round =>
      obtain ⟨rfl, rfl, rfl⟩ := hrel
      go_wp2
      go_ret
      exact ⟨rfl, .inl ⟨rfl, rfl⟩, OtherB.refl _ _⟩
  · have HR : Hid (w.rowIs g 53 (cap * 4) f ∧ ∀ i, i < n * 4 → f i = .int .i64 (x i)) := ⟨R, hf⟩
    clear R hf
    have hnI : (n : Int) ≤ 1048576 := by omega
    go_enter Tryz.func13, Tryz.ntmps13
    go_wp2_with fail
    go_loopw [1, 5] (fun o i wr => ∃ c : Nat, c ≤ n ∧ o = .int .i64 ((c : Int) * 4 + 1) ∧ i = .int .i64 c ∧ (∃ f, wr.rowIs g 53 (cap * 4) f ∧ (∀ i, i < n * 4 → ∃ z, f i = .int .i64 z) ∧ ∀ i, i < c * 4 → f i = .int .i64 ((i : Int) + 1)) ∧ OtherB (some g) w wr) (fun _ i _ => n - (intOf i).toNat)
    case atStart => exact ⟨0, by omega, rfl, rfl, ⟨f, HR.out.1, fun i hi => ⟨_, HR.out.2 i hi⟩, fun i hi => by omega⟩, OtherB.refl _ _⟩
    case round =>
      obtain ⟨c, hcn, rfl, rfl, ⟨f', R, hz, hd⟩, K⟩ := hrel
      by_cases hlt : c < n
      · have hcI : (c : Int) < n := by omega
        obtain ⟨z0, e0⟩ := hz (c * 4) (by omega)
        obtain ⟨z1, e1⟩ := hz (c * 4 + 1) (by omega)
        obtain ⟨z2, e2⟩ := hz (c * 4 + 2) (by omega)
        obtain ⟨z3, e3⟩ := hz (c * 4 + 3) (by omega)
        have o0 := R.cell (i := c * 4) (by omega); have o1 := R.cell (i := c * 4 + 1) (by omega); have o2 := R.cell (i := c * 4 + 2) (by omega); have o3 := R.cell (i := c * 4 + 3) (by omega)
        rw [e0] at o0
        rw [e1] at o1
        rw [e2] at o2
        rw [e3] at o3
        have f0 := R.frozen (c * 4); have f1 := R.frozen (c * 4 + 1); have f2 := R.frozen (c * 4 + 2); have f3 := R.frozen (c * 4 + 3)
        have RN := (((R.set (c * 4) (.int .i64 ((c : Int) * 4 + 1))).set (c * 4 + 1) (.int .i64 ((c : Int) * 4 + 1 + 1))).set (c * 4 + 2) (.int .i64 ((c : Int) * 4 + 1 + 1 + 1))).set (c * 4 + 3) (.int .i64 ((c : Int) * 4 + 1 + 1 + 1 + 1))
        have KN := (((K.set (c * 4) (.int .i64 ((c : Int) * 4 + 1))).set (c * 4 + 1) (.int .i64 ((c : Int) * 4 + 1 + 1))).set (c * 4 + 2) (.int .i64 ((c : Int) * 4 + 1 + 1 + 1))).set (c * 4 + 3) (.int .i64 ((c : Int) * 4 + 1 + 1 + 1 + 1))
        have RD : Hid (∃ f2, ((((wr.setCell ⟨g, c * 4, none⟩ (.int .i64 ((c : Int) * 4 + 1))).setCell ⟨g, c * 4 + 1, none⟩ (.int .i64 ((c : Int) * 4 + 1 + 1))).setCell ⟨g, c * 4 + 2, none⟩ (.int .i64 ((c : Int) * 4 + 1 + 1 + 1))).setCell ⟨g, c * 4 + 3, none⟩ (.int .i64 ((c : Int) * 4 + 1 + 1 + 1 + 1))).rowIs g 53 (cap * 4) f2 ∧ (∀ i, i < n * 4 → ∃ z, f2 i = .int .i64 z) ∧ ∀ i, i < (c + 1) * 4 → f2 i = .int .i64 ((i : Int) + 1)) :=
          ⟨_, RN, fun i hi => by
            show ∃ z, (if i = c * 4 + 3 then _ else if i = c * 4 + 2 then _ else if i = c * 4 + 1 then _ else if i = c * 4 then _ else f' i) = Value.int .i64 z
            split
            · exact ⟨_, rfl⟩
            · split
              · exact ⟨_, rfl⟩
              · split
                · exact ⟨_, rfl⟩
                · split
                  · exact ⟨_, rfl⟩
                  · exact hz i hi, fun i hi => by
            show (if i = c * 4 + 3 then Value.int .i64 ((c : Int) * 4 + 1 + 1 + 1 + 1) else if i = c * 4 + 2 then Value.int .i64 ((c : Int) * 4 + 1 + 1 + 1) else if i = c * 4 + 1 then Value.int .i64 ((c : Int) * 4 + 1 + 1) else if i = c * 4 then Value.int .i64 ((c : Int) * 4 + 1) else f' i) = Value.int .i64 ((i : Int) + 1)
            split
            · congr 1; omega
            · split
              · congr 1; omega
              · split
                · congr 1; omega
                · split
                  · congr 1; omega
                  · exact hd i (by omega)⟩
        clear R K hz hd e0 e1 e2 e3 RN
        go_wp2
        go_roundw
        case rel => exact ⟨c + 1, by omega, by go_num, by go_num, RD.out, KN⟩
        case measure => simp [intOf]; omega
      · obtain rfl : c = n := by omega
        have HF : Hid (∀ i, i < c * 4 → f' i = .int .i64 (mkS i)) := fun i hi => by rw [hd i hi]; rfl
        clear hz hd
        go_wp2
        go_ret
        exact ⟨rfl, .inr ⟨g, cap, f', rfl, hg, hc, R, HF.out⟩, K⟩
set_option maxRecDepth 100000 in
set_option maxHeartbeats 2000000 in
theorem heldSegO_any (v : Value) (n : Nat) (base : Nat) (hn : n ≤ 1048576) (w : World) (hO : SgOwn w base v n mkS) : Calls Tryz.prog 14 #[v, .int .i64 1] w (VP (.int .i64 ((n : Int) * 4 + 1)) w) := by
  obtain ⟨ao, cap, rfl, HI⟩ := hO.in
  have HR : Hid (SegIn w ao n mkS) := HI
  clear HI hO
  have hnI : (n : Int) ≤ 1048576 := by omega
  go_enter Tryz.func14, Tryz.ntmps14
  go_wp2_with fail
  go_loopw [1, 5] (fun o i wr => ∃ c : Nat, c ≤ n ∧ o = .int .i64 ((c : Int) * 4 + 1) ∧ i = .int .i64 c ∧ Below w.heap.size w wr) (fun _ i _ => n - (intOf i).toNat)
  case atStart => exact ⟨0, by omega, rfl, rfl, Below.refl _ _⟩
  case round =>
    obtain ⟨c, hcn, rfl, rfl, HB⟩ := hrel
    by_cases hlt : c < n
    · have hcI : (c : Int) < n := by omega
      obtain ⟨A, off, rfl, hA, hcell⟩ := HR.out.step HB c hlt
      have q0 : wr.cell? ⟨A, off + c * 4, none⟩ = some (.int .i64 ((c : Int) * 4 + 1)) := (hcell 0 (by omega)).trans (by unfold mkS; congr 2)
      have q1 : wr.cell? ⟨A, off + c * 4 + 1, none⟩ = some (.int .i64 ((c : Int) * 4 + 1 + 1)) := (hcell 1 (by omega)).trans (by unfold mkS; congr 2)
      have q2 : wr.cell? ⟨A, off + c * 4 + 2, none⟩ = some (.int .i64 ((c : Int) * 4 + 1 + 1 + 1)) := (hcell 2 (by omega)).trans (by unfold mkS; congr 2)
      have q3 : wr.cell? ⟨A, off + c * 4 + 3, none⟩ = some (.int .i64 ((c : Int) * 4 + 1 + 1 + 1 + 1)) := (hcell 3 (by omega)).trans (by unfold mkS; congr 2)
      clear hcell
      go_wp2
      go_roundw
      case rel => exact ⟨c + 1, by omega, by go_num, by go_num, HB⟩
      case measure => simp [intOf]; omega
    · obtain rfl : c = n := by omega
      go_wp2
      go_ret
      exact ⟨rfl, HB⟩
end Go.Proofs.YteakhlipmmfilaaGreat

/- What lies between two points: the reckoning, and the program's walks. -/
namespace Go.Proofs.YteakhlipmmfilaaGreat
open Go.RowKit
/-- Whether the third point lies between the two, as the model says it. -/
def btwS (x y z u v t a b c : Int) : Bool := if 0 < ordI x y z u v t then decide (ordI u v t a b c ≤ 0) && decide (ordI a b c x y z ≤ 0) && decide (turnI u v t x y z a b c = 0) else decide (ordI x y z a b c ≤ 0) && decide (ordI a b c u v t ≤ 0) && decide (turnI x y z u v t a b c = 0)
end Go.Proofs.YteakhlipmmfilaaGreat

/- What lies between two points: the program's walks. -/
namespace Go.Proofs.YteakhlipmmfilaaGreat
open Go.RowKit
end Go.Proofs.YteakhlipmmfilaaGreat

/- What lies between two points: the model's walk, and both sides. -/
namespace Go.Proofs.YteakhlipmmfilaaGreat
open Go.RowKit
end Go.Proofs.YteakhlipmmfilaaGreat

/- What lies between two points: both sides. -/
namespace Go.Proofs.YteakhlipmmfilaaGreat
open Go.RowKit
end Go.Proofs.YteakhlipmmfilaaGreat

/- Whether a point lies on a segment: both sides. -/
namespace Go.Proofs.YteakhlipmmfilaaGreat
open Go.RowKit
end Go.Proofs.YteakhlipmmfilaaGreat

/- Where a segment stands over a point: both sides. -/
namespace Go.Proofs.YteakhlipmmfilaaGreat
open Go.RowKit
end Go.Proofs.YteakhlipmmfilaaGreat

/- Where a segment stands over a point: the model's side. -/
namespace Go.Proofs.YteakhlipmmfilaaGreat
open Go.RowKit
end Go.Proofs.YteakhlipmmfilaaGreat

/- Where a segment stands over a point, whether the point lies on it, on which side it lies: the reckoning. -/
namespace Go.Proofs.YteakhlipmmfilaaGreat
open Go.RowKit
end Go.Proofs.YteakhlipmmfilaaGreat

/- What a way up and a way to the right cross: the reckoning. -/
namespace Go.Proofs.YteakhlipmmfilaaGreat
open Go.RowKit
/-- Whether a way straight to the right crosses it. -/
def ctB (x y z u v t a b c : Int) : Bool := if cmpI (v * z) (y * t) < 0 then decide (cmpI (v * c) (b * t) ≤ 0) && decide (cmpI (b * z) (y * c) < 0) && decide (0 < turnI u v t x y z a b c) else decide (cmpI (y * c) (b * z) ≤ 0) && decide (cmpI (b * t) (v * c) < 0) && decide (0 < turnI x y z u v t a b c)
end Go.Proofs.YteakhlipmmfilaaGreat

/- On which side of a ring a point lies: a way up and a way to the right cross its sides alike: the reckoning. -/
namespace Go.Proofs.YteakhlipmmfilaaGreat
open Go.RowKit
/-- Whether the point lies on a side, whether a way up crosses it, whether a way to the right does. -/
def onE (n : Nat) (p : Ps) (x y z : Int) (i : Nat) : Bool := btwS (sdA n p i).1 (sdA n p i).2.1 1 (sdA n p i).2.2.1 (sdA n p i).2.2.2 1 x y z
def ctE (n : Nat) (p : Ps) (x y z : Int) (i : Nat) : Bool := ctB (sdA n p i).1 (sdA n p i).2.1 1 (sdA n p i).2.2.1 (sdA n p i).2.2.2 1 x y z
def onR (n : Nat) (p : Ps) (x y z : Int) : Nat → Bool
  | 0 => false
  | d + 1 => onR n p x y z d || onE n p x y z d
def ctR (n : Nat) (p : Ps) (x y z : Int) : Nat → Bool
  | 0 => false
  | d + 1 => ctR n p x y z d ^^ ctE n p x y z d
/-- On which side of a ring a point lies. -/
def sdR (n : Nat) (p : Ps) (x y z : Int) : Int := if onR n p x y z n = true then 0 else if ctR n p x y z n = true then 1 else -1
end Go.Proofs.YteakhlipmmfilaaGreat

/- Operations that are guarded, in a region that is taken by a condition. -/
namespace Go.Proofs.YteakhlipmmfilaaGreat
variable {P : Program} {ops : Array Oper} {Q : Exit → Act → World → Prop}
theorem yielded_of {j d : Nat} {o : Oper} {t : Array Value} {b : Bool} (ho : ops[j]? = some o) (hd : o.dst = some d) (ht : t.getD d undef = .bool b) : yielded ops t j = some b := by
  have h : t[d]? = some (.bool b) := by
    rcases Nat.lt_or_ge d t.size with h | h
    · simpa [Array.getD, h] using ht
    · simp [Array.getD, Nat.not_lt.2 h, undef] at ht
  unfold yielded
  rw [ho]
  simp only [Option.bind_some, hd]
  rw [h]
theorem wpOp_off {i k d : Nat} {b : Bool} {o ok : Oper} {a : Act} {w : World} {K : Act → World → Prop} (ho : ops[i]? = some o) (hg : o.guard = some (k, b)) (hk : ops[k]? = some ok) (hd : ok.dst = some d) (ht : a.tmps.getD d undef = .bool (!b)) (h : K (a.put o.dst undef) w) : wpOp P ops Q i K a w := by
  unfold wpOp
  simp only [ho]
  have hw : Region.wanted o (yielded ops a.tmps) = false := by
    unfold Region.wanted
    rw [hg]
    simp only [yielded_of hk hd ht]
    cases b <;> rfl
  rw [hw]
  exact h
theorem wpOp_on {i k d : Nat} {b : Bool} {o ok : Oper} {a : Act} {w : World} {K : Act → World → Prop} (ho : ops[i]? = some o) (hg : o.guard = some (k, b)) (hk : ops[k]? = some ok) (hd : ok.dst = some d) (ht : a.tmps.getD d undef = .bool b) (h : o.wp P a w K Q) : wpOp P ops Q i K a w := by
  unfold wpOp
  simp only [ho]
  have hw : Region.wanted o (yielded ops a.tmps) = true := by
    unfold Region.wanted
    rw [hg]
    simp only [yielded_of hk hd ht]
    cases b <;> rfl
  rw [if_pos hw]
  exact .inl h
end Go.Proofs.YteakhlipmmfilaaGreat

/- A region that draws its order, by what each slot holds once its operation has come up: the general form. -/
namespace Go.Proofs.YteakhlipmmfilaaGreat
open Go.RowKit
variable {P : Program} {ops : Array Oper}
/-- No slot is written by two operations. -/
def distS : List (Option Nat) → Bool
  | [] => true
  | none :: r => distS r
  | some d :: r => !(r.contains (some d)) && distS r
theorem distS_inj : ∀ (S : List (Option Nat)) (i j d : Nat), distS S = true → S[i]? = some (some d) → S[j]? = some (some d) → i = j
  | [], i, _, _, _, h, _ => by simp at h
  | o :: r, i, j, d, hd, hi, hj => by
    have hr : distS r = true := by
      cases o with
      | none => exact hd
      | some d' => simp only [distS, Bool.and_eq_true] at hd; exact hd.2
    have hno : ∀ k, o = some d → r[k]? = some (some d) → False := fun k ho hk => by
      subst ho
      simp only [distS, Bool.and_eq_true, Bool.not_eq_true'] at hd
      have hm : some d ∈ r := List.mem_of_getElem? hk
      rw [← List.contains_iff_mem, hd.1] at hm
      cases hm
    match i, j with
    | 0, 0 => rfl
    | 0, j + 1 => exact (hno j (by simpa using hi) (by simpa using hj)).elim
    | i + 1, 0 => exact (hno i (by simpa using hj) (by simpa using hi)).elim
    | i + 1, j + 1 => exact congrArg (· + 1) (distS_inj r i j d hr (by simpa using hi) (by simpa using hj))
/-- What every operation keeps. -/
def InvQ (B : Nat) (S : List (Option Nat)) (V : Nat → Value → World → Prop) (w0 : World) (a0 : Act) (l : Array Bool) (a : Act) (W : World) : Prop :=
  l.size = S.length ∧ a.tmps.size = a0.tmps.size ∧ a.defers = a0.defers ∧ (∀ e, some e ∉ S → a.tmps[e]? = a0.tmps[e]?) ∧ Below B w0 W ∧ (∀ j d, l.getD j false = true → S[j]? = some (some d) → V j (a.tmps.getD d undef) W) ∧ (∀ j, l.getD j false = true → S[j]? = some none → V j undef W)
theorem getD_set_q {l : Array Bool} {i j : Nat} (h : (l.setIfInBounds i true).getD j false = true) (hne : j ≠ i) : l.getD j false = true := by
  rw [getD_set_ne false (Ne.symm hne)] at h
  exact h
theorem InvQ.put {B : Nat} {S : List (Option Nat)} {V : Nat → Value → World → Prop} {w0 : World} {a0 : Act} {l : Array Bool} {a : Act} {W W' : World} (h : InvQ B S V w0 a0 l a W) (hS : distS S = true) (i d : Nat) (hi : S[i]? = some (some d)) (hlt : d < a0.tmps.size)
    (hW : Below B w0 W') (hT : ∀ j v, V j v W → V j v W') (v : Value) (hv : V i v W') : InvQ B S V w0 a0 (l.setIfInBounds i true) (a.put (some d) v) W' := by
  obtain ⟨h1, h2, h3, h4, h5, h6, h7⟩ := h
  refine ⟨by simpa using h1, by simpa [Act.put] using h2, h3, fun e he => ?_, hW, fun j d' hj hd' => ?_, fun j hj hn => ?_⟩
  · have hne : d ≠ e := fun hh => he (hh ▸ List.mem_of_getElem? hi)
    simp only [Act.put]
    rw [Array.getElem?_setIfInBounds_ne hne]
    exact h4 e he
  · by_cases hji : j = i
    · subst hji
      rw [hi] at hd'
      cases hd'
      rw [put_getD_same (by omega)]
      exact hv
    · have hne : d ≠ d' := fun hh => hji (distS_inj S j i d hS (hh ▸ hd') hi)
      rw [put_getD_ne hne]
      exact hT _ _ (h6 j d' (getD_set_q hj hji) hd')
  · have hji : j ≠ i := fun hh => by subst hh; rw [hi] at hn; cases hn
    exact hT _ _ (h7 j (getD_set_q hj hji) hn)
theorem InvQ.world {B : Nat} {S : List (Option Nat)} {V : Nat → Value → World → Prop} {w0 : World} {a0 : Act} {l : Array Bool} {a : Act} {W W' : World} (h : InvQ B S V w0 a0 l a W) (i : Nat) (hi : S[i]? = some none)
    (hW : Below B w0 W') (hT : ∀ j v, V j v W → V j v W') (hv : V i undef W') : InvQ B S V w0 a0 (l.setIfInBounds i true) a W' := by
  obtain ⟨h1, h2, h3, h4, h5, h6, h7⟩ := h
  refine ⟨by simpa using h1, h2, h3, h4, hW, fun j d hj hd => ?_, fun j hj hn => ?_⟩
  · have hji : j ≠ i := fun hh => by subst hh; rw [hi] at hd; cases hd
    exact hT _ _ (h6 j d (getD_set_q hj hji) hd)
  · by_cases hji : j = i
    · subst hji; exact hv
    · exact hT _ _ (h7 j (getD_set_q hj hji) hn)
theorem wp_region_q {Q : Exit → Act → World → Prop} {id : Nat} {a0 : Act} {w0 : World} (hm : P.follows .mixedOrders = true) (B : Nat) (S : List (Option Nat)) (V : Nat → Value → World → Prop) (hSz : ops.size = S.length)
    (hs : ∀ (Q : Exit → Act → World → Prop) l a W i o, InvQ B S V w0 a0 l a W → l.getD i true = false → ops[i]? = some o → (∀ e ∈ o.after, Region.binds .any e = true → l.getD e.on false = true) → wpOp P ops Q i (InvQ B S V w0 a0 (l.setIfInBounds i true)) a W)
    (hd : ∀ l a W, InvQ B S V w0 a0 l a W → Region.ready .any ops l = [] → Q .normal a W) : (Code.region id ops true).wp P Q a0 w0 := by
  refine wp_region_inv hm (InvQ B S V w0 a0) ⟨by simpa using hSz, rfl, rfl, fun _ _ => rfl, (Below.refl _ w0).drew, fun j d hj => ?_, fun j hj => ?_⟩ (hs Q) hd
  all_goals
    exfalso
    rw [Array.getD_eq_getD_getElem?, Array.getElem?_replicate] at hj
    split at hj <;> simp at hj
/-- A block of so many cells. -/
def BlkN (W : World) (g n : Nat) : Prop := ∃ vs : List Value, vs.length = n ∧ Blk W g vs
theorem BlkN.step {W W' : World} {g n : Nat} (h : BlkN W g n) (hB : Below W.heap.size W W') : BlkN W' g n := by
  obtain ⟨vs, h1, h2⟩ := h
  exact ⟨vs, h1, h2.step hB⟩
theorem Blk.setA {W : World} {g : Nat} {vs : List Value} (h : Blk W g vs) (j : Nat) (u : Value) : Blk (W.setCell ⟨g, j, none⟩ u) g (vs.set j u) := by
  rcases Nat.lt_or_ge j vs.length with hj | hj
  · exact h.setI j hj u
  · refine ⟨by simpa [World.setCell] using h.1, fun i v hi => ?_⟩
    rw [List.set_eq_of_length_le hj] at hi
    have hne : i ≠ j := fun e => by
      subst e
      rw [List.getElem?_eq_none hj] at hi
      cases hi
    exact ⟨(World.cell?_setCell_other _ _ _ _ (by simp)).trans (h.c i hi), by simp [go_sem, h.f i hi]⟩
theorem BlkN.set {W : World} {g n : Nat} (h : BlkN W g n) (g' j : Nat) (u : Value) : BlkN (W.setCell ⟨g', j, none⟩ u) g n := by
  obtain ⟨vs, h1, h2⟩ := h
  by_cases hg : g = g'
  · subst hg
    exact ⟨vs.set j u, by simpa using h1, h2.setA j u⟩
  · exact ⟨vs, h1, h2.setO (p := ⟨g', j, none⟩) hg u⟩
end Go.Proofs.YteakhlipmmfilaaGreat

/- A region that draws its order, in a round of a range over a function: by what each slot holds. -/
namespace Go.Proofs.YteakhlipmmfilaaGreat
open Go.RowKit
variable {P : Program} {ops : Array Oper} {Q : Exit → Act → World → Prop} {md : Region.Mode} {F : Fence} {n : Nat}
end Go.Proofs.YteakhlipmmfilaaGreat

/- On which side of a ring a point lies: the program's region that asks whether a side is crossed. -/
namespace Go.Proofs.YteakhlipmmfilaaGreat
open Go.RowKit
def VregSideOn (c d x y z o : Int) (Bs : Nat) (_B : Nat) : Nat → Value → World → Prop
  | 0, v, _ => v = .int .i64 o
  | 1, v, _ => v = .bool true
  | 2, v, _ => v = .bool true
  | 3, v, _ => v = PV x y z
  | 4, v, _ => v = .pointer (some ⟨Bs, 2, none⟩)
  | 5, v, _ => v = Sp c d
  | 6, v, _ => v = PV c d 1
  | 7, v, _ => v = .int .i64 (cmpI (x * 1) (c * z))
  | 8, v, _ => v = .bool (decide (cmpI (x * 1) (c * z) < 0))
  | 9, v, _ => v = .bool (decide (cmpI (x * 1) (c * z) < 0))
  | _, _, _ => True
theorem VregSideOn.mono {c d x y z o : Int} {Bs : Nat} {B j : Nat} {v : Value} {W W2 : World} (_hS : ∀ g k, BlkN W g k → BlkN W2 g k) (h : VregSideOn c d x y z o Bs B j v W) : VregSideOn c d x y z o Bs B j v W2 := by
  unfold VregSideOn at *
  split <;> simp only at h <;> first | exact h | trivial
def VregSideOff (o : Int) (_B : Nat) : Nat → Value → World → Prop
  | 0, v, _ => v = .int .i64 o
  | 1, v, _ => v = .bool false
  | 2, v, _ => v = .bool false
  | 3, v, _ => v = undef
  | 4, v, _ => v = undef
  | 5, v, _ => v = undef
  | 6, v, _ => v = undef
  | 7, v, _ => v = undef
  | 8, v, _ => v = undef
  | 9, v, _ => v = .bool false
  | _, _, _ => True
theorem VregSideOff.mono {o : Int} {B j : Nat} {v : Value} {W W2 : World} (_hS : ∀ g k, BlkN W g k → BlkN W2 g k) (h : VregSideOff o B j v W) : VregSideOff o B j v W2 := by
  unfold VregSideOff at *
  split <;> simp only at h <;> first | exact h | trivial
end Go.Proofs.YteakhlipmmfilaaGreat

/- On which side of a ring a point lies: the program's walk. -/
namespace Go.Proofs.YteakhlipmmfilaaGreat
open Go.RowKit Go.Shelf
attribute [local go_sem] Oper.semAt_some
end Go.Proofs.YteakhlipmmfilaaGreat

/- Whether a way to the right crosses a line: the model's walk. -/
namespace Go.Proofs.YteakhlipmmfilaaGreat
open Go.RowKit
end Go.Proofs.YteakhlipmmfilaaGreat

/- Whether the sides of two rings meet: the model's region, by what each slot holds. -/
namespace Go.Proofs.YteakhlipmmfilaaGreat
open Go.RowKit
/-- The kind of meeting of a side of one ring and a side of another. -/
def kdX (n : Nat) (p : Ps) (m : Nat) (q : Ps) (i k : Nat) : Int := kndZ (sdA n p i).1 (sdA n p i).2.1 (sdA n p i).2.2.1 (sdA n p i).2.2.2 (sdA m q k).1 (sdA m q k).2.1 (sdA m q k).2.2.1 (sdA m q k).2.2.2
/-- Whether two rings meet. -/
def rmB (n : Nat) (p : Ps) (m : Nat) (q : Ps) : Bool := decide (¬ (∀ i, i < n → ∀ k, k < m → kdX n p m q i k = 0))
def VregMeet (ao bo : Option Addr) (n cap m cap2 : Nat) (p q : Ps) (c d : Nat) (B : Nat) : Nat → Value → World → Prop
  | 0, v, _ => v = .agg #[.slice ao n cap]
  | 1, v, _ => v = .int .i64 (c : Int)
  | 2, v, _ => v = Sg (sdA n p c).1 (sdA n p c).2.1 (sdA n p c).2.2.1 (sdA n p c).2.2.2
  | 3, v, _ => v = .agg #[.slice bo m cap2]
  | 4, v, _ => v = .int .i64 (d : Int)
  | 5, v, _ => v = Sg (sdA m q d).1 (sdA m q d).2.1 (sdA m q d).2.2.1 (sdA m q d).2.2.2
  | 6, v, _ => ∃ x y, Lp6 x ∧ Lp6 y ∧ v = .tuple #[.int .i64 (kdX n p m q c d), x, y]
  | 7, v, _ => ∃ x y, Lp6 x ∧ Lp6 y ∧ v = .tuple #[.int .i64 (kdX n p m q c d), x, y]
  | 8, v, _ => v = .int .i64 (kdX n p m q c d)
  | 9, v, _ => Lp6 v
  | 10, v, _ => Lp6 v
  | 11, v, W => ∃ g, v = .pointer (some ⟨g, 0, none⟩) ∧ B ≤ g ∧ BlkN W g 6
  | 12, v, W => ∃ g, v = .pointer (some ⟨g, 0, none⟩) ∧ B ≤ g ∧ BlkN W g 6
  | 13, v, _ => v = .int .i64 (kdX n p m q c d)
  | _, _, _ => True
theorem VregMeet.mono {ao bo : Option Addr} {n cap m cap2 : Nat} {p q : Ps} {c d : Nat} {B j : Nat} {v : Value} {W W2 : World} (hS : ∀ g k, BlkN W g k → BlkN W2 g k) (h : VregMeet ao bo n cap m cap2 p q c d B j v W) : VregMeet ao bo n cap m cap2 p q c d B j v W2 := by
  unfold VregMeet at *
  split <;> simp only at h <;> first | exact h | (obtain ⟨g, h1, h2, h3⟩ := h; exact ⟨g, h1, h2, hS g _ h3⟩) | trivial
set_option maxRecDepth 100000 in
set_option maxHeartbeats 4000000 in
theorem regMeet {Q : Exit → Act → World → Prop} {ao bo : Option Addr} {n cap m cap2 : Nat} {p q : Ps} {c d : Nat} {B1 B2 : Nat} {w0 : World} {a0 : Act} {id : Nat} {t0 t1 t2 t3 t4 t5 t6 t7 t8 t9 t10 t11 t12 t13 t14 t15 : TypeId} {q0 q1 q2 q3 q4 q5 q6 q7 q8 q9 q10 q11 q12 q13 q14 q15 : String}
    (hc : c < n) (hd : d < m) (hn : n ≤ 1048576) (hm : m ≤ 1048576) (hSp : SpIn w0 ao n p) (hSq : SpIn w0 bo m q) (i1 : In1 (sdA n p c).1) (i2 : In1 (sdA n p c).2.1) (i3 : In1 (sdA n p c).2.2.1) (i4 : In1 (sdA n p c).2.2.2) (j1 : In1 (sdA m q d).1) (j2 : In1 (sdA m q d).2.1) (j3 : In1 (sdA m q d).2.2.1) (j4 : In1 (sdA m q d).2.2.2) (h2 : a0.tmps[2]? = some (.pointer (some ⟨B1, 0, none⟩))) (h3 : a0.tmps[3]? = some (.pointer (some ⟨B2, 0, none⟩))) (h5 : a0.tmps[5]? = some (.int .i64 (c : Int))) (h6 : a0.tmps[6]? = some (.int .i64 (d : Int))) (k0 : w0.cell? ⟨B1, 0, none⟩ = some (.slice ao n cap)) (l0 : (⟨B1, 0, none⟩ : Addr).block < w0.heap.size) (k1 : w0.cell? ⟨B2, 0, none⟩ = some (.slice bo m cap2)) (l1 : (⟨B2, 0, none⟩ : Addr).block < w0.heap.size) (hz : a0.tmps.size = 37)
    (hQ : ∀ a W, a.tmps.size = a0.tmps.size → a.defers = a0.defers → (∀ e, e ∉ ([25, 26, 27, 28, 29, 30, 31, 24, 32, 33, 34, 8, 9, 7] : List Nat) → a.tmps[e]? = a0.tmps[e]?) → VregMeet ao bo n cap m cap2 p q c d w0.heap.size 13 (a.tmps.getD 7 undef) W → Below w0.heap.size w0 W → Q .normal a W) :
    (Code.region id #[{ dst := some 25, op := Op.load 57 (Operand.tmp 2), type := t0, pos := q0, after := #[], guard := none },
    { dst := some 26, op := Op.move (Operand.tmp 5), type := t1, pos := q1, after := #[], guard := none },
    { dst := some 27, op := Op.call { callee := Callee.value (Operand.func 29), args := #[Operand.tmp 25, Operand.tmp 26], argTypes := #[57, 3] }, type := t2, pos := q2, after := #[{ on := 0, ground := Ground.data }, { on := 1, ground := Ground.data }], guard := none },
    { dst := some 28, op := Op.load 57 (Operand.tmp 3), type := t3, pos := q3, after := #[], guard := none },
    { dst := some 29, op := Op.move (Operand.tmp 6), type := t4, pos := q4, after := #[], guard := none },
    { dst := some 30, op := Op.call { callee := Callee.value (Operand.func 29), args := #[Operand.tmp 28, Operand.tmp 29], argTypes := #[57, 3] }, type := t5, pos := q5, after := #[{ on := 3, ground := Ground.data }, { on := 4, ground := Ground.data }, { on := 2, ground := Ground.chain }], guard := none },
    { dst := some 31, op := Op.call { callee := Callee.value (Operand.func 50), args := #[Operand.tmp 27, Operand.tmp 30], argTypes := #[53, 53] }, type := t6, pos := q6, after := #[{ on := 2, ground := Ground.data }, { on := 5, ground := Ground.data }, { on := 5, ground := Ground.chain }], guard := none },
    { dst := some 24, op := Op.move (Operand.tmp 31), type := t7, pos := q7, after := #[{ on := 6, ground := Ground.data }], guard := none },
    { dst := some 32, op := Op.extract (Operand.tmp 24) 0, type := t8, pos := q8, after := #[{ on := 7, ground := Ground.data }], guard := none },
    { dst := some 33, op := Op.extract (Operand.tmp 24) 1, type := t9, pos := q9, after := #[{ on := 7, ground := Ground.data }, { on := 13, ground := Ground.gcOnly Departure.lateStores }], guard := none },
    { dst := some 34, op := Op.extract (Operand.tmp 24) 2, type := t10, pos := q10, after := #[{ on := 7, ground := Ground.data }, { on := 14, ground := Ground.gcOnly Departure.lateStores }], guard := none },
    { dst := some 8, op := Op.alloc 90, type := t11, pos := q11, after := #[], guard := none },
    { dst := some 9, op := Op.alloc 90, type := t12, pos := q12, after := #[], guard := none },
    { dst := some 7, op := Op.assign (Operand.tmp 32), type := t13, pos := q13, after := #[{ on := 8, ground := Ground.data }, { on := 6, ground := Ground.chain }, { on := 0, ground := Ground.phase }, { on := 1, ground := Ground.phase }, { on := 2, ground := Ground.phase }, { on := 3, ground := Ground.phase }, { on := 4, ground := Ground.phase }, { on := 5, ground := Ground.phase }, { on := 6, ground := Ground.phase }, { on := 7, ground := Ground.phase }, { on := 8, ground := Ground.phase }, { on := 9, ground := Ground.textOnly Departure.lateStores }, { on := 10, ground := Ground.textOnly Departure.lateStores }, { on := 11, ground := Ground.phase }, { on := 12, ground := Ground.phase }], guard := none },
    { dst := none, op := Op.store 90 (Operand.tmp 8) (Operand.tmp 33), type := t14, pos := q14, after := #[{ on := 11, ground := Ground.data }, { on := 9, ground := Ground.data }, { on := 13, ground := Ground.chain }, { on := 0, ground := Ground.phase }, { on := 1, ground := Ground.phase }, { on := 2, ground := Ground.phase }, { on := 3, ground := Ground.phase }, { on := 4, ground := Ground.phase }, { on := 5, ground := Ground.phase }, { on := 6, ground := Ground.phase }, { on := 7, ground := Ground.phase }, { on := 8, ground := Ground.phase }, { on := 9, ground := Ground.phase }, { on := 10, ground := Ground.textOnly Departure.lateStores }, { on := 11, ground := Ground.phase }, { on := 12, ground := Ground.phase }, { on := 13, ground := Ground.phase }], guard := none },
    { dst := none, op := Op.store 90 (Operand.tmp 9) (Operand.tmp 34), type := t15, pos := q15, after := #[{ on := 12, ground := Ground.data }, { on := 10, ground := Ground.data }, { on := 14, ground := Ground.chain }, { on := 0, ground := Ground.phase }, { on := 1, ground := Ground.phase }, { on := 2, ground := Ground.phase }, { on := 3, ground := Ground.phase }, { on := 4, ground := Ground.phase }, { on := 5, ground := Ground.phase }, { on := 6, ground := Ground.phase }, { on := 7, ground := Ground.phase }, { on := 8, ground := Ground.phase }, { on := 9, ground := Ground.phase }, { on := 10, ground := Ground.phase }, { on := 11, ground := Ground.phase }, { on := 12, ground := Ground.phase }, { on := 13, ground := Ground.phase }, { on := 14, ground := Ground.phase }], guard := none }] true).wp Tryz.prog Q a0 w0 := by
  have hS : distS [some 25, some 26, some 27, some 28, some 29, some 30, some 31, some 24, some 32, some 33, some 34, some 8, some 9, some 7, none, none] = true := rfl
  refine wp_region_q (by kernel_rfl) w0.heap.size [some 25, some 26, some 27, some 28, some 29, some 30, some 31, some 24, some 32, some 33, some 34, some 8, some 9, some 7, none, none] (VregMeet ao bo n cap m cap2 p q c d w0.heap.size) rfl ?_ ?_
  · intro Q l a W i o hJ hl ho hall
    have hJ2 := hJ
    obtain ⟨z1, z2, z3, z4, z5, z6, z7⟩ := hJ
    have g2 : a.tmps.getD 2 undef = .pointer (some ⟨B1, 0, none⟩) := by rw [Array.getD_eq_getD_getElem?, z4 2 (by decide), h2]; rfl
    have g3 : a.tmps.getD 3 undef = .pointer (some ⟨B2, 0, none⟩) := by rw [Array.getD_eq_getD_getElem?, z4 3 (by decide), h3]; rfl
    have g5 : a.tmps.getD 5 undef = .int .i64 (c : Int) := by rw [Array.getD_eq_getD_getElem?, z4 5 (by decide), h5]; rfl
    have g6 : a.tmps.getD 6 undef = .int .i64 (d : Int) := by rw [Array.getD_eq_getD_getElem?, z4 6 (by decide), h6]; rfl
    have c0 : W.cell? ⟨B1, 0, none⟩ = some (.slice ao n cap) := (z5.cell l0).trans k0
    have c1 : W.cell? ⟨B2, 0, none⟩ = some (.slice bo m cap2) := (z5.cell l1).trans k1
    match i, ho with
    | 0, ho =>
      cases ho
      refine wpOp_of rfl rfl ?_
      have hK := fun (v : Value) (W2 : World) hW hT hv => hJ2.put hS 0 25 rfl (by omega) (W' := W2) hW hT v hv
      clear ho hall hl hQ
      generalize InvQ w0.heap.size [some 25, some 26, some 27, some 28, some 29, some 30, some 31, some 24, some 32, some 33, some 34, some 8, some 9, some 7, none, none] (VregMeet ao bo n cap m cap2 p q c d w0.heap.size) w0 a0 (l.setIfInBounds 0 true) = K at hK ⊢
      clear hJ2 hS z1 z2 z3 z4 z6 z7
      go_simp
      exact hK _ _ z5 (fun _ _ h => h) rfl
    | 1, ho =>
      cases ho
      refine wpOp_of rfl rfl ?_
      have hK := fun (v : Value) (W2 : World) hW hT hv => hJ2.put hS 1 26 rfl (by omega) (W' := W2) hW hT v hv
      clear ho hall hl hQ
      generalize InvQ w0.heap.size [some 25, some 26, some 27, some 28, some 29, some 30, some 31, some 24, some 32, some 33, some 34, some 8, some 9, some 7, none, none] (VregMeet ao bo n cap m cap2 p q c d w0.heap.size) w0 a0 (l.setIfInBounds 1 true) = K at hK ⊢
      clear hJ2 hS z1 z2 z3 z4 z6 z7
      go_simp
      exact hK _ _ z5 (fun _ _ h => h) rfl
    | 2, ho =>
      cases ho
      refine wpOp_of rfl rfl ?_
      have f0 : (a.tmps.getD 25 undef) = .agg #[.slice ao n cap] := z6 0 25 (hall { on := 0, ground := Ground.data } (by simp) rfl) rfl
      have f1 : (a.tmps.getD 26 undef) = .int .i64 (c : Int) := z6 1 26 (hall { on := 1, ground := Ground.data } (by simp) rfl) rfl
      have hK := fun (v : Value) (W2 : World) hW hT hv => hJ2.put hS 2 27 rfl (by omega) (W' := W2) hW hT v hv
      clear ho hall hl hQ
      generalize InvQ w0.heap.size [some 25, some 26, some 27, some 28, some 29, some 30, some 31, some 24, some 32, some 33, some 34, some 8, some 9, some 7, none, none] (VregMeet ao bo n cap m cap2 p q c d w0.heap.size) w0 a0 (l.setIfInBounds 2 true) = K at hK ⊢
      clear hJ2 hS z1 z2 z3 z4 z6 z7
      go_simp
      refine (l5Side_any ao n cap p c hc hn W (hSp.step z5)).mono ?_
      rintro e v1 ⟨rfl, hBv⟩
      exact hK _ _ (z5.trans (hBv.mono z5.size)) (fun j v h => h.mono fun g k hg => hg.step hBv) rfl
    | 3, ho =>
      cases ho
      refine wpOp_of rfl rfl ?_
      have hK := fun (v : Value) (W2 : World) hW hT hv => hJ2.put hS 3 28 rfl (by omega) (W' := W2) hW hT v hv
      clear ho hall hl hQ
      generalize InvQ w0.heap.size [some 25, some 26, some 27, some 28, some 29, some 30, some 31, some 24, some 32, some 33, some 34, some 8, some 9, some 7, none, none] (VregMeet ao bo n cap m cap2 p q c d w0.heap.size) w0 a0 (l.setIfInBounds 3 true) = K at hK ⊢
      clear hJ2 hS z1 z2 z3 z4 z6 z7
      go_simp
      exact hK _ _ z5 (fun _ _ h => h) rfl
    | 4, ho =>
      cases ho
      refine wpOp_of rfl rfl ?_
      have hK := fun (v : Value) (W2 : World) hW hT hv => hJ2.put hS 4 29 rfl (by omega) (W' := W2) hW hT v hv
      clear ho hall hl hQ
      generalize InvQ w0.heap.size [some 25, some 26, some 27, some 28, some 29, some 30, some 31, some 24, some 32, some 33, some 34, some 8, some 9, some 7, none, none] (VregMeet ao bo n cap m cap2 p q c d w0.heap.size) w0 a0 (l.setIfInBounds 4 true) = K at hK ⊢
      clear hJ2 hS z1 z2 z3 z4 z6 z7
      go_simp
      exact hK _ _ z5 (fun _ _ h => h) rfl
    | 5, ho =>
      cases ho
      refine wpOp_of rfl rfl ?_
      have f3 : (a.tmps.getD 28 undef) = .agg #[.slice bo m cap2] := z6 3 28 (hall { on := 3, ground := Ground.data } (by simp) rfl) rfl
      have f4 : (a.tmps.getD 29 undef) = .int .i64 (d : Int) := z6 4 29 (hall { on := 4, ground := Ground.data } (by simp) rfl) rfl
      have hK := fun (v : Value) (W2 : World) hW hT hv => hJ2.put hS 5 30 rfl (by omega) (W' := W2) hW hT v hv
      clear ho hall hl hQ
      generalize InvQ w0.heap.size [some 25, some 26, some 27, some 28, some 29, some 30, some 31, some 24, some 32, some 33, some 34, some 8, some 9, some 7, none, none] (VregMeet ao bo n cap m cap2 p q c d w0.heap.size) w0 a0 (l.setIfInBounds 5 true) = K at hK ⊢
      clear hJ2 hS z1 z2 z3 z4 z6 z7
      go_simp
      refine (l5Side_any bo m cap2 q d hd hm W (hSq.step z5)).mono ?_
      rintro e v1 ⟨rfl, hBv⟩
      exact hK _ _ (z5.trans (hBv.mono z5.size)) (fun j v h => h.mono fun g k hg => hg.step hBv) rfl
    | 6, ho =>
      cases ho
      refine wpOp_of rfl rfl ?_
      have f2 : (a.tmps.getD 27 undef) = Sg (sdA n p c).1 (sdA n p c).2.1 (sdA n p c).2.2.1 (sdA n p c).2.2.2 := z6 2 27 (hall { on := 2, ground := Ground.data } (by simp) rfl) rfl
      have f5 : (a.tmps.getD 30 undef) = Sg (sdA m q d).1 (sdA m q d).2.1 (sdA m q d).2.2.1 (sdA m q d).2.2.2 := z6 5 30 (hall { on := 5, ground := Ground.data } (by simp) rfl) rfl
      have hK := fun (v : Value) (W2 : World) hW hT hv => hJ2.put hS 6 31 rfl (by omega) (W' := W2) hW hT v hv
      clear ho hall hl hQ
      generalize InvQ w0.heap.size [some 25, some 26, some 27, some 28, some 29, some 30, some 31, some 24, some 32, some 33, some 34, some 8, some 9, some 7, none, none] (VregMeet ao bo n cap m cap2 p q c d w0.heap.size) w0 a0 (l.setIfInBounds 6 true) = K at hK ⊢
      clear hJ2 hS z1 z2 z3 z4 z6 z7
      go_simp
      refine (l4Meet_any (sdA n p c).1 (sdA n p c).2.1 (sdA n p c).2.2.1 (sdA n p c).2.2.2 (sdA m q d).1 (sdA m q d).2.1 (sdA m q d).2.2.1 (sdA m q d).2.2.2 i1 i2 i3 i4 j1 j2 j3 j4 W).mono ?_
      rintro e v3 hmt
      obtain ⟨⟨f1, f2, f3, g1, g2, g3, k1, k2, k3, l1, l2, l3, m1, m2, m3, x1, x2, x3, y1, y2, y3, z1, z2, z3, rfl⟩, hBv⟩ := mtP_kind hmt
      exact hK _ _ (z5.trans (hBv.mono z5.size)) (fun j v h => h.mono fun g k hg => hg.step hBv) ⟨_, _, ⟨_, _, _, _, _, _, _, _, _, _, _, _, rfl⟩, ⟨_, _, _, _, _, _, _, _, _, _, _, _, rfl⟩, rfl⟩
    | 7, ho =>
      cases ho
      refine wpOp_of rfl rfl ?_
      have f6 : ∃ x y, Lp6 x ∧ Lp6 y ∧ (a.tmps.getD 31 undef) = .tuple #[.int .i64 (kdX n p m q c d), x, y] := z6 6 31 (hall { on := 6, ground := Ground.data } (by simp) rfl) rfl
      obtain ⟨x, y, hx, hy, he⟩ := f6
      have hK := fun (v : Value) (W2 : World) hW hT hv => hJ2.put hS 7 24 rfl (by omega) (W' := W2) hW hT v hv
      clear ho hall hl hQ
      generalize InvQ w0.heap.size [some 25, some 26, some 27, some 28, some 29, some 30, some 31, some 24, some 32, some 33, some 34, some 8, some 9, some 7, none, none] (VregMeet ao bo n cap m cap2 p q c d w0.heap.size) w0 a0 (l.setIfInBounds 7 true) = K at hK ⊢
      clear hJ2 hS z1 z2 z3 z4 z6 z7
      go_simp
      exact hK _ _ z5 (fun _ _ h => h) ⟨x, y, hx, hy, rfl⟩
    | 8, ho =>
      cases ho
      refine wpOp_of rfl rfl ?_
      have f7 : ∃ x y, Lp6 x ∧ Lp6 y ∧ (a.tmps.getD 24 undef) = .tuple #[.int .i64 (kdX n p m q c d), x, y] := z6 7 24 (hall { on := 7, ground := Ground.data } (by simp) rfl) rfl
      obtain ⟨x, y, hx, hy, he⟩ := f7
      have hK := fun (v : Value) (W2 : World) hW hT hv => hJ2.put hS 8 32 rfl (by omega) (W' := W2) hW hT v hv
      clear ho hall hl hQ
      generalize InvQ w0.heap.size [some 25, some 26, some 27, some 28, some 29, some 30, some 31, some 24, some 32, some 33, some 34, some 8, some 9, some 7, none, none] (VregMeet ao bo n cap m cap2 p q c d w0.heap.size) w0 a0 (l.setIfInBounds 8 true) = K at hK ⊢
      clear hJ2 hS z1 z2 z3 z4 z6 z7
      go_simp
      exact hK _ _ z5 (fun _ _ h => h) rfl
    | 9, ho =>
      cases ho
      refine wpOp_of rfl rfl ?_
      have f7 : ∃ x y, Lp6 x ∧ Lp6 y ∧ (a.tmps.getD 24 undef) = .tuple #[.int .i64 (kdX n p m q c d), x, y] := z6 7 24 (hall { on := 7, ground := Ground.data } (by simp) rfl) rfl
      obtain ⟨x, y, hx, hy, he⟩ := f7
      have hK := fun (v : Value) (W2 : World) hW hT hv => hJ2.put hS 9 33 rfl (by omega) (W' := W2) hW hT v hv
      clear ho hall hl hQ
      generalize InvQ w0.heap.size [some 25, some 26, some 27, some 28, some 29, some 30, some 31, some 24, some 32, some 33, some 34, some 8, some 9, some 7, none, none] (VregMeet ao bo n cap m cap2 p q c d w0.heap.size) w0 a0 (l.setIfInBounds 9 true) = K at hK ⊢
      clear hJ2 hS z1 z2 z3 z4 z6 z7
      go_simp
      exact hK _ _ z5 (fun _ _ h => h) hx
    | 10, ho =>
      cases ho
      refine wpOp_of rfl rfl ?_
      have f7 : ∃ x y, Lp6 x ∧ Lp6 y ∧ (a.tmps.getD 24 undef) = .tuple #[.int .i64 (kdX n p m q c d), x, y] := z6 7 24 (hall { on := 7, ground := Ground.data } (by simp) rfl) rfl
      obtain ⟨x, y, hx, hy, he⟩ := f7
      have hK := fun (v : Value) (W2 : World) hW hT hv => hJ2.put hS 10 34 rfl (by omega) (W' := W2) hW hT v hv
      clear ho hall hl hQ
      generalize InvQ w0.heap.size [some 25, some 26, some 27, some 28, some 29, some 30, some 31, some 24, some 32, some 33, some 34, some 8, some 9, some 7, none, none] (VregMeet ao bo n cap m cap2 p q c d w0.heap.size) w0 a0 (l.setIfInBounds 10 true) = K at hK ⊢
      clear hJ2 hS z1 z2 z3 z4 z6 z7
      go_simp
      exact hK _ _ z5 (fun _ _ h => h) hy
    | 11, ho =>
      cases ho
      refine wpOp_of rfl rfl ?_
      have hK := fun (v : Value) (W2 : World) hW hT hv => hJ2.put hS 11 8 rfl (by omega) (W' := W2) hW hT v hv
      clear ho hall hl hQ
      generalize InvQ w0.heap.size [some 25, some 26, some 27, some 28, some 29, some 30, some 31, some 24, some 32, some 33, some 34, some 8, some 9, some 7, none, none] (VregMeet ao bo n cap m cap2 p q c d w0.heap.size) w0 a0 (l.setIfInBounds 11 true) = K at hK ⊢
      clear hJ2 hS z1 z2 z3 z4 z6 z7
      go_simp
      exact hK _ _ (z5.alloc z5.size _) (fun j v h => h.mono fun g k hg => hg.step ((Below.refl _ _).alloc (Nat.le_refl _) _)) ⟨_, rfl, z5.size, _, rfl, Blk.new W [.bool false, .slice none 0 0, .bool false, .slice none 0 0, .bool false, .slice none 0 0] 90 rfl⟩
    | 12, ho =>
      cases ho
      refine wpOp_of rfl rfl ?_
      have hK := fun (v : Value) (W2 : World) hW hT hv => hJ2.put hS 12 9 rfl (by omega) (W' := W2) hW hT v hv
      clear ho hall hl hQ
      generalize InvQ w0.heap.size [some 25, some 26, some 27, some 28, some 29, some 30, some 31, some 24, some 32, some 33, some 34, some 8, some 9, some 7, none, none] (VregMeet ao bo n cap m cap2 p q c d w0.heap.size) w0 a0 (l.setIfInBounds 12 true) = K at hK ⊢
      clear hJ2 hS z1 z2 z3 z4 z6 z7
      go_simp
      exact hK _ _ (z5.alloc z5.size _) (fun j v h => h.mono fun g k hg => hg.step ((Below.refl _ _).alloc (Nat.le_refl _) _)) ⟨_, rfl, z5.size, _, rfl, Blk.new W [.bool false, .slice none 0 0, .bool false, .slice none 0 0, .bool false, .slice none 0 0] 90 rfl⟩
    | 13, ho =>
      cases ho
      refine wpOp_of rfl rfl ?_
      have f8 : (a.tmps.getD 32 undef) = .int .i64 (kdX n p m q c d) := z6 8 32 (hall { on := 8, ground := Ground.data } (by simp) rfl) rfl
      have hK := fun (v : Value) (W2 : World) hW hT hv => hJ2.put hS 13 7 rfl (by omega) (W' := W2) hW hT v hv
      clear ho hall hl hQ
      generalize InvQ w0.heap.size [some 25, some 26, some 27, some 28, some 29, some 30, some 31, some 24, some 32, some 33, some 34, some 8, some 9, some 7, none, none] (VregMeet ao bo n cap m cap2 p q c d w0.heap.size) w0 a0 (l.setIfInBounds 13 true) = K at hK ⊢
      clear hJ2 hS z1 z2 z3 z4 z6 z7
      go_simp
      exact hK _ _ z5 (fun _ _ h => h) rfl
    | 14, ho =>
      cases ho
      refine wpOp_of rfl rfl ?_
      have f11 : ∃ g, (a.tmps.getD 8 undef) = .pointer (some ⟨g, 0, none⟩) ∧ w0.heap.size ≤ g ∧ BlkN W g 6 := z6 11 8 (hall { on := 11, ground := Ground.data } (by simp) rfl) rfl
      obtain ⟨g, hg, hgB, vs, hvs, G⟩ := f11
      have f9 : Lp6 (a.tmps.getD 33 undef) := z6 9 33 (hall { on := 9, ground := Ground.data } (by simp) rfl) rfl
      obtain ⟨s1, s2, s3, k1, k2, k3, m1, m2, m3, x1, x2, x3, hx⟩ := f9
      have hK := fun (W2 : World) hW hT hv => hJ2.world 14 rfl (W' := W2) hW hT hv
      clear ho hall hl hQ
      generalize InvQ w0.heap.size [some 25, some 26, some 27, some 28, some 29, some 30, some 31, some 24, some 32, some 33, some 34, some 8, some 9, some 7, none, none] (VregMeet ao bo n cap m cap2 p q c d w0.heap.size) w0 a0 (l.setIfInBounds 14 true) = K at hK ⊢
      clear hJ2 hS z1 z2 z3 z4 z6 z7
      obtain ⟨v0, v1, v2, v3, v4, v5, rfl⟩ : ∃ v0 v1 v2 v3 v4 v5, vs = [v0, v1, v2, v3, v4, v5] := by match vs, hvs with | [v0, v1, v2, v3, v4, v5], _ => exact ⟨_, _, _, _, _, _, rfl⟩
      have b0 := G.c 0 rfl; have r0 := G.f 0 rfl
      have b1 := G.c 1 rfl; have r1 := G.f 1 rfl
      have b2 := G.c 2 rfl; have r2 := G.f 2 rfl
      have b3 := G.c 3 rfl; have r3 := G.f 3 rfl
      have b4 := G.c 4 rfl; have r4 := G.f 4 rfl
      have b5 := G.c 5 rfl; have r5 := G.f 5 rfl
      have hlt := G.lt
      clear G
      go_simp
      exact hK _ (below_set6 z5 hgB) (fun j v h => h.mono fun g2 k hg => (((((hg.set _ 0 _).set _ 1 _).set _ 2 _).set _ 3 _).set _ 4 _).set _ 5 _) trivial
    | 15, ho =>
      cases ho
      refine wpOp_of rfl rfl ?_
      have f12 : ∃ g, (a.tmps.getD 9 undef) = .pointer (some ⟨g, 0, none⟩) ∧ w0.heap.size ≤ g ∧ BlkN W g 6 := z6 12 9 (hall { on := 12, ground := Ground.data } (by simp) rfl) rfl
      obtain ⟨g, hg, hgB, vs, hvs, G⟩ := f12
      have f10 : Lp6 (a.tmps.getD 34 undef) := z6 10 34 (hall { on := 10, ground := Ground.data } (by simp) rfl) rfl
      obtain ⟨s1, s2, s3, k1, k2, k3, m1, m2, m3, x1, x2, x3, hx⟩ := f10
      have hK := fun (W2 : World) hW hT hv => hJ2.world 15 rfl (W' := W2) hW hT hv
      clear ho hall hl hQ
      generalize InvQ w0.heap.size [some 25, some 26, some 27, some 28, some 29, some 30, some 31, some 24, some 32, some 33, some 34, some 8, some 9, some 7, none, none] (VregMeet ao bo n cap m cap2 p q c d w0.heap.size) w0 a0 (l.setIfInBounds 15 true) = K at hK ⊢
      clear hJ2 hS z1 z2 z3 z4 z6 z7
      obtain ⟨v0, v1, v2, v3, v4, v5, rfl⟩ : ∃ v0 v1 v2 v3 v4 v5, vs = [v0, v1, v2, v3, v4, v5] := by match vs, hvs with | [v0, v1, v2, v3, v4, v5], _ => exact ⟨_, _, _, _, _, _, rfl⟩
      have b0 := G.c 0 rfl; have r0 := G.f 0 rfl
      have b1 := G.c 1 rfl; have r1 := G.f 1 rfl
      have b2 := G.c 2 rfl; have r2 := G.f 2 rfl
      have b3 := G.c 3 rfl; have r3 := G.f 3 rfl
      have b4 := G.c 4 rfl; have r4 := G.f 4 rfl
      have b5 := G.c 5 rfl; have r5 := G.f 5 rfl
      have hlt := G.lt
      clear G
      go_simp
      exact hK _ (below_set6 z5 hgB) (fun j v h => h.mono fun g2 k hg => (((((hg.set _ 0 _).set _ 1 _).set _ 2 _).set _ 3 _).set _ 4 _).set _ 5 _) trivial
    | i + 16, ho => simp at ho
  · intro l a W hJ hr
    obtain ⟨z1, z2, z3, z4, z5, z6, z7⟩ := hJ
    have hl := listed_of hr [0, 1, 2, 3, 4, 5, 6, 7, 8, 11, 12, 13] [] (by simp) (by kernel_rfl) (by rw [z1]; decide)
    exact hQ a W z2 z3 (fun e he => z4 e (by simpa using he)) (z6 13 7 (hl 13 (by simp)) rfl) z5
end Go.Proofs.YteakhlipmmfilaaGreat

/- Whether two rings meet: the model's walk. -/
namespace Go.Proofs.YteakhlipmmfilaaGreat
open Go.RowKit
/-- What is asked of a ring whose sides are gone through. -/
structure RgOk (n : Nat) (p : Ps) : Prop where
  h3 : 3 ≤ n
  h12 : n ≤ 12
  ok : ∀ i, i < n → spotOk (p i).1 (p i).2 = true
  one : OneN n p
theorem rgF_ok {n : Nat} {p : Ps} (h : rgF n p = 0) : RgOk n p := by
  unfold rgF at h
  repeat' split at h
  all_goals first | omega | skip
  rename_i h1 h2 h3 h4 h5
  exact ⟨by omega, by omega, Decidable.not_not.1 h3, Decidable.not_not.1 h4⟩
set_option maxRecDepth 100000 in
set_option maxHeartbeats 8000000 in
theorem l5Meet_any (ao bo : Option Addr) (n cap m cap2 : Nat) (p q : Ps) (hp : RgOk n p) (hq : RgOk m q) (w : World) (hSp : SpIn w ao n p) (hSq : SpIn w bo m q) : Calls Tryz.prog 117 #[.agg #[.slice ao n cap], .agg #[.slice bo m cap2]] w (VP (.bool (rmB n p m q)) w) := by
  have A0 := (Blk.new w [.slice ao n cap] 57 rfl).alloc (.cells #[.slice bo m cap2] 57)
  have A1 := Blk.new (w.alloc (.cells #[.slice ao n cap] 57)) [.slice bo m cap2] 57 (g := w.heap.size + 1) (by simp)
  have HB0 : Below w.heap.size w ((w.alloc (.cells #[.slice ao n cap] 57)).alloc (.cells #[.slice bo m cap2] 57)) := ((Below.refl _ w).alloc (Nat.le_refl _) _).alloc (by simp) _
  have HP : Hid (RgOk n p) := hp
  have HQ : Hid (RgOk m q) := hq
  have h12 := hp.h12
  have m12 := hq.h12
  have hnI : (n : Int) ≤ 12 := by omega
  have hmI : (m : Int) ≤ 12 := by omega
  have HSp : Hid (SpIn ((w.alloc (.cells #[.slice ao n cap] 57)).alloc (.cells #[.slice bo m cap2] 57)) ao n p) := hSp.step HB0
  have HSq : Hid (SpIn ((w.alloc (.cells #[.slice ao n cap] 57)).alloc (.cells #[.slice bo m cap2] 57)) bo m q) := hSq.step HB0
  clear hSp hSq hp hq
  go_enter Tryz.func117, Tryz.ntmps117
  go_wp2_with fail
  generalize ((w.alloc (.cells #[.slice ao n cap] 57)).alloc (.cells #[.slice bo m cap2] 57)) = W1 at *
  go_loopw [5] (fun i wr => ∃ c : Nat, c ≤ n ∧ i = .int .i64 c ∧ (∀ j, j < c → ∀ k, k < m → kdX n p m q j k = 0) ∧ Below W1.heap.size W1 wr) (fun i _ => n - (intOf i).toNat)
  case atStart => exact ⟨0, by omega, rfl, fun j hj => by omega, Below.refl _ _⟩
  case round =>
    obtain ⟨c, hc, rfl, hall, HB⟩ := hrel
    have HD : Hid (∀ j, j < c → ∀ k, k < m → kdX n p m q j k = 0) := hall
    clear hall
    have b0 := (A0.step HB).c 0 rfl
    by_cases hcn : c < n
    · have hcI : (c : Int) < n := by omega
      have HBo := HB
      have HSp2 : Hid (SpIn wr ao n p) := HSp.out.step HB
      have HSq2 : Hid (SpIn wr bo m q) := HSq.out.step HB
      have D0 := A0.step HB
      have D1 := A1.step HB
      clear HB
      go_wp2_with fail
      clear b0
      generalize wr = W4 at *
      go_loopw [6] (fun i wr => ∃ d : Nat, d ≤ m ∧ i = .int .i64 d ∧ (∀ k, k < d → kdX n p m q c k = 0) ∧ Below W4.heap.size W4 wr) (fun i _ => m - (intOf i).toNat)
      case atStart => exact ⟨0, by omega, rfl, fun j hj => by omega, Below.refl _ _⟩
      case round =>
        rename_i hrel
        obtain ⟨d, hd, rfl, hall, HB⟩ := hrel
        have HE : Hid (∀ k, k < d → kdX n p m q c k = 0) := hall
        clear hall
        have b1 := (D1.step HB).c 0 rfl
        by_cases hdn : d < m
        · have hdI : (d : Int) < m := by omega
          have E0 := D0.step HB
          have E1 := D1.step HB
          have SP := HSp2.out.step HB
          have SQ := HSq2.out.step HB
          obtain ⟨i1, i2, i3, i4⟩ := in1_seg (side_ok HP.out.ok HP.out.one HP.out.h3 hcn)
          obtain ⟨j1, j2, j3, j4⟩ := in1_seg (side_ok HQ.out.ok HQ.out.one HQ.out.h3 hdn)
          have HSP : Hid (SpIn wr ao n p) := SP
          have HSQ : Hid (SpIn wr bo m q) := SQ
          clear SP SQ
          go_upto_region 7 with fail
          go_cut [7] (fun z wx => z = .int .i64 (kdX n p m q c d) ∧ Below wr.heap.size wr wx)
          case first =>
            clear b1 HE HD HSp HSq HSp2 HSq2
            refine regMeet (c := c) (d := d) hcn hdn (by omega) (by omega) HSP.out HSQ.out i1 i2 i3 i4 j1 j2 j3 j4 rfl rfl rfl rfl (E0.c 0 rfl) E0.lt (E1.c 0 rfl) E1.lt rfl ?_
            rintro ⟨tm, df⟩ Wz hz hdf hoff h7 hBz
            simp only at hz hdf hoff h7
            change tm.getD 7 undef = .int .i64 (kdX n p m q c d) at h7
            subst hdf
            have htm := tmps_fold [25, 26, 27, 28, 29, 30, 31, 24, 32, 33, 34, 8, 9, 7] tm _ hz hoff
            simp only [List.foldl, List.setIfInBounds_toArray, List.set_cons_zero, List.set_cons_succ, h7] at htm
            clear hz hoff
            generalize tm.getD 25 undef = u0, tm.getD 26 undef = u1, tm.getD 27 undef = u2, tm.getD 28 undef = u3, tm.getD 29 undef = u4, tm.getD 30 undef = u5, tm.getD 31 undef = u6, tm.getD 24 undef = u7, tm.getD 32 undef = u8, tm.getD 33 undef = u9, tm.getD 34 undef = u10, tm.getD 8 undef = u11, tm.getD 9 undef = u12 at htm
            clear h7
            subst htm
            go_wp2_with fail
            go_meet
            exact ⟨rfl, hBz⟩
          case rest =>
            obtain ⟨hm, hBc⟩ := hcut
            subst hm
            have HBN := HB.trans (hBc.mono HB.size)
            clear hBc HB E0 E1 HSP HSQ i1 i2 i3 i4 j1 j2 j3 j4 b1
            by_cases hk : kdX n p m q c d = 0
            · have HK : Hid (kdX n p m q c d = 0) := hk
              rw [hk]
              clear hk
              go_wp2
              go_roundw
              case rel => exact ⟨d + 1, by omega, by go_num, fun k hk => by
                rcases Nat.lt_or_ge k d with h | h
                · exact HE.out k h
                · obtain rfl : k = d := by omega
                  exact HK.out, HBN⟩
              case measure => simp [intOf]; omega
            · have HO : Hid (rmB n p m q = true) := decide_eq_true (fun h => hk (h c hcn d hdn))
              have hk2 : (kdX n p m q c d != 0) = true := by simp [hk]
              revert hk2
              generalize kdX n p m q c d = z
              intro hk2
              have HBF := HB0.trans ((HBo.trans (HBN.mono HBo.size)).mono HB0.size)
              clear hk HBN HBo
              go_wp2
              go_ret
              exact ⟨by rw [HO.out]; rfl, HBF⟩
        · obtain rfl : d = m := by omega
          have HBN := HBo.trans (HB.mono HBo.size)
          clear HBo HB D0 D1 HSp2 HSq2
          go_wp2
          go_roundw
          case rel => exact ⟨c + 1, by omega, by go_num, fun j hj => by
            rcases Nat.lt_or_ge j c with h | h
            · exact HD.out j h
            · obtain rfl : j = c := by omega
              exact HE.out, HBN⟩
          case measure => simp [intOf]; omega
    · obtain rfl : c = n := by omega
      have HO : Hid (rmB c p m q = false) := decide_eq_false (fun h => h HD.out)
      have HBF := HB0.trans (HB.mono HB0.size)
      clear HB HD HSp HSq A0 A1
      go_wp2
      go_ret
      exact ⟨by rw [HO.out]; rfl, HBF⟩
end Go.Proofs.YteakhlipmmfilaaGreat
