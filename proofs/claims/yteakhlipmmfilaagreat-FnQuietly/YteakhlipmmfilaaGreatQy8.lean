/- Part 8 of the walks that the proof leans on. -/
import Derived.Test.YteakhlipmmfilaaGreatQy7
import Derived.Test.YteakhlipmmfilaaGreatQy5
import Derived.Laws.AppendOwn
import Derived.OwnWalkIn
import Derived.RangeFuncBox
import Derived.Test.YteakhlipmmfilaaGreatQy3
import Derived.Deep.OwnRows
import Derived.WalkSmall
import Derived.Test.YteakhlipmmfilaaGreatQy1
import Derived.OrdersIn
import Derived.TacticsIn
import Derived.RangeFuncCalls
import Derived.Sort.CutIn
import Derived.Test.YteakhlipmmfilaaGreatQy2
namespace Go.Proofs.YteakhlipmmfilaaGreat
open Go.RowKit
set_option maxRecDepth 100000 in
set_option maxHeartbeats 200000000 in
theorem specRingFault_any (ao : Option Addr) (n cap : Nat) (p : Ps) (hn : n ≤ 1048576) (w : World) (hS : SpIn w ao n p) : Calls Tryz.prog 116 #[.agg #[.slice ao n cap]] w (VP (.int .i64 (rgF n p)) w) := by
 have B0 := Blk.new w [.slice ao n cap] 57 rfl
 have HB0 : Below w.heap.size w (w.alloc (.cells #[.slice ao n cap] 57)) := (Below.refl _ w).alloc (Nat.le_refl _) _
 have HS0 := hS.step HB0
 have b0 := B0.c 0 rfl
 have hnI : (n : Int) ≤ 1048576 := by omega
 clear hS
 go_enter Tryz.func116, Tryz.ntmps116
 go_upto_region 1 with fail
 generalize (w.alloc (.cells #[.slice ao n cap] 57)) = W1 at *
 by_cases h1 : n < 3
 · have HO : Hid (rgF n p = 1) := by show _ = _; unfold rgF; rw [if_pos h1]
   have h1I : (n : Int) < 3 := by omega
   clear HS0 B0
   go_wp2
   go_ret
   exact ⟨by rw [HO.out]; rfl, HB0⟩
 by_cases h2 : 12 < n
 · have HO : Hid (rgF n p = 2) := by show _ = _; unfold rgF; rw [if_neg h1, if_pos h2]
   have h1I : (3 : Int) ≤ n := by omega
   have h2I : (12 : Int) < n := by omega
   clear HS0 B0
   go_wp2
   go_ret
   exact ⟨by rw [HO.out]; rfl, HB0⟩
 have h1I : (3 : Int) ≤ n := by omega
 have h2I : (n : Int) ≤ 12 := by omega
 have HS : Hid (SpIn W1 ao n p) := HS0
 clear HS0
 go_wp2_with fail
 clear b0
 go_loopw [4] (fun i wr => ∃ c : Nat, c ≤ n ∧ i = .int .i64 c ∧ (∀ j, j < c → spotOk (p j).1 (p j).2 = true) ∧ Below W1.heap.size W1 wr) (fun i _ => n - (intOf i).toNat)
 case atStart => exact ⟨0, by omega, rfl, fun j hj => by omega, Below.refl _ _⟩
 case round =>
   obtain ⟨c, hc, rfl, hall, HB⟩ := hrel
   have HA : Hid (∀ j, j < c → spotOk (p j).1 (p j).2 = true) := hall
   clear hall
   by_cases hcn : c < n
   · obtain ⟨A, off, rfl, hA, q0, q1⟩ := HS.out.step HB c hcn
     have hcI : (c : Int) < n := by omega
     have b0 := (B0.step HB).c 0 rfl
     go_wp2_with fail
     refine (specSpotOk_any (p c).1 (p c).2 _ rfl _).mono ?_
     rintro e w1 ⟨rfl, hB⟩
     replace HB := HB.trans (hB.mono HB.size)
     clear hB q0 q1 hA b0
     by_cases hk : spotOk (p c).1 (p c).2 = true
     · rw [hk]
       have HK : Hid (spotOk (p c).1 (p c).2 = true) := hk
       clear hk
       go_wp2
       go_roundw
       case rel => exact ⟨c + 1, by omega, by go_num, fun j hj => by
         rcases Nat.lt_or_ge j c with h | h
         · exact HA.out j h
         · obtain rfl : j = c := by omega
           exact HK.out, HB⟩
       case measure => simp [intOf]; omega
     · have HO : Hid (rgF n p = 3) := by show _ = _; unfold rgF; rw [if_neg h1, if_neg h2, if_pos (fun h => hk (h c hcn))]
       rw [Bool.eq_false_iff.2 hk]
       have HBF := HB0.trans (HB.mono HB0.size)
       clear hk
       go_wp2
       go_ret
       exact ⟨by rw [HO.out]; rfl, HBF⟩
   · obtain rfl : n = c := by omega
     have HB1 := HB0.trans (HB.mono HB0.size)
     have HS1 : Hid (SpIn wr ao n p) := HS.out.step HB
     have B1 := B0.step HB
     clear HS B0 HB
     go_wp2_with fail
     generalize wr = W2 at *
     go_loopw [5] (fun i wr => ∃ c : Nat, c ≤ n ∧ i = .int .i64 c ∧ (∀ j, j < c → ∀ k, k < j → p j ≠ p k) ∧ Below W2.heap.size W2 wr) (fun i _ => n - (intOf i).toNat)
     case atStart => exact ⟨0, by omega, rfl, fun j hj => by omega, Below.refl _ _⟩
     case round =>
       rename_i hrel
       obtain ⟨c, hc, rfl, hall, HB⟩ := hrel
       have HC : Hid (∀ j, j < c → ∀ k, k < j → p j ≠ p k) := hall
       clear hall
       by_cases hcn : c < n
       · have hcI : (c : Int) < n := by omega
         have HSo : Hid (SpIn wr ao n p) := HS1.out.step HB
         have HB4 := HB1.trans (HB.mono HB1.size)
         have B3 := B1.step HB
         have HBo := HB
         clear HB
         go_wp2_with fail
         generalize wr = W4 at *
         go_loopw [6] (fun i wr => ∃ d : Nat, d ≤ c ∧ i = .int .i64 d ∧ (∀ k, k < d → p c ≠ p k) ∧ Below W4.heap.size W4 wr) (fun i _ => c - (intOf i).toNat)
         case atStart => exact ⟨0, by omega, rfl, fun j hj => by omega, Below.refl _ _⟩
         case round =>
           rename_i hrel
           obtain ⟨d, hd, rfl, hall, HB⟩ := hrel
           have HE : Hid (∀ k, k < d → p c ≠ p k) := hall
           clear hall
           by_cases hdn : d < c
           · have hdI : (d : Int) < c := by omega
             have hdI2 : (d : Int) < n := by omega
             obtain ⟨A, off, rfl, hA, q0, q1⟩ := HSo.out.step HB c hcn
             obtain ⟨A', off', hao, -, m0, m1⟩ := HSo.out.step HB d (by omega)
             obtain ⟨rfl, rfl⟩ : A = A' ∧ off = off' := by simpa using hao
             have b0 := (B3.step HB).c 0 rfl
             have EQ := eqSp2 (p c).1 (p c).2 (p d).1 (p d).2
             have KS : (fun w' : World => w'.cell? ⟨w.heap.size, 0, none⟩ = some (.slice (some ⟨A, off, none⟩) n cap) ∧ w'.cell? ⟨A, off + c * 2, none⟩ = some (.int .i64 (p c).1) ∧ w'.cell? ⟨A, off + c * 2 + 1, none⟩ = some (.int .i64 (p c).2) ∧ w'.cell? ⟨A, off + d * 2, none⟩ = some (.int .i64 (p d).1) ∧ w'.cell? ⟨A, off + d * 2 + 1, none⟩ = some (.int .i64 (p d).2)) wr := ⟨b0, q0, q1, m0, m1⟩
             go_upto_region 17 with fail
             go_region_held3 (fun w' : World => w'.cell? ⟨w.heap.size, 0, none⟩ = some (.slice (some ⟨A, off, none⟩) n cap) ∧ w'.cell? ⟨A, off + c * 2, none⟩ = some (.int .i64 (p c).1) ∧ w'.cell? ⟨A, off + c * 2 + 1, none⟩ = some (.int .i64 (p c).2) ∧ w'.cell? ⟨A, off + d * 2, none⟩ = some (.int .i64 (p d).1) ∧ w'.cell? ⟨A, off + d * 2 + 1, none⟩ = some (.int .i64 (p d).2)) (exact KS) (fail)
             all_goals have HBD := HB.drew
             all_goals clear KS b0 q0 q1 m0 m1 EQ hao hA HB
             all_goals by_cases h : (p c).1 = (p d).1 ∧ (p c).2 = (p d).2
             all_goals first
               | (have HO : Hid (rgF n p = 4) := by
                    show _ = _
                    unfold rgF
                    rw [if_neg h1, if_neg h2, if_neg (fun hh => hh HA.out), if_pos (fun hh => hh c hcn d hdn (Prod.ext h.1 h.2))]
                  have d1 : (decide ((p c).1 = (p d).1) && decide ((p c).2 = (p d).2)) = true := by simp [h.1, h.2]
                  rw [d1]
                  have HBF := HB4.trans (HBD.mono HB4.size)
                  clear d1 h
                  go_wp2
                  go_ret
                  exact ⟨by rw [HO.out]; rfl, HBF⟩)
               | (have HH : Hid (p c ≠ p d) := fun e => h ⟨by rw [e], by rw [e]⟩
                  have d1 : (decide ((p c).1 = (p d).1) && decide ((p c).2 = (p d).2)) = false := by
                    rw [Bool.eq_false_iff]
                    intro hh
                    simp at hh
                    exact h hh
                  rw [d1]
                  clear d1 h
                  go_wp2
                  go_roundw)
             case rel => exact ⟨d + 1, by omega, by go_num, fun k hk => by
               rcases Nat.lt_or_ge k d with h | h
               · exact HE.out k h
               · obtain rfl : k = d := by omega
                 exact HH.out, HBD⟩
             case measure => simp [intOf]; omega
           · obtain rfl : c = d := by omega
             have HBF := HBo.trans (HB.mono HBo.size)
             clear HB HBo HB4 HSo B3
             go_wp2
             go_roundw
             case rel => exact ⟨c + 1, by omega, by go_num, fun j hj => by
               rcases Nat.lt_or_ge j c with h | h
               · exact HC.out j h
               · obtain rfl : j = c := by omega
                 exact HE.out, HBF⟩
             case measure => simp [intOf]; omega
       · obtain rfl : n = c := by omega
         have HB3 := HB1.trans (HB.mono HB1.size)
         have HS2 : Hid (SpIn wr ao n p) := HS1.out.step HB
         have B2 := B1.step HB
         clear HS1 B1 HB HB1
         go_wp2_with fail
         generalize wr = W3 at *
         go_loopw [7] (fun i wr => ∃ c : Nat, c ≤ n ∧ i = .int .i64 c ∧ (∀ j, j < c → ∀ k, k < j → bdB n p j k = false) ∧ Below W3.heap.size W3 wr) (fun i _ => n - (intOf i).toNat)
         case atStart => exact ⟨0, by omega, rfl, fun j hj => by omega, Below.refl _ _⟩
         case round =>
           rename_i hrel
           obtain ⟨c, hc, rfl, hall, HB⟩ := hrel
           have HD : Hid (∀ j, j < c → ∀ k, k < j → bdB n p j k = false) := hall
           clear hall
           by_cases hcn : c < n
           · have hcI : (c : Int) < n := by omega
             have HSo : Hid (SpIn wr ao n p) := HS2.out.step HB
             have HB4 := HB3.trans (HB.mono HB3.size)
             have B3 := B2.step HB
             have HBo := HB
             clear HB
             go_wp2_with fail
             generalize wr = W4 at *
             go_loopw [8] (fun i wr => ∃ d : Nat, d ≤ c ∧ i = .int .i64 d ∧ (∀ k, k < d → bdB n p c k = false) ∧ Below W4.heap.size W4 wr) (fun i _ => c - (intOf i).toNat)
             case atStart => exact ⟨0, by omega, rfl, fun j hj => by omega, Below.refl _ _⟩
             case round =>
               rename_i hrel
               obtain ⟨d, hd, rfl, hall, HB⟩ := hrel
               have HE : Hid (∀ k, k < d → bdB n p c k = false) := hall
               clear hall
               by_cases hdn : d < c
               · have hdI : (d : Int) < c := by omega
                 have HSr := HSo.out.step HB
                 have B4 := B3.step HB
                 obtain ⟨A, off, rfl, -, -, -⟩ := HSr c hcn
                 obtain ⟨i1, i2, i3, i4⟩ := in1_seg (side_ok HA.out HC.out (by omega) hcn)
                 obtain ⟨j1, j2, j3, j4⟩ := in1_seg (side_ok HA.out HC.out (by omega) (show d < n by omega))
                 have L1 := fun w h => l5Side_any (some ⟨A, off, none⟩) n cap p c hcn hn w h
                 have L2 := fun w h => l5Side_any (some ⟨A, off, none⟩) n cap p d (by omega) hn w h
                 have LM := l4Meet_any (sdA n p c).1 (sdA n p c).2.1 (sdA n p c).2.2.1 (sdA n p c).2.2.2 (sdA n p d).1 (sdA n p d).2.1 (sdA n p d).2.2.1 (sdA n p d).2.2.2 i1 i2 i3 i4 j1 j2 j3 j4
                 have hbs := bd_same HC.out (by omega) hcn hdn
                 have hkin : kdA n p c d = 0 ∨ kdA n p c d = 1 ∨ kdA n p c d = 2 := knd_in _ _ _ _ _ _ _ _
                 go_upto_region 25 with fail
                 go_cut [9] (fun m wx => m = .int .i64 (kdA n p c d) ∧ Below wr.heap.size wr wx)
                 case first =>
                   clear HE HD HB4 HSo HS2 HA HC hbs hkin L1 L2 LM
                   refine reg25 (c := c) (d := d) hcn (by omega) hn HSr i1 i2 i3 i4 j1 j2 j3 j4 (by have hz := HB3.size; have hz2 := HBo.size; first | exact B4.lt | omega) (B4.c 0 rfl) rfl rfl rfl rfl (by simp) (by simp) (by simp) (by simp) ?_
                   rintro ⟨tm, df⟩ Wz hz hdf hoff h9 hBz
                   simp only at hz hdf hoff h9
                   subst hdf
                   have htm := tmps_fold [64, 65, 66, 67, 68, 69, 70, 63, 71, 72, 73, 10, 11, 9] tm _ hz hoff
                   simp only [List.foldl, List.setIfInBounds_toArray, List.set_cons_zero, List.set_cons_succ, h9] at htm
                   clear hz hoff
                   generalize tm.getD 64 undef = u0, tm.getD 65 undef = u1, tm.getD 66 undef = u2, tm.getD 67 undef = u3, tm.getD 68 undef = u4, tm.getD 69 undef = u5, tm.getD 70 undef = u6, tm.getD 63 undef = u7, tm.getD 71 undef = u8, tm.getD 72 undef = u9, tm.getD 73 undef = u10, tm.getD 10 undef = u11, tm.getD 11 undef = u12 at htm
                   clear h9
                   subst htm
                   go_wp2_with fail
                   go_meet
                   exact ⟨rfl, hBz⟩
                 case rest =>
                   obtain ⟨hm, hBc⟩ := hcut
                   subst hm
                   have HB5 := HB.trans (hBc.mono HB.size)
                   clear hBc HB B4 HSr L1 L2 LM i1 i2 i3 i4 j1 j2 j3 j4
                   generalize kdA n p c d = z at *
                   have hs1 : IntKind.i64.wrap ((c : Int) - 1) = (c : Int) - 1 := by rw [IntKind.wrap_i64]; omega
                   have hs2 : IntKind.i64.wrap ((n : Int) - 1) = (n : Int) - 1 := by rw [IntKind.wrap_i64]; omega
                   have HBS : Hid (bdB n p c d = ((nxB n c d && !(decide (z = 1))) || (!(nxB n c d) && !(decide (z = 0))))) := hbs
                   clear hbs
                   have HBF := HB4.trans (HB5.mono HB4.size)
                   rcases (show (d + 1 = c) ∨ (d + 1 ≠ c ∧ d = 0 ∧ c + 1 = n) ∨ (d + 1 ≠ c ∧ d = 0 ∧ c + 1 ≠ n) ∨ (d + 1 ≠ c ∧ d ≠ 0) by omega) with hN1 | hN2 | hN3 | hN4
                   · have HX : Hid (nxB n c d = true) := by show _ = _; unfold nxB; simp; omega
                     have b1 : ((d : Int) == (c : Int) - 1) = true := beq_iff_eq.2 (by omega)
                     clear hN1
                     rcases hkin with rfl | rfl | rfl
                     · have HO : Hid (rgF n p = 5) := by
                         show _ = _
                         unfold rgF
                         rw [if_neg h1, if_neg h2, if_neg (fun hh => hh HA.out), if_neg (fun hh => hh HC.out), if_pos (fun hh => by
                           have e := hh c hcn d hdn
                           rw [HBS.out, HX.out] at e
                           simp at e)]
                       go_wp2
                       go_ret
                       exact ⟨by rw [HO.out]; rfl, HBF⟩
                     · have HN : Hid (bdB n p c d = false) := by show _ = _; rw [HBS.out, HX.out]; rfl
                       go_wp2
                       go_roundw
                       case rel => exact ⟨d + 1, by omega, by go_num, fun k hk => by
                         rcases Nat.lt_or_ge k d with h | h
                         · exact HE.out k h
                         · obtain rfl : k = d := by omega
                           exact HN.out, HB5⟩
                       case measure => simp [intOf]; omega
                     · have HO : Hid (rgF n p = 5) := by
                         show _ = _
                         unfold rgF
                         rw [if_neg h1, if_neg h2, if_neg (fun hh => hh HA.out), if_neg (fun hh => hh HC.out), if_pos (fun hh => by
                           have e := hh c hcn d hdn
                           rw [HBS.out, HX.out] at e
                           simp at e)]
                       go_wp2
                       go_ret
                       exact ⟨by rw [HO.out]; rfl, HBF⟩
                   · have HX : Hid (nxB n c d = true) := by show _ = _; unfold nxB; simp; omega
                     have b1 : ((d : Int) == (c : Int) - 1) = false := beq_eq_false_iff_ne.2 (by omega)
                     have b2 : ((d : Int) == 0) = true := beq_iff_eq.2 (by omega)
                     have b3 : ((c : Int) == (n : Int) - 1) = true := beq_iff_eq.2 (by omega)
                     clear hN2
                     rcases hkin with rfl | rfl | rfl
                     · have HO : Hid (rgF n p = 5) := by
                         show _ = _
                         unfold rgF
                         rw [if_neg h1, if_neg h2, if_neg (fun hh => hh HA.out), if_neg (fun hh => hh HC.out), if_pos (fun hh => by
                           have e := hh c hcn d hdn
                           rw [HBS.out, HX.out] at e
                           simp at e)]
                       go_wp2
                       go_ret
                       exact ⟨by rw [HO.out]; rfl, HBF⟩
                     · have HN : Hid (bdB n p c d = false) := by show _ = _; rw [HBS.out, HX.out]; rfl
                       go_wp2
                       go_roundw
                       case rel => exact ⟨d + 1, by omega, by go_num, fun k hk => by
                         rcases Nat.lt_or_ge k d with h | h
                         · exact HE.out k h
                         · obtain rfl : k = d := by omega
                           exact HN.out, HB5⟩
                       case measure => simp [intOf]; omega
                     · have HO : Hid (rgF n p = 5) := by
                         show _ = _
                         unfold rgF
                         rw [if_neg h1, if_neg h2, if_neg (fun hh => hh HA.out), if_neg (fun hh => hh HC.out), if_pos (fun hh => by
                           have e := hh c hcn d hdn
                           rw [HBS.out, HX.out] at e
                           simp at e)]
                       go_wp2
                       go_ret
                       exact ⟨by rw [HO.out]; rfl, HBF⟩
                   · have HX : Hid (nxB n c d = false) := by show _ = _; unfold nxB; rw [Bool.eq_false_iff]; intro hh; simp at hh; omega
                     have b1 : ((d : Int) == (c : Int) - 1) = false := beq_eq_false_iff_ne.2 (by omega)
                     have b2 : ((d : Int) == 0) = true := beq_iff_eq.2 (by omega)
                     have b3 : ((c : Int) == (n : Int) - 1) = false := beq_eq_false_iff_ne.2 (by omega)
                     clear hN3
                     rcases hkin with rfl | rfl | rfl
                     · have HN : Hid (bdB n p c d = false) := by show _ = _; rw [HBS.out, HX.out]; rfl
                       go_wp2
                       go_roundw
                       case rel => exact ⟨d + 1, by omega, by go_num, fun k hk => by
                         rcases Nat.lt_or_ge k d with h | h
                         · exact HE.out k h
                         · obtain rfl : k = d := by omega
                           exact HN.out, HB5⟩
                       case measure => simp [intOf]; omega
                     · have HO : Hid (rgF n p = 5) := by
                         show _ = _
                         unfold rgF
                         rw [if_neg h1, if_neg h2, if_neg (fun hh => hh HA.out), if_neg (fun hh => hh HC.out), if_pos (fun hh => by
                           have e := hh c hcn d hdn
                           rw [HBS.out, HX.out] at e
                           simp at e)]
                       go_wp2
                       go_ret
                       exact ⟨by rw [HO.out]; rfl, HBF⟩
                     · have HO : Hid (rgF n p = 5) := by
                         show _ = _
                         unfold rgF
                         rw [if_neg h1, if_neg h2, if_neg (fun hh => hh HA.out), if_neg (fun hh => hh HC.out), if_pos (fun hh => by
                           have e := hh c hcn d hdn
                           rw [HBS.out, HX.out] at e
                           simp at e)]
                       go_wp2
                       go_ret
                       exact ⟨by rw [HO.out]; rfl, HBF⟩
                   · have HX : Hid (nxB n c d = false) := by show _ = _; unfold nxB; rw [Bool.eq_false_iff]; intro hh; simp at hh; omega
                     have b1 : ((d : Int) == (c : Int) - 1) = false := beq_eq_false_iff_ne.2 (by omega)
                     have b2 : ((d : Int) == 0) = false := beq_eq_false_iff_ne.2 (by omega)
                     clear hN4
                     rcases hkin with rfl | rfl | rfl
                     · have HN : Hid (bdB n p c d = false) := by show _ = _; rw [HBS.out, HX.out]; rfl
                       go_wp2
                       go_roundw
                       case rel => exact ⟨d + 1, by omega, by go_num, fun k hk => by
                         rcases Nat.lt_or_ge k d with h | h
                         · exact HE.out k h
                         · obtain rfl : k = d := by omega
                           exact HN.out, HB5⟩
                       case measure => simp [intOf]; omega
                     · have HO : Hid (rgF n p = 5) := by
                         show _ = _
                         unfold rgF
                         rw [if_neg h1, if_neg h2, if_neg (fun hh => hh HA.out), if_neg (fun hh => hh HC.out), if_pos (fun hh => by
                           have e := hh c hcn d hdn
                           rw [HBS.out, HX.out] at e
                           simp at e)]
                       go_wp2
                       go_ret
                       exact ⟨by rw [HO.out]; rfl, HBF⟩
                     · have HO : Hid (rgF n p = 5) := by
                         show _ = _
                         unfold rgF
                         rw [if_neg h1, if_neg h2, if_neg (fun hh => hh HA.out), if_neg (fun hh => hh HC.out), if_pos (fun hh => by
                           have e := hh c hcn d hdn
                           rw [HBS.out, HX.out] at e
                           simp at e)]
                       go_wp2
                       go_ret
                       exact ⟨by rw [HO.out]; rfl, HBF⟩
               · obtain rfl : c = d := by omega
                 have HBF := HBo.trans (HB.mono HBo.size)
                 clear HB HBo HB4 HSo B3
                 go_wp2
                 go_roundw
                 case rel => exact ⟨c + 1, by omega, by go_num, fun j hj => by
                   rcases Nat.lt_or_ge j c with h | h
                   · exact HD.out j h
                   · obtain rfl : j = c := by omega
                     exact HE.out, HBF⟩
                 case measure => simp [intOf]; omega
           · obtain rfl : n = c := by omega
             have HO : Hid (rgF n p = 0) := by
               show _ = _
               unfold rgF
               rw [if_neg h1, if_neg h2, if_neg (fun hh => hh HA.out), if_neg (fun hh => hh HC.out), if_neg (fun hh => hh HD.out)]
             have HBF := HB3.trans (HB.mono HB3.size)
             clear HS2 B2 HB HB3 HA HC HD
             go_wp2
             go_ret
             exact ⟨by rw [HO.out]; rfl, HBF⟩
def spL (n : Nat) (p : Ps) : List Value := (List.range (n * 2)).map fun (i : Nat) => Value.int .i64 (spW p i)
theorem spL_len (n : Nat) (p : Ps) : (spL n p).length = n * 2 := by simp [spL]
theorem spL_at {n : Nat} {p : Ps} {i : Nat} (h : i < n * 2) : (spL n p)[i]? = some (.int .i64 (spW p i)) := by simp [spL, h]
open Go.RowKit Go.Shelf
attribute [local go_sem] Oper.semAt_some
def sdC (n : Nat) (p : Ps) (pre : List (Fin n)) : List Value := pre.flatMap fun x => [.int .i64 (sdA n p x.1).1, .int .i64 (sdA n p x.1).2.1, .int .i64 (sdA n p x.1).2.2.1, .int .i64 (sdA n p x.1).2.2.2]
theorem sdC_snoc (n : Nat) (p : Ps) (pre : List (Fin n)) (x : Fin n) : sdC n p (pre ++ [x]) = sdC n p pre ++ [.int .i64 (sdA n p x.1).1, .int .i64 (sdA n p x.1).2.1, .int .i64 (sdA n p x.1).2.2.1, .int .i64 (sdA n p x.1).2.2.2] := by simp [sdC]
theorem Tryz.infoSeg2 : (Tryz.prog.info? 53).map (fun i => (i.zero, i.size, i.bytes)) = some (some (.agg #[.int .i64 0, .int .i64 0, .int .i64 0, .int .i64 0]), 4, 32) := by kernel_rfl
theorem own_mono {w : World} {b b' n : Nat} {e : TypeId} {size : Nat} {v : Value} {xs : List Value} (h : w.ownsRow b' e size v n xs) (hb : b ≤ b') : w.ownsRow b e size v n xs := by
 rcases h with ⟨h0, h1 | ⟨g, cap, cur, h1, h2, h3⟩⟩
 · exact ⟨h0, .inl h1⟩
 · exact ⟨h0, .inr ⟨g, cap, cur, h1, Nat.le_trans hb h2, h3⟩⟩
theorem cell_four_new (w : World) (a b c d : Value) (t : TypeId) : ∀ j u, [a, b, c, d][j]? = some u → (w.alloc (.cells #[a, b, c, d] t)).cell? ((⟨w.heap.size, 0, none⟩ : Addr).add j) = some u := by
 intro j u hj
 match j, hj with
 | 0, hj => simp at hj; subst hj; simp [Addr.add]
 | 1, hj => simp at hj; subst hj; simp [Addr.add]
 | 2, hj => simp at hj; subst hj; simp [Addr.add]
 | 3, hj => simp at hj; subst hj; simp [Addr.add]
 | j + 4, hj => simp at hj
theorem one_cell4 (x y z t : Int) : ∀ u ∈ [Value.int .i64 x, Value.int .i64 y, Value.int .i64 z, Value.int .i64 t], u.oneCell' = true := by
 intro u hu
 simp only [List.mem_cons, List.not_mem_nil, or_false] at hu
 rcases hu with rfl | rfl | rfl | rfl <;> rfl
def SegIn (w : World) (ao : Option Addr) (n : Nat) (x : Nat → Int) : Prop :=
 ∀ i, i < n → ∃ A off, ao = some ⟨A, off, none⟩ ∧ A < w.heap.size ∧ ∀ j, j < 4 → w.cell? ⟨A, off + i * 4 + j, none⟩ = some (.int .i64 (x (i * 4 + j)))
theorem SegIn.step {w w' : World} {ao : Option Addr} {n : Nat} {x : Nat → Int} (h : SegIn w ao n x) (hB : Below w.heap.size w w') : SegIn w' ao n x := fun i hi => by
 obtain ⟨A, off, e, hA, hc⟩ := h i hi
 exact ⟨A, off, e, Nat.lt_of_lt_of_le hA hB.size, fun j hj => (hB.cell (p := ⟨A, off + i * 4 + j, none⟩) hA).trans (hc j hj)⟩
def sgI (n : Nat) (x : Nat → Int) : Int := if 40 < n then 1 else if ∀ i, i < n → segOk (x (i * 4)) (x (i * 4 + 1)) (x (i * 4 + 2)) (x (i * 4 + 3)) = true then 0 else 2
set_option maxRecDepth 100000 in
set_option maxHeartbeats 2000000 in
theorem specSegsFault_any (ao : Option Addr) (n cap : Nat) (x : Nat → Int) (w : World) (hS : SegIn w ao n x) : Calls Tryz.prog 88 #[.slice ao n cap] w (VP (.int .i64 (sgI n x)) w) := by
 by_cases hn : 40 < n
 · have HO : Hid (sgI n x = 1) := by show _ = _; unfold sgI; rw [if_pos hn]
   go_enter Tryz.func88, Tryz.ntmps88
   have hn' : (40 : Int) < n := by omega
   clear hS
   go_wp2
   go_ret
   exact ⟨by rw [HO.out]; rfl, Below.refl _ _⟩
 · go_enter Tryz.func88, Tryz.ntmps88
   have hn' : (n : Int) ≤ 40 := by omega
   have HS : Hid (SegIn w ao n x) := hS
   clear hS
   go_wp2_with fail
   go_loopw [3] (fun i wr => ∃ c : Nat, c ≤ n ∧ i = .int .i64 c ∧ (∀ j, j < c → segOk (x (j * 4)) (x (j * 4 + 1)) (x (j * 4 + 2)) (x (j * 4 + 3)) = true) ∧ Below w.heap.size w wr) (fun i _ => n - (intOf i).toNat)
   case atStart => exact ⟨0, by omega, rfl, fun j hj => by omega, Below.refl _ _⟩
   case round =>
     obtain ⟨c, hc, rfl, hall, HB⟩ := hrel
     have HA : Hid (∀ j, j < c → segOk (x (j * 4)) (x (j * 4 + 1)) (x (j * 4 + 2)) (x (j * 4 + 3)) = true) := hall
     clear hall
     by_cases hcn : c < n
     · obtain ⟨A, off, rfl, hA, hcell⟩ := HS.out.step HB c hcn
       have q0 := hcell 0 (by omega); have q1 := hcell 1 (by omega); have q2 := hcell 2 (by omega); have q3 := hcell 3 (by omega)
       simp only [Nat.add_zero] at q0
       have hcI : (c : Int) < n := by omega
       have SO := fun w => specSegOk_any (x (c * 4)) (x (c * 4 + 1)) (x (c * 4 + 2)) (x (c * 4 + 3)) _ rfl w
       clear hcell
       go_wp2_with fail
       refine (SO _).mono ?_
       rintro e w1 ⟨rfl, hB⟩
        
       replace HB := HB.trans (hB.mono HB.size)
       clear hB q0 q1 q2 q3 SO hA
       by_cases hk : segOk (x (c * 4)) (x (c * 4 + 1)) (x (c * 4 + 2)) (x (c * 4 + 3)) = true
       · rw [hk]
         have HK : Hid (segOk (x (c * 4)) (x (c * 4 + 1)) (x (c * 4 + 2)) (x (c * 4 + 3)) = true) := hk
         clear hk
         go_wp2
         go_roundw
         case rel => exact ⟨c + 1, by omega, by go_num, fun j hj => by
           rcases Nat.lt_or_ge j c with h | h
           · exact HA.out j h
           · obtain rfl : j = c := by omega
             exact HK.out, HB⟩
         case measure => simp [intOf]; omega
       · have HO : Hid (sgI n x = 2) := by show _ = _; unfold sgI; rw [if_neg hn, if_neg (fun h => hk (h c hcn))]
         rw [Bool.eq_false_iff.2 hk]
         clear hk
         go_wp2
         go_ret
         exact ⟨by rw [HO.out]; rfl, HB⟩
     · obtain rfl : c = n := by omega
       have HO : Hid (sgI c x = 0) := by show _ = _; unfold sgI; rw [if_neg hn, if_pos HA.out]
       clear HA HS
       go_wp2
       go_ret
       exact ⟨by rw [HO.out]; rfl, HB⟩
set_option maxRecDepth 100000 in
set_option maxHeartbeats 2000000 in
theorem implSegsFault_any (ao : Option Addr) (n cap : Nat) (x : Nat → Int) (w : World) (hS : SegIn w ao n x) : Calls Tryz.prog 46 #[.slice ao n cap] w (VP (.int .i64 (sgI n x)) w) := by
 by_cases hn : 40 < n
 · have HO : Hid (sgI n x = 1) := by show _ = _; unfold sgI; rw [if_pos hn]
   go_enter Tryz.func46, Tryz.ntmps46
   have hn' : (40 : Int) < n := by omega
   clear hS
   go_wp2
   go_ret
   exact ⟨by rw [HO.out]; rfl, Below.refl _ _⟩
 · go_enter Tryz.func46, Tryz.ntmps46
   have hn' : (n : Int) ≤ 40 := by omega
   have HS : Hid (SegIn w ao n x) := hS
   clear hS
   go_wp2_with fail
   go_loopw [10] (fun i wr => ∃ c : Nat, c ≤ n ∧ i = .int .i64 c ∧ (∀ j, j < c → segOk (x (j * 4)) (x (j * 4 + 1)) (x (j * 4 + 2)) (x (j * 4 + 3)) = true) ∧ Below w.heap.size w wr) (fun i _ => n - (intOf i).toNat)
   case atStart => exact ⟨0, by omega, rfl, fun j hj => by omega, Below.refl _ _⟩
   case round =>
     obtain ⟨c, hc, rfl, hall, HB⟩ := hrel
     have HA : Hid (∀ j, j < c → segOk (x (j * 4)) (x (j * 4 + 1)) (x (j * 4 + 2)) (x (j * 4 + 3)) = true) := hall
     clear hall
     by_cases hcn : c < n
     · obtain ⟨A, off, rfl, hA, hcell⟩ := HS.out.step HB c hcn
       have q0 := hcell 0 (by omega); have q1 := hcell 1 (by omega); have q2 := hcell 2 (by omega); have q3 := hcell 3 (by omega)
       simp only [Nat.add_zero] at q0
       have hcI : (c : Int) < n := by omega
       have SO := fun w => implSegOk_any (x (c * 4)) (x (c * 4 + 1)) (x (c * 4 + 2)) (x (c * 4 + 3)) _ rfl w
       clear hcell
       go_wp2_with fail
       refine (SO _).mono ?_
       rintro e w1 ⟨rfl, hB⟩
        
       replace HB := (HB.alloc HB.size _).trans (hB.mono (HB.alloc HB.size _).size)
       clear hB q0 q1 q2 q3 SO hA
       by_cases hk : segOk (x (c * 4)) (x (c * 4 + 1)) (x (c * 4 + 2)) (x (c * 4 + 3)) = true
       · rw [hk]
         have HK : Hid (segOk (x (c * 4)) (x (c * 4 + 1)) (x (c * 4 + 2)) (x (c * 4 + 3)) = true) := hk
         clear hk
         go_wp2
         go_roundw
         case rel => exact ⟨c + 1, by omega, by go_num, fun j hj => by
           rcases Nat.lt_or_ge j c with h | h
           · exact HA.out j h
           · obtain rfl : j = c := by omega
             exact HK.out, HB⟩
         case measure => simp [intOf]; omega
       · have HO : Hid (sgI n x = 2) := by show _ = _; unfold sgI; rw [if_neg hn, if_neg (fun h => hk (h c hcn))]
         rw [Bool.eq_false_iff.2 hk]
         clear hk
         go_wp2
         go_ret
         exact ⟨by rw [HO.out]; rfl, HB⟩
     · obtain rfl : c = n := by omega
       have HO : Hid (sgI c x = 0) := by show _ = _; unfold sgI; rw [if_neg hn, if_pos HA.out]
       clear HA HS
       go_wp2
       go_ret
       exact ⟨by rw [HO.out]; rfl, HB⟩
theorem own_stepG {w w' : World} {base n : Nat} {e : TypeId} {size : Nat} {v : Value} {xs : List Value} (h : w.ownsRow base e size v n xs) (hB : Below w.heap.size w w') : w'.ownsRow base e size v n xs := by
 rcases h with ⟨h0, h1 | ⟨g, cap, cur, h1, h2, h3, h4⟩⟩
 · exact ⟨h0, .inl h1⟩
 · refine ⟨h0, .inr ⟨g, cap, cur, h1, h2, ?_, h4⟩⟩
   rw [hB.block g (Array.getElem?_eq_some_iff.1 h3).1]
   exact h3
def SgOwn (w : World) (base : Nat) (v : Value) (n : Nat) (x : Nat → Int) : Prop :=
 (v = .slice none 0 0 ∧ n = 0) ∨ ∃ g cap f, v = .slice (some ⟨g, 0, none⟩) n cap ∧ base ≤ g ∧ n ≤ cap ∧ w.rowIs g 53 (cap * 4) f ∧ ∀ i, i < n * 4 → f i = .int .i64 (x i)
theorem SgOwn.step {w w' : World} {base : Nat} {v : Value} {n : Nat} {x : Nat → Int} (h : SgOwn w base v n x) (hB : Below w.heap.size w w') : SgOwn w' base v n x := by
 rcases h with h | ⟨g, cap, f, h1, h2, h3, h5, h6⟩
 · exact .inl h
 · exact .inr ⟨g, cap, f, h1, h2, h3, rows_step h5 hB, h6⟩
theorem SgOwn.in {w : World} {base : Nat} {v : Value} {n : Nat} {x : Nat → Int} (h : SgOwn w base v n x) : ∃ ao cap, v = .slice ao n cap ∧ SegIn w ao n x := by
 rcases h with ⟨h1, rfl⟩ | ⟨g, cap, f, h1, h2, h3, R, h6⟩
 · exact ⟨none, 0, h1, fun i hi => by omega⟩
 · exact ⟨some ⟨g, 0, none⟩, cap, h1, fun i hi => ⟨g, 0, rfl, R.lt, fun j hj => by rw [Nat.zero_add, R.cell (by omega), h6 _ (by omega)]⟩⟩
theorem seg_less {a b c d : Int} (h : segOk a b c d = true) : a < c ∨ (a = c ∧ b < d) := by
 unfold segOk lessI at h
 simp only [Bool.and_eq_true, decide_eq_true_eq] at h
 exact h.2
end Go.Proofs.YteakhlipmmfilaaGreat
namespace Go.Proofs.YteakhlipmmfilaaGreat
variable {P : Program} {ops : Array Oper} {Q : Exit → Act → World → Prop}
theorem yielded_of {j d : Nat} {o : Oper} {t : Array Value} {b : Bool} (ho : ops[j]? = some o) (hd : o.dst = some d) (ht : t.getD d undef = .bool b) : yielded ops t j = some b := by
 have h : t[d]? = some (.bool b) := by
   rcases Nat.lt_or_ge d t.size with h | h
   · simpa [Array.getD, h] using ht
   · simp [Array.getD, Nat.not_lt.2 h, undef] at ht
 unfold yielded
 rw [ho]
 simp only [Option.bind_some, hd]
 rw [h]
theorem wpOp_off {i k d : Nat} {b : Bool} {o ok : Oper} {a : Act} {w : World} {K : Act → World → Prop} (ho : ops[i]? = some o) (hg : o.guard = some (k, b)) (hk : ops[k]? = some ok) (hd : ok.dst = some d) (ht : a.tmps.getD d undef = .bool (!b)) (h : K (a.put o.dst undef) w) : wpOp P ops Q i K a w := by
 unfold wpOp
 simp only [ho]
 have hw : Region.wanted o (yielded ops a.tmps) = false := by
   unfold Region.wanted
   rw [hg]
   simp only [yielded_of hk hd ht]
   cases b <;> rfl
 rw [hw]
 exact h
theorem wpOp_on {i k d : Nat} {b : Bool} {o ok : Oper} {a : Act} {w : World} {K : Act → World → Prop} (ho : ops[i]? = some o) (hg : o.guard = some (k, b)) (hk : ops[k]? = some ok) (hd : ok.dst = some d) (ht : a.tmps.getD d undef = .bool b) (h : o.wp P a w K Q) : wpOp P ops Q i K a w := by
 unfold wpOp
 simp only [ho]
 have hw : Region.wanted o (yielded ops a.tmps) = true := by
   unfold Region.wanted
   rw [hg]
   simp only [yielded_of hk hd ht]
   cases b <;> rfl
 rw [if_pos hw]
 exact .inl h
end Go.Proofs.YteakhlipmmfilaaGreat
namespace Go.Proofs.YteakhlipmmfilaaGreat
open Go.RowKit
variable {P : Program} {ops : Array Oper}
def distS : List (Option Nat) → Bool
 | [] => true
 | none :: r => distS r
 | some d :: r => !(r.contains (some d)) && distS r
theorem distS_inj : ∀ (S : List (Option Nat)) (i j d : Nat), distS S = true → S[i]? = some (some d) → S[j]? = some (some d) → i = j
 | [], i, _, _, _, h, _ => by simp at h
 | o :: r, i, j, d, hd, hi, hj => by
   have hr : distS r = true := by
     cases o with
     | none => exact hd
     | some d' => simp only [distS, Bool.and_eq_true] at hd; exact hd.2
   have hno : ∀ k, o = some d → r[k]? = some (some d) → False := fun k ho hk => by
     subst ho
     simp only [distS, Bool.and_eq_true, Bool.not_eq_true'] at hd
     have hm : some d ∈ r := List.mem_of_getElem? hk
     rw [← List.contains_iff_mem, hd.1] at hm
     cases hm
   match i, j with
   | 0, 0 => rfl
   | 0, j + 1 => exact (hno j (by simpa using hi) (by simpa using hj)).elim
   | i + 1, 0 => exact (hno i (by simpa using hj) (by simpa using hi)).elim
   | i + 1, j + 1 => exact congrArg (· + 1) (distS_inj r i j d hr (by simpa using hi) (by simpa using hj))
def InvQ (B : Nat) (S : List (Option Nat)) (V : Nat → Value → World → Prop) (w0 : World) (a0 : Act) (l : Array Bool) (a : Act) (W : World) : Prop :=
 l.size = S.length ∧ a.tmps.size = a0.tmps.size ∧ a.defers = a0.defers ∧ (∀ e, some e ∉ S → a.tmps[e]? = a0.tmps[e]?) ∧ Below B w0 W ∧ (∀ j d, l.getD j false = true → S[j]? = some (some d) → V j (a.tmps.getD d undef) W) ∧ (∀ j, l.getD j false = true → S[j]? = some none → V j undef W)
theorem getD_set_q {l : Array Bool} {i j : Nat} (h : (l.setIfInBounds i true).getD j false = true) (hne : j ≠ i) : l.getD j false = true := by
 rw [getD_set_ne false (Ne.symm hne)] at h
 exact h
theorem InvQ.put {B : Nat} {S : List (Option Nat)} {V : Nat → Value → World → Prop} {w0 : World} {a0 : Act} {l : Array Bool} {a : Act} {W W' : World} (h : InvQ B S V w0 a0 l a W) (hS : distS S = true) (i d : Nat) (hi : S[i]? = some (some d)) (hlt : d < a0.tmps.size)
   (hW : Below B w0 W') (hT : ∀ j v, V j v W → V j v W') (v : Value) (hv : V i v W') : InvQ B S V w0 a0 (l.setIfInBounds i true) (a.put (some d) v) W' := by
 obtain ⟨h1, h2, h3, h4, h5, h6, h7⟩ := h
 refine ⟨by simpa using h1, by simpa [Act.put] using h2, h3, fun e he => ?_, hW, fun j d' hj hd' => ?_, fun j hj hn => ?_⟩
 · have hne : d ≠ e := fun hh => he (hh ▸ List.mem_of_getElem? hi)
   simp only [Act.put]
   rw [Array.getElem?_setIfInBounds_ne hne]
   exact h4 e he
 · by_cases hji : j = i
   · subst hji
     rw [hi] at hd'
     cases hd'
     rw [put_getD_same (by omega)]
     exact hv
   · have hne : d ≠ d' := fun hh => hji (distS_inj S j i d hS (hh ▸ hd') hi)
     rw [put_getD_ne hne]
     exact hT _ _ (h6 j d' (getD_set_q hj hji) hd')
 · have hji : j ≠ i := fun hh => by subst hh; rw [hi] at hn; cases hn
   exact hT _ _ (h7 j (getD_set_q hj hji) hn)
theorem InvQ.world {B : Nat} {S : List (Option Nat)} {V : Nat → Value → World → Prop} {w0 : World} {a0 : Act} {l : Array Bool} {a : Act} {W W' : World} (h : InvQ B S V w0 a0 l a W) (i : Nat) (hi : S[i]? = some none)
   (hW : Below B w0 W') (hT : ∀ j v, V j v W → V j v W') (hv : V i undef W') : InvQ B S V w0 a0 (l.setIfInBounds i true) a W' := by
 obtain ⟨h1, h2, h3, h4, h5, h6, h7⟩ := h
 refine ⟨by simpa using h1, h2, h3, h4, hW, fun j d hj hd => ?_, fun j hj hn => ?_⟩
 · have hji : j ≠ i := fun hh => by subst hh; rw [hi] at hd; cases hd
   exact hT _ _ (h6 j d (getD_set_q hj hji) hd)
 · by_cases hji : j = i
   · subst hji; exact hv
   · exact hT _ _ (h7 j (getD_set_q hj hji) hn)
theorem wp_region_q {Q : Exit → Act → World → Prop} {id : Nat} {a0 : Act} {w0 : World} (hm : P.follows .mixedOrders = true) (B : Nat) (S : List (Option Nat)) (V : Nat → Value → World → Prop) (hSz : ops.size = S.length)
   (hs : ∀ (Q : Exit → Act → World → Prop) l a W i o, InvQ B S V w0 a0 l a W → l.getD i true = false → ops[i]? = some o → (∀ e ∈ o.after, Region.binds .any e = true → l.getD e.on false = true) → wpOp P ops Q i (InvQ B S V w0 a0 (l.setIfInBounds i true)) a W)
   (hd : ∀ l a W, InvQ B S V w0 a0 l a W → Region.ready .any ops l = [] → Q .normal a W) : (Code.region id ops true).wp P Q a0 w0 := by
 refine wp_region_inv hm (InvQ B S V w0 a0) ⟨by simpa using hSz, rfl, rfl, fun _ _ => rfl, (Below.refl _ w0).drew, fun j d hj => ?_, fun j hj => ?_⟩ (hs Q) hd
 all_goals
   exfalso
   rw [Array.getD_eq_getD_getElem?, Array.getElem?_replicate] at hj
   split at hj <;> simp at hj
def BlkN (W : World) (g n : Nat) : Prop := ∃ vs : List Value, vs.length = n ∧ Blk W g vs
theorem BlkN.step {W W' : World} {g n : Nat} (h : BlkN W g n) (hB : Below W.heap.size W W') : BlkN W' g n := by
 obtain ⟨vs, h1, h2⟩ := h
 exact ⟨vs, h1, h2.step hB⟩
theorem Blk.setA {W : World} {g : Nat} {vs : List Value} (h : Blk W g vs) (j : Nat) (u : Value) : Blk (W.setCell ⟨g, j, none⟩ u) g (vs.set j u) := by
 rcases Nat.lt_or_ge j vs.length with hj | hj
 · exact h.setI j hj u
 · refine ⟨by simpa [World.setCell] using h.1, fun i v hi => ?_⟩
   rw [List.set_eq_of_length_le hj] at hi
   have hne : i ≠ j := fun e => by
     subst e
     rw [List.getElem?_eq_none hj] at hi
     cases hi
   exact ⟨(World.cell?_setCell_other _ _ _ _ (by simp)).trans (h.c i hi), by simp [go_sem, h.f i hi]⟩
theorem BlkN.set {W : World} {g n : Nat} (h : BlkN W g n) (g' j : Nat) (u : Value) : BlkN (W.setCell ⟨g', j, none⟩ u) g n := by
 obtain ⟨vs, h1, h2⟩ := h
 by_cases hg : g = g'
 · subst hg
   exact ⟨vs.set j u, by simpa using h1, h2.setA j u⟩
 · exact ⟨vs, h1, h2.setO (p := ⟨g', j, none⟩) hg u⟩
end Go.Proofs.YteakhlipmmfilaaGreat
namespace Go.Proofs.YteakhlipmmfilaaGreat
open Go.RowKit
variable {P : Program} {ops : Array Oper} {Q : Exit → Act → World → Prop} {md : Region.Mode} {F : Fence} {n : Nat}
theorem wpAnyIn_inv (J : Array Bool → Act → World → Prop) (hs : ∀ l a w i o, J l a w → l.getD i true = false → ops[i]? = some o → (∀ e ∈ o.after, Region.binds md e = true → l.getD e.on false = true) → wpOpIn F n P ops Q i (J (l.setIfInBounds i true)) a w)
   (hd : ∀ l a w, J l a w → Region.ready md ops l = [] → Q .normal a w) : ∀ (fuel : Nat) (l : Array Bool) (a : Act) (w : World), open_ l ≤ fuel → J l a w → wpAnyIn F n P md ops Q fuel l a w := by
 intro fuel
 induction fuel with
 | zero =>
   intro l a w hf hJ
   have hr : Region.ready md ops l = [] := by
     rw [List.eq_nil_iff_forall_not_mem]
     intro i hi
     have := open_set (mem_ready.1 hi).1
     omega
   exact ⟨hr, hd l a w hJ hr⟩
 | succ fuel ih =>
   intro l a w hf hJ
   refine ⟨fun hr => hd l a w hJ hr, fun i hi => ?_⟩
   obtain ⟨h0, o, ho, hall⟩ := mem_ready.1 hi
   exact wpOpIn_mono (fun a' w' h' => ih _ a' w' (by have := open_set h0; omega) h') (hs l a w i o hJ h0 ho hall)
theorem wpIn_region_inv {id : Nat} {a : Act} {w : World} (hm : P.follows .mixedOrders = true) (J : Array Bool → Act → World → Prop)
   (h0 : J (Array.replicate ops.size false) a { w with drawn := w.drawn + 1 })
   (hs : ∀ l a w i o, J l a w → l.getD i true = false → ops[i]? = some o → (∀ e ∈ o.after, Region.binds .any e = true → l.getD e.on false = true) → wpOpIn F n P ops Q i (J (l.setIfInBounds i true)) a w)
   (hd : ∀ l a w, J l a w → Region.ready .any ops l = [] → Q .normal a w) : (Code.region id ops true).wpIn F n P Q a w :=
 wpIn_region_any hm (wpAnyIn_inv J hs hd _ _ _ _ (by
   unfold open_
   refine Nat.le_trans List.countP_le_length ?_
   simp) h0)
theorem wpIn_of_wp {l : Nat} {o : Oper} {a : Act} {w : World} {K : Act → World → Prop} (hd : ∀ c, o.op ≠ .defer c) (h : o.wp P a w K Q) : o.wpIn (Fence.wide.inRound l) n P a w K Q := by
 refine ⟨fun f _ => trivial, ?_⟩
 have e : o.semAt (Fence.wide.inRound l).round a.eval = execOp a.eval o := Oper.semAt_some l _ o hd
 rw [e]
 unfold Oper.wp at h
 generalize (execOp a.eval o).run P w = r at *
 cases r with
 | ok x w' =>
   cases x
   case enter f args => exact ⟨fun hh => by simp [Fence.wide, Fence.inRound] at hh, CallsIn.inRound l (callsIn_wide.2 h)⟩
   case row row args => exact ⟨fun hh => by simp [Fence.wide, Fence.inRound] at hh, fun c cs _ => let ⟨v, w2, r, s⟩ := h c cs; ⟨v, w2, r, stepsIn_wide.2 s⟩⟩
   all_goals first | exact h | exact h.elim
 | halt x w' => cases x <;> exact h
theorem wpOpIn_of {l i : Nat} {o : Oper} {a : Act} {w : World} {K : Act → World → Prop} (ho : ops[i]? = some o) (hg : o.guard = none) (hd : ∀ c, o.op ≠ .defer c) (h : o.wp P a w K Q) : wpOpIn (Fence.wide.inRound l) n P ops Q i K a w := by
 unfold wpOpIn
 simp only [ho]
 have hw : Region.wanted o (yielded ops a.tmps) = true := by unfold Region.wanted; rw [hg]
 rw [if_pos hw]
 exact wpIn_of_wp hd h
theorem wpIn_region_q {id : Nat} {a0 : Act} {w0 : World} (hm : P.follows .mixedOrders = true) (B : Nat) (S : List (Option Nat)) (V : Nat → Value → World → Prop) (hSz : ops.size = S.length)
   (hs : ∀ (Q : Exit → Act → World → Prop) l a W i o, InvQ B S V w0 a0 l a W → l.getD i true = false → ops[i]? = some o → (∀ e ∈ o.after, Region.binds .any e = true → l.getD e.on false = true) → wpOpIn F n P ops Q i (InvQ B S V w0 a0 (l.setIfInBounds i true)) a W)
   (hd : ∀ l a W, InvQ B S V w0 a0 l a W → Region.ready .any ops l = [] → Q .normal a W) : (Code.region id ops true).wpIn F n P Q a0 w0 := by
 refine wpIn_region_inv hm (InvQ B S V w0 a0) ⟨by simpa using hSz, rfl, rfl, fun _ _ => rfl, (Below.refl _ w0).drew, fun j d hj => ?_, fun j hj => ?_⟩ (hs Q) hd
 all_goals
   exfalso
   rw [Array.getD_eq_getD_getElem?, Array.getElem?_replicate] at hj
   split at hj <;> simp at hj
end Go.Proofs.YteakhlipmmfilaaGreat
namespace Go.Proofs.YteakhlipmmfilaaGreat
open Go.RowKit
open Go.RowKit Go.Shelf
attribute [local go_sem] Oper.semAt_some
def kdX (n : Nat) (p : Ps) (m : Nat) (q : Ps) (i k : Nat) : Int := kndZ (sdA n p i).1 (sdA n p i).2.1 (sdA n p i).2.2.1 (sdA n p i).2.2.2 (sdA m q k).1 (sdA m q k).2.1 (sdA m q k).2.2.1 (sdA m q k).2.2.2
def rmB (n : Nat) (p : Ps) (m : Nat) (q : Ps) : Bool := decide (¬ (∀ i, i < n → ∀ k, k < m → kdX n p m q i k = 0))
def VregMeet (ao bo : Option Addr) (n cap m cap2 : Nat) (p q : Ps) (c d : Nat) (B : Nat) : Nat → Value → World → Prop
 | 0, v, _ => v = .agg #[.slice ao n cap]
 | 1, v, _ => v = .int .i64 (c : Int)
 | 2, v, _ => v = Sg (sdA n p c).1 (sdA n p c).2.1 (sdA n p c).2.2.1 (sdA n p c).2.2.2
 | 3, v, _ => v = .agg #[.slice bo m cap2]
 | 4, v, _ => v = .int .i64 (d : Int)
 | 5, v, _ => v = Sg (sdA m q d).1 (sdA m q d).2.1 (sdA m q d).2.2.1 (sdA m q d).2.2.2
 | 6, v, _ => ∃ x y, Lp6 x ∧ Lp6 y ∧ v = .tuple #[.int .i64 (kdX n p m q c d), x, y]
 | 7, v, _ => ∃ x y, Lp6 x ∧ Lp6 y ∧ v = .tuple #[.int .i64 (kdX n p m q c d), x, y]
 | 8, v, _ => v = .int .i64 (kdX n p m q c d)
 | 9, v, _ => Lp6 v
 | 10, v, _ => Lp6 v
 | 11, v, W => ∃ g, v = .pointer (some ⟨g, 0, none⟩) ∧ B ≤ g ∧ BlkN W g 6
 | 12, v, W => ∃ g, v = .pointer (some ⟨g, 0, none⟩) ∧ B ≤ g ∧ BlkN W g 6
 | 13, v, _ => v = .int .i64 (kdX n p m q c d)
 | _, _, _ => True
theorem VregMeet.mono {ao bo : Option Addr} {n cap m cap2 : Nat} {p q : Ps} {c d : Nat} {B j : Nat} {v : Value} {W W2 : World} (hS : ∀ g k, BlkN W g k → BlkN W2 g k) (h : VregMeet ao bo n cap m cap2 p q c d B j v W) : VregMeet ao bo n cap m cap2 p q c d B j v W2 := by
 unfold VregMeet at *
 split <;> simp only at h <;> first | exact h | (obtain ⟨g, h1, h2, h3⟩ := h; exact ⟨g, h1, h2, hS g _ h3⟩) | trivial
set_option maxRecDepth 100000 in
set_option maxHeartbeats 4000000 in
theorem regMeet {Q : Exit → Act → World → Prop} {ao bo : Option Addr} {n cap m cap2 : Nat} {p q : Ps} {c d : Nat} {B1 B2 : Nat} {w0 : World} {a0 : Act} {id : Nat} {t0 t1 t2 t3 t4 t5 t6 t7 t8 t9 t10 t11 t12 t13 t14 t15 : TypeId} {q0 q1 q2 q3 q4 q5 q6 q7 q8 q9 q10 q11 q12 q13 q14 q15 : String}
   (hc : c < n) (hd : d < m) (hn : n ≤ 1048576) (hm : m ≤ 1048576) (hSp : SpIn w0 ao n p) (hSq : SpIn w0 bo m q) (i1 : In1 (sdA n p c).1) (i2 : In1 (sdA n p c).2.1) (i3 : In1 (sdA n p c).2.2.1) (i4 : In1 (sdA n p c).2.2.2) (j1 : In1 (sdA m q d).1) (j2 : In1 (sdA m q d).2.1) (j3 : In1 (sdA m q d).2.2.1) (j4 : In1 (sdA m q d).2.2.2) (h2 : a0.tmps[2]? = some (.pointer (some ⟨B1, 0, none⟩))) (h3 : a0.tmps[3]? = some (.pointer (some ⟨B2, 0, none⟩))) (h5 : a0.tmps[5]? = some (.int .i64 (c : Int))) (h6 : a0.tmps[6]? = some (.int .i64 (d : Int))) (k0 : w0.cell? ⟨B1, 0, none⟩ = some (.slice ao n cap)) (l0 : (⟨B1, 0, none⟩ : Addr).block < w0.heap.size) (k1 : w0.cell? ⟨B2, 0, none⟩ = some (.slice bo m cap2)) (l1 : (⟨B2, 0, none⟩ : Addr).block < w0.heap.size) (hz : a0.tmps.size = 37)
   (hQ : ∀ a W, a.tmps.size = a0.tmps.size → a.defers = a0.defers → (∀ e, e ∉ ([25, 26, 27, 28, 29, 30, 31, 24, 32, 33, 34, 8, 9, 7] : List Nat) → a.tmps[e]? = a0.tmps[e]?) → VregMeet ao bo n cap m cap2 p q c d w0.heap.size 13 (a.tmps.getD 7 undef) W → Below w0.heap.size w0 W → Q .normal a W) :
   (Code.region id #[{ dst := some 25, op := Op.load 57 (Operand.tmp 2), type := t0, pos := q0, after := #[], guard := none },
   { dst := some 26, op := Op.move (Operand.tmp 5), type := t1, pos := q1, after := #[], guard := none },
   { dst := some 27, op := Op.call { callee := Callee.value (Operand.func 29), args := #[Operand.tmp 25, Operand.tmp 26], argTypes := #[57, 3] }, type := t2, pos := q2, after := #[{ on := 0, ground := Ground.data }, { on := 1, ground := Ground.data }], guard := none },
   { dst := some 28, op := Op.load 57 (Operand.tmp 3), type := t3, pos := q3, after := #[], guard := none },
   { dst := some 29, op := Op.move (Operand.tmp 6), type := t4, pos := q4, after := #[], guard := none },
   { dst := some 30, op := Op.call { callee := Callee.value (Operand.func 29), args := #[Operand.tmp 28, Operand.tmp 29], argTypes := #[57, 3] }, type := t5, pos := q5, after := #[{ on := 3, ground := Ground.data }, { on := 4, ground := Ground.data }, { on := 2, ground := Ground.chain }], guard := none },
   { dst := some 31, op := Op.call { callee := Callee.value (Operand.func 50), args := #[Operand.tmp 27, Operand.tmp 30], argTypes := #[53, 53] }, type := t6, pos := q6, after := #[{ on := 2, ground := Ground.data }, { on := 5, ground := Ground.data }, { on := 5, ground := Ground.chain }], guard := none },
   { dst := some 24, op := Op.move (Operand.tmp 31), type := t7, pos := q7, after := #[{ on := 6, ground := Ground.data }], guard := none },
   { dst := some 32, op := Op.extract (Operand.tmp 24) 0, type := t8, pos := q8, after := #[{ on := 7, ground := Ground.data }], guard := none },
   { dst := some 33, op := Op.extract (Operand.tmp 24) 1, type := t9, pos := q9, after := #[{ on := 7, ground := Ground.data }, { on := 13, ground := Ground.gcOnly Departure.lateStores }], guard := none },
   { dst := some 34, op := Op.extract (Operand.tmp 24) 2, type := t10, pos := q10, after := #[{ on := 7, ground := Ground.data }, { on := 14, ground := Ground.gcOnly Departure.lateStores }], guard := none },
   { dst := some 8, op := Op.alloc 90, type := t11, pos := q11, after := #[], guard := none },
   { dst := some 9, op := Op.alloc 90, type := t12, pos := q12, after := #[], guard := none },
   { dst := some 7, op := Op.assign (Operand.tmp 32), type := t13, pos := q13, after := #[{ on := 8, ground := Ground.data }, { on := 6, ground := Ground.chain }, { on := 0, ground := Ground.phase }, { on := 1, ground := Ground.phase }, { on := 2, ground := Ground.phase }, { on := 3, ground := Ground.phase }, { on := 4, ground := Ground.phase }, { on := 5, ground := Ground.phase }, { on := 6, ground := Ground.phase }, { on := 7, ground := Ground.phase }, { on := 8, ground := Ground.phase }, { on := 9, ground := Ground.textOnly Departure.lateStores }, { on := 10, ground := Ground.textOnly Departure.lateStores }, { on := 11, ground := Ground.phase }, { on := 12, ground := Ground.phase }], guard := none },
   { dst := none, op := Op.store 90 (Operand.tmp 8) (Operand.tmp 33), type := t14, pos := q14, after := #[{ on := 11, ground := Ground.data }, { on := 9, ground := Ground.data }, { on := 13, ground := Ground.chain }, { on := 0, ground := Ground.phase }, { on := 1, ground := Ground.phase }, { on := 2, ground := Ground.phase }, { on := 3, ground := Ground.phase }, { on := 4, ground := Ground.phase }, { on := 5, ground := Ground.phase }, { on := 6, ground := Ground.phase }, { on := 7, ground := Ground.phase }, { on := 8, ground := Ground.phase }, { on := 9, ground := Ground.phase }, { on := 10, ground := Ground.textOnly Departure.lateStores }, { on := 11, ground := Ground.phase }, { on := 12, ground := Ground.phase }, { on := 13, ground := Ground.phase }], guard := none },
   { dst := none, op := Op.store 90 (Operand.tmp 9) (Operand.tmp 34), type := t15, pos := q15, after := #[{ on := 12, ground := Ground.data }, { on := 10, ground := Ground.data }, { on := 14, ground := Ground.chain }, { on := 0, ground := Ground.phase }, { on := 1, ground := Ground.phase }, { on := 2, ground := Ground.phase }, { on := 3, ground := Ground.phase }, { on := 4, ground := Ground.phase }, { on := 5, ground := Ground.phase }, { on := 6, ground := Ground.phase }, { on := 7, ground := Ground.phase }, { on := 8, ground := Ground.phase }, { on := 9, ground := Ground.phase }, { on := 10, ground := Ground.phase }, { on := 11, ground := Ground.phase }, { on := 12, ground := Ground.phase }, { on := 13, ground := Ground.phase }, { on := 14, ground := Ground.phase }], guard := none }] true).wp Tryz.prog Q a0 w0 := by
 have hS : distS [some 25, some 26, some 27, some 28, some 29, some 30, some 31, some 24, some 32, some 33, some 34, some 8, some 9, some 7, none, none] = true := rfl
 refine wp_region_q (by kernel_rfl) w0.heap.size [some 25, some 26, some 27, some 28, some 29, some 30, some 31, some 24, some 32, some 33, some 34, some 8, some 9, some 7, none, none] (VregMeet ao bo n cap m cap2 p q c d w0.heap.size) rfl ?_ ?_
 · intro Q l a W i o hJ hl ho hall
   have hJ2 := hJ
   obtain ⟨z1, z2, z3, z4, z5, z6, z7⟩ := hJ
   have g2 : a.tmps.getD 2 undef = .pointer (some ⟨B1, 0, none⟩) := by rw [Array.getD_eq_getD_getElem?, z4 2 (by decide), h2]; rfl
   have g3 : a.tmps.getD 3 undef = .pointer (some ⟨B2, 0, none⟩) := by rw [Array.getD_eq_getD_getElem?, z4 3 (by decide), h3]; rfl
   have g5 : a.tmps.getD 5 undef = .int .i64 (c : Int) := by rw [Array.getD_eq_getD_getElem?, z4 5 (by decide), h5]; rfl
   have g6 : a.tmps.getD 6 undef = .int .i64 (d : Int) := by rw [Array.getD_eq_getD_getElem?, z4 6 (by decide), h6]; rfl
   have c0 : W.cell? ⟨B1, 0, none⟩ = some (.slice ao n cap) := (z5.cell l0).trans k0
   have c1 : W.cell? ⟨B2, 0, none⟩ = some (.slice bo m cap2) := (z5.cell l1).trans k1
   match i, ho with
   | 0, ho =>
     cases ho
     refine wpOp_of rfl rfl ?_
     have hK := fun (v : Value) (W2 : World) hW hT hv => hJ2.put hS 0 25 rfl (by omega) (W' := W2) hW hT v hv
     clear ho hall hl hQ
     generalize InvQ w0.heap.size [some 25, some 26, some 27, some 28, some 29, some 30, some 31, some 24, some 32, some 33, some 34, some 8, some 9, some 7, none, none] (VregMeet ao bo n cap m cap2 p q c d w0.heap.size) w0 a0 (l.setIfInBounds 0 true) = K at hK ⊢
     clear hJ2 hS z1 z2 z3 z4 z6 z7
     go_simp
     exact hK _ _ z5 (fun _ _ h => h) rfl
   | 1, ho =>
     cases ho
     refine wpOp_of rfl rfl ?_
     have hK := fun (v : Value) (W2 : World) hW hT hv => hJ2.put hS 1 26 rfl (by omega) (W' := W2) hW hT v hv
     clear ho hall hl hQ
     generalize InvQ w0.heap.size [some 25, some 26, some 27, some 28, some 29, some 30, some 31, some 24, some 32, some 33, some 34, some 8, some 9, some 7, none, none] (VregMeet ao bo n cap m cap2 p q c d w0.heap.size) w0 a0 (l.setIfInBounds 1 true) = K at hK ⊢
     clear hJ2 hS z1 z2 z3 z4 z6 z7
     go_simp
     exact hK _ _ z5 (fun _ _ h => h) rfl
   | 2, ho =>
     cases ho
     refine wpOp_of rfl rfl ?_
     have f0 : (a.tmps.getD 25 undef) = .agg #[.slice ao n cap] := z6 0 25 (hall { on := 0, ground := Ground.data } (by simp) rfl) rfl
     have f1 : (a.tmps.getD 26 undef) = .int .i64 (c : Int) := z6 1 26 (hall { on := 1, ground := Ground.data } (by simp) rfl) rfl
     have hK := fun (v : Value) (W2 : World) hW hT hv => hJ2.put hS 2 27 rfl (by omega) (W' := W2) hW hT v hv
     clear ho hall hl hQ
     generalize InvQ w0.heap.size [some 25, some 26, some 27, some 28, some 29, some 30, some 31, some 24, some 32, some 33, some 34, some 8, some 9, some 7, none, none] (VregMeet ao bo n cap m cap2 p q c d w0.heap.size) w0 a0 (l.setIfInBounds 2 true) = K at hK ⊢
     clear hJ2 hS z1 z2 z3 z4 z6 z7
     go_simp
     refine (l5Side_any ao n cap p c hc hn W (hSp.step z5)).mono ?_
     rintro e v1 ⟨rfl, hBv⟩
     exact hK _ _ (z5.trans (hBv.mono z5.size)) (fun j v h => h.mono fun g k hg => hg.step hBv) rfl
   | 3, ho =>
     cases ho
     refine wpOp_of rfl rfl ?_
     have hK := fun (v : Value) (W2 : World) hW hT hv => hJ2.put hS 3 28 rfl (by omega) (W' := W2) hW hT v hv
     clear ho hall hl hQ
     generalize InvQ w0.heap.size [some 25, some 26, some 27, some 28, some 29, some 30, some 31, some 24, some 32, some 33, some 34, some 8, some 9, some 7, none, none] (VregMeet ao bo n cap m cap2 p q c d w0.heap.size) w0 a0 (l.setIfInBounds 3 true) = K at hK ⊢
     clear hJ2 hS z1 z2 z3 z4 z6 z7
     go_simp
     exact hK _ _ z5 (fun _ _ h => h) rfl
   | 4, ho =>
     cases ho
     refine wpOp_of rfl rfl ?_
     have hK := fun (v : Value) (W2 : World) hW hT hv => hJ2.put hS 4 29 rfl (by omega) (W' := W2) hW hT v hv
     clear ho hall hl hQ
     generalize InvQ w0.heap.size [some 25, some 26, some 27, some 28, some 29, some 30, some 31, some 24, some 32, some 33, some 34, some 8, some 9, some 7, none, none] (VregMeet ao bo n cap m cap2 p q c d w0.heap.size) w0 a0 (l.setIfInBounds 4 true) = K at hK ⊢
     clear hJ2 hS z1 z2 z3 z4 z6 z7
     go_simp
     exact hK _ _ z5 (fun _ _ h => h) rfl
   | 5, ho =>
     cases ho
     refine wpOp_of rfl rfl ?_
     have f3 : (a.tmps.getD 28 undef) = .agg #[.slice bo m cap2] := z6 3 28 (hall { on := 3, ground := Ground.data } (by simp) rfl) rfl
     have f4 : (a.tmps.getD 29 undef) = .int .i64 (d : Int) := z6 4 29 (hall { on := 4, ground := Ground.data } (by simp) rfl) rfl
     have hK := fun (v : Value) (W2 : World) hW hT hv => hJ2.put hS 5 30 rfl (by omega) (W' := W2) hW hT v hv
     clear ho hall hl hQ
     generalize InvQ w0.heap.size [some 25, some 26, some 27, some 28, some 29, some 30, some 31, some 24, some 32, some 33, some 34, some 8, some 9, some 7, none, none] (VregMeet ao bo n cap m cap2 p q c d w0.heap.size) w0 a0 (l.setIfInBounds 5 true) = K at hK ⊢
     clear hJ2 hS z1 z2 z3 z4 z6 z7
     go_simp
     refine (l5Side_any bo m cap2 q d hd hm W (hSq.step z5)).mono ?_
     rintro e v1 ⟨rfl, hBv⟩
     exact hK _ _ (z5.trans (hBv.mono z5.size)) (fun j v h => h.mono fun g k hg => hg.step hBv) rfl
   | 6, ho =>
     cases ho
     refine wpOp_of rfl rfl ?_
     have f2 : (a.tmps.getD 27 undef) = Sg (sdA n p c).1 (sdA n p c).2.1 (sdA n p c).2.2.1 (sdA n p c).2.2.2 := z6 2 27 (hall { on := 2, ground := Ground.data } (by simp) rfl) rfl
     have f5 : (a.tmps.getD 30 undef) = Sg (sdA m q d).1 (sdA m q d).2.1 (sdA m q d).2.2.1 (sdA m q d).2.2.2 := z6 5 30 (hall { on := 5, ground := Ground.data } (by simp) rfl) rfl
     have hK := fun (v : Value) (W2 : World) hW hT hv => hJ2.put hS 6 31 rfl (by omega) (W' := W2) hW hT v hv
     clear ho hall hl hQ
     generalize InvQ w0.heap.size [some 25, some 26, some 27, some 28, some 29, some 30, some 31, some 24, some 32, some 33, some 34, some 8, some 9, some 7, none, none] (VregMeet ao bo n cap m cap2 p q c d w0.heap.size) w0 a0 (l.setIfInBounds 6 true) = K at hK ⊢
     clear hJ2 hS z1 z2 z3 z4 z6 z7
     go_simp
     refine (l4Meet_any (sdA n p c).1 (sdA n p c).2.1 (sdA n p c).2.2.1 (sdA n p c).2.2.2 (sdA m q d).1 (sdA m q d).2.1 (sdA m q d).2.2.1 (sdA m q d).2.2.2 i1 i2 i3 i4 j1 j2 j3 j4 W).mono ?_
     rintro e v3 hmt
     obtain ⟨⟨f1, f2, f3, g1, g2, g3, k1, k2, k3, l1, l2, l3, m1, m2, m3, x1, x2, x3, y1, y2, y3, z1, z2, z3, rfl⟩, hBv⟩ := mtP_kind hmt
     exact hK _ _ (z5.trans (hBv.mono z5.size)) (fun j v h => h.mono fun g k hg => hg.step hBv) ⟨_, _, ⟨_, _, _, _, _, _, _, _, _, _, _, _, rfl⟩, ⟨_, _, _, _, _, _, _, _, _, _, _, _, rfl⟩, rfl⟩
   | 7, ho =>
     cases ho
     refine wpOp_of rfl rfl ?_
     have f6 : ∃ x y, Lp6 x ∧ Lp6 y ∧ (a.tmps.getD 31 undef) = .tuple #[.int .i64 (kdX n p m q c d), x, y] := z6 6 31 (hall { on := 6, ground := Ground.data } (by simp) rfl) rfl
     obtain ⟨x, y, hx, hy, he⟩ := f6
     have hK := fun (v : Value) (W2 : World) hW hT hv => hJ2.put hS 7 24 rfl (by omega) (W' := W2) hW hT v hv
     clear ho hall hl hQ
     generalize InvQ w0.heap.size [some 25, some 26, some 27, some 28, some 29, some 30, some 31, some 24, some 32, some 33, some 34, some 8, some 9, some 7, none, none] (VregMeet ao bo n cap m cap2 p q c d w0.heap.size) w0 a0 (l.setIfInBounds 7 true) = K at hK ⊢
     clear hJ2 hS z1 z2 z3 z4 z6 z7
     go_simp
     exact hK _ _ z5 (fun _ _ h => h) ⟨x, y, hx, hy, rfl⟩
   | 8, ho =>
     cases ho
     refine wpOp_of rfl rfl ?_
     have f7 : ∃ x y, Lp6 x ∧ Lp6 y ∧ (a.tmps.getD 24 undef) = .tuple #[.int .i64 (kdX n p m q c d), x, y] := z6 7 24 (hall { on := 7, ground := Ground.data } (by simp) rfl) rfl
     obtain ⟨x, y, hx, hy, he⟩ := f7
     have hK := fun (v : Value) (W2 : World) hW hT hv => hJ2.put hS 8 32 rfl (by omega) (W' := W2) hW hT v hv
     clear ho hall hl hQ
     generalize InvQ w0.heap.size [some 25, some 26, some 27, some 28, some 29, some 30, some 31, some 24, some 32, some 33, some 34, some 8, some 9, some 7, none, none] (VregMeet ao bo n cap m cap2 p q c d w0.heap.size) w0 a0 (l.setIfInBounds 8 true) = K at hK ⊢
     clear hJ2 hS z1 z2 z3 z4 z6 z7
     go_simp
     exact hK _ _ z5 (fun _ _ h => h) rfl
   | 9, ho =>
     cases ho
     refine wpOp_of rfl rfl ?_
     have f7 : ∃ x y, Lp6 x ∧ Lp6 y ∧ (a.tmps.getD 24 undef) = .tuple #[.int .i64 (kdX n p m q c d), x, y] := z6 7 24 (hall { on := 7, ground := Ground.data } (by simp) rfl) rfl
     obtain ⟨x, y, hx, hy, he⟩ := f7
     have hK := fun (v : Value) (W2 : World) hW hT hv => hJ2.put hS 9 33 rfl (by omega) (W' := W2) hW hT v hv
     clear ho hall hl hQ
     generalize InvQ w0.heap.size [some 25, some 26, some 27, some 28, some 29, some 30, some 31, some 24, some 32, some 33, some 34, some 8, some 9, some 7, none, none] (VregMeet ao bo n cap m cap2 p q c d w0.heap.size) w0 a0 (l.setIfInBounds 9 true) = K at hK ⊢
     clear hJ2 hS z1 z2 z3 z4 z6 z7
     go_simp
     exact hK _ _ z5 (fun _ _ h => h) hx
   | 10, ho =>
     cases ho
     refine wpOp_of rfl rfl ?_
     have f7 : ∃ x y, Lp6 x ∧ Lp6 y ∧ (a.tmps.getD 24 undef) = .tuple #[.int .i64 (kdX n p m q c d), x, y] := z6 7 24 (hall { on := 7, ground := Ground.data } (by simp) rfl) rfl
     obtain ⟨x, y, hx, hy, he⟩ := f7
     have hK := fun (v : Value) (W2 : World) hW hT hv => hJ2.put hS 10 34 rfl (by omega) (W' := W2) hW hT v hv
     clear ho hall hl hQ
     generalize InvQ w0.heap.size [some 25, some 26, some 27, some 28, some 29, some 30, some 31, some 24, some 32, some 33, some 34, some 8, some 9, some 7, none, none] (VregMeet ao bo n cap m cap2 p q c d w0.heap.size) w0 a0 (l.setIfInBounds 10 true) = K at hK ⊢
     clear hJ2 hS z1 z2 z3 z4 z6 z7
     go_simp
     exact hK _ _ z5 (fun _ _ h => h) hy
   | 11, ho =>
     cases ho
     refine wpOp_of rfl rfl ?_
     have hK := fun (v : Value) (W2 : World) hW hT hv => hJ2.put hS 11 8 rfl (by omega) (W' := W2) hW hT v hv
     clear ho hall hl hQ
     generalize InvQ w0.heap.size [some 25, some 26, some 27, some 28, some 29, some 30, some 31, some 24, some 32, some 33, some 34, some 8, some 9, some 7, none, none] (VregMeet ao bo n cap m cap2 p q c d w0.heap.size) w0 a0 (l.setIfInBounds 11 true) = K at hK ⊢
     clear hJ2 hS z1 z2 z3 z4 z6 z7
     go_simp
     exact hK _ _ (z5.alloc z5.size _) (fun j v h => h.mono fun g k hg => hg.step ((Below.refl _ _).alloc (Nat.le_refl _) _)) ⟨_, rfl, z5.size, _, rfl, Blk.new W [.bool false, .slice none 0 0, .bool false, .slice none 0 0, .bool false, .slice none 0 0] 90 rfl⟩
   | 12, ho =>
     cases ho
     refine wpOp_of rfl rfl ?_
     have hK := fun (v : Value) (W2 : World) hW hT hv => hJ2.put hS 12 9 rfl (by omega) (W' := W2) hW hT v hv
     clear ho hall hl hQ
     generalize InvQ w0.heap.size [some 25, some 26, some 27, some 28, some 29, some 30, some 31, some 24, some 32, some 33, some 34, some 8, some 9, some 7, none, none] (VregMeet ao bo n cap m cap2 p q c d w0.heap.size) w0 a0 (l.setIfInBounds 12 true) = K at hK ⊢
     clear hJ2 hS z1 z2 z3 z4 z6 z7
     go_simp
     exact hK _ _ (z5.alloc z5.size _) (fun j v h => h.mono fun g k hg => hg.step ((Below.refl _ _).alloc (Nat.le_refl _) _)) ⟨_, rfl, z5.size, _, rfl, Blk.new W [.bool false, .slice none 0 0, .bool false, .slice none 0 0, .bool false, .slice none 0 0] 90 rfl⟩
   | 13, ho =>
     cases ho
     refine wpOp_of rfl rfl ?_
     have f8 : (a.tmps.getD 32 undef) = .int .i64 (kdX n p m q c d) := z6 8 32 (hall { on := 8, ground := Ground.data } (by simp) rfl) rfl
     have hK := fun (v : Value) (W2 : World) hW hT hv => hJ2.put hS 13 7 rfl (by omega) (W' := W2) hW hT v hv
     clear ho hall hl hQ
     generalize InvQ w0.heap.size [some 25, some 26, some 27, some 28, some 29, some 30, some 31, some 24, some 32, some 33, some 34, some 8, some 9, some 7, none, none] (VregMeet ao bo n cap m cap2 p q c d w0.heap.size) w0 a0 (l.setIfInBounds 13 true) = K at hK ⊢
     clear hJ2 hS z1 z2 z3 z4 z6 z7
     go_simp
     exact hK _ _ z5 (fun _ _ h => h) rfl
   | 14, ho =>
     cases ho
     refine wpOp_of rfl rfl ?_
     have f11 : ∃ g, (a.tmps.getD 8 undef) = .pointer (some ⟨g, 0, none⟩) ∧ w0.heap.size ≤ g ∧ BlkN W g 6 := z6 11 8 (hall { on := 11, ground := Ground.data } (by simp) rfl) rfl
     obtain ⟨g, hg, hgB, vs, hvs, G⟩ := f11
     have f9 : Lp6 (a.tmps.getD 33 undef) := z6 9 33 (hall { on := 9, ground := Ground.data } (by simp) rfl) rfl
     obtain ⟨s1, s2, s3, k1, k2, k3, m1, m2, m3, x1, x2, x3, hx⟩ := f9
     have hK := fun (W2 : World) hW hT hv => hJ2.world 14 rfl (W' := W2) hW hT hv
     clear ho hall hl hQ
     generalize InvQ w0.heap.size [some 25, some 26, some 27, some 28, some 29, some 30, some 31, some 24, some 32, some 33, some 34, some 8, some 9, some 7, none, none] (VregMeet ao bo n cap m cap2 p q c d w0.heap.size) w0 a0 (l.setIfInBounds 14 true) = K at hK ⊢
     clear hJ2 hS z1 z2 z3 z4 z6 z7
     obtain ⟨v0, v1, v2, v3, v4, v5, rfl⟩ : ∃ v0 v1 v2 v3 v4 v5, vs = [v0, v1, v2, v3, v4, v5] := by match vs, hvs with | [v0, v1, v2, v3, v4, v5], _ => exact ⟨_, _, _, _, _, _, rfl⟩
     have b0 := G.c 0 rfl; have r0 := G.f 0 rfl
     have b1 := G.c 1 rfl; have r1 := G.f 1 rfl
     have b2 := G.c 2 rfl; have r2 := G.f 2 rfl
     have b3 := G.c 3 rfl; have r3 := G.f 3 rfl
     have b4 := G.c 4 rfl; have r4 := G.f 4 rfl
     have b5 := G.c 5 rfl; have r5 := G.f 5 rfl
     have hlt := G.lt
     clear G
     go_simp
     exact hK _ (below_set6 z5 hgB) (fun j v h => h.mono fun g2 k hg => (((((hg.set _ 0 _).set _ 1 _).set _ 2 _).set _ 3 _).set _ 4 _).set _ 5 _) trivial
   | 15, ho =>
     cases ho
     refine wpOp_of rfl rfl ?_
     have f12 : ∃ g, (a.tmps.getD 9 undef) = .pointer (some ⟨g, 0, none⟩) ∧ w0.heap.size ≤ g ∧ BlkN W g 6 := z6 12 9 (hall { on := 12, ground := Ground.data } (by simp) rfl) rfl
     obtain ⟨g, hg, hgB, vs, hvs, G⟩ := f12
     have f10 : Lp6 (a.tmps.getD 34 undef) := z6 10 34 (hall { on := 10, ground := Ground.data } (by simp) rfl) rfl
     obtain ⟨s1, s2, s3, k1, k2, k3, m1, m2, m3, x1, x2, x3, hx⟩ := f10
     have hK := fun (W2 : World) hW hT hv => hJ2.world 15 rfl (W' := W2) hW hT hv
     clear ho hall hl hQ
     generalize InvQ w0.heap.size [some 25, some 26, some 27, some 28, some 29, some 30, some 31, some 24, some 32, some 33, some 34, some 8, some 9, some 7, none, none] (VregMeet ao bo n cap m cap2 p q c d w0.heap.size) w0 a0 (l.setIfInBounds 15 true) = K at hK ⊢
     clear hJ2 hS z1 z2 z3 z4 z6 z7
     obtain ⟨v0, v1, v2, v3, v4, v5, rfl⟩ : ∃ v0 v1 v2 v3 v4 v5, vs = [v0, v1, v2, v3, v4, v5] := by match vs, hvs with | [v0, v1, v2, v3, v4, v5], _ => exact ⟨_, _, _, _, _, _, rfl⟩
     have b0 := G.c 0 rfl; have r0 := G.f 0 rfl
     have b1 := G.c 1 rfl; have r1 := G.f 1 rfl
     have b2 := G.c 2 rfl; have r2 := G.f 2 rfl
     have b3 := G.c 3 rfl; have r3 := G.f 3 rfl
     have b4 := G.c 4 rfl; have r4 := G.f 4 rfl
     have b5 := G.c 5 rfl; have r5 := G.f 5 rfl
     have hlt := G.lt
     clear G
     go_simp
     exact hK _ (below_set6 z5 hgB) (fun j v h => h.mono fun g2 k hg => (((((hg.set _ 0 _).set _ 1 _).set _ 2 _).set _ 3 _).set _ 4 _).set _ 5 _) trivial
   | i + 16, ho => simp at ho
 · intro l a W hJ hr
   obtain ⟨z1, z2, z3, z4, z5, z6, z7⟩ := hJ
   have hl := listed_of hr [0, 1, 2, 3, 4, 5, 6, 7, 8, 11, 12, 13] [] (by simp) (by kernel_rfl) (by rw [z1]; decide)
   exact hQ a W z2 z3 (fun e he => z4 e (by simpa using he)) (z6 13 7 (hl 13 (by simp)) rfl) z5
structure RgOk (n : Nat) (p : Ps) : Prop where
 h3 : 3 ≤ n
 h12 : n ≤ 12
 ok : ∀ i, i < n → spotOk (p i).1 (p i).2 = true
 one : OneN n p
theorem rgF_ok {n : Nat} {p : Ps} (h : rgF n p = 0) : RgOk n p := by
 unfold rgF at h
 repeat' split at h
 all_goals first | omega | skip
 rename_i h1 h2 h3 h4 h5
 exact ⟨by omega, by omega, Decidable.not_not.1 h3, Decidable.not_not.1 h4⟩
set_option maxRecDepth 100000 in
set_option maxHeartbeats 8000000 in
theorem l5Meet_any (ao bo : Option Addr) (n cap m cap2 : Nat) (p q : Ps) (hp : RgOk n p) (hq : RgOk m q) (w : World) (hSp : SpIn w ao n p) (hSq : SpIn w bo m q) : Calls Tryz.prog 117 #[.agg #[.slice ao n cap], .agg #[.slice bo m cap2]] w (VP (.bool (rmB n p m q)) w) := by
 have A0 := (Blk.new w [.slice ao n cap] 57 rfl).alloc (.cells #[.slice bo m cap2] 57)
 have A1 := Blk.new (w.alloc (.cells #[.slice ao n cap] 57)) [.slice bo m cap2] 57 (g := w.heap.size + 1) (by simp)
 have HB0 : Below w.heap.size w ((w.alloc (.cells #[.slice ao n cap] 57)).alloc (.cells #[.slice bo m cap2] 57)) := ((Below.refl _ w).alloc (Nat.le_refl _) _).alloc (by simp) _
 have HP : Hid (RgOk n p) := hp
 have HQ : Hid (RgOk m q) := hq
 have h12 := hp.h12
 have m12 := hq.h12
 have hnI : (n : Int) ≤ 12 := by omega
 have hmI : (m : Int) ≤ 12 := by omega
 have HSp : Hid (SpIn ((w.alloc (.cells #[.slice ao n cap] 57)).alloc (.cells #[.slice bo m cap2] 57)) ao n p) := hSp.step HB0
 have HSq : Hid (SpIn ((w.alloc (.cells #[.slice ao n cap] 57)).alloc (.cells #[.slice bo m cap2] 57)) bo m q) := hSq.step HB0
 clear hSp hSq hp hq
 go_enter Tryz.func117, Tryz.ntmps117
 go_wp2_with fail
 generalize ((w.alloc (.cells #[.slice ao n cap] 57)).alloc (.cells #[.slice bo m cap2] 57)) = W1 at *
 go_loopw [5] (fun i wr => ∃ c : Nat, c ≤ n ∧ i = .int .i64 c ∧ (∀ j, j < c → ∀ k, k < m → kdX n p m q j k = 0) ∧ Below W1.heap.size W1 wr) (fun i _ => n - (intOf i).toNat)
 case atStart => exact ⟨0, by omega, rfl, fun j hj => by omega, Below.refl _ _⟩
 case round =>
   obtain ⟨c, hc, rfl, hall, HB⟩ := hrel
   have HD : Hid (∀ j, j < c → ∀ k, k < m → kdX n p m q j k = 0) := hall
   clear hall
   have b0 := (A0.step HB).c 0 rfl
   by_cases hcn : c < n
   · have hcI : (c : Int) < n := by omega
     have HBo := HB
     have HSp2 : Hid (SpIn wr ao n p) := HSp.out.step HB
     have HSq2 : Hid (SpIn wr bo m q) := HSq.out.step HB
     have D0 := A0.step HB
     have D1 := A1.step HB
     clear HB
     go_wp2_with fail
     clear b0
     generalize wr = W4 at *
     go_loopw [6] (fun i wr => ∃ d : Nat, d ≤ m ∧ i = .int .i64 d ∧ (∀ k, k < d → kdX n p m q c k = 0) ∧ Below W4.heap.size W4 wr) (fun i _ => m - (intOf i).toNat)
     case atStart => exact ⟨0, by omega, rfl, fun j hj => by omega, Below.refl _ _⟩
     case round =>
       rename_i hrel
       obtain ⟨d, hd, rfl, hall, HB⟩ := hrel
       have HE : Hid (∀ k, k < d → kdX n p m q c k = 0) := hall
       clear hall
       have b1 := (D1.step HB).c 0 rfl
       by_cases hdn : d < m
       · have hdI : (d : Int) < m := by omega
         have E0 := D0.step HB
         have E1 := D1.step HB
         have SP := HSp2.out.step HB
         have SQ := HSq2.out.step HB
         obtain ⟨i1, i2, i3, i4⟩ := in1_seg (side_ok HP.out.ok HP.out.one HP.out.h3 hcn)
         obtain ⟨j1, j2, j3, j4⟩ := in1_seg (side_ok HQ.out.ok HQ.out.one HQ.out.h3 hdn)
         have HSP : Hid (SpIn wr ao n p) := SP
         have HSQ : Hid (SpIn wr bo m q) := SQ
         clear SP SQ
         go_upto_region 7 with fail
         go_cut [7] (fun z wx => z = .int .i64 (kdX n p m q c d) ∧ Below wr.heap.size wr wx)
         case first =>
           clear b1 HE HD HSp HSq HSp2 HSq2
           refine regMeet (c := c) (d := d) hcn hdn (by omega) (by omega) HSP.out HSQ.out i1 i2 i3 i4 j1 j2 j3 j4 rfl rfl rfl rfl (E0.c 0 rfl) E0.lt (E1.c 0 rfl) E1.lt rfl ?_
           rintro ⟨tm, df⟩ Wz hz hdf hoff h7 hBz
           simp only at hz hdf hoff h7
           change tm.getD 7 undef = .int .i64 (kdX n p m q c d) at h7
           subst hdf
           have htm := tmps_fold [25, 26, 27, 28, 29, 30, 31, 24, 32, 33, 34, 8, 9, 7] tm _ hz hoff
           simp only [List.foldl, List.setIfInBounds_toArray, List.set_cons_zero, List.set_cons_succ, h7] at htm
           clear hz hoff
           generalize tm.getD 25 undef = u0, tm.getD 26 undef = u1, tm.getD 27 undef = u2, tm.getD 28 undef = u3, tm.getD 29 undef = u4, tm.getD 30 undef = u5, tm.getD 31 undef = u6, tm.getD 24 undef = u7, tm.getD 32 undef = u8, tm.getD 33 undef = u9, tm.getD 34 undef = u10, tm.getD 8 undef = u11, tm.getD 9 undef = u12 at htm
           clear h7
           subst htm
           go_wp2_with fail
           go_meet
           exact ⟨rfl, hBz⟩
         case rest =>
           obtain ⟨hm, hBc⟩ := hcut
           subst hm
           have HBN := HB.trans (hBc.mono HB.size)
           clear hBc HB E0 E1 HSP HSQ i1 i2 i3 i4 j1 j2 j3 j4 b1
           by_cases hk : kdX n p m q c d = 0
           · have HK : Hid (kdX n p m q c d = 0) := hk
             rw [hk]
             clear hk
             go_wp2
             go_roundw
             case rel => exact ⟨d + 1, by omega, by go_num, fun k hk => by
               rcases Nat.lt_or_ge k d with h | h
               · exact HE.out k h
               · obtain rfl : k = d := by omega
                 exact HK.out, HBN⟩
             case measure => simp [intOf]; omega
           · have HO : Hid (rmB n p m q = true) := decide_eq_true (fun h => hk (h c hcn d hdn))
             have hk2 : (kdX n p m q c d != 0) = true := by simp [hk]
             revert hk2
             generalize kdX n p m q c d = z
             intro hk2
             have HBF := HB0.trans ((HBo.trans (HBN.mono HBo.size)).mono HB0.size)
             clear hk HBN HBo
             go_wp2
             go_ret
             exact ⟨by rw [HO.out]; rfl, HBF⟩
       · obtain rfl : d = m := by omega
         have HBN := HBo.trans (HB.mono HBo.size)
         clear HBo HB D0 D1 HSp2 HSq2
         go_wp2
         go_roundw
         case rel => exact ⟨c + 1, by omega, by go_num, fun j hj => by
           rcases Nat.lt_or_ge j c with h | h
           · exact HD.out j h
           · obtain rfl : j = c := by omega
             exact HE.out, HBN⟩
         case measure => simp [intOf]; omega
   · obtain rfl : c = n := by omega
     have HO : Hid (rmB c p m q = false) := decide_eq_false (fun h => h HD.out)
     have HBF := HB0.trans (HB.mono HB0.size)
     clear HB HD HSp HSq A0 A1
     go_wp2
     go_ret
     exact ⟨by rw [HO.out]; rfl, HBF⟩
def RgIn (w : World) (ao : Option Addr) (n : Nat) (S : Nat → Option Addr × Nat) (L : Nat → Nat) (q : Nat → Ps) : Prop :=
 ∀ i, i < n → ∃ A off, ao = some ⟨A, off, none⟩ ∧ A < w.heap.size ∧ w.cell? ⟨A, off + i, none⟩ = some (.slice (S i).1 (L i) (S i).2) ∧ SpIn w (S i).1 (L i) (q i)
theorem RgIn.step {w w' : World} {ao : Option Addr} {n : Nat} {S : Nat → Option Addr × Nat} {L : Nat → Nat} {q : Nat → Ps} (h : RgIn w ao n S L q) (hB : Below w.heap.size w w') : RgIn w' ao n S L q := fun i hi => by
 obtain ⟨A, off, e, hA, h0, h1⟩ := h i hi
 exact ⟨A, off, e, Nat.lt_of_lt_of_le hA hB.size, (hB.cell (p := ⟨A, off + i, none⟩) hA).trans h0, h1.step hB⟩
open Go.RowKit Go.Shelf
attribute [local go_sem] Oper.semAt_some
set_option maxRecDepth 100000 in
set_option maxHeartbeats 8000000 in
theorem meets_any (ao bo : Option Addr) (n cap m cap2 : Nat) (p q : Ps) (hn3 : 3 ≤ n) (hn : n ≤ 12) (hok : ∀ i, i < n → spotOk (p i).1 (p i).2 = true) (hone : OneN n p) (hm3 : 3 ≤ m) (hm : m ≤ 12) (hokq : ∀ i, i < m → spotOk (q i).1 (q i).2 = true) (honeq : OneN m q) (w : World) (hS : SpIn w ao n p) (hSq : SpIn w bo m q) : Calls Tryz.prog 84 #[.agg #[.slice ao n cap], .agg #[.slice bo m cap2]] w (VP (.bool (rmB n p m q)) w) := by
 refine (callsIn_wide (n := 12)).1 ?_
 refine callsIn_of_wp_marks Tryz.func84 rfl trivial ?_ rfl
 simp only [Tryz.ntmps84, List.size_toArray, List.length_cons, List.length_nil, Nat.reduceAdd, Nat.reduceSub, Array.replicate_succ, Array.replicate_zero, List.push_toArray, List.append_toArray, List.nil_append, List.cons_append]
 gi_wp2_with (refine ⟨trivial, ?_⟩; gi_at_call 33; refine (callsIn_wide.2 (sides_any _ _ _ _)).mono ?_; rintro e w' ⟨rfl, rfl⟩)
 have bA := (((Boxed.new w 57 (.slice ao n cap)).alloc (.cells #[.slice bo m cap2] 57)).alloc (.cells #[.bool false] 4)).alloc (.cells #[.slice ao n cap] 57)
 have bQ := ((Boxed.new (w.alloc (.cells #[.slice ao n cap] 57)) 57 (.slice bo m cap2)).alloc (.cells #[.bool false] 4)).alloc (.cells #[.slice ao n cap] 57)
 have bR := (Boxed.new ((w.alloc (.cells #[.slice ao n cap] 57)).alloc (.cells #[.slice bo m cap2] 57)) 4 (.bool false)).alloc (.cells #[.slice ao n cap] 57)
 have bN := Boxed.new (((w.alloc (.cells #[.slice ao n cap] 57)).alloc (.cells #[.slice bo m cap2] 57)).alloc (.cells #[.bool false] 4)) 57 (.slice ao n cap)
 simp only [World.size_alloc] at bQ bR bN
 have hB0 : Below w.heap.size w ((((w.alloc (.cells #[.slice ao n cap] 57)).alloc (.cells #[.slice bo m cap2] 57)).alloc (.cells #[.bool false] 4)).alloc (.cells #[.slice ao n cap] 57)) := ((((Below.refl _ w).alloc (Nat.le_refl _) _).alloc (by simp) _).alloc (by simp; omega) _).alloc (by simp; omega) _
 have hsz : ((((w.alloc (.cells #[.slice ao n cap] 57)).alloc (.cells #[.slice bo m cap2] 57)).alloc (.cells #[.bool false] 4)).alloc (.cells #[.slice ao n cap] 57)).heap.size = w.heap.size + 4 := by simp
 obtain ⟨W0, hW0⟩ : ∃ W0, ((((w.alloc (.cells #[.slice ao n cap] 57)).alloc (.cells #[.slice bo m cap2] 57)).alloc (.cells #[.bool false] 4)).alloc (.cells #[.slice ao n cap] 57)) = W0 := ⟨_, rfl⟩
 rw [hW0] at bA bQ bR bN hB0 hsz ⊢
 clear hW0
 have hS0 : SpB w.heap.size W0 ao n p := (hS.low).keep (fun k hk => hB0.block k hk)
 have hS1 : SpB w.heap.size W0 bo m q := (hSq.low).keep (fun k hk => hB0.block k hk)
 refine wpIn_rangeFunc_ownH rfl (by omega) (gf := 66) (lb := #[.pointer (some ⟨w.heap.size + 1 + 1 + 1, 0, none⟩)]) rfl trivial (enters_of Tryz.func66 (by kernel_rfl) rfl)
   (sides_stops (12 - 1) w.heap.size (w.heap.size + 1 + 1 + 1) ao n cap p hn3 hn hok hone W0 (by omega) (by omega) bN.cell hS0) (fun h k => h.trans k) (KpB.put (by omega) (by omega)) (Below.refl _ _) (fun _ => rfl)
   (fun pre W => (∀ i ∈ pre, ∀ k, k < m → kdX n p m q i.1 k = 0) ∧ Below W0.heap.size W0 W)
   (fun c pre W => ((c = .ret ∧ ∃ i ∈ pre, ∃ k, k < m ∧ kdX n p m q i.1 k ≠ 0) ∧ Boxed W (w.heap.size + 1 + 1) 4 (.bool true)) ∧ Below w.heap.size w W)
   (OwnFrom.and (ownFrom_pure _ _) (ownFrom_below (Nat.le_refl _) (Nat.le_refl _)))
   (fun c => OwnFrom.and (OwnFrom.and (ownFrom_pure _ _) (Own.from (boxed_own _ _ _) _)) (ownFrom_below (Nat.le_refl _) (by omega)))
   ⟨by simp, Below.refl _ _⟩
   (fun x a' W => ∃ Bs, BoxV W Bs 53 [.int .i64 (sdA n p x.1).1, .int .i64 (sdA n p x.1).2.1, .int .i64 (sdA n p x.1).2.2.1, .int .i64 (sdA n p x.1).2.2.2] ∧ a' = { tmps := #[.agg #[.slice ao n cap], .agg #[.slice bo m cap2], .pointer (some ⟨w.heap.size, 0, none⟩), .pointer (some ⟨w.heap.size + 1, 0, none⟩), .pointer (some ⟨w.heap.size + 1 + 1, 0, none⟩), undef, .pointer (some ⟨Bs, 0, none⟩), undef, undef, undef, undef, undef, .agg #[.slice ao n cap], .func (.func 66) #[] #[.pointer (some ⟨w.heap.size + 1 + 1 + 1, 0, none⟩)], .int .i64 (x.1 : Int), Sg (sdA n p x.1).1 (sdA n p x.1).2.1 (sdA n p x.1).2.2.1 (sdA n p x.1).2.2.2, undef, undef, undef, undef, undef, undef, undef, undef, undef, undef, undef, undef, undef], defers := [] })
   (fun x a' _ X Y row hs hg hr => by obtain ⟨Bs, e4, e5⟩ := hs; exact ⟨Bs, boxV_own Bs 53 (fun (_ : Unit) => [.int .i64 (sdA n p x.1).1, .int .i64 (sdA n p x.1).2.1, .int .i64 (sdA n p x.1).2.2.1, .int .i64 (sdA n p x.1).2.2.2]) () X Y row e4 hg (fun r e => (hr r e).2), e5⟩)
   ?assign ?body ?done ?stop
 case assign =>
   rintro l pre x W K ⟨hp, hB1⟩ hK
   unfold enS
   gi_wp2
   have hB2 : Below W.heap.size W (W.alloc (.cells #[.int .i64 (sdA n p x.1).1, .int .i64 (sdA n p x.1).2.1, .int .i64 (sdA n p x.1).2.2.1, .int .i64 (sdA n p x.1).2.2.2] 53)) := (Below.refl _ W).alloc (Nat.le_refl _) _
   have hsW := hB1.size
   have b2 := BoxV.new W 53 [.int .i64 (sdA n p x.1).1, .int .i64 (sdA n p x.1).2.1, .int .i64 (sdA n p x.1).2.2.1, .int .i64 (sdA n p x.1).2.2.2]
   exact hK _ _ (below_keeps hB2) (KpB.of hB2 (by omega) (by omega)) ⟨hp, hB1.trans (hB2.mono hB1.size)⟩ ⟨_, b2, rfl⟩
 case body =>
   rintro l pre x a' W hl ⟨r, hr⟩ ⟨hp, hB1⟩ ⟨Bs, bS, rfl⟩ hlt
   have bQ1 := boxed_step bQ hB1
   have cQ := bQ1.cell
   have h1' : 1 ≤ 12 - 1 - 1 := by omega
   gi_wp2_with (refine ⟨trivial, ?_⟩; gi_at_call 33; refine (CallsIn.inRound l (callsIn_wide.2 (sides_any _ _ _ _))).mono ?_; rintro e w' ⟨rfl, rfl⟩)
   have hsW := hB1.size
   have bN1 := Boxed.new W 57 (.slice bo m cap2)
   have hr' : (W.alloc (.cells #[.slice bo m cap2] 57)).heap[l]? = some (.loop r) := (Below.heap_alloc W _ l (Array.getElem?_eq_some_iff.1 hr).1).trans hr
   have hBR : Below W.heap.size W (W.alloc (.cells #[.slice bo m cap2] 57)) := (Below.refl _ W).alloc (Nat.le_refl _) _
   have hSW : SpB w.heap.size (W.alloc (.cells #[.slice bo m cap2] 57)) bo m q := hS1.keep (fun k hk => (hBR.block k (by omega)).trans (hB1.block k (by omega)))
   have hbR := boxed_step bR hB1
   have hxn := x.2
   have hs1 : (W.alloc (.cells #[.slice bo m cap2] 57)).heap.size = W.heap.size + 1 := by simp
   obtain ⟨W1, hW1⟩ : ∃ W1, W.alloc (.cells #[.slice bo m cap2] 57) = W1 := ⟨_, rfl⟩
   rw [hW1] at bN1 hr' hBR hSW hs1 ⊢
   clear hW1
   refine wpIn_rangeFunc_ownN (l₀ := l) (r₀ := r) rfl hr' h1' (gf := 66) (lb := #[.pointer (some ⟨W.heap.size, 0, none⟩)]) rfl trivial (enters_of Tryz.func66 (by kernel_rfl) rfl)
     ((sides_stops (12 - 1 - 1 - 1) w.heap.size W.heap.size bo m cap2 q hm3 hm hokq honeq W1 (by omega) (by omega) bN1.cell hSW).inRound l) (fun h k => h.trans k) (KpB.put (by omega) (by omega)) (Below.refl _ _) (fun _ => rfl)
     (fun pre' W' => (∀ y ∈ pre', kdX n p m q x.1 y.1 = 0) ∧ Below W1.heap.size W1 W')
     (fun c pre' W' => ((c = .ret ∧ ∃ y ∈ pre', kdX n p m q x.1 y.1 ≠ 0) ∧ Boxed W' (w.heap.size + 1 + 1) 4 (.bool true)) ∧ Below w.heap.size W W' ∧ KeepsFrom W0.heap.size W W')
     (OwnFrom.and (ownFrom_pure _ _) (ownFrom_below (Nat.le_refl _) (Nat.le_refl _)))
     (fun c => OwnFrom.and (OwnFrom.and (ownFrom_pure _ _) (Own.from (boxed_own _ _ _) _)) (OwnFrom.and (ownFrom_below (by omega) (by omega)) (ownFrom_keepsFrom (by omega))))
     ⟨by simp, Below.refl _ _⟩
     (fun y a'' W' => ∃ Bt, BoxV W' Bt 53 [.int .i64 (sdA m q y.1).1, .int .i64 (sdA m q y.1).2.1, .int .i64 (sdA m q y.1).2.2.1, .int .i64 (sdA m q y.1).2.2.2] ∧ a'' = { tmps := #[.agg #[.slice ao n cap], .agg #[.slice bo m cap2], .pointer (some ⟨w.heap.size, 0, none⟩), .pointer (some ⟨w.heap.size + 1, 0, none⟩), .pointer (some ⟨w.heap.size + 1 + 1, 0, none⟩), undef, .pointer (some ⟨Bs, 0, none⟩), undef, .pointer (some ⟨Bt, 0, none⟩), undef, undef, undef, .agg #[.slice ao n cap], .func (.func 66) #[] #[.pointer (some ⟨w.heap.size + 1 + 1 + 1, 0, none⟩)], .int .i64 (x.1 : Int), Sg (sdA n p x.1).1 (sdA n p x.1).2.1 (sdA n p x.1).2.2.1 (sdA n p x.1).2.2.2, .agg #[.slice bo m cap2], .func (.func 66) #[] #[.pointer (some ⟨W.heap.size, 0, none⟩)], .int .i64 (y.1 : Int), Sg (sdA m q y.1).1 (sdA m q y.1).2.1 (sdA m q y.1).2.2.1 (sdA m q y.1).2.2.2, undef, undef, undef, undef, undef, undef, undef, undef, undef], defers := [] })
     (fun y a'' _ X Y row hs hg hrw => by obtain ⟨Bt, e4, e5⟩ := hs; exact ⟨Bt, boxV_own Bt 53 (fun (_ : Unit) => [.int .i64 (sdA m q y.1).1, .int .i64 (sdA m q y.1).2.1, .int .i64 (sdA m q y.1).2.2.1, .int .i64 (sdA m q y.1).2.2.2]) () X Y row e4 hg (fun r e => (hrw r e).2), e5⟩)
     ?assign2 ?body2 ?done2 ?stop2
   case assign2 =>
     rintro l2 pre' y W' K ⟨hq, hBW⟩ hK
     unfold enS
     gi_wp2
     have hB2 : Below W'.heap.size W' (W'.alloc (.cells #[.int .i64 (sdA m q y.1).1, .int .i64 (sdA m q y.1).2.1, .int .i64 (sdA m q y.1).2.2.1, .int .i64 (sdA m q y.1).2.2.2] 53)) := (Below.refl _ W').alloc (Nat.le_refl _) _
     have hsW2 := hBW.size
     have b2 := BoxV.new W' 53 [.int .i64 (sdA m q y.1).1, .int .i64 (sdA m q y.1).2.1, .int .i64 (sdA m q y.1).2.2.1, .int .i64 (sdA m q y.1).2.2.2]
     exact hK _ _ (below_keeps hB2) (KpB.of hB2 (by omega) (by omega)) ⟨hq, hBW.trans (hB2.mono hBW.size)⟩ ⟨_, b2, rfl⟩
   case body2 =>
     rintro l2 pre' y a'' W' _ _ ⟨hq, hBW⟩ ⟨Bt, bT, rfl⟩ _
     have hBX : Below W.heap.size W W' := hBR.trans (hBW.mono hBR.size)
     have bS2 := (bS.step hBX).blk
     have bT2 := bT.blk
     have bR2 := boxed_step hbR hBX
     have s0' := bS2.c 0 rfl; have s1' := bS2.c 1 rfl; have s2' := bS2.c 2 rfl; have s3' := bS2.c 3 rfl
     have t0' := bT2.c 0 rfl; have t1' := bT2.c 1 rfl; have t2' := bT2.c 2 rfl; have t3' := bT2.c 3 rfl
     have hsX := hBW.size
     obtain ⟨i1, i2, i3, i4⟩ := in1_seg (side_ok hok hone hn3 x.2)
     obtain ⟨j1, j2, j3, j4⟩ := in1_seg (side_ok hokq honeq hm3 y.2)
     obtain ⟨r0, r1, r2, r3, r4, r5, r6, r7, r8, r9, r10, r11, s0, s1, s2, s3, s4, s5, s6, s7, s8, s9, s10, s11, hW12⟩ := meetW_12 (sdA n p x.1).1 (sdA n p x.1).2.1 (sdA n p x.1).2.2.1 (sdA n p x.1).2.2.2 (sdA m q y.1).1 (sdA m q y.1).2.1 (sdA m q y.1).2.2.1 (sdA m q y.1).2.2.2
     have MT := meet_det (sdA n p x.1).1 (sdA n p x.1).2.1 (sdA n p x.1).2.2.1 (sdA n p x.1).2.2.2 (sdA m q y.1).1 (sdA m q y.1).2.1 (sdA m q y.1).2.2.1 (sdA m q y.1).2.2.2 i1 i2 i3 i4 j1 j2 j3 j4
     rw [hW12] at MT
     have hkd : kndZ (sdA n p x.1).1 (sdA n p x.1).2.1 (sdA n p x.1).2.2.1 (sdA n p x.1).2.2.2 (sdA m q y.1).1 (sdA m q y.1).2.1 (sdA m q y.1).2.2.1 (sdA m q y.1).2.2.2 = kdX n p m q x.1 y.1 := rfl
     rw [hkd] at MT
     clear i1 i2 i3 i4 j1 j2 j3 j4 hW12 hkd
     generalize hzk : kdX n p m q x.1 y.1 = zk at *
     by_cases hz0 : zk = 0
     · have e1 : (zk != 0) = false := by simp [hz0]
       gi_wp2_with (refine ⟨trivial, ?_⟩; gi_at_call 86; refine (CallsIn.inRound l2 (CallsIn.inRound l (callsIn_wide.2 (MT _)))).mono ?_; rintro e v1 ⟨rfl, hBm⟩)
       have hBN : Below W'.heap.size W' ((v1.alloc (.cells #[.int .u64 r0, .int .u64 r1, .int .u64 r2, .int .u64 r3, .int .u64 r4, .int .u64 r5, .int .u64 r6, .int .u64 r7, .int .u64 r8, .int .u64 r9, .int .u64 r10, .int .u64 r11] 44)).alloc (.cells #[.int .u64 s0, .int .u64 s1, .int .u64 s2, .int .u64 s3, .int .u64 s4, .int .u64 s5, .int .u64 s6, .int .u64 s7, .int .u64 s8, .int .u64 s9, .int .u64 s10, .int .u64 s11] 44)) := (hBm.alloc hBm.size _).alloc (Nat.le_trans hBm.size (by simp)) _
       refine ⟨below_keeps hBN, KpB.of hBN (by omega) (by omega), fun z hz => ?_, hBW.trans (hBN.mono hBW.size)⟩
       rcases List.mem_append.1 hz with h | h
       · exact hq z h
       · simp at h
         subst h
         rw [hzk, hz0]
     · have e1 : (zk != 0) = true := by simp [hz0]
       gi_wp2_with (refine ⟨trivial, ?_⟩; gi_at_call 86; refine (CallsIn.inRound l2 (CallsIn.inRound l (callsIn_wide.2 (MT _)))).mono ?_; rintro e v1 ⟨rfl, hBm⟩; have hBN : Below W'.heap.size W' ((v1.alloc (.cells #[.int .u64 r0, .int .u64 r1, .int .u64 r2, .int .u64 r3, .int .u64 r4, .int .u64 r5, .int .u64 r6, .int .u64 r7, .int .u64 r8, .int .u64 r9, .int .u64 r10, .int .u64 r11] 44)).alloc (.cells #[.int .u64 s0, .int .u64 s1, .int .u64 s2, .int .u64 s3, .int .u64 s4, .int .u64 s5, .int .u64 s6, .int .u64 s7, .int .u64 s8, .int .u64 s9, .int .u64 s10, .int .u64 s11] 44)) := (hBm.alloc hBm.size _).alloc (Nat.le_trans hBm.size (by simp)) _; have bR3 := boxed_step bR2 hBN; have cR3 := bR3.cell; have fR3 := bR3.frozen)
       have hXN := hBX.trans (hBN.mono hBX.size)
       exact ⟨(below_keeps hBN).trans ((KeepsOthers.setCell _ _ _).from _), ⟨⟨⟨rfl, y, List.mem_append.2 (.inr (by simp)), by rw [hzk]; exact hz0⟩, bR3.set _⟩, (hXN.mono (show w.heap.size ≤ W.heap.size by omega)).setCell (p := ⟨w.heap.size + 1 + 1, 0, none⟩) (by simp; omega) _, (below_keeps hXN).trans ((KeepsOthers.setCell _ _ _).from _)⟩⟩
   case done2 =>
     rintro ys' W' rfl ⟨hq, hBW⟩
     have hBX : Below W.heap.size W W' := hBR.trans (hBW.mono hBR.size)
     gi_wp2
     refine ⟨below_keeps hBX, KpB.of hBX (by omega) (by omega), fun i hi => ?_, hB1.trans (hBX.mono hB1.size)⟩
     rcases List.mem_append.1 hi with h | h
     · exact hp i h
     · simp at h
       subst h
       exact fun k hk => hq ⟨k, hk⟩ (List.mem_finRange _)
   case stop2 =>
     rintro c pre' W' hpre ⟨⟨⟨rfl, y, hy, hk⟩, bR2⟩, hBW, hKF⟩
     gi_wp2
     exact ⟨hKF, ⟨⟨rfl, x, List.mem_append.2 (.inr (by simp)), y.1, y.2, hk⟩, bR2⟩, (hB0.trans (hB1.mono (by omega))).trans hBW⟩
 case done =>
   rintro D zs W hD rfl ⟨hp, hB1⟩ hK
   have bR1 := boxed_step bR hB1
   have cR := bR1.cell
   have fR := bR1.frozen
   gi_wp2
   have hK' := (KeepsOthers.setCell W ⟨w.heap.size + 1 + 1, 0, none⟩ (.bool false)).same D _ hK rfl
   refine ⟨by simp, .inl ⟨_, _, rfl, run_takeDeferred hK', ?_⟩⟩
   have hc5 := cell_kept (bR1.set (.bool false)).cell (grownBy_putObj' _ D (.deferred none)) (fun r e => by cases e; exact ⟨_, hK', rfl⟩)
   have hBW : Below w.heap.size w W := hB0.trans (hB1.mono (by omega))
   refine ⟨.bool false, ?_, by unfold rmB; rw [decide_eq_false (fun h => h (fun i hi k hk => hp ⟨i, hi⟩ (List.mem_finRange _) k hk))], (hBW.setCell (p := ⟨w.heap.size + 1 + 1, 0, none⟩) (by simp; omega) _).trans (belowK_b (w := w) (Nat.le_refl _) _ D _ _ (by omega) hK' rfl rfl)⟩
   simp [results, Tryz.results84, go_sem, hc5]
 case stop =>
   rintro D c pre W hD hpre ⟨⟨⟨rfl, i, hi, k, hk, hbd⟩, bR1⟩, hB1⟩ hK
   have cR := bR1.cell
   gi_wp2
   refine ⟨by simp, .inl ⟨_, _, rfl, run_takeDeferred hK, ?_⟩⟩
   have hc5 := cell_kept bR1.cell (grownBy_putObj' _ D (.deferred none)) (fun r e => by cases e; exact ⟨_, hK, rfl⟩)
   have hd : rmB n p m q = true := decide_eq_true (fun h => hbd (h i.1 i.2 k hk))
   refine ⟨.bool true, ?_, by rw [hd], hB1.trans (belowK_b (w := w) (Nat.le_refl _) _ D _ _ (by omega) hK rfl rfl)⟩
   simp [results, Tryz.results84, go_sem, hc5]
end Go.Proofs.YteakhlipmmfilaaGreat
