/- Part 16 of the walks that the proof leans on. -/
import Derived.Test.YtibbjjlapglndaaGreatLs15
import Derived.Test.YtibbjjlapglndaaGreatLs13
import Derived.Test.YtibbjjlapglndaaGreatLs14
import Derived.Laws.AppendOwn
import Derived.OwnWalkIn
import Derived.RangeFuncBox
import Derived.Sort.CutIn
import Derived.Test.YtibbjjlapglndaaGreatLs10
import Derived.Test.YtibbjjlapglndaaGreatLs11
namespace Go.Proofs.YtibbjjlapglndaaGreat
open Go.RowKit
set_option maxRecDepth 100000 in
set_option maxHeartbeats 200000000 in
theorem specRingFault_any (ao : Option Addr) (n cap : Nat) (p : Ps) (hn : n ≤ 1048576) (w : World) (hS : SpIn w ao n p) : Calls Tryz.prog 49 #[.agg #[.slice ao n cap]] w (VP (.int .i64 (rgF n p)) w) := by
 have B0 := Blk.new w [.slice ao n cap] 34 rfl
 have HB0 : Below w.heap.size w (w.alloc (.cells #[.slice ao n cap] 34)) := (Below.refl _ w).alloc (Nat.le_refl _) _
 have HS0 := hS.step HB0
 have b0 := B0.c 0 rfl
 have hnI : (n : Int) ≤ 1048576 := by omega
 clear hS
 go_enter Tryz.func49, Tryz.ntmps49
 go_upto_region 1 with fail
 generalize (w.alloc (.cells #[.slice ao n cap] 34)) = W1 at *
 by_cases h1 : n < 3
 · have HO : Hid (rgF n p = 1) := by show _ = _; unfold rgF; rw [if_pos h1]
   have h1I : (n : Int) < 3 := by omega
   clear HS0 B0
   go_wp2
   go_ret
   exact ⟨by rw [HO.out]; rfl, HB0⟩
 by_cases h2 : 12 < n
 · have HO : Hid (rgF n p = 2) := by show _ = _; unfold rgF; rw [if_neg h1, if_pos h2]
   have h1I : (3 : Int) ≤ n := by omega
   have h2I : (12 : Int) < n := by omega
   clear HS0 B0
   go_wp2
   go_ret
   exact ⟨by rw [HO.out]; rfl, HB0⟩
 have h1I : (3 : Int) ≤ n := by omega
 have h2I : (n : Int) ≤ 12 := by omega
 have HS : Hid (SpIn W1 ao n p) := HS0
 clear HS0
 go_wp2_with fail
 clear b0
 go_loopw [4] (fun i wr => ∃ c : Nat, c ≤ n ∧ i = .int .i64 c ∧ (∀ j, j < c → spotOk (p j).1 (p j).2 = true) ∧ Below W1.heap.size W1 wr) (fun i _ => n - (intOf i).toNat)
 case atStart => exact ⟨0, by omega, rfl, fun j hj => by omega, Below.refl _ _⟩
 case round =>
   obtain ⟨c, hc, rfl, hall, HB⟩ := hrel
   have HA : Hid (∀ j, j < c → spotOk (p j).1 (p j).2 = true) := hall
   clear hall
   by_cases hcn : c < n
   · obtain ⟨A, off, rfl, hA, q0, q1⟩ := HS.out.step HB c hcn
     have hcI : (c : Int) < n := by omega
     have b0 := (B0.step HB).c 0 rfl
     go_wp2_with fail
     refine (specSpotOk_any (p c).1 (p c).2 _ rfl _).mono ?_
     rintro e w1 ⟨rfl, hB⟩
     replace HB := HB.trans (hB.mono HB.size)
     clear hB q0 q1 hA b0
     by_cases hk : spotOk (p c).1 (p c).2 = true
     · rw [hk]
       have HK : Hid (spotOk (p c).1 (p c).2 = true) := hk
       clear hk
       go_wp2
       go_roundw
       case rel => exact ⟨c + 1, by omega, by go_num, fun j hj => by
         rcases Nat.lt_or_ge j c with h | h
         · exact HA.out j h
         · obtain rfl : j = c := by omega
           exact HK.out, HB⟩
       case measure => simp [intOf]; omega
     · have HO : Hid (rgF n p = 3) := by show _ = _; unfold rgF; rw [if_neg h1, if_neg h2, if_pos (fun h => hk (h c hcn))]
       rw [Bool.eq_false_iff.2 hk]
       have HBF := HB0.trans (HB.mono HB0.size)
       clear hk
       go_wp2
       go_ret
       exact ⟨by rw [HO.out]; rfl, HBF⟩
   · obtain rfl : n = c := by omega
     have HB1 := HB0.trans (HB.mono HB0.size)
     have HS1 : Hid (SpIn wr ao n p) := HS.out.step HB
     have B1 := B0.step HB
     clear HS B0 HB
     go_wp2_with fail
     generalize wr = W2 at *
     go_loopw [5] (fun i wr => ∃ c : Nat, c ≤ n ∧ i = .int .i64 c ∧ (∀ j, j < c → ∀ k, k < j → p j ≠ p k) ∧ Below W2.heap.size W2 wr) (fun i _ => n - (intOf i).toNat)
     case atStart => exact ⟨0, by omega, rfl, fun j hj => by omega, Below.refl _ _⟩
     case round =>
       rename_i hrel
       obtain ⟨c, hc, rfl, hall, HB⟩ := hrel
       have HC : Hid (∀ j, j < c → ∀ k, k < j → p j ≠ p k) := hall
       clear hall
       by_cases hcn : c < n
       · have hcI : (c : Int) < n := by omega
         have HSo : Hid (SpIn wr ao n p) := HS1.out.step HB
         have HB4 := HB1.trans (HB.mono HB1.size)
         have B3 := B1.step HB
         have HBo := HB
         clear HB
         go_wp2_with fail
         generalize wr = W4 at *
         go_loopw [6] (fun i wr => ∃ d : Nat, d ≤ c ∧ i = .int .i64 d ∧ (∀ k, k < d → p c ≠ p k) ∧ Below W4.heap.size W4 wr) (fun i _ => c - (intOf i).toNat)
         case atStart => exact ⟨0, by omega, rfl, fun j hj => by omega, Below.refl _ _⟩
         case round =>
           rename_i hrel
           obtain ⟨d, hd, rfl, hall, HB⟩ := hrel
           have HE : Hid (∀ k, k < d → p c ≠ p k) := hall
           clear hall
           by_cases hdn : d < c
           · have hdI : (d : Int) < c := by omega
             have hdI2 : (d : Int) < n := by omega
             obtain ⟨A, off, rfl, hA, q0, q1⟩ := HSo.out.step HB c hcn
             obtain ⟨A', off', hao, -, m0, m1⟩ := HSo.out.step HB d (by omega)
             obtain ⟨rfl, rfl⟩ : A = A' ∧ off = off' := by simpa using hao
             have b0 := (B3.step HB).c 0 rfl
             have EQ := eqSp2 (p c).1 (p c).2 (p d).1 (p d).2
             have KS : (fun w' : World => w'.cell? ⟨w.heap.size, 0, none⟩ = some (.slice (some ⟨A, off, none⟩) n cap) ∧ w'.cell? ⟨A, off + c * 2, none⟩ = some (.int .i64 (p c).1) ∧ w'.cell? ⟨A, off + c * 2 + 1, none⟩ = some (.int .i64 (p c).2) ∧ w'.cell? ⟨A, off + d * 2, none⟩ = some (.int .i64 (p d).1) ∧ w'.cell? ⟨A, off + d * 2 + 1, none⟩ = some (.int .i64 (p d).2)) wr := ⟨b0, q0, q1, m0, m1⟩
             go_upto_region 17 with fail
             go_region_held3 (fun w' : World => w'.cell? ⟨w.heap.size, 0, none⟩ = some (.slice (some ⟨A, off, none⟩) n cap) ∧ w'.cell? ⟨A, off + c * 2, none⟩ = some (.int .i64 (p c).1) ∧ w'.cell? ⟨A, off + c * 2 + 1, none⟩ = some (.int .i64 (p c).2) ∧ w'.cell? ⟨A, off + d * 2, none⟩ = some (.int .i64 (p d).1) ∧ w'.cell? ⟨A, off + d * 2 + 1, none⟩ = some (.int .i64 (p d).2)) (exact KS) (fail)
             all_goals have HBD := HB.drew
             all_goals clear KS b0 q0 q1 m0 m1 EQ hao hA HB
             all_goals by_cases h : (p c).1 = (p d).1 ∧ (p c).2 = (p d).2
             all_goals first
               | (have HO : Hid (rgF n p = 4) := by
                    show _ = _
                    unfold rgF
                    rw [if_neg h1, if_neg h2, if_neg (fun hh => hh HA.out), if_pos (fun hh => hh c hcn d hdn (Prod.ext h.1 h.2))]
                  have d1 : (decide ((p c).1 = (p d).1) && decide ((p c).2 = (p d).2)) = true := by simp [h.1, h.2]
                  rw [d1]
                  have HBF := HB4.trans (HBD.mono HB4.size)
                  clear d1 h
                  go_wp2
                  go_ret
                  exact ⟨by rw [HO.out]; rfl, HBF⟩)
               | (have HH : Hid (p c ≠ p d) := fun e => h ⟨by rw [e], by rw [e]⟩
                  have d1 : (decide ((p c).1 = (p d).1) && decide ((p c).2 = (p d).2)) = false := by
                    rw [Bool.eq_false_iff]
                    intro hh
                    simp at hh
                    exact h hh
                  rw [d1]
                  clear d1 h
                  go_wp2
                  go_roundw)
             case rel => exact ⟨d + 1, by omega, by go_num, fun k hk => by
               rcases Nat.lt_or_ge k d with h | h
               · exact HE.out k h
               · obtain rfl : k = d := by omega
                 exact HH.out, HBD⟩
             case measure => simp [intOf]; omega
           · obtain rfl : c = d := by omega
             have HBF := HBo.trans (HB.mono HBo.size)
             clear HB HBo HB4 HSo B3
             go_wp2
             go_roundw
             case rel => exact ⟨c + 1, by omega, by go_num, fun j hj => by
               rcases Nat.lt_or_ge j c with h | h
               · exact HC.out j h
               · obtain rfl : j = c := by omega
                 exact HE.out, HBF⟩
             case measure => simp [intOf]; omega
       · obtain rfl : n = c := by omega
         have HB3 := HB1.trans (HB.mono HB1.size)
         have HS2 : Hid (SpIn wr ao n p) := HS1.out.step HB
         have B2 := B1.step HB
         clear HS1 B1 HB HB1
         go_wp2_with fail
         generalize wr = W3 at *
         go_loopw [7] (fun i wr => ∃ c : Nat, c ≤ n ∧ i = .int .i64 c ∧ (∀ j, j < c → ∀ k, k < j → bdB n p j k = false) ∧ Below W3.heap.size W3 wr) (fun i _ => n - (intOf i).toNat)
         case atStart => exact ⟨0, by omega, rfl, fun j hj => by omega, Below.refl _ _⟩
         case round =>
           rename_i hrel
           obtain ⟨c, hc, rfl, hall, HB⟩ := hrel
           have HD : Hid (∀ j, j < c → ∀ k, k < j → bdB n p j k = false) := hall
           clear hall
           by_cases hcn : c < n
           · have hcI : (c : Int) < n := by omega
             have HSo : Hid (SpIn wr ao n p) := HS2.out.step HB
             have HB4 := HB3.trans (HB.mono HB3.size)
             have B3 := B2.step HB
             have HBo := HB
             clear HB
             go_wp2_with fail
             generalize wr = W4 at *
             go_loopw [8] (fun i wr => ∃ d : Nat, d ≤ c ∧ i = .int .i64 d ∧ (∀ k, k < d → bdB n p c k = false) ∧ Below W4.heap.size W4 wr) (fun i _ => c - (intOf i).toNat)
             case atStart => exact ⟨0, by omega, rfl, fun j hj => by omega, Below.refl _ _⟩
             case round =>
               rename_i hrel
               obtain ⟨d, hd, rfl, hall, HB⟩ := hrel
               have HE : Hid (∀ k, k < d → bdB n p c k = false) := hall
               clear hall
               by_cases hdn : d < c
               · have hdI : (d : Int) < c := by omega
                 have HSr := HSo.out.step HB
                 have B4 := B3.step HB
                 obtain ⟨A, off, rfl, -, -, -⟩ := HSr c hcn
                 obtain ⟨i1, i2, i3, i4⟩ := in1_seg (side_ok HA.out HC.out (by omega) hcn)
                 obtain ⟨j1, j2, j3, j4⟩ := in1_seg (side_ok HA.out HC.out (by omega) (show d < n by omega))
                 have L1 := fun w h => l5Side_any (some ⟨A, off, none⟩) n cap p c hcn hn w h
                 have L2 := fun w h => l5Side_any (some ⟨A, off, none⟩) n cap p d (by omega) hn w h
                 have LM := l4Meet_any (sdA n p c).1 (sdA n p c).2.1 (sdA n p c).2.2.1 (sdA n p c).2.2.2 (sdA n p d).1 (sdA n p d).2.1 (sdA n p d).2.2.1 (sdA n p d).2.2.2 i1 i2 i3 i4 j1 j2 j3 j4
                 have hbs := bd_same HC.out (by omega) hcn hdn
                 have hkin : kdA n p c d = 0 ∨ kdA n p c d = 1 ∨ kdA n p c d = 2 := knd_in _ _ _ _ _ _ _ _
                 go_upto_region 25 with fail
                 go_cut [9] (fun m wx => m = .int .i64 (kdA n p c d) ∧ Below wr.heap.size wr wx)
                 case first =>
                   clear HE HD HB4 HSo HS2 HA HC hbs hkin L1 L2 LM
                   refine reg25 (c := c) (d := d) hcn (by omega) hn HSr i1 i2 i3 i4 j1 j2 j3 j4 (by have hz := HB3.size; have hz2 := HBo.size; first | exact B4.lt | omega) (B4.c 0 rfl) rfl rfl rfl rfl (by simp) (by simp) (by simp) (by simp) ?_
                   rintro ⟨tm, df⟩ Wz hz hdf hoff h9 hBz
                   simp only at hz hdf hoff h9
                   subst hdf
                   have htm := tmps_fold [64, 65, 66, 67, 68, 69, 70, 63, 71, 72, 73, 10, 11, 9] tm _ hz hoff
                   simp only [List.foldl, List.setIfInBounds_toArray, List.set_cons_zero, List.set_cons_succ, h9] at htm
                   clear hz hoff
                   generalize tm.getD 64 undef = u0, tm.getD 65 undef = u1, tm.getD 66 undef = u2, tm.getD 67 undef = u3, tm.getD 68 undef = u4, tm.getD 69 undef = u5, tm.getD 70 undef = u6, tm.getD 63 undef = u7, tm.getD 71 undef = u8, tm.getD 72 undef = u9, tm.getD 73 undef = u10, tm.getD 10 undef = u11, tm.getD 11 undef = u12 at htm
                   clear h9
                   subst htm
                   go_wp2_with fail
                   go_meet
                   exact ⟨rfl, hBz⟩
                 case rest =>
                   obtain ⟨hm, hBc⟩ := hcut
                   subst hm
                   have HB5 := HB.trans (hBc.mono HB.size)
                   clear hBc HB B4 HSr L1 L2 LM i1 i2 i3 i4 j1 j2 j3 j4
                   generalize kdA n p c d = z at *
                   have hs1 : IntKind.i64.wrap ((c : Int) - 1) = (c : Int) - 1 := by rw [IntKind.wrap_i64]; omega
                   have hs2 : IntKind.i64.wrap ((n : Int) - 1) = (n : Int) - 1 := by rw [IntKind.wrap_i64]; omega
                   have HBS : Hid (bdB n p c d = ((nxB n c d && !(decide (z = 1))) || (!(nxB n c d) && !(decide (z = 0))))) := hbs
                   clear hbs
                   have HBF := HB4.trans (HB5.mono HB4.size)
                   rcases (show (d + 1 = c) ∨ (d + 1 ≠ c ∧ d = 0 ∧ c + 1 = n) ∨ (d + 1 ≠ c ∧ d = 0 ∧ c + 1 ≠ n) ∨ (d + 1 ≠ c ∧ d ≠ 0) by omega) with hN1 | hN2 | hN3 | hN4
                   · have HX : Hid (nxB n c d = true) := by show _ = _; unfold nxB; simp; omega
                     have b1 : ((d : Int) == (c : Int) - 1) = true := beq_iff_eq.2 (by omega)
                     clear hN1
                     rcases hkin with rfl | rfl | rfl
                     · have HO : Hid (rgF n p = 5) := by
                         show _ = _
                         unfold rgF
                         rw [if_neg h1, if_neg h2, if_neg (fun hh => hh HA.out), if_neg (fun hh => hh HC.out), if_pos (fun hh => by
                           have e := hh c hcn d hdn
                           rw [HBS.out, HX.out] at e
                           simp at e)]
                       go_wp2
                       go_ret
                       exact ⟨by rw [HO.out]; rfl, HBF⟩
                     · have HN : Hid (bdB n p c d = false) := by show _ = _; rw [HBS.out, HX.out]; rfl
                       go_wp2
                       go_roundw
                       case rel => exact ⟨d + 1, by omega, by go_num, fun k hk => by
                         rcases Nat.lt_or_ge k d with h | h
                         · exact HE.out k h
                         · obtain rfl : k = d := by omega
                           exact HN.out, HB5⟩
                       case measure => simp [intOf]; omega
                     · have HO : Hid (rgF n p = 5) := by
                         show _ = _
                         unfold rgF
                         rw [if_neg h1, if_neg h2, if_neg (fun hh => hh HA.out), if_neg (fun hh => hh HC.out), if_pos (fun hh => by
                           have e := hh c hcn d hdn
                           rw [HBS.out, HX.out] at e
                           simp at e)]
                       go_wp2
                       go_ret
                       exact ⟨by rw [HO.out]; rfl, HBF⟩
                   · have HX : Hid (nxB n c d = true) := by show _ = _; unfold nxB; simp; omega
                     have b1 : ((d : Int) == (c : Int) - 1) = false := beq_eq_false_iff_ne.2 (by omega)
                     have b2 : ((d : Int) == 0) = true := beq_iff_eq.2 (by omega)
                     have b3 : ((c : Int) == (n : Int) - 1) = true := beq_iff_eq.2 (by omega)
                     clear hN2
                     rcases hkin with rfl | rfl | rfl
                     · have HO : Hid (rgF n p = 5) := by
                         show _ = _
                         unfold rgF
                         rw [if_neg h1, if_neg h2, if_neg (fun hh => hh HA.out), if_neg (fun hh => hh HC.out), if_pos (fun hh => by
                           have e := hh c hcn d hdn
                           rw [HBS.out, HX.out] at e
                           simp at e)]
                       go_wp2
                       go_ret
                       exact ⟨by rw [HO.out]; rfl, HBF⟩
                     · have HN : Hid (bdB n p c d = false) := by show _ = _; rw [HBS.out, HX.out]; rfl
                       go_wp2
                       go_roundw
                       case rel => exact ⟨d + 1, by omega, by go_num, fun k hk => by
                         rcases Nat.lt_or_ge k d with h | h
                         · exact HE.out k h
                         · obtain rfl : k = d := by omega
                           exact HN.out, HB5⟩
                       case measure => simp [intOf]; omega
                     · have HO : Hid (rgF n p = 5) := by
                         show _ = _
                         unfold rgF
                         rw [if_neg h1, if_neg h2, if_neg (fun hh => hh HA.out), if_neg (fun hh => hh HC.out), if_pos (fun hh => by
                           have e := hh c hcn d hdn
                           rw [HBS.out, HX.out] at e
                           simp at e)]
                       go_wp2
                       go_ret
                       exact ⟨by rw [HO.out]; rfl, HBF⟩
                   · have HX : Hid (nxB n c d = false) := by show _ = _; unfold nxB; rw [Bool.eq_false_iff]; intro hh; simp at hh; omega
                     have b1 : ((d : Int) == (c : Int) - 1) = false := beq_eq_false_iff_ne.2 (by omega)
                     have b2 : ((d : Int) == 0) = true := beq_iff_eq.2 (by omega)
                     have b3 : ((c : Int) == (n : Int) - 1) = false := beq_eq_false_iff_ne.2 (by omega)
                     clear hN3
                     rcases hkin with rfl | rfl | rfl
                     · have HN : Hid (bdB n p c d = false) := by show _ = _; rw [HBS.out, HX.out]; rfl
                       go_wp2
                       go_roundw
                       case rel => exact ⟨d + 1, by omega, by go_num, fun k hk => by
                         rcases Nat.lt_or_ge k d with h | h
                         · exact HE.out k h
                         · obtain rfl : k = d := by omega
                           exact HN.out, HB5⟩
                       case measure => simp [intOf]; omega
                     · have HO : Hid (rgF n p = 5) := by
                         show _ = _
                         unfold rgF
                         rw [if_neg h1, if_neg h2, if_neg (fun hh => hh HA.out), if_neg (fun hh => hh HC.out), if_pos (fun hh => by
                           have e := hh c hcn d hdn
                           rw [HBS.out, HX.out] at e
                           simp at e)]
                       go_wp2
                       go_ret
                       exact ⟨by rw [HO.out]; rfl, HBF⟩
                     · have HO : Hid (rgF n p = 5) := by
                         show _ = _
                         unfold rgF
                         rw [if_neg h1, if_neg h2, if_neg (fun hh => hh HA.out), if_neg (fun hh => hh HC.out), if_pos (fun hh => by
                           have e := hh c hcn d hdn
                           rw [HBS.out, HX.out] at e
                           simp at e)]
                       go_wp2
                       go_ret
                       exact ⟨by rw [HO.out]; rfl, HBF⟩
                   · have HX : Hid (nxB n c d = false) := by show _ = _; unfold nxB; rw [Bool.eq_false_iff]; intro hh; simp at hh; omega
                     have b1 : ((d : Int) == (c : Int) - 1) = false := beq_eq_false_iff_ne.2 (by omega)
                     have b2 : ((d : Int) == 0) = false := beq_eq_false_iff_ne.2 (by omega)
                     clear hN4
                     rcases hkin with rfl | rfl | rfl
                     · have HN : Hid (bdB n p c d = false) := by show _ = _; rw [HBS.out, HX.out]; rfl
                       go_wp2
                       go_roundw
                       case rel => exact ⟨d + 1, by omega, by go_num, fun k hk => by
                         rcases Nat.lt_or_ge k d with h | h
                         · exact HE.out k h
                         · obtain rfl : k = d := by omega
                           exact HN.out, HB5⟩
                       case measure => simp [intOf]; omega
                     · have HO : Hid (rgF n p = 5) := by
                         show _ = _
                         unfold rgF
                         rw [if_neg h1, if_neg h2, if_neg (fun hh => hh HA.out), if_neg (fun hh => hh HC.out), if_pos (fun hh => by
                           have e := hh c hcn d hdn
                           rw [HBS.out, HX.out] at e
                           simp at e)]
                       go_wp2
                       go_ret
                       exact ⟨by rw [HO.out]; rfl, HBF⟩
                     · have HO : Hid (rgF n p = 5) := by
                         show _ = _
                         unfold rgF
                         rw [if_neg h1, if_neg h2, if_neg (fun hh => hh HA.out), if_neg (fun hh => hh HC.out), if_pos (fun hh => by
                           have e := hh c hcn d hdn
                           rw [HBS.out, HX.out] at e
                           simp at e)]
                       go_wp2
                       go_ret
                       exact ⟨by rw [HO.out]; rfl, HBF⟩
               · obtain rfl : c = d := by omega
                 have HBF := HBo.trans (HB.mono HBo.size)
                 clear HB HBo HB4 HSo B3
                 go_wp2
                 go_roundw
                 case rel => exact ⟨c + 1, by omega, by go_num, fun j hj => by
                   rcases Nat.lt_or_ge j c with h | h
                   · exact HD.out j h
                   · obtain rfl : j = c := by omega
                     exact HE.out, HBF⟩
                 case measure => simp [intOf]; omega
           · obtain rfl : n = c := by omega
             have HO : Hid (rgF n p = 0) := by
               show _ = _
               unfold rgF
               rw [if_neg h1, if_neg h2, if_neg (fun hh => hh HA.out), if_neg (fun hh => hh HC.out), if_neg (fun hh => hh HD.out)]
             have HBF := HB3.trans (HB.mono HB3.size)
             clear HS2 B2 HB HB3 HA HC HD
             go_wp2
             go_ret
             exact ⟨by rw [HO.out]; rfl, HBF⟩
open Go.RowKit Go.Shelf
attribute [local go_sem] Oper.semAt_some
open Go.RowKit Go.Shelf
attribute [local go_sem] Oper.semAt_some
def upL (n : Nat) (p : Ps) (x y z : Int) (pre : List (Fin n)) : Bool := pre.foldl (fun b i => b ^^ upE n p x y z i.1) false
theorem upL_snoc (n : Nat) (p : Ps) (x y z : Int) (pre : List (Fin n)) (i : Fin n) : upL n p x y z (pre ++ [i]) = (upL n p x y z pre ^^ upE n p x y z i.1) := by simp [upL]
theorem upL_upTo (n : Nat) (p : Ps) (x y z : Int) : ∀ c, c ≤ n → upL n p x y z (upTo n c) = upR n p x y z c
 | 0, _ => by simp [upL, upTo, upR]
 | c + 1, h => by rw [upTo_succ (show c < n by omega), upL_snoc, upL_upTo n p x y z c (by omega), upR]
theorem onR_none {n : Nat} {p : Ps} {x y z : Int} : ∀ {d : Nat}, (∀ i, i < d → onE n p x y z i = false) → onR n p x y z d = false
 | 0, _ => rfl
 | d + 1, h => by rw [onR, onR_none (fun i hi => h i (by omega)), h d (by omega)]; rfl
theorem onR_some {n : Nat} {p : Ps} {x y z : Int} {d i : Nat} (hi : i < d) (h : onE n p x y z i = true) : onR n p x y z d = true := onR_mono (show i + 1 ≤ d by omega) (by rw [onR, h, Bool.or_true])
def sdS (b : Bool) : Int := if b = true then 1 else -1
theorem sdS_not (b : Bool) : (if sdS b = 1 then (-1 : Int) else 1) = sdS (!b) := by cases b <;> rfl
def ptC (x y z : Int) : List Value := [.int .u64 (ww3 x), .int .u64 (ww2 x), .int .u64 (ww1 x), .int .u64 (ww0 x), .int .u64 (ww3 y), .int .u64 (ww2 y), .int .u64 (ww1 y), .int .u64 (ww0 y), .int .u64 (ww3 z), .int .u64 (ww2 z), .int .u64 (ww1 z), .int .u64 (ww0 z)]
theorem otherS_det (s : Int) (w : World) : Calls Tryz.prog 69 #[.int .i64 s] w (VP (.int .i64 (if s = 1 then -1 else 1)) w) := by
 by_cases h : s = 1
 · subst h
   go_enter Tryz.func69, Tryz.ntmps69
   go_wp2
   go_ret
   exact ⟨rfl, Below.refl _ _⟩
 · have h' : (s == 1) = false := beq_eq_false_iff_ne.2 h
   rw [if_neg h]
   go_enter Tryz.func69, Tryz.ntmps69
   go_wp2
   go_ret
   exact ⟨rfl, Below.refl _ _⟩
theorem boxV_other {W : World} {B B' : Nat} {t : TypeId} {vs : List Value} (h : BoxV W B t vs) (hne : B ≠ B') (u : Value) : BoxV (W.setCell ⟨B', 0, none⟩ u) B t vs := (Below.heap_setCell _ _ _ _ hne).trans h
set_option maxRecDepth 100000 in
set_option maxHeartbeats 8000000 in
theorem side_any (ao : Option Addr) (n cap : Nat) (p : Ps) (x y z : Int) (hn3 : 3 ≤ n) (hn : n ≤ 12) (hok : ∀ i, i < n → spotOk (p i).1 (p i).2 = true) (hone : OneN n p) (hp : ptB x y z = true) (w : World) (hS : SpIn w ao n p) : Calls Tryz.prog 34 #[.agg #[.slice ao n cap], PV x y z] w (VP (.int .i64 (sdR n p x y z)) w) := by
 obtain ⟨hz0, sx, sy, sz⟩ := ptB_small hp
 refine (callsIn_wide (n := 12)).1 ?_
 refine callsIn_of_wp_marks Tryz.func34 rfl trivial ?_ rfl
 simp only [Tryz.ntmps34, List.size_toArray, List.length_cons, List.length_nil, Nat.reduceAdd, Nat.reduceSub, Array.replicate_succ, Array.replicate_zero, List.push_toArray, List.append_toArray, List.nil_append, List.cons_append]
 gi_wp2_with (refine ⟨trivial, ?_⟩; gi_at_call 65; refine (callsIn_wide.2 (sides_any _ _ _ _)).mono ?_; rintro e w' ⟨rfl, rfl⟩)
 have bP := ((BoxV.new (w.alloc (.cells #[.slice ao n cap] 34)) 38 (ptC x y z)).alloc (.cells #[.int .i64 0] 2)).alloc (.cells #[.int .i64 (-1)] 2) |>.alloc (.cells #[.slice ao n cap] 34)
 have bR := ((Boxed.new ((w.alloc (.cells #[.slice ao n cap] 34)).alloc (.cells #[.int .u64 (ww3 x), .int .u64 (ww2 x), .int .u64 (ww1 x), .int .u64 (ww0 x), .int .u64 (ww3 y), .int .u64 (ww2 y), .int .u64 (ww1 y), .int .u64 (ww0 y), .int .u64 (ww3 z), .int .u64 (ww2 z), .int .u64 (ww1 z), .int .u64 (ww0 z)] 38)) 2 (.int .i64 0)).alloc (.cells #[.int .i64 (-1)] 2)).alloc (.cells #[.slice ao n cap] 34)
 have bS := (Boxed.new (((w.alloc (.cells #[.slice ao n cap] 34)).alloc (.cells #[.int .u64 (ww3 x), .int .u64 (ww2 x), .int .u64 (ww1 x), .int .u64 (ww0 x), .int .u64 (ww3 y), .int .u64 (ww2 y), .int .u64 (ww1 y), .int .u64 (ww0 y), .int .u64 (ww3 z), .int .u64 (ww2 z), .int .u64 (ww1 z), .int .u64 (ww0 z)] 38)).alloc (.cells #[.int .i64 0] 2)) 2 (.int .i64 (-1))).alloc (.cells #[.slice ao n cap] 34)
 have bN := Boxed.new ((((w.alloc (.cells #[.slice ao n cap] 34)).alloc (.cells #[.int .u64 (ww3 x), .int .u64 (ww2 x), .int .u64 (ww1 x), .int .u64 (ww0 x), .int .u64 (ww3 y), .int .u64 (ww2 y), .int .u64 (ww1 y), .int .u64 (ww0 y), .int .u64 (ww3 z), .int .u64 (ww2 z), .int .u64 (ww1 z), .int .u64 (ww0 z)] 38)).alloc (.cells #[.int .i64 0] 2)).alloc (.cells #[.int .i64 (-1)] 2)) 34 (.slice ao n cap)
 simp only [World.size_alloc] at bP bR bS bN
 have hB0 : Below w.heap.size w (((((w.alloc (.cells #[.slice ao n cap] 34)).alloc (.cells #[.int .u64 (ww3 x), .int .u64 (ww2 x), .int .u64 (ww1 x), .int .u64 (ww0 x), .int .u64 (ww3 y), .int .u64 (ww2 y), .int .u64 (ww1 y), .int .u64 (ww0 y), .int .u64 (ww3 z), .int .u64 (ww2 z), .int .u64 (ww1 z), .int .u64 (ww0 z)] 38)).alloc (.cells #[.int .i64 0] 2)).alloc (.cells #[.int .i64 (-1)] 2)).alloc (.cells #[.slice ao n cap] 34)) := (((((Below.refl _ w).alloc (Nat.le_refl _) _).alloc (by simp) _).alloc (by simp; omega) _).alloc (by simp; omega) _).alloc (by simp; omega) _
 have hsz : (((((w.alloc (.cells #[.slice ao n cap] 34)).alloc (.cells #[.int .u64 (ww3 x), .int .u64 (ww2 x), .int .u64 (ww1 x), .int .u64 (ww0 x), .int .u64 (ww3 y), .int .u64 (ww2 y), .int .u64 (ww1 y), .int .u64 (ww0 y), .int .u64 (ww3 z), .int .u64 (ww2 z), .int .u64 (ww1 z), .int .u64 (ww0 z)] 38)).alloc (.cells #[.int .i64 0] 2)).alloc (.cells #[.int .i64 (-1)] 2)).alloc (.cells #[.slice ao n cap] 34)).heap.size = w.heap.size + 5 := by simp
 obtain ⟨W0, hW0⟩ : ∃ W0, (((((w.alloc (.cells #[.slice ao n cap] 34)).alloc (.cells #[.int .u64 (ww3 x), .int .u64 (ww2 x), .int .u64 (ww1 x), .int .u64 (ww0 x), .int .u64 (ww3 y), .int .u64 (ww2 y), .int .u64 (ww1 y), .int .u64 (ww0 y), .int .u64 (ww3 z), .int .u64 (ww2 z), .int .u64 (ww1 z), .int .u64 (ww0 z)] 38)).alloc (.cells #[.int .i64 0] 2)).alloc (.cells #[.int .i64 (-1)] 2)).alloc (.cells #[.slice ao n cap] 34)) = W0 := ⟨_, rfl⟩
 change BoxV (((((w.alloc (.cells #[.slice ao n cap] 34)).alloc (.cells #[.int .u64 (ww3 x), .int .u64 (ww2 x), .int .u64 (ww1 x), .int .u64 (ww0 x), .int .u64 (ww3 y), .int .u64 (ww2 y), .int .u64 (ww1 y), .int .u64 (ww0 y), .int .u64 (ww3 z), .int .u64 (ww2 z), .int .u64 (ww1 z), .int .u64 (ww0 z)] 38)).alloc (.cells #[.int .i64 0] 2)).alloc (.cells #[.int .i64 (-1)] 2)).alloc (.cells #[.slice ao n cap] 34)) _ _ _ at bP
 rw [hW0] at bP bR bS bN hB0 hsz ⊢
 clear hW0
 have hS0 : SpB w.heap.size W0 ao n p := (hS.low).keep (fun k hk => hB0.block k hk)
 refine wpIn_rangeFunc_ownH rfl (by omega) (gf := 96) (lb := #[.pointer (some ⟨w.heap.size + 1 + 1 + 1 + 1, 0, none⟩)]) rfl trivial (enters_of Tryz.func96 (by kernel_rfl) rfl)
   (sides_stops (12 - 1) w.heap.size (w.heap.size + 1 + 1 + 1 + 1) ao n cap p hn3 hn hok hone W0 (by omega) (by omega) bN.cell hS0) (fun h k => h.trans k) (KpB.put (by omega) (by omega)) (Below.refl _ _) (fun _ => rfl)
   (fun pre W => (Boxed W (w.heap.size + 1 + 1 + 1) 2 (.int .i64 (sdS (upL n p x y z pre))) ∧ BoxV W (w.heap.size + 1) 38 (ptC x y z) ∧ Boxed W (w.heap.size + 1 + 1) 2 (.int .i64 0)) ∧ (∀ i ∈ pre, onE n p x y z i.1 = false) ∧ Below w.heap.size w W ∧ W0.heap.size ≤ W.heap.size)
   (fun c pre W => ((c = .ret ∧ ∃ i ∈ pre, onE n p x y z i.1 = true) ∧ Boxed W (w.heap.size + 1 + 1) 2 (.int .i64 0)) ∧ Below w.heap.size w W)
   (OwnFrom.and (OwnFrom.and (Own.from (boxed_own _ _ (fun pre => Value.int .i64 (sdS (upL n p x y z pre)))) _) (OwnFrom.and (Own.from (boxV_own _ _ (fun _ => ptC x y z)) _) (Own.from (boxed_own _ _ (fun _ => Value.int .i64 0)) _))) (OwnFrom.and (ownFrom_pure _ _) (OwnFrom.and (ownFrom_below (Nat.le_refl _) (by omega)) (fun _ X Y row hs hg _ => Nat.le_trans hs hg.size))))
   (fun c => OwnFrom.and (OwnFrom.and (ownFrom_pure _ _) (Own.from (boxed_own _ _ _) _)) (ownFrom_below (Nat.le_refl _) (by omega)))
   ⟨⟨bS, bP, bR⟩, by simp, hB0, Nat.le_refl _⟩
   (fun i a' W => ∃ Bs, BoxV W Bs 83 [.int .i64 (sdA n p i.1).1, .int .i64 (sdA n p i.1).2.1, .int .i64 (sdA n p i.1).2.2.1, .int .i64 (sdA n p i.1).2.2.2] ∧ a' = { tmps := #[.agg #[.slice ao n cap], PV x y z, .pointer (some ⟨w.heap.size, 0, none⟩), .pointer (some ⟨w.heap.size + 1, 0, none⟩), .pointer (some ⟨w.heap.size + 1 + 1, 0, none⟩), .pointer (some ⟨w.heap.size + 1 + 1 + 1, 0, none⟩), undef, .pointer (some ⟨Bs, 0, none⟩), undef, .agg #[.slice ao n cap], .func (.func 96) #[] #[.pointer (some ⟨w.heap.size + 1 + 1 + 1 + 1, 0, none⟩)], .int .i64 (i.1 : Int), Sg (sdA n p i.1).1 (sdA n p i.1).2.1 (sdA n p i.1).2.2.1 (sdA n p i.1).2.2.2, undef, undef, undef, undef, undef, undef, undef, undef, undef, undef, undef, undef, undef, undef, undef, undef, undef, undef], defers := [] })
   (fun i a' _ X Y row hs hg hr => by obtain ⟨Bs, e4, e5⟩ := hs; exact ⟨Bs, boxV_own Bs 83 (fun (_ : Unit) => [.int .i64 (sdA n p i.1).1, .int .i64 (sdA n p i.1).2.1, .int .i64 (sdA n p i.1).2.2.1, .int .i64 (sdA n p i.1).2.2.2]) () X Y row e4 hg (fun r e => (hr r e).2), e5⟩)
   ?assign ?body ?done ?stop
 case assign =>
   rintro l pre i W K ⟨⟨hv, hP, hr⟩, ho, hB1, hs1⟩ hK
   unfold enS
   gi_wp2
   have hB2 : Below W.heap.size W (W.alloc (.cells #[.int .i64 (sdA n p i.1).1, .int .i64 (sdA n p i.1).2.1, .int .i64 (sdA n p i.1).2.2.1, .int .i64 (sdA n p i.1).2.2.2] 83)) := (Below.refl _ W).alloc (Nat.le_refl _) _
   have hsW := hB1.size
   have b2 := BoxV.new W 83 [.int .i64 (sdA n p i.1).1, .int .i64 (sdA n p i.1).2.1, .int .i64 (sdA n p i.1).2.2.1, .int .i64 (sdA n p i.1).2.2.2]
   exact hK _ _ (below_keeps hB2) (KpB.of hB2 (by omega) (by omega)) ⟨⟨hv.alloc _, hP.alloc _, hr.alloc _⟩, ho, hB1.trans (hB2.mono hB1.size), Nat.le_trans hs1 hB2.size⟩ ⟨_, b2, rfl⟩
 case body =>
   rintro l pre i a' W hl ⟨r, hr0⟩ ⟨⟨hv, hP, hr⟩, hoff, hB1, hs1⟩ ⟨Bs, bB, rfl⟩ hlt
   have cv := hv.cell
   have s0 := bB.blk.c 0 rfl; have s1 := bB.blk.c 1 rfl; have s2 := bB.blk.c 2 rfl; have s3 := bB.blk.c 3 rfl
   have p0 := hP.blk.c 0 rfl; have p1 := hP.blk.c 1 rfl; have p2 := hP.blk.c 2 rfl; have p3 := hP.blk.c 3 rfl; have p4 := hP.blk.c 4 rfl; have p5 := hP.blk.c 5 rfl; have p6 := hP.blk.c 6 rfl; have p7 := hP.blk.c 7 rfl; have p8 := hP.blk.c 8 rfl; have p9 := hP.blk.c 9 rfl; have p10 := hP.blk.c 10 rfl; have p11 := hP.blk.c 11 rfl
   obtain ⟨i1, i2, i3, i4⟩ := in1_seg (side_ok hok hone hn3 i.2)
   have hless := sd_less hone hn3 i.2
   have OV := overAt_det (sdA n p i.1).1 (sdA n p i.1).2.1 (sdA n p i.1).2.2.1 (sdA n p i.1).2.2.2 x y z i1 i2 i3 i4 sx sy sz
   have HON : Hid (decide (overJ (sdA n p i.1).1 (sdA n p i.1).2.1 (sdA n p i.1).2.2.1 (sdA n p i.1).2.2.2 x y z = 0) = onE n p x y z i.1) := over_btw hless
   have HUP : Hid ((decide (overJ (sdA n p i.1).1 (sdA n p i.1).2.1 (sdA n p i.1).2.2.1 (sdA n p i.1).2.2.2 x y z = 1) && decide (cmpI (x * 1) ((sdA n p i.1).2.2.1 * z) < 0)) = upE n p x y z i.1) := over_up hless
   generalize overJ (sdA n p i.1).1 (sdA n p i.1).2.1 (sdA n p i.1).2.2.1 (sdA n p i.1).2.2.2 x y z = o at *
   have hsW := hB1.size
   by_cases ho0 : o = 0
   · subst ho0
     gi_wp2_with (refine ⟨trivial, ?_⟩; gi_at_call 66; refine (CallsIn.inRound l (callsIn_wide.2 (OV _))).mono ?_; rintro e v1 ⟨rfl, hBo⟩; have bR1 := boxed_step hr hBo; have cR := bR1.cell; have fR := bR1.frozen)
     exact ⟨(below_keeps hBo).trans ((KeepsOthers.setCell _ _ _).from _), ⟨⟨rfl, i, List.mem_append.2 (.inr (by simp)), by rw [← HON.out]; rfl⟩, bR1.set _⟩, (hB1.trans (hBo.mono hB1.size)).setCell (p := ⟨w.heap.size + 1 + 1, 0, none⟩) (by show w.heap.size ≤ w.heap.size + 1 + 1; omega) _⟩
   · have e0 : (o == 0) = false := beq_eq_false_iff_ne.2 ho0
     have hon : onE n p x y z i.1 = false := by rw [← HON.out]; exact decide_eq_false ho0
     gi_wp2_with (refine ⟨trivial, ?_⟩; gi_at_call 66; refine (CallsIn.inRound l (callsIn_wide.2 (OV _))).mono ?_; rintro e v1 ⟨rfl, hBo⟩)
     have hP1 := hP.step hBo
     have bB1 := bB.step hBo
     gi_cut [27] from 13 (fun zv wx => zv = .bool (upE n p x y z i.1) ∧ Below v1.heap.size v1 wx)
     case first =>
       clear cv s0 s1 s2 s3 p0 p1 p2 p3 p4 p5 p6 p7 p8 p9 p10 p11 OV HON hoff hv hr hB1 hlt hr0
       by_cases ho1 : o = 1
       · have eo : (o == 1) = true := beq_iff_eq.2 ho1
         have hup : decide (cmpI (x * 1) ((sdA n p i.1).2.2.1 * z) < 0) = upE n p x y z i.1 := by rw [← HUP.out, decide_eq_true ho1, Bool.true_and]
         refine regSideOn (a := (sdA n p i.1).1) (b := (sdA n p i.1).2.1) (c := (sdA n p i.1).2.2.1) (d := (sdA n p i.1).2.2.2) (x := x) (y := y) (z := z) (o := o) (Bs := Bs) (Bp := w.heap.size + 1) eo i3 i4 sx sz rfl rfl rfl (hP1.blk.c 0 rfl) hP1.lt (hP1.blk.c 1 rfl) hP1.lt (hP1.blk.c 2 rfl) hP1.lt (hP1.blk.c 3 rfl) hP1.lt (hP1.blk.c 4 rfl) hP1.lt (hP1.blk.c 5 rfl) hP1.lt (hP1.blk.c 6 rfl) hP1.lt (hP1.blk.c 7 rfl) hP1.lt (hP1.blk.c 8 rfl) hP1.lt (hP1.blk.c 9 rfl) hP1.lt (hP1.blk.c 10 rfl) hP1.lt (hP1.blk.c 11 rfl) hP1.lt (bB1.blk.c 0 rfl) bB1.lt (bB1.blk.c 1 rfl) bB1.lt (bB1.blk.c 2 rfl) bB1.lt (bB1.blk.c 3 rfl) bB1.lt rfl ?_
         rintro ⟨tm, df⟩ Wz hz hdf hoff h27 hBz
         simp only at hz hdf hoff h27
         change tm.getD 27 undef = .bool (decide (cmpI (x * 1) ((sdA n p i.1).2.2.1 * z) < 0)) at h27
         rw [hup] at h27
         subst hdf
         have htm := tmps_fold [18, 19, 20, 21, 22, 23, 24, 25, 26, 27] tm _ hz hoff
         simp only [List.foldl, List.setIfInBounds_toArray, List.set_cons_zero, List.set_cons_succ, h27] at htm
         clear hz hoff
         generalize tm.getD 18 undef = u0, tm.getD 19 undef = u1, tm.getD 20 undef = u2, tm.getD 21 undef = u3, tm.getD 22 undef = u4, tm.getD 23 undef = u5, tm.getD 24 undef = u6, tm.getD 25 undef = u7, tm.getD 26 undef = u8 at htm
         clear h27
         subst htm
         gi_wp2
         gi_meet
         exact ⟨rfl, hBz⟩
       · have eo : (o == 1) = false := beq_eq_false_iff_ne.2 ho1
         have hup : upE n p x y z i.1 = false := by rw [← HUP.out, decide_eq_false ho1, Bool.false_and]
         refine regSideOff (o := o) eo rfl rfl ?_
         rintro ⟨tm, df⟩ Wz hz hdf hoff h27 hBz
         simp only at hz hdf hoff h27
         change tm.getD 27 undef = .bool false at h27
         rw [← hup] at h27
         subst hdf
         have htm := tmps_fold [18, 19, 20, 21, 22, 23, 24, 25, 26, 27] tm _ hz hoff
         simp only [List.foldl, List.setIfInBounds_toArray, List.set_cons_zero, List.set_cons_succ, h27] at htm
         clear hz hoff
         generalize tm.getD 18 undef = u0, tm.getD 19 undef = u1, tm.getD 20 undef = u2, tm.getD 21 undef = u3, tm.getD 22 undef = u4, tm.getD 23 undef = u5, tm.getD 24 undef = u6, tm.getD 25 undef = u7, tm.getD 26 undef = u8 at htm
         clear h27
         subst htm
         gi_wp2
         gi_meet
         exact ⟨rfl, hBz⟩
     case rest =>
       obtain ⟨hq, hBc⟩ := hcut
       subst hq
       have hBW : Below W.heap.size W wc := hBo.trans (hBc.mono hBo.size)
       have hv2 := boxed_step hv hBW
       have cv2 := hv2.cell
       have fv2 := hv2.frozen
       have hP2 := hP.step hBW
       have hr2 := boxed_step hr hBW
       have honl : ∀ j ∈ pre ++ [i], onE n p x y z j.1 = false := fun j hj => by
         rcases List.mem_append.1 hj with h | h
         · exact hoff j h
         · simp at h
           subst h
           exact hon
       have hsB := hBW.size
       clear cv s0 s1 s2 s3 p0 p1 p2 p3 p4 p5 p6 p7 p8 p9 p10 p11 OV HON HUP i1 i2 i3 i4 hless hBo hBc hP1 bB1
       cases hu : upE n p x y z i.1
       · have hF : Hid (KeepsFrom W0.heap.size W wc ∧ KpB w.heap.size (w.heap.size + 1 + 1 + 1 + 1) W wc ∧ (Boxed wc (w.heap.size + 1 + 1 + 1) 2 (.int .i64 (sdS (upL n p x y z (pre ++ [i])))) ∧ BoxV wc (w.heap.size + 1) 38 (ptC x y z) ∧ Boxed wc (w.heap.size + 1 + 1) 2 (.int .i64 0)) ∧ (∀ j ∈ pre ++ [i], onE n p x y z j.1 = false) ∧ Below w.heap.size w wc ∧ W0.heap.size ≤ wc.heap.size) := ⟨below_keeps hBW, KpB.of hBW (by omega) (by omega), ⟨by rw [upL_snoc, hu, Bool.xor_false]; exact hv2, hP2, hr2⟩, honl, hB1.trans (hBW.mono hB1.size), Nat.le_trans hs1 hBW.size⟩
         gi_wp2
         exact hF.out
       · have OS := otherS_det (sdS (upL n p x y z pre))
         rw [sdS_not] at OS
         have hx : Hid (upL n p x y z (pre ++ [i]) = !(upL n p x y z pre)) := by show _ = _; rw [upL_snoc, hu, Bool.xor_true]
         gi_wp2_with (refine ⟨trivial, ?_⟩; gi_at_call 69; refine (CallsIn.inRound l (callsIn_wide.2 (OS _))).mono ?_; rintro e v2 ⟨rfl, hBs⟩; have hv3 := boxed_step hv2 hBs; have cv3 := hv3.cell; have fv3 := hv3.frozen)
         have hBX := hBW.trans (hBs.mono hBW.size)
         have hsX := hBX.size
         refine ⟨(below_keeps hBX).trans ((KeepsOthers.setCell _ _ _).from _), ⟨by simpa [World.setCell] using hsX, fun k hk => (Below.heap_setCell _ _ _ _ (by show k ≠ w.heap.size + 1 + 1 + 1; omega)).trans (hBX.block k (by omega)), (Below.heap_setCell _ _ _ _ (by show w.heap.size + 1 + 1 + 1 + 1 ≠ w.heap.size + 1 + 1 + 1; omega)).trans (hBX.block _ (by omega))⟩, ⟨by rw [hx.out]; exact hv3.set _, boxV_other (hP2.step hBs) (by omega) _, (boxed_step hr2 hBs).other (by omega) _⟩, honl, (hB1.trans (hBX.mono hB1.size)).setCell (p := ⟨w.heap.size + 1 + 1 + 1, 0, none⟩) (by show w.heap.size ≤ w.heap.size + 1 + 1 + 1; omega) _, by simp [World.setCell]; omega⟩
 case done =>
   rintro D zs W hD rfl ⟨⟨hv, hP, hr⟩, hoff, hB1, hs1⟩ hK
   have hno : onR n p x y z n = false := onR_none (fun i hi => hoff ⟨i, hi⟩ (List.mem_finRange _))
   have hval : Hid (sdS (upL n p x y z (List.finRange n)) = sdR n p x y z) := by
     show _ = _
     rw [← upTo_all, upL_upTo n p x y z n (Nat.le_refl _), up_same n p x y z hz0 hno]
     unfold sdR sdS
     rw [hno]
     simp
   generalize sdS (upL n p x y z (List.finRange n)) = sv at *
   have cR := hr.cell
   have fR := hr.frozen
   have cS := hv.cell
   gi_wp2
   have hK' := (KeepsOthers.setCell W ⟨w.heap.size + 1 + 1, 0, none⟩ (.int .i64 sv)).same D _ hK rfl
   refine ⟨by simp, .inl ⟨_, _, rfl, run_takeDeferred hK', ?_⟩⟩
   have hc5 := cell_kept (hr.set (.int .i64 sv)).cell (grownBy_putObj' _ D (.deferred none)) (fun r e => by cases e; exact ⟨_, hK', rfl⟩)
   refine ⟨.int .i64 sv, ?_, by rw [hval.out], (hB1.setCell (p := ⟨w.heap.size + 1 + 1, 0, none⟩) (by show w.heap.size ≤ w.heap.size + 1 + 1; omega) _).trans (belowK_b (w := w) (Nat.le_refl _) _ D _ _ (by omega) hK' rfl rfl)⟩
   simp [results, Tryz.results34, go_sem, hc5]
 case stop =>
   rintro D c pre W hD hpre ⟨⟨⟨rfl, i, hi, hk⟩, bR1⟩, hB1⟩ hK
   have hval : Hid (sdR n p x y z = 0) := by
     show _ = _
     unfold sdR
     rw [onR_some i.2 hk]
     rfl
   have cR := bR1.cell
   gi_wp2
   refine ⟨by simp, .inl ⟨_, _, rfl, run_takeDeferred hK, ?_⟩⟩
   have hc5 := cell_kept bR1.cell (grownBy_putObj' _ D (.deferred none)) (fun r e => by cases e; exact ⟨_, hK, rfl⟩)
   refine ⟨.int .i64 0, ?_, by rw [hval.out], hB1.trans (belowK_b (w := w) (Nat.le_refl _) _ D _ _ (by omega) hK rfl rfl)⟩
   simp [results, Tryz.results34, go_sem, hc5]
set_option maxRecDepth 100000 in
set_option maxHeartbeats 8000000 in
theorem l5Cuts_any (ps1 ps2 ps3 : Bool) (po1 po2 po3 : Option Addr) (pn1 pc1 pn2 pc2 pn3 pc3 : Nat) (qs1 qs2 qs3 : Bool) (qo1 qo2 qo3 : Option Addr) (qn1 qc1 qn2 qc2 qn3 qc3 : Nat) (rs1 rs2 rs3 : Bool) (ro1 ro2 ro3 : Option Addr) (rn1 rc1 rn2 rc2 rn3 rc3 : Nat) (pd1 pd2 pd3 qd1 qd2 qd3 rd1 rd2 rd3 : List Int) (x y z u v t a b c : Int) (k : Nat) (hk : k ≤ 1000) (w : World) (Np1 : IsNum w ps1 po1 pn1 pc1 pd1 x k) (Np2 : IsNum w ps2 po2 pn2 pc2 pd2 y k) (Np3 : IsNum w ps3 po3 pn3 pc3 pd3 z k) (Nq1 : IsNum w qs1 qo1 qn1 qc1 qd1 u k) (Nq2 : IsNum w qs2 qo2 qn2 qc2 qd2 v k) (Nq3 : IsNum w qs3 qo3 qn3 qc3 qd3 t k) (Nr1 : IsNum w rs1 ro1 rn1 rc1 rd1 a k) (Nr2 : IsNum w rs2 ro2 rn2 rc2 rd2 b k) (Nr3 : IsNum w rs3 ro3 rn3 rc3 rd3 c k) : Calls Tryz.prog 57 #[.agg #[.bool ps1, .slice po1 pn1 pc1, .bool ps2, .slice po2 pn2 pc2, .bool ps3, .slice po3 pn3 pc3], .agg #[.bool qs1, .slice qo1 qn1 qc1, .bool qs2, .slice qo2 qn2 qc2, .bool qs3, .slice qo3 qn3 qc3], .agg #[.bool rs1, .slice ro1 rn1 rc1, .bool rs2, .slice ro2 rn2 rc2, .bool rs3, .slice ro3 rn3 rc3]] w (VP (.bool (ctB x y z u v t a b c)) w) := by
 have T0 : ArgsB w (((w.alloc (.cells #[.bool ps1, .slice po1 pn1 pc1, .bool ps2, .slice po2 pn2 pc2, .bool ps3, .slice po3 pn3 pc3] 62)).alloc (.cells #[.bool qs1, .slice qo1 qn1 qc1, .bool qs2, .slice qo2 qn2 qc2, .bool qs3, .slice qo3 qn3 qc3] 62)).alloc (.cells #[.bool rs1, .slice ro1 rn1 rc1, .bool rs2, .slice ro2 rn2 rc2, .bool rs3, .slice ro3 rn3 rc3] 62)) [[.bool ps1, .slice po1 pn1 pc1, .bool ps2, .slice po2 pn2 pc2, .bool ps3, .slice po3 pn3 pc3], [.bool qs1, .slice qo1 qn1 qc1, .bool qs2, .slice qo2 qn2 qc2, .bool qs3, .slice qo3 qn3 qc3], [.bool rs1, .slice ro1 rn1 rc1, .bool rs2, .slice ro2 rn2 rc2, .bool rs3, .slice ro3 rn3 rc3]] := ar3 _ _ _ _ _ _ w
 replace Np1 := Np1.below T0.below
 replace Np2 := Np2.below T0.below
 replace Np3 := Np3.below T0.below
 replace Nq1 := Nq1.below T0.below
 replace Nq2 := Nq2.below T0.below
 replace Nq3 := Nq3.below T0.below
 replace Nr1 := Nr1.below T0.below
 replace Nr2 := Nr2.below T0.below
 replace Nr3 := Nr3.below T0.below
 go_enter Tryz.func57, Tryz.ntmps57
 go_wp2_with fail
 generalize (((w.alloc (.cells #[.bool ps1, .slice po1 pn1 pc1, .bool ps2, .slice po2 pn2 pc2, .bool ps3, .slice po3 pn3 pc3] 62)).alloc (.cells #[.bool qs1, .slice qo1 qn1 qc1, .bool qs2, .slice qo2 qn2 qc2, .bool qs3, .slice qo3 qn3 qc3] 62)).alloc (.cells #[.bool rs1, .slice ro1 rn1 rc1, .bool rs2, .slice ro2 rn2 rc2, .bool rs3, .slice ro3 rn3 rc3] 62)) = W at *
 refine (l3CmpY_any qs1 qs2 qs3 qo1 qo2 qo3 qn1 qc1 qn2 qc2 qn3 qc3 ps1 ps2 ps3 po1 po2 po3 pn1 pc1 pn2 pc2 pn3 pc3 qd2 qd3 pd2 pd3 v t y z k hk _ Nq2 Nq3 Np2 Np3).mono ?_
 rintro e w1 ⟨rfl, hB⟩
 replace T0 := T0.step hB
 replace Np1 := Np1.below hB
 replace Np2 := Np2.below hB
 replace Np3 := Np3.below hB
 replace Nq1 := Nq1.below hB
 replace Nq2 := Nq2.below hB
 replace Nq3 := Nq3.below hB
 replace Nr1 := Nr1.below hB
 replace Nr2 := Nr2.below hB
 replace Nr3 := Nr3.below hB
 clear hB
 by_cases h1 : cmpI (v * z) (y * t) < 0
 · have d1 : decide (cmpI (v * z) (y * t) < 0) = true := decide_eq_true h1
   have HC : (if cmpI (v * z) (y * t) < 0 then decide (cmpI (v * c) (b * t) ≤ 0) && decide (cmpI (b * z) (y * c) < 0) && decide (0 < turnI u v t x y z a b c) else decide (cmpI (y * c) (b * z) ≤ 0) && decide (cmpI (b * t) (v * c) < 0) && decide (0 < turnI x y z u v t a b c)) = (decide (cmpI (v * c) (b * t) ≤ 0) && decide (cmpI (b * z) (y * c) < 0) && decide (0 < turnI u v t x y z a b c)) := if_pos h1
   have X0 : Blk _ w.heap.size _ := T0.b 0 rfl
   have Y0 : Blk _ (w.heap.size + 1) _ := T0.b 1 rfl
   obtain ⟨p0, pf0, p1, pf1, p2, pf2, p3, pf3, p4, pf4, p5, pf5⟩ := X0.cf6; obtain ⟨q0, qf0, q1, qf1, q2, qf2, q3, qf3, q4, qf4, q5, qf5⟩ := Y0.cf6
   have xl := X0.lt; have yl := Y0.lt
   go_upto_region 3 with fail
   clear p0 pf0 q0 qf0 p1 pf1 q1 qf1 p2 pf2 q2 qf2 p3 pf3 q3 qf3 p4 pf4 q4 qf4 p5 pf5 q5 qf5 xl yl X0 Y0
   replace Np1 := swap_num Np1 T0
   replace Np2 := swap_num Np2 T0
   replace Np3 := swap_num Np3 T0
   replace Nq1 := swap_num Nq1 T0
   replace Nq2 := swap_num Nq2 T0
   replace Nq3 := swap_num Nq3 T0
   replace Nr1 := swap_num Nr1 T0
   replace Nr2 := swap_num Nr2 T0
   replace Nr3 := swap_num Nr3 T0
   replace T0 := swap_args T0
   generalize ((((((((((((w1.setCell ⟨w.heap.size, 0, none⟩ (.bool qs1)).setCell ⟨w.heap.size, 1, none⟩ (.slice qo1 qn1 qc1)).setCell ⟨w.heap.size, 2, none⟩ (.bool qs2)).setCell ⟨w.heap.size, 3, none⟩ (.slice qo2 qn2 qc2)).setCell ⟨w.heap.size, 4, none⟩ (.bool qs3)).setCell ⟨w.heap.size, 5, none⟩ (.slice qo3 qn3 qc3)).setCell ⟨w.heap.size + 1, 0, none⟩ (.bool ps1)).setCell ⟨w.heap.size + 1, 1, none⟩ (.slice po1 pn1 pc1)).setCell ⟨w.heap.size + 1, 2, none⟩ (.bool ps2)).setCell ⟨w.heap.size + 1, 3, none⟩ (.slice po2 pn2 pc2)).setCell ⟨w.heap.size + 1, 4, none⟩ (.bool ps3)).setCell ⟨w.heap.size + 1, 5, none⟩ (.slice po3 pn3 pc3)) = W1 at *
   have X0 : Blk _ w.heap.size _ := T0.b 0 rfl; have Y0 : Blk _ (w.heap.size + 1) _ := T0.b 1 rfl; have Z0 : Blk _ (w.heap.size + 1 + 1) _ := T0.b 2 rfl; obtain ⟨p0, p1, p2, p3, p4, p5⟩ := X0.cs6; obtain ⟨q0, q1, q2, q3, q4, q5⟩ := Y0.cs6; obtain ⟨r0, r1, r2, r3, r4, r5⟩ := Z0.cs6; clear X0 Y0 Z0
   go_wp2_with fail
   refine (l3CmpY_any qs1 qs2 qs3 qo1 qo2 qo3 qn1 qc1 qn2 qc2 qn3 qc3 rs1 rs2 rs3 ro1 ro2 ro3 rn1 rc1 rn2 rc2 rn3 rc3 qd2 qd3 rd2 rd3 v t b c k hk _ Nq2 Nq3 Nr2 Nr3).mono ?_
   rintro e f1 ⟨rfl, hB⟩
   replace T0 := T0.step hB
   replace Np1 := Np1.below hB
   replace Np2 := Np2.below hB
   replace Np3 := Np3.below hB
   replace Nq1 := Nq1.below hB
   replace Nq2 := Nq2.below hB
   replace Nq3 := Nq3.below hB
   replace Nr1 := Nr1.below hB
   replace Nr2 := Nr2.below hB
   replace Nr3 := Nr3.below hB
   clear hB p0 q0 r0 p1 q1 r1 p2 q2 r2 p3 q3 r3 p4 q4 r4 p5 q5 r5
   by_cases h2 : cmpI (v * c) (b * t) ≤ 0
   · have d2 : decide (cmpI (v * c) (b * t) ≤ 0) = true := decide_eq_true h2
     have X0 : Blk _ w.heap.size _ := T0.b 0 rfl; have Y0 : Blk _ (w.heap.size + 1) _ := T0.b 1 rfl; have Z0 : Blk _ (w.heap.size + 1 + 1) _ := T0.b 2 rfl; obtain ⟨p0, p1, p2, p3, p4, p5⟩ := X0.cs6; obtain ⟨q0, q1, q2, q3, q4, q5⟩ := Y0.cs6; obtain ⟨r0, r1, r2, r3, r4, r5⟩ := Z0.cs6; clear X0 Y0 Z0
     go_wp2_with fail
     refine (l3CmpY_any rs1 rs2 rs3 ro1 ro2 ro3 rn1 rc1 rn2 rc2 rn3 rc3 ps1 ps2 ps3 po1 po2 po3 pn1 pc1 pn2 pc2 pn3 pc3 rd2 rd3 pd2 pd3 b c y z k hk _ Nr2 Nr3 Np2 Np3).mono ?_
     rintro e f2 ⟨rfl, hB⟩
     replace T0 := T0.step hB
     replace Np1 := Np1.below hB
     replace Np2 := Np2.below hB
     replace Np3 := Np3.below hB
     replace Nq1 := Nq1.below hB
     replace Nq2 := Nq2.below hB
     replace Nq3 := Nq3.below hB
     replace Nr1 := Nr1.below hB
     replace Nr2 := Nr2.below hB
     replace Nr3 := Nr3.below hB
     clear hB p0 q0 r0 p1 q1 r1 p2 q2 r2 p3 q3 r3 p4 q4 r4 p5 q5 r5
     by_cases h3 : cmpI (b * z) (y * c) < 0
     · have d3 : decide (cmpI (b * z) (y * c) < 0) = true := decide_eq_true h3
       have X0 : Blk _ w.heap.size _ := T0.b 0 rfl; have Y0 : Blk _ (w.heap.size + 1) _ := T0.b 1 rfl; have Z0 : Blk _ (w.heap.size + 1 + 1) _ := T0.b 2 rfl; obtain ⟨p0, p1, p2, p3, p4, p5⟩ := X0.cs6; obtain ⟨q0, q1, q2, q3, q4, q5⟩ := Y0.cs6; obtain ⟨r0, r1, r2, r3, r4, r5⟩ := Z0.cs6; clear X0 Y0 Z0
       go_wp2_with fail
       refine (l3Orient_any qs1 qs2 qs3 qo1 qo2 qo3 qn1 qc1 qn2 qc2 qn3 qc3 ps1 ps2 ps3 po1 po2 po3 pn1 pc1 pn2 pc2 pn3 pc3 rs1 rs2 rs3 ro1 ro2 ro3 rn1 rc1 rn2 rc2 rn3 rc3 qd1 qd2 qd3 pd1 pd2 pd3 rd1 rd2 rd3 u v t x y z a b c k hk _ Nq1 Nq2 Nq3 Np1 Np2 Np3 Nr1 Nr2 Nr3).mono ?_
       rintro e f3 ⟨rfl, hB⟩
       have HB := (T0.step hB).below
       have HR : Hid (ctB x y z u v t a b c = decide (0 < turnI u v t x y z a b c)) := by
         show _ = _
         unfold ctB
         rw [HC]
         simp only [h2, h3, decide_true, Bool.true_and]
       clear hB T0 p0 q0 r0 p1 q1 r1 p2 q2 r2 p3 q3 r3 p4 q4 r4 p5 q5 r5 Np1 Np2 Np3 Nq1 Nq2 Nq3 Nr1 Nr2 Nr3 HC h2 h3
       go_wp2
       go_ret
       exact ⟨by rw [HR.out]; rfl, HB⟩
     · have d3 : decide (cmpI (b * z) (y * c) < 0) = false := decide_eq_false h3
       have HR : Hid (ctB x y z u v t a b c = false) := by show _ = _; unfold ctB; rw [HC]; simp [h3]
       have HB := T0.below
       clear T0 Np1 Np2 Np3 Nq1 Nq2 Nq3 Nr1 Nr2 Nr3 HC h2 h3
       go_wp2
       go_ret
       exact ⟨by rw [HR.out]; rfl, HB⟩
   · have d2 : decide (cmpI (v * c) (b * t) ≤ 0) = false := decide_eq_false h2
     have HR : Hid (ctB x y z u v t a b c = false) := by show _ = _; unfold ctB; rw [HC]; simp [h2]
     have HB := T0.below
     clear T0 Np1 Np2 Np3 Nq1 Nq2 Nq3 Nr1 Nr2 Nr3 HC h2
     go_wp2
     go_ret
     exact ⟨by rw [HR.out]; rfl, HB⟩
 · have d1 : decide (cmpI (v * z) (y * t) < 0) = false := decide_eq_false h1
   have HC : (if cmpI (v * z) (y * t) < 0 then decide (cmpI (v * c) (b * t) ≤ 0) && decide (cmpI (b * z) (y * c) < 0) && decide (0 < turnI u v t x y z a b c) else decide (cmpI (y * c) (b * z) ≤ 0) && decide (cmpI (b * t) (v * c) < 0) && decide (0 < turnI x y z u v t a b c)) = (decide (cmpI (y * c) (b * z) ≤ 0) && decide (cmpI (b * t) (v * c) < 0) && decide (0 < turnI x y z u v t a b c)) := if_neg h1
   have X0 : Blk _ w.heap.size _ := T0.b 0 rfl; have Y0 : Blk _ (w.heap.size + 1) _ := T0.b 1 rfl; have Z0 : Blk _ (w.heap.size + 1 + 1) _ := T0.b 2 rfl; obtain ⟨p0, p1, p2, p3, p4, p5⟩ := X0.cs6; obtain ⟨q0, q1, q2, q3, q4, q5⟩ := Y0.cs6; obtain ⟨r0, r1, r2, r3, r4, r5⟩ := Z0.cs6; clear X0 Y0 Z0
   go_wp2_with fail
   refine (l3CmpY_any ps1 ps2 ps3 po1 po2 po3 pn1 pc1 pn2 pc2 pn3 pc3 rs1 rs2 rs3 ro1 ro2 ro3 rn1 rc1 rn2 rc2 rn3 rc3 pd2 pd3 rd2 rd3 y z b c k hk _ Np2 Np3 Nr2 Nr3).mono ?_
   rintro e f1 ⟨rfl, hB⟩
   replace T0 := T0.step hB
   replace Np1 := Np1.below hB
   replace Np2 := Np2.below hB
   replace Np3 := Np3.below hB
   replace Nq1 := Nq1.below hB
   replace Nq2 := Nq2.below hB
   replace Nq3 := Nq3.below hB
   replace Nr1 := Nr1.below hB
   replace Nr2 := Nr2.below hB
   replace Nr3 := Nr3.below hB
   clear hB p0 q0 r0 p1 q1 r1 p2 q2 r2 p3 q3 r3 p4 q4 r4 p5 q5 r5
   by_cases h2 : cmpI (y * c) (b * z) ≤ 0
   · have d2 : decide (cmpI (y * c) (b * z) ≤ 0) = true := decide_eq_true h2
     have X0 : Blk _ w.heap.size _ := T0.b 0 rfl; have Y0 : Blk _ (w.heap.size + 1) _ := T0.b 1 rfl; have Z0 : Blk _ (w.heap.size + 1 + 1) _ := T0.b 2 rfl; obtain ⟨p0, p1, p2, p3, p4, p5⟩ := X0.cs6; obtain ⟨q0, q1, q2, q3, q4, q5⟩ := Y0.cs6; obtain ⟨r0, r1, r2, r3, r4, r5⟩ := Z0.cs6; clear X0 Y0 Z0
     go_wp2_with fail
     refine (l3CmpY_any rs1 rs2 rs3 ro1 ro2 ro3 rn1 rc1 rn2 rc2 rn3 rc3 qs1 qs2 qs3 qo1 qo2 qo3 qn1 qc1 qn2 qc2 qn3 qc3 rd2 rd3 qd2 qd3 b c v t k hk _ Nr2 Nr3 Nq2 Nq3).mono ?_
     rintro e f2 ⟨rfl, hB⟩
     replace T0 := T0.step hB
     replace Np1 := Np1.below hB
     replace Np2 := Np2.below hB
     replace Np3 := Np3.below hB
     replace Nq1 := Nq1.below hB
     replace Nq2 := Nq2.below hB
     replace Nq3 := Nq3.below hB
     replace Nr1 := Nr1.below hB
     replace Nr2 := Nr2.below hB
     replace Nr3 := Nr3.below hB
     clear hB p0 q0 r0 p1 q1 r1 p2 q2 r2 p3 q3 r3 p4 q4 r4 p5 q5 r5
     by_cases h3 : cmpI (b * t) (v * c) < 0
     · have d3 : decide (cmpI (b * t) (v * c) < 0) = true := decide_eq_true h3
       have X0 : Blk _ w.heap.size _ := T0.b 0 rfl; have Y0 : Blk _ (w.heap.size + 1) _ := T0.b 1 rfl; have Z0 : Blk _ (w.heap.size + 1 + 1) _ := T0.b 2 rfl; obtain ⟨p0, p1, p2, p3, p4, p5⟩ := X0.cs6; obtain ⟨q0, q1, q2, q3, q4, q5⟩ := Y0.cs6; obtain ⟨r0, r1, r2, r3, r4, r5⟩ := Z0.cs6; clear X0 Y0 Z0
       go_wp2_with fail
       refine (l3Orient_any ps1 ps2 ps3 po1 po2 po3 pn1 pc1 pn2 pc2 pn3 pc3 qs1 qs2 qs3 qo1 qo2 qo3 qn1 qc1 qn2 qc2 qn3 qc3 rs1 rs2 rs3 ro1 ro2 ro3 rn1 rc1 rn2 rc2 rn3 rc3 pd1 pd2 pd3 qd1 qd2 qd3 rd1 rd2 rd3 x y z u v t a b c k hk _ Np1 Np2 Np3 Nq1 Nq2 Nq3 Nr1 Nr2 Nr3).mono ?_
       rintro e f3 ⟨rfl, hB⟩
       have HB := (T0.step hB).below
       have HR : Hid (ctB x y z u v t a b c = decide (0 < turnI x y z u v t a b c)) := by
         show _ = _
         unfold ctB
         rw [HC]
         simp only [h2, h3, decide_true, Bool.true_and]
       clear hB T0 p0 q0 r0 p1 q1 r1 p2 q2 r2 p3 q3 r3 p4 q4 r4 p5 q5 r5 Np1 Np2 Np3 Nq1 Nq2 Nq3 Nr1 Nr2 Nr3 HC h2 h3
       go_wp2
       go_ret
       exact ⟨by rw [HR.out]; rfl, HB⟩
     · have d3 : decide (cmpI (b * t) (v * c) < 0) = false := decide_eq_false h3
       have HR : Hid (ctB x y z u v t a b c = false) := by show _ = _; unfold ctB; rw [HC]; simp [h3]
       have HB := T0.below
       clear T0 Np1 Np2 Np3 Nq1 Nq2 Nq3 Nr1 Nr2 Nr3 HC h2 h3
       go_wp2
       go_ret
       exact ⟨by rw [HR.out]; rfl, HB⟩
   · have d2 : decide (cmpI (y * c) (b * z) ≤ 0) = false := decide_eq_false h2
     have HR : Hid (ctB x y z u v t a b c = false) := by show _ = _; unfold ctB; rw [HC]; simp [h2]
     have HB := T0.below
     clear T0 Np1 Np2 Np3 Nq1 Nq2 Nq3 Nr1 Nr2 Nr3 HC h2
     go_wp2
     go_ret
     exact ⟨by rw [HR.out]; rfl, HB⟩
def kdX (n : Nat) (p : Ps) (m : Nat) (q : Ps) (i k : Nat) : Int := kndZ (sdA n p i).1 (sdA n p i).2.1 (sdA n p i).2.2.1 (sdA n p i).2.2.2 (sdA m q k).1 (sdA m q k).2.1 (sdA m q k).2.2.1 (sdA m q k).2.2.2
def rmB (n : Nat) (p : Ps) (m : Nat) (q : Ps) : Bool := decide (¬ (∀ i, i < n → ∀ k, k < m → kdX n p m q i k = 0))
def VregMeet (ao bo : Option Addr) (n cap m cap2 : Nat) (p q : Ps) (c d : Nat) (B : Nat) : Nat → Value → World → Prop
 | 0, v, _ => v = .agg #[.slice ao n cap]
 | 1, v, _ => v = .int .i64 (c : Int)
 | 2, v, _ => v = Sg (sdA n p c).1 (sdA n p c).2.1 (sdA n p c).2.2.1 (sdA n p c).2.2.2
 | 3, v, _ => v = .agg #[.slice bo m cap2]
 | 4, v, _ => v = .int .i64 (d : Int)
 | 5, v, _ => v = Sg (sdA m q d).1 (sdA m q d).2.1 (sdA m q d).2.2.1 (sdA m q d).2.2.2
 | 6, v, _ => ∃ x y, Lp6 x ∧ Lp6 y ∧ v = .tuple #[.int .i64 (kdX n p m q c d), x, y]
 | 7, v, _ => ∃ x y, Lp6 x ∧ Lp6 y ∧ v = .tuple #[.int .i64 (kdX n p m q c d), x, y]
 | 8, v, _ => v = .int .i64 (kdX n p m q c d)
 | 9, v, _ => Lp6 v
 | 10, v, _ => Lp6 v
 | 11, v, W => ∃ g, v = .pointer (some ⟨g, 0, none⟩) ∧ B ≤ g ∧ BlkN W g 6
 | 12, v, W => ∃ g, v = .pointer (some ⟨g, 0, none⟩) ∧ B ≤ g ∧ BlkN W g 6
 | 13, v, _ => v = .int .i64 (kdX n p m q c d)
 | _, _, _ => True
theorem VregMeet.mono {ao bo : Option Addr} {n cap m cap2 : Nat} {p q : Ps} {c d : Nat} {B j : Nat} {v : Value} {W W2 : World} (hS : ∀ g k, BlkN W g k → BlkN W2 g k) (h : VregMeet ao bo n cap m cap2 p q c d B j v W) : VregMeet ao bo n cap m cap2 p q c d B j v W2 := by
 unfold VregMeet at *
 split <;> simp only at h <;> first | exact h | (obtain ⟨g, h1, h2, h3⟩ := h; exact ⟨g, h1, h2, hS g _ h3⟩) | trivial
set_option maxRecDepth 100000 in
set_option maxHeartbeats 4000000 in
theorem regMeet {Q : Exit → Act → World → Prop} {ao bo : Option Addr} {n cap m cap2 : Nat} {p q : Ps} {c d : Nat} {B1 B2 : Nat} {w0 : World} {a0 : Act} {id : Nat} {t0 t1 t2 t3 t4 t5 t6 t7 t8 t9 t10 t11 t12 t13 t14 t15 : TypeId} {q0 q1 q2 q3 q4 q5 q6 q7 q8 q9 q10 q11 q12 q13 q14 q15 : String}
   (hc : c < n) (hd : d < m) (hn : n ≤ 1048576) (hm : m ≤ 1048576) (hSp : SpIn w0 ao n p) (hSq : SpIn w0 bo m q) (i1 : In1 (sdA n p c).1) (i2 : In1 (sdA n p c).2.1) (i3 : In1 (sdA n p c).2.2.1) (i4 : In1 (sdA n p c).2.2.2) (j1 : In1 (sdA m q d).1) (j2 : In1 (sdA m q d).2.1) (j3 : In1 (sdA m q d).2.2.1) (j4 : In1 (sdA m q d).2.2.2) (h2 : a0.tmps[2]? = some (.pointer (some ⟨B1, 0, none⟩))) (h3 : a0.tmps[3]? = some (.pointer (some ⟨B2, 0, none⟩))) (h5 : a0.tmps[5]? = some (.int .i64 (c : Int))) (h6 : a0.tmps[6]? = some (.int .i64 (d : Int))) (k0 : w0.cell? ⟨B1, 0, none⟩ = some (.slice ao n cap)) (l0 : (⟨B1, 0, none⟩ : Addr).block < w0.heap.size) (k1 : w0.cell? ⟨B2, 0, none⟩ = some (.slice bo m cap2)) (l1 : (⟨B2, 0, none⟩ : Addr).block < w0.heap.size) (hz : a0.tmps.size = 37)
   (hQ : ∀ a W, a.tmps.size = a0.tmps.size → a.defers = a0.defers → (∀ e, e ∉ ([25, 26, 27, 28, 29, 30, 31, 24, 32, 33, 34, 8, 9, 7] : List Nat) → a.tmps[e]? = a0.tmps[e]?) → VregMeet ao bo n cap m cap2 p q c d w0.heap.size 13 (a.tmps.getD 7 undef) W → Below w0.heap.size w0 W → Q .normal a W) :
   (Code.region id #[{ dst := some 25, op := Op.load 34 (Operand.tmp 2), type := t0, pos := q0, after := #[], guard := none },
   { dst := some 26, op := Op.move (Operand.tmp 5), type := t1, pos := q1, after := #[], guard := none },
   { dst := some 27, op := Op.call { callee := Callee.value (Operand.func 55), args := #[Operand.tmp 25, Operand.tmp 26], argTypes := #[34, 3] }, type := t2, pos := q2, after := #[{ on := 0, ground := Ground.data }, { on := 1, ground := Ground.data }], guard := none },
   { dst := some 28, op := Op.load 34 (Operand.tmp 3), type := t3, pos := q3, after := #[], guard := none },
   { dst := some 29, op := Op.move (Operand.tmp 6), type := t4, pos := q4, after := #[], guard := none },
   { dst := some 30, op := Op.call { callee := Callee.value (Operand.func 55), args := #[Operand.tmp 28, Operand.tmp 29], argTypes := #[34, 3] }, type := t5, pos := q5, after := #[{ on := 3, ground := Ground.data }, { on := 4, ground := Ground.data }, { on := 2, ground := Ground.chain }], guard := none },
   { dst := some 31, op := Op.call { callee := Callee.value (Operand.func 71), args := #[Operand.tmp 27, Operand.tmp 30], argTypes := #[83, 83] }, type := t6, pos := q6, after := #[{ on := 2, ground := Ground.data }, { on := 5, ground := Ground.data }, { on := 5, ground := Ground.chain }], guard := none },
   { dst := some 24, op := Op.move (Operand.tmp 31), type := t7, pos := q7, after := #[{ on := 6, ground := Ground.data }], guard := none },
   { dst := some 32, op := Op.extract (Operand.tmp 24) 0, type := t8, pos := q8, after := #[{ on := 7, ground := Ground.data }], guard := none },
   { dst := some 33, op := Op.extract (Operand.tmp 24) 1, type := t9, pos := q9, after := #[{ on := 7, ground := Ground.data }, { on := 13, ground := Ground.gcOnly Departure.lateStores }], guard := none },
   { dst := some 34, op := Op.extract (Operand.tmp 24) 2, type := t10, pos := q10, after := #[{ on := 7, ground := Ground.data }, { on := 14, ground := Ground.gcOnly Departure.lateStores }], guard := none },
   { dst := some 8, op := Op.alloc 62, type := t11, pos := q11, after := #[], guard := none },
   { dst := some 9, op := Op.alloc 62, type := t12, pos := q12, after := #[], guard := none },
   { dst := some 7, op := Op.assign (Operand.tmp 32), type := t13, pos := q13, after := #[{ on := 8, ground := Ground.data }, { on := 6, ground := Ground.chain }, { on := 0, ground := Ground.phase }, { on := 1, ground := Ground.phase }, { on := 2, ground := Ground.phase }, { on := 3, ground := Ground.phase }, { on := 4, ground := Ground.phase }, { on := 5, ground := Ground.phase }, { on := 6, ground := Ground.phase }, { on := 7, ground := Ground.phase }, { on := 8, ground := Ground.phase }, { on := 9, ground := Ground.textOnly Departure.lateStores }, { on := 10, ground := Ground.textOnly Departure.lateStores }, { on := 11, ground := Ground.phase }, { on := 12, ground := Ground.phase }], guard := none },
   { dst := none, op := Op.store 62 (Operand.tmp 8) (Operand.tmp 33), type := t14, pos := q14, after := #[{ on := 11, ground := Ground.data }, { on := 9, ground := Ground.data }, { on := 13, ground := Ground.chain }, { on := 0, ground := Ground.phase }, { on := 1, ground := Ground.phase }, { on := 2, ground := Ground.phase }, { on := 3, ground := Ground.phase }, { on := 4, ground := Ground.phase }, { on := 5, ground := Ground.phase }, { on := 6, ground := Ground.phase }, { on := 7, ground := Ground.phase }, { on := 8, ground := Ground.phase }, { on := 9, ground := Ground.phase }, { on := 10, ground := Ground.textOnly Departure.lateStores }, { on := 11, ground := Ground.phase }, { on := 12, ground := Ground.phase }, { on := 13, ground := Ground.phase }], guard := none },
   { dst := none, op := Op.store 62 (Operand.tmp 9) (Operand.tmp 34), type := t15, pos := q15, after := #[{ on := 12, ground := Ground.data }, { on := 10, ground := Ground.data }, { on := 14, ground := Ground.chain }, { on := 0, ground := Ground.phase }, { on := 1, ground := Ground.phase }, { on := 2, ground := Ground.phase }, { on := 3, ground := Ground.phase }, { on := 4, ground := Ground.phase }, { on := 5, ground := Ground.phase }, { on := 6, ground := Ground.phase }, { on := 7, ground := Ground.phase }, { on := 8, ground := Ground.phase }, { on := 9, ground := Ground.phase }, { on := 10, ground := Ground.phase }, { on := 11, ground := Ground.phase }, { on := 12, ground := Ground.phase }, { on := 13, ground := Ground.phase }, { on := 14, ground := Ground.phase }], guard := none }] true).wp Tryz.prog Q a0 w0 := by
 have hS : distS [some 25, some 26, some 27, some 28, some 29, some 30, some 31, some 24, some 32, some 33, some 34, some 8, some 9, some 7, none, none] = true := rfl
 refine wp_region_q (by kernel_rfl) w0.heap.size [some 25, some 26, some 27, some 28, some 29, some 30, some 31, some 24, some 32, some 33, some 34, some 8, some 9, some 7, none, none] (VregMeet ao bo n cap m cap2 p q c d w0.heap.size) rfl ?_ ?_
 · intro Q l a W i o hJ hl ho hall
   have hJ2 := hJ
   obtain ⟨z1, z2, z3, z4, z5, z6, z7⟩ := hJ
   have g2 : a.tmps.getD 2 undef = .pointer (some ⟨B1, 0, none⟩) := by rw [Array.getD_eq_getD_getElem?, z4 2 (by decide), h2]; rfl
   have g3 : a.tmps.getD 3 undef = .pointer (some ⟨B2, 0, none⟩) := by rw [Array.getD_eq_getD_getElem?, z4 3 (by decide), h3]; rfl
   have g5 : a.tmps.getD 5 undef = .int .i64 (c : Int) := by rw [Array.getD_eq_getD_getElem?, z4 5 (by decide), h5]; rfl
   have g6 : a.tmps.getD 6 undef = .int .i64 (d : Int) := by rw [Array.getD_eq_getD_getElem?, z4 6 (by decide), h6]; rfl
   have c0 : W.cell? ⟨B1, 0, none⟩ = some (.slice ao n cap) := (z5.cell l0).trans k0
   have c1 : W.cell? ⟨B2, 0, none⟩ = some (.slice bo m cap2) := (z5.cell l1).trans k1
   match i, ho with
   | 0, ho =>
     cases ho
     refine wpOp_of rfl rfl ?_
     have hK := fun (v : Value) (W2 : World) hW hT hv => hJ2.put hS 0 25 rfl (by omega) (W' := W2) hW hT v hv
     clear ho hall hl hQ
     generalize InvQ w0.heap.size [some 25, some 26, some 27, some 28, some 29, some 30, some 31, some 24, some 32, some 33, some 34, some 8, some 9, some 7, none, none] (VregMeet ao bo n cap m cap2 p q c d w0.heap.size) w0 a0 (l.setIfInBounds 0 true) = K at hK ⊢
     clear hJ2 hS z1 z2 z3 z4 z6 z7
     go_simp
     exact hK _ _ z5 (fun _ _ h => h) rfl
   | 1, ho =>
     cases ho
     refine wpOp_of rfl rfl ?_
     have hK := fun (v : Value) (W2 : World) hW hT hv => hJ2.put hS 1 26 rfl (by omega) (W' := W2) hW hT v hv
     clear ho hall hl hQ
     generalize InvQ w0.heap.size [some 25, some 26, some 27, some 28, some 29, some 30, some 31, some 24, some 32, some 33, some 34, some 8, some 9, some 7, none, none] (VregMeet ao bo n cap m cap2 p q c d w0.heap.size) w0 a0 (l.setIfInBounds 1 true) = K at hK ⊢
     clear hJ2 hS z1 z2 z3 z4 z6 z7
     go_simp
     exact hK _ _ z5 (fun _ _ h => h) rfl
   | 2, ho =>
     cases ho
     refine wpOp_of rfl rfl ?_
     have f0 : (a.tmps.getD 25 undef) = .agg #[.slice ao n cap] := z6 0 25 (hall { on := 0, ground := Ground.data } (by simp) rfl) rfl
     have f1 : (a.tmps.getD 26 undef) = .int .i64 (c : Int) := z6 1 26 (hall { on := 1, ground := Ground.data } (by simp) rfl) rfl
     have hK := fun (v : Value) (W2 : World) hW hT hv => hJ2.put hS 2 27 rfl (by omega) (W' := W2) hW hT v hv
     clear ho hall hl hQ
     generalize InvQ w0.heap.size [some 25, some 26, some 27, some 28, some 29, some 30, some 31, some 24, some 32, some 33, some 34, some 8, some 9, some 7, none, none] (VregMeet ao bo n cap m cap2 p q c d w0.heap.size) w0 a0 (l.setIfInBounds 2 true) = K at hK ⊢
     clear hJ2 hS z1 z2 z3 z4 z6 z7
     go_simp
     refine (l5Side_any ao n cap p c hc hn W (hSp.step z5)).mono ?_
     rintro e v1 ⟨rfl, hBv⟩
     exact hK _ _ (z5.trans (hBv.mono z5.size)) (fun j v h => h.mono fun g k hg => hg.step hBv) rfl
   | 3, ho =>
     cases ho
     refine wpOp_of rfl rfl ?_
     have hK := fun (v : Value) (W2 : World) hW hT hv => hJ2.put hS 3 28 rfl (by omega) (W' := W2) hW hT v hv
     clear ho hall hl hQ
     generalize InvQ w0.heap.size [some 25, some 26, some 27, some 28, some 29, some 30, some 31, some 24, some 32, some 33, some 34, some 8, some 9, some 7, none, none] (VregMeet ao bo n cap m cap2 p q c d w0.heap.size) w0 a0 (l.setIfInBounds 3 true) = K at hK ⊢
     clear hJ2 hS z1 z2 z3 z4 z6 z7
     go_simp
     exact hK _ _ z5 (fun _ _ h => h) rfl
   | 4, ho =>
     cases ho
     refine wpOp_of rfl rfl ?_
     have hK := fun (v : Value) (W2 : World) hW hT hv => hJ2.put hS 4 29 rfl (by omega) (W' := W2) hW hT v hv
     clear ho hall hl hQ
     generalize InvQ w0.heap.size [some 25, some 26, some 27, some 28, some 29, some 30, some 31, some 24, some 32, some 33, some 34, some 8, some 9, some 7, none, none] (VregMeet ao bo n cap m cap2 p q c d w0.heap.size) w0 a0 (l.setIfInBounds 4 true) = K at hK ⊢
     clear hJ2 hS z1 z2 z3 z4 z6 z7
     go_simp
     exact hK _ _ z5 (fun _ _ h => h) rfl
   | 5, ho =>
     cases ho
     refine wpOp_of rfl rfl ?_
     have f3 : (a.tmps.getD 28 undef) = .agg #[.slice bo m cap2] := z6 3 28 (hall { on := 3, ground := Ground.data } (by simp) rfl) rfl
     have f4 : (a.tmps.getD 29 undef) = .int .i64 (d : Int) := z6 4 29 (hall { on := 4, ground := Ground.data } (by simp) rfl) rfl
     have hK := fun (v : Value) (W2 : World) hW hT hv => hJ2.put hS 5 30 rfl (by omega) (W' := W2) hW hT v hv
     clear ho hall hl hQ
     generalize InvQ w0.heap.size [some 25, some 26, some 27, some 28, some 29, some 30, some 31, some 24, some 32, some 33, some 34, some 8, some 9, some 7, none, none] (VregMeet ao bo n cap m cap2 p q c d w0.heap.size) w0 a0 (l.setIfInBounds 5 true) = K at hK ⊢
     clear hJ2 hS z1 z2 z3 z4 z6 z7
     go_simp
     refine (l5Side_any bo m cap2 q d hd hm W (hSq.step z5)).mono ?_
     rintro e v1 ⟨rfl, hBv⟩
     exact hK _ _ (z5.trans (hBv.mono z5.size)) (fun j v h => h.mono fun g k hg => hg.step hBv) rfl
   | 6, ho =>
     cases ho
     refine wpOp_of rfl rfl ?_
     have f2 : (a.tmps.getD 27 undef) = Sg (sdA n p c).1 (sdA n p c).2.1 (sdA n p c).2.2.1 (sdA n p c).2.2.2 := z6 2 27 (hall { on := 2, ground := Ground.data } (by simp) rfl) rfl
     have f5 : (a.tmps.getD 30 undef) = Sg (sdA m q d).1 (sdA m q d).2.1 (sdA m q d).2.2.1 (sdA m q d).2.2.2 := z6 5 30 (hall { on := 5, ground := Ground.data } (by simp) rfl) rfl
     have hK := fun (v : Value) (W2 : World) hW hT hv => hJ2.put hS 6 31 rfl (by omega) (W' := W2) hW hT v hv
     clear ho hall hl hQ
     generalize InvQ w0.heap.size [some 25, some 26, some 27, some 28, some 29, some 30, some 31, some 24, some 32, some 33, some 34, some 8, some 9, some 7, none, none] (VregMeet ao bo n cap m cap2 p q c d w0.heap.size) w0 a0 (l.setIfInBounds 6 true) = K at hK ⊢
     clear hJ2 hS z1 z2 z3 z4 z6 z7
     go_simp
     refine (l4Meet_any (sdA n p c).1 (sdA n p c).2.1 (sdA n p c).2.2.1 (sdA n p c).2.2.2 (sdA m q d).1 (sdA m q d).2.1 (sdA m q d).2.2.1 (sdA m q d).2.2.2 i1 i2 i3 i4 j1 j2 j3 j4 W).mono ?_
     rintro e v3 hmt
     obtain ⟨⟨f1, f2, f3, g1, g2, g3, k1, k2, k3, l1, l2, l3, m1, m2, m3, x1, x2, x3, y1, y2, y3, z1, z2, z3, rfl⟩, hBv⟩ := mtP_kind hmt
     exact hK _ _ (z5.trans (hBv.mono z5.size)) (fun j v h => h.mono fun g k hg => hg.step hBv) ⟨_, _, ⟨_, _, _, _, _, _, _, _, _, _, _, _, rfl⟩, ⟨_, _, _, _, _, _, _, _, _, _, _, _, rfl⟩, rfl⟩
   | 7, ho =>
     cases ho
     refine wpOp_of rfl rfl ?_
     have f6 : ∃ x y, Lp6 x ∧ Lp6 y ∧ (a.tmps.getD 31 undef) = .tuple #[.int .i64 (kdX n p m q c d), x, y] := z6 6 31 (hall { on := 6, ground := Ground.data } (by simp) rfl) rfl
     obtain ⟨x, y, hx, hy, he⟩ := f6
     have hK := fun (v : Value) (W2 : World) hW hT hv => hJ2.put hS 7 24 rfl (by omega) (W' := W2) hW hT v hv
     clear ho hall hl hQ
     generalize InvQ w0.heap.size [some 25, some 26, some 27, some 28, some 29, some 30, some 31, some 24, some 32, some 33, some 34, some 8, some 9, some 7, none, none] (VregMeet ao bo n cap m cap2 p q c d w0.heap.size) w0 a0 (l.setIfInBounds 7 true) = K at hK ⊢
     clear hJ2 hS z1 z2 z3 z4 z6 z7
     go_simp
     exact hK _ _ z5 (fun _ _ h => h) ⟨x, y, hx, hy, rfl⟩
   | 8, ho =>
     cases ho
     refine wpOp_of rfl rfl ?_
     have f7 : ∃ x y, Lp6 x ∧ Lp6 y ∧ (a.tmps.getD 24 undef) = .tuple #[.int .i64 (kdX n p m q c d), x, y] := z6 7 24 (hall { on := 7, ground := Ground.data } (by simp) rfl) rfl
     obtain ⟨x, y, hx, hy, he⟩ := f7
     have hK := fun (v : Value) (W2 : World) hW hT hv => hJ2.put hS 8 32 rfl (by omega) (W' := W2) hW hT v hv
     clear ho hall hl hQ
     generalize InvQ w0.heap.size [some 25, some 26, some 27, some 28, some 29, some 30, some 31, some 24, some 32, some 33, some 34, some 8, some 9, some 7, none, none] (VregMeet ao bo n cap m cap2 p q c d w0.heap.size) w0 a0 (l.setIfInBounds 8 true) = K at hK ⊢
     clear hJ2 hS z1 z2 z3 z4 z6 z7
     go_simp
     exact hK _ _ z5 (fun _ _ h => h) rfl
   | 9, ho =>
     cases ho
     refine wpOp_of rfl rfl ?_
     have f7 : ∃ x y, Lp6 x ∧ Lp6 y ∧ (a.tmps.getD 24 undef) = .tuple #[.int .i64 (kdX n p m q c d), x, y] := z6 7 24 (hall { on := 7, ground := Ground.data } (by simp) rfl) rfl
     obtain ⟨x, y, hx, hy, he⟩ := f7
     have hK := fun (v : Value) (W2 : World) hW hT hv => hJ2.put hS 9 33 rfl (by omega) (W' := W2) hW hT v hv
     clear ho hall hl hQ
     generalize InvQ w0.heap.size [some 25, some 26, some 27, some 28, some 29, some 30, some 31, some 24, some 32, some 33, some 34, some 8, some 9, some 7, none, none] (VregMeet ao bo n cap m cap2 p q c d w0.heap.size) w0 a0 (l.setIfInBounds 9 true) = K at hK ⊢
     clear hJ2 hS z1 z2 z3 z4 z6 z7
     go_simp
     exact hK _ _ z5 (fun _ _ h => h) hx
   | 10, ho =>
     cases ho
     refine wpOp_of rfl rfl ?_
     have f7 : ∃ x y, Lp6 x ∧ Lp6 y ∧ (a.tmps.getD 24 undef) = .tuple #[.int .i64 (kdX n p m q c d), x, y] := z6 7 24 (hall { on := 7, ground := Ground.data } (by simp) rfl) rfl
     obtain ⟨x, y, hx, hy, he⟩ := f7
     have hK := fun (v : Value) (W2 : World) hW hT hv => hJ2.put hS 10 34 rfl (by omega) (W' := W2) hW hT v hv
     clear ho hall hl hQ
     generalize InvQ w0.heap.size [some 25, some 26, some 27, some 28, some 29, some 30, some 31, some 24, some 32, some 33, some 34, some 8, some 9, some 7, none, none] (VregMeet ao bo n cap m cap2 p q c d w0.heap.size) w0 a0 (l.setIfInBounds 10 true) = K at hK ⊢
     clear hJ2 hS z1 z2 z3 z4 z6 z7
     go_simp
     exact hK _ _ z5 (fun _ _ h => h) hy
   | 11, ho =>
     cases ho
     refine wpOp_of rfl rfl ?_
     have hK := fun (v : Value) (W2 : World) hW hT hv => hJ2.put hS 11 8 rfl (by omega) (W' := W2) hW hT v hv
     clear ho hall hl hQ
     generalize InvQ w0.heap.size [some 25, some 26, some 27, some 28, some 29, some 30, some 31, some 24, some 32, some 33, some 34, some 8, some 9, some 7, none, none] (VregMeet ao bo n cap m cap2 p q c d w0.heap.size) w0 a0 (l.setIfInBounds 11 true) = K at hK ⊢
     clear hJ2 hS z1 z2 z3 z4 z6 z7
     go_simp
     exact hK _ _ (z5.alloc z5.size _) (fun j v h => h.mono fun g k hg => hg.step ((Below.refl _ _).alloc (Nat.le_refl _) _)) ⟨_, rfl, z5.size, _, rfl, Blk.new W [.bool false, .slice none 0 0, .bool false, .slice none 0 0, .bool false, .slice none 0 0] 62 rfl⟩
   | 12, ho =>
     cases ho
     refine wpOp_of rfl rfl ?_
     have hK := fun (v : Value) (W2 : World) hW hT hv => hJ2.put hS 12 9 rfl (by omega) (W' := W2) hW hT v hv
     clear ho hall hl hQ
     generalize InvQ w0.heap.size [some 25, some 26, some 27, some 28, some 29, some 30, some 31, some 24, some 32, some 33, some 34, some 8, some 9, some 7, none, none] (VregMeet ao bo n cap m cap2 p q c d w0.heap.size) w0 a0 (l.setIfInBounds 12 true) = K at hK ⊢
     clear hJ2 hS z1 z2 z3 z4 z6 z7
     go_simp
     exact hK _ _ (z5.alloc z5.size _) (fun j v h => h.mono fun g k hg => hg.step ((Below.refl _ _).alloc (Nat.le_refl _) _)) ⟨_, rfl, z5.size, _, rfl, Blk.new W [.bool false, .slice none 0 0, .bool false, .slice none 0 0, .bool false, .slice none 0 0] 62 rfl⟩
   | 13, ho =>
     cases ho
     refine wpOp_of rfl rfl ?_
     have f8 : (a.tmps.getD 32 undef) = .int .i64 (kdX n p m q c d) := z6 8 32 (hall { on := 8, ground := Ground.data } (by simp) rfl) rfl
     have hK := fun (v : Value) (W2 : World) hW hT hv => hJ2.put hS 13 7 rfl (by omega) (W' := W2) hW hT v hv
     clear ho hall hl hQ
     generalize InvQ w0.heap.size [some 25, some 26, some 27, some 28, some 29, some 30, some 31, some 24, some 32, some 33, some 34, some 8, some 9, some 7, none, none] (VregMeet ao bo n cap m cap2 p q c d w0.heap.size) w0 a0 (l.setIfInBounds 13 true) = K at hK ⊢
     clear hJ2 hS z1 z2 z3 z4 z6 z7
     go_simp
     exact hK _ _ z5 (fun _ _ h => h) rfl
   | 14, ho =>
     cases ho
     refine wpOp_of rfl rfl ?_
     have f11 : ∃ g, (a.tmps.getD 8 undef) = .pointer (some ⟨g, 0, none⟩) ∧ w0.heap.size ≤ g ∧ BlkN W g 6 := z6 11 8 (hall { on := 11, ground := Ground.data } (by simp) rfl) rfl
     obtain ⟨g, hg, hgB, vs, hvs, G⟩ := f11
     have f9 : Lp6 (a.tmps.getD 33 undef) := z6 9 33 (hall { on := 9, ground := Ground.data } (by simp) rfl) rfl
     obtain ⟨s1, s2, s3, k1, k2, k3, m1, m2, m3, x1, x2, x3, hx⟩ := f9
     have hK := fun (W2 : World) hW hT hv => hJ2.world 14 rfl (W' := W2) hW hT hv
     clear ho hall hl hQ
     generalize InvQ w0.heap.size [some 25, some 26, some 27, some 28, some 29, some 30, some 31, some 24, some 32, some 33, some 34, some 8, some 9, some 7, none, none] (VregMeet ao bo n cap m cap2 p q c d w0.heap.size) w0 a0 (l.setIfInBounds 14 true) = K at hK ⊢
     clear hJ2 hS z1 z2 z3 z4 z6 z7
     obtain ⟨v0, v1, v2, v3, v4, v5, rfl⟩ : ∃ v0 v1 v2 v3 v4 v5, vs = [v0, v1, v2, v3, v4, v5] := by match vs, hvs with | [v0, v1, v2, v3, v4, v5], _ => exact ⟨_, _, _, _, _, _, rfl⟩
     have b0 := G.c 0 rfl; have r0 := G.f 0 rfl
     have b1 := G.c 1 rfl; have r1 := G.f 1 rfl
     have b2 := G.c 2 rfl; have r2 := G.f 2 rfl
     have b3 := G.c 3 rfl; have r3 := G.f 3 rfl
     have b4 := G.c 4 rfl; have r4 := G.f 4 rfl
     have b5 := G.c 5 rfl; have r5 := G.f 5 rfl
     have hlt := G.lt
     clear G
     go_simp
     exact hK _ (below_set6 z5 hgB) (fun j v h => h.mono fun g2 k hg => (((((hg.set _ 0 _).set _ 1 _).set _ 2 _).set _ 3 _).set _ 4 _).set _ 5 _) trivial
   | 15, ho =>
     cases ho
     refine wpOp_of rfl rfl ?_
     have f12 : ∃ g, (a.tmps.getD 9 undef) = .pointer (some ⟨g, 0, none⟩) ∧ w0.heap.size ≤ g ∧ BlkN W g 6 := z6 12 9 (hall { on := 12, ground := Ground.data } (by simp) rfl) rfl
     obtain ⟨g, hg, hgB, vs, hvs, G⟩ := f12
     have f10 : Lp6 (a.tmps.getD 34 undef) := z6 10 34 (hall { on := 10, ground := Ground.data } (by simp) rfl) rfl
     obtain ⟨s1, s2, s3, k1, k2, k3, m1, m2, m3, x1, x2, x3, hx⟩ := f10
     have hK := fun (W2 : World) hW hT hv => hJ2.world 15 rfl (W' := W2) hW hT hv
     clear ho hall hl hQ
     generalize InvQ w0.heap.size [some 25, some 26, some 27, some 28, some 29, some 30, some 31, some 24, some 32, some 33, some 34, some 8, some 9, some 7, none, none] (VregMeet ao bo n cap m cap2 p q c d w0.heap.size) w0 a0 (l.setIfInBounds 15 true) = K at hK ⊢
     clear hJ2 hS z1 z2 z3 z4 z6 z7
     obtain ⟨v0, v1, v2, v3, v4, v5, rfl⟩ : ∃ v0 v1 v2 v3 v4 v5, vs = [v0, v1, v2, v3, v4, v5] := by match vs, hvs with | [v0, v1, v2, v3, v4, v5], _ => exact ⟨_, _, _, _, _, _, rfl⟩
     have b0 := G.c 0 rfl; have r0 := G.f 0 rfl
     have b1 := G.c 1 rfl; have r1 := G.f 1 rfl
     have b2 := G.c 2 rfl; have r2 := G.f 2 rfl
     have b3 := G.c 3 rfl; have r3 := G.f 3 rfl
     have b4 := G.c 4 rfl; have r4 := G.f 4 rfl
     have b5 := G.c 5 rfl; have r5 := G.f 5 rfl
     have hlt := G.lt
     clear G
     go_simp
     exact hK _ (below_set6 z5 hgB) (fun j v h => h.mono fun g2 k hg => (((((hg.set _ 0 _).set _ 1 _).set _ 2 _).set _ 3 _).set _ 4 _).set _ 5 _) trivial
   | i + 16, ho => simp at ho
 · intro l a W hJ hr
   obtain ⟨z1, z2, z3, z4, z5, z6, z7⟩ := hJ
   have hl := listed_of hr [0, 1, 2, 3, 4, 5, 6, 7, 8, 11, 12, 13] [] (by simp) (by kernel_rfl) (by rw [z1]; decide)
   exact hQ a W z2 z3 (fun e he => z4 e (by simpa using he)) (z6 13 7 (hl 13 (by simp)) rfl) z5
structure RgOk (n : Nat) (p : Ps) : Prop where
 h3 : 3 ≤ n
 h12 : n ≤ 12
 ok : ∀ i, i < n → spotOk (p i).1 (p i).2 = true
 one : OneN n p
theorem rgF_ok {n : Nat} {p : Ps} (h : rgF n p = 0) : RgOk n p := by
 unfold rgF at h
 repeat' split at h
 all_goals first | omega | skip
 rename_i h1 h2 h3 h4 h5
 exact ⟨by omega, by omega, Decidable.not_not.1 h3, Decidable.not_not.1 h4⟩
set_option maxRecDepth 100000 in
set_option maxHeartbeats 8000000 in
theorem l5Meet_any (ao bo : Option Addr) (n cap m cap2 : Nat) (p q : Ps) (hp : RgOk n p) (hq : RgOk m q) (w : World) (hSp : SpIn w ao n p) (hSq : SpIn w bo m q) : Calls Tryz.prog 36 #[.agg #[.slice ao n cap], .agg #[.slice bo m cap2]] w (VP (.bool (rmB n p m q)) w) := by
 have A0 := (Blk.new w [.slice ao n cap] 34 rfl).alloc (.cells #[.slice bo m cap2] 34)
 have A1 := Blk.new (w.alloc (.cells #[.slice ao n cap] 34)) [.slice bo m cap2] 34 (g := w.heap.size + 1) (by simp)
 have HB0 : Below w.heap.size w ((w.alloc (.cells #[.slice ao n cap] 34)).alloc (.cells #[.slice bo m cap2] 34)) := ((Below.refl _ w).alloc (Nat.le_refl _) _).alloc (by simp) _
 have HP : Hid (RgOk n p) := hp
 have HQ : Hid (RgOk m q) := hq
 have h12 := hp.h12
 have m12 := hq.h12
 have hnI : (n : Int) ≤ 12 := by omega
 have hmI : (m : Int) ≤ 12 := by omega
 have HSp : Hid (SpIn ((w.alloc (.cells #[.slice ao n cap] 34)).alloc (.cells #[.slice bo m cap2] 34)) ao n p) := hSp.step HB0
 have HSq : Hid (SpIn ((w.alloc (.cells #[.slice ao n cap] 34)).alloc (.cells #[.slice bo m cap2] 34)) bo m q) := hSq.step HB0
 clear hSp hSq hp hq
 go_enter Tryz.func36, Tryz.ntmps36
 go_wp2_with fail
 generalize ((w.alloc (.cells #[.slice ao n cap] 34)).alloc (.cells #[.slice bo m cap2] 34)) = W1 at *
 go_loopw [5] (fun i wr => ∃ c : Nat, c ≤ n ∧ i = .int .i64 c ∧ (∀ j, j < c → ∀ k, k < m → kdX n p m q j k = 0) ∧ Below W1.heap.size W1 wr) (fun i _ => n - (intOf i).toNat)
 case atStart => exact ⟨0, by omega, rfl, fun j hj => by omega, Below.refl _ _⟩
 case round =>
   obtain ⟨c, hc, rfl, hall, HB⟩ := hrel
   have HD : Hid (∀ j, j < c → ∀ k, k < m → kdX n p m q j k = 0) := hall
   clear hall
   have b0 := (A0.step HB).c 0 rfl
   by_cases hcn : c < n
   · have hcI : (c : Int) < n := by omega
     have HBo := HB
     have HSp2 : Hid (SpIn wr ao n p) := HSp.out.step HB
     have HSq2 : Hid (SpIn wr bo m q) := HSq.out.step HB
     have D0 := A0.step HB
     have D1 := A1.step HB
     clear HB
     go_wp2_with fail
     clear b0
     generalize wr = W4 at *
     go_loopw [6] (fun i wr => ∃ d : Nat, d ≤ m ∧ i = .int .i64 d ∧ (∀ k, k < d → kdX n p m q c k = 0) ∧ Below W4.heap.size W4 wr) (fun i _ => m - (intOf i).toNat)
     case atStart => exact ⟨0, by omega, rfl, fun j hj => by omega, Below.refl _ _⟩
     case round =>
       rename_i hrel
       obtain ⟨d, hd, rfl, hall, HB⟩ := hrel
       have HE : Hid (∀ k, k < d → kdX n p m q c k = 0) := hall
       clear hall
       have b1 := (D1.step HB).c 0 rfl
       by_cases hdn : d < m
       · have hdI : (d : Int) < m := by omega
         have E0 := D0.step HB
         have E1 := D1.step HB
         have SP := HSp2.out.step HB
         have SQ := HSq2.out.step HB
         obtain ⟨i1, i2, i3, i4⟩ := in1_seg (side_ok HP.out.ok HP.out.one HP.out.h3 hcn)
         obtain ⟨j1, j2, j3, j4⟩ := in1_seg (side_ok HQ.out.ok HQ.out.one HQ.out.h3 hdn)
         have HSP : Hid (SpIn wr ao n p) := SP
         have HSQ : Hid (SpIn wr bo m q) := SQ
         clear SP SQ
         go_upto_region 7 with fail
         go_cut [7] (fun z wx => z = .int .i64 (kdX n p m q c d) ∧ Below wr.heap.size wr wx)
         case first =>
           clear b1 HE HD HSp HSq HSp2 HSq2
           refine regMeet (c := c) (d := d) hcn hdn (by omega) (by omega) HSP.out HSQ.out i1 i2 i3 i4 j1 j2 j3 j4 rfl rfl rfl rfl (E0.c 0 rfl) E0.lt (E1.c 0 rfl) E1.lt rfl ?_
           rintro ⟨tm, df⟩ Wz hz hdf hoff h7 hBz
           simp only at hz hdf hoff h7
           change tm.getD 7 undef = .int .i64 (kdX n p m q c d) at h7
           subst hdf
           have htm := tmps_fold [25, 26, 27, 28, 29, 30, 31, 24, 32, 33, 34, 8, 9, 7] tm _ hz hoff
           simp only [List.foldl, List.setIfInBounds_toArray, List.set_cons_zero, List.set_cons_succ, h7] at htm
           clear hz hoff
           generalize tm.getD 25 undef = u0, tm.getD 26 undef = u1, tm.getD 27 undef = u2, tm.getD 28 undef = u3, tm.getD 29 undef = u4, tm.getD 30 undef = u5, tm.getD 31 undef = u6, tm.getD 24 undef = u7, tm.getD 32 undef = u8, tm.getD 33 undef = u9, tm.getD 34 undef = u10, tm.getD 8 undef = u11, tm.getD 9 undef = u12 at htm
           clear h7
           subst htm
           go_wp2_with fail
           go_meet
           exact ⟨rfl, hBz⟩
         case rest =>
           obtain ⟨hm, hBc⟩ := hcut
           subst hm
           have HBN := HB.trans (hBc.mono HB.size)
           clear hBc HB E0 E1 HSP HSQ i1 i2 i3 i4 j1 j2 j3 j4 b1
           by_cases hk : kdX n p m q c d = 0
           · have HK : Hid (kdX n p m q c d = 0) := hk
             rw [hk]
             clear hk
             go_wp2
             go_roundw
             case rel => exact ⟨d + 1, by omega, by go_num, fun k hk => by
               rcases Nat.lt_or_ge k d with h | h
               · exact HE.out k h
               · obtain rfl : k = d := by omega
                 exact HK.out, HBN⟩
             case measure => simp [intOf]; omega
           · have HO : Hid (rmB n p m q = true) := decide_eq_true (fun h => hk (h c hcn d hdn))
             have hk2 : (kdX n p m q c d != 0) = true := by simp [hk]
             revert hk2
             generalize kdX n p m q c d = z
             intro hk2
             have HBF := HB0.trans ((HBo.trans (HBN.mono HBo.size)).mono HB0.size)
             clear hk HBN HBo
             go_wp2
             go_ret
             exact ⟨by rw [HO.out]; rfl, HBF⟩
       · obtain rfl : d = m := by omega
         have HBN := HBo.trans (HB.mono HBo.size)
         clear HBo HB D0 D1 HSp2 HSq2
         go_wp2
         go_roundw
         case rel => exact ⟨c + 1, by omega, by go_num, fun j hj => by
           rcases Nat.lt_or_ge j c with h | h
           · exact HD.out j h
           · obtain rfl : j = c := by omega
             exact HE.out, HBN⟩
         case measure => simp [intOf]; omega
   · obtain rfl : c = n := by omega
     have HO : Hid (rmB c p m q = false) := decide_eq_false (fun h => h HD.out)
     have HBF := HB0.trans (HB.mono HB0.size)
     clear HB HD HSp HSq A0 A1
     go_wp2
     go_ret
     exact ⟨by rw [HO.out]; rfl, HBF⟩
end Go.Proofs.YtibbjjlapglndaaGreat
