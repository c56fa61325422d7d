/- Part 9 of the walks that the proof leans on. -/
import Derived.Test.YteakhlipmmfilaaGreatQy8
import Derived.Test.YteakhlipmmfilaaGreatQy5
import Derived.Test.YteakhlipmmfilaaGreatQy3
import Derived.Test.YteakhlipmmfilaaGreatQy1
import Derived.Deep.RegionHeld3
import Derived.Deep.DeepCutAuto
import Derived.Test.YteakhlipmmfilaaGreatQy7
import Derived.Test.YteakhlipmmfilaaGreatQy4
import Derived.Test.YteakhlipmmfilaaGreatQy2
namespace Go.Proofs.YteakhlipmmfilaaGreat
open Go.RowKit
def sumR (L : Nat → Nat) : Nat → Nat
 | 0 => 0
 | i + 1 => sumR L i + L i
theorem sumR_le {L : Nat → Nat} {n : Nat} (hL : ∀ i, i < n → L i ≤ 1048576) : ∀ c, c ≤ n → sumR L c ≤ c * 1048576
 | 0, _ => by simp [sumR]
 | c + 1, h => by
   have := sumR_le hL c (by omega)
   have := hL c (by omega)
   rw [sumR]
   omega
def firstP (P : Nat → Bool) (n : Nat) : Option Nat := (List.range n).find? P
theorem firstP_some {P : Nat → Bool} {n c : Nat} (hc : c < n) (h : P c = true) (ha : ∀ j, j < c → P j = false) : firstP P n = some c := by
 unfold firstP
 rw [List.find?_range_eq_some]
 exact ⟨h, by simpa using hc, fun j hj => by simp [ha j hj]⟩
theorem firstP_none {P : Nat → Bool} {n : Nat} (ha : ∀ j, j < n → P j = false) : firstP P n = none := by
 unfold firstP
 rw [List.find?_eq_none]
 intro x hx
 rw [ha x (by simpa using hx)]
 simp
def mtA (L : Nat → Nat) (q : Nat → Ps) (i : Nat) : Bool := (List.range i).any fun k => rmB (L i) (q i) (L k) (q k)
theorem mtA_true {L : Nat → Nat} {q : Nat → Ps} {i k : Nat} (hk : k < i) (h : rmB (L i) (q i) (L k) (q k) = true) : mtA L q i = true := List.any_eq_true.2 ⟨k, by simpa using hk, h⟩
theorem mtA_false {L : Nat → Nat} {q : Nat → Ps} {i : Nat} (h : ∀ k, k < i → rmB (L i) (q i) (L k) (q k) = false) : mtA L q i = false := List.any_eq_false.2 fun k hk => by rw [h k (by simpa using hk)]; simp
def mfV (n : Nat) (L : Nat → Nat) (q : Nat → Ps) : Int × Int := match firstP (mtA L q) n with
 | some i => (3, i)
 | none => (0, 0)
def lyF (n : Nat) (L : Nat → Nat) (q : Nat → Ps) : Int × Int :=
 if 6 < n then (1, 0) else if 20 < sumR L n then (2, 0) else
   match firstP (fun i => decide (rgF (L i) (q i) ≠ 0)) n with
   | some i => (10 + rgF (L i) (q i), i)
   | none => mfV n L q
theorem rgF_in (n : Nat) (p : Ps) : 0 ≤ rgF n p ∧ rgF n p ≤ 5 := by
 unfold rgF
 repeat' split
 all_goals omega
def TwoL (x : Int × Int) (w : World) : Ending → World → Prop := VP (.tuple #[.int .i64 x.1, .int .i64 x.2]) w
set_option maxRecDepth 100000 in
set_option maxHeartbeats 4000000 in
theorem countSpots_any (ao : Option Addr) (n cap : Nat) (S : Nat → Option Addr × Nat) (L : Nat → Nat) (q : Nat → Ps) (hn : n ≤ 6) (hL : ∀ i, i < n → L i ≤ 1048576) (w : World) (hS : RgIn w ao n S L q) : Calls Tryz.prog 43 #[.slice ao n cap] w (VP (.int .i64 (sumR L n : Nat)) w) := by
 have HS : Hid (RgIn w ao n S L q) := hS
 have HL : Hid (∀ i, i < n → L i ≤ 1048576) := hL
 have hnI : (n : Int) ≤ 6 := by omega
 clear hS hL
 go_enter Tryz.func43, Tryz.ntmps43
 go_wp2_with fail
 go_loopw [3, 8] (fun s i wr => ∃ c : Nat, c ≤ n ∧ i = .int .i64 c ∧ s = .int .i64 (sumR L c : Nat) ∧ Below w.heap.size w wr) (fun _ i _ => n - (intOf i).toNat)
 case atStart => exact ⟨0, by omega, rfl, rfl, Below.refl _ _⟩
 case round =>
   obtain ⟨c, hc, rfl, rfl, HB⟩ := hrel
   by_cases hcn : c < n
   · obtain ⟨A, off, rfl, hA, q0, -⟩ := HS.out.step HB c hcn
     have hcI : (c : Int) < n := by omega
     have s1 := sumR_le HL.out c hc
     have s2 := HL.out c hcn
     have hw : IntKind.i64.wrap (((sumR L c : Nat) : Int) + (L c : Int)) = ((sumR L (c + 1) : Nat) : Int) := by rw [IntKind.wrap_i64, sumR]; omega
     have HBN : Below w.heap.size w (wr.alloc (.cells #[.slice (S c).1 (L c) (S c).2] 57)) := HB.alloc HB.size _
     clear s1 s2 HB
     go_wp2
     go_roundw
     case rel => exact ⟨c + 1, by omega, by go_num, rfl, HBN⟩
     case measure => simp [intOf]; omega
   · obtain rfl : c = n := by omega
     clear HS HL
     go_wp2
     go_ret
     exact ⟨rfl, HB⟩
set_option maxRecDepth 100000 in
set_option maxHeartbeats 8000000 in
theorem meetingFault_any (ao : Option Addr) (n cap : Nat) (S : Nat → Option Addr × Nat) (L : Nat → Nat) (q : Nat → Ps) (hn : n ≤ 6) (hcap : n ≤ cap) (hcap2 : cap ≤ 9223372036854775807) (hR : ∀ i, i < n → RgOk (L i) (q i)) (w : World) (hS : RgIn w ao n S L q) : Calls Tryz.prog 45 #[.slice ao n cap] w (TwoL (mfV n L q) w) := by
 have HS : Hid (RgIn w ao n S L q) := hS
 have HR : Hid (∀ i, i < n → RgOk (L i) (q i)) := hR
 have hnI : (n : Int) ≤ 6 := by omega
 have hcI1 : (n : Int) ≤ cap := by omega
 have hcI2 : (cap : Int) ≤ 9223372036854775807 := by omega
 clear hS hR
 go_enter Tryz.func45, Tryz.ntmps45
 go_wp2_with fail
 go_step3
 go_wp2_with fail
 go_step3
 go_wp2_with fail
 go_loopw [4, 5, 12] (fun a b i wr => ∃ c : Nat, c ≤ n ∧ i = .int .i64 c ∧ a = .int .i64 0 ∧ b = .int .i64 0 ∧ (∀ j, j < c → mtA L q j = false) ∧ Below w.heap.size w wr) (fun _ _ i _ => n - (intOf i).toNat)
 case atStart => exact ⟨0, by omega, rfl, rfl, rfl, fun j hj => by omega, Below.refl _ _⟩
 case round =>
   obtain ⟨c, hc, rfl, rfl, rfl, hall, HB⟩ := hrel
   have HA : Hid (∀ j, j < c → mtA L q j = false) := hall
   clear hall
   by_cases hcn : c < n
   · obtain ⟨A, off, rfl, hA, q0, hsp⟩ := HS.out.step HB c hcn
     have hcI : (c : Int) < n := by omega
     have hcc : (c : Int) ≤ cap := by omega
     have hc0 : (0 : Int) ≤ c := by omega
     have hB1 := (Below.refl wr.heap.size wr).alloc (Nat.le_refl _) (.cells #[.slice (S c).1 (L c) (S c).2] 57)
     have B1 := Blk.new wr [.slice (S c).1 (L c) (S c).2] 57 rfl
     have HBo := HB.trans (hB1.mono HB.size)
     clear HB hsp hA
     go_wp2_with fail
     clear q0 hB1
     generalize wr.alloc (.cells #[.slice (S c).1 (L c) (S c).2] 57) = W4 at *
     generalize wr.heap.size = gr at *
     go_loopw [4, 5, 21] (fun a b i wr => ∃ d : Nat, d ≤ c ∧ i = .int .i64 d ∧ a = .int .i64 0 ∧ b = .int .i64 0 ∧ (∀ k, k < d → rmB (L c) (q c) (L k) (q k) = false) ∧ Below W4.heap.size W4 wr) (fun _ _ i _ => c - (intOf i).toNat)
     case atStart => exact ⟨0, by omega, rfl, rfl, rfl, fun j hj => by omega, Below.refl _ _⟩
     case round =>
       rename_i hrel
       obtain ⟨d, hd, rfl, rfl, rfl, hall, HB⟩ := hrel
       have HE : Hid (∀ k, k < d → rmB (L c) (q c) (L k) (q k) = false) := hall
       clear hall
       have HB2 := HBo.trans (HB.mono HBo.size)
       by_cases hdn : d < c
       · have hdI : (d : Int) < c := by omega
         obtain ⟨A', off', hao, hA, q0, hsp⟩ := HS.out.step HB2 d (by omega)
         obtain ⟨rfl, rfl⟩ : A = A' ∧ off = off' := by simpa using hao
         have hsc : SpIn wr (S c).1 (L c) (q c) := by
           obtain ⟨_, _, _, _, _, h⟩ := HS.out.step HB2 c hcn
           exact h
         have hB3 := (Below.refl wr.heap.size wr).alloc (Nat.le_refl _) (.cells #[.slice (S d).1 (L d) (S d).2] 57)
         have B2 := (B1.step HB).step hB3
         have b1 := B2.c 0 rfl
         have b3 := (Blk.new wr [.slice (S d).1 (L d) (S d).2] 57 rfl).c 0 rfl
         replace hsc := hsc.step hB3
         replace hsp := hsp.step hB3
         have r1 := HR.out c hcn
         have r2 := HR.out d (by omega)
         have MM := fun w h k => meets_any (S c).1 (S d).1 (L c) (S c).2 (L d) (S d).2 (q c) (q d) r1.h3 r1.h12 r1.ok r1.one r2.h3 r2.h12 r2.ok r2.one w h k
         have HBN := HB.trans (hB3.mono HB.size)
         clear hA hao r1 r2 HB2 HB hB3 B2
         go_upto_region 8 with fail
         clear q0
         generalize wr.alloc (.cells #[.slice (S d).1 (L d) (S d).2] 57) = W5 at *
         generalize wr.heap.size = gd at *
         go_wp2_with fail
         refine (MM _ hsc hsp).mono ?_
         rintro e w1 ⟨rfl, hB⟩
         replace HBN := HBN.trans (hB.mono HBN.size)
         clear hB hsc hsp MM b1 b3
         cases hk : rmB (L c) (q c) (L d) (q d)
         · have HK : Hid (rmB (L c) (q c) (L d) (q d) = false) := hk
           clear hk
           go_wp2
           go_roundw
           case rel => exact ⟨d + 1, by omega, by go_num, rfl, rfl, fun k hk => by
             rcases Nat.lt_or_ge k d with h | h
             · exact HE.out k h
             · obtain rfl : k = d := by omega
               exact HK.out, HBN⟩
           case measure => simp [intOf]; omega
         · have HO : Hid (mfV n L q = (3, (c : Int))) := by
             show _ = _
             unfold mfV
             rw [firstP_some hcn (mtA_true hdn hk) HA.out]
           have HBF := HBo.trans (HBN.mono HBo.size)
           clear hk HBN HBo
           go_wp2
           go_ret2
           exact ⟨by rw [HO.out]; rfl, HBF⟩
       · obtain rfl : d = c := by omega
         have HBN := HBo.trans (HB.mono HBo.size)
         have HM : Hid (mtA L q d = false) := mtA_false HE.out
         clear HBo HB B1 HB2
         go_wp2
         go_roundw
         case rel => exact ⟨d + 1, by omega, by go_num, rfl, rfl, fun j hj => by
           rcases Nat.lt_or_ge j d with h | h
           · exact HA.out j h
           · obtain rfl : j = d := by omega
             exact HM.out, HBN⟩
         case measure => simp [intOf]; omega
   · obtain rfl : c = n := by omega
     have HO : Hid (mfV c L q = (0, 0)) := by
       show _ = _
       unfold mfV
       rw [firstP_none HA.out]
     clear HS HR
     go_wp2
     go_ret2
     exact ⟨by rw [HO.out]; rfl, HB⟩
set_option maxRecDepth 100000 in
set_option maxHeartbeats 8000000 in
theorem implLayerFault_any (ao : Option Addr) (n cap : Nat) (S : Nat → Option Addr × Nat) (L : Nat → Nat) (q : Nat → Ps) (hn : n ≤ 1048576) (hcap : n ≤ cap) (hcap2 : cap ≤ 9223372036854775807) (hL : ∀ i, i < n → L i ≤ 1048576) (hC : ∀ i, i < n → L i ≤ (S i).2 ∧ (S i).2 ≤ 9223372036854775807) (w : World) (hS : RgIn w ao n S L q) : Calls Tryz.prog 18 #[.slice ao n cap] w (TwoL (lyF n L q) w) := by
 have hnI : (n : Int) ≤ 1048576 := by omega
 by_cases h6 : 6 < n
 · have HO : Hid (lyF n L q = (1, 0)) := by show _ = _; unfold lyF; rw [if_pos h6]
   have h6I : (6 : Int) < n := by omega
   clear hS hL hC
   go_enter Tryz.func18, Tryz.ntmps18
   go_wp2
   go_ret2
   exact ⟨by rw [HO.out]; rfl, Below.refl _ _⟩
 have h6I : (n : Int) ≤ 6 := by omega
 have CS := fun w h => countSpots_any ao n cap S L q (by omega) hL w h
 have HS : Hid (RgIn w ao n S L q) := hS
 have HL : Hid (∀ i, i < n → L i ≤ 1048576) := hL
 have HC : Hid (∀ i, i < n → L i ≤ (S i).2 ∧ (S i).2 ≤ 9223372036854775807) := hC
 have hz := sumR_le hL n (Nat.le_refl _)
 have hzI : ((sumR L n : Nat) : Int) ≤ 6291456 := by omega
 clear hS hL hC hz
 go_enter Tryz.func18, Tryz.ntmps18
 go_wp2_with fail
 refine (CS _ HS.out).mono ?_
 rintro e w1 ⟨rfl, hB⟩
 have HB1 := hB
 clear hB CS
 by_cases h20 : 20 < sumR L n
 · have HO : Hid (lyF n L q = (2, 0)) := by show _ = _; unfold lyF; rw [if_neg h6, if_pos h20]
   have h20I : (20 : Int) < (sumR L n : Nat) := by omega
   clear HS HL HC
   go_wp2
   go_ret2
   exact ⟨by rw [HO.out]; rfl, HB1⟩
 have h20I : ((sumR L n : Nat) : Int) ≤ 20 := by omega
 go_wp2_with fail
 go_loopw [15] (fun i wr => ∃ c : Nat, c ≤ n ∧ i = .int .i64 c ∧ (∀ j, j < c → rgF (L j) (q j) = 0) ∧ Below w.heap.size w wr) (fun i _ => n - (intOf i).toNat)
 case atStart => exact ⟨0, by omega, rfl, fun j hj => by omega, HB1⟩
 case round =>
   clear HB1
   obtain ⟨c, hc, rfl, hall, HB⟩ := hrel
   have HA : Hid (∀ j, j < c → rgF (L j) (q j) = 0) := hall
   clear hall
   by_cases hcn : c < n
   · obtain ⟨A, off, rfl, hA, q0, hsp⟩ := HS.out.step HB c hcn
     have hcI : (c : Int) < n := by omega
     have hB1 := (Below.refl wr.heap.size wr).alloc (Nat.le_refl _) (.cells #[.slice (S c).1 (L c) (S c).2] 57)
     replace hsp := hsp.step hB1
     have HBN := HB.trans (hB1.mono HB.size)
     have RF := fun w h => implRingFault_any (S c).1 (L c) (S c).2 (q c) (HL.out c hcn) (HC.out c hcn).1 (HC.out c hcn).2 w h
     have hin := rgF_in (L c) (q c)
     have hrz : Hid (rgF (L c) (q c) = 0 ∨ rgF (L c) (q c) ≠ 0) := Decidable.em _
     have HFs : Hid (rgF (L c) (q c) ≠ 0 → lyF n L q = (10 + rgF (L c) (q c), (c : Int))) := fun hk => by
       unfold lyF
       rw [if_neg h6, if_neg h20, firstP_some (P := fun i => decide (rgF (L i) (q i) ≠ 0)) hcn (decide_eq_true hk) (fun j hj => decide_eq_false (fun h => h (HA.out j hj)))]
     have HFz : Hid (rgF (L c) (q c) = 0 → ∀ j, j < c + 1 → rgF (L j) (q j) = 0) := fun hk j hj => by
       rcases Nat.lt_or_ge j c with h | h
       · exact HA.out j h
       · obtain rfl : j = c := by omega
         exact hk
     clear hA HB hB1
     go_wp2_with fail
     generalize wr.alloc (.cells #[.slice (S c).1 (L c) (S c).2] 57) = W4 at *
     refine (RF _ hsp).mono ?_
     rintro e w2 ⟨rfl, hB⟩
     replace HBN := HBN.trans (hB.mono HBN.size)
     clear hB RF hsp q0
     generalize rgF (L c) (q c) = z at *
     by_cases hz : z = 0
     · subst hz
       go_wp2
       go_roundw
       case rel => exact ⟨c + 1, by omega, by go_num, HFz.out (by trivial), HBN⟩
       case measure => simp [intOf]; omega
     · have hz2 : (z != 0) = true := by simp [hz]
       have HO : Hid (lyF n L q = (10 + z, (c : Int))) := HFs.out hz
       have hw : IntKind.i64.wrap (10 + z) = 10 + z := by rw [IntKind.wrap_i64]; omega
       clear HFs HFz hrz hin
       go_wp2
       go_ret2
       exact ⟨by rw [HO.out]; rfl, HBN⟩
   · obtain rfl : c = n := by omega
     have MF := fun w h => meetingFault_any ao c cap S L q (by omega) hcap hcap2 (fun i hi => rgF_ok (HA.out i hi)) w h
     have HO : Hid (lyF c L q = mfV c L q) := by
       show _ = _
       unfold lyF
       rw [if_neg h6, if_neg h20, firstP_none (P := fun i => decide (rgF (L i) (q i) ≠ 0)) (fun j hj => decide_eq_false (fun h => h (HA.out j hj)))]
     unfold TwoL at MF
     generalize mfV c L q = o at *
     go_wp2_with fail
     refine (MF _ (HS.out.step HB)).mono ?_
     rintro e w2 ⟨rfl, hB⟩
     replace HB := HB.trans (hB.mono HB.size)
     clear hB MF HS HL HC HA
     go_wp2
     go_ret2
     exact ⟨by rw [HO.out]; rfl, HB⟩
set_option maxRecDepth 100000 in
set_option maxHeartbeats 8000000 in
theorem specLayerFault_any (ao : Option Addr) (n cap : Nat) (S : Nat → Option Addr × Nat) (L : Nat → Nat) (q : Nat → Ps) (hn : n ≤ 1048576) (hL : ∀ i, i < n → L i ≤ 1048576) (w : World) (hS : RgIn w ao n S L q) : Calls Tryz.prog 63 #[.slice ao n cap] w (TwoL (lyF n L q) w) := by
 have hnI : (n : Int) ≤ 1048576 := by omega
 by_cases h6 : 6 < n
 · have HO : Hid (lyF n L q = (1, 0)) := by show _ = _; unfold lyF; rw [if_pos h6]
   have h6I : (6 : Int) < n := by omega
   clear hS hL
   go_enter Tryz.func63, Tryz.ntmps63
   go_wp2
   go_ret2
   exact ⟨by rw [HO.out]; rfl, Below.refl _ _⟩
 have h6I : (n : Int) ≤ 6 := by omega
 have HS : Hid (RgIn w ao n S L q) := hS
 have HL : Hid (∀ i, i < n → L i ≤ 1048576) := hL
 have hz := sumR_le hL n (Nat.le_refl _)
 have hzI : ((sumR L n : Nat) : Int) ≤ 6291456 := by omega
 clear hS hL hz
 go_enter Tryz.func63, Tryz.ntmps63
 go_wp2_with fail
 go_loopw [4, 5] (fun s i wr => ∃ c : Nat, c ≤ n ∧ i = .int .i64 c ∧ s = .int .i64 (sumR L c : Nat) ∧ Below w.heap.size w wr) (fun _ i _ => n - (intOf i).toNat)
 case atStart => exact ⟨0, by omega, rfl, rfl, Below.refl _ _⟩
 case round =>
   obtain ⟨c, hc, rfl, rfl, HBa⟩ := hrel
   by_cases hcn : c < n
   · obtain ⟨A, off, rfl, hA, q0, -⟩ := HS.out.step HBa c hcn
     have hcI : (c : Int) < n := by omega
     have s1 := sumR_le HL.out c hc
     have s2 := HL.out c hcn
     have hw : IntKind.i64.wrap (((sumR L c : Nat) : Int) + (L c : Int)) = ((sumR L (c + 1) : Nat) : Int) := by rw [IntKind.wrap_i64, sumR]; omega
     clear s1 s2
     go_wp2
     go_roundw
     case rel => exact ⟨c + 1, by omega, by go_num, by trivial, HBa⟩
     case measure => simp [intOf]; omega
   · obtain rfl : c = n := by omega
     by_cases h20 : 20 < sumR L c
     · have HO : Hid (lyF c L q = (2, 0)) := by show _ = _; unfold lyF; rw [if_neg h6, if_pos h20]
       have h20I : (20 : Int) < (sumR L c : Nat) := by omega
       clear HS HL
       go_wp2
       go_ret2
       exact ⟨by rw [HO.out]; rfl, HBa⟩
     have h20I : ((sumR L c : Nat) : Int) ≤ 20 := by omega
     go_wp2_with fail
     generalize hcm : c = m at *
     clear hcm
     have HSa : Hid (RgIn wr ao m S L q) := HS.out.step HBa
     clear HS
     generalize wr = W2 at *
     go_loopw [6] (fun i wx => ∃ c : Nat, c ≤ m ∧ i = .int .i64 c ∧ (∀ j, j < c → rgF (L j) (q j) = 0) ∧ Below W2.heap.size W2 wx) (fun i _ => m - (intOf i).toNat)
     case atStart => exact ⟨0, by omega, rfl, fun j hj => by omega, Below.refl _ _⟩
     case round =>
       rename_i hrel
       obtain ⟨c, hc, rfl, hall, HB⟩ := hrel
       have HA : Hid (∀ j, j < c → rgF (L j) (q j) = 0) := hall
       clear hall
       by_cases hcn : c < m
       · obtain ⟨A, off, rfl, hA, q0, hsp⟩ := HSa.out.step HB c hcn
         have hcI : (c : Int) < m := by omega
         have RF := fun w h => specRingFault_any (S c).1 (L c) (S c).2 (q c) (HL.out c hcn) w h
         have hin := rgF_in (L c) (q c)
         have HFs : Hid (rgF (L c) (q c) ≠ 0 → lyF m L q = (10 + rgF (L c) (q c), (c : Int))) := fun hk => by
           unfold lyF
           rw [if_neg h6, if_neg h20, firstP_some (P := fun i => decide (rgF (L i) (q i) ≠ 0)) hcn (decide_eq_true hk) (fun j hj => decide_eq_false (fun h => h (HA.out j hj)))]
         have HFz : Hid (rgF (L c) (q c) = 0 → ∀ j, j < c + 1 → rgF (L j) (q j) = 0) := fun hk j hj => by
           rcases Nat.lt_or_ge j c with h | h
           · exact HA.out j h
           · obtain rfl : j = c := by omega
             exact hk
         clear hA
         go_wp2_with fail
         refine (RF _ hsp).mono ?_
         rintro e w2 ⟨rfl, hB⟩
         replace HB := HB.trans (hB.mono HB.size)
         clear hB RF hsp q0
         generalize rgF (L c) (q c) = z at *
         by_cases hz : z = 0
         · subst hz
           go_wp2
           go_roundw
           case rel => exact ⟨c + 1, by omega, by go_num, HFz.out (by trivial), HB⟩
           case measure => simp [intOf]; omega
         · have hz2 : (z != 0) = true := by simp [hz]
           have HO : Hid (lyF m L q = (10 + z, (c : Int))) := HFs.out hz
           have hw : IntKind.i64.wrap (10 + z) = 10 + z := by rw [IntKind.wrap_i64]; omega
           clear HFs HFz hin
           go_wp2
           go_ret2
           exact ⟨by rw [HO.out]; rfl, HBa.trans (HB.mono HBa.size)⟩
       · obtain rfl : m = c := by omega
         have HR : Hid (∀ i, i < m → RgOk (L i) (q i)) := fun i hi => rgF_ok (HA.out i hi)
         have HO1 : Hid (lyF m L q = mfV m L q) := by
           show _ = _
           unfold lyF
           rw [if_neg h6, if_neg h20, firstP_none (P := fun i => decide (rgF (L i) (q i) ≠ 0)) (fun j hj => decide_eq_false (fun h => h (HA.out j hj)))]
         have HS2 : Hid (RgIn wr ao m S L q) := HSa.out.step HB
         have HBf := HBa.trans (HB.mono HBa.size)
         clear HA HB HSa
         go_wp2_with fail
         generalize wr = W3 at *
         go_loopw [8] (fun i wx => ∃ c : Nat, c ≤ m ∧ i = .int .i64 c ∧ (∀ j, j < c → mtA L q j = false) ∧ Below W3.heap.size W3 wx) (fun i _ => m - (intOf i).toNat)
         case atStart => exact ⟨0, by omega, rfl, fun j hj => by omega, Below.refl _ _⟩
         case round =>
           rename_i hrel
           obtain ⟨c, hc, rfl, hall, HB⟩ := hrel
           have HA : Hid (∀ j, j < c → mtA L q j = false) := hall
           clear hall
           by_cases hcn : c < m
           · have hcI : (c : Int) < m := by omega
             have HBo := HB
             clear HB
             go_wp2_with fail
             generalize wr = W4 at *
             go_loopw [9] (fun i wx => ∃ d : Nat, d ≤ c ∧ i = .int .i64 d ∧ (∀ k, k < d → rmB (L c) (q c) (L k) (q k) = false) ∧ Below W4.heap.size W4 wx) (fun i _ => c - (intOf i).toNat)
             case atStart => exact ⟨0, by omega, rfl, fun j hj => by omega, Below.refl _ _⟩
             case round =>
               rename_i hrel
               obtain ⟨d, hd, rfl, hall, HB⟩ := hrel
               have HE : Hid (∀ k, k < d → rmB (L c) (q c) (L k) (q k) = false) := hall
               clear hall
               have HB2 := HBo.trans (HB.mono HBo.size)
               by_cases hdn : d < c
               · have hdI : (d : Int) < c := by omega
                 obtain ⟨A, off, rfl, hA, q0, hsc⟩ := HS2.out.step HB2 c hcn
                 obtain ⟨A', off', hao, -, q1, hsp⟩ := HS2.out.step HB2 d (by omega)
                 obtain ⟨rfl, rfl⟩ : A = A' ∧ off = off' := by simpa using hao
                 have hdm : (d : Int) < m := by omega
                 have MM := fun w h k => l5Meet_any (S c).1 (S d).1 (L c) (S c).2 (L d) (S d).2 (q c) (q d) (HR.out c hcn) (HR.out d (by omega)) w h k
                 have H0 := Below.refl wr.heap.size wr
                 have HK : ∀ V, Below wr.heap.size wr V → (fun w' : World => w'.cell? ⟨A, off + c, none⟩ = some (.slice (S c).1 (L c) (S c).2) ∧ w'.cell? ⟨A, off + d, none⟩ = some (.slice (S d).1 (L d) (S d).2)) V := fun V h => ⟨(h.cell (p := ⟨A, _, none⟩) hA).trans q0, (h.cell (p := ⟨A, _, none⟩) hA).trans q1⟩
                 clear hao
                 go_upto_region 22 with fail
                 go_cut [64] (fun z wx => z = .bool (rmB (L c) (q c) (L d) (q d)) ∧ Below wr.heap.size wr wx)
                 case first =>
                   clear HE HA HR HS2 HL
                   go_region_held3 (fun w' : World => w'.cell? ⟨A, off + c, none⟩ = some (.slice (S c).1 (L c) (S c).2) ∧ w'.cell? ⟨A, off + d, none⟩ = some (.slice (S d).1 (L d) (S d).2)) (refine HK _ ?_ <;> repeat (first | (with_reducible exact H0) | (with_reducible refine Below.drew ?_)))
                     (first
                       | (go_at_call 117; refine (MM _ (by with_reducible first | exact hsc | exact hsc.drew) (by with_reducible first | exact hsp | exact hsp.drew)).mono ?_; rintro e w3 ⟨rfl, hB⟩; (first | (have Hn : Below wr.heap.size wr w3 := (by with_reducible exact H0.trans (hB.mono H0.size))) | (have Hn : Below wr.heap.size wr w3 := (by with_reducible exact H0.drew.trans (hB.mono H0.drew.size)))); clear hB H0; have H0 := Hn; clear Hn))
                   all_goals go_wp2_with fail
                   all_goals go_meet
                   all_goals exact ⟨rfl, by first | (with_reducible exact H0) | (with_reducible exact H0.drew)⟩
                 case rest =>
                   obtain ⟨hq, hB⟩ := hcut
                   subst hq
                   have HBN := HB.trans (hB.mono HB.size)
                   clear hB HB HB2 H0 HK MM hsc hsp q0 q1 hA
                   cases hk : rmB (L c) (q c) (L d) (q d)
                   · have HK : Hid (rmB (L c) (q c) (L d) (q d) = false) := hk
                     clear hk
                     go_wp2
                     go_roundw
                     case rel => exact ⟨d + 1, by omega, by go_num, fun k hk => by
                       rcases Nat.lt_or_ge k d with h | h
                       · exact HE.out k h
                       · obtain rfl : k = d := by omega
                         exact HK.out, HBN⟩
                     case measure => simp [intOf]; omega
                   · have HO : Hid (lyF m L q = (3, (c : Int))) := by
                       show _ = _
                       rw [HO1.out]
                       unfold mfV
                       rw [firstP_some hcn (mtA_true hdn hk) HA.out]
                     have HBF := HBf.trans ((HBo.trans (HBN.mono HBo.size)).mono HBf.size)
                     clear hk HBN HBo HBf
                     go_wp2
                     go_ret2
                     exact ⟨by rw [HO.out]; rfl, HBF⟩
               · obtain rfl : d = c := by omega
                 have HBN := HBo.trans (HB.mono HBo.size)
                 have HM : Hid (mtA L q d = false) := mtA_false HE.out
                 clear HBo HB HB2
                 go_wp2
                 go_roundw
                 case rel => exact ⟨d + 1, by omega, by go_num, fun j hj => by
                   rcases Nat.lt_or_ge j d with h | h
                   · exact HA.out j h
                   · obtain rfl : j = d := by omega
                     exact HM.out, HBN⟩
                 case measure => simp [intOf]; omega
           · obtain rfl : m = c := by omega
             have HO : Hid (lyF m L q = (0, 0)) := by
               show _ = _
               rw [HO1.out]
               unfold mfV
               rw [firstP_none HA.out]
             have HBF := HBf.trans (HB.mono HBf.size)
             clear HS2 HR HL
             go_wp2
             go_ret2
             exact ⟨by rw [HO.out]; rfl, HBF⟩
def lyB (n : Nat) (L : Nat → Nat) (q : Nat → Ps) : Bool := decide ((lyF n L q).1 = 0)
set_option maxRecDepth 100000 in
set_option maxHeartbeats 4000000 in
theorem l6Ok_any (ao : Option Addr) (n cap : Nat) (S : Nat → Option Addr × Nat) (L : Nat → Nat) (q : Nat → Ps) (hn : n ≤ 1048576) (hL : ∀ i, i < n → L i ≤ 1048576) (w : World) (hS : RgIn w ao n S L q) : Calls Tryz.prog 28 #[.slice ao n cap] w (VP (.bool (lyB n L q)) w) := by
 have C := specLayerFault_any ao n cap S L q hn hL w hS
 unfold lyB
 unfold TwoL at C
 revert C
 generalize lyF n L q = o
 obtain ⟨o1, o2⟩ := o
 intro C
 clear hS hL
 go_enter Tryz.func28, Tryz.ntmps28
 go_wp2_with fail
 refine C.mono ?_
 rintro e w1 ⟨rfl, hB⟩
 by_cases h : o1 = 0
 · subst h
   go_wp2
   go_ret
   exact ⟨rfl, hB⟩
 · have hf : (o1 == 0) = false := by simp; omega
   have HD : Hid (decide (o1 = 0) = false) := decide_eq_false h
   go_wp2
   go_ret
   exact ⟨by simp only [HD.out]; rfl, hB⟩
set_option maxRecDepth 100000 in
set_option maxHeartbeats 4000000 in
theorem isLayer_any (ao : Option Addr) (n cap : Nat) (S : Nat → Option Addr × Nat) (L : Nat → Nat) (q : Nat → Ps) (hn : n ≤ 1048576) (hcap : n ≤ cap) (hcap2 : cap ≤ 9223372036854775807) (hL : ∀ i, i < n → L i ≤ 1048576) (hC : ∀ i, i < n → L i ≤ (S i).2 ∧ (S i).2 ≤ 9223372036854775807) (w : World) (hS : RgIn w ao n S L q) : Calls Tryz.prog 32 #[.slice ao n cap] w (VP (.bool (lyB n L q)) w) := by
 have C := implLayerFault_any ao n cap S L q hn hcap hcap2 hL hC w hS
 unfold lyB
 unfold TwoL at C
 revert C
 generalize lyF n L q = o
 obtain ⟨o1, o2⟩ := o
 intro C
 clear hS hL hC
 go_enter Tryz.func32, Tryz.ntmps32
 go_wp2_with fail
 refine C.mono ?_
 rintro e w1 ⟨rfl, hB⟩
 by_cases h : o1 = 0
 · subst h
   go_wp2
   go_ret
   exact ⟨rfl, hB⟩
 · have hf : (o1 == 0) = false := by simp; omega
   have HD : Hid (decide (o1 = 0) = false) := decide_eq_false h
   go_wp2
   go_ret
   exact ⟨by simp only [HD.out]; rfl, hB⟩
theorem lyB_ok {n : Nat} {L : Nat → Nat} {q : Nat → Ps} (h : lyB n L q = true) : n ≤ 6 ∧ ∀ i, i < n → RgOk (L i) (q i) := by
 have h0 : (lyF n L q).1 = 0 := of_decide_eq_true h
 unfold lyF at h0
 split at h0
 · cases h0
 · split at h0
   · cases h0
   · refine ⟨by omega, fun i hi => ?_⟩
     cases hf : firstP (fun i => decide (rgF (L i) (q i) ≠ 0)) n with
     | some j =>
       rw [hf] at h0
       have := rgF_in (L j) (q j)
       simp only at h0
       omega
     | none =>
       unfold firstP at hf
       rw [List.find?_eq_none] at hf
       have := hf i (by simpa using hi)
       simp only [decide_eq_true_eq, Decidable.not_not] at this
       exact rgF_ok this
open Go.RowKit Go.Shelf
attribute [local go_sem] Oper.semAt_some
abbrev Pr (n : Nat) : Type := { y : Nat × Nat // y.1 < y.2 ∧ y.2 < n }
def prOf (n i : Nat) (j : Fin n) : List (Pr n) := if h : i < j.1 then [⟨(i, j.1), h, j.2⟩] else []
def rowP (n i c : Nat) : List (Pr n) := (upTo n c).flatMap (prOf n i)
def prI (n i : Nat) : List (Pr n) := (upTo n i).flatMap fun a => rowP n a.1 n
theorem rowP_on {n i c : Nat} (h : c < n) (hi : i < c) : rowP n i (c + 1) = rowP n i c ++ [⟨(i, c), hi, h⟩] := by
 unfold rowP
 rw [upTo_succ h, List.flatMap_append]
 simp [prOf, hi]
theorem rowP_off {n i c : Nat} (h : c ≤ i + 1) : rowP n i c = [] := by
 unfold rowP
 rw [List.flatMap_eq_nil_iff]
 intro x hx
 unfold prOf
 rw [dif_neg (by have := mem_upTo.1 hx; omega)]
theorem prI_succ {n i : Nat} (h : i < n) : prI n (i + 1) = prI n i ++ rowP n i n := by
 unfold prI
 rw [upTo_succ h, List.flatMap_append]
 simp
theorem rowP_len (n i : Nat) : ∀ c, c ≤ n → (rowP n i c).length ≤ c
 | 0, _ => by rw [rowP_off (by omega)]; simp
 | c + 1, h => by
   have ih := rowP_len n i c (by omega)
   by_cases hi : i < c
   · rw [rowP_on (by omega) hi, List.length_append]; simp; omega
   · rw [rowP_off (by omega)]; simp
theorem prI_len {n : Nat} (hn : n ≤ 40) : ∀ i, i ≤ n → (prI n i).length ≤ i * 40
 | 0, _ => by simp [prI, upTo]
 | i + 1, h => by
   have ih := prI_len hn i (by omega)
   have := rowP_len n i n (Nat.le_refl _)
   rw [prI_succ (by omega), List.length_append]
   omega
theorem prI_pre {n i c : Nat} (hi : i < n) (hc : c ≤ n) : prI n i ++ rowP n i c <+: prI n n := by
 have h1 : ∀ d, c ≤ d → d ≤ n → rowP n i c <+: rowP n i d := by
   intro d hd hn
   induction d with
   | zero => obtain rfl : c = 0 := by omega
             exact List.prefix_refl _
   | succ d ih =>
     by_cases e : c = d + 1
     · subst e; exact List.prefix_refl _
     · have := ih (by omega) (by omega)
       by_cases hid : i < d
       · rw [rowP_on (by omega) hid]; exact this.trans (List.prefix_append _ _)
       · rw [rowP_off (c := d + 1) (by omega)]
         rw [rowP_off (c := d) (by omega)] at this
         exact this
 have h2 : ∀ d, i + 1 ≤ d → d ≤ n → prI n (i + 1) <+: prI n d := by
   intro d hd hn
   induction d with
   | zero => omega
   | succ d ih =>
     by_cases e : i = d
     · subst e; exact List.prefix_refl _
     · rw [prI_succ (i := d) (by omega)]
       exact (ih (by omega) (by omega)).trans (List.prefix_append _ _)
 refine List.IsPrefix.trans ?_ (h2 n (by omega) (Nat.le_refl _))
 rw [prI_succ hi]
 obtain ⟨t, ht⟩ := h1 n hc (Nat.le_refl _)
 exact ⟨t, by rw [List.append_assoc, ht]⟩
def enP (n : Nat) (y : Pr n) : Array Value := #[.agg #[.int .i64 (y.1.1 : Int), .int .i64 (y.1.2 : Int)]]
set_option maxRecDepth 100000 in
set_option maxHeartbeats 4000000 in
theorem pairs1_in (m n₁ l Bn : Nat) (ao : Option Addr) (n cap : Nat) (hn : n ≤ 40) (J Jx : List (Pr n) → World → Prop)
   (hY : ∀ pre x W, J pre W → pre.length < 1640 → YieldAt Fence.wide (m - 1) Tryz.prog l (enP n x) W fun e W' => (e = .returned (.bool true) ∧ J (pre ++ [x]) W' ∧ KpB n₁ Bn W W') ∨ (e = .returned (.bool false) ∧ Jx (pre ++ [x]) W'))
   (W : World) (hBn : W.cell? ⟨Bn, 0, none⟩ = some (.slice ao n cap)) (h0 : J [] W) :
   CallsIn Fence.wide m Tryz.prog 85 #[.func (.yield l) #[] #[], .pointer (some ⟨Bn, 0, none⟩)] W fun e W' => (∃ v, e = .returned v) ∧ ((∃ ys, ys = prI n n ∧ J ys W') ∨ (∃ pre, pre <+: prI n n ∧ Jx pre W')) := by
 refine callsIn_of_wp Tryz.func85 rfl trivial ?_ rfl
 simp only [Tryz.ntmps85, List.size_toArray, List.length_cons, List.length_nil, Nat.reduceAdd, Nat.reduceSub, Array.replicate_succ, Array.replicate_zero, List.push_toArray, List.append_toArray, List.nil_append, List.cons_append]
 have hnI : (n : Int) ≤ 40 := by omega
 gi_wp2
 gi_loopw [7] (fun i wr => ∃ c : Nat, c ≤ n ∧ i = .int .i64 c ∧ J (prI n c) wr ∧ KpB n₁ Bn W wr) (fun i _ => n - (intOf i).toNat)
 case atStart => exact ⟨0, by omega, rfl, by simpa [prI, upTo] using h0, ⟨Nat.le_refl _, fun _ _ => rfl, rfl⟩⟩
 case round =>
   obtain ⟨c, hc, rfl, hj, hk⟩ := hrel
   by_cases hcn : c < n
   · have hcI : (c : Int) < n := by omega
     gi_wp2
     gi_loopw [4] (fun i wx => ∃ d : Nat, c + 1 ≤ d ∧ d ≤ n ∧ i = .int .i64 d ∧ J (prI n c ++ rowP n c d) wx ∧ KpB n₁ Bn W wx) (fun i _ => n - (intOf i).toNat)
     case atStart => exact ⟨c + 1, by omega, by omega, by go_num, by rw [rowP_off (by omega), List.append_nil]; exact hj, hk⟩
     case round =>
       clear hj hk
       obtain ⟨d, hcd, hd, rfl, hj, hk⟩ := hrel
       have hbox := (World.cell?_of_block (a := ⟨Bn, 0, none⟩) hk.box).trans hBn
       by_cases hdn : d < n
       · have hdI : (d : Int) < n := by omega
         have hl1 := prI_len hn c hc
         have hl2 := rowP_len n c d hd
         obtain ⟨fn, tmps, assign, body, hy, hR⟩ := hY (prI n c ++ rowP n c d) ⟨(c, d), hcd, hdn⟩ _ hj (by rw [List.length_append]; omega)
         unfold enP at hy
         dsimp only at hy
         gi_wp2
         refine ⟨fun h => absurd h (by simp [Fence.wide]), hR.mono ?_⟩
         rintro e W3 (⟨rfl, hJ3, hk3⟩ | ⟨rfl, hJx3⟩)
         · gi_wp2
           go_roundw
           case rel => exact ⟨d + 1, by omega, by omega, by go_num, by rw [rowP_on hdn hcd, ← List.append_assoc]; exact hJ3, hk.trans hk3⟩
           case measure => simp [intOf]; omega
         · gi_wp2
           refine bodyPost_ret (results_none rfl _ _ _) rfl ?_
           exact ⟨⟨_, rfl⟩, .inr ⟨_, by rw [List.append_assoc, ← rowP_on hdn hcd]; exact prI_pre hcn (by omega), hJx3⟩⟩
       · obtain rfl : d = n := by omega
         gi_wp2
         go_roundw
         case rel => exact ⟨c + 1, by omega, by go_num, by rw [prI_succ hcn]; exact hj, hk⟩
         case measure => simp [intOf]; omega
   · obtain rfl : c = n := by omega
     gi_wp2
     go_end0
     exact ⟨⟨_, rfl⟩, .inl ⟨_, rfl, hj⟩⟩
theorem pairs_stops (m n₁ Bn : Nat) (ao : Option Addr) (n cap : Nat) (hn : n ≤ 40) (w : World) (hBl : Bn < w.heap.size) (hBn : w.cell? ⟨Bn, 0, none⟩ = some (.slice ao n cap)) :
   SeqStopsK Fence.wide m Tryz.prog 85 #[.pointer (some ⟨Bn, 0, none⟩)] (enP n) (KpB n₁ Bn) (fun ys => ys = prI n n) (fun pre => pre <+: prI n n) 1640 w := fun l J Jx W hW _ _ hY h0 =>
 pairs1_in m n₁ l Bn ao n cap hn J Jx hY W ((hW.cell (p := ⟨Bn, 0, none⟩) hBl).trans hBn) h0
theorem pairs_any (ao : Option Addr) (n cap : Nat) (w : World) : Calls Tryz.prog 47 #[.slice ao n cap] w (fun e w' => e = .returned (.func (.func 85) #[] #[.pointer (some ⟨w.heap.size, 0, none⟩)]) ∧ w' = w.alloc (.cells #[.slice ao n cap] 24)) := by
 go_enter Tryz.func47, Tryz.ntmps47
 go_wp2
 go_ret
 exact ⟨rfl, rfl⟩
theorem sgI_zero {n : Nat} {x : Nat → Int} (h : sgI n x = 0) : n ≤ 40 ∧ ∀ i, i < n → segOk (x (i * 4)) (x (i * 4 + 1)) (x (i * 4 + 2)) (x (i * 4 + 3)) = true := by
 unfold sgI at h
 split at h
 · cases h
 · split at h
   · exact ⟨by omega, by assumption⟩
   · cases h
set_option maxRecDepth 100000 in
theorem l7Ok_any (ao : Option Addr) (n cap : Nat) (x : Nat → Int) (w : World) (hS : SegIn w ao n x) : Calls Tryz.prog 49 #[.slice ao n cap] w (BoolP (decide (sgI n x = 0)) w) := by
 have C := specSegsFault_any ao n cap x w hS
 revert C
 generalize sgI n x = o
 intro C
 clear hS
 go_enter Tryz.func49, Tryz.ntmps49
 go_wp2_with fail
 refine C.mono ?_
 rintro e w1 ⟨rfl, hB⟩
 by_cases h : o = 0
 · subst h
   go_wp2
   go_ret
   exact ⟨rfl, hB⟩
 · have hf : (o == 0) = false := by simp; omega
   have HD : Hid (decide (o = 0) = false) := decide_eq_false h
   go_wp2
   go_ret
   exact ⟨by rw [HD.out]; rfl, hB⟩
theorem in1_segS {a b c d : Int} (h : segOk a b c d = true) : In1 a ∧ In1 b ∧ In1 c ∧ In1 d := in1_seg h
theorem mul_zero_or {a b : Int} (h : a * b = 0) : a = 0 ∨ b = 0 := Int.mul_eq_zero.1 h
theorem line_same {e f g h x y : Int} (hp : e * h = f * g) (h1 : e ≠ 0 ∨ f ≠ 0) (hz : e * y - f * x = 0) : g * y - h * x = 0 := by
 rcases Int.lt_or_eq_of_le (Int.le_refl e) with _ | _
 · omega
 · by_cases he : e = 0
   · have hf : f ≠ 0 := h1.resolve_left (fun k => k he)
     have hg : g = 0 := by
       rw [he, Int.zero_mul] at hp
       exact (mul_zero_or hp.symm).resolve_left hf
     have hx : x = 0 := by
       rw [he, Int.zero_mul] at hz
       exact (mul_zero_or (by omega : f * x = 0)).resolve_left hf
     rw [hg, hx]
     simp
   · have k : e * (g * y - h * x) = 0 := by
       have e1 : e * (g * y - h * x) = g * (e * y) - (e * h) * x := by grind
       have e2 : e * y = f * x := by omega
       rw [e1, e2, hp]
       grind
     exact (mul_zero_or k).resolve_left he
theorem turn_par {a b c d p q u v : Int} (h0 : ((b - d) * (u - p) - (q - v) * (c - a)) = 0) (h1 : c - a ≠ 0 ∨ d - b ≠ 0) (ht : turnZ a b c d p q = 0) : turnZ p q u v a b = 0 := by
 unfold turnZ at *
 have hp : (c - a) * (v - q) = (d - b) * (u - p) := by grind
 have k := line_same hp h1 ht
 have e : (u - p) * (b - q) - (v - q) * (a - p) = -((u - p) * (q - b) - (v - q) * (p - a)) := by grind
 rw [e, k]
 rfl
theorem less_ne {a b c d : Int} (h : lessI a b c d = true) : c - a ≠ 0 ∨ d - b ≠ 0 := by
 rw [less_iff] at h
 omega
theorem gcd3_times (a b c g : Int) (hg : 0 < g) : (Int.gcd (Int.gcd (a * g) (b * g) : Int) (c * g) : Int) = (Int.gcd (Int.gcd a b : Int) c : Int) * g := by
 have en : (g.natAbs : Int) = g := by omega
 have e1 : (Int.gcd (a * g) (b * g) : Int) = Int.gcd a b * g := by rw [Int.gcd_mul_right, Int.natCast_mul, en]
 rw [e1, Int.gcd_mul_right, Int.natCast_mul, en]
def cX (a b c d p q u v : Int) : Int := (c - a) * (p * v - q * u) - (u - p) * (a * d - b * c)
def cY (a b c d p q u v : Int) : Int := (a * d - b * c) * (q - v) - (p * v - q * u) * (b - d)
def cW (a b c d p q u v : Int) : Int := (b - d) * (u - p) - (q - v) * (c - a)
def cG (a b c d p q u v : Int) : Int := (Int.gcd (Int.gcd (cX a b c d p q u v) (cY a b c d p q u v) : Int) (cW a b c d p q u v) : Int)
def cx (a b c d p q u v : Int) : Int := shareZ (cX a b c d p q u v) (cG a b c d p q u v) (decide (cW a b c d p q u v < 0))
def cy (a b c d p q u v : Int) : Int := shareZ (cY a b c d p q u v) (cG a b c d p q u v) (decide (cW a b c d p q u v < 0))
def cz (a b c d p q u v : Int) : Int := shareZ (cW a b c d p q u v) (cG a b c d p q u v) (decide (cW a b c d p q u v < 0))
theorem c_swap (a b c d p q u v : Int) : cX p q u v a b c d = -cX a b c d p q u v ∧ cY p q u v a b c d = -cY a b c d p q u v ∧ cW p q u v a b c d = -cW a b c d p q u v := by
 unfold cX cY cW
 refine ⟨by grind, by grind, by grind⟩
theorem share_neg {x g w : Int} (hw : w ≠ 0) : shareZ (-x) g (decide (-w < 0)) = shareZ x g (decide (w < 0)) := by
 unfold shareZ
 rw [Int.natAbs_neg]
 by_cases h0 : x = 0
 · subst h0
   simp
 · have e1 : decide (-x < 0) = !decide (x < 0) := by
     by_cases h : x < 0
     · rw [decide_eq_true h, decide_eq_false (by omega)]; rfl
     · rw [decide_eq_false h, decide_eq_true (by omega)]; rfl
   have e2 : decide (-w < 0) = !decide (w < 0) := by
     by_cases h : w < 0
     · rw [decide_eq_true h, decide_eq_false (by omega)]; rfl
     · rw [decide_eq_false h, decide_eq_true (by omega)]; rfl
   rw [e1, e2]
   cases decide (x < 0) <;> cases decide (w < 0) <;> rfl
theorem c_point_swap {a b c d p q u v : Int} (hw : cW a b c d p q u v ≠ 0) : cx p q u v a b c d = cx a b c d p q u v ∧ cy p q u v a b c d = cy a b c d p q u v ∧ cz p q u v a b c d = cz a b c d p q u v := by
 obtain ⟨e1, e2, e3⟩ := c_swap a b c d p q u v
 have eg : cG p q u v a b c d = cG a b c d p q u v := by
   unfold cG
   rw [e1, e2, e3, Int.gcd_neg, Int.neg_gcd, Int.gcd_neg]
 unfold cx cy cz
 rw [eg, e1, e2, e3]
 exact ⟨share_neg hw, share_neg hw, share_neg hw⟩
theorem c_parts {a b c d p q u v : Int} (hw : cW a b c d p q u v ≠ 0) : ∃ g s : Int, 0 < g ∧ (s = 1 ∨ s = -1) ∧ cx a b c d p q u v * g = s * cX a b c d p q u v ∧ cy a b c d p q u v * g = s * cY a b c d p q u v ∧ cz a b c d p q u v * g = s * cW a b c d p q u v ∧ 0 < cz a b c d p q u v ∧ 0 < s * cW a b c d p q u v ∧ Int.gcd (Int.gcd (cx a b c d p q u v) (cy a b c d p q u v) : Int) (cz a b c d p q u v) = 1 := by
 obtain ⟨d1, d2, d3⟩ := gcd3_dvd (cX a b c d p q u v) (cY a b c d p q u v) (cW a b c d p q u v)
 have hg : 0 < cG a b c d p q u v := by
   have := Int.gcd_pos_of_ne_zero_right (Int.gcd (cX a b c d p q u v) (cY a b c d p q u v) : Int) hw
   unfold cG
   omega
 have hgd : cG a b c d p q u v = (Int.gcd (Int.gcd (cX a b c d p q u v) (cY a b c d p q u v) : Int) (cW a b c d p q u v) : Int) := rfl
 rw [← hgd] at d1 d2 d3
 unfold cx cy cz
 generalize cX a b c d p q u v = X at *
 generalize cY a b c d p q u v = Y at *
 generalize cW a b c d p q u v = W at *
 generalize cG a b c d p q u v = g at *
 have sq : ∀ n : Int, g ∣ n → shareZ n g (decide (W < 0)) * g = if W < 0 then -n else n := fun n hd => by
   rw [← share_quot (v := n) (V := if W < 0 then -n else n) (g := g) (z := W) rfl hg hd]
   refine Int.ediv_mul_cancel ?_
   split
   · exact Int.dvd_neg.2 hd
   · exact hd
 have k1 := sq X d1
 have k2 := sq Y d2
 have k3 := sq W d3
 have zp : 0 < shareZ W g (decide (W < 0)) := by
   apply Decidable.byContradiction
   intro hn
   have := Int.mul_nonneg (a := -shareZ W g (decide (W < 0))) (b := g) (by omega) (by omega)
   have e : -shareZ W g (decide (W < 0)) * g = -(shareZ W g (decide (W < 0)) * g) := by grind
   split at k3 <;> omega
 have gg : (Int.gcd (Int.gcd (shareZ X g (decide (W < 0))) (shareZ Y g (decide (W < 0))) : Int) (shareZ W g (decide (W < 0))) : Int) * g = 1 * g := by
   rw [← gcd3_times _ _ _ _ hg, k1, k2, k3]
   by_cases h : W < 0
   · rw [if_pos h, if_pos h, if_pos h, Int.gcd_neg, Int.neg_gcd, Int.gcd_neg, ← hgd, Int.one_mul]
   · rw [if_neg h, if_neg h, if_neg h, ← hgd, Int.one_mul]
 have g1 := Int.eq_of_mul_eq_mul_right (by omega) gg
 by_cases h : W < 0
 · rw [if_pos h] at k1 k2 k3
   exact ⟨g, -1, hg, .inr rfl, by omega, by omega, by omega, zp, by omega, by omega⟩
 · rw [if_neg h] at k1 k2 k3
   exact ⟨g, 1, hg, .inl rfl, by omega, by omega, by omega, zp, by omega, by omega⟩
theorem c_small {a b c d p q u v : Int} (hw : cW a b c d p q u v ≠ 0) (h1 : segOk a b c d = true) (h2 : segOk p q u v = true) : small (cx a b c d p q u v) = true ∧ small (cy a b c d p q u v) = true ∧ small (cz a b c d p q u v) = true := by
 obtain ⟨ia, ib, ic, id⟩ := in1_seg h1
 obtain ⟨ip, iq, iu, iv⟩ := in1_seg h2
 have bx : -9000000000000000000 ≤ cX a b c d p q u v ∧ cX a b c d p q u v ≤ 9000000000000000000 := bnd_x a b c d p q u v ia ib ic id ip iq iu iv
 have by' : -9000000000000000000 ≤ cY a b c d p q u v ∧ cY a b c d p q u v ≤ 9000000000000000000 := bnd_y a b c d p q u v ia ib ic id ip iq iu iv
 have bw : -8000000000000 ≤ cW a b c d p q u v ∧ cW a b c d p q u v ≤ 8000000000000 := bnd_w a b c d p q u v ia ib ic id ip iq iu iv
 have hg : 0 < cG a b c d p q u v := by
   have := Int.gcd_pos_of_ne_zero_right (Int.gcd (cX a b c d p q u v) (cY a b c d p q u v) : Int) hw
   unfold cG
   omega
 unfold cx cy cz small
 have s1 := share_abs (n := cX a b c d p q u v) (b := decide (cW a b c d p q u v < 0)) hg
 have s2 := share_abs (n := cY a b c d p q u v) (b := decide (cW a b c d p q u v < 0)) hg
 have s3 := share_abs (n := cW a b c d p q u v) (b := decide (cW a b c d p q u v < 0)) hg
 refine ⟨decide_eq_true (by omega), decide_eq_true (by omega), decide_eq_true (by omega)⟩
theorem c_lines (a b c d p q u v : Int) : cX a b c d p q u v - a * cW a b c d p q u v = (c - a) * turnZ p q u v a b ∧ cY a b c d p q u v - b * cW a b c d p q u v = (d - b) * turnZ p q u v a b ∧ cW a b c d p q u v = turnZ p q u v a b - turnZ p q u v c d := by
 unfold cX cY cW turnZ
 refine ⟨by grind, by grind, by grind⟩
theorem seg_lt {a b c d : Int} (h : segOk a b c d = true) : lessI a b c d = true := (less_iff _ _ _ _).2 (seg_less h)
theorem ends_same {a b p q : Int} : (if lessI p q a b = true then a else p) = (if lessI a b p q = true then p else a) ∧ (if lessI p q a b = true then b else q) = (if lessI a b p q = true then q else b) := by
 constructor <;> split <;> rename_i r1 <;> split <;> rename_i r2 <;> rw [less_iff] at r1 r2 <;> omega
theorem ends_min {c d u v : Int} : (if lessI c d u v = true then c else u) = (if lessI u v c d = true then u else c) ∧ (if lessI c d u v = true then d else v) = (if lessI u v c d = true then v else d) := by
 constructor <;> split <;> rename_i r1 <;> split <;> rename_i r2 <;> rw [less_iff] at r1 r2 <;> omega
theorem along_swap {a b c d p q u v : Int} (h1 : lessI a b c d = true) (h2 : lessI p q u v = true) (h0 : cW a b c d p q u v = 0) : alongV p q u v a b c d = alongV a b c d p q u v := by
 have h0' : ((q - v) * (c - a) - (b - d) * (u - p)) = 0 := by unfold cW at h0; omega
 have hi : (turnZ p q u v a b ≠ 0 ∨ lessI (if lessI u v c d = true then u else c) (if lessI u v c d = true then v else d) (if lessI a b p q = true then p else a) (if lessI a b p q = true then q else b) = true) ↔ (turnZ a b c d p q ≠ 0 ∨ lessI (if lessI u v c d = true then u else c) (if lessI u v c d = true then v else d) (if lessI a b p q = true then p else a) (if lessI a b p q = true then q else b) = true) :=
   or_congr ⟨fun h h' => h (turn_par h0 (less_ne h1) h'), fun h h' => h (turn_par h0' (less_ne h2) h')⟩ Iff.rfl
 obtain ⟨e1, e2⟩ := ends_same (a := a) (b := b) (p := p) (q := q)
 obtain ⟨e3, e4⟩ := ends_min (c := c) (d := d) (u := u) (v := v)
 unfold alongV
 rw [e1, e2, e3, e4]
 by_cases h : turnZ a b c d p q ≠ 0 ∨ lessI (if lessI u v c d = true then u else c) (if lessI u v c d = true then v else d) (if lessI a b p q = true then p else a) (if lessI a b p q = true then q else b) = true
 · rw [if_pos (hi.2 h), if_pos h]
 · rw [if_neg (fun k => h (hi.1 k)), if_neg h]
theorem meet_swap {a b c d p q u v : Int} (h1 : segOk a b c d = true) (h2 : segOk p q u v = true) : meetW p q u v a b c d = meetW a b c d p q u v := by
 have e3 := (c_swap a b c d p q u v).2.2
 by_cases hw : cW a b c d p q u v = 0
 · have hw' : cW p q u v a b c d = 0 := by omega
   unfold meetW
   rw [if_pos (show (q - v) * (c - a) - (b - d) * (u - p) = 0 from hw'), if_pos (show (b - d) * (u - p) - (q - v) * (c - a) = 0 from hw)]
   exact along_swap (seg_lt h1) (seg_lt h2) hw
 · have hw' : ¬ cW p q u v a b c d = 0 := by omega
   obtain ⟨k1, k2, k3⟩ := c_point_swap hw
   unfold meetW
   rw [if_neg (show ¬ (q - v) * (c - a) - (b - d) * (u - p) = 0 from hw'), if_neg (show ¬ (b - d) * (u - p) - (q - v) * (c - a) = 0 from hw), Bool.and_comm]
   change (if _ then Value.tuple #[.int .i64 1, (PV (cx p q u v a b c d) (cy p q u v a b c d) (cz p q u v a b c d)), _] else _) = (if _ then Value.tuple #[.int .i64 1, (PV (cx a b c d p q u v) (cy a b c d p q u v) (cz a b c d p q u v)), _] else _)
   rw [k1, k2, k3]
def shP (a b c d p q u v : Int) : Prop := (a = p ∧ b = q) ∨ (a = u ∧ b = v) ∨ (c = p ∧ d = q) ∨ (c = u ∧ d = v)
def qtP (a b c d p q u v : Int) : Prop := kndZ a b c d p q u v = 0 ∨ (kndZ a b c d p q u v = 1 ∧ shP a b c d p q u v)
theorem unit_of {X Y Z e f : Int} (hx : X = e * Z) (hy : Y = f * Z) (hz : 0 < Z) (hg : Int.gcd (Int.gcd X Y : Int) Z = 1) : X = e ∧ Y = f ∧ Z = 1 := by
 have d1 : Z ∣ X := ⟨e, by rw [hx, Int.mul_comm]⟩
 have d2 : Z ∣ Y := ⟨f, by rw [hy, Int.mul_comm]⟩
 have d3 : Z ∣ (Int.gcd X Y : Int) := Int.dvd_coe_gcd d1 d2
 have d4 : Z ∣ (Int.gcd (Int.gcd X Y : Int) Z : Int) := Int.dvd_coe_gcd d3 (Int.dvd_refl _)
 rw [hg] at d4
 have h1 : Z = 1 := by
   have := Int.le_of_dvd (by decide) d4
   simp at this
   omega
 subst h1
 exact ⟨by omega, by omega, rfl⟩
theorem cancel_of {x g s X Z k : Int} (hg : 0 < g) (h1 : x * g = s * X) (h2 : Z * g = s * k) (e : Int) (hX : X = e * k) : x = e * Z := by
 have h3 : (x - e * Z) * g = 0 := by
   have : e * Z * g = e * (s * k) := by rw [Int.mul_assoc, h2]
   rw [Int.sub_mul, h1, this, hX]
   have := Int.mul_left_comm s e k
   omega
 rcases Int.mul_eq_zero.1 h3 with h | h <;> omega
theorem turn_self (p q u v : Int) : turnZ p q u v p q = 0 ∧ turnZ p q u v u v = 0 := by
 unfold turnZ
 constructor
 · simp
 · rw [Int.mul_comm]; omega
theorem cross_at {a b c d p q u v : Int} (hw : cW a b c d p q u v ≠ 0) (e f : Int) (hX : cX a b c d p q u v = e * cW a b c d p q u v) (hY : cY a b c d p q u v = f * cW a b c d p q u v) : cx a b c d p q u v = e ∧ cy a b c d p q u v = f ∧ cz a b c d p q u v = 1 := by
 obtain ⟨g, s, hg, _, h1, h2, h3, hz, _, hgc⟩ := c_parts hw
 exact unit_of (cancel_of hg h1 h3 e hX) (cancel_of hg h2 h3 f hY) hz hgc
theorem cross_sh {a b c d p q u v : Int} (hw : cW a b c d p q u v ≠ 0) :
   ((turnZ p q u v a b = 0 → cx a b c d p q u v = a ∧ cy a b c d p q u v = b ∧ cz a b c d p q u v = 1) ∧ (turnZ p q u v c d = 0 → cx a b c d p q u v = c ∧ cy a b c d p q u v = d ∧ cz a b c d p q u v = 1)) := by
 obtain ⟨l1, l2, l3⟩ := c_lines a b c d p q u v
 refine ⟨fun h => cross_at hw a b ?_ ?_, fun h => cross_at hw c d ?_ ?_⟩
 · rw [h, Int.mul_zero] at l1; omega
 · rw [h, Int.mul_zero] at l2; omega
 · have : turnZ p q u v a b = cW a b c d p q u v := by omega
   rw [this, Int.sub_mul] at l1; omega
 · have : turnZ p q u v a b = cW a b c d p q u v := by omega
   rw [this, Int.sub_mul] at l2; omega
theorem meet_one {a b c d p q u v : Int} (h1 : segOk a b c d = true) (h2 : segOk p q u v = true) (hk : kndZ a b c d p q u v = 1) :
   ∃ x y z r0 r1 r2, meetW a b c d p q u v = .tuple #[.int .i64 1, PV x y z, PV r0 r1 r2] ∧ (told x = true ∧ told y = true ∧ told z = true) ∧
     ((((x = a ∧ y = b ∧ z = 1) ∨ (x = c ∧ y = d ∧ z = 1)) ∧ ((x = p ∧ y = q ∧ z = 1) ∨ (x = u ∧ y = v ∧ z = 1))) ↔ shP a b c d p q u v) := by
 by_cases hw : cW a b c d p q u v = 0
 · have hw0 : (b - d) * (u - p) - (q - v) * (c - a) = 0 := hw
   unfold kndZ at hk
   rw [if_pos hw0] at hk
   by_cases ha : turnZ a b c d p q ≠ 0 ∨ lessI (if lessI u v c d = true then u else c) (if lessI u v c d = true then v else d) (if lessI a b p q = true then p else a) (if lessI a b p q = true then q else b) = true
   · rw [if_pos ha] at hk; cases hk
   · rw [if_neg ha] at hk
     by_cases hb : (if lessI a b p q = true then p else a) = (if lessI u v c d = true then u else c) ∧ (if lessI a b p q = true then q else b) = (if lessI u v c d = true then v else d)
     · obtain ⟨i1, i2, i3, i4⟩ := in1_seg h1
       obtain ⟨j1, j2, j3, j4⟩ := in1_seg h2
       refine ⟨if lessI a b p q = true then p else a, if lessI a b p q = true then q else b, 1, 0, 0, 0, ?_, ⟨told_small (small_int (by unfold In1 at *; split <;> omega) (by unfold In1 at *; split <;> omega)), told_small (small_int (by unfold In1 at *; split <;> omega) (by unfold In1 at *; split <;> omega)), by decide⟩, ?_⟩
       · unfold meetW
         rw [if_pos hw0]
         unfold alongV
         rw [if_neg ha, if_pos hb]
         rfl
       · have l1 := (less_iff _ _ _ _).1 (seg_lt h1)
         have l2 := (less_iff _ _ _ _).1 (seg_lt h2)
         have k1 := less_iff a b p q
         have k2 := less_iff u v c d
         unfold shP
         clear ha hk hw hw0
         generalize lessI a b p q = s1 at hb k1 ⊢
         generalize lessI u v c d = s2 at hb k2 ⊢
         cases s1 <;> cases s2
         all_goals simp only [if_true, if_false, true_iff, false_iff, Bool.false_eq_true] at hb k1 k2 ⊢
         all_goals simp only [true_and, and_true, true_or]
         all_goals omega
     · rw [if_neg hb] at hk; cases hk
 · have hw0 : ¬ (b - d) * (u - p) - (q - v) * (c - a) = 0 := hw
   unfold kndZ at hk
   rw [if_neg hw0] at hk
   by_cases hb : (pt2 (turnZ a b c d p q) (turnZ a b c d u v) && pt2 (turnZ p q u v a b) (turnZ p q u v c d)) = true
   · obtain ⟨s1, s2, s3⟩ := c_small hw h1 h2
     refine ⟨cx a b c d p q u v, cy a b c d p q u v, cz a b c d p q u v, 0, 0, 0, ?_, ⟨told_small s1, told_small s2, told_small s3⟩, ?_⟩
     · unfold meetW
       rw [if_neg hw0, if_pos hb]
       rfl
     · obtain ⟨t1, t2⟩ := cross_sh hw
       obtain ⟨z1, z2⟩ := turn_self p q u v
       unfold shP
       constructor
       · omega
       · rintro (⟨e1, e2⟩ | ⟨e1, e2⟩ | ⟨e1, e2⟩ | ⟨e1, e2⟩)
         · have := t1 (by rw [e1, e2]; exact z1); omega
         · have := t1 (by rw [e1, e2]; exact z2); omega
         · have := t2 (by rw [e1, e2]; exact z1); omega
         · have := t2 (by rw [e1, e2]; exact z2); omega
   · rw [if_neg hb] at hk; cases hk
theorem knd_either {a b c d p q u v : Int} (h1 : segOk a b c d = true) (h2 : segOk p q u v = true) : kndZ p q u v a b c d = kndZ a b c d p q u v := by
 obtain ⟨r, s, e1⟩ := meetW_kind p q u v a b c d
 obtain ⟨r', s', e2⟩ := meetW_kind a b c d p q u v
 rw [meet_swap h1 h2, e2] at e1
 simp only [Value.tuple.injEq] at e1
 have := congrArg (fun l => l[0]?) e1
 simpa using this.symm
theorem sh_either {a b c d p q u v : Int} : shP p q u v a b c d ↔ shP a b c d p q u v := by unfold shP; omega
theorem qt_either {a b c d p q u v : Int} (h1 : segOk a b c d = true) (h2 : segOk p q u v = true) : qtP p q u v a b c d ↔ qtP a b c d p q u v := by
 unfold qtP
 rw [knd_either h1 h2, sh_either]
set_option maxRecDepth 100000 in
set_option maxHeartbeats 8000000 in
theorem endsAt_det (a b c d x y z : Int) (i1 : In1 a) (i2 : In1 b) (i3 : In1 c) (i4 : In1 d) (tx : told x = true) (ty : told y = true) (tz : told z = true) (r : Bool) (hr : r = true ↔ ((x = a ∧ y = b ∧ z = 1) ∨ (x = c ∧ y = d ∧ z = 1))) (w : World) : Calls Tryz.prog 87 #[Sg a b c d, PV x y z] w (VP (.bool r) w) := by
 unfold In1 at i1 i2 i3 i4
 have T0 : ArgsB w ((w.alloc (.cells #[.int .i64 a, .int .i64 b, .int .i64 c, .int .i64 d] 53)).alloc (.cells #[.int .u64 (ww3 x), .int .u64 (ww2 x), .int .u64 (ww1 x), .int .u64 (ww0 x), .int .u64 (ww3 y), .int .u64 (ww2 y), .int .u64 (ww1 y), .int .u64 (ww0 y), .int .u64 (ww3 z), .int .u64 (ww2 z), .int .u64 (ww1 z), .int .u64 (ww0 z)] 44)) [[.int .i64 a, .int .i64 b, .int .i64 c, .int .i64 d], [.int .u64 (ww3 x), .int .u64 (ww2 x), .int .u64 (ww1 x), .int .u64 (ww0 x), .int .u64 (ww3 y), .int .u64 (ww2 y), .int .u64 (ww1 y), .int .u64 (ww0 y), .int .u64 (ww3 z), .int .u64 (ww2 z), .int .u64 (ww1 z), .int .u64 (ww0 z)]] := ar2 _ _ _ _ w
 have EN := fun w => ends_det a b c d (by omega) (by omega) (by omega) (by omega) (by omega) (by omega) (by omega) (by omega) w
 obtain ⟨b1, hb1⟩ : ∃ b1 : Bool, b1 = (decide (a = x) && decide (b = y) && decide (1 = z)) := ⟨_, rfl⟩
 obtain ⟨b2, hb2⟩ : ∃ b2 : Bool, b2 = (decide (c = x) && decide (d = y) && decide (1 = z)) := ⟨_, rfl⟩
 have E1 : ∀ w, (Op.equalIn 10000 44 (.agg #[.int .u64 (ww3 a), .int .u64 (ww2 a), .int .u64 (ww1 a), .int .u64 (ww0 a), .int .u64 (ww3 b), .int .u64 (ww2 b), .int .u64 (ww1 b), .int .u64 (ww0 b), .int .u64 (ww3 1), .int .u64 (ww2 1), .int .u64 (ww1 1), .int .u64 (ww0 1)]) (.agg #[.int .u64 (ww3 x), .int .u64 (ww2 x), .int .u64 (ww1 x), .int .u64 (ww0 x), .int .u64 (ww3 y), .int .u64 (ww2 y), .int .u64 (ww1 y), .int .u64 (ww0 y), .int .u64 (ww3 z), .int .u64 (ww2 z), .int .u64 (ww1 z), .int .u64 (ww0 z)])).run Tryz.prog w = .ok b1 w := fun w => by rw [hb1]; exact eqPV a b 1 x y z (told_small (small_int (by omega) (by omega))) (told_small (small_int (by omega) (by omega))) (by decide) tx ty tz w
 have E2 : ∀ w, (Op.equalIn 10000 44 (.agg #[.int .u64 (ww3 c), .int .u64 (ww2 c), .int .u64 (ww1 c), .int .u64 (ww0 c), .int .u64 (ww3 d), .int .u64 (ww2 d), .int .u64 (ww1 d), .int .u64 (ww0 d), .int .u64 (ww3 1), .int .u64 (ww2 1), .int .u64 (ww1 1), .int .u64 (ww0 1)]) (.agg #[.int .u64 (ww3 x), .int .u64 (ww2 x), .int .u64 (ww1 x), .int .u64 (ww0 x), .int .u64 (ww3 y), .int .u64 (ww2 y), .int .u64 (ww1 y), .int .u64 (ww0 y), .int .u64 (ww3 z), .int .u64 (ww2 z), .int .u64 (ww1 z), .int .u64 (ww0 z)])).run Tryz.prog w = .ok b2 w := fun w => by rw [hb2]; exact eqPV c d 1 x y z (told_small (small_int (by omega) (by omega))) (told_small (small_int (by omega) (by omega))) (by decide) tx ty tz w
 have HR : Hid (r = (b1 || b2)) := by
   show _ = _
   rw [Bool.eq_iff_iff, hr, hb1, hb2]
   simp only [Bool.or_eq_true, Bool.and_eq_true, decide_eq_true_eq]
   omega
 clear hb1 hb2 hr i1 i2 i3 i4 tx ty tz
 go_enter Tryz.func87, Tryz.ntmps87
 have Y1 : Blk _ w.heap.size _ := T0.b 0 rfl
 obtain ⟨g0, g1, g2, g3⟩ := Y1.cs4
 clear Y1
 go_wp2_with fail
 generalize ((w.alloc (.cells #[.int .i64 a, .int .i64 b, .int .i64 c, .int .i64 d] 53)).alloc (.cells #[.int .u64 (ww3 x), .int .u64 (ww2 x), .int .u64 (ww1 x), .int .u64 (ww0 x), .int .u64 (ww3 y), .int .u64 (ww2 y), .int .u64 (ww1 y), .int .u64 (ww0 y), .int .u64 (ww3 z), .int .u64 (ww2 z), .int .u64 (ww1 z), .int .u64 (ww0 z)] 44)) = W at *
 refine (EN _).mono ?_
 rintro e w1 ⟨rfl, hB⟩
 replace T0 := T0.step hB
 clear hB EN g0 g1 g2 g3
 have X1 := (Blk.new w1 [.int .u64 (ww3 a), .int .u64 (ww2 a), .int .u64 (ww1 a), .int .u64 (ww0 a), .int .u64 (ww3 b), .int .u64 (ww2 b), .int .u64 (ww1 b), .int .u64 (ww0 b), .int .u64 (ww3 1), .int .u64 (ww2 1), .int .u64 (ww1 1), .int .u64 (ww0 1)] 44 rfl).alloc (.cells #[.int .u64 (ww3 c), .int .u64 (ww2 c), .int .u64 (ww1 c), .int .u64 (ww0 c), .int .u64 (ww3 d), .int .u64 (ww2 d), .int .u64 (ww1 d), .int .u64 (ww0 d), .int .u64 (ww3 1), .int .u64 (ww2 1), .int .u64 (ww1 1), .int .u64 (ww0 1)] 44)
 have X2 := Blk.new (w1.alloc (.cells #[.int .u64 (ww3 a), .int .u64 (ww2 a), .int .u64 (ww1 a), .int .u64 (ww0 a), .int .u64 (ww3 b), .int .u64 (ww2 b), .int .u64 (ww1 b), .int .u64 (ww0 b), .int .u64 (ww3 1), .int .u64 (ww2 1), .int .u64 (ww1 1), .int .u64 (ww0 1)] 44)) [.int .u64 (ww3 c), .int .u64 (ww2 c), .int .u64 (ww1 c), .int .u64 (ww0 c), .int .u64 (ww3 d), .int .u64 (ww2 d), .int .u64 (ww1 d), .int .u64 (ww0 d), .int .u64 (ww3 1), .int .u64 (ww2 1), .int .u64 (ww1 1), .int .u64 (ww0 1)] 44 rfl
 have x2e : (w1.alloc (.cells #[.int .u64 (ww3 a), .int .u64 (ww2 a), .int .u64 (ww1 a), .int .u64 (ww0 a), .int .u64 (ww3 b), .int .u64 (ww2 b), .int .u64 (ww1 b), .int .u64 (ww0 b), .int .u64 (ww3 1), .int .u64 (ww2 1), .int .u64 (ww1 1), .int .u64 (ww0 1)] 44)).heap.size = w1.heap.size + 1 := by simp
 rw [x2e] at X2
 clear x2e
 replace T0 := (T0.alloc (.cells #[.int .u64 (ww3 a), .int .u64 (ww2 a), .int .u64 (ww1 a), .int .u64 (ww0 a), .int .u64 (ww3 b), .int .u64 (ww2 b), .int .u64 (ww1 b), .int .u64 (ww0 b), .int .u64 (ww3 1), .int .u64 (ww2 1), .int .u64 (ww1 1), .int .u64 (ww0 1)] 44)).alloc (.cells #[.int .u64 (ww3 c), .int .u64 (ww2 c), .int .u64 (ww1 c), .int .u64 (ww0 c), .int .u64 (ww3 d), .int .u64 (ww2 d), .int .u64 (ww1 d), .int .u64 (ww0 d), .int .u64 (ww3 1), .int .u64 (ww2 1), .int .u64 (ww1 1), .int .u64 (ww0 1)] 44)
 have Y0 : Blk _ (w.heap.size + 1) _ := T0.b 1 rfl
 obtain ⟨q0, q1, q2, q3, q4, q5, q6, q7, q8, q9, q10, q11⟩ := Y0.cs12
 obtain ⟨k0, k1, k2, k3, k4, k5, k6, k7, k8, k9, k10, k11⟩ := X1.cs12
 obtain ⟨l0, l1, l2, l3, l4, l5, l6, l7, l8, l9, l10, l11⟩ := X2.cs12
 have HB := T0.below
 clear T0 Y0 X1 X2
 cases b1 <;> cases b2
 all_goals go_wp2
 all_goals go_ret
 all_goals exact ⟨by rw [HR.out]; rfl, HB⟩
set_option maxRecDepth 100000 in
set_option maxHeartbeats 8000000 in
theorem areQuiet_det (a b c d p q u v : Int) (h1 : segOk a b c d = true) (h2 : segOk p q u v = true) (r : Bool) (hr : r = true ↔ qtP a b c d p q u v) (w : World) : Calls Tryz.prog 48 #[Sg a b c d, Sg p q u v] w (VP (.bool r) w) := by
 have T0 : ArgsB w ((w.alloc (.cells #[.int .i64 a, .int .i64 b, .int .i64 c, .int .i64 d] 53)).alloc (.cells #[.int .i64 p, .int .i64 q, .int .i64 u, .int .i64 v] 53)) [[.int .i64 a, .int .i64 b, .int .i64 c, .int .i64 d], [.int .i64 p, .int .i64 q, .int .i64 u, .int .i64 v]] := ar2 _ _ _ _ w
 obtain ⟨i1, i2, i3, i4⟩ := in1_seg h1
 obtain ⟨j1, j2, j3, j4⟩ := in1_seg h2
 go_enter Tryz.func48, Tryz.ntmps48
 rcases knd_in a b c d p q u v with hk | hk | hk
 · obtain ⟨r0, r1, r2, r3, r4, r5, r6, r7, r8, r9, r10, r11, s0, s1, s2, s3, s4, s5, s6, s7, s8, s9, s10, s11, hW12⟩ := meetW_12 a b c d p q u v
   rw [hk] at hW12
   have MT := meet_det a b c d p q u v i1 i2 i3 i4 j1 j2 j3 j4
   rw [hW12] at MT
   have HR : Hid (r = true) := by
     show _ = _
     exact hr.2 (.inl hk)
   clear hk hW12 h1 h2
   have Y1 : Blk _ w.heap.size _ := T0.b 0 rfl; obtain ⟨g0, g1, g2, g3⟩ := Y1.cs4; have Y0 : Blk _ (w.heap.size + 1) _ := T0.b 1 rfl; obtain ⟨h0, h1, h2, h3⟩ := Y0.cs4
   go_wp2_with fail
   generalize ((w.alloc (.cells #[.int .i64 a, .int .i64 b, .int .i64 c, .int .i64 d] 53)).alloc (.cells #[.int .i64 p, .int .i64 q, .int .i64 u, .int .i64 v] 53)) = W at *
   refine (MT _).mono ?_
   rintro e w1 ⟨rfl, hB⟩
   have HB := T0.below.trans (hB.mono T0.below.size)
   replace HB := (HB.alloc HB.size (.cells #[.int .u64 r0, .int .u64 r1, .int .u64 r2, .int .u64 r3, .int .u64 r4, .int .u64 r5, .int .u64 r6, .int .u64 r7, .int .u64 r8, .int .u64 r9, .int .u64 r10, .int .u64 r11] 44)).alloc (Nat.le_trans HB.size (by simp)) (.cells #[.int .u64 s0, .int .u64 s1, .int .u64 s2, .int .u64 s3, .int .u64 s4, .int .u64 s5, .int .u64 s6, .int .u64 s7, .int .u64 s8, .int .u64 s9, .int .u64 s10, .int .u64 s11] 44)
   clear hB T0 MT g0 g1 g2 g3 h0 h1 h2 h3 Y1 Y0
   go_wp2
   go_ret
   exact ⟨by rw [HR.out]; rfl, HB⟩
 · obtain ⟨x, y, z, e0, e1, e2, hW, ⟨tx, ty, tz⟩, hsh⟩ := meet_one h1 h2 hk
   have MT := meet_det a b c d p q u v i1 i2 i3 i4 j1 j2 j3 j4
   rw [hW] at MT
   obtain ⟨ra, hra⟩ : ∃ ra : Bool, ra = true ↔ ((x = a ∧ y = b ∧ z = 1) ∨ (x = c ∧ y = d ∧ z = 1)) := ⟨_, decide_eq_true_iff⟩
   obtain ⟨rb, hrb⟩ : ∃ rb : Bool, rb = true ↔ ((x = p ∧ y = q ∧ z = 1) ∨ (x = u ∧ y = v ∧ z = 1)) := ⟨_, decide_eq_true_iff⟩
   have C1 := endsAt_det a b c d x y z i1 i2 i3 i4 tx ty tz ra hra
   have C2 := endsAt_det p q u v x y z j1 j2 j3 j4 tx ty tz rb hrb
   have HR : Hid (r = (ra && rb)) := by
     show _ = _
     rw [Bool.eq_iff_iff, hr, Bool.and_eq_true, hra, hrb, hsh]
     unfold qtP
     rw [hk]
     simp
   clear hk hW h1 h2 hr hra hrb hsh tx ty tz i1 i2 i3 i4 j1 j2 j3 j4
   have Y1 : Blk _ w.heap.size _ := T0.b 0 rfl; obtain ⟨g0, g1, g2, g3⟩ := Y1.cs4; have Y0 : Blk _ (w.heap.size + 1) _ := T0.b 1 rfl; obtain ⟨h0, h1, h2, h3⟩ := Y0.cs4
   go_wp2_with fail
   generalize ((w.alloc (.cells #[.int .i64 a, .int .i64 b, .int .i64 c, .int .i64 d] 53)).alloc (.cells #[.int .i64 p, .int .i64 q, .int .i64 u, .int .i64 v] 53)) = W at *
   refine (MT _).mono ?_
   rintro e w1 ⟨rfl, hB⟩
   replace T0 := T0.step hB
   clear hB MT g0 g1 g2 g3 h0 h1 h2 h3 Y1 Y0
   have X1 := (Blk.new w1 [.int .u64 (ww3 x), .int .u64 (ww2 x), .int .u64 (ww1 x), .int .u64 (ww0 x), .int .u64 (ww3 y), .int .u64 (ww2 y), .int .u64 (ww1 y), .int .u64 (ww0 y), .int .u64 (ww3 z), .int .u64 (ww2 z), .int .u64 (ww1 z), .int .u64 (ww0 z)] 44 rfl).alloc (.cells #[.int .u64 (ww3 e0), .int .u64 (ww2 e0), .int .u64 (ww1 e0), .int .u64 (ww0 e0), .int .u64 (ww3 e1), .int .u64 (ww2 e1), .int .u64 (ww1 e1), .int .u64 (ww0 e1), .int .u64 (ww3 e2), .int .u64 (ww2 e2), .int .u64 (ww1 e2), .int .u64 (ww0 e2)] 44)
   replace T0 := (T0.alloc (.cells #[.int .u64 (ww3 x), .int .u64 (ww2 x), .int .u64 (ww1 x), .int .u64 (ww0 x), .int .u64 (ww3 y), .int .u64 (ww2 y), .int .u64 (ww1 y), .int .u64 (ww0 y), .int .u64 (ww3 z), .int .u64 (ww2 z), .int .u64 (ww1 z), .int .u64 (ww0 z)] 44)).alloc (.cells #[.int .u64 (ww3 e0), .int .u64 (ww2 e0), .int .u64 (ww1 e0), .int .u64 (ww0 e0), .int .u64 (ww3 e1), .int .u64 (ww2 e1), .int .u64 (ww1 e1), .int .u64 (ww0 e1), .int .u64 (ww3 e2), .int .u64 (ww2 e2), .int .u64 (ww1 e2), .int .u64 (ww0 e2)] 44)
   have Y1 : Blk _ w.heap.size _ := T0.b 0 rfl; obtain ⟨g0, g1, g2, g3⟩ := Y1.cs4; have Y0 : Blk _ (w.heap.size + 1) _ := T0.b 1 rfl; obtain ⟨h0, h1, h2, h3⟩ := Y0.cs4
   obtain ⟨k0, k1, k2, k3, k4, k5, k6, k7, k8, k9, k10, k11⟩ := X1.cs12
   go_wp2_with fail
   generalize ((w1.alloc (.cells #[.int .u64 (ww3 x), .int .u64 (ww2 x), .int .u64 (ww1 x), .int .u64 (ww0 x), .int .u64 (ww3 y), .int .u64 (ww2 y), .int .u64 (ww1 y), .int .u64 (ww0 y), .int .u64 (ww3 z), .int .u64 (ww2 z), .int .u64 (ww1 z), .int .u64 (ww0 z)] 44)).alloc (.cells #[.int .u64 (ww3 e0), .int .u64 (ww2 e0), .int .u64 (ww1 e0), .int .u64 (ww0 e0), .int .u64 (ww3 e1), .int .u64 (ww2 e1), .int .u64 (ww1 e1), .int .u64 (ww0 e1), .int .u64 (ww3 e2), .int .u64 (ww2 e2), .int .u64 (ww1 e2), .int .u64 (ww0 e2)] 44)) = W1 at *
   refine (C1 _).mono ?_
   rintro e w2 ⟨rfl, hB⟩
   replace T0 := T0.step hB
   replace X1 := X1.step hB
   clear hB C1 g0 g1 g2 g3 h0 h1 h2 h3 Y1 Y0 k0 k1 k2 k3 k4 k5 k6 k7 k8 k9 k10 k11
   cases ra
   · have HB := T0.below
     clear T0 X1 C2
     go_wp2
     go_ret
     exact ⟨by rw [HR.out]; rfl, HB⟩
   · have Y1 : Blk _ w.heap.size _ := T0.b 0 rfl; obtain ⟨g0, g1, g2, g3⟩ := Y1.cs4; have Y0 : Blk _ (w.heap.size + 1) _ := T0.b 1 rfl; obtain ⟨h0, h1, h2, h3⟩ := Y0.cs4
     obtain ⟨k0, k1, k2, k3, k4, k5, k6, k7, k8, k9, k10, k11⟩ := X1.cs12
     go_wp2_with fail
     refine (C2 _).mono ?_
     rintro e w3 ⟨rfl, hB⟩
     have HB := T0.below.trans (hB.mono T0.below.size)
     clear hB C2 g0 g1 g2 g3 h0 h1 h2 h3 Y1 Y0 k0 k1 k2 k3 k4 k5 k6 k7 k8 k9 k10 k11 T0 X1
     cases rb
     all_goals go_wp2
     all_goals go_ret
     all_goals exact ⟨by rw [HR.out]; rfl, HB⟩
 · obtain ⟨r0, r1, r2, r3, r4, r5, r6, r7, r8, r9, r10, r11, s0, s1, s2, s3, s4, s5, s6, s7, s8, s9, s10, s11, hW12⟩ := meetW_12 a b c d p q u v
   rw [hk] at hW12
   have MT := meet_det a b c d p q u v i1 i2 i3 i4 j1 j2 j3 j4
   rw [hW12] at MT
   have HR : Hid (r = false) := by
     show _ = _
     rw [Bool.eq_false_iff]
     intro h
     have := hr.1 h
     unfold qtP at this
     omega
   clear hk hW12 h1 h2
   have Y1 : Blk _ w.heap.size _ := T0.b 0 rfl; obtain ⟨g0, g1, g2, g3⟩ := Y1.cs4; have Y0 : Blk _ (w.heap.size + 1) _ := T0.b 1 rfl; obtain ⟨h0, h1, h2, h3⟩ := Y0.cs4
   go_wp2_with fail
   generalize ((w.alloc (.cells #[.int .i64 a, .int .i64 b, .int .i64 c, .int .i64 d] 53)).alloc (.cells #[.int .i64 p, .int .i64 q, .int .i64 u, .int .i64 v] 53)) = W at *
   refine (MT _).mono ?_
   rintro e w1 ⟨rfl, hB⟩
   have HB := T0.below.trans (hB.mono T0.below.size)
   replace HB := (HB.alloc HB.size (.cells #[.int .u64 r0, .int .u64 r1, .int .u64 r2, .int .u64 r3, .int .u64 r4, .int .u64 r5, .int .u64 r6, .int .u64 r7, .int .u64 r8, .int .u64 r9, .int .u64 r10, .int .u64 r11] 44)).alloc (Nat.le_trans HB.size (by simp)) (.cells #[.int .u64 s0, .int .u64 s1, .int .u64 s2, .int .u64 s3, .int .u64 s4, .int .u64 s5, .int .u64 s6, .int .u64 s7, .int .u64 s8, .int .u64 s9, .int .u64 s10, .int .u64 s11] 44)
   clear hB T0 MT g0 g1 g2 g3 h0 h1 h2 h3 Y1 Y0
   go_wp2
   go_ret
   exact ⟨by rw [HR.out]; rfl, HB⟩
end Go.Proofs.YteakhlipmmfilaaGreat
