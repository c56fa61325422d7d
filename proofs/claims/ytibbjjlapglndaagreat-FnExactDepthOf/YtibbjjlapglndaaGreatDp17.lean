/- Part 17 of the walks that the proof leans on. -/
import Derived.Test.YtibbjjlapglndaaGreatDp16
import Derived.Test.YtibbjjlapglndaaGreatDp4
import Derived.SizedLaws
import Derived.Deep.Slices
import Derived.Test.YtibbjjlapglndaaGreatRows
import Derived.ProofKit
import Derived.Lib.SmallJoins
namespace Go.Proofs.YtibbjjlapglndaaGreat
open Go.RowKit
set_option maxRecDepth 100000 in
set_option maxHeartbeats 8000000 in
theorem specLayerFault_any (ao : Option Addr) (n cap : Nat) (S : Nat → Option Addr × Nat) (L : Nat → Nat) (q : Nat → Ps) (hn : n ≤ 1048576) (hL : ∀ i, i < n → L i ≤ 1048576) (w : World) (hS : RgIn w ao n S L q) : Calls Tryz.prog 73 #[.slice ao n cap] w (TwoP (lyF n L q) w) := by
 have hnI : (n : Int) ≤ 1048576 := by omega
 by_cases h6 : 6 < n
 · have HO : Hid (lyF n L q = (1, 0)) := by show _ = _; unfold lyF; rw [if_pos h6]
   have h6I : (6 : Int) < n := by omega
   clear hS hL
   go_enter Tryz.func73, Tryz.ntmps73
   go_wp2
   go_ret2
   exact ⟨by rw [HO.out]; rfl, Below.refl _ _⟩
 have h6I : (n : Int) ≤ 6 := by omega
 have HS : Hid (RgIn w ao n S L q) := hS
 have HL : Hid (∀ i, i < n → L i ≤ 1048576) := hL
 have hz := sumR_le hL n (Nat.le_refl _)
 have hzI : ((sumR L n : Nat) : Int) ≤ 6291456 := by omega
 clear hS hL hz
 go_enter Tryz.func73, Tryz.ntmps73
 go_wp2_with fail
 go_loopw [4, 5] (fun s i wr => ∃ c : Nat, c ≤ n ∧ i = .int .i64 c ∧ s = .int .i64 (sumR L c : Nat) ∧ Below w.heap.size w wr) (fun _ i _ => n - (intOf i).toNat)
 case atStart => exact ⟨0, by omega, rfl, rfl, Below.refl _ _⟩
 case round =>
   obtain ⟨c, hc, rfl, rfl, HBa⟩ := hrel
   by_cases hcn : c < n
   · obtain ⟨A, off, rfl, hA, q0, -⟩ := HS.out.step HBa c hcn
     have hcI : (c : Int) < n := by omega
     have s1 := sumR_le HL.out c hc
     have s2 := HL.out c hcn
     have hw : IntKind.i64.wrap (((sumR L c : Nat) : Int) + (L c : Int)) = ((sumR L (c + 1) : Nat) : Int) := by rw [IntKind.wrap_i64, sumR]; omega
     clear s1 s2
     go_wp2
     go_roundw
     case rel => exact ⟨c + 1, by omega, by go_num, by trivial, HBa⟩
     case measure => simp [intOf]; omega
   · obtain rfl : c = n := by omega
     by_cases h20 : 20 < sumR L c
     · have HO : Hid (lyF c L q = (2, 0)) := by show _ = _; unfold lyF; rw [if_neg h6, if_pos h20]
       have h20I : (20 : Int) < (sumR L c : Nat) := by omega
       clear HS HL
       go_wp2
       go_ret2
       exact ⟨by rw [HO.out]; rfl, HBa⟩
     have h20I : ((sumR L c : Nat) : Int) ≤ 20 := by omega
     go_wp2_with fail
     generalize hcm : c = m at *
     clear hcm
     have HSa : Hid (RgIn wr ao m S L q) := HS.out.step HBa
     clear HS
     generalize wr = W2 at *
     go_loopw [6] (fun i wx => ∃ c : Nat, c ≤ m ∧ i = .int .i64 c ∧ (∀ j, j < c → rgF (L j) (q j) = 0) ∧ Below W2.heap.size W2 wx) (fun i _ => m - (intOf i).toNat)
     case atStart => exact ⟨0, by omega, rfl, fun j hj => by omega, Below.refl _ _⟩
     case round =>
       rename_i hrel
       obtain ⟨c, hc, rfl, hall, HB⟩ := hrel
       have HA : Hid (∀ j, j < c → rgF (L j) (q j) = 0) := hall
       clear hall
       by_cases hcn : c < m
       · obtain ⟨A, off, rfl, hA, q0, hsp⟩ := HSa.out.step HB c hcn
         have hcI : (c : Int) < m := by omega
         have RF := fun w h => specRingFault_any (S c).1 (L c) (S c).2 (q c) (HL.out c hcn) w h
         have hin := rgF_in (L c) (q c)
         have HFs : Hid (rgF (L c) (q c) ≠ 0 → lyF m L q = (10 + rgF (L c) (q c), (c : Int))) := fun hk => by
           unfold lyF
           rw [if_neg h6, if_neg h20, firstP_some (P := fun i => decide (rgF (L i) (q i) ≠ 0)) hcn (decide_eq_true hk) (fun j hj => decide_eq_false (fun h => h (HA.out j hj)))]
         have HFz : Hid (rgF (L c) (q c) = 0 → ∀ j, j < c + 1 → rgF (L j) (q j) = 0) := fun hk j hj => by
           rcases Nat.lt_or_ge j c with h | h
           · exact HA.out j h
           · obtain rfl : j = c := by omega
             exact hk
         clear hA
         go_wp2_with fail
         refine (RF _ hsp).mono ?_
         rintro e w2 ⟨rfl, hB⟩
         replace HB := HB.trans (hB.mono HB.size)
         clear hB RF hsp q0
         generalize rgF (L c) (q c) = z at *
         by_cases hz : z = 0
         · subst hz
           go_wp2
           go_roundw
           case rel => exact ⟨c + 1, by omega, by go_num, HFz.out (by trivial), HB⟩
           case measure => simp [intOf]; omega
         · have hz2 : (z != 0) = true := by simp [hz]
           have HO : Hid (lyF m L q = (10 + z, (c : Int))) := HFs.out hz
           have hw : IntKind.i64.wrap (10 + z) = 10 + z := by rw [IntKind.wrap_i64]; omega
           clear HFs HFz hin
           go_wp2
           go_ret2
           exact ⟨by rw [HO.out]; rfl, HBa.trans (HB.mono HBa.size)⟩
       · obtain rfl : m = c := by omega
         have HR : Hid (∀ i, i < m → RgOk (L i) (q i)) := fun i hi => rgF_ok (HA.out i hi)
         have HO1 : Hid (lyF m L q = mfV m L q) := by
           show _ = _
           unfold lyF
           rw [if_neg h6, if_neg h20, firstP_none (P := fun i => decide (rgF (L i) (q i) ≠ 0)) (fun j hj => decide_eq_false (fun h => h (HA.out j hj)))]
         have HS2 : Hid (RgIn wr ao m S L q) := HSa.out.step HB
         have HBf := HBa.trans (HB.mono HBa.size)
         clear HA HB HSa
         go_wp2_with fail
         generalize wr = W3 at *
         go_loopw [8] (fun i wx => ∃ c : Nat, c ≤ m ∧ i = .int .i64 c ∧ (∀ j, j < c → mtA L q j = false) ∧ Below W3.heap.size W3 wx) (fun i _ => m - (intOf i).toNat)
         case atStart => exact ⟨0, by omega, rfl, fun j hj => by omega, Below.refl _ _⟩
         case round =>
           rename_i hrel
           obtain ⟨c, hc, rfl, hall, HB⟩ := hrel
           have HA : Hid (∀ j, j < c → mtA L q j = false) := hall
           clear hall
           by_cases hcn : c < m
           · have hcI : (c : Int) < m := by omega
             have HBo := HB
             clear HB
             go_wp2_with fail
             generalize wr = W4 at *
             go_loopw [9] (fun i wx => ∃ d : Nat, d ≤ c ∧ i = .int .i64 d ∧ (∀ k, k < d → rmB (L c) (q c) (L k) (q k) = false) ∧ Below W4.heap.size W4 wx) (fun i _ => c - (intOf i).toNat)
             case atStart => exact ⟨0, by omega, rfl, fun j hj => by omega, Below.refl _ _⟩
             case round =>
               rename_i hrel
               obtain ⟨d, hd, rfl, hall, HB⟩ := hrel
               have HE : Hid (∀ k, k < d → rmB (L c) (q c) (L k) (q k) = false) := hall
               clear hall
               have HB2 := HBo.trans (HB.mono HBo.size)
               by_cases hdn : d < c
               · have hdI : (d : Int) < c := by omega
                 obtain ⟨A, off, rfl, hA, q0, hsc⟩ := HS2.out.step HB2 c hcn
                 obtain ⟨A', off', hao, -, q1, hsp⟩ := HS2.out.step HB2 d (by omega)
                 obtain ⟨rfl, rfl⟩ : A = A' ∧ off = off' := by simpa using hao
                 have hdm : (d : Int) < m := by omega
                 have MM := fun w h k => l5Meet_any (S c).1 (S d).1 (L c) (S c).2 (L d) (S d).2 (q c) (q d) (HR.out c hcn) (HR.out d (by omega)) w h k
                 have H0 := Below.refl wr.heap.size wr
                 have HK : ∀ V, Below wr.heap.size wr V → (fun w' : World => w'.cell? ⟨A, off + c, none⟩ = some (.slice (S c).1 (L c) (S c).2) ∧ w'.cell? ⟨A, off + d, none⟩ = some (.slice (S d).1 (L d) (S d).2)) V := fun V h => ⟨(h.cell (p := ⟨A, _, none⟩) hA).trans q0, (h.cell (p := ⟨A, _, none⟩) hA).trans q1⟩
                 clear hao
                 go_upto_region 22 with fail
                 go_cut [64] (fun z wx => z = .bool (rmB (L c) (q c) (L d) (q d)) ∧ Below wr.heap.size wr wx)
                 case first =>
                   clear HE HA HR HS2 HL
                   go_region_held3 (fun w' : World => w'.cell? ⟨A, off + c, none⟩ = some (.slice (S c).1 (L c) (S c).2) ∧ w'.cell? ⟨A, off + d, none⟩ = some (.slice (S d).1 (L d) (S d).2)) (refine HK _ ?_ <;> repeat (first | (with_reducible exact H0) | (with_reducible refine Below.drew ?_)))
                     (first
                       | (go_at_call 36; refine (MM _ (by with_reducible first | exact hsc | exact hsc.drew) (by with_reducible first | exact hsp | exact hsp.drew)).mono ?_; rintro e w3 ⟨rfl, hB⟩; (first | (have Hn : Below wr.heap.size wr w3 := (by with_reducible exact H0.trans (hB.mono H0.size))) | (have Hn : Below wr.heap.size wr w3 := (by with_reducible exact H0.drew.trans (hB.mono H0.drew.size)))); clear hB H0; have H0 := Hn; clear Hn))
                   all_goals go_wp2_with fail
                   all_goals go_meet
                   all_goals exact ⟨rfl, by first | (with_reducible exact H0) | (with_reducible exact H0.drew)⟩
                 case rest =>
                   obtain ⟨hq, hB⟩ := hcut
                   subst hq
                   have HBN := HB.trans (hB.mono HB.size)
                   clear hB HB HB2 H0 HK MM hsc hsp q0 q1 hA
                   cases hk : rmB (L c) (q c) (L d) (q d)
                   · have HK : Hid (rmB (L c) (q c) (L d) (q d) = false) := hk
                     clear hk
                     go_wp2
                     go_roundw
                     case rel => exact ⟨d + 1, by omega, by go_num, fun k hk => by
                       rcases Nat.lt_or_ge k d with h | h
                       · exact HE.out k h
                       · obtain rfl : k = d := by omega
                         exact HK.out, HBN⟩
                     case measure => simp [intOf]; omega
                   · have HO : Hid (lyF m L q = (3, (c : Int))) := by
                       show _ = _
                       rw [HO1.out]
                       unfold mfV
                       rw [firstP_some hcn (mtA_true hdn hk) HA.out]
                     have HBF := HBf.trans ((HBo.trans (HBN.mono HBo.size)).mono HBf.size)
                     clear hk HBN HBo HBf
                     go_wp2
                     go_ret2
                     exact ⟨by rw [HO.out]; rfl, HBF⟩
               · obtain rfl : d = c := by omega
                 have HBN := HBo.trans (HB.mono HBo.size)
                 have HM : Hid (mtA L q d = false) := mtA_false HE.out
                 clear HBo HB HB2
                 go_wp2
                 go_roundw
                 case rel => exact ⟨d + 1, by omega, by go_num, fun j hj => by
                   rcases Nat.lt_or_ge j d with h | h
                   · exact HA.out j h
                   · obtain rfl : j = d := by omega
                     exact HM.out, HBN⟩
                 case measure => simp [intOf]; omega
           · obtain rfl : m = c := by omega
             have HO : Hid (lyF m L q = (0, 0)) := by
               show _ = _
               rw [HO1.out]
               unfold mfV
               rw [firstP_none HA.out]
             have HBF := HBf.trans (HB.mono HBf.size)
             clear HS2 HR HL
             go_wp2
             go_ret2
             exact ⟨by rw [HO.out]; rfl, HBF⟩
def lyB (n : Nat) (L : Nat → Nat) (q : Nat → Ps) : Bool := decide ((lyF n L q).1 = 0)
set_option maxRecDepth 100000 in
set_option maxHeartbeats 4000000 in
theorem l6Ok_any (ao : Option Addr) (n cap : Nat) (S : Nat → Option Addr × Nat) (L : Nat → Nat) (q : Nat → Ps) (hn : n ≤ 1048576) (hL : ∀ i, i < n → L i ≤ 1048576) (w : World) (hS : RgIn w ao n S L q) : Calls Tryz.prog 40 #[.slice ao n cap] w (VP (.bool (lyB n L q)) w) := by
 have C := specLayerFault_any ao n cap S L q hn hL w hS
 unfold lyB
 unfold TwoP at C
 revert C
 generalize lyF n L q = o
 obtain ⟨o1, o2⟩ := o
 intro C
 clear hS hL
 go_enter Tryz.func40, Tryz.ntmps40
 go_wp2_with fail
 refine C.mono ?_
 rintro e w1 ⟨rfl, hB⟩
 by_cases h : o1 = 0
 · subst h
   go_wp2
   go_ret
   exact ⟨rfl, hB⟩
 · have hf : (o1 == 0) = false := by simp; omega
   have HD : Hid (decide (o1 = 0) = false) := decide_eq_false h
   go_wp2
   go_ret
   exact ⟨by simp only [HD.out]; rfl, hB⟩
set_option maxRecDepth 100000 in
set_option maxHeartbeats 4000000 in
theorem isLayer_any (ao : Option Addr) (n cap : Nat) (S : Nat → Option Addr × Nat) (L : Nat → Nat) (q : Nat → Ps) (hn : n ≤ 1048576) (hcap : n ≤ cap) (hcap2 : cap ≤ 9223372036854775807) (hL : ∀ i, i < n → L i ≤ 1048576) (hC : ∀ i, i < n → L i ≤ (S i).2 ∧ (S i).2 ≤ 9223372036854775807) (w : World) (hS : RgIn w ao n S L q) : Calls Tryz.prog 42 #[.slice ao n cap] w (VP (.bool (lyB n L q)) w) := by
 have C := implLayerFault_any ao n cap S L q hn hcap hcap2 hL hC w hS
 unfold lyB
 unfold TwoP at C
 revert C
 generalize lyF n L q = o
 obtain ⟨o1, o2⟩ := o
 intro C
 clear hS hL hC
 go_enter Tryz.func42, Tryz.ntmps42
 go_wp2_with fail
 refine C.mono ?_
 rintro e w1 ⟨rfl, hB⟩
 by_cases h : o1 = 0
 · subst h
   go_wp2
   go_ret
   exact ⟨rfl, hB⟩
 · have hf : (o1 == 0) = false := by simp; omega
   have HD : Hid (decide (o1 = 0) = false) := decide_eq_false h
   go_wp2
   go_ret
   exact ⟨by simp only [HD.out]; rfl, hB⟩
theorem lyB_ok {n : Nat} {L : Nat → Nat} {q : Nat → Ps} (h : lyB n L q = true) : n ≤ 6 ∧ ∀ i, i < n → RgOk (L i) (q i) := by
 have h0 : (lyF n L q).1 = 0 := of_decide_eq_true h
 unfold lyF at h0
 split at h0
 · cases h0
 · split at h0
   · cases h0
   · refine ⟨by omega, fun i hi => ?_⟩
     cases hf : firstP (fun i => decide (rgF (L i) (q i) ≠ 0)) n with
     | some j =>
       rw [hf] at h0
       have := rgF_in (L j) (q j)
       simp only at h0
       omega
     | none =>
       unfold firstP at hf
       rw [List.find?_eq_none] at hf
       have := hf i (by simpa using hi)
       simp only [decide_eq_true_eq, Decidable.not_not] at this
       exact rgF_ok this
def dpN (L : Nat → Nat) (q : Nat → Ps) (i : Nat) : Nat → Nat
 | 0 => 0
 | k + 1 => dpN L q i k + (if k ≠ i ∧ inB (q i) (L k) (q k) = true then 1 else 0)
theorem dpN_le (L : Nat → Nat) (q : Nat → Ps) (i : Nat) : ∀ k, dpN L q i k ≤ k
 | 0 => Nat.le_refl _
 | k + 1 => by
   have := dpN_le L q i k
   rw [dpN]
   split <;> omega
theorem dpN_on {L : Nat → Nat} {q : Nat → Ps} {i k : Nat} (h : k ≠ i) (hb : inB (q i) (L k) (q k) = true) : dpN L q i (k + 1) = dpN L q i k + 1 := by rw [dpN, if_pos ⟨h, hb⟩]
theorem dpN_off {L : Nat → Nat} {q : Nat → Ps} {i k : Nat} (h : k = i ∨ inB (q i) (L k) (q k) = false) : dpN L q i (k + 1) = dpN L q i k := by
 rw [dpN, if_neg]
 · rfl
 · rintro ⟨h1, h2⟩
   rcases h with h | h
   · exact h1 h
   · rw [h] at h2; cases h2
def VregDepM (n cap A off c i : Nat) (S : Nat → Option Addr × Nat) (L : Nat → Nat) (q : Nat → Ps) (_B : Nat) : Nat → Value → World → Prop
 | 0, v, _ => v = .int .i64 (c : Int)
 | 1, v, _ => v = .int .i64 (i : Int)
 | 2, v, _ => v = .bool true
 | 3, v, _ => v = .bool true
 | 4, v, _ => v = .slice (some ⟨A, off, none⟩) n cap
 | 5, v, _ => v = .int .i64 (i : Int)
 | 6, v, _ => v = .pointer (some ⟨A, off + i, none⟩)
 | 7, v, _ => v = .agg #[.slice (S i).1 (L i) (S i).2]
 | 8, v, _ => v = .slice (some ⟨A, off, none⟩) n cap
 | 9, v, _ => v = .int .i64 (c : Int)
 | 10, v, _ => v = .pointer (some ⟨A, off + c, none⟩)
 | 11, v, _ => v = .agg #[.slice (S c).1 (L c) (S c).2]
 | 12, v, _ => v = .bool (inB (q i) (L c) (q c))
 | 13, v, _ => v = .bool (inB (q i) (L c) (q c))
 | _, _, _ => True
theorem VregDepM.mono {n cap A off c i : Nat} {S : Nat → Option Addr × Nat} {L : Nat → Nat} {q : Nat → Ps} {B j : Nat} {v : Value} {W W2 : World} (_hB : Below W.heap.size W W2) (h : VregDepM n cap A off c i S L q B j v W) : VregDepM n cap A off c i S L q B j v W2 := by
 unfold VregDepM at *
 split <;> simp only at h <;> first | exact h | trivial
set_option maxRecDepth 100000 in
set_option maxHeartbeats 4000000 in
theorem regDepM {Q : Exit → Act → World → Prop} {n cap A off c i : Nat} {S : Nat → Option Addr × Nat} {L : Nat → Nat} {q : Nat → Ps}  {w0 : World} {a0 : Act} {idq : Nat} {t0 t1 t2 t3 t4 t5 t6 t7 t8 t9 t10 t11 t12 t13 : TypeId} {q0 q1 q2 q3 q4 q5 q6 q7 q8 q9 q10 q11 q12 q13 : String}
   (hc : c < n) (hi : i < n) (hci : c ≠ i) (hn : n ≤ 6) (hpi : RgOk (L i) (q i)) (hpc : RgOk (L c) (q c)) (hSi : SpIn w0 (S i).1 (L i) (q i)) (hSc : SpIn w0 (S c).1 (L c) (q c)) (h0 : a0.tmps[0]? = some (.slice (some ⟨A, off, none⟩) n cap)) (h1 : a0.tmps[1]? = some (.int .i64 (i : Int))) (h6 : a0.tmps[6]? = some (.int .i64 (c : Int))) (k0 : w0.cell? ⟨A, off + i, none⟩ = some (.slice (S i).1 (L i) (S i).2)) (l0 : (⟨A, off + i, none⟩ : Addr).block < w0.heap.size) (k1 : w0.cell? ⟨A, off + c, none⟩ = some (.slice (S c).1 (L c) (S c).2)) (l1 : (⟨A, off + c, none⟩ : Addr).block < w0.heap.size) (hz : a0.tmps.size = 30)
   (hQ : ∀ aq W, aq.tmps.size = a0.tmps.size → aq.defers = a0.defers → (∀ e, e ∉ ([13, 14, 15, 16, 17, 18, 19, 20, 21, 22, 23, 24, 25, 26] : List Nat) → aq.tmps[e]? = a0.tmps[e]?) → VregDepM n cap A off c i S L q w0.heap.size 13 (aq.tmps.getD 26 undef) W → Below w0.heap.size w0 W → Q .normal aq W) :
   (Code.region idq #[{ dst := some 13, op := Op.move (Operand.tmp 6), type := t0, pos := q0, after := #[], guard := none },
   { dst := some 14, op := Op.move (Operand.tmp 1), type := t1, pos := q1, after := #[], guard := none },
   { dst := some 15, op := Op.binOp BinOp.neq 3 (Operand.tmp 13) (Operand.tmp 14) 3, type := t2, pos := q2, after := #[{ on := 0, ground := Ground.data }, { on := 1, ground := Ground.data }], guard := none },
   { dst := some 16, op := Op.move (Operand.tmp 15), type := t3, pos := q3, after := #[{ on := 2, ground := Ground.data }], guard := none },
   { dst := some 17, op := Op.move (Operand.tmp 0), type := t4, pos := q4, after := #[{ on := 3, ground := Ground.guard }], guard := some (3, true) },
   { dst := some 18, op := Op.move (Operand.tmp 1), type := t5, pos := q5, after := #[{ on := 3, ground := Ground.guard }], guard := some (3, true) },
   { dst := some 19, op := Op.indexAddr 46 (Operand.tmp 17) (Operand.tmp 18), type := t6, pos := q6, after := #[{ on := 4, ground := Ground.data }, { on := 5, ground := Ground.data }, { on := 3, ground := Ground.guard }], guard := some (3, true) },
   { dst := some 20, op := Op.load 34 (Operand.tmp 19), type := t7, pos := q7, after := #[{ on := 6, ground := Ground.data }, { on := 3, ground := Ground.guard }], guard := some (3, true) },
   { dst := some 21, op := Op.move (Operand.tmp 0), type := t8, pos := q8, after := #[{ on := 3, ground := Ground.guard }], guard := some (3, true) },
   { dst := some 22, op := Op.move (Operand.tmp 6), type := t9, pos := q9, after := #[{ on := 3, ground := Ground.guard }], guard := some (3, true) },
   { dst := some 23, op := Op.indexAddr 46 (Operand.tmp 21) (Operand.tmp 22), type := t10, pos := q10, after := #[{ on := 8, ground := Ground.data }, { on := 9, ground := Ground.data }, { on := 3, ground := Ground.guard }], guard := some (3, true) },
   { dst := some 24, op := Op.load 34 (Operand.tmp 23), type := t11, pos := q11, after := #[{ on := 10, ground := Ground.data }, { on := 3, ground := Ground.guard }], guard := some (3, true) },
   { dst := some 25, op := Op.call { callee := Callee.value (Operand.func 37), args := #[Operand.tmp 20, Operand.tmp 24], argTypes := #[34, 34] }, type := t12, pos := q12, after := #[{ on := 7, ground := Ground.data }, { on := 11, ground := Ground.data }, { on := 3, ground := Ground.chain }, { on := 3, ground := Ground.guard }], guard := some (3, true) },
   { dst := some 26, op := Op.pick (Operand.tmp 16) (Operand.tmp 25) (Operand.const (Value.bool false)), type := t13, pos := q13, after := #[{ on := 3, ground := Ground.data }, { on := 12, ground := Ground.data }], guard := none }] true).wp Tryz.prog Q a0 w0 := by
 have hS : distS [some 13, some 14, some 15, some 16, some 17, some 18, some 19, some 20, some 21, some 22, some 23, some 24, some 25, some 26] = true := rfl
 refine wp_region_q (by kernel_rfl) w0.heap.size [some 13, some 14, some 15, some 16, some 17, some 18, some 19, some 20, some 21, some 22, some 23, some 24, some 25, some 26] (VregDepM n cap A off c i S L q w0.heap.size) rfl ?_ ?_
 · intro Q lq aq W iq oq hJ hl ho hall
   have hJ2 := hJ
   obtain ⟨z1, z2, z3, z4, z5, z6, z7⟩ := hJ
   have g0 : aq.tmps.getD 0 undef = .slice (some ⟨A, off, none⟩) n cap := by rw [Array.getD_eq_getD_getElem?, z4 0 (by decide), h0]; rfl
   have g1 : aq.tmps.getD 1 undef = .int .i64 (i : Int) := by rw [Array.getD_eq_getD_getElem?, z4 1 (by decide), h1]; rfl
   have g6 : aq.tmps.getD 6 undef = .int .i64 (c : Int) := by rw [Array.getD_eq_getD_getElem?, z4 6 (by decide), h6]; rfl
   have c0 : W.cell? ⟨A, off + i, none⟩ = some (.slice (S i).1 (L i) (S i).2) := (z5.cell l0).trans k0
   have c1 : W.cell? ⟨A, off + c, none⟩ = some (.slice (S c).1 (L c) (S c).2) := (z5.cell l1).trans k1
   match iq, ho with
   | 0, ho =>
     cases ho
     refine wpOp_of rfl rfl ?_
     have hK := fun (v : Value) (W2 : World) hW hT hv => hJ2.put hS 0 13 rfl (by omega) (W' := W2) hW hT v hv
     clear ho hall hl hQ
     generalize InvQ w0.heap.size [some 13, some 14, some 15, some 16, some 17, some 18, some 19, some 20, some 21, some 22, some 23, some 24, some 25, some 26] (VregDepM n cap A off c i S L q w0.heap.size) w0 a0 (lq.setIfInBounds 0 true) = K at hK ⊢
     clear hJ2 hS z1 z2 z3 z4 z6 z7
     go_simp
     exact hK _ _ z5 (fun _ _ h => h) rfl
   | 1, ho =>
     cases ho
     refine wpOp_of rfl rfl ?_
     have hK := fun (v : Value) (W2 : World) hW hT hv => hJ2.put hS 1 14 rfl (by omega) (W' := W2) hW hT v hv
     clear ho hall hl hQ
     generalize InvQ w0.heap.size [some 13, some 14, some 15, some 16, some 17, some 18, some 19, some 20, some 21, some 22, some 23, some 24, some 25, some 26] (VregDepM n cap A off c i S L q w0.heap.size) w0 a0 (lq.setIfInBounds 1 true) = K at hK ⊢
     clear hJ2 hS z1 z2 z3 z4 z6 z7
     go_simp
     exact hK _ _ z5 (fun _ _ h => h) rfl
   | 2, ho =>
     cases ho
     refine wpOp_of rfl rfl ?_
     have f0 : (aq.tmps.getD 13 undef) = .int .i64 (c : Int) := z6 0 13 (hall { on := 0, ground := Ground.data } (by simp) rfl) rfl
     have f1 : (aq.tmps.getD 14 undef) = .int .i64 (i : Int) := z6 1 14 (hall { on := 1, ground := Ground.data } (by simp) rfl) rfl
     have hne : ((c : Int) != (i : Int)) = true := by simp; omega
     have hK := fun (v : Value) (W2 : World) hW hT hv => hJ2.put hS 2 15 rfl (by omega) (W' := W2) hW hT v hv
     clear ho hall hl hQ
     generalize InvQ w0.heap.size [some 13, some 14, some 15, some 16, some 17, some 18, some 19, some 20, some 21, some 22, some 23, some 24, some 25, some 26] (VregDepM n cap A off c i S L q w0.heap.size) w0 a0 (lq.setIfInBounds 2 true) = K at hK ⊢
     clear hJ2 hS z1 z2 z3 z4 z6 z7
     go_simp
     exact hK _ _ z5 (fun _ _ h => h) rfl
   | 3, ho =>
     cases ho
     refine wpOp_of rfl rfl ?_
     have f2 : (aq.tmps.getD 15 undef) = .bool true := z6 2 15 (hall { on := 2, ground := Ground.data } (by simp) rfl) rfl
     have hK := fun (v : Value) (W2 : World) hW hT hv => hJ2.put hS 3 16 rfl (by omega) (W' := W2) hW hT v hv
     clear ho hall hl hQ
     generalize InvQ w0.heap.size [some 13, some 14, some 15, some 16, some 17, some 18, some 19, some 20, some 21, some 22, some 23, some 24, some 25, some 26] (VregDepM n cap A off c i S L q w0.heap.size) w0 a0 (lq.setIfInBounds 3 true) = K at hK ⊢
     clear hJ2 hS z1 z2 z3 z4 z6 z7
     go_simp
     exact hK _ _ z5 (fun _ _ h => h) rfl
   | 4, ho =>
     cases ho
     have fg : aq.tmps.getD 16 undef = .bool true := z6 3 16 (hall { on := 3, ground := Ground.guard } (by simp) rfl) rfl
     refine wpOp_on rfl rfl rfl rfl fg ?_
     have hK := fun (v : Value) (W2 : World) hW hT hv => hJ2.put hS 4 17 rfl (by omega) (W' := W2) hW hT v hv
     clear ho hall hl hQ
     generalize InvQ w0.heap.size [some 13, some 14, some 15, some 16, some 17, some 18, some 19, some 20, some 21, some 22, some 23, some 24, some 25, some 26] (VregDepM n cap A off c i S L q w0.heap.size) w0 a0 (lq.setIfInBounds 4 true) = K at hK ⊢
     clear hJ2 hS z1 z2 z3 z4 z6 z7
     go_simp
     exact hK _ _ z5 (fun _ _ h => h) rfl
   | 5, ho =>
     cases ho
     have fg : aq.tmps.getD 16 undef = .bool true := z6 3 16 (hall { on := 3, ground := Ground.guard } (by simp) rfl) rfl
     refine wpOp_on rfl rfl rfl rfl fg ?_
     have hK := fun (v : Value) (W2 : World) hW hT hv => hJ2.put hS 5 18 rfl (by omega) (W' := W2) hW hT v hv
     clear ho hall hl hQ
     generalize InvQ w0.heap.size [some 13, some 14, some 15, some 16, some 17, some 18, some 19, some 20, some 21, some 22, some 23, some 24, some 25, some 26] (VregDepM n cap A off c i S L q w0.heap.size) w0 a0 (lq.setIfInBounds 5 true) = K at hK ⊢
     clear hJ2 hS z1 z2 z3 z4 z6 z7
     go_simp
     exact hK _ _ z5 (fun _ _ h => h) rfl
   | 6, ho =>
     cases ho
     have fg : aq.tmps.getD 16 undef = .bool true := z6 3 16 (hall { on := 3, ground := Ground.guard } (by simp) rfl) rfl
     refine wpOp_on rfl rfl rfl rfl fg ?_
     have f4 : (aq.tmps.getD 17 undef) = .slice (some ⟨A, off, none⟩) n cap := z6 4 17 (hall { on := 4, ground := Ground.data } (by simp) rfl) rfl
     have f5 : (aq.tmps.getD 18 undef) = .int .i64 (i : Int) := z6 5 18 (hall { on := 5, ground := Ground.data } (by simp) rfl) rfl
     have hiI : (i : Int) < n := by omega
     have hcI : (c : Int) < n := by omega
     have hnI : (n : Int) ≤ 6 := by omega
     have hK := fun (v : Value) (W2 : World) hW hT hv => hJ2.put hS 6 19 rfl (by omega) (W' := W2) hW hT v hv
     clear ho hall hl hQ
     generalize InvQ w0.heap.size [some 13, some 14, some 15, some 16, some 17, some 18, some 19, some 20, some 21, some 22, some 23, some 24, some 25, some 26] (VregDepM n cap A off c i S L q w0.heap.size) w0 a0 (lq.setIfInBounds 6 true) = K at hK ⊢
     clear hJ2 hS z1 z2 z3 z4 z6 z7
     go_simp
     exact hK _ _ z5 (fun _ _ h => h) rfl
   | 7, ho =>
     cases ho
     have fg : aq.tmps.getD 16 undef = .bool true := z6 3 16 (hall { on := 3, ground := Ground.guard } (by simp) rfl) rfl
     refine wpOp_on rfl rfl rfl rfl fg ?_
     have f6 : (aq.tmps.getD 19 undef) = .pointer (some ⟨A, off + i, none⟩) := z6 6 19 (hall { on := 6, ground := Ground.data } (by simp) rfl) rfl
     have hK := fun (v : Value) (W2 : World) hW hT hv => hJ2.put hS 7 20 rfl (by omega) (W' := W2) hW hT v hv
     clear ho hall hl hQ
     generalize InvQ w0.heap.size [some 13, some 14, some 15, some 16, some 17, some 18, some 19, some 20, some 21, some 22, some 23, some 24, some 25, some 26] (VregDepM n cap A off c i S L q w0.heap.size) w0 a0 (lq.setIfInBounds 7 true) = K at hK ⊢
     clear hJ2 hS z1 z2 z3 z4 z6 z7
     go_simp
     exact hK _ _ z5 (fun _ _ h => h) rfl
   | 8, ho =>
     cases ho
     have fg : aq.tmps.getD 16 undef = .bool true := z6 3 16 (hall { on := 3, ground := Ground.guard } (by simp) rfl) rfl
     refine wpOp_on rfl rfl rfl rfl fg ?_
     have hK := fun (v : Value) (W2 : World) hW hT hv => hJ2.put hS 8 21 rfl (by omega) (W' := W2) hW hT v hv
     clear ho hall hl hQ
     generalize InvQ w0.heap.size [some 13, some 14, some 15, some 16, some 17, some 18, some 19, some 20, some 21, some 22, some 23, some 24, some 25, some 26] (VregDepM n cap A off c i S L q w0.heap.size) w0 a0 (lq.setIfInBounds 8 true) = K at hK ⊢
     clear hJ2 hS z1 z2 z3 z4 z6 z7
     go_simp
     exact hK _ _ z5 (fun _ _ h => h) rfl
   | 9, ho =>
     cases ho
     have fg : aq.tmps.getD 16 undef = .bool true := z6 3 16 (hall { on := 3, ground := Ground.guard } (by simp) rfl) rfl
     refine wpOp_on rfl rfl rfl rfl fg ?_
     have hK := fun (v : Value) (W2 : World) hW hT hv => hJ2.put hS 9 22 rfl (by omega) (W' := W2) hW hT v hv
     clear ho hall hl hQ
     generalize InvQ w0.heap.size [some 13, some 14, some 15, some 16, some 17, some 18, some 19, some 20, some 21, some 22, some 23, some 24, some 25, some 26] (VregDepM n cap A off c i S L q w0.heap.size) w0 a0 (lq.setIfInBounds 9 true) = K at hK ⊢
     clear hJ2 hS z1 z2 z3 z4 z6 z7
     go_simp
     exact hK _ _ z5 (fun _ _ h => h) rfl
   | 10, ho =>
     cases ho
     have fg : aq.tmps.getD 16 undef = .bool true := z6 3 16 (hall { on := 3, ground := Ground.guard } (by simp) rfl) rfl
     refine wpOp_on rfl rfl rfl rfl fg ?_
     have f8 : (aq.tmps.getD 21 undef) = .slice (some ⟨A, off, none⟩) n cap := z6 8 21 (hall { on := 8, ground := Ground.data } (by simp) rfl) rfl
     have f9 : (aq.tmps.getD 22 undef) = .int .i64 (c : Int) := z6 9 22 (hall { on := 9, ground := Ground.data } (by simp) rfl) rfl
     have hiI : (i : Int) < n := by omega
     have hcI : (c : Int) < n := by omega
     have hnI : (n : Int) ≤ 6 := by omega
     have hK := fun (v : Value) (W2 : World) hW hT hv => hJ2.put hS 10 23 rfl (by omega) (W' := W2) hW hT v hv
     clear ho hall hl hQ
     generalize InvQ w0.heap.size [some 13, some 14, some 15, some 16, some 17, some 18, some 19, some 20, some 21, some 22, some 23, some 24, some 25, some 26] (VregDepM n cap A off c i S L q w0.heap.size) w0 a0 (lq.setIfInBounds 10 true) = K at hK ⊢
     clear hJ2 hS z1 z2 z3 z4 z6 z7
     go_simp
     exact hK _ _ z5 (fun _ _ h => h) rfl
   | 11, ho =>
     cases ho
     have fg : aq.tmps.getD 16 undef = .bool true := z6 3 16 (hall { on := 3, ground := Ground.guard } (by simp) rfl) rfl
     refine wpOp_on rfl rfl rfl rfl fg ?_
     have f10 : (aq.tmps.getD 23 undef) = .pointer (some ⟨A, off + c, none⟩) := z6 10 23 (hall { on := 10, ground := Ground.data } (by simp) rfl) rfl
     have hK := fun (v : Value) (W2 : World) hW hT hv => hJ2.put hS 11 24 rfl (by omega) (W' := W2) hW hT v hv
     clear ho hall hl hQ
     generalize InvQ w0.heap.size [some 13, some 14, some 15, some 16, some 17, some 18, some 19, some 20, some 21, some 22, some 23, some 24, some 25, some 26] (VregDepM n cap A off c i S L q w0.heap.size) w0 a0 (lq.setIfInBounds 11 true) = K at hK ⊢
     clear hJ2 hS z1 z2 z3 z4 z6 z7
     go_simp
     exact hK _ _ z5 (fun _ _ h => h) rfl
   | 12, ho =>
     cases ho
     have fg : aq.tmps.getD 16 undef = .bool true := z6 3 16 (hall { on := 3, ground := Ground.guard } (by simp) rfl) rfl
     refine wpOp_on rfl rfl rfl rfl fg ?_
     have f7 : (aq.tmps.getD 20 undef) = .agg #[.slice (S i).1 (L i) (S i).2] := z6 7 20 (hall { on := 7, ground := Ground.data } (by simp) rfl) rfl
     have f11 : (aq.tmps.getD 24 undef) = .agg #[.slice (S c).1 (L c) (S c).2] := z6 11 24 (hall { on := 11, ground := Ground.data } (by simp) rfl) rfl
     have hK := fun (v : Value) (W2 : World) hW hT hv => hJ2.put hS 12 25 rfl (by omega) (W' := W2) hW hT v hv
     clear ho hall hl hQ
     generalize InvQ w0.heap.size [some 13, some 14, some 15, some 16, some 17, some 18, some 19, some 20, some 21, some 22, some 23, some 24, some 25, some 26] (VregDepM n cap A off c i S L q w0.heap.size) w0 a0 (lq.setIfInBounds 12 true) = K at hK ⊢
     clear hJ2 hS z1 z2 z3 z4 z6 z7
     go_simp
     refine (l5Within_any (S i).1 (S c).1 (L i) (S i).2 (L c) (S c).2 (q i) (q c) hpi hpc W (hSi.step z5) (hSc.step z5)).mono ?_
     rintro e v1 ⟨rfl, hBv⟩
     exact hK _ _ (z5.trans (hBv.mono z5.size)) (fun j v h => h.mono hBv) rfl
   | 13, ho =>
     cases ho
     refine wpOp_of rfl rfl ?_
     have f3 : (aq.tmps.getD 16 undef) = .bool true := z6 3 16 (hall { on := 3, ground := Ground.data } (by simp) rfl) rfl
     have f12 : (aq.tmps.getD 25 undef) = .bool (inB (q i) (L c) (q c)) := z6 12 25 (hall { on := 12, ground := Ground.data } (by simp) rfl) rfl
     have hK := fun (v : Value) (W2 : World) hW hT hv => hJ2.put hS 13 26 rfl (by omega) (W' := W2) hW hT v hv
     clear ho hall hl hQ
     generalize InvQ w0.heap.size [some 13, some 14, some 15, some 16, some 17, some 18, some 19, some 20, some 21, some 22, some 23, some 24, some 25, some 26] (VregDepM n cap A off c i S L q w0.heap.size) w0 a0 (lq.setIfInBounds 13 true) = K at hK ⊢
     clear hJ2 hS z1 z2 z3 z4 z6 z7
     cases hzb : inB (q i) (L c) (q c)
     all_goals rw [hzb] at f12
     all_goals have HZ : Hid (inB (q i) (L c) (q c) = _) := hzb
     all_goals clear hzb
     all_goals go_simp
     all_goals exact hK _ _ z5 (fun _ _ h => h) (congrArg Value.bool HZ.out.symm)
   | iq + 14, ho => simp at ho
 · intro lq aq W hJ hr
   obtain ⟨z1, z2, z3, z4, z5, z6, z7⟩ := hJ
   have hl := listed_of hr [0, 1, 2, 3, 4, 5, 6, 7, 8, 9, 10, 11, 12, 13] [] (by simp) (by kernel_rfl) (by rw [z1]; decide)
   exact hQ aq W z2 z3 (fun e he => z4 e (by simpa using he)) (z6 13 26 (hl 13 (by simp)) rfl) z5
def VregDepMo (c : Nat) (_B : Nat) : Nat → Value → World → Prop
 | 0, v, _ => v = .int .i64 (c : Int)
 | 1, v, _ => v = .int .i64 (c : Int)
 | 2, v, _ => v = .bool false
 | 3, v, _ => v = .bool false
 | 4, v, _ => v = undef
 | 5, v, _ => v = undef
 | 6, v, _ => v = undef
 | 7, v, _ => v = undef
 | 8, v, _ => v = undef
 | 9, v, _ => v = undef
 | 10, v, _ => v = undef
 | 11, v, _ => v = undef
 | 12, v, _ => v = undef
 | 13, v, _ => v = .bool false
 | _, _, _ => True
set_option maxRecDepth 100000 in
set_option maxHeartbeats 4000000 in
theorem regDepMo {Q : Exit → Act → World → Prop} {c : Nat}  {w0 : World} {a0 : Act} {idq : Nat} {t0 t1 t2 t3 t4 t5 t6 t7 t8 t9 t10 t11 t12 t13 : TypeId} {q0 q1 q2 q3 q4 q5 q6 q7 q8 q9 q10 q11 q12 q13 : String}
    (h1 : a0.tmps[1]? = some (.int .i64 (c : Int))) (h6 : a0.tmps[6]? = some (.int .i64 (c : Int)))  (hz : a0.tmps.size = 30)
   (hQ : ∀ aq W, aq.tmps.size = a0.tmps.size → aq.defers = a0.defers → (∀ e, e ∉ ([13, 14, 15, 16, 17, 18, 19, 20, 21, 22, 23, 24, 25, 26] : List Nat) → aq.tmps[e]? = a0.tmps[e]?) → VregDepMo c w0.heap.size 13 (aq.tmps.getD 26 undef) W → Below w0.heap.size w0 W → Q .normal aq W) :
   (Code.region idq #[{ dst := some 13, op := Op.move (Operand.tmp 6), type := t0, pos := q0, after := #[], guard := none },
   { dst := some 14, op := Op.move (Operand.tmp 1), type := t1, pos := q1, after := #[], guard := none },
   { dst := some 15, op := Op.binOp BinOp.neq 3 (Operand.tmp 13) (Operand.tmp 14) 3, type := t2, pos := q2, after := #[{ on := 0, ground := Ground.data }, { on := 1, ground := Ground.data }], guard := none },
   { dst := some 16, op := Op.move (Operand.tmp 15), type := t3, pos := q3, after := #[{ on := 2, ground := Ground.data }], guard := none },
   { dst := some 17, op := Op.move (Operand.tmp 0), type := t4, pos := q4, after := #[{ on := 3, ground := Ground.guard }], guard := some (3, true) },
   { dst := some 18, op := Op.move (Operand.tmp 1), type := t5, pos := q5, after := #[{ on := 3, ground := Ground.guard }], guard := some (3, true) },
   { dst := some 19, op := Op.indexAddr 46 (Operand.tmp 17) (Operand.tmp 18), type := t6, pos := q6, after := #[{ on := 4, ground := Ground.data }, { on := 5, ground := Ground.data }, { on := 3, ground := Ground.guard }], guard := some (3, true) },
   { dst := some 20, op := Op.load 34 (Operand.tmp 19), type := t7, pos := q7, after := #[{ on := 6, ground := Ground.data }, { on := 3, ground := Ground.guard }], guard := some (3, true) },
   { dst := some 21, op := Op.move (Operand.tmp 0), type := t8, pos := q8, after := #[{ on := 3, ground := Ground.guard }], guard := some (3, true) },
   { dst := some 22, op := Op.move (Operand.tmp 6), type := t9, pos := q9, after := #[{ on := 3, ground := Ground.guard }], guard := some (3, true) },
   { dst := some 23, op := Op.indexAddr 46 (Operand.tmp 21) (Operand.tmp 22), type := t10, pos := q10, after := #[{ on := 8, ground := Ground.data }, { on := 9, ground := Ground.data }, { on := 3, ground := Ground.guard }], guard := some (3, true) },
   { dst := some 24, op := Op.load 34 (Operand.tmp 23), type := t11, pos := q11, after := #[{ on := 10, ground := Ground.data }, { on := 3, ground := Ground.guard }], guard := some (3, true) },
   { dst := some 25, op := Op.call { callee := Callee.value (Operand.func 37), args := #[Operand.tmp 20, Operand.tmp 24], argTypes := #[34, 34] }, type := t12, pos := q12, after := #[{ on := 7, ground := Ground.data }, { on := 11, ground := Ground.data }, { on := 3, ground := Ground.chain }, { on := 3, ground := Ground.guard }], guard := some (3, true) },
   { dst := some 26, op := Op.pick (Operand.tmp 16) (Operand.tmp 25) (Operand.const (Value.bool false)), type := t13, pos := q13, after := #[{ on := 3, ground := Ground.data }, { on := 12, ground := Ground.data }], guard := none }] true).wp Tryz.prog Q a0 w0 := by
 have hS : distS [some 13, some 14, some 15, some 16, some 17, some 18, some 19, some 20, some 21, some 22, some 23, some 24, some 25, some 26] = true := rfl
 refine wp_region_q (by kernel_rfl) w0.heap.size [some 13, some 14, some 15, some 16, some 17, some 18, some 19, some 20, some 21, some 22, some 23, some 24, some 25, some 26] (VregDepMo c w0.heap.size) rfl ?_ ?_
 · intro Q lq aq W iq oq hJ hl ho hall
   have hJ2 := hJ
   obtain ⟨z1, z2, z3, z4, z5, z6, z7⟩ := hJ
   have g1 : aq.tmps.getD 1 undef = .int .i64 (c : Int) := by rw [Array.getD_eq_getD_getElem?, z4 1 (by decide), h1]; rfl
   have g6 : aq.tmps.getD 6 undef = .int .i64 (c : Int) := by rw [Array.getD_eq_getD_getElem?, z4 6 (by decide), h6]; rfl
   match iq, ho with
   | 0, ho =>
     cases ho
     refine wpOp_of rfl rfl ?_
     have hK := fun (v : Value) (W2 : World) hW hT hv => hJ2.put hS 0 13 rfl (by omega) (W' := W2) hW hT v hv
     clear ho hall hl hQ
     generalize InvQ w0.heap.size [some 13, some 14, some 15, some 16, some 17, some 18, some 19, some 20, some 21, some 22, some 23, some 24, some 25, some 26] (VregDepMo c w0.heap.size) w0 a0 (lq.setIfInBounds 0 true) = K at hK ⊢
     clear hJ2 hS z1 z2 z3 z4 z6 z7
     go_simp
     exact hK _ _ z5 (fun _ _ h => h) rfl
   | 1, ho =>
     cases ho
     refine wpOp_of rfl rfl ?_
     have hK := fun (v : Value) (W2 : World) hW hT hv => hJ2.put hS 1 14 rfl (by omega) (W' := W2) hW hT v hv
     clear ho hall hl hQ
     generalize InvQ w0.heap.size [some 13, some 14, some 15, some 16, some 17, some 18, some 19, some 20, some 21, some 22, some 23, some 24, some 25, some 26] (VregDepMo c w0.heap.size) w0 a0 (lq.setIfInBounds 1 true) = K at hK ⊢
     clear hJ2 hS z1 z2 z3 z4 z6 z7
     go_simp
     exact hK _ _ z5 (fun _ _ h => h) rfl
   | 2, ho =>
     cases ho
     refine wpOp_of rfl rfl ?_
     have f0 : (aq.tmps.getD 13 undef) = .int .i64 (c : Int) := z6 0 13 (hall { on := 0, ground := Ground.data } (by simp) rfl) rfl
     have f1 : (aq.tmps.getD 14 undef) = .int .i64 (c : Int) := z6 1 14 (hall { on := 1, ground := Ground.data } (by simp) rfl) rfl
     have hK := fun (v : Value) (W2 : World) hW hT hv => hJ2.put hS 2 15 rfl (by omega) (W' := W2) hW hT v hv
     clear ho hall hl hQ
     generalize InvQ w0.heap.size [some 13, some 14, some 15, some 16, some 17, some 18, some 19, some 20, some 21, some 22, some 23, some 24, some 25, some 26] (VregDepMo c w0.heap.size) w0 a0 (lq.setIfInBounds 2 true) = K at hK ⊢
     clear hJ2 hS z1 z2 z3 z4 z6 z7
     go_simp
     exact hK _ _ z5 (fun _ _ h => h) rfl
   | 3, ho =>
     cases ho
     refine wpOp_of rfl rfl ?_
     have f2 : (aq.tmps.getD 15 undef) = .bool false := z6 2 15 (hall { on := 2, ground := Ground.data } (by simp) rfl) rfl
     have hK := fun (v : Value) (W2 : World) hW hT hv => hJ2.put hS 3 16 rfl (by omega) (W' := W2) hW hT v hv
     clear ho hall hl hQ
     generalize InvQ w0.heap.size [some 13, some 14, some 15, some 16, some 17, some 18, some 19, some 20, some 21, some 22, some 23, some 24, some 25, some 26] (VregDepMo c w0.heap.size) w0 a0 (lq.setIfInBounds 3 true) = K at hK ⊢
     clear hJ2 hS z1 z2 z3 z4 z6 z7
     go_simp
     exact hK _ _ z5 (fun _ _ h => h) rfl
   | 4, ho =>
     cases ho
     have fg : aq.tmps.getD 16 undef = .bool false := z6 3 16 (hall { on := 3, ground := Ground.guard } (by simp) rfl) rfl
     refine wpOp_off rfl rfl rfl rfl fg ?_
     exact hJ2.put hS 4 17 rfl (by omega) z5 (fun _ _ h => h) undef rfl
   | 5, ho =>
     cases ho
     have fg : aq.tmps.getD 16 undef = .bool false := z6 3 16 (hall { on := 3, ground := Ground.guard } (by simp) rfl) rfl
     refine wpOp_off rfl rfl rfl rfl fg ?_
     exact hJ2.put hS 5 18 rfl (by omega) z5 (fun _ _ h => h) undef rfl
   | 6, ho =>
     cases ho
     have fg : aq.tmps.getD 16 undef = .bool false := z6 3 16 (hall { on := 3, ground := Ground.guard } (by simp) rfl) rfl
     refine wpOp_off rfl rfl rfl rfl fg ?_
     exact hJ2.put hS 6 19 rfl (by omega) z5 (fun _ _ h => h) undef rfl
   | 7, ho =>
     cases ho
     have fg : aq.tmps.getD 16 undef = .bool false := z6 3 16 (hall { on := 3, ground := Ground.guard } (by simp) rfl) rfl
     refine wpOp_off rfl rfl rfl rfl fg ?_
     exact hJ2.put hS 7 20 rfl (by omega) z5 (fun _ _ h => h) undef rfl
   | 8, ho =>
     cases ho
     have fg : aq.tmps.getD 16 undef = .bool false := z6 3 16 (hall { on := 3, ground := Ground.guard } (by simp) rfl) rfl
     refine wpOp_off rfl rfl rfl rfl fg ?_
     exact hJ2.put hS 8 21 rfl (by omega) z5 (fun _ _ h => h) undef rfl
   | 9, ho =>
     cases ho
     have fg : aq.tmps.getD 16 undef = .bool false := z6 3 16 (hall { on := 3, ground := Ground.guard } (by simp) rfl) rfl
     refine wpOp_off rfl rfl rfl rfl fg ?_
     exact hJ2.put hS 9 22 rfl (by omega) z5 (fun _ _ h => h) undef rfl
   | 10, ho =>
     cases ho
     have fg : aq.tmps.getD 16 undef = .bool false := z6 3 16 (hall { on := 3, ground := Ground.guard } (by simp) rfl) rfl
     refine wpOp_off rfl rfl rfl rfl fg ?_
     exact hJ2.put hS 10 23 rfl (by omega) z5 (fun _ _ h => h) undef rfl
   | 11, ho =>
     cases ho
     have fg : aq.tmps.getD 16 undef = .bool false := z6 3 16 (hall { on := 3, ground := Ground.guard } (by simp) rfl) rfl
     refine wpOp_off rfl rfl rfl rfl fg ?_
     exact hJ2.put hS 11 24 rfl (by omega) z5 (fun _ _ h => h) undef rfl
   | 12, ho =>
     cases ho
     have fg : aq.tmps.getD 16 undef = .bool false := z6 3 16 (hall { on := 3, ground := Ground.guard } (by simp) rfl) rfl
     refine wpOp_off rfl rfl rfl rfl fg ?_
     exact hJ2.put hS 12 25 rfl (by omega) z5 (fun _ _ h => h) undef rfl
   | 13, ho =>
     cases ho
     refine wpOp_of rfl rfl ?_
     have f3 : (aq.tmps.getD 16 undef) = .bool false := z6 3 16 (hall { on := 3, ground := Ground.data } (by simp) rfl) rfl
     have f12 : (aq.tmps.getD 25 undef) = undef := z6 12 25 (hall { on := 12, ground := Ground.data } (by simp) rfl) rfl
     have hK := fun (v : Value) (W2 : World) hW hT hv => hJ2.put hS 13 26 rfl (by omega) (W' := W2) hW hT v hv
     clear ho hall hl hQ
     generalize InvQ w0.heap.size [some 13, some 14, some 15, some 16, some 17, some 18, some 19, some 20, some 21, some 22, some 23, some 24, some 25, some 26] (VregDepMo c w0.heap.size) w0 a0 (lq.setIfInBounds 13 true) = K at hK ⊢
     clear hJ2 hS z1 z2 z3 z4 z6 z7
     go_simp
     exact hK _ _ z5 (fun _ _ h => h) rfl
   | iq + 14, ho => simp at ho
 · intro lq aq W hJ hr
   obtain ⟨z1, z2, z3, z4, z5, z6, z7⟩ := hJ
   have hl := listed_of hr [0, 1, 2, 3, 4, 5, 6, 7, 8, 9, 10, 11, 12, 13] [] (by simp) (by kernel_rfl) (by rw [z1]; decide)
   exact hQ aq W z2 z3 (fun e he => z4 e (by simpa using he)) (z6 13 26 (hl 13 (by simp)) rfl) z5
def VregDepI (n cap A off c i : Nat) (S : Nat → Option Addr × Nat) (L : Nat → Nat) (q : Nat → Ps) (_B : Nat) : Nat → Value → World → Prop
 | 0, v, _ => v = .int .i64 (c : Int)
 | 1, v, _ => v = .int .i64 (i : Int)
 | 2, v, _ => v = .bool true
 | 3, v, _ => v = .bool true
 | 4, v, _ => v = .slice (some ⟨A, off, none⟩) n cap
 | 5, v, _ => v = .int .i64 (i : Int)
 | 6, v, _ => v = .pointer (some ⟨A, off + i, none⟩)
 | 7, v, _ => v = .agg #[.slice (S i).1 (L i) (S i).2]
 | 8, v, _ => v = .agg #[.slice (S c).1 (L c) (S c).2]
 | 9, v, _ => v = .bool (inB (q i) (L c) (q c))
 | 10, v, _ => v = .bool (inB (q i) (L c) (q c))
 | _, _, _ => True
theorem VregDepI.mono {n cap A off c i : Nat} {S : Nat → Option Addr × Nat} {L : Nat → Nat} {q : Nat → Ps} {B j : Nat} {v : Value} {W W2 : World} (_hB : Below W.heap.size W W2) (h : VregDepI n cap A off c i S L q B j v W) : VregDepI n cap A off c i S L q B j v W2 := by
 unfold VregDepI at *
 split <;> simp only at h <;> first | exact h | trivial
set_option maxRecDepth 100000 in
set_option maxHeartbeats 4000000 in
theorem regDepI {Q : Exit → Act → World → Prop} {n cap A off c i : Nat} {S : Nat → Option Addr × Nat} {L : Nat → Nat} {q : Nat → Ps} {Br : Nat} {w0 : World} {a0 : Act} {idq : Nat} {t0 t1 t2 t3 t4 t5 t6 t7 t8 t9 t10 : TypeId} {q0 q1 q2 q3 q4 q5 q6 q7 q8 q9 q10 : String}
   (hi : i < n) (hci : c ≠ i) (hn : n ≤ 6) (hpi : RgOk (L i) (q i)) (hpc : RgOk (L c) (q c)) (hSi : SpIn w0 (S i).1 (L i) (q i)) (hSc : SpIn w0 (S c).1 (L c) (q c)) (h0 : a0.tmps[0]? = some (.slice (some ⟨A, off, none⟩) n cap)) (h1 : a0.tmps[1]? = some (.int .i64 (i : Int))) (h6 : a0.tmps[6]? = some (.int .i64 (c : Int))) (h7 : a0.tmps[7]? = some (.pointer (some ⟨Br, 0, none⟩))) (k0 : w0.cell? ⟨A, off + i, none⟩ = some (.slice (S i).1 (L i) (S i).2)) (l0 : (⟨A, off + i, none⟩ : Addr).block < w0.heap.size) (k1 : w0.cell? ⟨Br, 0, none⟩ = some (.slice (S c).1 (L c) (S c).2)) (l1 : (⟨Br, 0, none⟩ : Addr).block < w0.heap.size) (hz : a0.tmps.size = 30)
   (hQ : ∀ aq W, aq.tmps.size = a0.tmps.size → aq.defers = a0.defers → (∀ e, e ∉ ([15, 16, 17, 18, 19, 20, 21, 22, 23, 24, 25] : List Nat) → aq.tmps[e]? = a0.tmps[e]?) → VregDepI n cap A off c i S L q w0.heap.size 10 (aq.tmps.getD 25 undef) W → Below w0.heap.size w0 W → Q .normal aq W) :
   (Code.region idq #[{ dst := some 15, op := Op.move (Operand.tmp 6), type := t0, pos := q0, after := #[], guard := none },
   { dst := some 16, op := Op.move (Operand.tmp 1), type := t1, pos := q1, after := #[], guard := none },
   { dst := some 17, op := Op.binOp BinOp.neq 3 (Operand.tmp 15) (Operand.tmp 16) 3, type := t2, pos := q2, after := #[{ on := 0, ground := Ground.data }, { on := 1, ground := Ground.data }], guard := none },
   { dst := some 18, op := Op.move (Operand.tmp 17), type := t3, pos := q3, after := #[{ on := 2, ground := Ground.data }], guard := none },
   { dst := some 19, op := Op.move (Operand.tmp 0), type := t4, pos := q4, after := #[{ on := 3, ground := Ground.guard }], guard := some (3, true) },
   { dst := some 20, op := Op.move (Operand.tmp 1), type := t5, pos := q5, after := #[{ on := 3, ground := Ground.guard }], guard := some (3, true) },
   { dst := some 21, op := Op.indexAddr 46 (Operand.tmp 19) (Operand.tmp 20), type := t6, pos := q6, after := #[{ on := 4, ground := Ground.data }, { on := 5, ground := Ground.data }, { on := 3, ground := Ground.guard }], guard := some (3, true) },
   { dst := some 22, op := Op.load 34 (Operand.tmp 21), type := t7, pos := q7, after := #[{ on := 6, ground := Ground.data }, { on := 3, ground := Ground.guard }], guard := some (3, true) },
   { dst := some 23, op := Op.load 34 (Operand.tmp 7), type := t8, pos := q8, after := #[{ on := 3, ground := Ground.guard }], guard := some (3, true) },
   { dst := some 24, op := Op.call { callee := Callee.value (Operand.func 39), args := #[Operand.tmp 22, Operand.tmp 23], argTypes := #[34, 34] }, type := t9, pos := q9, after := #[{ on := 7, ground := Ground.data }, { on := 8, ground := Ground.data }, { on := 3, ground := Ground.chain }, { on := 3, ground := Ground.guard }], guard := some (3, true) },
   { dst := some 25, op := Op.pick (Operand.tmp 18) (Operand.tmp 24) (Operand.const (Value.bool false)), type := t10, pos := q10, after := #[{ on := 3, ground := Ground.data }, { on := 9, ground := Ground.data }], guard := none }] true).wp Tryz.prog Q a0 w0 := by
 have hS : distS [some 15, some 16, some 17, some 18, some 19, some 20, some 21, some 22, some 23, some 24, some 25] = true := rfl
 refine wp_region_q (by kernel_rfl) w0.heap.size [some 15, some 16, some 17, some 18, some 19, some 20, some 21, some 22, some 23, some 24, some 25] (VregDepI n cap A off c i S L q w0.heap.size) rfl ?_ ?_
 · intro Q lq aq W iq oq hJ hl ho hall
   have hJ2 := hJ
   obtain ⟨z1, z2, z3, z4, z5, z6, z7⟩ := hJ
   have g0 : aq.tmps.getD 0 undef = .slice (some ⟨A, off, none⟩) n cap := by rw [Array.getD_eq_getD_getElem?, z4 0 (by decide), h0]; rfl
   have g1 : aq.tmps.getD 1 undef = .int .i64 (i : Int) := by rw [Array.getD_eq_getD_getElem?, z4 1 (by decide), h1]; rfl
   have g6 : aq.tmps.getD 6 undef = .int .i64 (c : Int) := by rw [Array.getD_eq_getD_getElem?, z4 6 (by decide), h6]; rfl
   have g7 : aq.tmps.getD 7 undef = .pointer (some ⟨Br, 0, none⟩) := by rw [Array.getD_eq_getD_getElem?, z4 7 (by decide), h7]; rfl
   have c0 : W.cell? ⟨A, off + i, none⟩ = some (.slice (S i).1 (L i) (S i).2) := (z5.cell l0).trans k0
   have c1 : W.cell? ⟨Br, 0, none⟩ = some (.slice (S c).1 (L c) (S c).2) := (z5.cell l1).trans k1
   match iq, ho with
   | 0, ho =>
     cases ho
     refine wpOp_of rfl rfl ?_
     have hK := fun (v : Value) (W2 : World) hW hT hv => hJ2.put hS 0 15 rfl (by omega) (W' := W2) hW hT v hv
     clear ho hall hl hQ
     generalize InvQ w0.heap.size [some 15, some 16, some 17, some 18, some 19, some 20, some 21, some 22, some 23, some 24, some 25] (VregDepI n cap A off c i S L q w0.heap.size) w0 a0 (lq.setIfInBounds 0 true) = K at hK ⊢
     clear hJ2 hS z1 z2 z3 z4 z6 z7
     go_simp
     exact hK _ _ z5 (fun _ _ h => h) rfl
   | 1, ho =>
     cases ho
     refine wpOp_of rfl rfl ?_
     have hK := fun (v : Value) (W2 : World) hW hT hv => hJ2.put hS 1 16 rfl (by omega) (W' := W2) hW hT v hv
     clear ho hall hl hQ
     generalize InvQ w0.heap.size [some 15, some 16, some 17, some 18, some 19, some 20, some 21, some 22, some 23, some 24, some 25] (VregDepI n cap A off c i S L q w0.heap.size) w0 a0 (lq.setIfInBounds 1 true) = K at hK ⊢
     clear hJ2 hS z1 z2 z3 z4 z6 z7
     go_simp
     exact hK _ _ z5 (fun _ _ h => h) rfl
   | 2, ho =>
     cases ho
     refine wpOp_of rfl rfl ?_
     have f0 : (aq.tmps.getD 15 undef) = .int .i64 (c : Int) := z6 0 15 (hall { on := 0, ground := Ground.data } (by simp) rfl) rfl
     have f1 : (aq.tmps.getD 16 undef) = .int .i64 (i : Int) := z6 1 16 (hall { on := 1, ground := Ground.data } (by simp) rfl) rfl
     have hne : ((c : Int) != (i : Int)) = true := by simp; omega
     have hK := fun (v : Value) (W2 : World) hW hT hv => hJ2.put hS 2 17 rfl (by omega) (W' := W2) hW hT v hv
     clear ho hall hl hQ
     generalize InvQ w0.heap.size [some 15, some 16, some 17, some 18, some 19, some 20, some 21, some 22, some 23, some 24, some 25] (VregDepI n cap A off c i S L q w0.heap.size) w0 a0 (lq.setIfInBounds 2 true) = K at hK ⊢
     clear hJ2 hS z1 z2 z3 z4 z6 z7
     go_simp
     exact hK _ _ z5 (fun _ _ h => h) rfl
   | 3, ho =>
     cases ho
     refine wpOp_of rfl rfl ?_
     have f2 : (aq.tmps.getD 17 undef) = .bool true := z6 2 17 (hall { on := 2, ground := Ground.data } (by simp) rfl) rfl
     have hK := fun (v : Value) (W2 : World) hW hT hv => hJ2.put hS 3 18 rfl (by omega) (W' := W2) hW hT v hv
     clear ho hall hl hQ
     generalize InvQ w0.heap.size [some 15, some 16, some 17, some 18, some 19, some 20, some 21, some 22, some 23, some 24, some 25] (VregDepI n cap A off c i S L q w0.heap.size) w0 a0 (lq.setIfInBounds 3 true) = K at hK ⊢
     clear hJ2 hS z1 z2 z3 z4 z6 z7
     go_simp
     exact hK _ _ z5 (fun _ _ h => h) rfl
   | 4, ho =>
     cases ho
     have fg : aq.tmps.getD 18 undef = .bool true := z6 3 18 (hall { on := 3, ground := Ground.guard } (by simp) rfl) rfl
     refine wpOp_on rfl rfl rfl rfl fg ?_
     have hK := fun (v : Value) (W2 : World) hW hT hv => hJ2.put hS 4 19 rfl (by omega) (W' := W2) hW hT v hv
     clear ho hall hl hQ
     generalize InvQ w0.heap.size [some 15, some 16, some 17, some 18, some 19, some 20, some 21, some 22, some 23, some 24, some 25] (VregDepI n cap A off c i S L q w0.heap.size) w0 a0 (lq.setIfInBounds 4 true) = K at hK ⊢
     clear hJ2 hS z1 z2 z3 z4 z6 z7
     go_simp
     exact hK _ _ z5 (fun _ _ h => h) rfl
   | 5, ho =>
     cases ho
     have fg : aq.tmps.getD 18 undef = .bool true := z6 3 18 (hall { on := 3, ground := Ground.guard } (by simp) rfl) rfl
     refine wpOp_on rfl rfl rfl rfl fg ?_
     have hK := fun (v : Value) (W2 : World) hW hT hv => hJ2.put hS 5 20 rfl (by omega) (W' := W2) hW hT v hv
     clear ho hall hl hQ
     generalize InvQ w0.heap.size [some 15, some 16, some 17, some 18, some 19, some 20, some 21, some 22, some 23, some 24, some 25] (VregDepI n cap A off c i S L q w0.heap.size) w0 a0 (lq.setIfInBounds 5 true) = K at hK ⊢
     clear hJ2 hS z1 z2 z3 z4 z6 z7
     go_simp
     exact hK _ _ z5 (fun _ _ h => h) rfl
   | 6, ho =>
     cases ho
     have fg : aq.tmps.getD 18 undef = .bool true := z6 3 18 (hall { on := 3, ground := Ground.guard } (by simp) rfl) rfl
     refine wpOp_on rfl rfl rfl rfl fg ?_
     have f4 : (aq.tmps.getD 19 undef) = .slice (some ⟨A, off, none⟩) n cap := z6 4 19 (hall { on := 4, ground := Ground.data } (by simp) rfl) rfl
     have f5 : (aq.tmps.getD 20 undef) = .int .i64 (i : Int) := z6 5 20 (hall { on := 5, ground := Ground.data } (by simp) rfl) rfl
     have hiI : (i : Int) < n := by omega
     have hnI : (n : Int) ≤ 6 := by omega
     have hK := fun (v : Value) (W2 : World) hW hT hv => hJ2.put hS 6 21 rfl (by omega) (W' := W2) hW hT v hv
     clear ho hall hl hQ
     generalize InvQ w0.heap.size [some 15, some 16, some 17, some 18, some 19, some 20, some 21, some 22, some 23, some 24, some 25] (VregDepI n cap A off c i S L q w0.heap.size) w0 a0 (lq.setIfInBounds 6 true) = K at hK ⊢
     clear hJ2 hS z1 z2 z3 z4 z6 z7
     go_simp
     exact hK _ _ z5 (fun _ _ h => h) rfl
   | 7, ho =>
     cases ho
     have fg : aq.tmps.getD 18 undef = .bool true := z6 3 18 (hall { on := 3, ground := Ground.guard } (by simp) rfl) rfl
     refine wpOp_on rfl rfl rfl rfl fg ?_
     have f6 : (aq.tmps.getD 21 undef) = .pointer (some ⟨A, off + i, none⟩) := z6 6 21 (hall { on := 6, ground := Ground.data } (by simp) rfl) rfl
     have hK := fun (v : Value) (W2 : World) hW hT hv => hJ2.put hS 7 22 rfl (by omega) (W' := W2) hW hT v hv
     clear ho hall hl hQ
     generalize InvQ w0.heap.size [some 15, some 16, some 17, some 18, some 19, some 20, some 21, some 22, some 23, some 24, some 25] (VregDepI n cap A off c i S L q w0.heap.size) w0 a0 (lq.setIfInBounds 7 true) = K at hK ⊢
     clear hJ2 hS z1 z2 z3 z4 z6 z7
     go_simp
     exact hK _ _ z5 (fun _ _ h => h) rfl
   | 8, ho =>
     cases ho
     have fg : aq.tmps.getD 18 undef = .bool true := z6 3 18 (hall { on := 3, ground := Ground.guard } (by simp) rfl) rfl
     refine wpOp_on rfl rfl rfl rfl fg ?_
     have hK := fun (v : Value) (W2 : World) hW hT hv => hJ2.put hS 8 23 rfl (by omega) (W' := W2) hW hT v hv
     clear ho hall hl hQ
     generalize InvQ w0.heap.size [some 15, some 16, some 17, some 18, some 19, some 20, some 21, some 22, some 23, some 24, some 25] (VregDepI n cap A off c i S L q w0.heap.size) w0 a0 (lq.setIfInBounds 8 true) = K at hK ⊢
     clear hJ2 hS z1 z2 z3 z4 z6 z7
     go_simp
     exact hK _ _ z5 (fun _ _ h => h) rfl
   | 9, ho =>
     cases ho
     have fg : aq.tmps.getD 18 undef = .bool true := z6 3 18 (hall { on := 3, ground := Ground.guard } (by simp) rfl) rfl
     refine wpOp_on rfl rfl rfl rfl fg ?_
     have f7 : (aq.tmps.getD 22 undef) = .agg #[.slice (S i).1 (L i) (S i).2] := z6 7 22 (hall { on := 7, ground := Ground.data } (by simp) rfl) rfl
     have f8 : (aq.tmps.getD 23 undef) = .agg #[.slice (S c).1 (L c) (S c).2] := z6 8 23 (hall { on := 8, ground := Ground.data } (by simp) rfl) rfl
     have hK := fun (v : Value) (W2 : World) hW hT hv => hJ2.put hS 9 24 rfl (by omega) (W' := W2) hW hT v hv
     clear ho hall hl hQ
     generalize InvQ w0.heap.size [some 15, some 16, some 17, some 18, some 19, some 20, some 21, some 22, some 23, some 24, some 25] (VregDepI n cap A off c i S L q w0.heap.size) w0 a0 (lq.setIfInBounds 9 true) = K at hK ⊢
     clear hJ2 hS z1 z2 z3 z4 z6 z7
     go_simp
     refine (liesIn_any (S i).1 (S c).1 (L i) (S i).2 (L c) (S c).2 (q i) (q c) hpi hpc W (hSi.step z5) (hSc.step z5)).mono ?_
     rintro e v1 ⟨rfl, hBv⟩
     exact hK _ _ (z5.trans (hBv.mono z5.size)) (fun j v h => h.mono hBv) rfl
   | 10, ho =>
     cases ho
     refine wpOp_of rfl rfl ?_
     have f3 : (aq.tmps.getD 18 undef) = .bool true := z6 3 18 (hall { on := 3, ground := Ground.data } (by simp) rfl) rfl
     have f9 : (aq.tmps.getD 24 undef) = .bool (inB (q i) (L c) (q c)) := z6 9 24 (hall { on := 9, ground := Ground.data } (by simp) rfl) rfl
     have hK := fun (v : Value) (W2 : World) hW hT hv => hJ2.put hS 10 25 rfl (by omega) (W' := W2) hW hT v hv
     clear ho hall hl hQ
     generalize InvQ w0.heap.size [some 15, some 16, some 17, some 18, some 19, some 20, some 21, some 22, some 23, some 24, some 25] (VregDepI n cap A off c i S L q w0.heap.size) w0 a0 (lq.setIfInBounds 10 true) = K at hK ⊢
     clear hJ2 hS z1 z2 z3 z4 z6 z7
     cases hzb : inB (q i) (L c) (q c)
     all_goals rw [hzb] at f9
     all_goals have HZ : Hid (inB (q i) (L c) (q c) = _) := hzb
     all_goals clear hzb
     all_goals go_simp
     all_goals exact hK _ _ z5 (fun _ _ h => h) (congrArg Value.bool HZ.out.symm)
   | iq + 11, ho => simp at ho
 · intro lq aq W hJ hr
   obtain ⟨z1, z2, z3, z4, z5, z6, z7⟩ := hJ
   have hl := listed_of hr [0, 1, 2, 3, 4, 5, 6, 7, 8, 9, 10] [] (by simp) (by kernel_rfl) (by rw [z1]; decide)
   exact hQ aq W z2 z3 (fun e he => z4 e (by simpa using he)) (z6 10 25 (hl 10 (by simp)) rfl) z5
def VregDepIo (c : Nat) (_B : Nat) : Nat → Value → World → Prop
 | 0, v, _ => v = .int .i64 (c : Int)
 | 1, v, _ => v = .int .i64 (c : Int)
 | 2, v, _ => v = .bool false
 | 3, v, _ => v = .bool false
 | 4, v, _ => v = undef
 | 5, v, _ => v = undef
 | 6, v, _ => v = undef
 | 7, v, _ => v = undef
 | 8, v, _ => v = undef
 | 9, v, _ => v = undef
 | 10, v, _ => v = .bool false
 | _, _, _ => True
set_option maxRecDepth 100000 in
set_option maxHeartbeats 4000000 in
theorem regDepIo {Q : Exit → Act → World → Prop} {c : Nat}  {w0 : World} {a0 : Act} {idq : Nat} {t0 t1 t2 t3 t4 t5 t6 t7 t8 t9 t10 : TypeId} {q0 q1 q2 q3 q4 q5 q6 q7 q8 q9 q10 : String}
    (h1 : a0.tmps[1]? = some (.int .i64 (c : Int))) (h6 : a0.tmps[6]? = some (.int .i64 (c : Int)))  (hz : a0.tmps.size = 30)
   (hQ : ∀ aq W, aq.tmps.size = a0.tmps.size → aq.defers = a0.defers → (∀ e, e ∉ ([15, 16, 17, 18, 19, 20, 21, 22, 23, 24, 25] : List Nat) → aq.tmps[e]? = a0.tmps[e]?) → VregDepIo c w0.heap.size 10 (aq.tmps.getD 25 undef) W → Below w0.heap.size w0 W → Q .normal aq W) :
   (Code.region idq #[{ dst := some 15, op := Op.move (Operand.tmp 6), type := t0, pos := q0, after := #[], guard := none },
   { dst := some 16, op := Op.move (Operand.tmp 1), type := t1, pos := q1, after := #[], guard := none },
   { dst := some 17, op := Op.binOp BinOp.neq 3 (Operand.tmp 15) (Operand.tmp 16) 3, type := t2, pos := q2, after := #[{ on := 0, ground := Ground.data }, { on := 1, ground := Ground.data }], guard := none },
   { dst := some 18, op := Op.move (Operand.tmp 17), type := t3, pos := q3, after := #[{ on := 2, ground := Ground.data }], guard := none },
   { dst := some 19, op := Op.move (Operand.tmp 0), type := t4, pos := q4, after := #[{ on := 3, ground := Ground.guard }], guard := some (3, true) },
   { dst := some 20, op := Op.move (Operand.tmp 1), type := t5, pos := q5, after := #[{ on := 3, ground := Ground.guard }], guard := some (3, true) },
   { dst := some 21, op := Op.indexAddr 46 (Operand.tmp 19) (Operand.tmp 20), type := t6, pos := q6, after := #[{ on := 4, ground := Ground.data }, { on := 5, ground := Ground.data }, { on := 3, ground := Ground.guard }], guard := some (3, true) },
   { dst := some 22, op := Op.load 34 (Operand.tmp 21), type := t7, pos := q7, after := #[{ on := 6, ground := Ground.data }, { on := 3, ground := Ground.guard }], guard := some (3, true) },
   { dst := some 23, op := Op.load 34 (Operand.tmp 7), type := t8, pos := q8, after := #[{ on := 3, ground := Ground.guard }], guard := some (3, true) },
   { dst := some 24, op := Op.call { callee := Callee.value (Operand.func 39), args := #[Operand.tmp 22, Operand.tmp 23], argTypes := #[34, 34] }, type := t9, pos := q9, after := #[{ on := 7, ground := Ground.data }, { on := 8, ground := Ground.data }, { on := 3, ground := Ground.chain }, { on := 3, ground := Ground.guard }], guard := some (3, true) },
   { dst := some 25, op := Op.pick (Operand.tmp 18) (Operand.tmp 24) (Operand.const (Value.bool false)), type := t10, pos := q10, after := #[{ on := 3, ground := Ground.data }, { on := 9, ground := Ground.data }], guard := none }] true).wp Tryz.prog Q a0 w0 := by
 have hS : distS [some 15, some 16, some 17, some 18, some 19, some 20, some 21, some 22, some 23, some 24, some 25] = true := rfl
 refine wp_region_q (by kernel_rfl) w0.heap.size [some 15, some 16, some 17, some 18, some 19, some 20, some 21, some 22, some 23, some 24, some 25] (VregDepIo c w0.heap.size) rfl ?_ ?_
 · intro Q lq aq W iq oq hJ hl ho hall
   have hJ2 := hJ
   obtain ⟨z1, z2, z3, z4, z5, z6, z7⟩ := hJ
   have g1 : aq.tmps.getD 1 undef = .int .i64 (c : Int) := by rw [Array.getD_eq_getD_getElem?, z4 1 (by decide), h1]; rfl
   have g6 : aq.tmps.getD 6 undef = .int .i64 (c : Int) := by rw [Array.getD_eq_getD_getElem?, z4 6 (by decide), h6]; rfl
   match iq, ho with
   | 0, ho =>
     cases ho
     refine wpOp_of rfl rfl ?_
     have hK := fun (v : Value) (W2 : World) hW hT hv => hJ2.put hS 0 15 rfl (by omega) (W' := W2) hW hT v hv
     clear ho hall hl hQ
     generalize InvQ w0.heap.size [some 15, some 16, some 17, some 18, some 19, some 20, some 21, some 22, some 23, some 24, some 25] (VregDepIo c w0.heap.size) w0 a0 (lq.setIfInBounds 0 true) = K at hK ⊢
     clear hJ2 hS z1 z2 z3 z4 z6 z7
     go_simp
     exact hK _ _ z5 (fun _ _ h => h) rfl
   | 1, ho =>
     cases ho
     refine wpOp_of rfl rfl ?_
     have hK := fun (v : Value) (W2 : World) hW hT hv => hJ2.put hS 1 16 rfl (by omega) (W' := W2) hW hT v hv
     clear ho hall hl hQ
     generalize InvQ w0.heap.size [some 15, some 16, some 17, some 18, some 19, some 20, some 21, some 22, some 23, some 24, some 25] (VregDepIo c w0.heap.size) w0 a0 (lq.setIfInBounds 1 true) = K at hK ⊢
     clear hJ2 hS z1 z2 z3 z4 z6 z7
     go_simp
     exact hK _ _ z5 (fun _ _ h => h) rfl
   | 2, ho =>
     cases ho
     refine wpOp_of rfl rfl ?_
     have f0 : (aq.tmps.getD 15 undef) = .int .i64 (c : Int) := z6 0 15 (hall { on := 0, ground := Ground.data } (by simp) rfl) rfl
     have f1 : (aq.tmps.getD 16 undef) = .int .i64 (c : Int) := z6 1 16 (hall { on := 1, ground := Ground.data } (by simp) rfl) rfl
     have hK := fun (v : Value) (W2 : World) hW hT hv => hJ2.put hS 2 17 rfl (by omega) (W' := W2) hW hT v hv
     clear ho hall hl hQ
     generalize InvQ w0.heap.size [some 15, some 16, some 17, some 18, some 19, some 20, some 21, some 22, some 23, some 24, some 25] (VregDepIo c w0.heap.size) w0 a0 (lq.setIfInBounds 2 true) = K at hK ⊢
     clear hJ2 hS z1 z2 z3 z4 z6 z7
     go_simp
     exact hK _ _ z5 (fun _ _ h => h) rfl
   | 3, ho =>
     cases ho
     refine wpOp_of rfl rfl ?_
     have f2 : (aq.tmps.getD 17 undef) = .bool false := z6 2 17 (hall { on := 2, ground := Ground.data } (by simp) rfl) rfl
     have hK := fun (v : Value) (W2 : World) hW hT hv => hJ2.put hS 3 18 rfl (by omega) (W' := W2) hW hT v hv
     clear ho hall hl hQ
     generalize InvQ w0.heap.size [some 15, some 16, some 17, some 18, some 19, some 20, some 21, some 22, some 23, some 24, some 25] (VregDepIo c w0.heap.size) w0 a0 (lq.setIfInBounds 3 true) = K at hK ⊢
     clear hJ2 hS z1 z2 z3 z4 z6 z7
     go_simp
     exact hK _ _ z5 (fun _ _ h => h) rfl
   | 4, ho =>
     cases ho
     have fg : aq.tmps.getD 18 undef = .bool false := z6 3 18 (hall { on := 3, ground := Ground.guard } (by simp) rfl) rfl
     refine wpOp_off rfl rfl rfl rfl fg ?_
     exact hJ2.put hS 4 19 rfl (by omega) z5 (fun _ _ h => h) undef rfl
   | 5, ho =>
     cases ho
     have fg : aq.tmps.getD 18 undef = .bool false := z6 3 18 (hall { on := 3, ground := Ground.guard } (by simp) rfl) rfl
     refine wpOp_off rfl rfl rfl rfl fg ?_
     exact hJ2.put hS 5 20 rfl (by omega) z5 (fun _ _ h => h) undef rfl
   | 6, ho =>
     cases ho
     have fg : aq.tmps.getD 18 undef = .bool false := z6 3 18 (hall { on := 3, ground := Ground.guard } (by simp) rfl) rfl
     refine wpOp_off rfl rfl rfl rfl fg ?_
     exact hJ2.put hS 6 21 rfl (by omega) z5 (fun _ _ h => h) undef rfl
   | 7, ho =>
     cases ho
     have fg : aq.tmps.getD 18 undef = .bool false := z6 3 18 (hall { on := 3, ground := Ground.guard } (by simp) rfl) rfl
     refine wpOp_off rfl rfl rfl rfl fg ?_
     exact hJ2.put hS 7 22 rfl (by omega) z5 (fun _ _ h => h) undef rfl
   | 8, ho =>
     cases ho
     have fg : aq.tmps.getD 18 undef = .bool false := z6 3 18 (hall { on := 3, ground := Ground.guard } (by simp) rfl) rfl
     refine wpOp_off rfl rfl rfl rfl fg ?_
     exact hJ2.put hS 8 23 rfl (by omega) z5 (fun _ _ h => h) undef rfl
   | 9, ho =>
     cases ho
     have fg : aq.tmps.getD 18 undef = .bool false := z6 3 18 (hall { on := 3, ground := Ground.guard } (by simp) rfl) rfl
     refine wpOp_off rfl rfl rfl rfl fg ?_
     exact hJ2.put hS 9 24 rfl (by omega) z5 (fun _ _ h => h) undef rfl
   | 10, ho =>
     cases ho
     refine wpOp_of rfl rfl ?_
     have f3 : (aq.tmps.getD 18 undef) = .bool false := z6 3 18 (hall { on := 3, ground := Ground.data } (by simp) rfl) rfl
     have f9 : (aq.tmps.getD 24 undef) = undef := z6 9 24 (hall { on := 9, ground := Ground.data } (by simp) rfl) rfl
     have hK := fun (v : Value) (W2 : World) hW hT hv => hJ2.put hS 10 25 rfl (by omega) (W' := W2) hW hT v hv
     clear ho hall hl hQ
     generalize InvQ w0.heap.size [some 15, some 16, some 17, some 18, some 19, some 20, some 21, some 22, some 23, some 24, some 25] (VregDepIo c w0.heap.size) w0 a0 (lq.setIfInBounds 10 true) = K at hK ⊢
     clear hJ2 hS z1 z2 z3 z4 z6 z7
     go_simp
     exact hK _ _ z5 (fun _ _ h => h) rfl
   | iq + 11, ho => simp at ho
 · intro lq aq W hJ hr
   obtain ⟨z1, z2, z3, z4, z5, z6, z7⟩ := hJ
   have hl := listed_of hr [0, 1, 2, 3, 4, 5, 6, 7, 8, 9, 10] [] (by simp) (by kernel_rfl) (by rw [z1]; decide)
   exact hQ aq W z2 z3 (fun e he => z4 e (by simpa using he)) (z6 10 25 (hl 10 (by simp)) rfl) z5
set_option maxRecDepth 100000 in
set_option maxHeartbeats 8000000 in
theorem l6Depth_any (ao : Option Addr) (n cap : Nat) (S : Nat → Option Addr × Nat) (L : Nat → Nat) (q : Nat → Ps) (i : Nat) (hi : i < n) (hn : n ≤ 6) (hR : ∀ i, i < n → RgOk (L i) (q i)) (w : World) (hS : RgIn w ao n S L q) : Calls Tryz.prog 45 #[.slice ao n cap, .int .i64 (i : Int)] w (VP (.int .i64 (dpN L q i n : Nat)) w) := by
 have HR : Hid (∀ i, i < n → RgOk (L i) (q i)) := hR
 have HS : Hid (RgIn w ao n S L q) := hS
 have hnI : (n : Int) ≤ 6 := by omega
 clear hS hR
 go_enter Tryz.func45, Tryz.ntmps45
 go_wp2_with fail
 go_loopw [5, 6] (fun o k wr => ∃ c : Nat, c ≤ n ∧ k = .int .i64 c ∧ o = .int .i64 (dpN L q i c : Nat) ∧ Below w.heap.size w wr) (fun _ k _ => n - (intOf k).toNat)
 case atStart => exact ⟨0, by omega, rfl, rfl, Below.refl _ _⟩
 case round =>
   obtain ⟨c, hc, rfl, rfl, HB⟩ := hrel
   have hdl := dpN_le L q i c
   have hdI : ((dpN L q i c : Nat) : Int) ≤ 6 := by omega
   by_cases hcn : c < n
   · have hcI : (c : Int) < n := by omega
     obtain ⟨A, off, rfl, hA, q0, hsc⟩ := HS.out.step HB c hcn
     obtain ⟨A', off', hao, -, qi, hsi⟩ := HS.out.step HB i hi
     obtain ⟨rfl, rfl⟩ : A = A' ∧ off = off' := by simpa using hao
     have HSi : Hid (SpIn wr (S i).1 (L i) (q i)) := hsi
     clear hao hsi
     have hSi := HSi.out
     have hSc := hsc
     go_upto_region 5 with fail
     go_cut [26] (fun zv wx => zv = .bool (decide (c ≠ i) && inB (q i) (L c) (q c)) ∧ Below wr.heap.size wr wx)
     case first =>
       by_cases hci : c ≠ i
       · have hv : (decide (c ≠ i) && inB (q i) (L c) (q c)) = inB (q i) (L c) (q c) := by rw [decide_eq_true hci, Bool.true_and]
         refine regDepM (n := n) (cap := cap) (A := A) (off := off) (c := c) (i := i) (S := S) (L := L) (q := q) hcn hi hci hn (HR.out i hi) (HR.out c hcn) hSi hSc rfl rfl rfl qi hA q0 hA rfl ?_
         rintro ⟨tm, df⟩ Wz hz hdf hoff hx hBz
         simp only at hz hdf hoff hx
         change tm.getD 26 undef = .bool (inB (q i) (L c) (q c)) at hx
         subst hdf
         have htm := tmps_fold [13, 14, 15, 16, 17, 18, 19, 20, 21, 22, 23, 24, 25, 26] tm _ hz hoff
         simp only [List.foldl, List.setIfInBounds_toArray, List.set_cons_zero, List.set_cons_succ, hx] at htm
         clear hz hoff
         generalize tm.getD 13 undef = u0, tm.getD 14 undef = u1, tm.getD 15 undef = u2, tm.getD 16 undef = u3, tm.getD 17 undef = u4, tm.getD 18 undef = u5, tm.getD 19 undef = u6, tm.getD 20 undef = u7, tm.getD 21 undef = u8, tm.getD 22 undef = u9, tm.getD 23 undef = u10, tm.getD 24 undef = u11, tm.getD 25 undef = u12 at htm
         clear hx
         subst htm
         go_wp2_with fail
         go_meet
         exact ⟨congrArg Value.bool hv.symm, hBz⟩
       · obtain rfl : c = i := by omega
         have hv : (decide (c ≠ c) && inB (q c) (L c) (q c)) = false := by simp
         refine regDepMo (c := c) rfl rfl rfl ?_
         rintro ⟨tm, df⟩ Wz hz hdf hoff hx hBz
         simp only at hz hdf hoff hx
         change tm.getD 26 undef = .bool false at hx
         subst hdf
         have htm := tmps_fold [13, 14, 15, 16, 17, 18, 19, 20, 21, 22, 23, 24, 25, 26] tm _ hz hoff
         simp only [List.foldl, List.setIfInBounds_toArray, List.set_cons_zero, List.set_cons_succ, hx] at htm
         clear hz hoff
         generalize tm.getD 13 undef = u0, tm.getD 14 undef = u1, tm.getD 15 undef = u2, tm.getD 16 undef = u3, tm.getD 17 undef = u4, tm.getD 18 undef = u5, tm.getD 19 undef = u6, tm.getD 20 undef = u7, tm.getD 21 undef = u8, tm.getD 22 undef = u9, tm.getD 23 undef = u10, tm.getD 24 undef = u11, tm.getD 25 undef = u12 at htm
         clear hx
         subst htm
         go_wp2_with fail
         go_meet
         exact ⟨congrArg Value.bool hv.symm, hBz⟩
     case rest =>
       obtain ⟨hq2, hBc⟩ := hcut
       subst hq2
       have HBN := HB.trans (hBc.mono HB.size)
       clear hBc HB
       cases hz : (decide (c ≠ i) && inB (q i) (L c) (q c))
       · have HX : Hid (dpN L q i (c + 1) = dpN L q i c) := dpN_off (by
           by_cases h : c = i
           · exact .inl h
           · rw [decide_eq_true h, Bool.true_and] at hz
             exact .inr hz)
         clear hz
         go_wp2
         go_roundw
         case rel => exact ⟨c + 1, by omega, by go_num, by rw [HX.out], HBN⟩
         case measure => simp [intOf]; omega
       · have HX : Hid (dpN L q i (c + 1) = dpN L q i c + 1) := by
           rw [Bool.and_eq_true, decide_eq_true_eq] at hz
           exact dpN_on hz.1 hz.2
         clear hz
         go_wp2
         go_roundw
         case rel => exact ⟨c + 1, by omega, by go_num, by rw [HX.out]; go_num, HBN⟩
         case measure => simp [intOf]; omega
   · obtain rfl : c = n := by omega
     clear HS HR
     go_wp2
     go_ret
     exact ⟨rfl, HB⟩
set_option maxRecDepth 100000 in
set_option maxHeartbeats 8000000 in
theorem depthOf_any (ao : Option Addr) (n cap : Nat) (S : Nat → Option Addr × Nat) (L : Nat → Nat) (q : Nat → Ps) (i : Nat) (hi : i < n) (hn : n ≤ 6) (hR : ∀ i, i < n → RgOk (L i) (q i)) (w : World) (hS : RgIn w ao n S L q) : Calls Tryz.prog 47 #[.slice ao n cap, .int .i64 (i : Int)] w (VP (.int .i64 (dpN L q i n : Nat)) w) := by
 have HR : Hid (∀ i, i < n → RgOk (L i) (q i)) := hR
 have HS : Hid (RgIn w ao n S L q) := hS
 have hnI : (n : Int) ≤ 6 := by omega
 clear hS hR
 go_enter Tryz.func47, Tryz.ntmps47
 go_wp2_with fail
 go_loopw [5, 10] (fun o k wr => ∃ c : Nat, c ≤ n ∧ k = .int .i64 c ∧ o = .int .i64 (dpN L q i c : Nat) ∧ Below w.heap.size w wr) (fun _ k _ => n - (intOf k).toNat)
 case atStart => exact ⟨0, by omega, rfl, rfl, Below.refl _ _⟩
 case round =>
   obtain ⟨c, hc, rfl, rfl, HB⟩ := hrel
   have hdl := dpN_le L q i c
   have hdI : ((dpN L q i c : Nat) : Int) ≤ 6 := by omega
   by_cases hcn : c < n
   · have hcI : (c : Int) < n := by omega
     obtain ⟨A, off, rfl, hA, q0, hsc⟩ := HS.out.step HB c hcn
     obtain ⟨A', off', hao, -, qi, hsi⟩ := HS.out.step HB i hi
     obtain ⟨rfl, rfl⟩ : A = A' ∧ off = off' := by simpa using hao
     have HSi : Hid (SpIn wr (S i).1 (L i) (q i)) := hsi
     clear hao hsi
     have hB1 := (Below.refl wr.heap.size wr).alloc (Nat.le_refl _) (.cells #[.slice (S c).1 (L c) (S c).2] 34)
     have B1 := Blk.new wr [.slice (S c).1 (L c) (S c).2] 34 rfl
     replace HB := HB.trans (hB1.mono HB.size)
     have qi2 := (hB1.cell (p := ⟨A, off + i, none⟩) hA).trans qi
     have hA2 : A < (wr.alloc (.cells #[.slice (S c).1 (L c) (S c).2] 34)).heap.size := Nat.lt_of_lt_of_le hA hB1.size
     have hSi := HSi.out.step hB1
     have hSc := hsc.step hB1
     go_upto_region 5 with fail
     clear q0 qi hA HSi hsc hB1
     generalize wr.alloc (.cells #[.slice (S c).1 (L c) (S c).2] 34) = W5 at *
     generalize wr.heap.size = gr at *
     go_cut [25] (fun zv wx => zv = .bool (decide (c ≠ i) && inB (q i) (L c) (q c)) ∧ Below W5.heap.size W5 wx)
     case first =>
       by_cases hci : c ≠ i
       · have hv : (decide (c ≠ i) && inB (q i) (L c) (q c)) = inB (q i) (L c) (q c) := by rw [decide_eq_true hci, Bool.true_and]
         refine regDepI (n := n) (cap := cap) (A := A) (off := off) (c := c) (i := i) (S := S) (L := L) (q := q) (Br := gr) hi hci hn (HR.out i hi) (HR.out c hcn) hSi hSc rfl rfl rfl rfl qi2 hA2 (B1.c 0 rfl) B1.lt rfl ?_
         rintro ⟨tm, df⟩ Wz hz hdf hoff hx hBz
         simp only at hz hdf hoff hx
         change tm.getD 25 undef = .bool (inB (q i) (L c) (q c)) at hx
         subst hdf
         have htm := tmps_fold [15, 16, 17, 18, 19, 20, 21, 22, 23, 24, 25] tm _ hz hoff
         simp only [List.foldl, List.setIfInBounds_toArray, List.set_cons_zero, List.set_cons_succ, hx] at htm
         clear hz hoff
         generalize tm.getD 15 undef = u0, tm.getD 16 undef = u1, tm.getD 17 undef = u2, tm.getD 18 undef = u3, tm.getD 19 undef = u4, tm.getD 20 undef = u5, tm.getD 21 undef = u6, tm.getD 22 undef = u7, tm.getD 23 undef = u8, tm.getD 24 undef = u9 at htm
         clear hx
         subst htm
         go_wp2_with fail
         go_meet
         exact ⟨congrArg Value.bool hv.symm, hBz⟩
       · obtain rfl : c = i := by omega
         have hv : (decide (c ≠ c) && inB (q c) (L c) (q c)) = false := by simp
         refine regDepIo (c := c) rfl rfl rfl ?_
         rintro ⟨tm, df⟩ Wz hz hdf hoff hx hBz
         simp only at hz hdf hoff hx
         change tm.getD 25 undef = .bool false at hx
         subst hdf
         have htm := tmps_fold [15, 16, 17, 18, 19, 20, 21, 22, 23, 24, 25] tm _ hz hoff
         simp only [List.foldl, List.setIfInBounds_toArray, List.set_cons_zero, List.set_cons_succ, hx] at htm
         clear hz hoff
         generalize tm.getD 15 undef = u0, tm.getD 16 undef = u1, tm.getD 17 undef = u2, tm.getD 18 undef = u3, tm.getD 19 undef = u4, tm.getD 20 undef = u5, tm.getD 21 undef = u6, tm.getD 22 undef = u7, tm.getD 23 undef = u8, tm.getD 24 undef = u9 at htm
         clear hx
         subst htm
         go_wp2_with fail
         go_meet
         exact ⟨congrArg Value.bool hv.symm, hBz⟩
     case rest =>
       obtain ⟨hq2, hBc⟩ := hcut
       subst hq2
       have HBN := HB.trans (hBc.mono HB.size)
       clear hBc HB
       cases hz : (decide (c ≠ i) && inB (q i) (L c) (q c))
       · have HX : Hid (dpN L q i (c + 1) = dpN L q i c) := dpN_off (by
           by_cases h : c = i
           · exact .inl h
           · rw [decide_eq_true h, Bool.true_and] at hz
             exact .inr hz)
         clear hz
         go_wp2
         go_roundw
         case rel => exact ⟨c + 1, by omega, by go_num, by rw [HX.out], HBN⟩
         case measure => simp [intOf]; omega
       · have HX : Hid (dpN L q i (c + 1) = dpN L q i c + 1) := by
           rw [Bool.and_eq_true, decide_eq_true_eq] at hz
           exact dpN_on hz.1 hz.2
         clear hz
         go_wp2
         go_roundw
         case rel => exact ⟨c + 1, by omega, by go_num, by rw [HX.out]; go_num, HBN⟩
         case measure => simp [intOf]; omega
   · obtain rfl : c = n := by omega
     clear HS HR
     go_wp2
     go_ret
     exact ⟨rfl, HB⟩
def dpV (n : Nat) (L : Nat → Nat) (q : Nat → Ps) (x : Int) : Int := if lyB n L q = true ∧ (0 ≤ x ∧ x < n) then (dpN L q x.toNat n : Nat) else -1
theorem l1InV_any (x a b : Int) (w : World) : Calls Tryz.prog 48 #[.int .i64 x, .int .i64 a, .int .i64 b] w (VP (.bool (decide (a ≤ x ∧ x ≤ b))) w) := by
 by_cases h1 : a ≤ x
 · by_cases h2 : x ≤ b
   · rw [decide_eq_true (show a ≤ x ∧ x ≤ b from ⟨h1, h2⟩)]
     go_enter Tryz.func48, Tryz.ntmps48
     go_wp2
     go_ret
     exact ⟨rfl, Below.refl _ _⟩
   · rw [decide_eq_false (show ¬ (a ≤ x ∧ x ≤ b) from fun h => h2 h.2)]
     go_enter Tryz.func48, Tryz.ntmps48
     go_wp2
     go_ret
     exact ⟨rfl, Below.refl _ _⟩
 · rw [decide_eq_false (show ¬ (a ≤ x ∧ x ≤ b) from fun h => h1 h.1)]
   go_enter Tryz.func48, Tryz.ntmps48
   go_wp2
   go_ret
   exact ⟨rfl, Below.refl _ _⟩
set_option maxRecDepth 100000 in
set_option maxHeartbeats 4000000 in
theorem specDepthOf_any (ao : Option Addr) (n cap : Nat) (S : Nat → Option Addr × Nat) (L : Nat → Nat) (q : Nat → Ps) (x : Int) (hn : n ≤ 1048576) (hL : ∀ i, i < n → L i ≤ 1048576) (hx0 : -9223372036854775808 ≤ x) (hx1 : x ≤ 9223372036854775807) (w : World) (hS : RgIn w ao n S L q) : Calls Tryz.prog 23 #[.slice ao n cap, .int .i64 x] w (VP (.int .i64 (dpV n L q x)) w) := by
 have O1 := fun w h => l6Ok_any ao n cap S L q hn hL w h
 have hv : Hid (dpV n L q x = if lyB n L q = true ∧ (0 ≤ x ∧ x < n) then ((dpN L q x.toNat n : Nat) : Int) else -1) := rfl
 have hnI : (n : Int) ≤ 1048576 := by omega
 have HS := hS
 clear hS hL
 generalize dpV n L q x = o at *
 go_enter Tryz.func23, Tryz.ntmps23
 go_wp2_with fail
 refine (O1 _ HS).mono ?_
 rintro e w1 ⟨rfl, hB⟩
 have HB := hB
 replace HS := HS.step hB
 clear hB O1
 cases h1 : lyB n L q
 · have hv2 : Hid (o = -1) := by show _ = _; rw [hv.out, if_neg (fun h => by rw [h1] at h; exact absurd h.1 (by simp))]
   clear h1 hv HS
   go_wp2
   go_ret
   exact ⟨by rw [hv2.out]; rfl, HB⟩
 · obtain ⟨h6, hR⟩ := lyB_ok h1
   have DP := fun i hi w h => l6Depth_any ao n cap S L q i hi h6 hR w h
   clear hR
   have LI := l1InV_any x 0 ((n : Int) - 1)
   have hw : IntKind.i64.wrap ((n : Int) - 1) = (n : Int) - 1 := by rw [IntKind.wrap_i64]; omega
   by_cases hx : 0 ≤ x ∧ x < n
   · have hv2 : Hid (o = (dpN L q x.toNat n : Nat)) := by show _ = _; rw [hv.out, if_pos ⟨h1, hx⟩]
     obtain ⟨k, hk⟩ : ∃ k : Nat, x = k := ⟨x.toNat, by omega⟩
     subst hk
     have hkn : k < n := by omega
     have hkI : (k : Int) < n := by omega
     have hk0 : (0 : Int) ≤ k := by omega
     have DP2 := fun w h => DP k hkn w h
     have hv3 : Hid (o = (dpN L q k n : Nat)) := hv2.out
     clear hv hv2 DP h1 hx
     go_wp2_with fail
     refine (LI _).mono ?_
     rintro e w2 ⟨rfl, hB⟩
     replace HB := HB.trans (hB.mono HB.size); replace HS := HS.step hB
     clear hB LI
     rw [show decide (0 ≤ (k : Int) ∧ (k : Int) ≤ (n : Int) - 1) = true from decide_eq_true (by omega)]
     go_wp2_with fail
     refine (DP2 _ HS).mono ?_
     rintro e w3 ⟨rfl, hB⟩
     replace HB := HB.trans (hB.mono HB.size)
     clear hB DP2 HS
     go_wp2
     go_ret
     exact ⟨by rw [hv3.out]; rfl, HB⟩
   · have hv2 : Hid (o = -1) := by show _ = _; rw [hv.out, if_neg (fun h => hx h.2)]
     go_wp2_with fail
     refine (LI _).mono ?_
     rintro e w2 ⟨rfl, hB⟩
     replace HB := HB.trans (hB.mono HB.size); replace HS := HS.step hB
     clear hB LI
     rw [show decide (0 ≤ x ∧ x ≤ (n : Int) - 1) = false from decide_eq_false (by omega)]
     clear hv HS DP
     go_wp2
     go_ret
     exact ⟨by rw [hv2.out]; rfl, HB⟩
set_option maxRecDepth 100000 in
set_option maxHeartbeats 4000000 in
theorem implDepthOf_any (ao : Option Addr) (n cap : Nat) (S : Nat → Option Addr × Nat) (L : Nat → Nat) (q : Nat → Ps) (x : Int) (hn : n ≤ 1048576) (hL : ∀ i, i < n → L i ≤ 1048576) (hc1 : n ≤ cap) (hc2 : cap ≤ 9223372036854775807) (hC : ∀ i, i < n → L i ≤ (S i).2 ∧ (S i).2 ≤ 9223372036854775807) (hx0 : -9223372036854775808 ≤ x) (hx1 : x ≤ 9223372036854775807) (w : World) (hS : RgIn w ao n S L q) : Calls Tryz.prog 24 #[.slice ao n cap, .int .i64 x] w (VP (.int .i64 (dpV n L q x)) w) := by
 have O1 := fun w h => isLayer_any ao n cap S L q hn hc1 hc2 hL hC w h
 have hv : Hid (dpV n L q x = if lyB n L q = true ∧ (0 ≤ x ∧ x < n) then ((dpN L q x.toNat n : Nat) : Int) else -1) := rfl
 have hnI : (n : Int) ≤ 1048576 := by omega
 have HS := hS
 clear hS hL hC
 generalize dpV n L q x = o at *
 go_enter Tryz.func24, Tryz.ntmps24
 go_wp2_with fail
 refine (O1 _ HS).mono ?_
 rintro e w1 ⟨rfl, hB⟩
 have HB := hB
 replace HS := HS.step hB
 clear hB O1
 cases h1 : lyB n L q
 · have hv2 : Hid (o = -1) := by show _ = _; rw [hv.out, if_neg (fun h => by rw [h1] at h; exact absurd h.1 (by simp))]
   clear h1 hv HS
   go_wp2
   go_ret
   exact ⟨by rw [hv2.out]; rfl, HB⟩
 · obtain ⟨h6, hR⟩ := lyB_ok h1
   have DP := fun i hi w h => depthOf_any ao n cap S L q i hi h6 hR w h
   clear hR
   by_cases hx : 0 ≤ x ∧ x < n
   · have hv2 : Hid (o = (dpN L q x.toNat n : Nat)) := by show _ = _; rw [hv.out, if_pos ⟨h1, hx⟩]
     obtain ⟨k, hk⟩ : ∃ k : Nat, x = k := ⟨x.toNat, by omega⟩
     subst hk
     have hkn : k < n := by omega
     have hkI : (k : Int) < n := by omega
     have hk0 : (0 : Int) ≤ k := by omega
     have DP2 := fun w h => DP k hkn w h
     have hv3 : Hid (o = (dpN L q k n : Nat)) := hv2.out
     clear hv hv2 DP h1 hx
     skip
     go_wp2_with fail
     refine (DP2 _ HS).mono ?_
     rintro e w3 ⟨rfl, hB⟩
     replace HB := HB.trans (hB.mono HB.size)
     clear hB DP2 HS
     go_wp2
     go_ret
     exact ⟨by rw [hv3.out]; rfl, HB⟩
   · have hv2 : Hid (o = -1) := by show _ = _; rw [hv.out, if_neg (fun h => hx h.2)]
     skip
     clear hv HS DP
     by_cases hx0 : x < 0
     · go_wp2
       go_ret
       exact ⟨by rw [hv2.out]; rfl, HB⟩
     · have hx1 : (n : Int) ≤ x := by omega
       have hx2 : 0 ≤ x := by omega
       go_wp2
       go_ret
       exact ⟨by rw [hv2.out]; rfl, HB⟩
set_option maxRecDepth 100000 in
set_option maxHeartbeats 4000000 in
theorem lawDepthOf_any (ao : Option Addr) (n cap : Nat) (S : Nat → Option Addr × Nat) (L : Nat → Nat) (q : Nat → Ps) (x : Int) (hx0 : -9223372036854775808 ≤ x) (hx1 : x ≤ 9223372036854775807) (hn : n ≤ 9223372036854775807) (hL : ∀ i, i < n → L i ≤ 9223372036854775807) (w : World) (hS : RgIn w ao n S L q) : Calls Tryz.prog 7 #[.slice ao n cap, .int .i64 x] w (BoolP true w) := by
 have SZ := szRingS_any 1048576 (by omega) (by omega) ao n cap S L q hn hL w hS
 go_enter Tryz.func7, Tryz.ntmps7
 go_wp2_with fail
 refine SZ.mono ?_
 rintro e w1 ⟨zl, rfl, z0, z1, hzl, hB⟩
 have HB := hB
 have HS := hS.step hB
 clear hB SZ hS hL hn
 by_cases hz0 : 0 ≤ zl
 · obtain ⟨hn, hL⟩ := hzl hz0
   have T1 := fun w => toRingS_any ao n cap S L q hn hL w
   have SP := fun a S w h => specDepthOf_any a n n S L q x hn hL hx0 hx1 w h
   have IM := fun a S hc w h => implDepthOf_any a n n S L q x hn hL (Nat.le_refl _) (by omega) hc hx0 hx1 w h
   have EQ := fun a b S S' w h h' => eqRingS_any a b n n n S S' L q hn hL w h h'
   have HL : Hid (∀ i, i < n → L i ≤ 1048576) := hL
   generalize dpV n L q x = o at *
   have hoo : (o != o) = false := by simp
   clear hzl hL
   go_wp2_with fail
   refine (T1 _ HS).mono ?_
   rintro e w2 ⟨g1, S1, rfl, R1, -, -, hB⟩
   replace HB := HB.trans (hB.mono HB.size)
   replace HS := HS.step hB
   clear hB
   go_wp2_with fail
   refine (SP _ _ _ R1).mono ?_
   rintro e w3 ⟨rfl, hB⟩
   replace HB := HB.trans (hB.mono HB.size)
   replace HS := HS.step hB
   clear hB R1 SP
   go_wp2_with fail
   refine (T1 _ HS).mono ?_
   rintro e w4 ⟨g2, S2, rfl, R2, hS2, -, hB⟩
   replace HB := HB.trans (hB.mono HB.size)
   replace HS := HS.step hB
   have HC : Hid (∀ i, i < n → L i ≤ (S2 i).2 ∧ (S2 i).2 ≤ 9223372036854775807) := fun i hi => by
     have := HL.out i hi
     rw [hS2 i]
     omega
   clear hB hS2
   go_wp2_with fail
   refine (IM _ _ HC.out _ R2).mono ?_
   rintro e w5 ⟨rfl, hB⟩
   replace HB := HB.trans (hB.mono HB.size)
   replace HS := HS.step hB
   replace R2 := R2.step hB
   clear hB IM
   go_wp2_with fail
   refine (T1 _ HS).mono ?_
   rintro e w6 ⟨g3, S3, rfl, R3, -, -, hB⟩
   replace HB := HB.trans (hB.mono HB.size)
   replace R2 := R2.step hB
   clear hB HS T1
   go_wp2_with fail
   refine (EQ _ _ _ _ _ R2 R3).mono ?_
   rintro e w7 ⟨rfl, hB⟩
   replace HB := HB.trans (hB.mono HB.size)
   clear hB R2 R3 EQ
   go_wp2
   go_ret
   exact ⟨rfl, HB⟩
 · clear hzl
   have hz' : zl < 0 := by omega
   go_wp2
   go_ret
   exact ⟨rfl, HB⟩
open Go.ChangeShapes Go.WideShapes Go.ChangeAt Go.RowKit Go.Joins
abbrev Wf (x : Int) : Prop := (Lit.int .i64 x).wf = true
abbrev SpD {H : Type} (x y : Int) : DataW H := .agg [.lit (.int .i64 x), .lit (.int .i64 y)]
theorem trod_spot {H : Type} {enc : TypeId × Value → H} {w : World} {base : Nat} {spare : TypeId → Bool} {held : Bool} {n : Nat} {c0 c1 : Value} {y : DataW H × List MemPlace} (h : DataW.trod enc Tryz.prog w base spare held n 90 [c0, c1] = some y) :
   ∃ a b : Int, c0 = .int .i64 a ∧ c1 = .int .i64 b ∧ y = (SpD a b, []) ∧ Wf a ∧ Wf b := by
 obtain ⟨y0, y1, m, hx, _, h0, h1⟩ := trod_struct2 Tryz.underlying90 h
 obtain ⟨a, e0, rfl, wa⟩ := DataW.trod_int Tryz.underlying2 h0
 obtain ⟨b, e1, rfl, wb⟩ := DataW.trod_int Tryz.underlying2 h1
 have k : Tryz.prog.cellsOf 2 = 1 := by kernel_rfl
 simp [k] at e0 e1
 exact ⟨a, b, e0, e1, hx, wa, wb⟩
open Go.ChangeShapes Go.WideShapes Go.ChangeAt Go.RowKit Go.Joins
theorem Tryz.laidOut : laidOutB Tryz.prog = true := by kernel_rfl
theorem Tryz.cellsSpotL : Tryz.prog.cellsOf 90 = 2 := by kernel_rfl
theorem Tryz.cellsRing : Tryz.prog.cellsOf 24 = 1 := by kernel_rfl
theorem Tryz.cellsSpotS : Tryz.prog.cellsOf 22 = 1 := by kernel_rfl
theorem spots_of {H : Type} {enc : TypeId × Value → H} {W : World} {a : Addr} {len m n : Nat} {D : Nat → DataW H} {Pl : Nat → List MemPlace} (hl : len ≤ m)
   (hx : ∀ i, i < m → ∃ cs', W.cells? 0 (a.add (i * Tryz.prog.cellsOf 90)) (Tryz.prog.cellsOf 90) = some cs' ∧ DataW.trod enc Tryz.prog W 0 (fun _ => true) true n 90 cs' = some (D i, Pl i))
   (hlt : ∀ x ∈ MemPlace.row a (m * Tryz.prog.cellsOf 90), x.block < W.heap.size) : ∃ p : Ps, SpIn W (some a) len p := by
 rw [Tryz.cellsSpotL] at hx hlt
 have each : ∀ i, i < m → ∃ q : Int × Int, W.cell? (a.add (i * 2)) = some (.int .i64 q.1) ∧ W.cell? (a.add (i * 2 + 1)) = some (.int .i64 q.2) := by
   intro i hi
   obtain ⟨cs', h1, h2⟩ := hx i hi
   obtain ⟨_, hlen, hcell⟩ := World.cells?_some h1
   match cs', hlen with
   | [v0, v1], _ =>
     have e0 := hcell 0 (by omega); have e1 := hcell 1 (by omega)
     rw [Go.Deep.add_add] at e0 e1
     obtain ⟨x, y, rfl, rfl, -, -, -⟩ := trod_spot h2
     exact ⟨(x, y), by simpa using e0, by simpa using e1⟩
 obtain ⟨q, hq⟩ := Go.Deep.choose_lt each
 obtain ⟨ab, ao, spot⟩ := a
 refine ⟨q, fun i hi => ?_⟩
 have hspot : spot = none := by simpa [Addr.add] using World.cell?_spot (hq 0 (by omega)).1
 subst hspot
 obtain ⟨c0, c1⟩ := hq i (by omega)
 rw [Addr.add_lit] at c0 c1
 exact ⟨ab, ao, rfl, hlt (.cell ab (ao + i * 2)) (by simp only [MemPlace.row, List.mem_map, List.mem_range]; exact ⟨i * 2, by omega, rfl⟩), c0, by simpa [Nat.add_assoc] using c1⟩
theorem rings_of {H : Type} {enc : TypeId × Value → H} {W : World} {a : Addr} {len m n : Nat} {D : Nat → DataW H} {Pl : Nat → List MemPlace} (hl : len ≤ m)
   (hx : ∀ i, i < m → ∃ cs', W.cells? 0 (a.add (i * Tryz.prog.cellsOf 24)) (Tryz.prog.cellsOf 24) = some cs' ∧ DataW.trod enc Tryz.prog W 0 (fun _ => true) true n 24 cs' = some (D i, Pl i))
   (hlt : ∀ x ∈ MemPlace.row a (m * Tryz.prog.cellsOf 24), x.block < W.heap.size) (hlt2 : ∀ i, i < m → ∀ x ∈ Pl i, x.block < W.heap.size) : ∃ (S : Nat → Option Addr × Nat) (L : Nat → Nat) (q : Nat → Ps), RgIn W (some a) len S L q ∧ ∀ i, i < len → L i ≤ 9223372036854775807 := by
 rw [Tryz.cellsRing] at hx hlt
 have each : ∀ i, i < m → ∃ r : (Option Addr × Nat) × Nat × Ps, W.cell? (a.add i) = some (.slice r.1.1 r.2.1 r.1.2) ∧ SpIn W r.1.1 r.2.1 r.2.2 ∧ r.2.1 ≤ 9223372036854775807 := by
   intro i hi
   obtain ⟨cs', h1, h2⟩ := hx i hi
   obtain ⟨_, hlen, hcell⟩ := World.cells?_some h1
   match cs', hlen with
   | [v0], _ =>
     have e0 := hcell 0 (by omega)
     rw [Go.Deep.add_add] at e0
     simp at e0
     obtain ⟨y0, k, hy, _, g0⟩ := trod_struct1 Tryz.underlying24 h2
     simp [Tryz.cellsSpotS] at g0
     have hpl : Pl i = y0.2 := by have := congrArg Prod.snd hy; simpa using this
     rcases Go.Deep.open_slice Tryz.underlying22 g0 with ⟨hcs, -⟩ | ⟨a', len', cap', m', n', D', Pl', hcs, _, hl', hm', hz', hx', hel'⟩
     · simp at hcs
       subst hcs
       exact ⟨((none, 0), 0, fun _ => (0, 0)), e0, fun i hi => absurd hi (Nat.not_lt_zero _), Nat.zero_le _⟩
     · simp at hcs
       subst hcs
       simp only [if_true] at hz'
       have hb : ∀ x ∈ MemPlace.row a' (m' * Tryz.prog.cellsOf 90), x.block < W.heap.size := fun x hxx => hlt2 i hi x (by
         rw [hpl, hx']
         exact List.mem_append_left _ hxx)
       obtain ⟨p, hp⟩ := spots_of (len := len') (by omega) hel' hb
       exact ⟨((some a', cap'), len', p), e0, hp, by show len' ≤ _; have := hm'; simp [maxLen] at this; omega⟩
 obtain ⟨r, hr⟩ := Go.Deep.choose_lt each
 obtain ⟨ab, ao, spot⟩ := a
 refine ⟨fun i => (r i).1, fun i => (r i).2.1, fun i => (r i).2.2, fun i hi => ?_, fun i hi => (hr i (by omega)).2.2⟩
 have hspot : spot = none := by simpa [Addr.add] using World.cell?_spot (hr 0 (by omega)).1
 subst hspot
 have c0 := (hr i (by omega)).1
 rw [Addr.add_lit] at c0
 exact ⟨ab, ao, rfl, hlt (.cell ab (ao + i)) (by simp only [MemPlace.row, List.mem_map, List.mem_range]; exact ⟨i, by omega, rfl⟩), c0, (hr i (by omega)).2.1⟩
set_option maxRecDepth 100000 in
theorem open_rings {H : Type} {enc : TypeId × Value → H} {W : World} {base : Nat} {v : Value} {d : DataW H} {pl : List MemPlace} (ok : Value.okWide Tryz.prog W .any base 43 v) (h : DataW.Trod enc Tryz.prog W 0 (fun _ => true) true 43 v d pl) (hlt : ∀ x ∈ pl, x.block < W.heap.size) :
   ∃ ao n cap S L q, v = .slice ao n cap ∧ n ≤ 9223372036854775807 ∧ (∀ i, i < n → L i ≤ 9223372036854775807) ∧ RgIn W ao n S L q := by
 obtain ⟨a0, len, cap, rfl⟩ := okWide_slice Tryz.underlying43 ok
 obtain ⟨fuel, hf⟩ := h
 rcases Go.Deep.open_slice Tryz.underlying43 hf with ⟨hcs, hx⟩ | ⟨a, len', cap', m, n, D, Pl, hcs, _, hl, hm, hz, hx, hel⟩
 · simp [Value.cells] at hcs
   obtain ⟨rfl, rfl, rfl⟩ := hcs
   exact ⟨none, 0, 0, fun _ => (none, 0), fun _ => 0, fun _ _ => (0, 0), rfl, by omega, fun i hi => by omega, fun i hi => by omega⟩
 · simp [Value.cells] at hcs
   obtain ⟨rfl, rfl, rfl⟩ := hcs
   simp only [Prod.mk.injEq] at hx
   obtain ⟨rfl, rfl⟩ := hx
   simp only [if_true] at hz
   obtain ⟨S, L, q, hS, hL⟩ := rings_of (len := len) (by omega) hel (fun y hy => hlt y (List.mem_append_left _ hy)) (fun i hi y hy => hlt y (List.mem_append_right _ (List.mem_flatMap.2 ⟨i, List.mem_range.2 hi, hy⟩)))
   exact ⟨some a, len, cap, S, L, q, rfl, by have := hm; simp [maxLen] at this; omega, hL, hS⟩
open Go.ChangeShapes Go.WideShapes Go.ChangeAt Go.RowKit Go.Joins
theorem jn_laid : laidOutB Tryz.pinned.checked.prog = true := by kernel_rfl
theorem jn_maps : mapsRowed Tryz.pinned.checked.prog = true := by kernel_rfl
theorem jn_enter : Tryz.pinned.checked.prog.mayEnter = true := by kernel_rfl
theorem jn_heard : Tryz.pinned.checked.prog.stopsHeard = true := by kernel_rfl
end Go.Proofs.YtibbjjlapglndaaGreat
