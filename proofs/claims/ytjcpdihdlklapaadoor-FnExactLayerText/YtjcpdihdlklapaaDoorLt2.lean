/- Part 2 of the walks that the proof leans on. -/
import Derived.Test.YtjcpdihdlklapaaDoorLt1
import Derived.Test.YtjcpdihdlklapaaDoorRows
import Derived.Shelf.Strings.OnBuilder
import Derived.Shelf.Strconv.Itoa4
import Derived.Deep.RegionHeld3
import Derived.Lib.AppendIntMem
import Derived.Maps.AppendAt
namespace Go.Proofs.YtjcpdihdlklapaaDoor
open Go.RowKit
set_option maxRecDepth 100000 in
set_option maxHeartbeats 4000000 in
theorem isShort_any (z : Int) (b : Bool) (hb : shB z = b) (w : World) : Calls Tryd.prog 46 #[.int .i64 z] w (VP (.bool b) w) := by
 subst hb
 by_cases h1 : (-999999999999999 : Int) ≤ z
 · by_cases h2 : z ≤ 999999999999999
   · have HO : Hid (shB z = true) := decide_eq_true ⟨h1, h2⟩
     go_enter Tryd.func46, Tryd.ntmps46
     go_wp2
     go_ret
     exact ⟨by rw [HO.out]; simp, Below.refl _ _⟩
   · have HO : Hid (shB z = false) := decide_eq_false fun h => h2 h.2
     go_enter Tryd.func46, Tryd.ntmps46
     go_wp2
     go_ret
     exact ⟨by rw [HO.out]; simp, Below.refl _ _⟩
 · have HO : Hid (shB z = false) := decide_eq_false fun h => h1 h.1
   go_enter Tryd.func46, Tryd.ntmps46
   go_wp2
   go_ret
   exact ⟨by rw [HO.out]; simp, Below.refl _ _⟩
set_option maxRecDepth 100000 in
set_option maxHeartbeats 4000000 in
theorem l6Short_any (z : Int) (b : Bool) (hb : shB z = b) (w : World) : Calls Tryd.prog 15 #[.int .i64 z] w (VP (.bool b) w) := by
 have C := l1In_any z (-999999999999999) 999999999999999 b hb w
 go_enter Tryd.func15, Tryd.ntmps15
 go_wp2_with fail
 refine C.mono ?_
 rintro e w1 ⟨rfl, hB⟩
 clear C
 go_wp2
 go_ret
 exact ⟨rfl, hB⟩
set_option maxRecDepth 100000 in
set_option maxHeartbeats 4000000 in
theorem l6Num_any (z : Int) (h : shB z = true) (w : World) : Calls Tryd.prog 16 #[.int .i64 z] w (VP (.string (bA (Lib.itoa z))) w) := by
 have h9 := of_decide_eq_true h
 have C := fun w => int_any z w (by omega) (by omega)
 have HT : Hid (txS z = bA (Lib.itoa z)) := txS_itoa z
 clear h h9
 go_enter Tryd.func16, Tryd.ntmps16
 go_wp2_with fail
 refine (C _).mono ?_
 rintro e w1 ⟨s, o, n, c, d, rfl, N1, hB⟩
 clear C
 go_wp2_with fail
 refine (l1Text_any s o n c d z _ _ N1 (by omega)).mono ?_
 rintro e w2 ⟨rfl, hB2⟩
 have HB := hB.trans (hB2.mono hB.size)
 clear N1 hB hB2
 rw [HT.out]
 go_wp2
 go_ret
 exact ⟨rfl, HB⟩
set_option maxRecDepth 100000 in
set_option maxHeartbeats 4000000 in
theorem countSpotsT_any (ao : Option Addr) (n cap : Nat) (S : Nat → Option Addr × Nat) (L : Nat → Nat) (q : Nat → Ps) (hn : n ≤ 6) (hL : ∀ i, i < n → L i ≤ 1048576) (w : World) (hS : RgIn w ao n S L q) : Calls Tryd.prog 43 #[.slice ao n cap] w (VP (.int .i64 (smR L n : Nat)) w) := by
 have HS : Hid (RgIn w ao n S L q) := hS
 have HL : Hid (∀ i, i < n → L i ≤ 1048576) := hL
 have hnI : (n : Int) ≤ 6 := by omega
 clear hS hL
 go_enter Tryd.func43, Tryd.ntmps43
 go_wp2_with fail
 go_loopw [3, 8] (fun s i wr => ∃ c : Nat, c ≤ n ∧ i = .int .i64 c ∧ s = .int .i64 (smR L c : Nat) ∧ Below w.heap.size w wr) (fun _ i _ => n - (intOf i).toNat)
 case atStart => exact ⟨0, by omega, rfl, rfl, Below.refl _ _⟩
 case round =>
   obtain ⟨c, hc, rfl, rfl, HB⟩ := hrel
   by_cases hcn : c < n
   · obtain ⟨A, off, rfl, hA, q0, -⟩ := HS.out.step HB c hcn
     have hcI : (c : Int) < n := by omega
     have s1 := smR_le HL.out c hc
     have s2 := HL.out c hcn
     have hw : IntKind.i64.wrap (((smR L c : Nat) : Int) + (L c : Int)) = ((smR L (c + 1) : Nat) : Int) := by rw [IntKind.wrap_i64, smR]; omega
     have HBN : Below w.heap.size w (wr.alloc (.cells #[.slice (S c).1 (L c) (S c).2] 39)) := HB.alloc HB.size _
     clear s1 s2 HB
     go_wp2
     go_roundw
     case rel => exact ⟨c + 1, by omega, by go_num, rfl, HBN⟩
     case measure => simp [intOf]; omega
   · obtain rfl : c = n := by omega
     clear HS HL
     go_wp2
     go_ret
     exact ⟨rfl, HB⟩
set_option maxRecDepth 100000 in
set_option maxHeartbeats 4000000 in
theorem fits_any (ao : Option Addr) (n cap : Nat) (S : Nat → Option Addr × Nat) (L : Nat → Nat) (q : Nat → Ps) (hn : n ≤ 1048576) (hL : ∀ i, i < n → L i ≤ 1048576) (w : World) (hS : RgIn w ao n S L q) : Calls Tryd.prog 26 #[.slice ao n cap] w (VP (.bool (decide (n ≤ 6 ∧ smR L n ≤ 20))) w) := by
 by_cases h6 : n ≤ 6
 · have C := countSpotsT_any ao n cap S L q h6 hL w hS
   have h6I : (n : Int) ≤ 6 := by omega
   have HO : Hid (decide (n ≤ 6 ∧ smR L n ≤ 20) = decide (((smR L n : Nat) : Int) ≤ 20)) := decide_eq_decide.2 ⟨fun h => by have := h.2; omega, fun h => ⟨h6, by omega⟩⟩
   clear hS hL
   obtain ⟨m, hm⟩ : ∃ m, smR L n = m := ⟨_, rfl⟩
   rw [hm] at C HO
   have HM : Hid (smR L n = m) := hm
   clear hm
   go_enter Tryd.func26, Tryd.ntmps26
   go_wp2_with fail
   refine C.mono ?_
   rintro e w1 ⟨rfl, hB⟩
   clear C
   go_wp2
   go_ret
   exact ⟨by rw [HM.out, HO.out]; rfl, hB⟩
 · have h6I : ¬ ((n : Int) ≤ 6) := by omega
   have HO : Hid (decide (n ≤ 6 ∧ smR L n ≤ 20) = false) := decide_eq_false fun h => h6 h.1
   clear hS hL
   go_enter Tryd.func26, Tryd.ntmps26
   go_wp2
   go_ret
   exact ⟨by first | rfl | (rw [HO.out]; rfl), Below.refl _ _⟩
set_option maxRecDepth 100000 in
set_option maxHeartbeats 4000000 in
theorem hasText_any (ao : Option Addr) (n cap : Nat) (p : Ps) (hn : n ≤ 1048576) (w : World) (hS : SpIn w ao n p) : Calls Tryd.prog 34 #[.agg #[.slice ao n cap]] w (VP (.bool (htB n p)) w) := by
 have B0 := Blk.new w [.slice ao n cap] 39 rfl
 have HB : Below w.heap.size w (w.alloc (.cells #[.slice ao n cap] 39)) := (Below.refl _ w).alloc (Nat.le_refl _) _
 have HS : Hid (SpIn w ao n p) := hS
 have hnI : (n : Int) ≤ 1048576 := by omega
 clear hS
 go_enter Tryd.func34, Tryd.ntmps34
 go_upto_region 1 with fail
 generalize (w.alloc (.cells #[.slice ao n cap] 39)) = W1 at *
 have b0 := B0.c 0 rfl
 go_wp2_with fail
 clear b0
 go_loopw [8] (fun i wr => ∃ c : Nat, c ≤ n ∧ i = .int .i64 c ∧ (∀ j, j < c → shB (p j).1 = true ∧ shB (p j).2 = true) ∧ Below W1.heap.size W1 wr) (fun i _ => n - (intOf i).toNat)
 case atStart => exact ⟨0, by omega, rfl, fun j hj => by omega, Below.refl _ _⟩
 case round =>
   obtain ⟨c, hc, rfl, hall, HBr⟩ := hrel
   have HA : Hid (∀ j, j < c → shB (p j).1 = true ∧ shB (p j).2 = true) := hall
   clear hall
   have hb := B0.step HBr
   by_cases hcn : c < n
   · have hcI : (c : Int) < n := by omega
     obtain ⟨A, off, rfl, hA, q0, q1⟩ := (HS.out.step HB).step HBr c hcn
     obtain ⟨b1, hb1⟩ : ∃ b1, shB (p c).1 = b1 := ⟨_, rfl⟩
     obtain ⟨b2, hb2⟩ : ∃ b2, shB (p c).2 = b2 := ⟨_, rfl⟩
     have C1 := fun w => isShort_any (p c).1 b1 hb1 w
     have C2 := fun w => isShort_any (p c).2 b2 hb2 w
     have H12 : Hid (shB (p c).1 = b1 ∧ shB (p c).2 = b2) := ⟨hb1, hb2⟩
     clear hb1 hb2
     have X := Blk.new wr [.int .i64 (p c).1, .int .i64 (p c).2] 41 rfl
     have HBX := HBr.alloc HBr.size (.cells #[.int .i64 (p c).1, .int .i64 (p c).2] 41)
     go_upto_region 4 with fail
     generalize wr.heap.size = P at *
     revert X
     rw [show ([.int .i64 (p c).1, .int .i64 (p c).2] : List Value).toArray = #[.int .i64 (p c).1, .int .i64 (p c).2] from rfl]
     intro X
     generalize (wr.alloc (.cells #[.int .i64 (p c).1, .int .i64 (p c).2] 41)) = W2 at *
     have x0 := X.c 0 rfl; have x1 := X.c 1 rfl
     clear q0 q1 hb HBr
     go_wp2_with fail
     refine (C1 _).mono ?_
     rintro e w3 ⟨rfl, hB⟩
     have X3 := X.step hB
     replace HBX := HBX.trans (hB.mono HBX.size)
     clear hB C1 x0 x1 X
     have x0 := X3.c 0 rfl; have x1 := X3.c 1 rfl
     cases b1 with
     | false =>
       have HO : Hid (htB n p = false) := by
         rw [Hid]
         rw [Bool.eq_false_iff]
         intro h
         have := ((htB_iff.1 h).2 c hcn).1
         rw [H12.out.1] at this
         cases this
       have HBF := HB.trans (HBX.mono HB.size)
       clear C2 X3 x0 x1 HBX
       go_wp2
       go_ret
       exact ⟨by rw [HO.out]; rfl, HBF⟩
     | true =>
       go_wp2_with fail
       refine (C2 _).mono ?_
       rintro e w4 ⟨rfl, hB⟩
       replace HBX := HBX.trans (hB.mono HBX.size)
       clear hB C2 x0 x1 X3
       cases b2 with
       | false =>
         have HO : Hid (htB n p = false) := by
           rw [Hid]
           rw [Bool.eq_false_iff]
           intro h
           have := ((htB_iff.1 h).2 c hcn).2
           rw [H12.out.2] at this
           cases this
         have HBF := HB.trans (HBX.mono HB.size)
         clear HBX
         go_wp2
         go_ret
         exact ⟨by rw [HO.out]; rfl, HBF⟩
       | true =>
         have HN : Hid (∀ j, j < c + 1 → shB (p j).1 = true ∧ shB (p j).2 = true) := fun j hj => by
           rcases Nat.lt_or_ge j c with h | h
           · exact HA.out j h
           · obtain rfl : j = c := by omega
             exact H12.out
         clear HA H12
         go_wp2
         go_roundw
         case rel => exact ⟨c + 1, by omega, by go_num, HN.out, HBX⟩
         case measure => simp [intOf]; omega
   · obtain rfl : c = n := by omega
     have HO : Hid (htB c p = decide (0 < c)) := by
       show _ = _
       by_cases h0 : 0 < c
       · rw [decide_eq_true h0, htB_iff]
         exact ⟨h0, HA.out⟩
       · rw [decide_eq_false h0, Bool.eq_false_iff]
         exact fun h => h0 (htB_iff.1 h).1
     have b0 := hb.c 0 rfl
     have HBF := HB.trans (HBr.mono HB.size)
     clear HA hb HBr B0 HS
     go_wp2
     go_ret
     exact ⟨by rw [HO.out]; simp, HBF⟩
set_option maxRecDepth 100000 in
set_option maxHeartbeats 4000000 in
theorem haveText_any (ao : Option Addr) (n cap : Nat) (S : Nat → Option Addr × Nat) (L : Nat → Nat) (q : Nat → Ps) (hn : n ≤ 1048576) (hL : ∀ i, i < n → L i ≤ 1048576) (w : World) (hS : RgIn w ao n S L q) : Calls Tryd.prog 18 #[.slice ao n cap] w (VP (.bool (hvB n L q)) w) := by
 have C := fits_any ao n cap S L q hn hL w hS
 have HS : Hid (RgIn w ao n S L q) := hS
 have HL : Hid (∀ i, i < n → L i ≤ 1048576) := hL
 have hnI : (n : Int) ≤ 1048576 := by omega
 clear hS hL
 by_cases hf : n ≤ 6 ∧ smR L n ≤ 20
 · rw [decide_eq_true hf] at C
   have HF : Hid (n ≤ 6 ∧ smR L n ≤ 20) := hf
   clear hf
   go_enter Tryd.func18, Tryd.ntmps18
   go_wp2_with fail
   refine C.mono ?_
   rintro e w1 ⟨rfl, HB⟩
   clear C
   go_wp2_with fail
   go_loopw [10] (fun i wr => ∃ c : Nat, c ≤ n ∧ i = .int .i64 c ∧ (∀ j, j < c → htB (L j) (q j) = true) ∧ Below w1.heap.size w1 wr) (fun i _ => n - (intOf i).toNat)
   case atStart => exact ⟨0, by omega, rfl, fun j hj => by omega, Below.refl _ _⟩
   case round =>
     obtain ⟨c, hc, rfl, hall, HBr⟩ := hrel
     have HA : Hid (∀ j, j < c → htB (L j) (q j) = true) := hall
     clear hall
     have HBw := HB.trans (HBr.mono HB.size)
     by_cases hcn : c < n
     · have hcI : (c : Int) < n := by omega
       obtain ⟨A, off, rfl, hA, r0, hrow⟩ := HS.out.step HBw c hcn
       obtain ⟨b1, hb1⟩ : ∃ b1, htB (L c) (q c) = b1 := ⟨_, rfl⟩
       have HB1 : Hid (htB (L c) (q c) = b1) := hb1
       have X := Blk.new wr [.slice (S c).1 (L c) (S c).2] 39 rfl
       have HBX : Below wr.heap.size wr (wr.alloc (.cells #[.slice (S c).1 (L c) (S c).2] 39)) := (Below.refl _ _).alloc (Nat.le_refl _) _
       have C1 := hasText_any (S c).1 (L c) (S c).2 (q c) (HL.out c hcn) _ (hrow.step HBX)
       rw [hb1] at C1
       have HBY := HBr.trans (HBX.mono HBr.size)
       clear hb1 hrow HBX
       go_upto_region 6 with fail
       generalize wr.heap.size = P at *
       revert X
       rw [show ([.slice (S c).1 (L c) (S c).2] : List Value).toArray = #[.slice (S c).1 (L c) (S c).2] from rfl]
       intro X
       generalize (wr.alloc (.cells #[.slice (S c).1 (L c) (S c).2] 39)) = W2 at *
       have x0 := X.c 0 rfl
       clear r0 HBr HBw
       go_wp2_with fail
       refine C1.mono ?_
       rintro e w3 ⟨rfl, hB⟩
       replace HBY := HBY.trans (hB.mono HBY.size)
       clear hB C1 X x0
       cases b1 with
       | false =>
         have HO : Hid (hvB n L q = false) := by
           rw [Hid]
           rw [Bool.eq_false_iff]
           intro h
           have := (hvB_iff.1 h).2 c hcn
           rw [HB1.out] at this
           cases this
         have HBF := HB.trans (HBY.mono HB.size)
         clear HBY HB
         go_wp2
         go_ret
         exact ⟨by rw [HO.out]; rfl, HBF⟩
       | true =>
         have HN : Hid (∀ j, j < c + 1 → htB (L j) (q j) = true) := fun j hj => by
           rcases Nat.lt_or_ge j c with h | h
           · exact HA.out j h
           · obtain rfl : j = c := by omega
             exact HB1.out
         clear HA HB1
         go_wp2
         go_roundw
         case rel => exact ⟨c + 1, by omega, by go_num, HN.out, HBY⟩
         case measure => simp [intOf]; omega
     · obtain rfl : c = n := by omega
       have HO : Hid (hvB c L q = true) := hvB_iff.2 ⟨HF.out, HA.out⟩
       clear HA HF HBr HB HS
       go_wp2
       go_ret
       exact ⟨by rw [HO.out]; rfl, HBw⟩
 · rw [decide_eq_false hf] at C
   have HO : Hid (hvB n L q = false) := by
     rw [Hid]
     rw [Bool.eq_false_iff]
     exact fun h => hf (hvB_iff.1 h).1
   clear hf HS HL
   go_enter Tryd.func18, Tryd.ntmps18
   go_wp2_with fail
   refine C.mono ?_
   rintro e w1 ⟨rfl, HB⟩
   clear C
   go_wp2
   go_ret
   exact ⟨by rw [HO.out]; rfl, HB⟩
open Go.Shelf
def Tryd.lays156_ren : Go.Shelf.Ren := ⟨fun | 156 => 20 | 165 => 36 | 166 => 37 | 169 => 38 | 240 => 48 | 241 => 49 | 276 => 62 | 277 => 63 | n => n, fun | 31 => 46 | 9 => 9 | 3 => 3 | 4 => 4 | 0 => 0 | 20 => 20 | 72 => 70 | 76 => 74 | 70 => 67 | 37 => 68 | 75 => 73 | 127 => 89 | 164 => 101 | 5 => 5 | 80 => 47 | n => n, fun | n => n⟩
theorem Tryd.lays156 : Go.Proofs.Lays.n156 Tryd.prog Tryd.lays156_ren := {
 mixed := by kernel_rfl
 f156 := Tryd.func20.trans (congrArg some (by kernel_rfl))
 f165 := Tryd.func36.trans (congrArg some (by kernel_rfl))
 f166 := Tryd.func37.trans (congrArg some (by kernel_rfl))
 f169 := Tryd.func38.trans (congrArg some (by kernel_rfl))
 f240 := Tryd.func48.trans (congrArg some (by kernel_rfl))
 f241 := Tryd.func49.trans (congrArg some (by kernel_rfl))
 f276 := Tryd.func62.trans (congrArg some (by kernel_rfl))
 f277 := Tryd.func63.trans (congrArg some (by kernel_rfl))
 t0 := Tryd.underlying0
 a0 := Tryd.isAgg0
 z0 := Tryd.sizeOf0
 v0 := Tryd.zeroValue0
 t3 := Tryd.underlying3
 a3 := Tryd.isAgg3
 z3 := Tryd.sizeOf3
 v3 := Tryd.zeroValue3
 t4 := Tryd.underlying4
 a4 := Tryd.isAgg4
 z4 := Tryd.sizeOf4
 v4 := Tryd.zeroValue4
 t9 := Tryd.underlying9
 a9 := Tryd.isAgg9
 z9 := Tryd.sizeOf9
 v9 := Tryd.zeroValue9
 t20 := Tryd.underlying20
 a20 := Tryd.isAgg20
 z20 := Tryd.sizeOf20
 v20 := Tryd.zeroValue20
 t31 := Tryd.underlying46
 a31 := Tryd.isAgg46
 z31 := Tryd.sizeOf46
 v31 := Tryd.zeroValue46
 t37 := Tryd.underlying68
 a37 := Tryd.isAgg68
 z37 := Tryd.sizeOf68
 v37 := Tryd.zeroValue68
 t70 := Tryd.underlying67
 a70 := Tryd.isAgg67
 z70 := Tryd.sizeOf67
 v70 := Tryd.zeroValue67
 t72 := Tryd.underlying70
 a72 := Tryd.isAgg70
 z72 := Tryd.sizeOf70
 v72 := Tryd.zeroValue70
 t75 := Tryd.underlying73
 a75 := Tryd.isAgg73
 z75 := Tryd.sizeOf73
 v75 := Tryd.zeroValue73
 t76 := Tryd.underlying74
 a76 := Tryd.isAgg74
 z76 := Tryd.sizeOf74
 v76 := Tryd.zeroValue74
 t127 := Tryd.underlying89
 a127 := Tryd.isAgg89
 z127 := Tryd.sizeOf89
 v127 := Tryd.zeroValue89
 t164 := Tryd.underlying101
 a164 := Tryd.isAgg101
 z164 := Tryd.sizeOf101
 v164 := Tryd.zeroValue101 }
theorem Tryd.Builder_Extra_156 : Builder.Extra Tryd.prog Tryd.lays156_ren := {
 sizeBuilder := by kernel_rfl
 liesBuilder := by kernel_rfl
 t5 := Tryd.underlying5
 a5 := Tryd.isAgg5
 z5 := Tryd.sizeOf5
 v5 := Tryd.zeroValue5
 infoByte := by kernel_rfl
 cellsByte := by kernel_rfl
 sizeByte := by kernel_rfl
 neB5 := by decide }
open Go.RowKit in
theorem Tryd.strings_Join (bk o c : Nat) (xs : List ByteArray) (sep : ByteArray) (w : World) (hcells : ∀ (j : Nat) x, xs[j]? = some x → w.cell? ⟨bk, o + j, none⟩ = some (.string x)) (hbk : bk < w.heap.size) (hN : xs.length ≤ 140737488355328) (hcap : xs.length ≤ c) (hlen : (Lib.join (xs.map (·.data.toList)) sep.data.toList).length ≤ 140737488355328) :
   Calls Tryd.prog 20 #[.slice (some ⟨bk, o, none⟩) xs.length c, .string sep] w fun e w' => e = .returned (.string ⟨(Lib.join (xs.map (·.data.toList)) sep.data.toList).toArray⟩) ∧ Below w.heap.size w w' := Any.strings_Join Tryd.lays156 Tryd.Builder_Extra_156 bk o c xs sep w hcells hbk hN hcap hlen
def Tryd.laysM173_ren : Go.Shelf.Ren := ⟨fun | 173 => 35 | 246 => 47 | 283 => 58 | 284 => 59 | 285 => 60 | 286 => 61 | 129 => 74 | 317 => 73 | 318 => 75 | 319 => 76 | 320 => 77 | 337 => 88 | 338 => 89 | n => n, fun | 2 => 2 | 3 => 3 | 9 => 9 | 4 => 4 | 171 => 96 | 0 => 0 | 53 => 84 | 37 => 68 | 5 => 5 | 173 => 99 | 212 => 117 | 51 => 79 | 20 => 20 | 213 => 118 | 46 => 85 | 232 => 142 | 233 => 143 | n => n, fun | 17 => 0 | 18 => 4 | 19 => 5 | n => n⟩
theorem Tryd.laysM173 : Go.Proofs.LaysM.n173 Tryd.prog Tryd.laysM173_ren := {
 mixed := by kernel_rfl
 f129 := Tryd.func74.trans (congrArg some (by kernel_rfl))
 f173 := Tryd.func35.trans (congrArg some (by kernel_rfl))
 f246 := Tryd.func47.trans (congrArg some (by kernel_rfl))
 f283 := Tryd.func58.trans (congrArg some (by kernel_rfl))
 f284 := Tryd.func59.trans (congrArg some (by kernel_rfl))
 f285 := Tryd.func60.trans (congrArg some (by kernel_rfl))
 f286 := Tryd.func61.trans (congrArg some (by kernel_rfl))
 f317 := Tryd.func73.trans (congrArg some (by kernel_rfl))
 f318 := Tryd.func75.trans (congrArg some (by kernel_rfl))
 f319 := Tryd.func76.trans (congrArg some (by kernel_rfl))
 f320 := Tryd.func77.trans (congrArg some (by kernel_rfl))
 f337 := Tryd.func88.trans (congrArg some (by kernel_rfl))
 f338 := Tryd.func89.trans (congrArg some (by kernel_rfl))
 t0 := Tryd.underlying0
 a0 := Tryd.isAgg0
 z0 := Tryd.sizeOf0
 v0 := Tryd.zeroValue0
 t2 := Tryd.underlying2
 a2 := Tryd.isAgg2
 z2 := Tryd.sizeOf2
 v2 := Tryd.zeroValue2
 t3 := Tryd.underlying3
 a3 := Tryd.isAgg3
 z3 := Tryd.sizeOf3
 v3 := Tryd.zeroValue3
 t4 := Tryd.underlying4
 a4 := Tryd.isAgg4
 z4 := Tryd.sizeOf4
 v4 := Tryd.zeroValue4
 t5 := Tryd.underlying5
 a5 := Tryd.isAgg5
 z5 := Tryd.sizeOf5
 v5 := Tryd.zeroValue5
 t9 := Tryd.underlying9
 a9 := Tryd.isAgg9
 z9 := Tryd.sizeOf9
 v9 := Tryd.zeroValue9
 t20 := Tryd.underlying20
 a20 := Tryd.isAgg20
 z20 := Tryd.sizeOf20
 v20 := Tryd.zeroValue20
 t37 := Tryd.underlying68
 a37 := Tryd.isAgg68
 z37 := Tryd.sizeOf68
 v37 := Tryd.zeroValue68
 t46 := Tryd.underlying85
 a46 := Tryd.isAgg85
 z46 := Tryd.sizeOf85
 v46 := Tryd.zeroValue85
 t51 := Tryd.underlying79
 a51 := Tryd.isAgg79
 z51 := Tryd.sizeOf79
 v51 := Tryd.zeroValue79
 t53 := Tryd.underlying84
 a53 := Tryd.isAgg84
 z53 := Tryd.sizeOf84
 v53 := Tryd.zeroValue84
 t171 := Tryd.underlying96
 a171 := Tryd.isAgg96
 z171 := Tryd.sizeOf96
 v171 := Tryd.zeroValue96
 t173 := Tryd.underlying99
 a173 := Tryd.isAgg99
 z173 := Tryd.sizeOf99
 v173 := Tryd.zeroValue99
 t212 := Tryd.underlying117
 a212 := Tryd.isAgg117
 z212 := Tryd.sizeOf117
 v212 := Tryd.zeroValue117
 t213 := Tryd.underlying118
 a213 := Tryd.isAgg118
 z213 := Tryd.sizeOf118
 t232 := Tryd.underlying142
 a232 := Tryd.isAgg142
 z232 := Tryd.sizeOf142
 v232 := Tryd.zeroValue142
 t233 := Tryd.underlying143
 a233 := Tryd.isAgg143
 z233 := Tryd.sizeOf143
 v233 := Tryd.zeroValue143
 g17 := by kernel_rfl
 g18 := by kernel_rfl
 g19 := by kernel_rfl
 i0 := by kernel_rfl
 i2 := by kernel_rfl
 i3 := by kernel_rfl
 i4 := by kernel_rfl
 i5 := by kernel_rfl
 i9 := by kernel_rfl
 i20 := by kernel_rfl
 i37 := by kernel_rfl
 i46 := by kernel_rfl
 i51 := by kernel_rfl
 i53 := by kernel_rfl
 i171 := by kernel_rfl
 i173 := by kernel_rfl
 i212 := by kernel_rfl
 i232 := by kernel_rfl
 i233 := by kernel_rfl
 m17 := by kernel_rfl
 m18 := by kernel_rfl
 m19 := by kernel_rfl }
open Go.RowKit Go.Sort Go.Lib in
theorem Tryd.strconv_FormatInt_10 (n : Int) (h0 : -9223372036854775808 ≤ n) (h1 : n ≤ 9223372036854775807) (w : World) (htab : Lib.TabIs Tryd.prog w "internal/strconv.uint64pow10" .u64 Lib.pow10Tab) :
   Calls Tryd.prog 35 #[.int .i64 n, .int .i64 10] w fun e w' => e = .returned (.string ⟨(Lib.itoa n).toArray⟩) ∧ ∃ k os, w' = grow (w.drewN k) os := Any.strconv_FormatInt_10 Tryd.laysM173 n h0 h1 w htab
end Go.Proofs.YtjcpdihdlklapaaDoor
namespace Go.Proofs.YtjcpdihdlklapaaDoor
variable {P : Program} {ops : Array Oper} {Q : Exit → Act → World → Prop} {md : Region.Mode}
def open_ (l : Array Bool) : Nat := l.toList.countP (fun b => !b)
theorem open_set {l : Array Bool} {i : Nat} (h : l.getD i true = false) : open_ (l.setIfInBounds i true) + 1 = open_ l := by
 obtain ⟨xs⟩ := l
 have hi : i < xs.length := by
   rcases Nat.lt_or_ge i xs.length with h' | h'
   · exact h'
   · simp [Array.getD, Nat.not_lt.2 h'] at h
 have hv : xs[i] = false := by simpa [Array.getD, hi] using h
 have hp : 0 < xs.countP (fun b => !b) := List.countP_pos_iff.2 ⟨xs[i], List.getElem_mem hi, by simp [hv]⟩
 simp only [open_, List.setIfInBounds_toArray, List.countP_set hi, hv]
 simp
 omega
theorem wpAny_inv (J : Array Bool → Act → World → Prop) (hs : ∀ l a w i o, J l a w → l.getD i true = false → ops[i]? = some o → (∀ e ∈ o.after, Region.binds md e = true → l.getD e.on false = true) → wpOp P ops Q i (J (l.setIfInBounds i true)) a w)
   (hd : ∀ l a w, J l a w → Region.ready md ops l = [] → Q .normal a w) : ∀ (fuel : Nat) (l : Array Bool) (a : Act) (w : World), open_ l ≤ fuel → J l a w → wpAny P md ops Q fuel l a w := by
 intro fuel
 induction fuel with
 | zero =>
   intro l a w hf hJ
   have hr : Region.ready md ops l = [] := by
     rw [List.eq_nil_iff_forall_not_mem]
     intro i hi
     have := open_set (mem_ready.1 hi).1
     omega
   exact ⟨hr, hd l a w hJ hr⟩
 | succ fuel ih =>
   intro l a w hf hJ
   refine ⟨fun hr => hd l a w hJ hr, fun i hi => ?_⟩
   obtain ⟨h0, o, ho, hall⟩ := mem_ready.1 hi
   exact wpOp_mono (fun a' w' h' => ih _ a' w' (by have := open_set h0; omega) h') (hs l a w i o hJ h0 ho hall)
theorem wp_region_inv {id : Nat} {a : Act} {w : World} (hm : P.follows .mixedOrders = true) (J : Array Bool → Act → World → Prop)
   (h0 : J (Array.replicate ops.size false) a { w with drawn := w.drawn + 1 })
   (hs : ∀ l a w i o, J l a w → l.getD i true = false → ops[i]? = some o → (∀ e ∈ o.after, Region.binds .any e = true → l.getD e.on false = true) → wpOp P ops Q i (J (l.setIfInBounds i true)) a w)
   (hd : ∀ l a w, J l a w → Region.ready .any ops l = [] → Q .normal a w) : (Code.region id ops true).wp P Q a w :=
 wp_region_any hm (wpAny_inv J hs hd _ _ _ _ (by
   unfold open_
   refine Nat.le_trans List.countP_le_length ?_
   simp) h0)
def waits (md : Region.Mode) (ops : Array Oper) : List Nat → List Nat → Bool
 | _, [] => true
 | acc, i :: r => ((ops[i]?).map (fun o => o.after.all (fun e => !Region.binds md e || acc.contains e.on))).getD false && waits md ops (i :: acc) r
theorem listed_of {l : Array Bool} (hr : Region.ready md ops l = []) : ∀ (r acc : List Nat), (∀ k ∈ acc, l.getD k false = true) → waits md ops acc r = true → (∀ k ∈ r, k < l.size) → ∀ k ∈ r, l.getD k false = true
 | [], _, _, _, _ => fun k hk => by simp at hk
 | i :: r, acc, ha, hw, hz => by
   simp only [waits, Bool.and_eq_true] at hw
   obtain ⟨hw1, hw2⟩ := hw
   have hi : l.getD i false = true := by
     cases ho : ops[i]? with
     | none => rw [ho] at hw1; simp at hw1
     | some o =>
       rw [ho] at hw1
       have hall : ∀ e ∈ o.after, Region.binds md e = true → l.getD e.on false = true := fun e he hb => by
         have h2 : o.after.all (fun e => !Region.binds md e || acc.contains e.on) = true := by simpa using hw1
         rw [Array.all_eq_true'] at h2
         have h3 := h2 e he
         rw [hb] at h3
         exact ha _ (by simpa using h3)
       have hz' := hz i (by simp)
       by_cases hc : l.getD i true = false
       · have : i ∈ Region.ready md ops l := mem_ready.2 ⟨hc, o, ho, hall⟩
         rw [hr] at this
         simp at this
       · simpa [Array.getD, hz'] using hc
   intro k hk
   rcases List.mem_cons.1 hk with rfl | hk
   · exact hi
   · exact listed_of hr r (i :: acc) (fun k hk => by
       rcases List.mem_cons.1 hk with rfl | hk
       · exact hi
       · exact ha k hk) hw2 (fun k hk => hz k (by simp [hk])) k hk
theorem wpOp_of {i : Nat} {o : Oper} {a : Act} {w : World} {K : Act → World → Prop} (ho : ops[i]? = some o) (hg : o.guard = none) (h : o.wp P a w K Q) : wpOp P ops Q i K a w := by
 unfold wpOp
 simp only [ho]
 have hw : Region.wanted o (yielded ops a.tmps) = true := by unfold Region.wanted; rw [hg]
 rw [if_pos hw]
 exact .inl h
theorem tmps_fold : ∀ (D : List Nat) (t s : Array Value), t.size = s.size → (∀ d, d ∉ D → t[d]? = s[d]?) → t = D.foldl (fun u d => u.setIfInBounds d (t.getD d undef)) s
 | [], t, s, _, h => Array.ext_getElem? (fun d => h d (by simp))
 | d :: D, t, s, hz, h => by
   rw [List.foldl_cons]
   refine tmps_fold D t _ (by simpa using hz) (fun e he => ?_)
   by_cases hed : e = d
   · subst hed
     rcases Nat.lt_or_ge e t.size with h' | h'
     · simp [Array.getD, h', ← hz]
     · simp [← hz, h']
   · rw [Array.getElem?_setIfInBounds_ne (fun hh => hed hh.symm)]
     exact h e (by simp [hed, he])
theorem put_getD_ne {a : Act} {d e : Nat} {v : Value} (h : d ≠ e) : (a.put (some d) v).tmps.getD e undef = a.tmps.getD e undef := by
 simp [Act.put, Array.getD_eq_getD_getElem?, Array.getElem?_setIfInBounds_ne h]
theorem put_getD_same {a : Act} {d : Nat} {v : Value} (h : d < a.tmps.size) : (a.put (some d) v).tmps.getD d undef = v := by
 simp [Act.put, Array.getD_eq_getD_getElem?, h]
end Go.Proofs.YtjcpdihdlklapaaDoor
namespace Go.Proofs.YtjcpdihdlklapaaDoor
variable {P : Program} {ops : Array Oper} {Q : Exit → Act → World → Prop}
end Go.Proofs.YtjcpdihdlklapaaDoor
namespace Go.Proofs.YtjcpdihdlklapaaDoor
open Go.RowKit
variable {P : Program} {ops : Array Oper}
def distS : List (Option Nat) → Bool
 | [] => true
 | none :: r => distS r
 | some d :: r => !(r.contains (some d)) && distS r
theorem distS_inj : ∀ (S : List (Option Nat)) (i j d : Nat), distS S = true → S[i]? = some (some d) → S[j]? = some (some d) → i = j
 | [], i, _, _, _, h, _ => by simp at h
 | o :: r, i, j, d, hd, hi, hj => by
   have hr : distS r = true := by
     cases o with
     | none => exact hd
     | some d' => simp only [distS, Bool.and_eq_true] at hd; exact hd.2
   have hno : ∀ k, o = some d → r[k]? = some (some d) → False := fun k ho hk => by
     subst ho
     simp only [distS, Bool.and_eq_true, Bool.not_eq_true'] at hd
     have hm : some d ∈ r := List.mem_of_getElem? hk
     rw [← List.contains_iff_mem, hd.1] at hm
     cases hm
   match i, j with
   | 0, 0 => rfl
   | 0, j + 1 => exact (hno j (by simpa using hi) (by simpa using hj)).elim
   | i + 1, 0 => exact (hno i (by simpa using hj) (by simpa using hi)).elim
   | i + 1, j + 1 => exact congrArg (· + 1) (distS_inj r i j d hr (by simpa using hi) (by simpa using hj))
def InvQ (B : Nat) (S : List (Option Nat)) (V : Nat → Value → World → Prop) (w0 : World) (a0 : Act) (l : Array Bool) (a : Act) (W : World) : Prop :=
 l.size = S.length ∧ a.tmps.size = a0.tmps.size ∧ a.defers = a0.defers ∧ (∀ e, some e ∉ S → a.tmps[e]? = a0.tmps[e]?) ∧ Below B w0 W ∧ (∀ j d, l.getD j false = true → S[j]? = some (some d) → V j (a.tmps.getD d undef) W) ∧ (∀ j, l.getD j false = true → S[j]? = some none → V j undef W)
theorem getD_set_q {l : Array Bool} {i j : Nat} (h : (l.setIfInBounds i true).getD j false = true) (hne : j ≠ i) : l.getD j false = true := by
 rw [getD_set_ne false (Ne.symm hne)] at h
 exact h
theorem InvQ.put {B : Nat} {S : List (Option Nat)} {V : Nat → Value → World → Prop} {w0 : World} {a0 : Act} {l : Array Bool} {a : Act} {W W' : World} (h : InvQ B S V w0 a0 l a W) (hS : distS S = true) (i d : Nat) (hi : S[i]? = some (some d)) (hlt : d < a0.tmps.size)
   (hW : Below B w0 W') (hT : ∀ j v, V j v W → V j v W') (v : Value) (hv : V i v W') : InvQ B S V w0 a0 (l.setIfInBounds i true) (a.put (some d) v) W' := by
 obtain ⟨h1, h2, h3, h4, h5, h6, h7⟩ := h
 refine ⟨by simpa using h1, by simpa [Act.put] using h2, h3, fun e he => ?_, hW, fun j d' hj hd' => ?_, fun j hj hn => ?_⟩
 · have hne : d ≠ e := fun hh => he (hh ▸ List.mem_of_getElem? hi)
   simp only [Act.put]
   rw [Array.getElem?_setIfInBounds_ne hne]
   exact h4 e he
 · by_cases hji : j = i
   · subst hji
     rw [hi] at hd'
     cases hd'
     rw [put_getD_same (by omega)]
     exact hv
   · have hne : d ≠ d' := fun hh => hji (distS_inj S j i d hS (hh ▸ hd') hi)
     rw [put_getD_ne hne]
     exact hT _ _ (h6 j d' (getD_set_q hj hji) hd')
 · have hji : j ≠ i := fun hh => by subst hh; rw [hi] at hn; cases hn
   exact hT _ _ (h7 j (getD_set_q hj hji) hn)
end Go.Proofs.YtjcpdihdlklapaaDoor
namespace Go.Proofs.YtjcpdihdlklapaaDoor
open Go.RowKit
theorem getD_tf {l : Array Bool} {i : Nat} (h : l.getD i true = false) : l.getD i false = false := by
 rw [Array.getD_eq_getD_getElem?] at *
 cases hh : l[i]? with
 | none => rw [hh] at h; cases h
 | some b => rw [hh] at h; exact h
theorem getD_set_neq {l : Array Bool} {i j : Nat} (h : i ≠ j) : (l.setIfInBounds i true).getD j false = l.getD j false := by
 simp [Array.getD_eq_getD_getElem?, Array.getElem?_setIfInBounds_ne h]
theorem getD_set_eq {l : Array Bool} {i : Nat} (h : l.getD i true = false) : (l.setIfInBounds i true).getD i false = true := by
 rw [Array.getD_eq_getD_getElem?] at *
 cases hh : l[i]? with
 | none => rw [hh] at h; cases h
 | some b => simp [(Array.getElem?_eq_some_iff.1 hh).1]
theorem ownA_step {w w' : World} {base n : Nat} {e : TypeId} {size : Nat} {v : Value} {xs : List Value} (h : w.ownsRow base e size v n xs) (hB : Below w.heap.size w w') : w'.ownsRow base e size v n xs := by
 rcases h with ⟨h0, h1 | ⟨g, cap, cur, h1, h2, h3, h4⟩⟩
 · exact ⟨h0, .inl h1⟩
 · refine ⟨h0, .inr ⟨g, cap, cur, h1, h2, ?_, h4⟩⟩
   rw [hB.block g (Array.getElem?_eq_some_iff.1 h3).1]
   exact h3
theorem replD (n j : Nat) : (Array.replicate n false).getD j false = false := by
 rw [Array.getD_eq_getD_getElem?, Array.getElem?_replicate]
 split <;> rfl
theorem blk_news {W : World} {g : Nat} {vs : List Value} (h : Blk W g vs) : ∀ j u, vs[j]? = some u → W.cell? ((⟨g, 0, none⟩ : Addr).add j) = some u := fun j u hj => by
 have := h.c j hj
 unfold Addr.add
 by_cases hz : j = 0
 · subst hz; simpa using this
 · simpa [hz] using this
def AppJ (mm n ib ia iz dr de da base : Nat) (T : TypeId) (size : Nat) (o : Value) (c : Nat) (Lz news : List Value) (P : Nat) (vs : List Value) (lz : Array Bool) (az : Act) (W : World) : Prop :=
 (lz.getD iz false = true → ∀ j, j < n → lz.getD j false = true) ∧ (lz.getD iz false = false → az.tmps.getD dr undef = o) ∧ Blk W P vs ∧
 (lz.getD ia false = false → W.ownsRow base T size o c Lz ∧ (lz.getD ib false = true → ∃ g cp, az.tmps.getD de undef = .slice (some ⟨g, 0, none⟩) mm cp ∧ Blk W g news)) ∧
 (lz.getD ia false = true → W.ownsRow base T size (az.tmps.getD da undef) (c + mm) (Lz ++ news)) ∧ (lz.getD iz false = true → az.tmps.getD dr undef = az.tmps.getD da undef)
theorem Blk.grownA {W W2 : World} {g : Nat} {vs : List Value} {row : Option Nat} (h : Blk W g vs) (hg : W.grownBy W2 row) (hne : some g ≠ row) : Blk W2 g vs :=
 ⟨Nat.lt_of_lt_of_le h.lt hg.size, fun i _ hi => ⟨(World.cell?_of_block (w := W) (a := ⟨g, i, none⟩) (hg.block g h.lt hne)).trans (h.c i hi), (World.frozen?_of_block (w := W) (a := ⟨g, i, none⟩) (hg.block g h.lt hne)).trans (h.f i hi)⟩⟩
theorem AppJ.start {mm n m ib ia iz dr de da base : Nat} {T : TypeId} {size : Nat} {o : Value} {c : Nat} {Lz news : List Value} {P : Nat} {vs : List Value} {az : Act} {W : World} (h1 : az.tmps.getD dr undef = o) (h2 : W.ownsRow base T size o c Lz) (h3 : Blk W P vs) : AppJ mm n ib ia iz dr de da base T size o c Lz news P vs (Array.replicate m false) az W :=
 ⟨(fun h => by rw [replD] at h; cases h), fun _ => h1, h3, fun _ => ⟨h2, (fun h => by rw [replD] at h; cases h)⟩, (fun h => by rw [replD] at h; cases h), (fun h => by rw [replD] at h; cases h)⟩
theorem AppJ.off {mm n ib ia iz dr de da base : Nat} {T : TypeId} {size : Nat} {o : Value} {c : Nat} {Lz news : List Value} {P : Nat} {vs : List Value} {lz : Array Bool} {az : Act} {W : World} (h : AppJ mm n ib ia iz dr de da base T size o c Lz news P vs lz az W) {i : Nat} (hi : i < n) (hl : lz.getD i true = false) : lz.getD iz false = false := by
 cases hh : lz.getD iz false with
 | false => rfl
 | true => have := h.1 hh i hi; rw [getD_tf hl] at this; cases this
theorem AppJ.quiet {mm n ib ia iz dr de da base : Nat} {T : TypeId} {size : Nat} {o : Value} {c : Nat} {Lz news : List Value} {P : Nat} {vs : List Value} {lz : Array Bool} {az : Act} {W W2 : World} (h : AppJ mm n ib ia iz dr de da base T size o c Lz news P vs lz az W) (i d : Nat) (v : Value) (hi : i < n) (hl : lz.getD i true = false) (h1 : i ≠ ib) (h2 : i ≠ ia) (h3 : i ≠ iz) (e1 : d ≠ dr) (e2 : d ≠ de) (e3 : d ≠ da) (hB : Below W.heap.size W W2) :
   AppJ mm n ib ia iz dr de da base T size o c Lz news P vs (lz.setIfInBounds i true) (az.put (some d) v) W2 := by
 have hz := h.off hi hl
 obtain ⟨a1, a2, aP, a3, a4, a5⟩ := h
 unfold AppJ
 rw [getD_set_neq h3, getD_set_neq h2, getD_set_neq h1, put_getD_ne e1, put_getD_ne e2, put_getD_ne e3]
 refine ⟨(fun h => by rw [hz] at h; cases h), a2, aP.step hB, fun h => ⟨ownA_step (a3 h).1 hB, fun hb => ?_⟩, fun h => ownA_step (a4 h) hB, (fun h => by rw [hz] at h; cases h)⟩
 obtain ⟨g, cp, e, X⟩ := (a3 h).2 hb
 exact ⟨g, cp, e, X.step hB⟩
theorem AppJ.built {mm n ib ia iz dr de da base : Nat} {T : TypeId} {size : Nat} {o : Value} {c : Nat} {Lz news : List Value} {P : Nat} {vs : List Value} {lz : Array Bool} {az : Act} {W W2 : World} (h : AppJ mm n ib ia iz dr de da base T size o c Lz news P vs lz az W) (hi : ib < n) (hl : lz.getD ib true = false) (h2 : ib ≠ ia) (h3 : ib ≠ iz) (e1 : de ≠ dr) (e3 : de ≠ da) (hd : de < az.tmps.size) {g cp : Nat} (hB : Below W.heap.size W W2) (hX : Blk W2 g news) :
   AppJ mm n ib ia iz dr de da base T size o c Lz news P vs (lz.setIfInBounds ib true) (az.put (some de) (.slice (some ⟨g, 0, none⟩) mm cp)) W2 := by
 have hz := h.off hi hl
 obtain ⟨a1, a2, aP, a3, a4, a5⟩ := h
 unfold AppJ
 rw [getD_set_neq h3, getD_set_neq h2, put_getD_ne e1, put_getD_ne e3, put_getD_same hd]
 exact ⟨(fun h => by rw [hz] at h; cases h), a2, aP.step hB, fun h => ⟨ownA_step (a3 h).1 hB, fun _ => ⟨g, cp, rfl, hX⟩⟩, fun h => ownA_step (a4 h) hB, (fun h => by rw [hz] at h; cases h)⟩
theorem AppJ.appended {mm n ib ia iz dr de da base : Nat} {T : TypeId} {size : Nat} {o : Value} {c : Nat} {Lz news : List Value} {P : Nat} {vs : List Value} {lz : Array Bool} {az : Act} {W W2 : World} (h : AppJ mm n ib ia iz dr de da base T size o c Lz news P vs lz az W) (hi : ia < n) (hl : lz.getD ia true = false) (h3 : ia ≠ iz) (e1 : da ≠ dr) (hd : da < az.tmps.size) (v : Value) (hv : W2.ownsRow base T size v (c + mm) (Lz ++ news)) (hX : Blk W2 P vs) :
   AppJ mm n ib ia iz dr de da base T size o c Lz news P vs (lz.setIfInBounds ia true) (az.put (some da) v) W2 := by
 have hz := h.off hi hl
 obtain ⟨a1, a2, aP, a3, a4, a5⟩ := h
 unfold AppJ
 rw [getD_set_neq h3, getD_set_eq hl, put_getD_ne e1, put_getD_same hd]
 exact ⟨(fun h => by rw [hz] at h; cases h), a2, hX, (fun h => by cases h), fun _ => hv, (fun h => by rw [hz] at h; cases h)⟩
theorem AppJ.assigned {mm n ib ia iz dr de da base : Nat} {T : TypeId} {size : Nat} {o : Value} {c : Nat} {Lz news : List Value} {P : Nat} {vs : List Value} {lz : Array Bool} {az : Act} {W : World} (h : AppJ mm n ib ia iz dr de da base T size o c Lz news P vs lz az W) (hl : lz.getD iz true = false) (hall : ∀ j, j < n → j ≠ iz → lz.getD j false = true) (hia : ia < n) (h3 : iz ≠ ia) (e1 : dr ≠ da) (hd : dr < az.tmps.size) (v : Value) (hv : az.tmps.getD da undef = v) :
   AppJ mm n ib ia iz dr de da base T size o c Lz news P vs (lz.setIfInBounds iz true) (az.put (some dr) v) W := by
 obtain ⟨a1, a2, aP, a3, a4, a5⟩ := h
 have ha := hall ia hia (Ne.symm h3)
 unfold AppJ
 rw [getD_set_neq h3, getD_set_eq hl, put_getD_ne e1, put_getD_same hd, ha]
 refine ⟨fun _ j hj => ?_, (fun h => by cases h), aP, (fun h => by cases h), fun _ => a4 ha, fun _ => hv.symm⟩
 by_cases hji : j = iz
 · subst hji; exact getD_set_eq hl
 · rw [getD_set_neq (Ne.symm hji)]; exact hall j hj hji
theorem AppJ.done {mm n ib ia iz dr de da base : Nat} {T : TypeId} {size : Nat} {o : Value} {c : Nat} {Lz news : List Value} {P : Nat} {vs : List Value} {lz : Array Bool} {az : Act} {W : World} (h : AppJ mm n ib ia iz dr de da base T size o c Lz news P vs lz az W) (hia : ia < n) (hl : lz.getD iz false = true) : W.ownsRow base T size (az.tmps.getD dr undef) (c + mm) (Lz ++ news) := by
 rw [h.2.2.2.2.2 hl]
 exact h.2.2.2.2.1 (h.1 hl ia hia)
theorem Tryd.infoStr : (Tryd.prog.info? 9).map (fun i => (i.zero, i.size, i.bytes)) = some (some (.string ⟨#[]⟩), 1, 16) := by kernel_rfl
def TabP (B : Nat) (w : World) : Prop := Lib.TabBelow Tryd.prog B w "internal/strconv.uint64pow10" .u64 Lib.pow10Tab
theorem TabP.on {B B' : Nat} {w w' : World} (h : TabP B w) (hb : Below B w w') (hB : B ≤ B') : TabP B' w' := fun _ h' => h _ (hb.trans (h'.mono hB))
theorem fmt_any (z : Int) (hz : shB z = true) (w : World) (hT : Lib.TabIs Tryd.prog w "internal/strconv.uint64pow10" .u64 Lib.pow10Tab) : Calls Tryd.prog 35 #[.int .i64 z, .int .i64 10] w (VP (.string (bA (Lib.itoa z))) w) := by
 have h9 := of_decide_eq_true hz
 refine (Tryd.strconv_FormatInt_10 z (by omega) (by omega) w hT).mono ?_
 rintro e w' ⟨rfl, k, os, rfl⟩
 exact ⟨rfl, rfl, rfl, rfl, by simp [Sort.grow], fun j hj => Sort.heap_grow_old _ os hj⟩
theorem ownN_formT {w : World} {base n : Nat} {e : TypeId} {size : Nat} {v : Value} {xs : List Value} (h : w.ownsRow base e size v n xs) (hn : 0 < n) : ∃ g cap, v = .slice (some ⟨g, 0, none⟩) n cap ∧ base ≤ g ∧ g < w.heap.size ∧ n ≤ cap ∧ cap ≤ maxLen := by
 rcases h.2 with ⟨_, h2⟩ | ⟨g, cap, cur, h1, h2, h3, h4, h5, h6, h7⟩
 · omega
 · exact ⟨g, cap, h1, h2, (Array.getElem?_eq_some_iff.1 h3).1, h4, h5⟩
theorem join_any (b g n cap N : Nat) (xs : List (List UInt8)) (sep : List UInt8) (w : World) (hn : xs.length = n) (ho : w.ownsRow b 9 1 (.slice (some ⟨g, 0, none⟩) n cap) n (xs.map fun l => .string (bA l))) (hN : n ≤ 1000) (hl : ∀ x ∈ xs, x.length ≤ N) (hN2 : N + sep.length ≤ 1000000) : Calls Tryd.prog 20 #[.slice (some ⟨g, 0, none⟩) n cap, .string (bA sep)] w (VP (.string (bA (Lib.join xs sep))) w) := by
 subst hn
 have hcap : xs.length ≤ cap := by
   rcases ho.2 with ⟨h, _⟩ | ⟨g', cap', cur, h, _, _, h4, _⟩
   · cases h
   · cases h
     exact h4
 have hm : (xs.map bA).map (·.data.toList) = xs := by
   rw [List.map_map]
   conv => rhs; rw [← List.map_id xs]
   exact List.map_congr_left fun x _ => bA_list x
 have hj : (Lib.join xs sep).length ≤ 140737488355328 := by
   have h1 := join_le (sep := sep) hl
   have h2 : xs.length * (N + sep.length) ≤ 1000 * 1000000 := Nat.mul_le_mul hN hN2
   omega
 have h := Tryd.strings_Join g 0 cap (xs.map bA) (bA sep) w (fun j x hx => by
   rw [List.getElem?_map] at hx
   cases hxs : xs[j]? with
   | none => rw [hxs] at hx; cases hx
   | some l =>
     rw [hxs] at hx
     obtain rfl := Option.some.inj hx
     have h9 := ho.cells rfl j (.string (bA l)) (by rw [List.getElem?_map, hxs]; rfl)
     rw [Addr.add_lit] at h9
     exact h9) (ho.lt g rfl).2 (by rw [List.length_map]; omega) (by rw [List.length_map]; exact hcap) (by rw [hm, bA_list]; exact hj)
 rw [hm, bA_list, List.length_map] at h
 exact h
def VltC (P : Nat) (x y : Int) (o : Value) (_c _base : Nat) (_Lz : List Value) (_B : Nat) : Nat → Value → World → Prop
 | 0, v, _ => v = o
 | 1, v, _ => v = .pointer (some ⟨P, 0, none⟩)
 | 2, v, _ => v = .int .i64 x
 | 3, v, _ => v = .string (bA (Lib.itoa x))
 | 4, v, _ => v = .pointer (some ⟨P, 1, none⟩)
 | 5, v, _ => v = .int .i64 y
 | 6, v, _ => v = .string (bA (Lib.itoa y))
 | _, _, _ => True
theorem VltC.mono {P : Nat} {x y : Int} {o : Value} {c base : Nat} {Lz : List Value} {B j : Nat} {v : Value} {W W2 : World} (_hB : Below W.heap.size W W2) (h : VltC P x y o c base Lz B j v W) : VltC P x y o c base Lz B j v W2 := by
 unfold VltC at *
 split <;> simp only at h <;> first | exact h | trivial
theorem VltC.same {P : Nat} {x y : Int} {o : Value} {c base : Nat} {Lz : List Value} {B j : Nat} {v : Value} {W W2 : World} (h : VltC P x y o c base Lz B j v W) : VltC P x y o c base Lz B j v W2 := by
 unfold VltC at *
 split <;> simp only at h <;> first | exact h | trivial
def SltC (P : Nat) (x y : Int) (o : Value) (c base : Nat) (Lz : List Value) (lz : Array Bool) (az : Act) (W : World) : Prop := AppJ 2 10 7 8 9 3 20 21 base 9 1 o c Lz [.string (bA (Lib.itoa x)), .string (bA (Lib.itoa y))] P [.int .i64 x, .int .i64 y] lz az W
def JltC (P : Nat) (x y : Int) (o : Value) (c base : Nat) (Lz : List Value) (w0 : World) (a0 : Act) (lz : Array Bool) (az : Act) (W : World) : Prop := InvQ (base) [some 13, some 14, some 15, some 16, some 17, some 18, some 19, some 20, some 21, some 3] (VltC P x y o c base Lz (base)) w0 a0 lz az W ∧ SltC P x y o c base Lz lz az W
set_option maxRecDepth 100000 in
set_option maxHeartbeats 4000000 in
theorem ltC {Q : Exit → Act → World → Prop} {P : Nat} {x y : Int} {o : Value} {c base : Nat} {Lz : List Value}  {w0 : World} {a0 : Act} {idq : Nat} {t0 t1 t2 t3 t4 t5 t6 t7 t8 t9 : TypeId} {q0 q1 q2 q3 q4 q5 q6 q7 q8 q9 : String}
   (hx : shB x = true) (hy : shB y = true) (hT : TabP base w0) (hX : Blk w0 P [.int .i64 x, .int .i64 y]) (hr : a0.tmps.getD 3 undef = o) (ho : w0.ownsRow base 9 1 o c Lz) (nB : base ≤ w0.heap.size) (cB : c ≤ 1048576) (hne : some P ≠ o.ownBlock) (h5 : a0.tmps[5]? = some (.pointer (some ⟨P, 0, none⟩)))  (hz : a0.tmps.size = 25)
   (hQ : ∀ aq W, aq.tmps.size = a0.tmps.size → aq.defers = a0.defers → (∀ e, e ∉ ([13, 14, 15, 16, 17, 18, 19, 20, 21, 3] : List Nat) → aq.tmps[e]? = a0.tmps[e]?) → VltC P x y o c base Lz (base) 9 (aq.tmps.getD 3 undef) W → Below (base) w0 W → (W.ownsRow base 9 1 (aq.tmps.getD 3 undef) (c + 2) (Lz ++ [.string (bA (Lib.itoa x)), .string (bA (Lib.itoa y))])) → Q .normal aq W) :
   (Code.region idq #[{ dst := some 13, op := Op.move (Operand.tmp 3), type := t0, pos := q0, after := #[], guard := none },
   { dst := some 14, op := Op.fieldAddr 41 (Operand.tmp 5) 0, type := t1, pos := q1, after := #[], guard := none },
   { dst := some 15, op := Op.load 2 (Operand.tmp 14), type := t2, pos := q2, after := #[{ on := 1, ground := Ground.data }], guard := none },
   { dst := some 16, op := Op.call { callee := Callee.value (Operand.func 35), args := #[Operand.tmp 15, Operand.const (Value.int IntKind.i64 10)], argTypes := #[2, 3] }, type := t3, pos := q3, after := #[{ on := 2, ground := Ground.data }], guard := none },
   { dst := some 17, op := Op.fieldAddr 41 (Operand.tmp 5) 1, type := t4, pos := q4, after := #[], guard := none },
   { dst := some 18, op := Op.load 2 (Operand.tmp 17), type := t5, pos := q5, after := #[{ on := 4, ground := Ground.data }], guard := none },
   { dst := some 19, op := Op.call { callee := Callee.value (Operand.func 35), args := #[Operand.tmp 18, Operand.const (Value.int IntKind.i64 10)], argTypes := #[2, 3] }, type := t6, pos := q6, after := #[{ on := 5, ground := Ground.data }, { on := 3, ground := Ground.chain }], guard := none },
   { dst := some 20, op := Op.buildSlice 46 2 #[(0, Operand.tmp 16), (1, Operand.tmp 19)], type := t7, pos := q7, after := #[{ on := 3, ground := Ground.data }, { on := 6, ground := Ground.data }], guard := none },
   { dst := some 21, op := Op.call { callee := Callee.builtin Builtin.append, args := #[Operand.tmp 13, Operand.tmp 20], argTypes := #[46, 46] }, type := t8, pos := q8, after := #[{ on := 0, ground := Ground.data }, { on := 7, ground := Ground.data }, { on := 6, ground := Ground.chain }], guard := none },
   { dst := some 3, op := Op.assign (Operand.tmp 21), type := t9, pos := q9, after := #[{ on := 8, ground := Ground.data }, { on := 8, ground := Ground.chain }, { on := 0, ground := Ground.phase }, { on := 1, ground := Ground.phase }, { on := 2, ground := Ground.phase }, { on := 3, ground := Ground.phase }, { on := 4, ground := Ground.phase }, { on := 5, ground := Ground.phase }, { on := 6, ground := Ground.phase }, { on := 7, ground := Ground.phase }, { on := 8, ground := Ground.phase }], guard := none }] true).wp Tryd.prog Q a0 w0 := by
 have hS : distS [some 13, some 14, some 15, some 16, some 17, some 18, some 19, some 20, some 21, some 3] = true := rfl
 refine wp_region_inv (by kernel_rfl) (JltC P x y o c base Lz w0 a0) ⟨⟨rfl, rfl, rfl, fun _ _ => rfl, (Below.refl _ w0).drew, fun j d hj => ?_, fun j hj => ?_⟩, AppJ.start hr (ownA_step ho (Below.refl _ _).drew) hX.drew⟩ ?_ ?_
 · exfalso
   rw [Array.getD_eq_getD_getElem?, Array.getElem?_replicate] at hj
   split at hj <;> simp at hj
 · exfalso
   rw [Array.getD_eq_getD_getElem?, Array.getElem?_replicate] at hj
   split at hj <;> simp at hj
 · intro lq aq W iq oq ⟨hJ, hs⟩ hl ho hall
   have hJ2 := hJ
   obtain ⟨z1, z2, z3, z4, z5, z6, z7⟩ := hJ
   have g5 : aq.tmps.getD 5 undef = .pointer (some ⟨P, 0, none⟩) := by rw [Array.getD_eq_getD_getElem?, z4 5 (by decide), h5]; rfl
   match iq, ho with
   | 0, ho =>
     cases ho
     refine wpOp_of rfl rfl ?_
     have hq := fun (v : Value) (W2 : World) => hs.quiet (W2 := W2) 0 13 v (by decide) hl (by decide) (by decide) (by decide) (by decide) (by decide) (by decide)
     have g3 : aq.tmps.getD 3 undef = o := hs.2.1 (hs.off (i := 0) (by decide) hl)
     have hK := fun (v : Value) (W2 : World) hW hT hv (hs : SltC P x y o c base Lz (lq.setIfInBounds 0 true) (aq.put (some 13) v) W2) => show (JltC P x y o c base Lz w0 a0) (lq.setIfInBounds 0 true) (aq.put (some 13) v) W2 from ⟨hJ2.put hS 0 13 rfl (by omega) (W' := W2) hW hT v hv, hs⟩
     clear ho hall hl hQ
     generalize (JltC P x y o c base Lz w0 a0) (lq.setIfInBounds 0 true) = K at hK ⊢
     clear hJ2 hS z1 z2 z3 z4 z6 z7
     go_simp
     exact hK _ _ z5 (fun _ _ h => h) rfl (hq _ _ (Below.refl _ _))
   | 1, ho =>
     cases ho
     refine wpOp_of rfl rfl ?_
     have hq := fun (v : Value) (W2 : World) => hs.quiet (W2 := W2) 1 14 v (by decide) hl (by decide) (by decide) (by decide) (by decide) (by decide) (by decide)
     have hK := fun (v : Value) (W2 : World) hW hT hv (hs : SltC P x y o c base Lz (lq.setIfInBounds 1 true) (aq.put (some 14) v) W2) => show (JltC P x y o c base Lz w0 a0) (lq.setIfInBounds 1 true) (aq.put (some 14) v) W2 from ⟨hJ2.put hS 1 14 rfl (by omega) (W' := W2) hW hT v hv, hs⟩
     clear ho hall hl hQ
     generalize (JltC P x y o c base Lz w0 a0) (lq.setIfInBounds 1 true) = K at hK ⊢
     clear hJ2 hS z1 z2 z3 z4 z6 z7
     go_simp
     exact hK _ _ z5 (fun _ _ h => h) rfl (hq _ _ (Below.refl _ _))
   | 2, ho =>
     cases ho
     refine wpOp_of rfl rfl ?_
     have f1 : (aq.tmps.getD 14 undef) = .pointer (some ⟨P, 0, none⟩) := z6 1 14 (hall { on := 1, ground := Ground.data } (by simp) rfl) rfl
     have hq := fun (v : Value) (W2 : World) => hs.quiet (W2 := W2) 2 15 v (by decide) hl (by decide) (by decide) (by decide) (by decide) (by decide) (by decide)
     have x0 := hs.2.2.1.c 0 rfl; have x1 := hs.2.2.1.c 1 rfl
     have hK := fun (v : Value) (W2 : World) hW hT hv (hs : SltC P x y o c base Lz (lq.setIfInBounds 2 true) (aq.put (some 15) v) W2) => show (JltC P x y o c base Lz w0 a0) (lq.setIfInBounds 2 true) (aq.put (some 15) v) W2 from ⟨hJ2.put hS 2 15 rfl (by omega) (W' := W2) hW hT v hv, hs⟩
     clear ho hall hl hQ
     generalize (JltC P x y o c base Lz w0 a0) (lq.setIfInBounds 2 true) = K at hK ⊢
     clear hJ2 hS z1 z2 z3 z4 z6 z7
     go_simp
     exact hK _ _ z5 (fun _ _ h => h) rfl (hq _ _ (Below.refl _ _))
   | 3, ho =>
     cases ho
     refine wpOp_of rfl rfl ?_
     have f2 : (aq.tmps.getD 15 undef) = .int .i64 x := z6 2 15 (hall { on := 2, ground := Ground.data } (by simp) rfl) rfl
     have hq := fun (v : Value) (W2 : World) => hs.quiet (W2 := W2) 3 16 v (by decide) hl (by decide) (by decide) (by decide) (by decide) (by decide) (by decide)
     have hK := fun (v : Value) (W2 : World) hW hT hv (hs : SltC P x y o c base Lz (lq.setIfInBounds 3 true) (aq.put (some 16) v) W2) => show (JltC P x y o c base Lz w0 a0) (lq.setIfInBounds 3 true) (aq.put (some 16) v) W2 from ⟨hJ2.put hS 3 16 rfl (by omega) (W' := W2) hW hT v hv, hs⟩
     clear ho hall hl hQ
     generalize (JltC P x y o c base Lz w0 a0) (lq.setIfInBounds 3 true) = K at hK ⊢
     clear hJ2 hS z1 z2 z3 z4 z6 z7
     go_simp
     refine (fmt_any x hx W (hT W z5)).mono ?_
     rintro e v1 ⟨rfl, hBv⟩
     have zs := z5.size
     exact hK _ _ (z5.trans (hBv.mono (by omega))) (fun _ _ h => VltC.same h) rfl (hq _ _ hBv)
   | 4, ho =>
     cases ho
     refine wpOp_of rfl rfl ?_
     have hq := fun (v : Value) (W2 : World) => hs.quiet (W2 := W2) 4 17 v (by decide) hl (by decide) (by decide) (by decide) (by decide) (by decide) (by decide)
     have hK := fun (v : Value) (W2 : World) hW hT hv (hs : SltC P x y o c base Lz (lq.setIfInBounds 4 true) (aq.put (some 17) v) W2) => show (JltC P x y o c base Lz w0 a0) (lq.setIfInBounds 4 true) (aq.put (some 17) v) W2 from ⟨hJ2.put hS 4 17 rfl (by omega) (W' := W2) hW hT v hv, hs⟩
     clear ho hall hl hQ
     generalize (JltC P x y o c base Lz w0 a0) (lq.setIfInBounds 4 true) = K at hK ⊢
     clear hJ2 hS z1 z2 z3 z4 z6 z7
     go_simp
     exact hK _ _ z5 (fun _ _ h => h) rfl (hq _ _ (Below.refl _ _))
   | 5, ho =>
     cases ho
     refine wpOp_of rfl rfl ?_
     have f4 : (aq.tmps.getD 17 undef) = .pointer (some ⟨P, 1, none⟩) := z6 4 17 (hall { on := 4, ground := Ground.data } (by simp) rfl) rfl
     have hq := fun (v : Value) (W2 : World) => hs.quiet (W2 := W2) 5 18 v (by decide) hl (by decide) (by decide) (by decide) (by decide) (by decide) (by decide)
     have x0 := hs.2.2.1.c 0 rfl; have x1 := hs.2.2.1.c 1 rfl
     have hK := fun (v : Value) (W2 : World) hW hT hv (hs : SltC P x y o c base Lz (lq.setIfInBounds 5 true) (aq.put (some 18) v) W2) => show (JltC P x y o c base Lz w0 a0) (lq.setIfInBounds 5 true) (aq.put (some 18) v) W2 from ⟨hJ2.put hS 5 18 rfl (by omega) (W' := W2) hW hT v hv, hs⟩
     clear ho hall hl hQ
     generalize (JltC P x y o c base Lz w0 a0) (lq.setIfInBounds 5 true) = K at hK ⊢
     clear hJ2 hS z1 z2 z3 z4 z6 z7
     go_simp
     exact hK _ _ z5 (fun _ _ h => h) rfl (hq _ _ (Below.refl _ _))
   | 6, ho =>
     cases ho
     refine wpOp_of rfl rfl ?_
     have f5 : (aq.tmps.getD 18 undef) = .int .i64 y := z6 5 18 (hall { on := 5, ground := Ground.data } (by simp) rfl) rfl
     have hq := fun (v : Value) (W2 : World) => hs.quiet (W2 := W2) 6 19 v (by decide) hl (by decide) (by decide) (by decide) (by decide) (by decide) (by decide)
     have hK := fun (v : Value) (W2 : World) hW hT hv (hs : SltC P x y o c base Lz (lq.setIfInBounds 6 true) (aq.put (some 19) v) W2) => show (JltC P x y o c base Lz w0 a0) (lq.setIfInBounds 6 true) (aq.put (some 19) v) W2 from ⟨hJ2.put hS 6 19 rfl (by omega) (W' := W2) hW hT v hv, hs⟩
     clear ho hall hl hQ
     generalize (JltC P x y o c base Lz w0 a0) (lq.setIfInBounds 6 true) = K at hK ⊢
     clear hJ2 hS z1 z2 z3 z4 z6 z7
     go_simp
     refine (fmt_any y hy W (hT W z5)).mono ?_
     rintro e v1 ⟨rfl, hBv⟩
     have zs := z5.size
     exact hK _ _ (z5.trans (hBv.mono (by omega))) (fun _ _ h => VltC.same h) rfl (hq _ _ hBv)
   | 7, ho =>
     cases ho
     refine wpOp_of rfl rfl ?_
     have f3 : (aq.tmps.getD 16 undef) = .string (bA (Lib.itoa x)) := z6 3 16 (hall { on := 3, ground := Ground.data } (by simp) rfl) rfl
     have f6 : (aq.tmps.getD 19 undef) = .string (bA (Lib.itoa y)) := z6 6 19 (hall { on := 6, ground := Ground.data } (by simp) rfl) rfl
     have hq := fun (g cp : Nat) (W2 : World) => hs.built (W2 := W2) (g := g) (cp := cp) (by decide) hl (by decide) (by decide) (by decide) (by decide) (by rw [z2, hz]; decide)
     rw [Array.getD_eq_getD_getElem?] at f3
     rw [Array.getD_eq_getD_getElem?] at f6
     have hK := fun (v : Value) (W2 : World) hW hT hv (hs : SltC P x y o c base Lz (lq.setIfInBounds 7 true) (aq.put (some 20) v) W2) => show (JltC P x y o c base Lz w0 a0) (lq.setIfInBounds 7 true) (aq.put (some 20) v) W2 from ⟨hJ2.put hS 7 20 rfl (by omega) (W' := W2) hW hT v hv, hs⟩
     clear ho hall hl hQ
     generalize (JltC P x y o c base Lz w0 a0) (lq.setIfInBounds 7 true) = K at hK ⊢
     clear hJ2 hS z1 z2 z3 z4 z6 z7
     have zs := z5.size
     go_simp
     exact hK _ _ (z5.alloc (by omega) _) (fun _ _ h => h.mono ((Below.refl _ _).alloc (Nat.le_refl _) _)) trivial (hq _ _ _ ((Below.refl _ _).alloc (Nat.le_refl _) _) (Blk.new W [.string (bA (Lib.itoa x)), .string (bA (Lib.itoa y))] _ rfl))
   | 8, ho =>
     cases ho
     refine wpOp_of rfl rfl ?_
     have f0 : (aq.tmps.getD 13 undef) = o := z6 0 13 (hall { on := 0, ground := Ground.data } (by simp) rfl) rfl
     have f7 : True := z6 7 20 (hall { on := 7, ground := Ground.data } (by simp) rfl) rfl
     have hq := fun (v : Value) (W2 : World) => hs.appended (W2 := W2) (by decide) hl (by decide) (by decide) (by rw [z2, hz]; decide) v
     obtain ⟨ow, hb⟩ := hs.2.2.2.1 (getD_tf hl)
     have bP := hs.2.2.1
     obtain ⟨ge, ce, ee, X⟩ := hb (hall { on := 7, ground := Ground.data } (by simp) rfl)
     obtain ⟨i0, hi, hz0, hz1, hz2⟩ := info_parts Tryd.infoStr
     have hK := fun (v : Value) (W2 : World) hW hT hv (hs : SltC P x y o c base Lz (lq.setIfInBounds 8 true) (aq.put (some 21) v) W2) => show (JltC P x y o c base Lz w0 a0) (lq.setIfInBounds 8 true) (aq.put (some 21) v) W2 from ⟨hJ2.put hS 8 21 rfl (by omega) (W' := W2) hW hT v hv, hs⟩
     clear ho hall hl hQ
     generalize (JltC P x y o c base Lz w0 a0) (lq.setIfInBounds 8 true) = K at hK ⊢
     clear hJ2 hS z1 z2 z3 z4 z6 z7
     have zs := z5.size
     refine wp_append_own (P := Tryd.prog) W (Operand.tmp 13) (Operand.tmp 20) 46 rfl base 9 i0 (.string ⟨#[]⟩) 1 16 Tryd.underlying46 hi hz0 hz1 hz2 rfl (by decide) o c Lz (by assumption) ow ⟨ge, 0, none⟩ 2 ce [.string (bA (Lib.itoa x)), .string (bA (Lib.itoa y))] ee rfl (blk_news X) (by intro u hu; simp only [List.mem_cons, List.not_mem_nil, or_false] at hu; rcases hu with rfl | rfl <;> rfl) (by unfold maxLen; omega) (by omega) (by omega) ?_
     intro v' w' ho2 hgr _
     exact hK v' w' (z5.grown hgr (by omega) (fun k hk => (ow.lt k hk).1)) (fun _ _ h => VltC.same h) trivial (hq v' w' ho2 (bP.grownA hgr hne))
   | 9, ho =>
     cases ho
     refine wpOp_of rfl rfl ?_
     have f8 : True := z6 8 21 (hall { on := 8, ground := Ground.data } (by simp) rfl) rfl
     have hq := fun (v : Value) hv => hs.assigned hl (fun j hj hn => match j, hj, hn with | 0, _, _ => hall { on := 0, ground := Ground.phase } (by simp) rfl | 1, _, _ => hall { on := 1, ground := Ground.phase } (by simp) rfl | 2, _, _ => hall { on := 2, ground := Ground.phase } (by simp) rfl | 3, _, _ => hall { on := 3, ground := Ground.phase } (by simp) rfl | 4, _, _ => hall { on := 4, ground := Ground.phase } (by simp) rfl | 5, _, _ => hall { on := 5, ground := Ground.phase } (by simp) rfl | 6, _, _ => hall { on := 6, ground := Ground.phase } (by simp) rfl | 7, _, _ => hall { on := 7, ground := Ground.phase } (by simp) rfl | 8, _, _ => hall { on := 8, ground := Ground.data } (by simp) rfl | 9, _, hn => absurd rfl hn | j + 10, hj, _ => absurd hj (by omega)) (by decide) (by decide) (by decide) (by rw [z2, hz]; decide) v hv
     have hK := fun (v : Value) (W2 : World) hW hT hv (hs : SltC P x y o c base Lz (lq.setIfInBounds 9 true) (aq.put (some 3) v) W2) => show (JltC P x y o c base Lz w0 a0) (lq.setIfInBounds 9 true) (aq.put (some 3) v) W2 from ⟨hJ2.put hS 9 3 rfl (by omega) (W' := W2) hW hT v hv, hs⟩
     clear ho hall hl hQ
     generalize (JltC P x y o c base Lz w0 a0) (lq.setIfInBounds 9 true) = K at hK ⊢
     clear hJ2 hS z1 z2 z3 z4 z6 z7
     go_simp
     exact hK _ _ z5 (fun _ _ h => h) trivial (hq _ (by rw [Array.getD_eq_getD_getElem?]))
   | iq + 10, ho => simp at ho
 · intro lq aq W ⟨hJ, hs⟩ hr
   obtain ⟨z1, z2, z3, z4, z5, z6, z7⟩ := hJ
   have hl := listed_of hr [0, 1, 2, 3, 4, 5, 6, 7, 8, 9] [] (by simp) (by kernel_rfl) (by rw [z1]; decide)
   exact hQ aq W z2 z3 (fun e he => z4 e (by simpa using he)) (z6 9 3 (hl 9 (by simp)) rfl) z5 (hs.done (by decide) (hl 9 (by simp)))
set_option maxRecDepth 100000 in
set_option maxHeartbeats 4000000 in
theorem text_any (ao : Option Addr) (n cap : Nat) (p : Ps) (hn : n ≤ 20) (hh : htB n p = true) (w : World) (hT : TabP w.heap.size w) (hS : SpIn w ao n p) : Calls Tryd.prog 19 #[.agg #[.slice ao n cap]] w (VP (.string (bA (rgU p n))) w) := by
 have B0 := Blk.new w [.slice ao n cap] 39 rfl
 have HB : Below w.heap.size w (w.alloc (.cells #[.slice ao n cap] 39)) := (Below.refl _ w).alloc (Nat.le_refl _) _
 have hsz : (w.alloc (.cells #[.slice ao n cap] 39)).heap.size = w.heap.size + 1 := by simp
 have HS : Hid (SpIn w ao n p) := hS
 have HT : Hid (TabP w.heap.size w) := hT
 obtain ⟨h0, hall⟩ := htB_iff.1 hh
 have HA : Hid (∀ i, i < n → shB (p i).1 = true ∧ shB (p i).2 = true) := hall
 have hnI : (n : Int) ≤ 20 := by omega
 clear hS hT hh hall
 go_enter Tryd.func19, Tryd.ntmps19
 go_upto_region 1 with fail
 generalize (w.alloc (.cells #[.slice ao n cap] 39)) = W1 at *
 have b0 := B0.c 0 rfl
 go_wp2_with fail
 clear b0
 go_loopw [3, 9] (fun v i wr => ∃ c : Nat, c ≤ n ∧ i = .int .i64 c ∧ wr.ownsRow (w.heap.size + 1) 9 1 v (c * 2) ((ptU p c).map fun l => .string (bA l)) ∧ Below w.heap.size w wr ∧ w.heap.size + 1 ≤ wr.heap.size) (fun _ i _ => n - (intOf i).toNat)
 case atStart => exact ⟨0, by omega, rfl, World.ownsRow_nil _ _ _ _, HB, by omega⟩
 case round =>
   obtain ⟨c, hc, rfl, hO, HBr, hsr⟩ := hrel
   clear B0 HB
   by_cases hcn : c < n
   · have hcI : (c : Int) < n := by omega
     obtain ⟨A, off, rfl, hA, q0, q1⟩ := HS.out.step HBr c hcn
     have X := Blk.new wr [.int .i64 (p c).1, .int .i64 (p c).2] 41 rfl
     have HBX : Below wr.heap.size wr (wr.alloc (.cells #[.int .i64 (p c).1, .int .i64 (p c).2] 41)) := (Below.refl _ _).alloc (Nat.le_refl _) _
     have hne : some wr.heap.size ≠ u3.ownBlock := fun e => by have := (hO.lt _ e.symm).2; omega
     replace hO := ownA_step hO HBX
     replace HBX := HBr.trans (HBX.mono HBr.size)
     obtain ⟨h1, h2⟩ := HA.out c hcn
     go_upto_region 5 with fail
     generalize wr.heap.size = P at *
     revert X
     rw [show ([.int .i64 (p c).1, .int .i64 (p c).2] : List Value).toArray = #[.int .i64 (p c).1, .int .i64 (p c).2] from rfl]
     intro X
     generalize (wr.alloc (.cells #[.int .i64 (p c).1, .int .i64 (p c).2] 41)) = W2 at *
     clear q0 q1 HBr
     have hP := X.lt
     refine ltC (P := P) (x := (p c).1) (y := (p c).2) (o := u3) (c := c * 2) (base := w.heap.size + 1) (Lz := (ptU p c).map fun l => .string (bA l)) h1 h2 (HT.out.on HBX (by omega)) X rfl hO (by omega) (by omega) hne rfl rfl ?_
     rintro ⟨tm, df⟩ Wz hz hdf hoff _ hBz hown
     simp only at hz hdf hoff hown
     subst hdf
     have htm := tmps_fold [13, 14, 15, 16, 17, 18, 19, 20, 21, 3] tm _ hz hoff
     simp only [List.foldl, List.setIfInBounds_toArray, List.set_cons_zero, List.set_cons_succ] at htm
     clear hz hoff
     generalize tm.getD 13 undef = u0, tm.getD 14 undef = u1, tm.getD 15 undef = u2, tm.getD 16 undef = u3, tm.getD 17 undef = u4, tm.getD 18 undef = u5, tm.getD 19 undef = u6, tm.getD 20 undef = u7, tm.getD 21 undef = u8, tm.getD 3 undef = u9 at htm
     subst htm
     have HN : Hid (Wz.ownsRow (w.heap.size + 1) 9 1 u9 ((c + 1) * 2) ((ptU p (c + 1)).map fun l => .string (bA l))) := by
       rw [ptU, List.map_append, show (c + 1) * 2 = c * 2 + 2 by omega]
       exact hown
     have HBN := HBX.trans (hBz.mono (by omega))
     have hsN := hBz.size
     clear hown hBz HBX hO X
     go_wp2
     go_roundw
     case rel => exact ⟨c + 1, by omega, by go_num, HN.out, HBN, by omega⟩
     case measure => simp [intOf]; omega
   · obtain rfl : c = n := by omega
     obtain ⟨g, gc, rfl, _, _, _, _⟩ := ownN_formT hO (by omega)
     have CJ := join_any (w.heap.size + 1) g (c * 2) gc 16 (ptU p c) [32] wr (ptU_len p c) hO (by omega) (ptU_le HA.out c (Nat.le_refl _)) (by simp)
     rw [ptU_join] at CJ
     have HT9 : Hid (bA (rgU p c) = bA (rgU p c)) := rfl
     clear hO
     go_wp2_with fail
     refine CJ.mono ?_
     rintro e w9 ⟨rfl, hB⟩
     have HBF := HBr.trans (hB.mono HBr.size)
     clear CJ hB HBr
     go_wp2
     go_ret
     exact ⟨rfl, HBF⟩
theorem rtU_len (L : Nat → Nat) (q : Nat → Ps) (c : Nat) : (rtU L q c).length = c := by simp [rtU]
theorem rtU_le {n : Nat} {L : Nat → Nat} {q : Nat → Ps} (h : ∀ i, i < n → L i ≤ 20 ∧ htB (L i) (q i) = true) : ∀ x ∈ rtU L q n, x.length ≤ 680 := fun x hx => by
 unfold rtU at hx
 obtain ⟨i, hi, rfl⟩ := List.mem_map.1 hx
 obtain ⟨h1, h2⟩ := h i (List.mem_range.1 hi)
 have := rgU_le (htB_iff.1 h2).2
 omega
theorem smR_get {L : Nat → Nat} {n i : Nat} (h : i < n) : L i ≤ smR L n := by
 have := smR_mono (L := L) (show i + 1 ≤ n from h)
 rw [smR] at this
 omega
set_option maxRecDepth 100000 in
set_option maxHeartbeats 4000000 in
theorem layerText_any (ao : Option Addr) (n cap : Nat) (S : Nat → Option Addr × Nat) (L : Nat → Nat) (q : Nat → Ps) (hn : n ≤ 1048576) (hL : ∀ i, i < n → L i ≤ 1048576) (w : World) (hT : TabP w.heap.size w) (hS : RgIn w ao n S L q) : Calls Tryd.prog 8 #[.slice ao n cap] w (VP (.string (bA (ltU n L q))) w) := by
 have CH := fun w => haveText_any ao n cap S L q hn hL w
 have HS : Hid (RgIn w ao n S L q) := hS
 have HT : Hid (TabP w.heap.size w) := hT
 have hnI : (n : Int) ≤ 1048576 := by omega
 clear hS hT hL
 by_cases h0 : n = 0
 · subst h0
   go_enter Tryd.func8, Tryd.ntmps8
   go_wp2
   go_ret
   exact ⟨rfl, Below.refl _ _⟩
 · have h0I : ¬ ((n : Int) = 0) := by omega
   obtain ⟨b, hb⟩ : ∃ b, hvB n L q = b := ⟨_, rfl⟩
   rw [hb] at CH
   have CH := CH w HS.out
   cases b with
   | false =>
     have HO : Hid (ltU n L q = []) := by
       rw [Hid]
       unfold ltU
       rw [if_neg h0, if_neg (by rw [hb]; decide)]
     clear hb
     go_enter Tryd.func8, Tryd.ntmps8
     go_wp2_with fail
     refine CH.mono ?_
     rintro e w1 ⟨rfl, HB⟩
     clear CH
     go_wp2
     go_ret
     exact ⟨by rw [HO.out]; rfl, HB⟩
   | true =>
     have HO : Hid (ltU n L q = lyU L q n) := by
       rw [Hid]
       unfold ltU
       rw [if_neg h0, if_pos hb]
     obtain ⟨⟨h6, h20⟩, hall⟩ := hvB_iff.1 hb
     have HA : Hid (∀ i, i < n → L i ≤ 20 ∧ htB (L i) (q i) = true) := fun i hi => ⟨Nat.le_trans (smR_get hi) h20, hall i hi⟩
     have H6 : Hid (n ≤ 6) := h6
     clear hb h6 h20 hall
     go_enter Tryd.func8, Tryd.ntmps8
     go_wp2_with fail
     refine CH.mono ?_
     rintro e w1 ⟨rfl, HB⟩
     clear CH
     go_wp2_with fail
     go_loopw [3, 14] (fun v i wr => ∃ c : Nat, c ≤ n ∧ i = .int .i64 c ∧ wr.ownsRow w.heap.size 9 1 v c ((rtU L q c).map fun l => .string (bA l)) ∧ Below w.heap.size w wr) (fun _ i _ => n - (intOf i).toNat)
     case atStart => exact ⟨0, by omega, rfl, World.ownsRow_nil _ _ _ _, HB⟩
     case round =>
       obtain ⟨c, hc, rfl, hO, HBr⟩ := hrel
       clear HB
       by_cases hcn : c < n
       · have hcI : (c : Int) < n := by omega
         obtain ⟨A, off, rfl, hA, q0, hrow⟩ := HS.out.step HBr c hcn
         have X := Blk.new wr [.slice (S c).1 (L c) (S c).2] 39 rfl
         have HBX : Below wr.heap.size wr (wr.alloc (.cells #[.slice (S c).1 (L c) (S c).2] 39)) := (Below.refl _ _).alloc (Nat.le_refl _) _
         have hrl : ∀ W, Below w.heap.size w W → SpIn W (S c).1 (L c) (q c) := fun W h => by
           obtain ⟨_, _, _, _, _, h9⟩ := HS.out.step h c hcn
           exact h9
         replace hO := ownA_step hO HBX
         replace HBX := HBr.trans (HBX.mono HBr.size)
         obtain ⟨h1, h2⟩ := HA.out c hcn
         obtain ⟨i0, hi, hz0, hz1, hz2⟩ := info_parts Tryd.infoStr
         have h6 := H6.out
         have hrow2 := hrl _ HBX
         have hT2 := HT.out.on HBX HBX.size
         clear hrow HBr hrl
         go_upto_region 9 with fail
         clear q0
         generalize wr.heap.size = P at *
         revert X
         rw [show ([.slice (S c).1 (L c) (S c).2] : List Value).toArray = #[.slice (S c).1 (L c) (S c).2] from rfl]
         intro X
         generalize (wr.alloc (.cells #[.slice (S c).1 (L c) (S c).2] 39)) = W2 at *
         have x0 := X.c 0 rfl
         have CT := text_any (S c).1 (L c) (S c).2 (q c) h1 h2 W2 hT2 hrow2
         clear hrow2 hT2
         go_wp2_with fail
         refine CT.mono ?_
         rintro e W3 ⟨rfl, hB3⟩
         replace hO := ownA_step hO hB3
         replace HBX := HBX.trans (hB3.mono HBX.size)
         have hsz := HBX.size
         clear CT x0 X hB3
         go_wp2_with (at_builtin; refine wpList_append_own _ rfl _ _ 46 rfl w.heap.size 9 i0 (.string ⟨#[]⟩) 1 16 Tryd.underlying46 hi hz0 hz1 hz2 rfl (by decide) _ _ _ rfl (hO.alloc _) ⟨W3.heap.size, 0, none⟩ 1 1 [.string (bA (rgU (q c) (L c)))] rfl rfl (cell_one_new _ _ _) (by intro u hu; simp only [List.mem_cons, List.not_mem_nil, or_false] at hu; rcases hu with rfl; rfl) (by unfold maxLen; omega) (by omega) (by simp; omega) ?_)
         intro v' w4 ho' hg' _
         have HBN := (HBX.alloc HBX.size _).grown hg' (by simp; omega) (fun k hk => (hO.lt k hk).1)
         have HN : Hid (w4.ownsRow w.heap.size 9 1 v' (c + 1) ((rtU L q (c + 1)).map fun l => .string (bA l))) := by
           rw [rtU_succ, List.map_append]
           exact ho'
         clear hg' ho' hO HBX hi hz0 hz1 hz2 h6
         go_wp2
         go_roundw
         case rel => exact ⟨c + 1, by omega, by go_num, HN.out, HBN⟩
         case measure => simp [intOf]; omega
       · obtain rfl : c = n := by omega
         obtain ⟨g, gc, rfl, _, _, _, _⟩ := ownN_formT hO (by omega)
         have h6 := H6.out
         have CJ := join_any w.heap.size g c gc 680 (rtU L q c) [32, 47, 32] wr (rtU_len L q c) hO (by omega) (rtU_le HA.out) (by simp)
         rw [rtU_join] at CJ
         clear hO h6
         go_wp2_with fail
         refine CJ.mono ?_
         rintro e w9 ⟨rfl, hB⟩
         have HBF := HBr.trans (hB.mono HBr.size)
         clear CJ hB HBr
         go_wp2
         go_ret
         exact ⟨by rw [HO.out]; rfl, HBF⟩
def AccI (n iz dr : Nat) (o : Value) (lz : Array Bool) (az : Act) : Prop :=
 (lz.getD iz false = true → ∀ j, j < n → lz.getD j false = true) ∧ (lz.getD iz false = false → az.tmps.getD dr undef = o)
theorem AccI.start {n m iz dr : Nat} {o : Value} {az : Act} (h1 : az.tmps.getD dr undef = o) : AccI n iz dr o (Array.replicate m false) az :=
 ⟨(fun h => by rw [replD] at h; cases h), fun _ => h1⟩
theorem AccI.off {n iz dr : Nat} {o : Value} {lz : Array Bool} {az : Act} (h : AccI n iz dr o lz az) {i : Nat} (hi : i < n) (hl : lz.getD i true = false) : lz.getD iz false = false := by
 cases hh : lz.getD iz false with
 | false => rfl
 | true => have := h.1 hh i hi; rw [getD_tf hl] at this; cases this
theorem AccI.quiet {n iz dr : Nat} {o : Value} {lz : Array Bool} {az : Act} (h : AccI n iz dr o lz az) (i d : Nat) (v : Value) (hi : i < n) (hl : lz.getD i true = false) (h3 : i ≠ iz) (e1 : d ≠ dr) :
   AccI n iz dr o (lz.setIfInBounds i true) (az.put (some d) v) := by
 have hz := h.off hi hl
 obtain ⟨a1, a2⟩ := h
 unfold AccI
 rw [getD_set_neq h3, put_getD_ne e1]
 exact ⟨(fun h => by rw [hz] at h; cases h), a2⟩
theorem AccI.assigned {n iz dr : Nat} {o : Value} {lz : Array Bool} {az : Act} (hl : lz.getD iz true = false) (hall : ∀ j, j < n → j ≠ iz → lz.getD j false = true) (v : Value) :
   AccI n iz dr o (lz.setIfInBounds iz true) (az.put (some dr) v) := by
 refine ⟨fun _ j hj => ?_, fun h => by rw [getD_set_eq hl] at h; cases h⟩
 by_cases e : j = iz
 · subst e; exact getD_set_eq hl
 · rw [getD_set_neq (Ne.symm e)]; exact hall j hj e
end Go.Proofs.YtjcpdihdlklapaaDoor
