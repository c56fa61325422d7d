/- Part 17 of the walks that the proof leans on. -/
import Derived.Test.YtpmnmlhfaoajdaaGreatPart16
import Derived.Test.YtpmnmlhfaoajdaaGreatPart11
import Derived.Test.YtpmnmlhfaoajdaaGreatPart14
import Derived.Test.YtpmnmlhfaoajdaaGreatPart10
import Derived.Test.YtpmnmlhfaoajdaaGreatPart7
import Derived.SizedLaws
import Derived.Deep.Slices
import Derived.Test.YtpmnmlhfaoajdaaGreatRows
import Derived.ProofKit
import Derived.Lib.SmallJoins
set_option maxRecDepth 100000
set_option maxHeartbeats 16000000
namespace Go.Proofs.YtpmnmlhfaoajdaaGreat
open Go.RowKit
theorem evV_evC (q : Nat → Int × Int × Int) (S L : Nat → Nat) (k : Nat) : evV q S L k = evC (wq q) (fun i => .slice (some ⟨S i, 0, none⟩) (L i) (L i)) k := by
 obtain ⟨c, j, hj, rfl⟩ : ∃ c j, j < 13 ∧ k = c * 13 + j := ⟨k / 13, k % 13, by omega, by omega⟩
 by_cases e : j = 12
 · subst e; rw [evC_12, evV12]
 · rw [evC_at _ _ _ _ (by omega), wq_at _ _ _ hj]
   rcases (show j = 0 ∨ j = 1 ∨ j = 2 ∨ j = 3 ∨ j = 4 ∨ j = 5 ∨ j = 6 ∨ j = 7 ∨ j = 8 ∨ j = 9 ∨ j = 10 ∨ j = 11 by omega) with h | h | h | h | h | h | h | h | h | h | h | h <;> subst h
   · exact evV0 q S L c
   · exact evV1 q S L c
   · exact evV2 q S L c
   · exact evV3 q S L c
   · exact evV4 q S L c
   · exact evV5 q S L c
   · exact evV6 q S L c
   · exact evV7 q S L c
   · exact evV8 q S L c
   · exact evV9 q S L c
   · exact evV10 q S L c
   · exact evV11 q S L c
theorem toEvO_any (ao : Option Addr) (n cap : Nat) (q : Nat → Int × Int × Int) (S : Nat → Option Addr × Nat) (L : Nat → Nat) (E : Nat → Nat → Int) (hn : n ≤ 1048576) (hL : ∀ i, i < n → L i ≤ 1048576) (w : World) (hS : EvIn w ao n q S L E) : Calls Tryz.prog 17 #[.slice ao n cap] w (fun e w' => ∃ g s, e = .returned (.slice (some ⟨g, 0, none⟩) n n) ∧ EvRow w' w.heap.size w'.heap.size (.slice (some ⟨g, 0, none⟩) n n) n (wq q) s L E ∧ Below w.heap.size w w') := by
 have MK := make_events n hn
 have HS : Hid (EvIn w ao n q S L E) := hS
 have HL : Hid (∀ i, i < n → L i ≤ 1048576) := hL
 clear hS hL
 go_enter Tryz.func17, Tryz.ntmps17
 go_wp2_with fail
 have R0 := rowe_made w n 81
 have B0 : Below w.heap.size w (w.alloc (.cells (madeCells #[.int .u64 0, .int .u64 0, .int .u64 0, .int .u64 0, .int .u64 0, .int .u64 0, .int .u64 0, .int .u64 0, .int .u64 0, .int .u64 0, .int .u64 0, .int .u64 0, .slice none 0 0] (n * 13)) 81)) := (Below.refl _ _).alloc (Nat.le_refl _) _
 generalize (w.alloc (.cells (madeCells #[.int .u64 0, .int .u64 0, .int .u64 0, .int .u64 0, .int .u64 0, .int .u64 0, .int .u64 0, .int .u64 0, .int .u64 0, .int .u64 0, .int .u64 0, .int .u64 0, .slice none 0 0] (n * 13)) 81)) = W1 at *
 have hnI : (n : Int) ≤ 1048576 := by omega
 clear MK
 go_loopw [4] (fun i wr => ∃ (c : Nat) (S' : Nat → Nat), c ≤ n ∧ i = .int .i64 c ∧ wr.rowIs w.heap.size 81 (n * 13) (cpV q S' L c) ∧ (∀ j, j < c → S' j ≠ w.heap.size ∧ wr.rowIs (S' j) 2 (L j) (fun i => .int .i64 (E j i))) ∧ (∀ j, j < c → w.heap.size ≤ S' j) ∧ (∀ i j, i < c → j < c → i ≠ j → S' i ≠ S' j) ∧ Below w.heap.size w wr) (fun i _ => n - (intOf i).toNat)
 case atStart => exact ⟨0, fun _ => 0, by omega, rfl, R0.congr (fun i _ => by unfold cpV; simp), fun j hj => by omega, fun j hj => by omega, fun i j hi => by omega, B0⟩
 case round =>
   clear R0 B0
   obtain ⟨c, S', hc, rfl, R, hp, hp2, hp3, HB⟩ := hrel
   have HPW : Hid ((∀ j, j < c → w.heap.size ≤ S' j) ∧ (∀ i j, i < c → j < c → i ≠ j → S' i ≠ S' j)) := ⟨hp2, hp3⟩
   clear hp2 hp3
   have HP : Hid (∀ j, j < c → S' j ≠ w.heap.size ∧ wr.rowIs (S' j) 2 (L j) (fun i => .int .i64 (E j i))) := hp
   clear hp
   by_cases hcn : c < n
   · obtain ⟨A, off, rfl, hA, q0, q1, q2, q3, q4, q5, q6, q7, q8, q9, q10, q11, q12, hrow⟩ := HS.out.step HB c hcn
     have hcI : (c : Int) < n := by omega
     have TL := fun w h => toEvent_any (S c).1 (L c) (S c).2 (E c) (q c).1 (q c).2.1 (q c).2.2 (HL.out c hcn) w h
     have hlr := R.lt
     go_wp2_with fail
     refine (TL _ hrow).mono ?_
     rintro e w1 ⟨g, rfl, hg, RG, hB⟩
     replace R := rowp_step R hB
     have HP2 : Hid (∀ j, j < c → S' j ≠ w.heap.size ∧ w1.rowIs (S' j) 2 (L j) (fun i => .int .i64 (E j i))) := fun j hj => ⟨(HP.out j hj).1, rowp_step (HP.out j hj).2 hB⟩
     replace HB := HB.trans (hB.mono HB.size)
     have o0 := R.cell (i := c * 13) (by omega); have f0 := R.frozen (c * 13); have o1 := R.cell (i := c * 13 + 1) (by omega); have f1 := R.frozen (c * 13 + 1); have o2 := R.cell (i := c * 13 + 2) (by omega); have f2 := R.frozen (c * 13 + 2); have o3 := R.cell (i := c * 13 + 3) (by omega); have f3 := R.frozen (c * 13 + 3); have o4 := R.cell (i := c * 13 + 4) (by omega); have f4 := R.frozen (c * 13 + 4); have o5 := R.cell (i := c * 13 + 5) (by omega); have f5 := R.frozen (c * 13 + 5); have o6 := R.cell (i := c * 13 + 6) (by omega); have f6 := R.frozen (c * 13 + 6); have o7 := R.cell (i := c * 13 + 7) (by omega); have f7 := R.frozen (c * 13 + 7); have o8 := R.cell (i := c * 13 + 8) (by omega); have f8 := R.frozen (c * 13 + 8); have o9 := R.cell (i := c * 13 + 9) (by omega); have f9 := R.frozen (c * 13 + 9); have o10 := R.cell (i := c * 13 + 10) (by omega); have f10 := R.frozen (c * 13 + 10); have o11 := R.cell (i := c * 13 + 11) (by omega); have f11 := R.frozen (c * 13 + 11); have o12 := R.cell (i := c * 13 + 12) (by omega); have f12 := R.frozen (c * 13 + 12)
     have RN := cpe_step (g := g) R
     have hgw : g ≠ w.heap.size := by omega
     have HPWN : Hid ((∀ j, j < (c + 1) → w.heap.size ≤ (fun j => if j = c then g else S' j) j) ∧ (∀ i j, i < (c + 1) → j < (c + 1) → i ≠ j → (fun j => if j = c then g else S' j) i ≠ (fun j => if j = c then g else S' j) j)) := by
       have lt : ∀ j, j < c → S' j < wr.heap.size := fun j hj => (HP.out j hj).2.lt
       refine ⟨fun j hj => ?_, fun i j hi hj hij => ?_⟩
       · dsimp only
         split
         · omega
         · exact HPW.out.1 j (by omega)
       · dsimp only
         split
         · rw [if_neg (by omega)]; have := lt j (by omega); omega
         · split
           · have := lt i (by omega); omega
           · exact HPW.out.2 i j (by omega) (by omega) hij
     have HPN : Hid (∀ j, j < c + 1 → (fun j => if j = c then g else S' j) j ≠ w.heap.size ∧ (((((((((((((w1.setCell ⟨w.heap.size, c * 13, none⟩ (.int .u64 (ww3 (q c).1))).setCell ⟨w.heap.size, c * 13 + 1, none⟩ (.int .u64 (ww2 (q c).1))).setCell ⟨w.heap.size, c * 13 + 2, none⟩ (.int .u64 (ww1 (q c).1))).setCell ⟨w.heap.size, c * 13 + 3, none⟩ (.int .u64 (ww0 (q c).1))).setCell ⟨w.heap.size, c * 13 + 4, none⟩ (.int .u64 (ww3 (q c).2.1))).setCell ⟨w.heap.size, c * 13 + 5, none⟩ (.int .u64 (ww2 (q c).2.1))).setCell ⟨w.heap.size, c * 13 + 6, none⟩ (.int .u64 (ww1 (q c).2.1))).setCell ⟨w.heap.size, c * 13 + 7, none⟩ (.int .u64 (ww0 (q c).2.1))).setCell ⟨w.heap.size, c * 13 + 8, none⟩ (.int .u64 (ww3 (q c).2.2))).setCell ⟨w.heap.size, c * 13 + 9, none⟩ (.int .u64 (ww2 (q c).2.2))).setCell ⟨w.heap.size, c * 13 + 10, none⟩ (.int .u64 (ww1 (q c).2.2))).setCell ⟨w.heap.size, c * 13 + 11, none⟩ (.int .u64 (ww0 (q c).2.2))).setCell ⟨w.heap.size, c * 13 + 12, none⟩ (.slice (some ⟨g, 0, none⟩) (L c) (L c))).rowIs ((fun j => if j = c then g else S' j) j) 2 (L j) (fun i => .int .i64 (E j i))) := fun j hj => by
       by_cases h : j = c
       · subst h
         dsimp only
         rw [if_pos rfl]
         exact ⟨hgw, otherE hgw RG⟩
       · dsimp only
         rw [if_neg h]
         have := HP2.out j (by omega)
         exact ⟨this.1, otherE this.1 this.2⟩
     have HN : Below w.heap.size w (((((((((((((w1.setCell ⟨w.heap.size, c * 13, none⟩ (.int .u64 (ww3 (q c).1))).setCell ⟨w.heap.size, c * 13 + 1, none⟩ (.int .u64 (ww2 (q c).1))).setCell ⟨w.heap.size, c * 13 + 2, none⟩ (.int .u64 (ww1 (q c).1))).setCell ⟨w.heap.size, c * 13 + 3, none⟩ (.int .u64 (ww0 (q c).1))).setCell ⟨w.heap.size, c * 13 + 4, none⟩ (.int .u64 (ww3 (q c).2.1))).setCell ⟨w.heap.size, c * 13 + 5, none⟩ (.int .u64 (ww2 (q c).2.1))).setCell ⟨w.heap.size, c * 13 + 6, none⟩ (.int .u64 (ww1 (q c).2.1))).setCell ⟨w.heap.size, c * 13 + 7, none⟩ (.int .u64 (ww0 (q c).2.1))).setCell ⟨w.heap.size, c * 13 + 8, none⟩ (.int .u64 (ww3 (q c).2.2))).setCell ⟨w.heap.size, c * 13 + 9, none⟩ (.int .u64 (ww2 (q c).2.2))).setCell ⟨w.heap.size, c * 13 + 10, none⟩ (.int .u64 (ww1 (q c).2.2))).setCell ⟨w.heap.size, c * 13 + 11, none⟩ (.int .u64 (ww0 (q c).2.2))).setCell ⟨w.heap.size, c * 13 + 12, none⟩ (.slice (some ⟨g, 0, none⟩) (L c) (L c))) := belowe (Nat.le_refl _) HB
     clear hB q0 q1 q2 q3 q4 q5 q6 q7 q8 q9 q10 q11 q12 hrow hA R HB RG HP HP2 TL hlr hg hgw
     go_wp2
     go_roundw
     case rel => exact ⟨c + 1, _, by omega, by go_num, RN, HPN.out, HPWN.out.1, HPWN.out.2, HN⟩
     case measure => simp [intOf]; omega
   · obtain rfl : c = n := by omega
     have LI : Hid (EvRow wr w.heap.size wr.heap.size (.slice (some ⟨w.heap.size, 0, none⟩) c c) c (wq q) (fun i => .slice (some ⟨S' i, 0, none⟩) (L i) (L i)) L E) := by
       refine .inr ⟨w.heap.size, c, _, rfl, Nat.le_refl _, R.lt, Nat.le_refl _, R, fun k hk => ?_, fun i hi => .inr ⟨S' i, L i, _, rfl, HPW.out.1 i hi, (HP.out i hi).2.lt, Nat.le_refl _, (HP.out i hi).2, fun _ _ => rfl⟩, fun i hi e => ?_, fun i j hi hj hij h e1 e2 => ?_⟩
       · unfold cpV
         rw [if_pos hk, evV_evC]
       · have e2 : some (S' i) = some w.heap.size := e
         exact (HP.out i hi).1 (Option.some.inj e2)
       · have e3 : some (S' i) = some h := e1
         have e4 : some (S' j) = some h := e2
         exact HPW.out.2 i j hi hj hij ((Option.some.inj e3).trans (Option.some.inj e4).symm)
     clear R HS HP HL HPW
     go_wp2
     go_ret
     exact ⟨_, _, rfl, LI.out, HB⟩
theorem szNoE_any (ao : Option Addr) (m cap : Nat) (l : Int) (h0 : 0 ≤ l) (h1 : l ≤ 1048576) (hm : m ≤ 9223372036854775807) (w : World) : Calls Tryz.prog 66 #[.slice ao m cap, .int .i64 l] w (VP (.int .i64 (if (m : Int) ≤ l then l - m else -1)) w) := by
 have hmI : (m : Int) ≤ 9223372036854775807 := by omega
 by_cases h : (m : Int) ≤ l
 · rw [if_pos h]
   go_enter Tryz.func66, Tryz.ntmps66
   go_wp2
   go_ret
   exact ⟨rfl, Below.refl _ _⟩
 · rw [if_neg h]
   have h' : l < (m : Int) := by omega
   go_enter Tryz.func66, Tryz.ntmps66
   go_wp2
   go_ret
   exact ⟨rfl, Below.refl _ _⟩
theorem szEvent_any (ao : Option Addr) (m cap : Nat) (x y z : Int) (l : Int) (h0 : 0 ≤ l) (h1 : l ≤ 1048576) (hm : m ≤ 9223372036854775807) (w : World) : Calls Tryz.prog 32 #[.agg #[.int .u64 (ww3 x), .int .u64 (ww2 x), .int .u64 (ww1 x), .int .u64 (ww0 x), .int .u64 (ww3 y), .int .u64 (ww2 y), .int .u64 (ww1 y), .int .u64 (ww0 y), .int .u64 (ww3 z), .int .u64 (ww2 z), .int .u64 (ww1 z), .int .u64 (ww0 z), .slice ao m cap], .int .i64 l] w (VP (.int .i64 (if (m : Int) ≤ l then l - m else -1)) w) := by
 have HB : Below w.heap.size w (w.alloc (.cells #[.int .u64 (ww3 x), .int .u64 (ww2 x), .int .u64 (ww1 x), .int .u64 (ww0 x), .int .u64 (ww3 y), .int .u64 (ww2 y), .int .u64 (ww1 y), .int .u64 (ww0 y), .int .u64 (ww3 z), .int .u64 (ww2 z), .int .u64 (ww1 z), .int .u64 (ww0 z), .slice ao m cap] 75)) := (Below.refl _ w).alloc (Nat.le_refl _) _
 have B0 := Blk.new w [.int .u64 (ww3 x), .int .u64 (ww2 x), .int .u64 (ww1 x), .int .u64 (ww0 x), .int .u64 (ww3 y), .int .u64 (ww2 y), .int .u64 (ww1 y), .int .u64 (ww0 y), .int .u64 (ww3 z), .int .u64 (ww2 z), .int .u64 (ww1 z), .int .u64 (ww0 z), .slice ao m cap] 75 rfl
 have SP := szNoE_any ao m cap l h0 h1 hm
 go_enter Tryz.func32, Tryz.ntmps32
 have b0 := B0.c 12 rfl
 by_cases h : (m : Int) ≤ l
 · rw [if_pos h] at SP ⊢
   go_wp2_with fail
   refine (SP _).mono ?_
   rintro e w1 ⟨rfl, hB⟩
   replace HB := HB.trans (hB.mono HB.size)
   clear hB SP B0 b0
   have h2 : 0 ≤ l - (m : Int) := by omega
   go_wp2
   go_ret
   exact ⟨rfl, HB⟩
 · rw [if_neg h] at SP ⊢
   go_wp2_with fail
   refine (SP _).mono ?_
   rintro e w1 ⟨rfl, hB⟩
   replace HB := HB.trans (hB.mono HB.size)
   clear hB SP B0 b0
   go_wp2
   go_ret
   exact ⟨rfl, HB⟩
def SzE (n : Nat) (L : Nat → Nat) (w : World) (e : Ending) (w' : World) : Prop := ∃ z : Int, e = .returned (.int .i64 z) ∧ -1 ≤ z ∧ z ≤ 1048576 ∧ (0 ≤ z → n ≤ 1048576 ∧ ∀ i, i < n → L i ≤ 1048576) ∧ Below w.heap.size w w'
theorem szEventS_any (ao : Option Addr) (n cap : Nat) (q : Nat → Int × Int × Int) (S : Nat → Option Addr × Nat) (L : Nat → Nat) (E : Nat → Nat → Int) (hn : n ≤ 9223372036854775807) (hL : ∀ i, i < n → L i ≤ 9223372036854775807) (w : World) (hS : EvIn w ao n q S L E) : Calls Tryz.prog 15 #[.slice ao n cap, .int .i64 1048576] w (SzE n L w) := by
 have hnI : (n : Int) ≤ 9223372036854775807 := by omega
 by_cases h : n ≤ 1048576
 · have h' : (n : Int) ≤ 1048576 := by omega
   have HS : Hid (EvIn w ao n q S L E) := hS
   have HL : Hid (∀ i, i < n → L i ≤ 9223372036854775807) := hL
   clear hS hL
   go_enter Tryz.func15, Tryz.ntmps15
   go_wp2_with fail
   go_loopw [1, 5] (fun s i wr => ∃ (c : Nat) (l : Int), c ≤ n ∧ i = .int .i64 c ∧ s = .int .i64 l ∧ 0 ≤ l ∧ l ≤ 1048576 ∧ (∀ j, j < c → L j ≤ 1048576) ∧ Below w.heap.size w wr) (fun _ i _ => n - (intOf i).toNat)
   case atStart => exact ⟨0, _, by omega, rfl, rfl, by omega, by omega, fun j hj => by omega, Below.refl _ _⟩
   case round =>
     obtain ⟨c, l, hc, rfl, rfl, l0, l1, hall, HB⟩ := hrel
     have HA : Hid (∀ j, j < c → L j ≤ 1048576) := hall
     clear hall
     by_cases hcn : c < n
     · obtain ⟨A, off, rfl, hA, q0, q1, q2, q3, q4, q5, q6, q7, q8, q9, q10, q11, q12, -⟩ := HS.out.step HB c hcn
       have hcI : (c : Int) < n := by omega
       have SL := szEvent_any (S c).1 (L c) (S c).2 (q c).1 (q c).2.1 (q c).2.2 l l0 l1 (HL.out c hcn)
       go_wp2_with fail
       refine (SL _).mono ?_
       rintro e w1 ⟨rfl, hB⟩
       replace HB := HB.trans (hB.mono HB.size)
       clear hB SL q0 q1 q2 q3 q4 q5 q6 q7 q8 q9 q10 q11 q12 hA
       by_cases hl : (L c : Int) ≤ l
       · rw [if_pos hl]
         have hl2 : 0 ≤ l - (L c : Int) := by omega
         go_wp2
         go_roundw
         case rel => exact ⟨c + 1, _, by omega, by go_num, rfl, by omega, by omega, fun j hj => by
           rcases Nat.lt_or_ge j c with h | h
           · exact HA.out j h
           · obtain rfl : j = c := by omega
             omega, HB⟩
         case measure => simp [intOf]; omega
       · rw [if_neg hl]
         go_wp2
         go_ret
         exact ⟨-1, rfl, by omega, by omega, fun h => by omega, HB⟩
     · obtain rfl : c = n := by omega
       clear HS HL
       go_wp2
       go_ret
       exact ⟨l, rfl, by omega, l1, fun _ => ⟨h, HA.out⟩, HB⟩
 · have h' : (1048576 : Int) < n := by omega
   clear hS hL
   go_enter Tryz.func15, Tryz.ntmps15
   go_wp2
   go_ret
   exact ⟨-1, rfl, by omega, by omega, fun h => by omega, Below.refl _ _⟩
theorem lawPut_any (ao : Option Addr) (n cap : Nat) (q : Nat → Int × Int × Int) (S : Nat → Option Addr × Nat) (L : Nat → Nat) (E : Nat → Nat → Int) (p : Int × Int × Int) (x : Int) (hn : n ≤ 9223372036854775807) (hL : ∀ i, i < n → L i ≤ 9223372036854775807) (hT : ∀ i, i < n → told (q i).1 = true ∧ told (q i).2.1 = true ∧ told (q i).2.2 = true) (hp : told p.1 = true ∧ told p.2.1 = true ∧ told p.2.2 = true) (w : World) (hS : EvIn w ao n q S L E) : Calls Tryz.prog 4 #[.slice ao n cap, PV p.1 p.2.1 p.2.2, .int .i64 x] w (BoolP true w) := by
 have B0 : Blk (w.alloc (.cells #[.int .u64 (ww3 p.1), .int .u64 (ww2 p.1), .int .u64 (ww1 p.1), .int .u64 (ww0 p.1), .int .u64 (ww3 p.2.1), .int .u64 (ww2 p.2.1), .int .u64 (ww1 p.2.1), .int .u64 (ww0 p.2.1), .int .u64 (ww3 p.2.2), .int .u64 (ww2 p.2.2), .int .u64 (ww1 p.2.2), .int .u64 (ww0 p.2.2)] 27)) w.heap.size [.int .u64 (ww3 p.1), .int .u64 (ww2 p.1), .int .u64 (ww1 p.1), .int .u64 (ww0 p.1), .int .u64 (ww3 p.2.1), .int .u64 (ww2 p.2.1), .int .u64 (ww1 p.2.1), .int .u64 (ww0 p.2.1), .int .u64 (ww3 p.2.2), .int .u64 (ww2 p.2.2), .int .u64 (ww1 p.2.2), .int .u64 (ww0 p.2.2)] := Blk.new w [.int .u64 (ww3 p.1), .int .u64 (ww2 p.1), .int .u64 (ww1 p.1), .int .u64 (ww0 p.1), .int .u64 (ww3 p.2.1), .int .u64 (ww2 p.2.1), .int .u64 (ww1 p.2.1), .int .u64 (ww0 p.2.1), .int .u64 (ww3 p.2.2), .int .u64 (ww2 p.2.2), .int .u64 (ww1 p.2.2), .int .u64 (ww0 p.2.2)] 27 rfl
 have HB0 : Below w.heap.size w (w.alloc (.cells #[.int .u64 (ww3 p.1), .int .u64 (ww2 p.1), .int .u64 (ww1 p.1), .int .u64 (ww0 p.1), .int .u64 (ww3 p.2.1), .int .u64 (ww2 p.2.1), .int .u64 (ww1 p.2.1), .int .u64 (ww0 p.2.1), .int .u64 (ww3 p.2.2), .int .u64 (ww2 p.2.2), .int .u64 (ww1 p.2.2), .int .u64 (ww0 p.2.2)] 27)) := (Below.refl _ w).alloc (Nat.le_refl _) _
 replace hS := hS.step HB0
 have SZ := szEventS_any ao n cap q S L E hn hL (w.alloc (.cells #[.int .u64 (ww3 p.1), .int .u64 (ww2 p.1), .int .u64 (ww1 p.1), .int .u64 (ww0 p.1), .int .u64 (ww3 p.2.1), .int .u64 (ww2 p.2.1), .int .u64 (ww1 p.2.1), .int .u64 (ww0 p.2.1), .int .u64 (ww3 p.2.2), .int .u64 (ww2 p.2.2), .int .u64 (ww1 p.2.2), .int .u64 (ww0 p.2.2)] 27)) hS
 go_enter Tryz.func4, Tryz.ntmps4
 go_wp2_with fail
 generalize (w.alloc (.cells #[.int .u64 (ww3 p.1), .int .u64 (ww2 p.1), .int .u64 (ww1 p.1), .int .u64 (ww0 p.1), .int .u64 (ww3 p.2.1), .int .u64 (ww2 p.2.1), .int .u64 (ww1 p.2.1), .int .u64 (ww0 p.2.1), .int .u64 (ww3 p.2.2), .int .u64 (ww2 p.2.2), .int .u64 (ww1 p.2.2), .int .u64 (ww0 p.2.2)] 27)) = W1 at *
 have HS : Hid (EvIn W1 ao n q S L E) := hS
 clear hS
 refine SZ.mono ?_
 rintro e w2 ⟨z, rfl, z0, z1, hz, hB⟩
 have HB := hB
 clear hB SZ hL hn
 by_cases hz0 : 0 ≤ z
 · obtain ⟨hn, hL⟩ := hz hz0
   have T1 := fun w => toEventS_any ao n cap q S L E hn hL w
   have TO := fun w => toEvO_any ao n cap q S L E hn hL w
   have TP := toPoint_det p.1 p.2.1 p.2.2
   obtain ⟨ok, N, Q, L2, E2, hR⟩ := putTo_ex n q L E p x
   obtain ⟨hN, hL2⟩ := hR.len
   have SP := fun g S w h => specPut_any (some ⟨g, 0, none⟩) n n q S L E p x w h hn hT hL hp ok N Q L2 E2 hR
   have IM := fun ao S w h => implPut_any ao n n q S L E p x w h hn hT hL hp ok N Q L2 E2 hR
   have IM2 := fun g S w h => implPut_any (some ⟨g, 0, none⟩) n n q S L E p x w h hn hT hL hp ok N Q L2 E2 hR
   have EQ := fun ao bo S S' w h h' => eqEventS_any ao bo n n n q S S' L E hn hL w h h'
   have EQ1 := fun ao' bo' ca cb Sa Sb w h h' => eqEventS_any ao' bo' N ca cb Q Sa Sb L2 E2 hN hL2 w h h'
   clear hz hR hT hp
   go_upto_region 5 with fail
   have BP := B0.step HB
   have hPl : w.heap.size < w2.heap.size := BP.lt
   refine pwA (n := n) (cap := cap) (ao := ao) (qf := q) (Lf := L) (Ef := E) (px := p.1) (py := p.2.1) (pz := p.2.2) (xx := x) (okn := ok) (Nn := N) (Qn := Q) (Ln := L2) (En := E2) (P := w.heap.size) (Sf := S) (HS.out.step HB) T1 SP rfl rfl rfl (BP.c 0 rfl) hPl (BP.c 1 rfl) hPl (BP.c 2 rfl) hPl (BP.c 3 rfl) hPl (BP.c 4 rfl) hPl (BP.c 5 rfl) hPl (BP.c 6 rfl) hPl (BP.c 7 rfl) hPl (BP.c 8 rfl) hPl (BP.c 9 rfl) hPl (BP.c 10 rfl) hPl (BP.c 11 rfl) hPl rfl ?_
   rintro ⟨tm, df⟩ w3 hz hdf hoff R3 hok hB
   simp only at hz hdf hoff hok
   change tm.getD 9 undef = .bool ok at hok
   change RowE _ N Q L2 E2 (tm.getD 8 undef) w3 at R3
   subst hdf
   generalize h8 : tm.getD 8 undef = vv at R3
   have htm := tmps_fold [24, 25, 26, 27, 28, 29, 23, 30, 31, 8, 9] tm _ hz hoff
   simp only [List.foldl, List.setIfInBounds_toArray, List.set_cons_zero, List.set_cons_succ, h8, hok] at htm
   clear hz hoff
   generalize tm.getD 24 undef = u0, tm.getD 25 undef = u1, tm.getD 26 undef = u2, tm.getD 27 undef = u3, tm.getD 28 undef = u4, tm.getD 29 undef = u5, tm.getD 23 undef = u6, tm.getD 30 undef = u7, tm.getD 31 undef = u8 at htm
   clear h8 hok
   subst htm
   clear BP hPl
   replace HB := HB.trans (hB.mono HB.size)
   obtain ⟨s3, t3, ht3, V3⟩ := R3
   obtain ⟨vo, vc, rfl, VI3⟩ := V3.in
   clear hB V3
   have H3 := Below.refl w3.heap.size w3
   have hw3 : W1.heap.size ≤ w3.heap.size := HB.size
   go_wp2_with fail
   refine (TO _ (HS.out.step HB)).mono ?_
   rintro e w4 ⟨g2, s2, rfl, X, hB⟩
   replace HB := HB.trans (hB.mono HB.size)
   replace H3 := H3.trans (hB.mono H3.size)
   clear hB
   have h3t : w3.heap.size ≤ w4.heap.size := H3.size
   obtain ⟨t0, ht0⟩ : ∃ t0, t0 = w4.heap.size := ⟨_, rfl⟩
   have h30 : w3.heap.size ≤ t0 := by omega
   rw [← ht0] at X
   have MX := fun w h => markEvS_any (.slice (some ⟨g2, 0, none⟩) n n) n w3.heap.size t0 1 (wq q) s2 L E hn hL (by decide) w h
   rw [show ((1 : Nat) : Int) = 1 from rfl] at MX
   have hkx : ¬ ((mkK 1 L n : Int) < 0) := by omega
   have BP := B0.step HB
   have m0 := BP.c 0 rfl; have m1 := BP.c 1 rfl; have m2 := BP.c 2 rfl; have m3 := BP.c 3 rfl; have m4 := BP.c 4 rfl; have m5 := BP.c 5 rfl; have m6 := BP.c 6 rfl; have m7 := BP.c 7 rfl; have m8 := BP.c 8 rfl; have m9 := BP.c 9 rfl; have m10 := BP.c 10 rfl; have m11 := BP.c 11 rfl
   clear BP
   go_wp2_with fail
   refine (TP _).mono ?_
   rintro e w5 ⟨rfl, hB⟩
   replace HB := HB.trans (hB.mono HB.size)
   replace H3 := H3.trans (hB.mono H3.size)
   replace X := X.step hB
   have ht5 : t0 ≤ w5.heap.size := by rw [ht0]; exact hB.size
   clear hB ht0 m0 m1 m2 m3 m4 m5 m6 m7 m8 m9 m10 m11
   obtain ⟨x4, x4c, x4e, XI⟩ := X.in
   cases x4e
   go_wp2_with fail
   refine (IM _ _ _ XI).mono ?_
   rintro e w6 ⟨v, s5, rfl, V, hB⟩
   replace HB := HB.trans (hB.mono HB.size)
   replace H3 := H3.trans (hB.mono H3.size)
   replace X := X.step hB
   clear hB XI
   obtain ⟨yo, yc, rfl, _⟩ := V.in
   obtain ⟨t1, ht1⟩ : ∃ t1, t1 = w5.heap.size := ⟨_, rfl⟩
   obtain ⟨t2, ht2⟩ : ∃ t2, t2 = w6.heap.size := ⟨_, rfl⟩
   rw [← ht1] at V ht5
   rw [← ht2] at V
   have ht2l : t2 ≤ w6.heap.size := by omega
   clear ht1 ht2
   have MV := fun w h => markEvS_any (.slice yo N yc) N t1 t2 1 (wq Q) s5 L2 E2 hN hL2 (by decide) w h
   have HV := fun w h => heldEvS_any (.slice yo N yc) N t1 t2 1 s5 L2 hN hL2 (by decide) w h
   rw [show ((1 : Nat) : Int) = 1 from rfl] at MV HV
   have hk2 : ¬ ((mkK 1 L2 N : Int) < 0) := by omega
   obtain ⟨_, _, e1, NV⟩ := V.in
   cases e1
   go_wp2_with fail
   refine (EQ1 _ _ _ _ _ _ _ NV (VI3.step H3)).mono ?_
   rintro e w7 ⟨rfl, hB⟩
   replace HB := HB.trans (hB.mono HB.size)
   replace H3 := H3.trans (hB.mono H3.size)
   replace X := X.step hB
   replace V := V.step hB
   clear hB NV
   go_wp2_with fail
   refine (T1 _ (HS.out.step HB)).mono ?_
   rintro e w8 ⟨g8, S8, rfl, R8, hB⟩
   replace HB := HB.trans (hB.mono HB.size)
   replace H3 := H3.trans (hB.mono H3.size)
   replace X := X.step hB
   replace V := V.step hB
   clear hB
   obtain ⟨x4, x4c, x4e, XI⟩ := X.in
   cases x4e
   go_wp2_with fail
   refine (EQ _ _ _ _ _ XI R8).mono ?_
   rintro e w9 ⟨rfl, hB⟩
   replace HB := HB.trans (hB.mono HB.size)
   replace H3 := H3.trans (hB.mono H3.size)
   replace X := X.step hB
   replace V := V.step hB
   clear hB XI R8
   go_wp2_with fail
   refine (MX _ X).mono ?_
   rintro e w10 ⟨rfl, _, hM⟩
   replace V := V.heap (fun k h1 _ h3 => hM.2 k (by omega) h3)
   replace HB := HB.trans (hM.1.mono (by omega))
   replace H3 := H3.trans (hM.1.mono (by omega))
   clear hM X MX
   obtain ⟨_, _, e1, NV⟩ := V.in
   cases e1
   go_wp2_with fail
   refine (EQ1 _ _ _ _ _ _ _ NV (VI3.step H3)).mono ?_
   rintro e w11 ⟨rfl, hB⟩
   replace HB := HB.trans (hB.mono HB.size)
   replace H3 := H3.trans (hB.mono H3.size)
   replace V := V.step hB
   clear hB NV
   go_wp2_with fail
   refine (MV _ V).mono ?_
   rintro e w12 ⟨rfl, V2, hM⟩
   replace HB := HB.trans (hM.1.mono (by omega))
   replace H3 := H3.trans (hM.1.mono (by omega))
   clear hM V MV
   go_wp2_with fail
   refine (HV _ V2).mono ?_
   rintro e w13 ⟨rfl, hB⟩
   replace HB := HB.trans (hB.mono HB.size)
   replace H3 := H3.trans (hB.mono H3.size)
   replace V2 := V2.step hB
   clear hB
   go_upto_region 24 with fail
   have BP := B0.step HB
   have hPl : w.heap.size < w13.heap.size := BP.lt
   refine pwB (n := n) (cap := cap) (ao := ao) (qf := q) (Lf := L) (Ef := E) (px := p.1) (py := p.2.1) (pz := p.2.2) (xx := x) (okn := ok) (Nn := N) (Qn := Q) (Ln := L2) (En := E2) (P := w.heap.size) (Sf := S) (HS.out.step HB) T1 IM2 rfl rfl rfl (BP.c 0 rfl) hPl (BP.c 1 rfl) hPl (BP.c 2 rfl) hPl (BP.c 3 rfl) hPl (BP.c 4 rfl) hPl (BP.c 5 rfl) hPl (BP.c 6 rfl) hPl (BP.c 7 rfl) hPl (BP.c 8 rfl) hPl (BP.c 9 rfl) hPl (BP.c 10 rfl) hPl (BP.c 11 rfl) hPl rfl ?_
   rintro ⟨tm, df⟩ wh hz hdf hoff Rh hok hB
   simp only at hz hdf hoff hok
   change tm.getD 17 undef = .bool ok at hok
   change RowE _ N Q L2 E2 (tm.getD 16 undef) wh at Rh
   subst hdf
   generalize h8 : tm.getD 16 undef = vh at Rh
   have htm := tmps_fold [84, 85, 86, 87, 88, 89, 83, 90, 91, 16, 17] tm _ hz hoff
   simp only [List.foldl, List.setIfInBounds_toArray, List.set_cons_zero, List.set_cons_succ, h8, hok] at htm
   clear hz hoff
   generalize tm.getD 84 undef = u0, tm.getD 85 undef = u1, tm.getD 86 undef = u2, tm.getD 87 undef = u3, tm.getD 88 undef = u4, tm.getD 89 undef = u5, tm.getD 83 undef = u6, tm.getD 90 undef = u7, tm.getD 91 undef = u8 at htm
   clear h8 hok
   subst htm
   clear BP hPl
   replace HB := HB.trans (hB.mono HB.size)
   replace H3 := H3.trans (hB.mono H3.size)
   replace V2 := V2.step hB
   obtain ⟨sh, th, _, Vh⟩ := Rh
   obtain ⟨ho, hc, rfl, NV⟩ := Vh.in
   clear hB Vh
   go_wp2_with fail
   refine (EQ1 _ _ _ _ _ _ _ NV (VI3.step H3)).mono ?_
   rintro e w21 ⟨rfl, hB⟩
   replace HB := HB.trans (hB.mono HB.size)
   replace H3 := H3.trans (hB.mono H3.size)
   replace V2 := V2.step hB
   clear hB NV
   go_wp2_with fail
   refine (HV _ V2).mono ?_
   rintro e w22 ⟨rfl, hB⟩
   replace HB := HB.trans (hB.mono HB.size)
   replace H3 := H3.trans (hB.mono H3.size)
   replace V2 := V2.step hB
   clear hB
   go_wp2
   go_ret
   exact ⟨rfl, HB0.trans (HB.mono HB0.size)⟩
 · clear hz hT
   have hz' : z < 0 := by omega
   go_wp2
   go_ret
   exact ⟨rfl, HB0.trans (HB.mono HB0.size)⟩
open Go.ChangeShapes Go.WideShapes Go.ChangeAt Go.RowKit Go.Joins
theorem Tryz.laidOut : laidOutB Tryz.prog = true := by kernel_rfl
theorem Tryz.cellsInt64 : Tryz.prog.cellsOf 2 = 1 := by kernel_rfl
theorem nos_of {H : Type} {enc : TypeId × Value → H} {W : World} {a : Addr} {len m n : Nat} {D : Nat → DataW H} {Pl : Nat → List MemPlace} (hl : len ≤ m)
   (hx : ∀ i, i < m → ∃ cs', W.cells? 0 (a.add (i * Tryz.prog.cellsOf 2)) (Tryz.prog.cellsOf 2) = some cs' ∧ DataW.trod enc Tryz.prog W 0 (fun _ => true) true n 2 cs' = some (D i, Pl i))
   (hlt : ∀ x ∈ MemPlace.row a (m * Tryz.prog.cellsOf 2), x.block < W.heap.size) : ∃ x : Nat → Int, NoIn W (some a) len x := by
 rw [Tryz.cellsInt64] at hx hlt
 have each : ∀ i, i < m → ∃ q : Int, W.cell? (a.add i) = some (.int .i64 q) := by
   intro i hi
   obtain ⟨cs', h1, h2⟩ := hx i hi
   obtain ⟨_, hlen, hcell⟩ := World.cells?_some h1
   match cs', hlen with
   | [v0], _ =>
     have e0 := hcell 0 (by omega)
     rw [Go.Deep.add_add] at e0
     obtain ⟨x, hv, -, -⟩ := DataW.trod_int Tryz.underlying2 h2
     simp at hv
     subst hv
     exact ⟨x, by simpa using e0⟩
 obtain ⟨q, hq⟩ := Go.Deep.choose_lt each
 obtain ⟨ab, ao, spot⟩ := a
 refine ⟨q, fun i hi => ?_⟩
 have hspot : spot = none := by simpa [Addr.add] using World.cell?_spot (hq 0 (by omega))
 subst hspot
 have c0 := hq i (by omega)
 rw [Addr.add_lit] at c0
 exact ⟨ab, ao, rfl, hlt (.cell ab (ao + i)) (by simp only [MemPlace.row, List.mem_map, List.mem_range]; exact ⟨i, by omega, rfl⟩), c0⟩
theorem Tryz.cellsEvent : Tryz.prog.cellsOf 75 = 13 := by kernel_rfl
theorem Tryz.cellsNoS : Tryz.prog.cellsOf 29 = 1 := by kernel_rfl
theorem events_of {H : Type} {enc : TypeId × Value → H} {W : World} {a : Addr} {len m n : Nat} {D : Nat → DataW H} {Pl : Nat → List MemPlace} (hl : len ≤ m)
   (hx : ∀ i, i < m → ∃ cs', W.cells? 0 (a.add (i * Tryz.prog.cellsOf 75)) (Tryz.prog.cellsOf 75) = some cs' ∧ DataW.trod enc Tryz.prog W 0 (fun _ => true) true n 75 cs' = some (D i, Pl i))
   (hlt : ∀ x ∈ MemPlace.row a (m * Tryz.prog.cellsOf 75), x.block < W.heap.size) (hlt2 : ∀ i, i < m → ∀ x ∈ Pl i, x.block < W.heap.size) : ∃ (q : Nat → Int × Int × Int) (S : Nat → Option Addr × Nat) (L : Nat → Nat) (E : Nat → Nat → Int), EvIn W (some a) len q S L E ∧ (∀ i, i < len → told (q i).1 = true ∧ told (q i).2.1 = true ∧ told (q i).2.2 = true) ∧ ∀ i, i < len → L i ≤ 9223372036854775807 := by
 rw [Tryz.cellsEvent] at hx hlt
 have each : ∀ i, i < m → ∃ r : (Int × Int × Int) × (Option Addr × Nat) × Nat × (Nat → Int), (told r.1.1 = true ∧ told r.1.2.1 = true ∧ told r.1.2.2 = true) ∧ r.2.2.1 ≤ 9223372036854775807 ∧ NoIn W r.2.1.1 r.2.2.1 r.2.2.2 ∧ W.cell? (a.add (i * 13)) = some (.int .u64 (ww3 r.1.1)) ∧ W.cell? (a.add (i * 13 + 1)) = some (.int .u64 (ww2 r.1.1)) ∧ W.cell? (a.add (i * 13 + 2)) = some (.int .u64 (ww1 r.1.1)) ∧ W.cell? (a.add (i * 13 + 3)) = some (.int .u64 (ww0 r.1.1)) ∧ W.cell? (a.add (i * 13 + 4)) = some (.int .u64 (ww3 r.1.2.1)) ∧ W.cell? (a.add (i * 13 + 5)) = some (.int .u64 (ww2 r.1.2.1)) ∧ W.cell? (a.add (i * 13 + 6)) = some (.int .u64 (ww1 r.1.2.1)) ∧ W.cell? (a.add (i * 13 + 7)) = some (.int .u64 (ww0 r.1.2.1)) ∧ W.cell? (a.add (i * 13 + 8)) = some (.int .u64 (ww3 r.1.2.2)) ∧ W.cell? (a.add (i * 13 + 9)) = some (.int .u64 (ww2 r.1.2.2)) ∧ W.cell? (a.add (i * 13 + 10)) = some (.int .u64 (ww1 r.1.2.2)) ∧ W.cell? (a.add (i * 13 + 11)) = some (.int .u64 (ww0 r.1.2.2)) ∧ W.cell? (a.add (i * 13 + 12)) = some (.slice r.2.1.1 r.2.2.1 r.2.1.2) := by
   intro i hi
   obtain ⟨cs', h1, h2⟩ := hx i hi
   obtain ⟨_, hlen, hcell⟩ := World.cells?_some h1
   match cs', hlen with
   | [v0, v1, v2, v3, v4, v5, v6, v7, v8, v9, v10, v11, v12], _ =>
     have e0 := hcell 0 (by omega); have e1 := hcell 1 (by omega); have e2 := hcell 2 (by omega); have e3 := hcell 3 (by omega); have e4 := hcell 4 (by omega); have e5 := hcell 5 (by omega); have e6 := hcell 6 (by omega); have e7 := hcell 7 (by omega); have e8 := hcell 8 (by omega); have e9 := hcell 9 (by omega); have e10 := hcell 10 (by omega); have e11 := hcell 11 (by omega); have e12 := hcell 12 (by omega)
     rw [Go.Deep.add_add] at e0 e1 e2 e3 e4 e5 e6 e7 e8 e9 e10 e11 e12
     obtain ⟨y0, y1, k, hy, _, g0, g1⟩ := trod_struct2 Tryz.underlying75 h2
     simp [Tryz.cellsPoint, Tryz.cellsNoS] at g0 g1
     obtain ⟨z0, z1, z2, k2, hz, _, k0, k1, k3⟩ := Go.Deep.trod_struct3 Tryz.underlying27 g0
     simp [Tryz.cells28] at k0 k1 k3
     obtain ⟨x, tx, rfl, rfl, rfl, rfl, -⟩ := trod_wide k0
     obtain ⟨y, ty, rfl, rfl, rfl, rfl, -⟩ := trod_wide k1
     obtain ⟨z, tz, rfl, rfl, rfl, rfl, -⟩ := trod_wide k3
     have hpl : Pl i = y0.2 ++ y1.2 := by have := congrArg Prod.snd hy; simpa using this
     rcases Go.Deep.open_slice Tryz.underlying29 g1 with ⟨hcs, -⟩ | ⟨a', len', cap', m', n', D', Pl', hcs, _, hl', hm', hz', hx', hel'⟩
     · simp at hcs
       subst hcs
       exact ⟨((x, y, z), (none, 0), 0, fun _ => 0), ⟨tx, ty, tz⟩, Nat.zero_le _, fun i hi => absurd hi (Nat.not_lt_zero _), by simpa using e0, by simpa using e1, by simpa using e2, by simpa using e3, by simpa using e4, by simpa using e5, by simpa using e6, by simpa using e7, by simpa using e8, by simpa using e9, by simpa using e10, by simpa using e11, by simpa using e12⟩
     · simp at hcs
       subst hcs
       simp only [if_true] at hz'
       have hb : ∀ x ∈ MemPlace.row a' (m' * Tryz.prog.cellsOf 2), x.block < W.heap.size := fun x hxx => hlt2 i hi x (by
         rw [hpl, hx']
         exact List.mem_append_right _ (List.mem_append_left _ hxx))
       obtain ⟨q, hq⟩ := nos_of (len := len') (by omega) hel' hb
       exact ⟨((x, y, z), (some a', cap'), len', q), ⟨tx, ty, tz⟩, by have := hm'; simp [maxLen] at this; show len' ≤ _; omega, hq, by simpa using e0, by simpa using e1, by simpa using e2, by simpa using e3, by simpa using e4, by simpa using e5, by simpa using e6, by simpa using e7, by simpa using e8, by simpa using e9, by simpa using e10, by simpa using e11, by simpa using e12⟩
 obtain ⟨r, hr⟩ := Go.Deep.choose_lt each
 obtain ⟨ab, ao, spot⟩ := a
 refine ⟨fun i => (r i).1, fun i => (r i).2.1, fun i => (r i).2.2.1, fun i => (r i).2.2.2, fun i hi => ?_, fun i hi => (hr i (by omega)).1, fun i hi => (hr i (by omega)).2.1⟩
 have hspot : spot = none := by simpa [Addr.add] using World.cell?_spot (hr 0 (by omega)).2.2.2.1
 subst hspot
 obtain ⟨-, -, hp, c0, c1, c2, c3, c4, c5, c6, c7, c8, c9, c10, c11, c12⟩ := hr i (by omega)
 rw [Addr.add_lit] at c0 c1 c2 c3 c4 c5 c6 c7 c8 c9 c10 c11 c12
 exact ⟨ab, ao, rfl, hlt (.cell ab (ao + i * 13)) (by simp only [MemPlace.row, List.mem_map, List.mem_range]; exact ⟨i * 13, by omega, rfl⟩), by simpa [Nat.add_assoc] using c0, by simpa [Nat.add_assoc] using c1, by simpa [Nat.add_assoc] using c2, by simpa [Nat.add_assoc] using c3, by simpa [Nat.add_assoc] using c4, by simpa [Nat.add_assoc] using c5, by simpa [Nat.add_assoc] using c6, by simpa [Nat.add_assoc] using c7, by simpa [Nat.add_assoc] using c8, by simpa [Nat.add_assoc] using c9, by simpa [Nat.add_assoc] using c10, by simpa [Nat.add_assoc] using c11, by simpa [Nat.add_assoc] using c12, hp⟩
theorem open_events {H : Type} {enc : TypeId × Value → H} {W : World} {base : Nat} {v : Value} {d : DataW H} {pl : List MemPlace} (ok : Value.okWide Tryz.prog W .any base 42 v) (h : DataW.Trod enc Tryz.prog W 0 (fun _ => true) true 42 v d pl) (hlt : ∀ x ∈ pl, x.block < W.heap.size) :
   ∃ ao n cap S L q x, v = .slice ao n cap ∧ n ≤ 9223372036854775807 ∧ (∀ i, i < n → L i ≤ 9223372036854775807) ∧ (∀ i, i < n → told (q i).1 = true ∧ told (q i).2.1 = true ∧ told (q i).2.2 = true) ∧ EvIn W ao n q S L x := by
 obtain ⟨a0, len, cap, rfl⟩ := okWide_slice Tryz.underlying42 ok
 obtain ⟨fuel, hf⟩ := h
 rcases Go.Deep.open_slice Tryz.underlying42 hf with ⟨hcs, hx⟩ | ⟨a, len', cap', m, n, D, Pl, hcs, _, hl, hm, hz, hx, hel⟩
 · simp [Value.cells] at hcs
   obtain ⟨rfl, rfl, rfl⟩ := hcs
   exact ⟨none, 0, 0, fun _ => (none, 0), fun _ => 0, fun _ => (0, 0, 0), fun _ _ => 0, rfl, by omega, fun i hi => by omega, fun i hi => by omega, fun i hi => by omega⟩
 · simp [Value.cells] at hcs
   obtain ⟨rfl, rfl, rfl⟩ := hcs
   simp only [Prod.mk.injEq] at hx
   obtain ⟨rfl, rfl⟩ := hx
   simp only [if_true] at hz
   obtain ⟨q, S, L, E, hS, hT, hL⟩ := events_of (len := len) (by omega) hel (fun y hy => hlt y (List.mem_append_left _ hy)) (fun i hi y hy => hlt y (List.mem_append_right _ (List.mem_flatMap.2 ⟨i, List.mem_range.2 hi, hy⟩)))
   exact ⟨some a, len, cap, S, L, q, E, rfl, by have := hm; simp [maxLen] at this; omega, hL, hT, hS⟩
open Go.ChangeShapes Go.WideShapes Go.ChangeAt Go.RowKit Go.Joins
theorem jn_laid : laidOutB Tryz.pinned.checked.prog = true := by kernel_rfl
theorem jn_maps : mapsRowed Tryz.pinned.checked.prog = true := by kernel_rfl
theorem jn_enter : Tryz.pinned.checked.prog.mayEnter = true := by kernel_rfl
theorem jn_heard : Tryz.pinned.checked.prog.stopsHeard = true := by kernel_rfl
end Go.Proofs.YtpmnmlhfaoajdaaGreat
