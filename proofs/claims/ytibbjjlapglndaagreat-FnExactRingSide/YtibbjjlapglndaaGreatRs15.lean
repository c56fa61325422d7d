/- Part 15 of the walks that the proof leans on. -/
import Derived.Test.YtibbjjlapglndaaGreatRs8
import Derived.Deep.OwnRows
import Derived.Test.YtibbjjlapglndaaGreatRs14
import Derived.Test.YtibbjjlapglndaaGreatRs12
import Derived.Deep.RegionHeld3
import Derived.Test.YtibbjjlapglndaaGreatRs2
import Derived.OrdersIn
import Derived.TacticsIn
import Derived.RangeFuncCalls
namespace Go.Proofs.YtibbjjlapglndaaGreat
open Go.RowKit
abbrev Ps := Nat → Int × Int
def sdA (n : Nat) (p : Ps) (i : Nat) : Int × Int × Int × Int := if lessI (p ((i + 1) % n)).1 (p ((i + 1) % n)).2 (p i).1 (p i).2 = true then ((p ((i + 1) % n)).1, (p ((i + 1) % n)).2, (p i).1, (p i).2) else ((p i).1, (p i).2, (p ((i + 1) % n)).1, (p ((i + 1) % n)).2)
abbrev OneN (n : Nat) (p : Ps) : Prop := ∀ i, i < n → ∀ k, k < i → p i ≠ p k
def SpIn (w : World) (ao : Option Addr) (n : Nat) (p : Ps) : Prop :=
 ∀ i, i < n → ∃ A off, ao = some ⟨A, off, none⟩ ∧ A < w.heap.size ∧ w.cell? ⟨A, off + i * 2, none⟩ = some (.int .i64 (p i).1) ∧ w.cell? ⟨A, off + i * 2 + 1, none⟩ = some (.int .i64 (p i).2)
theorem SpIn.step {w w' : World} {ao : Option Addr} {n : Nat} {p : Ps} (h : SpIn w ao n p) (hB : Below w.heap.size w w') : SpIn w' ao n p := fun i hi => by
 obtain ⟨A, off, e, hA, h0, h1⟩ := h i hi
 exact ⟨A, off, e, Nat.lt_of_lt_of_le hA hB.size, (hB.cell (p := ⟨A, off + i * 2, none⟩) hA).trans h0, (hB.cell (p := ⟨A, off + i * 2 + 1, none⟩) hA).trans h1⟩
theorem SpIn.drew {w : World} {ao : Option Addr} {n : Nat} {p : Ps} (h : SpIn w ao n p) : SpIn w.drew ao n p := h
def spW (p : Ps) (k : Nat) : Int := if k % 2 = 0 then (p (k / 2)).1 else (p (k / 2)).2
theorem spW0 (p : Ps) (c : Nat) : spW p (c * 2) = (p c).1 := by
 unfold spW
 rw [if_pos (by omega), show c * 2 / 2 = c by omega]
theorem spW1 (p : Ps) (c : Nat) : spW p (c * 2 + 1) = (p c).2 := by
 unfold spW
 rw [if_neg (by omega), show (c * 2 + 1) / 2 = c by omega]
theorem spIn_row {w : World} {g n : Nat} {T : TypeId} {p : Ps} (h : w.rowIs g T (n * 2) (fun i => .int .i64 (spW p i))) : SpIn w (some ⟨g, 0, none⟩) n p := fun i hi =>
 ⟨g, 0, rfl, h.lt, by rw [Nat.zero_add, h.cell (by omega), spW0], by rw [Nat.zero_add, h.cell (by omega), spW1]⟩
theorem toSpot_det (x y : Int) (w : World) : Calls Tryz.prog 60 #[Sp x y] w (VP (Sp x y) w) := by
 go_enter Tryz.func60, Tryz.ntmps60
 go_wp2
 refine bodyPost_ret (v := Sp x y) (by simp [results, Tryz.results60, go_sem]) rfl ?_
 exact ⟨rfl, (((Below.refl _ _).alloc (Nat.le_refl _) _).alloc (by simp) _).alloc (by simp; omega) _⟩
theorem eqSpot_det (x y : Int) (w : World) : Calls Tryz.prog 70 #[Sp x y, Sp x y] w (BoolP true w) := by
 go_enter Tryz.func70, Tryz.ntmps70
 go_wp2
 go_ret
 exact ⟨rfl, ((Below.refl _ _).alloc (Nat.le_refl _) _).alloc (by simp) _⟩
theorem Tryz.infoSpot : (Tryz.prog.info? 81).map (fun i => (i.zero, i.size, i.bytes)) = some (some (.agg #[.int .i64 0, .int .i64 0]), 2, 16) := by kernel_rfl
theorem make_spots (n : Nat) (hn : n ≤ 1048576) (w : World) : (Instr.makeSlice 32 (.int .i64 (n : Int)) (.int .i64 (n : Int))).run Tryz.prog w = .ok (.slice (some ⟨w.heap.size, 0, none⟩) n n) (w.alloc (.cells (madeCells #[.int .i64 0, .int .i64 0] (n * 2)) 81)) := by
 obtain ⟨i, hi, hzz⟩ := Option.map_eq_some_iff.1 Tryz.infoSpot
 simp only [Prod.mk.injEq] at hzz
 obtain ⟨hz, hs, hb⟩ := hzz
 have hr := run_make (P := Tryz.prog) w 32 81 i (.agg #[.int .i64 0, .int .i64 0]) Tryz.underlying32 hi hz .i64 .i64 n n (by omega) (Int.le_refl _) (by rw [hb]; omega) (by omega)
 simp only [Int.toNat_natCast, hs, Value.cells] at hr
 exact hr
theorem rows_made (w : World) (n : Nat) (T : TypeId) : (w.alloc (.cells (madeCells #[.int .i64 0, .int .i64 0] (n * 2)) T)).rowIs w.heap.size T (n * 2) (fun _ => .int .i64 0) := by
 have h := World.rowIs_alloc w (madeCells #[.int .i64 0, .int .i64 0] (n * 2)) T (fun _ => .int .i64 0) (fun i hi => by
   rw [size_madeCells] at hi
   simp [madeCells, hi]
   rcases (show i % 2 = 0 ∨ i % 2 = 1 by omega) with h | h <;> simp [h])
 rwa [size_madeCells] at h
def cpS (p : Ps) (c : Nat) (i : Nat) : Value := .int .i64 (if i < c * 2 then spW p i else 0)
theorem rows_step {w w' : World} {g n : Nat} {T : TypeId} {f : Nat → Value} (h : w.rowIs g T n f) (hB : Below w.heap.size w w') : w'.rowIs g T n f := h.of_block (hB.block g h.lt)
theorem cps_step {w : World} {g n c : Nat} {T : TypeId} {p : Ps} (h : w.rowIs g T (n * 2) (cpS p c)) : ((w.setCell ⟨g, c * 2, none⟩ (.int .i64 (p c).1)).setCell ⟨g, c * 2 + 1, none⟩ (.int .i64 (p c).2)).rowIs g T (n * 2) (cpS p (c + 1)) := by
 refine ((h.set (c * 2) (.int .i64 (p c).1)).set (c * 2 + 1) (.int .i64 (p c).2)).congr (fun i hi => ?_)
 unfold cpS
 by_cases h1 : i = c * 2 + 1
 · subst h1
   rw [if_pos rfl, if_pos (by omega), spW1]
 rw [if_neg h1]
 by_cases h0 : i = c * 2
 · subst h0
   rw [if_pos rfl, if_pos (by omega), spW0]
 rw [if_neg h0]
 by_cases hl : i < c * 2
 · rw [if_pos hl, if_pos (by omega)]
 · rw [if_neg hl, if_neg (by omega)]
set_option maxRecDepth 100000 in
set_option maxHeartbeats 2000000 in
theorem toSpotS_any (ao : Option Addr) (n cap : Nat) (p : Ps) (hn : n ≤ 1048576) (w : World) (hS : SpIn w ao n p) : Calls Tryz.prog 30 #[.slice ao n cap] w (fun e w' => ∃ g, e = .returned (.slice (some ⟨g, 0, none⟩) n n) ∧ w.heap.size ≤ g ∧ w'.rowIs g 81 (n * 2) (fun i => .int .i64 (spW p i)) ∧ Below w.heap.size w w') := by
 have MK := make_spots n hn
 have HS : Hid (SpIn w ao n p) := hS
 clear hS
 go_enter Tryz.func30, Tryz.ntmps30
 go_wp2_with fail
 have R0 := rows_made w n 81
 have B0 : Below w.heap.size w (w.alloc (.cells (madeCells #[.int .i64 0, .int .i64 0] (n * 2)) 81)) := (Below.refl _ _).alloc (Nat.le_refl _) _
 generalize w.alloc (.cells (madeCells #[.int .i64 0, .int .i64 0] (n * 2)) 81) = W1 at *
 have hnI : (n : Int) ≤ 1048576 := by omega
 clear MK
 go_loopw [4] (fun i wr => ∃ c : Nat, c ≤ n ∧ i = .int .i64 c ∧ wr.rowIs w.heap.size 81 (n * 2) (cpS p c) ∧ Below w.heap.size w wr) (fun i _ => n - (intOf i).toNat)
 case atStart => exact ⟨0, by omega, rfl, R0.congr (fun i _ => by unfold cpS; simp), B0⟩
 case round =>
   clear R0 B0
   obtain ⟨c, hc, rfl, R, HB⟩ := hrel
   by_cases hcn : c < n
   · obtain ⟨A, off, rfl, hA, q0, q1⟩ := HS.out.step HB c hcn
     have hcI : (c : Int) < n := by omega
     go_wp2_with fail
     refine (toSpot_det (p c).1 (p c).2 _).mono ?_
     rintro e w1 ⟨rfl, hB⟩
     replace R := rows_step R hB
     replace HB := HB.trans (hB.mono HB.size)
     have o0 := R.cell (i := c * 2) (by omega); have o1 := R.cell (i := c * 2 + 1) (by omega)
     have f0 := R.frozen (c * 2); have f1 := R.frozen (c * 2 + 1)
     have RN := cps_step R
     have HN : Below w.heap.size w ((w1.setCell ⟨w.heap.size, c * 2, none⟩ (.int .i64 (p c).1)).setCell ⟨w.heap.size, c * 2 + 1, none⟩ (.int .i64 (p c).2)) := (HB.setCell (by simp) _).setCell (by simp) _
     clear hB q0 q1 hA R HB
     go_wp2
     go_roundw
     case rel => exact ⟨c + 1, by omega, by go_num, RN, HN⟩
     case measure => simp [intOf]; omega
   · obtain rfl : c = n := by omega
     have RN : wr.rowIs w.heap.size 81 (c * 2) (fun i => .int .i64 (spW p i)) := R.congr (fun i hi => by unfold cpS; rw [if_pos hi])
     clear R HS
     go_wp2
     go_ret
     exact ⟨_, rfl, Nat.le_refl _, RN, HB⟩
set_option maxRecDepth 100000 in
set_option maxHeartbeats 2000000 in
theorem eqSpotS_any (ao bo : Option Addr) (n ca cb : Nat) (p : Ps) (hn : n ≤ 1048576) (w : World) (hA : SpIn w ao n p) (hC : SpIn w bo n p) : Calls Tryz.prog 35 #[.slice ao n ca, .slice bo n cb] w (BoolP true w) := by
 have HA : Hid (SpIn w ao n p) := hA
 have HC : Hid (SpIn w bo n p) := hC
 have hnI : (n : Int) ≤ 1048576 := by omega
 clear hA hC
 go_enter Tryz.func35, Tryz.ntmps35
 go_wp2_with fail
 go_loopw [5] (fun i wr => ∃ c : Nat, c ≤ n ∧ i = .int .i64 c ∧ Below w.heap.size w wr) (fun i _ => n - (intOf i).toNat)
 case atStart => exact ⟨0, by omega, rfl, Below.refl _ _⟩
 case round =>
   obtain ⟨c, hc, rfl, HB⟩ := hrel
   by_cases hcn : c < n
   · obtain ⟨A, off, rfl, hA, q0, q1⟩ := HA.out.step HB c hcn
     obtain ⟨B, of2, rfl, hB', r0, r1⟩ := HC.out.step HB c hcn
     have hcI : (c : Int) < n := by omega
     have ES := eqSpot_det (p c).1 (p c).2
     have KS : (fun w' => w'.cell? ⟨A, off + c * 2, none⟩ = some (.int .i64 (p c).1) ∧ w'.cell? ⟨A, off + c * 2 + 1, none⟩ = some (.int .i64 (p c).2) ∧ w'.cell? ⟨B, of2 + c * 2, none⟩ = some (.int .i64 (p c).1) ∧ w'.cell? ⟨B, of2 + c * 2 + 1, none⟩ = some (.int .i64 (p c).2)) wr := ⟨q0, q1, r0, r1⟩
     go_wp2_with fail
     go_region_held3 (fun w' => w'.cell? ⟨A, off + c * 2, none⟩ = some (.int .i64 (p c).1) ∧ w'.cell? ⟨A, off + c * 2 + 1, none⟩ = some (.int .i64 (p c).2) ∧ w'.cell? ⟨B, of2 + c * 2, none⟩ = some (.int .i64 (p c).1) ∧ w'.cell? ⟨B, of2 + c * 2 + 1, none⟩ = some (.int .i64 (p c).2)) (first | (exact KS) | (exact KS'))
       (first
         | (go_at_call 70; refine (ES _).mono ?_; rintro e w1 ⟨rfl, hB⟩; have KS' : (fun w' => w'.cell? ⟨A, off + c * 2, none⟩ = some (.int .i64 (p c).1) ∧ w'.cell? ⟨A, off + c * 2 + 1, none⟩ = some (.int .i64 (p c).2) ∧ w'.cell? ⟨B, of2 + c * 2, none⟩ = some (.int .i64 (p c).1) ∧ w'.cell? ⟨B, of2 + c * 2 + 1, none⟩ = some (.int .i64 (p c).2)) w1 := ⟨(hB.cell (p := ⟨A, _, none⟩) hA).trans q0, (hB.cell (p := ⟨A, _, none⟩) hA).trans q1, (hB.cell (p := ⟨B, _, none⟩) hB').trans r0, (hB.cell (p := ⟨B, _, none⟩) hB').trans r1⟩; (first | (have HB2 := HB.trans (hB.mono HB.size)) | (have HB2 := HB.drew.trans (hB.mono HB.drew.size))); clear hB))
     all_goals clear HB KS q0 q1 r0 r1 ES
     all_goals go_wp2
     all_goals go_roundw
     case rel => exact ⟨c + 1, by omega, by go_num, HB2⟩
     case measure => simp [intOf]; omega
   · obtain rfl : c = n := by omega
     clear HA HC
     go_wp2
     go_ret
     exact ⟨rfl, HB⟩
set_option maxRecDepth 100000 in
set_option maxHeartbeats 2000000 in
theorem toRing_any (ao : Option Addr) (m cap : Nat) (q : Ps) (hm : m ≤ 1048576) (w : World) (hS : SpIn w ao m q) : Calls Tryz.prog 10 #[.agg #[.slice ao m cap]] w (fun e w' => ∃ g, e = .returned (.agg #[.slice (some ⟨g, 0, none⟩) m m]) ∧ w.heap.size ≤ g ∧ w'.rowIs g 81 (m * 2) (fun i => .int .i64 (spW q i)) ∧ Below w.heap.size w w') := by
 have HB : Below w.heap.size w (((w.alloc (.cells #[.slice ao m cap] 24)).alloc (.cells #[.slice none 0 0] 34)).alloc (.cells #[.slice none 0 0] 34)) := (((Below.refl _ w).alloc (Nat.le_refl _) _).alloc (by simp) _).alloc (by simp; omega) _
 have B0 := ((Blk.new w [.slice ao m cap] 24 rfl).alloc (.cells #[.slice none 0 0] 34)).alloc (.cells #[.slice none 0 0] 34)
 have B1 := (Blk.new (w.alloc (.cells #[.slice ao m cap] 24)) [.slice none 0 0] 34 (g := w.heap.size + 1) (by simp)).alloc (.cells #[.slice none 0 0] 34)
 have B2 := Blk.new ((w.alloc (.cells #[.slice ao m cap] 24)).alloc (.cells #[.slice none 0 0] 34)) [.slice none 0 0] 34 (g := w.heap.size + 1 + 1) (by simp)
 have HS := hS.step HB
 have hsz : (((w.alloc (.cells #[.slice ao m cap] 24)).alloc (.cells #[.slice none 0 0] 34)).alloc (.cells #[.slice none 0 0] 34)).heap.size = w.heap.size + 3 := by simp
 have TP := fun w h => toSpotS_any ao m cap q hm w h
 clear hS
 go_enter Tryz.func10, Tryz.ntmps10
 have b0 := B0.c 0 rfl
 go_wp2_with fail
 refine (TP _ HS).mono ?_
 rintro e w1 ⟨g, rfl, hg, R, hB⟩
 rw [hsz] at hg
 replace B1 := B1.step hB; replace B2 := B2.step hB
 replace HB := HB.trans (hB.mono HB.size)
 clear hB TP B0 b0 HS hsz
 have c0 := B1.c 0 rfl; have f0 := B1.f 0 rfl; have l1 := B1.lt; have d0 := B2.c 0 rfl; have e0 := B2.f 0 rfl; have l2 := B2.lt
 have RN : ((w1.setCell ⟨w.heap.size + 1 + 1, 0, none⟩ (.slice (some ⟨g, 0, none⟩) m m)).setCell ⟨w.heap.size + 1, 0, none⟩ (.slice (some ⟨g, 0, none⟩) m m)).rowIs g 81 (m * 2) (fun i => .int .i64 (spW q i)) := (R.setOther (by show g ≠ w.heap.size + 1 + 1; omega) _).setOther (by show g ≠ w.heap.size + 1; omega) _
 have HN : Below w.heap.size w ((w1.setCell ⟨w.heap.size + 1 + 1, 0, none⟩ (.slice (some ⟨g, 0, none⟩) m m)).setCell ⟨w.heap.size + 1, 0, none⟩ (.slice (some ⟨g, 0, none⟩) m m)) := Below.setCell (Below.setCell HB (by show w.heap.size ≤ w.heap.size + 1 + 1; omega) _) (by show w.heap.size ≤ w.heap.size + 1; omega) _
 clear R HB B1 B2
 go_wp2
 refine bodyPost_ret (v := .agg #[.slice (some ⟨g, 0, none⟩) m m]) (by simp [results, Tryz.results10, go_sem, c0]) rfl ?_
 exact ⟨g, rfl, by omega, RN, HN⟩
set_option maxRecDepth 100000 in
set_option maxHeartbeats 2000000 in
theorem eqRing_any (ao bo : Option Addr) (m ca cb : Nat) (q : Ps) (hm : m ≤ 1048576) (w : World) (hA : SpIn w ao m q) (hC : SpIn w bo m q) : Calls Tryz.prog 13 #[.agg #[.slice ao m ca], .agg #[.slice bo m cb]] w (BoolP true w) := by
 have HB : Below w.heap.size w ((w.alloc (.cells #[.slice ao m ca] 34)).alloc (.cells #[.slice bo m cb] 34)) := ((Below.refl _ w).alloc (Nat.le_refl _) _).alloc (by simp) _
 have B0 := (Blk.new w [.slice ao m ca] 34 rfl).alloc (.cells #[.slice bo m cb] 34)
 have B1 := Blk.new (w.alloc (.cells #[.slice ao m ca] 34)) [.slice bo m cb] 34 (g := w.heap.size + 1) (by simp)
 have HA := hA.step HB
 have HC := hC.step HB
 have EP := fun w h h' => eqSpotS_any ao bo m ca cb q hm w h h'
 clear hA hC
 go_enter Tryz.func13, Tryz.ntmps13
 have b0 := B0.c 0 rfl
 have b1 := B1.c 0 rfl
 go_wp2_with fail
 refine (EP _ HA HC).mono ?_
 rintro e w1 ⟨rfl, hB⟩
 replace HB := HB.trans (hB.mono HB.size)
 clear hB EP HA HC B0 B1 b0 b1
 go_wp2
 go_ret
 exact ⟨rfl, HB⟩
theorem szSpotS_any (ao : Option Addr) (m cap : Nat) (l : Int) (h0 : 0 ≤ l) (h1 : l ≤ 1048576) (hm : m ≤ 9223372036854775807) (w : World) : Calls Tryz.prog 25 #[.slice ao m cap, .int .i64 l] w (VP (.int .i64 (if (m : Int) ≤ l then l - m else -1)) w) := by
 have hmI : (m : Int) ≤ 9223372036854775807 := by omega
 by_cases h : (m : Int) ≤ l
 · rw [if_pos h]
   go_enter Tryz.func25, Tryz.ntmps25
   go_wp2
   go_ret
   exact ⟨rfl, Below.refl _ _⟩
 · rw [if_neg h]
   have h' : l < (m : Int) := by omega
   go_enter Tryz.func25, Tryz.ntmps25
   go_wp2
   go_ret
   exact ⟨rfl, Below.refl _ _⟩
theorem szRing_any (ao : Option Addr) (m cap : Nat) (l : Int) (h0 : 0 ≤ l) (h1 : l ≤ 1048576) (hm : m ≤ 9223372036854775807) (w : World) : Calls Tryz.prog 8 #[.agg #[.slice ao m cap], .int .i64 l] w (VP (.int .i64 (if (m : Int) ≤ l then l - m else -1)) w) := by
 have HB : Below w.heap.size w (w.alloc (.cells #[.slice ao m cap] 24)) := (Below.refl _ w).alloc (Nat.le_refl _) _
 have B0 := Blk.new w [.slice ao m cap] 24 rfl
 have SP := szSpotS_any ao m cap l h0 h1 hm
 go_enter Tryz.func8, Tryz.ntmps8
 have b0 := B0.c 0 rfl
 by_cases h : (m : Int) ≤ l
 · rw [if_pos h] at SP ⊢
   go_wp2_with fail
   refine (SP _).mono ?_
   rintro e w1 ⟨rfl, hB⟩
   replace HB := HB.trans (hB.mono HB.size)
   clear hB SP B0 b0
   have h2 : 0 ≤ l - (m : Int) := by omega
   go_wp2
   go_ret
   exact ⟨rfl, HB⟩
 · rw [if_neg h] at SP ⊢
   go_wp2_with fail
   refine (SP _).mono ?_
   rintro e w1 ⟨rfl, hB⟩
   replace HB := HB.trans (hB.mono HB.size)
   clear hB SP B0 b0
   go_wp2
   go_ret
   exact ⟨rfl, HB⟩
def kndZ (a b c d p q u v : Int) : Int :=
 if ((b - d) * (u - p) - (q - v) * (c - a)) = 0 then
   (if turnZ a b c d p q ≠ 0 ∨ lessI (if lessI u v c d = true then u else c) (if lessI u v c d = true then v else d) (if lessI a b p q = true then p else a) (if lessI a b p q = true then q else b) = true then 0
    else if (if lessI a b p q = true then p else a) = (if lessI u v c d = true then u else c) ∧ (if lessI a b p q = true then q else b) = (if lessI u v c d = true then v else d) then 1 else 2)
 else if (pt2 (turnZ a b c d p q) (turnZ a b c d u v) && pt2 (turnZ p q u v a b) (turnZ p q u v c d)) = true then 1 else 0
theorem knd_in (a b c d p q u v : Int) : kndZ a b c d p q u v = 0 ∨ kndZ a b c d p q u v = 1 ∨ kndZ a b c d p q u v = 2 := by
 unfold kndZ
 repeat' split
 all_goals simp
theorem pt2_zl (t : Int) : pt2 0 t = true := by simp [pt2]
theorem pt2_zr (t : Int) : pt2 t 0 = true := by simp [pt2]
theorem turn_at1 (a b c d : Int) : turnZ a b c d a b = 0 := by unfold turnZ; simp
theorem turn_at2 (a b c d : Int) : turnZ a b c d c d = 0 := by unfold turnZ; grind
theorem less_iff (x y u v : Int) : lessI x y u v = true ↔ x < u ∨ x = u ∧ y < v := by unfold lessI; exact decide_eq_true_iff
theorem knd_share {a b c d p q u v : Int} (h1 : lessI a b c d = true) (h2 : lessI p q u v = true) (hs : (a = p ∧ b = q) ∨ (a = u ∧ b = v) ∨ (c = p ∧ d = q) ∨ (c = u ∧ d = v)) : kndZ a b c d p q u v ≠ 0 := by
 have hd := turn_diff a b c d p q u v
 have t1 := turn_at1 a b c d
 have t2 := turn_at2 a b c d
 have s1 := turn_at1 p q u v
 have s2 := turn_at2 p q u v
 have P : (pt2 (turnZ a b c d p q) (turnZ a b c d u v) && pt2 (turnZ p q u v a b) (turnZ p q u v c d)) = true := by
   rcases hs with ⟨rfl, rfl⟩ | ⟨rfl, rfl⟩ | ⟨rfl, rfl⟩ | ⟨rfl, rfl⟩ <;> simp only [t1, t2, s1, s2, pt2_zl, pt2_zr, Bool.and_self]
 unfold kndZ
 rw [P]
 by_cases h0 : ((b - d) * (u - p) - (q - v) * (c - a)) = 0
 · rw [if_pos h0]
   have T : turnZ a b c d p q = 0 := by
     rcases hs with ⟨rfl, rfl⟩ | ⟨rfl, rfl⟩ | ⟨rfl, rfl⟩ | ⟨rfl, rfl⟩ <;> omega
   clear P hd t1 t2 s1 s2 h0
   rw [less_iff] at h1 h2
   have N : ¬ lessI (if lessI u v c d = true then u else c) (if lessI u v c d = true then v else d) (if lessI a b p q = true then p else a) (if lessI a b p q = true then q else b) = true := by
     simp only [less_iff]
     split <;> split <;> omega
   rw [if_neg (fun h => h.elim (fun k => k T) N)]
   by_cases hq : (if lessI a b p q = true then p else a) = (if lessI u v c d = true then u else c) ∧ (if lessI a b p q = true then q else b) = (if lessI u v c d = true then v else d)
   · rw [if_pos hq]; decide
   · rw [if_neg hq]; decide
 · rw [if_neg h0, if_pos rfl]
   decide
def kdA (n : Nat) (p : Ps) (i k : Nat) : Int := kndZ (sdA n p i).1 (sdA n p i).2.1 (sdA n p i).2.2.1 (sdA n p i).2.2.2 (sdA n p k).1 (sdA n p k).2.1 (sdA n p k).2.2.1 (sdA n p k).2.2.2
def nxB (n i k : Nat) : Bool := decide (k + 1 = i) || (decide (k = 0) && decide (i + 1 = n))
def bdB (n : Nat) (p : Ps) (i k : Nat) : Bool := decide ((if nxB n i k = true then 1 else 0) < kdA n p i k)
theorem one_ne {n : Nat} {p : Ps} (h : OneN n p) {i k : Nat} (hi : i < n) (hk : k < n) (hne : i ≠ k) : p i ≠ p k := by
 rcases Nat.lt_or_ge k i with h' | h'
 · exact h i hi k h'
 · exact fun e => h k hk i (by omega) e.symm
theorem sd_less {n : Nat} {p : Ps} (h : OneN n p) (hn : 3 ≤ n) {i : Nat} (hi : i < n) : lessI (sdA n p i).1 (sdA n p i).2.1 (sdA n p i).2.2.1 (sdA n p i).2.2.2 = true := by
 have hm : (i + 1) % n < n := Nat.mod_lt _ (by omega)
 have hne : (i + 1) % n ≠ i := by
   rcases Nat.lt_or_ge (i + 1) n with h' | h'
   · rw [Nat.mod_eq_of_lt h']; omega
   · obtain rfl : n = i + 1 := by omega
     rw [Nat.mod_self]; omega
 have hp := one_ne h hm hi hne
 unfold sdA
 by_cases hl : lessI (p ((i + 1) % n)).1 (p ((i + 1) % n)).2 (p i).1 (p i).2 = true
 · rw [if_pos hl]; exact hl
 · rw [if_neg hl]
   rw [less_iff] at hl ⊢
   generalize p ((i + 1) % n) = A at *
   generalize p i = B at *
   obtain ⟨x, y⟩ := A
   obtain ⟨u, v⟩ := B
   simp only at hl ⊢
   have : ¬ (x = u ∧ y = v) := fun ⟨e1, e2⟩ => hp (by rw [e1, e2])
   omega
theorem sd_ends (n : Nat) (p : Ps) (i : Nat) : ((sdA n p i).1 = (p i).1 ∧ (sdA n p i).2.1 = (p i).2 ∧ (sdA n p i).2.2.1 = (p ((i + 1) % n)).1 ∧ (sdA n p i).2.2.2 = (p ((i + 1) % n)).2) ∨ ((sdA n p i).1 = (p ((i + 1) % n)).1 ∧ (sdA n p i).2.1 = (p ((i + 1) % n)).2 ∧ (sdA n p i).2.2.1 = (p i).1 ∧ (sdA n p i).2.2.2 = (p i).2) := by
 unfold sdA
 split
 · exact .inr ⟨rfl, rfl, rfl, rfl⟩
 · exact .inl ⟨rfl, rfl, rfl, rfl⟩
theorem kd_next {n : Nat} {p : Ps} (h : OneN n p) (hn : 3 ≤ n) {i k : Nat} (hi : i < n) (hk : k < i) (hx : nxB n i k = true) : kdA n p i k ≠ 0 := by
 unfold kdA
 refine knd_share (sd_less h hn hi) (sd_less h hn (by omega)) ?_
 have E1 := sd_ends n p i
 have E2 := sd_ends n p k
 have hc : ((k + 1) % n = i) ∨ ((i + 1) % n = k) := by
   simp only [nxB, Bool.or_eq_true, Bool.and_eq_true, decide_eq_true_iff] at hx
   rcases hx with hx | ⟨hx, hx'⟩
   · exact .inl (by rw [hx]; exact Nat.mod_eq_of_lt hi)
   · exact .inr (by rw [hx', hx, Nat.mod_self])
 rcases hc with hc | hc
 · rw [hc] at E2
   rcases E1 with ⟨e1, e2, e3, e4⟩ | ⟨e1, e2, e3, e4⟩ <;> rcases E2 with ⟨f1, f2, f3, f4⟩ | ⟨f1, f2, f3, f4⟩ <;> omega
 · rw [hc] at E1
   rcases E1 with ⟨e1, e2, e3, e4⟩ | ⟨e1, e2, e3, e4⟩ <;> rcases E2 with ⟨f1, f2, f3, f4⟩ | ⟨f1, f2, f3, f4⟩ <;> omega
theorem bd_same {n : Nat} {p : Ps} (h : OneN n p) (hn : 3 ≤ n) {i k : Nat} (hi : i < n) (hk : k < i) : bdB n p i k = ((nxB n i k && !(decide (kdA n p i k = 1))) || (!(nxB n i k) && !(decide (kdA n p i k = 0)))) := by
 have hin : kdA n p i k = 0 ∨ kdA n p i k = 1 ∨ kdA n p i k = 2 := knd_in _ _ _ _ _ _ _ _
 have hx := kd_next h hn hi hk
 unfold bdB
 generalize kdA n p i k = z at *
 cases hb : nxB n i k
 · rcases hin with rfl | rfl | rfl <;> simp
 · have := hx hb
   rcases hin with rfl | rfl | rfl
   · exact absurd rfl this
   · simp
   · simp
def rgF (n : Nat) (p : Ps) : Int := if n < 3 then 1 else if 12 < n then 2 else if ¬ (∀ i, i < n → spotOk (p i).1 (p i).2 = true) then 3 else if ¬ OneN n p then 4 else if ¬ (∀ i, i < n → ∀ k, k < i → bdB n p i k = false) then 5 else 0
theorem meetW_kind (a b c d p q u v : Int) : ∃ r s, meetW a b c d p q u v = .tuple #[.int .i64 (kndZ a b c d p q u v), r, s] := by
 unfold meetW kndZ
 by_cases h0 : ((b - d) * (u - p) - (q - v) * (c - a)) = 0
 · rw [if_pos h0, if_pos h0]
   unfold alongV
   by_cases h1 : turnZ a b c d p q ≠ 0 ∨ lessI (if lessI u v c d = true then u else c) (if lessI u v c d = true then v else d) (if lessI a b p q = true then p else a) (if lessI a b p q = true then q else b) = true
   · rw [if_pos h1, if_pos h1]
     exact ⟨_, _, rfl⟩
   · rw [if_neg h1, if_neg h1]
     by_cases h2 : (if lessI a b p q = true then p else a) = (if lessI u v c d = true then u else c) ∧ (if lessI a b p q = true then q else b) = (if lessI u v c d = true then v else d)
     · rw [if_pos h2, if_pos h2]
       exact ⟨_, _, rfl⟩
     · rw [if_neg h2, if_neg h2]
       exact ⟨_, _, rfl⟩
 · rw [if_neg h0, if_neg h0]
   by_cases h3 : (pt2 (turnZ a b c d p q) (turnZ a b c d u v) && pt2 (turnZ p q u v a b) (turnZ p q u v c d)) = true
   · rw [if_pos h3, if_pos h3]
     exact ⟨_, _, rfl⟩
   · rw [if_neg h3, if_neg h3]
     exact ⟨_, _, rfl⟩
theorem mtP_kind {a b c d p q u v : Int} {w w' : World} {e : Ending} (h : MtP a b c d p q u v w e w') : (∃ (f1 f2 f3 g1 g2 g3 : Bool) (k1 k2 k3 l1 l2 l3 : Option Addr) (m1 m2 m3 x1 x2 x3 y1 y2 y3 z1 z2 z3 : Nat), e = .returned (.tuple #[.int .i64 (kndZ a b c d p q u v), .agg #[.bool f1, .slice k1 m1 x1, .bool f2, .slice k2 m2 x2, .bool f3, .slice k3 m3 x3], .agg #[.bool g1, .slice l1 y1 z1, .bool g2, .slice l2 y2 z2, .bool g3, .slice l3 y3 z3]])) ∧ Below w.heap.size w w' := by
 obtain ⟨hB, h⟩ := h
 obtain ⟨r, s, hk⟩ := meetW_kind a b c d p q u v
 refine ⟨?_, hB⟩
 rcases h with ⟨hm, he⟩ | ⟨x, y, z, r', hm, -, -, -, he, L⟩ | ⟨x, y, x', y', r', s', hm, -, -, -, -, he, L, L'⟩
 · rw [hk] at hm
   simp at hm
   rw [hm.1]
   exact ⟨_, _, _, _, _, _, _, _, _, _, _, _, _, _, _, _, _, _, _, _, _, _, _, _, he⟩
 · rw [hk] at hm
   simp at hm
   rw [hm.1]
   obtain ⟨s1, o1, n1, c1, d1, s2, o2, n2, c2, d2, s3, o3, n3, c3, d3, rfl, -, -, -⟩ := L
   exact ⟨_, _, _, _, _, _, _, _, _, _, _, _, _, _, _, _, _, _, _, _, _, _, _, _, he⟩
 · rw [hk] at hm
   simp at hm
   rw [hm.1]
   obtain ⟨s1, o1, n1, c1, d1, s2, o2, n2, c2, d2, s3, o3, n3, c3, d3, rfl, -, -, -⟩ := L
   obtain ⟨t1, q1, m1, b1, f1, t2, q2, m2, b2, f2, t3, q3, m3, b3, f3, rfl, -, -, -⟩ := L'
   exact ⟨_, _, _, _, _, _, _, _, _, _, _, _, _, _, _, _, _, _, _, _, _, _, _, _, he⟩
theorem meetW_12 (a b c d p q u v : Int) : ∃ (r0 r1 r2 r3 r4 r5 r6 r7 r8 r9 r10 r11 s0 s1 s2 s3 s4 s5 s6 s7 s8 s9 s10 s11 : Int), meetW a b c d p q u v = .tuple #[.int .i64 (kndZ a b c d p q u v), .agg #[.int .u64 r0, .int .u64 r1, .int .u64 r2, .int .u64 r3, .int .u64 r4, .int .u64 r5, .int .u64 r6, .int .u64 r7, .int .u64 r8, .int .u64 r9, .int .u64 r10, .int .u64 r11], .agg #[.int .u64 s0, .int .u64 s1, .int .u64 s2, .int .u64 s3, .int .u64 s4, .int .u64 s5, .int .u64 s6, .int .u64 s7, .int .u64 s8, .int .u64 s9, .int .u64 s10, .int .u64 s11]] := by
 obtain ⟨r, s, hk⟩ := meetW_kind a b c d p q u v
 obtain ⟨k, r0, r1, r2, r3, r4, r5, r6, r7, r8, r9, r10, r11, s0, s1, s2, s3, s4, s5, s6, s7, s8, s9, s10, s11, hx⟩ := meetW_ex a b c d p q u v
 have he := hx
 rw [hk] at he
 simp at he
 exact ⟨r0, r1, r2, r3, r4, r5, r6, r7, r8, r9, r10, r11, s0, s1, s2, s3, s4, s5, s6, s7, s8, s9, s10, s11, by rw [hx, he.1]⟩
theorem over_up {a b c d x y z : Int} (hl : lessI a b c d = true) : (decide (overJ a b c d x y z = 1) && decide (cmpI (x * 1) (c * z) < 0)) = upB a b 1 c d 1 x y z := by
 rw [less_iff] at hl
 have h0 : ¬ cmpI (c * 1) (a * 1) < 0 := by rw [cmpZ_lt]; omega
 unfold upB
 rw [if_neg h0]
 unfold overJ
 simp only [cmpZ_lt, cmpZ_gt, cmpZ_le, Int.mul_one]
 by_cases h1 : x < a * z
 · rw [if_pos h1]
   simp
   omega
 · rw [if_neg h1]
   by_cases h2 : c * z < x
   · rw [if_pos h2]
     simp
     omega
   · rw [if_neg h2]
     have ht : turnI a b 1 c d 1 x y z = -1 ∨ turnI a b 1 c d 1 x y z = 0 ∨ turnI a b 1 c d 1 x y z = 1 := by
       unfold turnI
       exact cmpI_in _ _
     rcases hl with hl | ⟨hl, hl'⟩
     · rw [if_pos hl]
       have e1 : (-turnI a b 1 c d 1 x y z = 1) ↔ turnI a b 1 c d 1 x y z < 0 := by omega
       rw [show (decide (-turnI a b 1 c d 1 x y z = 1)) = decide (turnI a b 1 c d 1 x y z < 0) from decide_eq_decide.2 e1]
       rw [show decide (a * z ≤ x) = true from decide_eq_true (by omega), Bool.true_and, Bool.and_comm]
     · subst hl
       have e2 : decide (x < a * z) = false := decide_eq_false (by omega)
       rw [e2]
       simp
theorem over_btw {a b c d x y z : Int} (hl : lessI a b c d = true) : (decide (overJ a b c d x y z = 0)) = btwS a b 1 c d 1 x y z := by
 rw [less_iff] at hl
 rw [btw_seg hl, Bool.eq_iff_iff]
 simp only [decide_eq_true_eq, Bool.and_eq_true]
 rw [over_zero hl]
 constructor
 · rintro ⟨p, q, r⟩; exact ⟨⟨p, q⟩, r⟩
 · rintro ⟨⟨p, q⟩, r⟩; exact ⟨p, q, r⟩
def onE (n : Nat) (p : Ps) (x y z : Int) (i : Nat) : Bool := btwS (sdA n p i).1 (sdA n p i).2.1 1 (sdA n p i).2.2.1 (sdA n p i).2.2.2 1 x y z
def upE (n : Nat) (p : Ps) (x y z : Int) (i : Nat) : Bool := upB (sdA n p i).1 (sdA n p i).2.1 1 (sdA n p i).2.2.1 (sdA n p i).2.2.2 1 x y z
def ctE (n : Nat) (p : Ps) (x y z : Int) (i : Nat) : Bool := ctB (sdA n p i).1 (sdA n p i).2.1 1 (sdA n p i).2.2.1 (sdA n p i).2.2.2 1 x y z
def onR (n : Nat) (p : Ps) (x y z : Int) : Nat → Bool
 | 0 => false
 | d + 1 => onR n p x y z d || onE n p x y z d
def upR (n : Nat) (p : Ps) (x y z : Int) : Nat → Bool
 | 0 => false
 | d + 1 => upR n p x y z d ^^ upE n p x y z d
def ctR (n : Nat) (p : Ps) (x y z : Int) : Nat → Bool
 | 0 => false
 | d + 1 => ctR n p x y z d ^^ ctE n p x y z d
def sdR (n : Nat) (p : Ps) (x y z : Int) : Int := if onR n p x y z n = true then 0 else if ctR n p x y z n = true then 1 else -1
theorem onR_mono {n : Nat} {p : Ps} {x y z : Int} {d e : Nat} (h : d ≤ e) (ho : onR n p x y z d = true) : onR n p x y z e = true := by
 induction h with
 | refl => exact ho
 | step _ ih => rw [onR, ih]; rfl
theorem side_turn (n : Nat) (p : Ps) (x y z : Int) (i : Nat) : (qdB (sdA n p i).1 (sdA n p i).2.1 1 x y z ^^ qdB (sdA n p i).2.2.1 (sdA n p i).2.2.2 1 x y z) = (qdB (p i).1 (p i).2 1 x y z ^^ qdB (p ((i + 1) % n)).1 (p ((i + 1) % n)).2 1 x y z) := by
 rcases sd_ends n p i with ⟨h1, h2, h3, h4⟩ | ⟨h1, h2, h3, h4⟩ <;> rw [h1, h2, h3, h4]
 exact Bool.xor_comm _ _
theorem up_ct (n : Nat) (p : Ps) (x y z : Int) (hz : 0 < z) : ∀ d, d ≤ n → onR n p x y z d = false → (upR n p x y z d ^^ ctR n p x y z d) = (qdB (p 0).1 (p 0).2 1 x y z ^^ qdB (p (d % n)).1 (p (d % n)).2 1 x y z)
 | 0, _, _ => by simp [upR, ctR]
 | d + 1, hd, ho => by
   rw [onR, Bool.or_eq_false_iff] at ho
   have I := up_ct n p x y z hz d (by omega) ho.1
   have E := (edge_same _ _ 1 _ _ 1 x y z (by omega) (by omega) hz ho.2).trans (side_turn n p x y z d)
   rw [Nat.mod_eq_of_lt (show d < n by omega)] at I
   rw [upR, ctR]
   unfold upE ctE
   revert I E
   generalize upR n p x y z d = a1
   generalize ctR n p x y z d = a2
   generalize upB (sdA n p d).1 (sdA n p d).2.1 1 (sdA n p d).2.2.1 (sdA n p d).2.2.2 1 x y z = a3
   generalize ctB (sdA n p d).1 (sdA n p d).2.1 1 (sdA n p d).2.2.1 (sdA n p d).2.2.2 1 x y z = a4
   generalize qdB (p 0).1 (p 0).2 1 x y z = b1
   generalize qdB (p d).1 (p d).2 1 x y z = b2
   generalize qdB (p ((d + 1) % n)).1 (p ((d + 1) % n)).2 1 x y z = b3
   cases a1 <;> cases a2 <;> cases a3 <;> cases a4 <;> cases b1 <;> cases b2 <;> cases b3 <;> simp
theorem up_same (n : Nat) (p : Ps) (x y z : Int) (hz : 0 < z) (ho : onR n p x y z n = false) : upR n p x y z n = ctR n p x y z n := by
 have h := up_ct n p x y z hz n (Nat.le_refl _) ho
 rw [Nat.mod_self, Bool.xor_self] at h
 revert h
 cases upR n p x y z n <;> cases ctR n p x y z n <;> simp
end Go.Proofs.YtibbjjlapglndaaGreat
namespace Go.Proofs.YtibbjjlapglndaaGreat
variable {P : Program} {ops : Array Oper} {Q : Exit → Act → World → Prop} {md : Region.Mode}
def open_ (l : Array Bool) : Nat := l.toList.countP (fun b => !b)
theorem open_set {l : Array Bool} {i : Nat} (h : l.getD i true = false) : open_ (l.setIfInBounds i true) + 1 = open_ l := by
 obtain ⟨xs⟩ := l
 have hi : i < xs.length := by
   rcases Nat.lt_or_ge i xs.length with h' | h'
   · exact h'
   · simp [Array.getD, Nat.not_lt.2 h'] at h
 have hv : xs[i] = false := by simpa [Array.getD, hi] using h
 have hp : 0 < xs.countP (fun b => !b) := List.countP_pos_iff.2 ⟨xs[i], List.getElem_mem hi, by simp [hv]⟩
 simp only [open_, List.setIfInBounds_toArray, List.countP_set hi, hv]
 simp
 omega
theorem wpAny_inv (J : Array Bool → Act → World → Prop) (hs : ∀ l a w i o, J l a w → l.getD i true = false → ops[i]? = some o → (∀ e ∈ o.after, Region.binds md e = true → l.getD e.on false = true) → wpOp P ops Q i (J (l.setIfInBounds i true)) a w)
   (hd : ∀ l a w, J l a w → Region.ready md ops l = [] → Q .normal a w) : ∀ (fuel : Nat) (l : Array Bool) (a : Act) (w : World), open_ l ≤ fuel → J l a w → wpAny P md ops Q fuel l a w := by
 intro fuel
 induction fuel with
 | zero =>
   intro l a w hf hJ
   have hr : Region.ready md ops l = [] := by
     rw [List.eq_nil_iff_forall_not_mem]
     intro i hi
     have := open_set (mem_ready.1 hi).1
     omega
   exact ⟨hr, hd l a w hJ hr⟩
 | succ fuel ih =>
   intro l a w hf hJ
   refine ⟨fun hr => hd l a w hJ hr, fun i hi => ?_⟩
   obtain ⟨h0, o, ho, hall⟩ := mem_ready.1 hi
   exact wpOp_mono (fun a' w' h' => ih _ a' w' (by have := open_set h0; omega) h') (hs l a w i o hJ h0 ho hall)
theorem wp_region_inv {id : Nat} {a : Act} {w : World} (hm : P.follows .mixedOrders = true) (J : Array Bool → Act → World → Prop)
   (h0 : J (Array.replicate ops.size false) a { w with drawn := w.drawn + 1 })
   (hs : ∀ l a w i o, J l a w → l.getD i true = false → ops[i]? = some o → (∀ e ∈ o.after, Region.binds .any e = true → l.getD e.on false = true) → wpOp P ops Q i (J (l.setIfInBounds i true)) a w)
   (hd : ∀ l a w, J l a w → Region.ready .any ops l = [] → Q .normal a w) : (Code.region id ops true).wp P Q a w :=
 wp_region_any hm (wpAny_inv J hs hd _ _ _ _ (by
   unfold open_
   refine Nat.le_trans List.countP_le_length ?_
   simp) h0)
def waits (md : Region.Mode) (ops : Array Oper) : List Nat → List Nat → Bool
 | _, [] => true
 | acc, i :: r => ((ops[i]?).map (fun o => o.after.all (fun e => !Region.binds md e || acc.contains e.on))).getD false && waits md ops (i :: acc) r
theorem listed_of {l : Array Bool} (hr : Region.ready md ops l = []) : ∀ (r acc : List Nat), (∀ k ∈ acc, l.getD k false = true) → waits md ops acc r = true → (∀ k ∈ r, k < l.size) → ∀ k ∈ r, l.getD k false = true
 | [], _, _, _, _ => fun k hk => by simp at hk
 | i :: r, acc, ha, hw, hz => by
   simp only [waits, Bool.and_eq_true] at hw
   obtain ⟨hw1, hw2⟩ := hw
   have hi : l.getD i false = true := by
     cases ho : ops[i]? with
     | none => rw [ho] at hw1; simp at hw1
     | some o =>
       rw [ho] at hw1
       have hall : ∀ e ∈ o.after, Region.binds md e = true → l.getD e.on false = true := fun e he hb => by
         have h2 : o.after.all (fun e => !Region.binds md e || acc.contains e.on) = true := by simpa using hw1
         rw [Array.all_eq_true'] at h2
         have h3 := h2 e he
         rw [hb] at h3
         exact ha _ (by simpa using h3)
       have hz' := hz i (by simp)
       by_cases hc : l.getD i true = false
       · have : i ∈ Region.ready md ops l := mem_ready.2 ⟨hc, o, ho, hall⟩
         rw [hr] at this
         simp at this
       · simpa [Array.getD, hz'] using hc
   intro k hk
   rcases List.mem_cons.1 hk with rfl | hk
   · exact hi
   · exact listed_of hr r (i :: acc) (fun k hk => by
       rcases List.mem_cons.1 hk with rfl | hk
       · exact hi
       · exact ha k hk) hw2 (fun k hk => hz k (by simp [hk])) k hk
theorem wpOp_of {i : Nat} {o : Oper} {a : Act} {w : World} {K : Act → World → Prop} (ho : ops[i]? = some o) (hg : o.guard = none) (h : o.wp P a w K Q) : wpOp P ops Q i K a w := by
 unfold wpOp
 simp only [ho]
 have hw : Region.wanted o (yielded ops a.tmps) = true := by unfold Region.wanted; rw [hg]
 rw [if_pos hw]
 exact .inl h
theorem tmps_fold : ∀ (D : List Nat) (t s : Array Value), t.size = s.size → (∀ d, d ∉ D → t[d]? = s[d]?) → t = D.foldl (fun u d => u.setIfInBounds d (t.getD d undef)) s
 | [], t, s, _, h => Array.ext_getElem? (fun d => h d (by simp))
 | d :: D, t, s, hz, h => by
   rw [List.foldl_cons]
   refine tmps_fold D t _ (by simpa using hz) (fun e he => ?_)
   by_cases hed : e = d
   · subst hed
     rcases Nat.lt_or_ge e t.size with h' | h'
     · simp [Array.getD, h', ← hz]
     · simp [← hz, h']
   · rw [Array.getElem?_setIfInBounds_ne (fun hh => hed hh.symm)]
     exact h e (by simp [hed, he])
theorem put_getD_ne {a : Act} {d e : Nat} {v : Value} (h : d ≠ e) : (a.put (some d) v).tmps.getD e undef = a.tmps.getD e undef := by
 simp [Act.put, Array.getD_eq_getD_getElem?, Array.getElem?_setIfInBounds_ne h]
theorem put_getD_same {a : Act} {d : Nat} {v : Value} (h : d < a.tmps.size) : (a.put (some d) v).tmps.getD d undef = v := by
 simp [Act.put, Array.getD_eq_getD_getElem?, h]
end Go.Proofs.YtibbjjlapglndaaGreat
namespace Go.Proofs.YtibbjjlapglndaaGreat
variable {P : Program} {ops : Array Oper} {Q : Exit → Act → World → Prop}
theorem yielded_of {j d : Nat} {o : Oper} {t : Array Value} {b : Bool} (ho : ops[j]? = some o) (hd : o.dst = some d) (ht : t.getD d undef = .bool b) : yielded ops t j = some b := by
 have h : t[d]? = some (.bool b) := by
   rcases Nat.lt_or_ge d t.size with h | h
   · simpa [Array.getD, h] using ht
   · simp [Array.getD, Nat.not_lt.2 h, undef] at ht
 unfold yielded
 rw [ho]
 simp only [Option.bind_some, hd]
 rw [h]
end Go.Proofs.YtibbjjlapglndaaGreat
namespace Go.Proofs.YtibbjjlapglndaaGreat
open Go.RowKit
variable {P : Program} {ops : Array Oper}
def distS : List (Option Nat) → Bool
 | [] => true
 | none :: r => distS r
 | some d :: r => !(r.contains (some d)) && distS r
theorem distS_inj : ∀ (S : List (Option Nat)) (i j d : Nat), distS S = true → S[i]? = some (some d) → S[j]? = some (some d) → i = j
 | [], i, _, _, _, h, _ => by simp at h
 | o :: r, i, j, d, hd, hi, hj => by
   have hr : distS r = true := by
     cases o with
     | none => exact hd
     | some d' => simp only [distS, Bool.and_eq_true] at hd; exact hd.2
   have hno : ∀ k, o = some d → r[k]? = some (some d) → False := fun k ho hk => by
     subst ho
     simp only [distS, Bool.and_eq_true, Bool.not_eq_true'] at hd
     have hm : some d ∈ r := List.mem_of_getElem? hk
     rw [← List.contains_iff_mem, hd.1] at hm
     cases hm
   match i, j with
   | 0, 0 => rfl
   | 0, j + 1 => exact (hno j (by simpa using hi) (by simpa using hj)).elim
   | i + 1, 0 => exact (hno i (by simpa using hj) (by simpa using hi)).elim
   | i + 1, j + 1 => exact congrArg (· + 1) (distS_inj r i j d hr (by simpa using hi) (by simpa using hj))
def InvQ (B : Nat) (S : List (Option Nat)) (V : Nat → Value → World → Prop) (w0 : World) (a0 : Act) (l : Array Bool) (a : Act) (W : World) : Prop :=
 l.size = S.length ∧ a.tmps.size = a0.tmps.size ∧ a.defers = a0.defers ∧ (∀ e, some e ∉ S → a.tmps[e]? = a0.tmps[e]?) ∧ Below B w0 W ∧ (∀ j d, l.getD j false = true → S[j]? = some (some d) → V j (a.tmps.getD d undef) W) ∧ (∀ j, l.getD j false = true → S[j]? = some none → V j undef W)
theorem getD_set_q {l : Array Bool} {i j : Nat} (h : (l.setIfInBounds i true).getD j false = true) (hne : j ≠ i) : l.getD j false = true := by
 rw [getD_set_ne false (Ne.symm hne)] at h
 exact h
theorem InvQ.put {B : Nat} {S : List (Option Nat)} {V : Nat → Value → World → Prop} {w0 : World} {a0 : Act} {l : Array Bool} {a : Act} {W W' : World} (h : InvQ B S V w0 a0 l a W) (hS : distS S = true) (i d : Nat) (hi : S[i]? = some (some d)) (hlt : d < a0.tmps.size)
   (hW : Below B w0 W') (hT : ∀ j v, V j v W → V j v W') (v : Value) (hv : V i v W') : InvQ B S V w0 a0 (l.setIfInBounds i true) (a.put (some d) v) W' := by
 obtain ⟨h1, h2, h3, h4, h5, h6, h7⟩ := h
 refine ⟨by simpa using h1, by simpa [Act.put] using h2, h3, fun e he => ?_, hW, fun j d' hj hd' => ?_, fun j hj hn => ?_⟩
 · have hne : d ≠ e := fun hh => he (hh ▸ List.mem_of_getElem? hi)
   simp only [Act.put]
   rw [Array.getElem?_setIfInBounds_ne hne]
   exact h4 e he
 · by_cases hji : j = i
   · subst hji
     rw [hi] at hd'
     cases hd'
     rw [put_getD_same (by omega)]
     exact hv
   · have hne : d ≠ d' := fun hh => hji (distS_inj S j i d hS (hh ▸ hd') hi)
     rw [put_getD_ne hne]
     exact hT _ _ (h6 j d' (getD_set_q hj hji) hd')
 · have hji : j ≠ i := fun hh => by subst hh; rw [hi] at hn; cases hn
   exact hT _ _ (h7 j (getD_set_q hj hji) hn)
theorem wp_region_q {Q : Exit → Act → World → Prop} {id : Nat} {a0 : Act} {w0 : World} (hm : P.follows .mixedOrders = true) (B : Nat) (S : List (Option Nat)) (V : Nat → Value → World → Prop) (hSz : ops.size = S.length)
   (hs : ∀ (Q : Exit → Act → World → Prop) l a W i o, InvQ B S V w0 a0 l a W → l.getD i true = false → ops[i]? = some o → (∀ e ∈ o.after, Region.binds .any e = true → l.getD e.on false = true) → wpOp P ops Q i (InvQ B S V w0 a0 (l.setIfInBounds i true)) a W)
   (hd : ∀ l a W, InvQ B S V w0 a0 l a W → Region.ready .any ops l = [] → Q .normal a W) : (Code.region id ops true).wp P Q a0 w0 := by
 refine wp_region_inv hm (InvQ B S V w0 a0) ⟨by simpa using hSz, rfl, rfl, fun _ _ => rfl, (Below.refl _ w0).drew, fun j d hj => ?_, fun j hj => ?_⟩ (hs Q) hd
 all_goals
   exfalso
   rw [Array.getD_eq_getD_getElem?, Array.getElem?_replicate] at hj
   split at hj <;> simp at hj
def BlkN (W : World) (g n : Nat) : Prop := ∃ vs : List Value, vs.length = n ∧ Blk W g vs
theorem BlkN.step {W W' : World} {g n : Nat} (h : BlkN W g n) (hB : Below W.heap.size W W') : BlkN W' g n := by
 obtain ⟨vs, h1, h2⟩ := h
 exact ⟨vs, h1, h2.step hB⟩
end Go.Proofs.YtibbjjlapglndaaGreat
namespace Go.Proofs.YtibbjjlapglndaaGreat
open Go.RowKit
variable {P : Program} {ops : Array Oper} {Q : Exit → Act → World → Prop} {md : Region.Mode} {F : Fence} {n : Nat}
theorem wpAnyIn_inv (J : Array Bool → Act → World → Prop) (hs : ∀ l a w i o, J l a w → l.getD i true = false → ops[i]? = some o → (∀ e ∈ o.after, Region.binds md e = true → l.getD e.on false = true) → wpOpIn F n P ops Q i (J (l.setIfInBounds i true)) a w)
   (hd : ∀ l a w, J l a w → Region.ready md ops l = [] → Q .normal a w) : ∀ (fuel : Nat) (l : Array Bool) (a : Act) (w : World), open_ l ≤ fuel → J l a w → wpAnyIn F n P md ops Q fuel l a w := by
 intro fuel
 induction fuel with
 | zero =>
   intro l a w hf hJ
   have hr : Region.ready md ops l = [] := by
     rw [List.eq_nil_iff_forall_not_mem]
     intro i hi
     have := open_set (mem_ready.1 hi).1
     omega
   exact ⟨hr, hd l a w hJ hr⟩
 | succ fuel ih =>
   intro l a w hf hJ
   refine ⟨fun hr => hd l a w hJ hr, fun i hi => ?_⟩
   obtain ⟨h0, o, ho, hall⟩ := mem_ready.1 hi
   exact wpOpIn_mono (fun a' w' h' => ih _ a' w' (by have := open_set h0; omega) h') (hs l a w i o hJ h0 ho hall)
theorem wpIn_region_inv {id : Nat} {a : Act} {w : World} (hm : P.follows .mixedOrders = true) (J : Array Bool → Act → World → Prop)
   (h0 : J (Array.replicate ops.size false) a { w with drawn := w.drawn + 1 })
   (hs : ∀ l a w i o, J l a w → l.getD i true = false → ops[i]? = some o → (∀ e ∈ o.after, Region.binds .any e = true → l.getD e.on false = true) → wpOpIn F n P ops Q i (J (l.setIfInBounds i true)) a w)
   (hd : ∀ l a w, J l a w → Region.ready .any ops l = [] → Q .normal a w) : (Code.region id ops true).wpIn F n P Q a w :=
 wpIn_region_any hm (wpAnyIn_inv J hs hd _ _ _ _ (by
   unfold open_
   refine Nat.le_trans List.countP_le_length ?_
   simp) h0)
theorem wpIn_of_wp {l : Nat} {o : Oper} {a : Act} {w : World} {K : Act → World → Prop} (hd : ∀ c, o.op ≠ .defer c) (h : o.wp P a w K Q) : o.wpIn (Fence.wide.inRound l) n P a w K Q := by
 refine ⟨fun f _ => trivial, ?_⟩
 have e : o.semAt (Fence.wide.inRound l).round a.eval = execOp a.eval o := Oper.semAt_some l _ o hd
 rw [e]
 unfold Oper.wp at h
 generalize (execOp a.eval o).run P w = r at *
 cases r with
 | ok x w' =>
   cases x
   case enter f args => exact ⟨fun hh => by simp [Fence.wide, Fence.inRound] at hh, CallsIn.inRound l (callsIn_wide.2 h)⟩
   case row row args => exact ⟨fun hh => by simp [Fence.wide, Fence.inRound] at hh, fun c cs _ => let ⟨v, w2, r, s⟩ := h c cs; ⟨v, w2, r, stepsIn_wide.2 s⟩⟩
   all_goals first | exact h | exact h.elim
 | halt x w' => cases x <;> exact h
theorem wpOpIn_of {l i : Nat} {o : Oper} {a : Act} {w : World} {K : Act → World → Prop} (ho : ops[i]? = some o) (hg : o.guard = none) (hd : ∀ c, o.op ≠ .defer c) (h : o.wp P a w K Q) : wpOpIn (Fence.wide.inRound l) n P ops Q i K a w := by
 unfold wpOpIn
 simp only [ho]
 have hw : Region.wanted o (yielded ops a.tmps) = true := by unfold Region.wanted; rw [hg]
 rw [if_pos hw]
 exact wpIn_of_wp hd h
theorem wpOpIn_off {l i k d : Nat} {b : Bool} {o ok : Oper} {a : Act} {w : World} {K : Act → World → Prop} (ho : ops[i]? = some o) (hg : o.guard = some (k, b)) (hk : ops[k]? = some ok) (hd : ok.dst = some d) (ht : a.tmps.getD d undef = .bool (!b)) (h : K (a.put o.dst undef) w) : wpOpIn (Fence.wide.inRound l) n P ops Q i K a w := by
 unfold wpOpIn
 simp only [ho]
 have hw : Region.wanted o (yielded ops a.tmps) = false := by
   unfold Region.wanted
   rw [hg]
   simp only [yielded_of hk hd ht]
   cases b <;> rfl
 rw [hw]
 exact ⟨fun f _ => trivial, h⟩
theorem wpOpIn_on {l i k d : Nat} {b : Bool} {o ok : Oper} {a : Act} {w : World} {K : Act → World → Prop} (ho : ops[i]? = some o) (hg : o.guard = some (k, b)) (hk : ops[k]? = some ok) (hd : ok.dst = some d) (ht : a.tmps.getD d undef = .bool b) (hn : ∀ c, o.op ≠ .defer c) (h : o.wp P a w K Q) : wpOpIn (Fence.wide.inRound l) n P ops Q i K a w := by
 unfold wpOpIn
 simp only [ho]
 have hw : Region.wanted o (yielded ops a.tmps) = true := by
   unfold Region.wanted
   rw [hg]
   simp only [yielded_of hk hd ht]
   cases b <;> rfl
 rw [if_pos hw]
 exact wpIn_of_wp hn h
theorem wpIn_region_q {id : Nat} {a0 : Act} {w0 : World} (hm : P.follows .mixedOrders = true) (B : Nat) (S : List (Option Nat)) (V : Nat → Value → World → Prop) (hSz : ops.size = S.length)
   (hs : ∀ (Q : Exit → Act → World → Prop) l a W i o, InvQ B S V w0 a0 l a W → l.getD i true = false → ops[i]? = some o → (∀ e ∈ o.after, Region.binds .any e = true → l.getD e.on false = true) → wpOpIn F n P ops Q i (InvQ B S V w0 a0 (l.setIfInBounds i true)) a W)
   (hd : ∀ l a W, InvQ B S V w0 a0 l a W → Region.ready .any ops l = [] → Q .normal a W) : (Code.region id ops true).wpIn F n P Q a0 w0 := by
 refine wpIn_region_inv hm (InvQ B S V w0 a0) ⟨by simpa using hSz, rfl, rfl, fun _ _ => rfl, (Below.refl _ w0).drew, fun j d hj => ?_, fun j hj => ?_⟩ (hs Q) hd
 all_goals
   exfalso
   rw [Array.getD_eq_getD_getElem?, Array.getElem?_replicate] at hj
   split at hj <;> simp at hj
end Go.Proofs.YtibbjjlapglndaaGreat
namespace Go.Proofs.YtibbjjlapglndaaGreat
open Go.RowKit
theorem rn_small {a : Int} (h : -1000000 ≤ a ∧ a ≤ 1000000) : small a = true := small_int (by omega) (by omega)
theorem rn_one : small 1 = true := small_int (by omega) (by omega)
def VregSideOn (c d x y z o : Int) (Bs : Nat) (_B : Nat) : Nat → Value → World → Prop
 | 0, v, _ => v = .int .i64 o
 | 1, v, _ => v = .bool true
 | 2, v, _ => v = .bool true
 | 3, v, _ => v = PV x y z
 | 4, v, _ => v = .pointer (some ⟨Bs, 2, none⟩)
 | 5, v, _ => v = Sp c d
 | 6, v, _ => v = PV c d 1
 | 7, v, _ => v = .int .i64 (cmpI (x * 1) (c * z))
 | 8, v, _ => v = .bool (decide (cmpI (x * 1) (c * z) < 0))
 | 9, v, _ => v = .bool (decide (cmpI (x * 1) (c * z) < 0))
 | _, _, _ => True
theorem VregSideOn.mono {c d x y z o : Int} {Bs : Nat} {B j : Nat} {v : Value} {W W2 : World} (_hS : ∀ g k, BlkN W g k → BlkN W2 g k) (h : VregSideOn c d x y z o Bs B j v W) : VregSideOn c d x y z o Bs B j v W2 := by
 unfold VregSideOn at *
 split <;> simp only at h <;> first | exact h | trivial
set_option maxRecDepth 100000 in
set_option maxHeartbeats 4000000 in
theorem regSideOn {Q : Exit → Act → World → Prop} {c d x y z o : Int} {Bs : Nat} {a b : Int} {Bp : Nat} {lr nr : Nat} {w0 : World} {a0 : Act} {idq : Nat} {t0 t1 t2 t3 t4 t5 t6 t7 t8 t9 : TypeId} {q0 q1 q2 q3 q4 q5 q6 q7 q8 q9 : String}
   (ho : (o == 1) = true) (ic : -1000000 ≤ c ∧ c ≤ 1000000) (jd : -1000000 ≤ d ∧ d ≤ 1000000) (sx : small x = true) (sz : small z = true) (h3 : a0.tmps[3]? = some (.pointer (some ⟨Bp, 0, none⟩))) (h7 : a0.tmps[7]? = some (.pointer (some ⟨Bs, 0, none⟩))) (h8 : a0.tmps[8]? = some (.int .i64 o)) (k0 : w0.cell? ⟨Bp, 0, none⟩ = some (.int .u64 (ww3 x))) (l0 : (⟨Bp, 0, none⟩ : Addr).block < w0.heap.size) (k1 : w0.cell? ⟨Bp, 1, none⟩ = some (.int .u64 (ww2 x))) (l1 : (⟨Bp, 1, none⟩ : Addr).block < w0.heap.size) (k2 : w0.cell? ⟨Bp, 2, none⟩ = some (.int .u64 (ww1 x))) (l2 : (⟨Bp, 2, none⟩ : Addr).block < w0.heap.size) (k3 : w0.cell? ⟨Bp, 3, none⟩ = some (.int .u64 (ww0 x))) (l3 : (⟨Bp, 3, none⟩ : Addr).block < w0.heap.size) (k4 : w0.cell? ⟨Bp, 4, none⟩ = some (.int .u64 (ww3 y))) (l4 : (⟨Bp, 4, none⟩ : Addr).block < w0.heap.size) (k5 : w0.cell? ⟨Bp, 5, none⟩ = some (.int .u64 (ww2 y))) (l5 : (⟨Bp, 5, none⟩ : Addr).block < w0.heap.size) (k6 : w0.cell? ⟨Bp, 6, none⟩ = some (.int .u64 (ww1 y))) (l6 : (⟨Bp, 6, none⟩ : Addr).block < w0.heap.size) (k7 : w0.cell? ⟨Bp, 7, none⟩ = some (.int .u64 (ww0 y))) (l7 : (⟨Bp, 7, none⟩ : Addr).block < w0.heap.size) (k8 : w0.cell? ⟨Bp, 8, none⟩ = some (.int .u64 (ww3 z))) (l8 : (⟨Bp, 8, none⟩ : Addr).block < w0.heap.size) (k9 : w0.cell? ⟨Bp, 9, none⟩ = some (.int .u64 (ww2 z))) (l9 : (⟨Bp, 9, none⟩ : Addr).block < w0.heap.size) (k10 : w0.cell? ⟨Bp, 10, none⟩ = some (.int .u64 (ww1 z))) (l10 : (⟨Bp, 10, none⟩ : Addr).block < w0.heap.size) (k11 : w0.cell? ⟨Bp, 11, none⟩ = some (.int .u64 (ww0 z))) (l11 : (⟨Bp, 11, none⟩ : Addr).block < w0.heap.size) (k12 : w0.cell? ⟨Bs, 0, none⟩ = some (.int .i64 a)) (l12 : (⟨Bs, 0, none⟩ : Addr).block < w0.heap.size) (k13 : w0.cell? ⟨Bs, 1, none⟩ = some (.int .i64 b)) (l13 : (⟨Bs, 1, none⟩ : Addr).block < w0.heap.size) (k14 : w0.cell? ⟨Bs, 2, none⟩ = some (.int .i64 c)) (l14 : (⟨Bs, 2, none⟩ : Addr).block < w0.heap.size) (k15 : w0.cell? ⟨Bs, 3, none⟩ = some (.int .i64 d)) (l15 : (⟨Bs, 3, none⟩ : Addr).block < w0.heap.size) (hz : a0.tmps.size = 31)
   (hQ : ∀ aq W, aq.tmps.size = a0.tmps.size → aq.defers = a0.defers → (∀ e, e ∉ ([18, 19, 20, 21, 22, 23, 24, 25, 26, 27] : List Nat) → aq.tmps[e]? = a0.tmps[e]?) → VregSideOn c d x y z o Bs w0.heap.size 9 (aq.tmps.getD 27 undef) W → Below w0.heap.size w0 W → Q .normal aq W) :
   (Code.region idq #[{ dst := some 18, op := Op.move (Operand.tmp 8), type := t0, pos := q0, after := #[], guard := none },
   { dst := some 19, op := Op.binOp BinOp.eql 2 (Operand.tmp 18) (Operand.const (Value.int IntKind.i64 1)) 2, type := t1, pos := q1, after := #[{ on := 0, ground := Ground.data }], guard := none },
   { dst := some 20, op := Op.move (Operand.tmp 19), type := t2, pos := q2, after := #[{ on := 1, ground := Ground.data }], guard := none },
   { dst := some 21, op := Op.load 38 (Operand.tmp 3), type := t3, pos := q3, after := #[{ on := 2, ground := Ground.guard }], guard := some (2, true) },
   { dst := some 22, op := Op.fieldAddr 83 (Operand.tmp 7) 1, type := t4, pos := q4, after := #[{ on := 2, ground := Ground.guard }], guard := some (2, true) },
   { dst := some 23, op := Op.load 81 (Operand.tmp 22), type := t5, pos := q5, after := #[{ on := 4, ground := Ground.data }, { on := 2, ground := Ground.guard }], guard := some (2, true) },
   { dst := some 24, op := Op.call { callee := Callee.value (Operand.func 68), args := #[Operand.tmp 23], argTypes := #[81] }, type := t6, pos := q6, after := #[{ on := 5, ground := Ground.data }, { on := 2, ground := Ground.chain }, { on := 2, ground := Ground.guard }], guard := some (2, true) },
   { dst := some 25, op := Op.call { callee := Callee.value (Operand.func 67), args := #[Operand.tmp 21, Operand.tmp 24], argTypes := #[38, 38] }, type := t7, pos := q7, after := #[{ on := 3, ground := Ground.data }, { on := 6, ground := Ground.data }, { on := 6, ground := Ground.chain }, { on := 2, ground := Ground.guard }], guard := some (2, true) },
   { dst := some 26, op := Op.binOp BinOp.lss 2 (Operand.tmp 25) (Operand.const (Value.int IntKind.i64 0)) 2, type := t8, pos := q8, after := #[{ on := 7, ground := Ground.data }, { on := 2, ground := Ground.guard }], guard := some (2, true) },
   { dst := some 27, op := Op.pick (Operand.tmp 20) (Operand.tmp 26) (Operand.const (Value.bool false)), type := t9, pos := q9, after := #[{ on := 2, ground := Ground.data }, { on := 8, ground := Ground.data }], guard := none }] true).wpIn (Fence.wide.inRound lr) nr Tryz.prog Q a0 w0 := by
 have hS : distS [some 18, some 19, some 20, some 21, some 22, some 23, some 24, some 25, some 26, some 27] = true := rfl
 refine wpIn_region_q (by kernel_rfl) w0.heap.size [some 18, some 19, some 20, some 21, some 22, some 23, some 24, some 25, some 26, some 27] (VregSideOn c d x y z o Bs w0.heap.size) rfl ?_ ?_
 · intro Q lq aq W iq oq hJ hl ho hall
   have hJ2 := hJ
   obtain ⟨z1, z2, z3, z4, z5, z6, z7⟩ := hJ
   have g3 : aq.tmps.getD 3 undef = .pointer (some ⟨Bp, 0, none⟩) := by rw [Array.getD_eq_getD_getElem?, z4 3 (by decide), h3]; rfl
   have g7 : aq.tmps.getD 7 undef = .pointer (some ⟨Bs, 0, none⟩) := by rw [Array.getD_eq_getD_getElem?, z4 7 (by decide), h7]; rfl
   have g8 : aq.tmps.getD 8 undef = .int .i64 o := by rw [Array.getD_eq_getD_getElem?, z4 8 (by decide), h8]; rfl
   have c0 : W.cell? ⟨Bp, 0, none⟩ = some (.int .u64 (ww3 x)) := (z5.cell l0).trans k0
   have c1 : W.cell? ⟨Bp, 1, none⟩ = some (.int .u64 (ww2 x)) := (z5.cell l1).trans k1
   have c2 : W.cell? ⟨Bp, 2, none⟩ = some (.int .u64 (ww1 x)) := (z5.cell l2).trans k2
   have c3 : W.cell? ⟨Bp, 3, none⟩ = some (.int .u64 (ww0 x)) := (z5.cell l3).trans k3
   have c4 : W.cell? ⟨Bp, 4, none⟩ = some (.int .u64 (ww3 y)) := (z5.cell l4).trans k4
   have c5 : W.cell? ⟨Bp, 5, none⟩ = some (.int .u64 (ww2 y)) := (z5.cell l5).trans k5
   have c6 : W.cell? ⟨Bp, 6, none⟩ = some (.int .u64 (ww1 y)) := (z5.cell l6).trans k6
   have c7 : W.cell? ⟨Bp, 7, none⟩ = some (.int .u64 (ww0 y)) := (z5.cell l7).trans k7
   have c8 : W.cell? ⟨Bp, 8, none⟩ = some (.int .u64 (ww3 z)) := (z5.cell l8).trans k8
   have c9 : W.cell? ⟨Bp, 9, none⟩ = some (.int .u64 (ww2 z)) := (z5.cell l9).trans k9
   have c10 : W.cell? ⟨Bp, 10, none⟩ = some (.int .u64 (ww1 z)) := (z5.cell l10).trans k10
   have c11 : W.cell? ⟨Bp, 11, none⟩ = some (.int .u64 (ww0 z)) := (z5.cell l11).trans k11
   have c12 : W.cell? ⟨Bs, 0, none⟩ = some (.int .i64 a) := (z5.cell l12).trans k12
   have c13 : W.cell? ⟨Bs, 1, none⟩ = some (.int .i64 b) := (z5.cell l13).trans k13
   have c14 : W.cell? ⟨Bs, 2, none⟩ = some (.int .i64 c) := (z5.cell l14).trans k14
   have c15 : W.cell? ⟨Bs, 3, none⟩ = some (.int .i64 d) := (z5.cell l15).trans k15
   match iq, ho with
   | 0, ho =>
     cases ho
     refine wpOpIn_of rfl rfl (by intro c h; cases h) ?_
     have hK := fun (v : Value) (W2 : World) hW hT hv => hJ2.put hS 0 18 rfl (by omega) (W' := W2) hW hT v hv
     clear ho hall hl hQ
     generalize InvQ w0.heap.size [some 18, some 19, some 20, some 21, some 22, some 23, some 24, some 25, some 26, some 27] (VregSideOn c d x y z o Bs w0.heap.size) w0 a0 (lq.setIfInBounds 0 true) = K at hK ⊢
     clear hJ2 hS z1 z2 z3 z4 z6 z7
     go_simp
     exact hK _ _ z5 (fun _ _ h => h) rfl
   | 1, ho =>
     cases ho
     refine wpOpIn_of rfl rfl (by intro c h; cases h) ?_
     have f0 : (aq.tmps.getD 18 undef) = .int .i64 o := z6 0 18 (hall { on := 0, ground := Ground.data } (by simp) rfl) rfl
     have hK := fun (v : Value) (W2 : World) hW hT hv => hJ2.put hS 1 19 rfl (by omega) (W' := W2) hW hT v hv
     clear ho hall hl hQ
     generalize InvQ w0.heap.size [some 18, some 19, some 20, some 21, some 22, some 23, some 24, some 25, some 26, some 27] (VregSideOn c d x y z o Bs w0.heap.size) w0 a0 (lq.setIfInBounds 1 true) = K at hK ⊢
     clear hJ2 hS z1 z2 z3 z4 z6 z7
     go_simp
     exact hK _ _ z5 (fun _ _ h => h) rfl
   | 2, ho =>
     cases ho
     refine wpOpIn_of rfl rfl (by intro c h; cases h) ?_
     have f1 : (aq.tmps.getD 19 undef) = .bool true := z6 1 19 (hall { on := 1, ground := Ground.data } (by simp) rfl) rfl
     have hK := fun (v : Value) (W2 : World) hW hT hv => hJ2.put hS 2 20 rfl (by omega) (W' := W2) hW hT v hv
     clear ho hall hl hQ
     generalize InvQ w0.heap.size [some 18, some 19, some 20, some 21, some 22, some 23, some 24, some 25, some 26, some 27] (VregSideOn c d x y z o Bs w0.heap.size) w0 a0 (lq.setIfInBounds 2 true) = K at hK ⊢
     clear hJ2 hS z1 z2 z3 z4 z6 z7
     go_simp
     exact hK _ _ z5 (fun _ _ h => h) rfl
   | 3, ho =>
     cases ho
     have fg : aq.tmps.getD 20 undef = .bool true := z6 2 20 (hall { on := 2, ground := Ground.guard } (by simp) rfl) rfl
     refine wpOpIn_on rfl rfl rfl rfl fg (by intro c h; cases h) ?_
     have hK := fun (v : Value) (W2 : World) hW hT hv => hJ2.put hS 3 21 rfl (by omega) (W' := W2) hW hT v hv
     clear ho hall hl hQ
     generalize InvQ w0.heap.size [some 18, some 19, some 20, some 21, some 22, some 23, some 24, some 25, some 26, some 27] (VregSideOn c d x y z o Bs w0.heap.size) w0 a0 (lq.setIfInBounds 3 true) = K at hK ⊢
     clear hJ2 hS z1 z2 z3 z4 z6 z7
     go_simp
     exact hK _ _ z5 (fun _ _ h => h) rfl
   | 4, ho =>
     cases ho
     have fg : aq.tmps.getD 20 undef = .bool true := z6 2 20 (hall { on := 2, ground := Ground.guard } (by simp) rfl) rfl
     refine wpOpIn_on rfl rfl rfl rfl fg (by intro c h; cases h) ?_
     have hK := fun (v : Value) (W2 : World) hW hT hv => hJ2.put hS 4 22 rfl (by omega) (W' := W2) hW hT v hv
     clear ho hall hl hQ
     generalize InvQ w0.heap.size [some 18, some 19, some 20, some 21, some 22, some 23, some 24, some 25, some 26, some 27] (VregSideOn c d x y z o Bs w0.heap.size) w0 a0 (lq.setIfInBounds 4 true) = K at hK ⊢
     clear hJ2 hS z1 z2 z3 z4 z6 z7
     go_simp
     exact hK _ _ z5 (fun _ _ h => h) rfl
   | 5, ho =>
     cases ho
     have fg : aq.tmps.getD 20 undef = .bool true := z6 2 20 (hall { on := 2, ground := Ground.guard } (by simp) rfl) rfl
     refine wpOpIn_on rfl rfl rfl rfl fg (by intro c h; cases h) ?_
     have f4 : (aq.tmps.getD 22 undef) = .pointer (some ⟨Bs, 2, none⟩) := z6 4 22 (hall { on := 4, ground := Ground.data } (by simp) rfl) rfl
     have hK := fun (v : Value) (W2 : World) hW hT hv => hJ2.put hS 5 23 rfl (by omega) (W' := W2) hW hT v hv
     clear ho hall hl hQ
     generalize InvQ w0.heap.size [some 18, some 19, some 20, some 21, some 22, some 23, some 24, some 25, some 26, some 27] (VregSideOn c d x y z o Bs w0.heap.size) w0 a0 (lq.setIfInBounds 5 true) = K at hK ⊢
     clear hJ2 hS z1 z2 z3 z4 z6 z7
     go_simp
     exact hK _ _ z5 (fun _ _ h => h) rfl
   | 6, ho =>
     cases ho
     have fg : aq.tmps.getD 20 undef = .bool true := z6 2 20 (hall { on := 2, ground := Ground.guard } (by simp) rfl) rfl
     refine wpOpIn_on rfl rfl rfl rfl fg (by intro c h; cases h) ?_
     have f5 : (aq.tmps.getD 23 undef) = Sp c d := z6 5 23 (hall { on := 5, ground := Ground.data } (by simp) rfl) rfl
     have hK := fun (v : Value) (W2 : World) hW hT hv => hJ2.put hS 6 24 rfl (by omega) (W' := W2) hW hT v hv
     clear ho hall hl hQ
     generalize InvQ w0.heap.size [some 18, some 19, some 20, some 21, some 22, some 23, some 24, some 25, some 26, some 27] (VregSideOn c d x y z o Bs w0.heap.size) w0 a0 (lq.setIfInBounds 6 true) = K at hK ⊢
     clear hJ2 hS z1 z2 z3 z4 z6 z7
     go_simp
     refine (implPointOf_any c d (by omega) (by omega) (by omega) (by omega) W).mono ?_
     rintro e v1 ⟨rfl, hBv⟩
     exact hK _ _ (z5.trans (hBv.mono z5.size)) (fun j v h => h.mono fun g k hg => hg.step hBv) rfl
   | 7, ho =>
     cases ho
     have fg : aq.tmps.getD 20 undef = .bool true := z6 2 20 (hall { on := 2, ground := Ground.guard } (by simp) rfl) rfl
     refine wpOpIn_on rfl rfl rfl rfl fg (by intro c h; cases h) ?_
     have f3 : (aq.tmps.getD 21 undef) = PV x y z := z6 3 21 (hall { on := 3, ground := Ground.data } (by simp) rfl) rfl
     have f6 : (aq.tmps.getD 24 undef) = PV c d 1 := z6 6 24 (hall { on := 6, ground := Ground.data } (by simp) rfl) rfl
     have hK := fun (v : Value) (W2 : World) hW hT hv => hJ2.put hS 7 25 rfl (by omega) (W' := W2) hW hT v hv
     clear ho hall hl hQ
     generalize InvQ w0.heap.size [some 18, some 19, some 20, some 21, some 22, some 23, some 24, some 25, some 26, some 27] (VregSideOn c d x y z o Bs w0.heap.size) w0 a0 (lq.setIfInBounds 7 true) = K at hK ⊢
     clear hJ2 hS z1 z2 z3 z4 z6 z7
     go_simp
     refine (byX_det x y z c d 1 sx sz (rn_small ic) rn_one W).mono ?_
     rintro e v1 ⟨rfl, hBv⟩
     exact hK _ _ (z5.trans (hBv.mono z5.size)) (fun j v h => h.mono fun g k hg => hg.step hBv) rfl
   | 8, ho =>
     cases ho
     have fg : aq.tmps.getD 20 undef = .bool true := z6 2 20 (hall { on := 2, ground := Ground.guard } (by simp) rfl) rfl
     refine wpOpIn_on rfl rfl rfl rfl fg (by intro c h; cases h) ?_
     have f7 : (aq.tmps.getD 25 undef) = .int .i64 (cmpI (x * 1) (c * z)) := z6 7 25 (hall { on := 7, ground := Ground.data } (by simp) rfl) rfl
     have hK := fun (v : Value) (W2 : World) hW hT hv => hJ2.put hS 8 26 rfl (by omega) (W' := W2) hW hT v hv
     clear ho hall hl hQ
     generalize InvQ w0.heap.size [some 18, some 19, some 20, some 21, some 22, some 23, some 24, some 25, some 26, some 27] (VregSideOn c d x y z o Bs w0.heap.size) w0 a0 (lq.setIfInBounds 8 true) = K at hK ⊢
     clear hJ2 hS z1 z2 z3 z4 z6 z7
     obtain ⟨zc, hzc⟩ : ∃ q, q = cmpI (x * 1) (c * z) := ⟨_, rfl⟩
     rw [← hzc] at f7
     have HZ : Hid (zc = cmpI (x * 1) (c * z)) := hzc
     clear hzc
     go_simp
     exact hK _ _ z5 (fun _ _ h => h) (by show Value.bool _ = Value.bool _; rw [HZ.out])
   | 9, ho =>
     cases ho
     refine wpOpIn_of rfl rfl (by intro c h; cases h) ?_
     have f2 : (aq.tmps.getD 20 undef) = .bool true := z6 2 20 (hall { on := 2, ground := Ground.data } (by simp) rfl) rfl
     have f8 : (aq.tmps.getD 26 undef) = .bool (decide (cmpI (x * 1) (c * z) < 0)) := z6 8 26 (hall { on := 8, ground := Ground.data } (by simp) rfl) rfl
     have hK := fun (v : Value) (W2 : World) hW hT hv => hJ2.put hS 9 27 rfl (by omega) (W' := W2) hW hT v hv
     clear ho hall hl hQ
     generalize InvQ w0.heap.size [some 18, some 19, some 20, some 21, some 22, some 23, some 24, some 25, some 26, some 27] (VregSideOn c d x y z o Bs w0.heap.size) w0 a0 (lq.setIfInBounds 9 true) = K at hK ⊢
     clear hJ2 hS z1 z2 z3 z4 z6 z7
     cases hzb : decide (cmpI (x * 1) (c * z) < 0)
     all_goals rw [hzb] at f8
     all_goals have HZ : Hid (decide (cmpI (x * 1) (c * z) < 0) = _) := hzb
     all_goals clear hzb
     all_goals go_simp
     all_goals exact hK _ _ z5 (fun _ _ h => h) (congrArg Value.bool HZ.out.symm)
   | iq + 10, ho => simp at ho
 · intro lq aq W hJ hr
   obtain ⟨z1, z2, z3, z4, z5, z6, z7⟩ := hJ
   have hl := listed_of hr [0, 1, 2, 3, 4, 5, 6, 7, 8, 9] [] (by simp) (by kernel_rfl) (by rw [z1]; decide)
   exact hQ aq W z2 z3 (fun e he => z4 e (by simpa using he)) (z6 9 27 (hl 9 (by simp)) rfl) z5
def VregSideOff (o : Int) (_B : Nat) : Nat → Value → World → Prop
 | 0, v, _ => v = .int .i64 o
 | 1, v, _ => v = .bool false
 | 2, v, _ => v = .bool false
 | 3, v, _ => v = undef
 | 4, v, _ => v = undef
 | 5, v, _ => v = undef
 | 6, v, _ => v = undef
 | 7, v, _ => v = undef
 | 8, v, _ => v = undef
 | 9, v, _ => v = .bool false
 | _, _, _ => True
set_option maxRecDepth 100000 in
set_option maxHeartbeats 4000000 in
theorem regSideOff {Q : Exit → Act → World → Prop} {o : Int}  {lr nr : Nat} {w0 : World} {a0 : Act} {idq : Nat} {t0 t1 t2 t3 t4 t5 t6 t7 t8 t9 : TypeId} {q0 q1 q2 q3 q4 q5 q6 q7 q8 q9 : String}
   (ho : (o == 1) = false) (h8 : a0.tmps[8]? = some (.int .i64 o))  (hz : a0.tmps.size = 31)
   (hQ : ∀ aq W, aq.tmps.size = a0.tmps.size → aq.defers = a0.defers → (∀ e, e ∉ ([18, 19, 20, 21, 22, 23, 24, 25, 26, 27] : List Nat) → aq.tmps[e]? = a0.tmps[e]?) → VregSideOff o w0.heap.size 9 (aq.tmps.getD 27 undef) W → Below w0.heap.size w0 W → Q .normal aq W) :
   (Code.region idq #[{ dst := some 18, op := Op.move (Operand.tmp 8), type := t0, pos := q0, after := #[], guard := none },
   { dst := some 19, op := Op.binOp BinOp.eql 2 (Operand.tmp 18) (Operand.const (Value.int IntKind.i64 1)) 2, type := t1, pos := q1, after := #[{ on := 0, ground := Ground.data }], guard := none },
   { dst := some 20, op := Op.move (Operand.tmp 19), type := t2, pos := q2, after := #[{ on := 1, ground := Ground.data }], guard := none },
   { dst := some 21, op := Op.load 38 (Operand.tmp 3), type := t3, pos := q3, after := #[{ on := 2, ground := Ground.guard }], guard := some (2, true) },
   { dst := some 22, op := Op.fieldAddr 83 (Operand.tmp 7) 1, type := t4, pos := q4, after := #[{ on := 2, ground := Ground.guard }], guard := some (2, true) },
   { dst := some 23, op := Op.load 81 (Operand.tmp 22), type := t5, pos := q5, after := #[{ on := 4, ground := Ground.data }, { on := 2, ground := Ground.guard }], guard := some (2, true) },
   { dst := some 24, op := Op.call { callee := Callee.value (Operand.func 68), args := #[Operand.tmp 23], argTypes := #[81] }, type := t6, pos := q6, after := #[{ on := 5, ground := Ground.data }, { on := 2, ground := Ground.chain }, { on := 2, ground := Ground.guard }], guard := some (2, true) },
   { dst := some 25, op := Op.call { callee := Callee.value (Operand.func 67), args := #[Operand.tmp 21, Operand.tmp 24], argTypes := #[38, 38] }, type := t7, pos := q7, after := #[{ on := 3, ground := Ground.data }, { on := 6, ground := Ground.data }, { on := 6, ground := Ground.chain }, { on := 2, ground := Ground.guard }], guard := some (2, true) },
   { dst := some 26, op := Op.binOp BinOp.lss 2 (Operand.tmp 25) (Operand.const (Value.int IntKind.i64 0)) 2, type := t8, pos := q8, after := #[{ on := 7, ground := Ground.data }, { on := 2, ground := Ground.guard }], guard := some (2, true) },
   { dst := some 27, op := Op.pick (Operand.tmp 20) (Operand.tmp 26) (Operand.const (Value.bool false)), type := t9, pos := q9, after := #[{ on := 2, ground := Ground.data }, { on := 8, ground := Ground.data }], guard := none }] true).wpIn (Fence.wide.inRound lr) nr Tryz.prog Q a0 w0 := by
 have hS : distS [some 18, some 19, some 20, some 21, some 22, some 23, some 24, some 25, some 26, some 27] = true := rfl
 refine wpIn_region_q (by kernel_rfl) w0.heap.size [some 18, some 19, some 20, some 21, some 22, some 23, some 24, some 25, some 26, some 27] (VregSideOff o w0.heap.size) rfl ?_ ?_
 · intro Q lq aq W iq oq hJ hl ho hall
   have hJ2 := hJ
   obtain ⟨z1, z2, z3, z4, z5, z6, z7⟩ := hJ
   have g8 : aq.tmps.getD 8 undef = .int .i64 o := by rw [Array.getD_eq_getD_getElem?, z4 8 (by decide), h8]; rfl
   match iq, ho with
   | 0, ho =>
     cases ho
     refine wpOpIn_of rfl rfl (by intro c h; cases h) ?_
     have hK := fun (v : Value) (W2 : World) hW hT hv => hJ2.put hS 0 18 rfl (by omega) (W' := W2) hW hT v hv
     clear ho hall hl hQ
     generalize InvQ w0.heap.size [some 18, some 19, some 20, some 21, some 22, some 23, some 24, some 25, some 26, some 27] (VregSideOff o w0.heap.size) w0 a0 (lq.setIfInBounds 0 true) = K at hK ⊢
     clear hJ2 hS z1 z2 z3 z4 z6 z7
     go_simp
     exact hK _ _ z5 (fun _ _ h => h) rfl
   | 1, ho =>
     cases ho
     refine wpOpIn_of rfl rfl (by intro c h; cases h) ?_
     have f0 : (aq.tmps.getD 18 undef) = .int .i64 o := z6 0 18 (hall { on := 0, ground := Ground.data } (by simp) rfl) rfl
     have hK := fun (v : Value) (W2 : World) hW hT hv => hJ2.put hS 1 19 rfl (by omega) (W' := W2) hW hT v hv
     clear ho hall hl hQ
     generalize InvQ w0.heap.size [some 18, some 19, some 20, some 21, some 22, some 23, some 24, some 25, some 26, some 27] (VregSideOff o w0.heap.size) w0 a0 (lq.setIfInBounds 1 true) = K at hK ⊢
     clear hJ2 hS z1 z2 z3 z4 z6 z7
     go_simp
     exact hK _ _ z5 (fun _ _ h => h) rfl
   | 2, ho =>
     cases ho
     refine wpOpIn_of rfl rfl (by intro c h; cases h) ?_
     have f1 : (aq.tmps.getD 19 undef) = .bool false := z6 1 19 (hall { on := 1, ground := Ground.data } (by simp) rfl) rfl
     have hK := fun (v : Value) (W2 : World) hW hT hv => hJ2.put hS 2 20 rfl (by omega) (W' := W2) hW hT v hv
     clear ho hall hl hQ
     generalize InvQ w0.heap.size [some 18, some 19, some 20, some 21, some 22, some 23, some 24, some 25, some 26, some 27] (VregSideOff o w0.heap.size) w0 a0 (lq.setIfInBounds 2 true) = K at hK ⊢
     clear hJ2 hS z1 z2 z3 z4 z6 z7
     go_simp
     exact hK _ _ z5 (fun _ _ h => h) rfl
   | 3, ho =>
     cases ho
     have fg : aq.tmps.getD 20 undef = .bool false := z6 2 20 (hall { on := 2, ground := Ground.guard } (by simp) rfl) rfl
     refine wpOpIn_off rfl rfl rfl rfl fg ?_
     exact hJ2.put hS 3 21 rfl (by omega) z5 (fun _ _ h => h) undef rfl
   | 4, ho =>
     cases ho
     have fg : aq.tmps.getD 20 undef = .bool false := z6 2 20 (hall { on := 2, ground := Ground.guard } (by simp) rfl) rfl
     refine wpOpIn_off rfl rfl rfl rfl fg ?_
     exact hJ2.put hS 4 22 rfl (by omega) z5 (fun _ _ h => h) undef rfl
   | 5, ho =>
     cases ho
     have fg : aq.tmps.getD 20 undef = .bool false := z6 2 20 (hall { on := 2, ground := Ground.guard } (by simp) rfl) rfl
     refine wpOpIn_off rfl rfl rfl rfl fg ?_
     exact hJ2.put hS 5 23 rfl (by omega) z5 (fun _ _ h => h) undef rfl
   | 6, ho =>
     cases ho
     have fg : aq.tmps.getD 20 undef = .bool false := z6 2 20 (hall { on := 2, ground := Ground.guard } (by simp) rfl) rfl
     refine wpOpIn_off rfl rfl rfl rfl fg ?_
     exact hJ2.put hS 6 24 rfl (by omega) z5 (fun _ _ h => h) undef rfl
   | 7, ho =>
     cases ho
     have fg : aq.tmps.getD 20 undef = .bool false := z6 2 20 (hall { on := 2, ground := Ground.guard } (by simp) rfl) rfl
     refine wpOpIn_off rfl rfl rfl rfl fg ?_
     exact hJ2.put hS 7 25 rfl (by omega) z5 (fun _ _ h => h) undef rfl
   | 8, ho =>
     cases ho
     have fg : aq.tmps.getD 20 undef = .bool false := z6 2 20 (hall { on := 2, ground := Ground.guard } (by simp) rfl) rfl
     refine wpOpIn_off rfl rfl rfl rfl fg ?_
     exact hJ2.put hS 8 26 rfl (by omega) z5 (fun _ _ h => h) undef rfl
   | 9, ho =>
     cases ho
     refine wpOpIn_of rfl rfl (by intro c h; cases h) ?_
     have f2 : (aq.tmps.getD 20 undef) = .bool false := z6 2 20 (hall { on := 2, ground := Ground.data } (by simp) rfl) rfl
     have f8 : (aq.tmps.getD 26 undef) = undef := z6 8 26 (hall { on := 8, ground := Ground.data } (by simp) rfl) rfl
     have hK := fun (v : Value) (W2 : World) hW hT hv => hJ2.put hS 9 27 rfl (by omega) (W' := W2) hW hT v hv
     clear ho hall hl hQ
     generalize InvQ w0.heap.size [some 18, some 19, some 20, some 21, some 22, some 23, some 24, some 25, some 26, some 27] (VregSideOff o w0.heap.size) w0 a0 (lq.setIfInBounds 9 true) = K at hK ⊢
     clear hJ2 hS z1 z2 z3 z4 z6 z7
     go_simp
     exact hK _ _ z5 (fun _ _ h => h) rfl
   | iq + 10, ho => simp at ho
 · intro lq aq W hJ hr
   obtain ⟨z1, z2, z3, z4, z5, z6, z7⟩ := hJ
   have hl := listed_of hr [0, 1, 2, 3, 4, 5, 6, 7, 8, 9] [] (by simp) (by kernel_rfl) (by rw [z1]; decide)
   exact hQ aq W z2 z3 (fun e he => z4 e (by simpa using he)) (z6 9 27 (hl 9 (by simp)) rfl) z5
set_option maxRecDepth 100000 in
set_option maxHeartbeats 400000 in
theorem implSegOf_any (x y u v A B C D : Int) (l k : Bool) (hl : lessI u v x y = l) (hk : segOk A B C D = k) (hA : cond l u x = A) (hB : cond l v y = B) (hC : cond l x u = C) (hD : cond l y v = D) (w : World) :
   Calls Tryz.prog 97 #[Sp x y, Sp u v] w (VP (.tuple #[Sg (cond k A 0) (cond k B 0) (cond k C 0) (cond k D 0), .bool k]) w) := by
 cases l <;> simp only [cond_true, cond_false] at hA hB hC hD <;> subst hA hB hC hD
 · have B0 := Blk.new w [.int .i64 x, .int .i64 y] 81 rfl
   have HB0 : Below w.heap.size w _ := (Below.refl _ w).alloc (Nat.le_refl _) (.cells #[.int .i64 x, .int .i64 y] 81)
   have B1 := Blk.new (w.alloc (.cells #[.int .i64 x, .int .i64 y] 81)) [.int .i64 u, .int .i64 v] 81 (g := w.heap.size + 1) (by simp)
   replace B0 := B0.alloc (.cells #[.int .i64 u, .int .i64 v] 81)
   replace HB0 := HB0.alloc (by simp) (.cells #[.int .i64 u, .int .i64 v] 81)
   have B2 := Blk.new ((w.alloc (.cells #[.int .i64 x, .int .i64 y] 81)).alloc (.cells #[.int .i64 u, .int .i64 v] 81)) [.int .i64 0, .int .i64 0, .int .i64 0, .int .i64 0] 83 (g := w.heap.size + 1 + 1) (by simp)
   replace B0 := B0.alloc (.cells #[.int .i64 0, .int .i64 0, .int .i64 0, .int .i64 0] 83)
   replace B1 := B1.alloc (.cells #[.int .i64 0, .int .i64 0, .int .i64 0, .int .i64 0] 83)
   replace HB0 := HB0.alloc (by simp; omega) (.cells #[.int .i64 0, .int .i64 0, .int .i64 0, .int .i64 0] 83)
   have B3 := Blk.new (((w.alloc (.cells #[.int .i64 x, .int .i64 y] 81)).alloc (.cells #[.int .i64 u, .int .i64 v] 81)).alloc (.cells #[.int .i64 0, .int .i64 0, .int .i64 0, .int .i64 0] 83)) [.int .i64 x, .int .i64 y, .int .i64 u, .int .i64 v] 83 (g := w.heap.size + 1 + 1 + 1) (by simp)
   replace B0 := B0.alloc (.cells #[.int .i64 x, .int .i64 y, .int .i64 u, .int .i64 v] 83)
   replace B1 := B1.alloc (.cells #[.int .i64 x, .int .i64 y, .int .i64 u, .int .i64 v] 83)
   replace B2 := B2.alloc (.cells #[.int .i64 x, .int .i64 y, .int .i64 u, .int .i64 v] 83)
   replace HB0 := HB0.alloc (by simp; omega) (.cells #[.int .i64 x, .int .i64 y, .int .i64 u, .int .i64 v] 83)
   go_enter Tryz.func97, Tryz.ntmps97
   go_wp2_with fail
   refine (isAhead_any _ _ _ _ false hl _).mono ?_
   rintro e w1 ⟨rfl, hB⟩
   replace B0 := B0.step hB; replace B1 := B1.step hB; replace B2 := B2.step hB; replace B3 := B3.step hB
   have HB : Below w.heap.size w w1 := HB0.trans (hB.mono HB0.size)
   clear hB HB0
   have cB00 := B0.c 0 rfl; have fB00 := B0.f 0 rfl; have cB01 := B0.c 1 rfl; have fB01 := B0.f 1 rfl; have cB10 := B1.c 0 rfl; have fB10 := B1.f 0 rfl; have cB11 := B1.c 1 rfl; have fB11 := B1.f 1 rfl; have cB20 := B2.c 0 rfl; have fB20 := B2.f 0 rfl; have cB21 := B2.c 1 rfl; have fB21 := B2.f 1 rfl; have cB22 := B2.c 2 rfl; have fB22 := B2.f 2 rfl; have cB23 := B2.c 3 rfl; have fB23 := B2.f 3 rfl; have cB30 := B3.c 0 rfl; have fB30 := B3.f 0 rfl; have cB31 := B3.c 1 rfl; have fB31 := B3.f 1 rfl; have cB32 := B3.c 2 rfl; have fB32 := B3.f 2 rfl; have cB33 := B3.c 3 rfl; have fB33 := B3.f 3 rfl; have ltB0 := B0.lt; have ltB1 := B1.lt; have ltB2 := B2.lt; have ltB3 := B3.lt
   go_wp2_with fail
   have D2 := B2
   have D3 := B3
   have HC := HB
   refine (implSegOk_any _ _ _ _ k hk _).mono ?_
   rintro e w2 ⟨rfl, hB⟩
   replace D2 := D2.step hB
   replace D3 := D3.step hB
   have HD : Below w.heap.size w w2 := HC.trans (hB.mono HC.size)
   clear hB HC HB B0 B1 B2 B3 cB00 fB00 cB01 fB01 cB10 fB10 cB11 fB11 cB20 fB20 cB21 fB21 cB22 fB22 cB23 fB23 cB30 fB30 cB31 fB31 cB32 fB32 cB33 fB33 ltB0 ltB1 ltB2 ltB3
   have cD20 := D2.c 0 rfl; have fD20 := D2.f 0 rfl; have cD21 := D2.c 1 rfl; have fD21 := D2.f 1 rfl; have cD22 := D2.c 2 rfl; have fD22 := D2.f 2 rfl; have cD23 := D2.c 3 rfl; have fD23 := D2.f 3 rfl; have cD30 := D3.c 0 rfl; have fD30 := D3.f 0 rfl; have cD31 := D3.c 1 rfl; have fD31 := D3.f 1 rfl; have cD32 := D3.c 2 rfl; have fD32 := D3.f 2 rfl; have cD33 := D3.c 3 rfl; have fD33 := D3.f 3 rfl
   have ltD2 := D2.lt; have ltD3 := D3.lt
   cases k
   · go_wp2
     refine bodyPost_ret (v := .tuple #[Sg 0 0 0 0, .bool false]) (by simp [results, Tryz.results97, go_sem, cD20, cD21, cD22, cD23]) rfl ?_
     refine ⟨rfl, ?_⟩
     repeat' (refine Below.setCell ?_ (by simp; try omega) _)
     exact HD
   · go_wp2
     refine bodyPost_ret (v := .tuple #[Sg x y u v, .bool true]) (by simp [results, Tryz.results97, go_sem, cD20, cD21, cD22, cD23]) rfl ?_
     refine ⟨rfl, ?_⟩
     repeat' (refine Below.setCell ?_ (by simp; try omega) _)
     exact HD
 · have B0 := Blk.new w [.int .i64 x, .int .i64 y] 81 rfl
   have HB0 : Below w.heap.size w _ := (Below.refl _ w).alloc (Nat.le_refl _) (.cells #[.int .i64 x, .int .i64 y] 81)
   have B1 := Blk.new (w.alloc (.cells #[.int .i64 x, .int .i64 y] 81)) [.int .i64 u, .int .i64 v] 81 (g := w.heap.size + 1) (by simp)
   replace B0 := B0.alloc (.cells #[.int .i64 u, .int .i64 v] 81)
   replace HB0 := HB0.alloc (by simp) (.cells #[.int .i64 u, .int .i64 v] 81)
   have B2 := Blk.new ((w.alloc (.cells #[.int .i64 x, .int .i64 y] 81)).alloc (.cells #[.int .i64 u, .int .i64 v] 81)) [.int .i64 0, .int .i64 0, .int .i64 0, .int .i64 0] 83 (g := w.heap.size + 1 + 1) (by simp)
   replace B0 := B0.alloc (.cells #[.int .i64 0, .int .i64 0, .int .i64 0, .int .i64 0] 83)
   replace B1 := B1.alloc (.cells #[.int .i64 0, .int .i64 0, .int .i64 0, .int .i64 0] 83)
   replace HB0 := HB0.alloc (by simp; omega) (.cells #[.int .i64 0, .int .i64 0, .int .i64 0, .int .i64 0] 83)
   have B3 := Blk.new (((w.alloc (.cells #[.int .i64 x, .int .i64 y] 81)).alloc (.cells #[.int .i64 u, .int .i64 v] 81)).alloc (.cells #[.int .i64 0, .int .i64 0, .int .i64 0, .int .i64 0] 83)) [.int .i64 x, .int .i64 y, .int .i64 u, .int .i64 v] 83 (g := w.heap.size + 1 + 1 + 1) (by simp)
   replace B0 := B0.alloc (.cells #[.int .i64 x, .int .i64 y, .int .i64 u, .int .i64 v] 83)
   replace B1 := B1.alloc (.cells #[.int .i64 x, .int .i64 y, .int .i64 u, .int .i64 v] 83)
   replace B2 := B2.alloc (.cells #[.int .i64 x, .int .i64 y, .int .i64 u, .int .i64 v] 83)
   replace HB0 := HB0.alloc (by simp; omega) (.cells #[.int .i64 x, .int .i64 y, .int .i64 u, .int .i64 v] 83)
   go_enter Tryz.func97, Tryz.ntmps97
   go_wp2_with fail
   refine (isAhead_any _ _ _ _ true hl _).mono ?_
   rintro e w1 ⟨rfl, hB⟩
   replace B0 := B0.step hB; replace B1 := B1.step hB; replace B2 := B2.step hB; replace B3 := B3.step hB
   have HB : Below w.heap.size w w1 := HB0.trans (hB.mono HB0.size)
   clear hB HB0
   have cB00 := B0.c 0 rfl; have fB00 := B0.f 0 rfl; have cB01 := B0.c 1 rfl; have fB01 := B0.f 1 rfl; have cB10 := B1.c 0 rfl; have fB10 := B1.f 0 rfl; have cB11 := B1.c 1 rfl; have fB11 := B1.f 1 rfl; have cB20 := B2.c 0 rfl; have fB20 := B2.f 0 rfl; have cB21 := B2.c 1 rfl; have fB21 := B2.f 1 rfl; have cB22 := B2.c 2 rfl; have fB22 := B2.f 2 rfl; have cB23 := B2.c 3 rfl; have fB23 := B2.f 3 rfl; have cB30 := B3.c 0 rfl; have fB30 := B3.f 0 rfl; have cB31 := B3.c 1 rfl; have fB31 := B3.f 1 rfl; have cB32 := B3.c 2 rfl; have fB32 := B3.f 2 rfl; have cB33 := B3.c 3 rfl; have fB33 := B3.f 3 rfl; have ltB0 := B0.lt; have ltB1 := B1.lt; have ltB2 := B2.lt; have ltB3 := B3.lt
   go_wp2_with fail
   have D2 := ((((B2.setO (p := ⟨w.heap.size + 1 + 1 + 1, 0, none⟩) (by simp) (.int .i64 u)).setO (p := ⟨w.heap.size + 1 + 1 + 1, 1, none⟩) (by simp) (.int .i64 v)).setO (p := ⟨w.heap.size + 1 + 1 + 1, 2, none⟩) (by simp) (.int .i64 x)).setO (p := ⟨w.heap.size + 1 + 1 + 1, 3, none⟩) (by simp) (.int .i64 y))
   have D3 := ((((B3.setI 0 (by simp) (.int .i64 u)).setI 1 (by simp) (.int .i64 v)).setI 2 (by simp) (.int .i64 x)).setI 3 (by simp) (.int .i64 y))
   simp only [List.set_cons_zero, List.set_cons_succ] at D3
   have HC := ((((HB.setCell (p := ⟨w.heap.size + 1 + 1 + 1, 0, none⟩) (by simp; omega) (.int .i64 u)).setCell (p := ⟨w.heap.size + 1 + 1 + 1, 1, none⟩) (by simp; omega) (.int .i64 v)).setCell (p := ⟨w.heap.size + 1 + 1 + 1, 2, none⟩) (by simp; omega) (.int .i64 x)).setCell (p := ⟨w.heap.size + 1 + 1 + 1, 3, none⟩) (by simp; omega) (.int .i64 y))
   refine (implSegOk_any _ _ _ _ k hk _).mono ?_
   rintro e w2 ⟨rfl, hB⟩
   replace D2 := D2.step hB
   replace D3 := D3.step hB
   have HD : Below w.heap.size w w2 := HC.trans (hB.mono HC.size)
   clear hB HC HB B0 B1 B2 B3 cB00 fB00 cB01 fB01 cB10 fB10 cB11 fB11 cB20 fB20 cB21 fB21 cB22 fB22 cB23 fB23 cB30 fB30 cB31 fB31 cB32 fB32 cB33 fB33 ltB0 ltB1 ltB2 ltB3
   have cD20 := D2.c 0 rfl; have fD20 := D2.f 0 rfl; have cD21 := D2.c 1 rfl; have fD21 := D2.f 1 rfl; have cD22 := D2.c 2 rfl; have fD22 := D2.f 2 rfl; have cD23 := D2.c 3 rfl; have fD23 := D2.f 3 rfl; have cD30 := D3.c 0 rfl; have fD30 := D3.f 0 rfl; have cD31 := D3.c 1 rfl; have fD31 := D3.f 1 rfl; have cD32 := D3.c 2 rfl; have fD32 := D3.f 2 rfl; have cD33 := D3.c 3 rfl; have fD33 := D3.f 3 rfl
   have ltD2 := D2.lt; have ltD3 := D3.lt
   cases k
   · go_wp2
     refine bodyPost_ret (v := .tuple #[Sg 0 0 0 0, .bool false]) (by simp [results, Tryz.results97, go_sem, cD20, cD21, cD22, cD23]) rfl ?_
     refine ⟨rfl, ?_⟩
     repeat' (refine Below.setCell ?_ (by simp; try omega) _)
     exact HD
   · go_wp2
     refine bodyPost_ret (v := .tuple #[Sg u v x y, .bool true]) (by simp [results, Tryz.results97, go_sem, cD20, cD21, cD22, cD23]) rfl ?_
     refine ⟨rfl, ?_⟩
     repeat' (refine Below.setCell ?_ (by simp; try omega) _)
     exact HD
set_option maxRecDepth 100000 in
set_option maxHeartbeats 4000000 in
theorem spotAfter_any (ao : Option Addr) (n cap : Nat) (p : Ps) (i : Nat) (hi : i < n) (hn : n ≤ 1048576) (w : World) (hS : SpIn w ao n p) : Calls Tryz.prog 76 #[.agg #[.slice ao n cap], .int .i64 (i : Int)] w (VP (Sp (p ((i + 1) % n)).1 (p ((i + 1) % n)).2) w) := by
 have hm : (i + 1) % n < n := Nat.mod_lt _ (by omega)
 obtain ⟨A, off, rfl, hA, q0, q1⟩ := hS _ hm
 have B0 := (Blk.new w [.slice (some ⟨A, off, none⟩) n cap] 34 rfl).alloc (.cells #[.int .i64 0, .int .i64 0] 81)
 have B1 := Blk.new (w.alloc (.cells #[.slice (some ⟨A, off, none⟩) n cap] 34)) [.int .i64 0, .int .i64 0] 81 (g := w.heap.size + 1) (by simp)
 have HB : Below w.heap.size w ((w.alloc (.cells #[.slice (some ⟨A, off, none⟩) n cap] 34)).alloc (.cells #[.int .i64 0, .int .i64 0] 81)) := ((Below.refl _ w).alloc (Nat.le_refl _) _).alloc (by simp) _
 replace q0 := (HB.cell (p := ⟨A, _, none⟩) hA).trans q0
 replace q1 := (HB.cell (p := ⟨A, _, none⟩) hA).trans q1
 have hrem : ((i : Int) + 1).tmod (n : Int) = (((i + 1) % n : Nat) : Int) := by
   rw [Int.tmod_eq_emod_of_nonneg (by omega), Int.natCast_emod]
   rfl
 have hadd : IntKind.i64.wrap ((i : Int) + 1) = (i : Int) + 1 := by rw [IntKind.wrap_i64]; omega
 have hmI : (((i + 1) % n : Nat) : Int) < n := by have := Nat.mod_lt (i + 1) (show 0 < n by omega); omega
 have hl0 : ¬ ((n : Int) = 0) := by omega
 have hl1 : ¬ (n = 0) := by omega
 have hne : A ≠ w.heap.size := by omega
 have hne1 : A ≠ w.heap.size + 1 := by omega
 go_enter Tryz.func76, Tryz.ntmps76
 go_upto_region 1 with fail
 generalize (w.alloc (.cells #[.slice (some ⟨A, off, none⟩) n cap] 34)).alloc (.cells #[.int .i64 0, .int .i64 0] 81) = W at *
 have HK : ∀ W', Below (w.heap.size + 1) W W' → (fun w' : World => w'.cell? ⟨w.heap.size, 0, none⟩ = some (.slice (some ⟨A, off, none⟩) n cap) ∧ w'.cell? ⟨A, off + ((i + 1) % n) * 2, none⟩ = some (.int .i64 (p ((i + 1) % n)).1) ∧ w'.cell? ⟨A, off + ((i + 1) % n) * 2 + 1, none⟩ = some (.int .i64 (p ((i + 1) % n)).2)) W' := fun W' h => ⟨(B0.below h (by omega)).c 0 rfl, (h.cell (p := ⟨A, _, none⟩) (by show A < w.heap.size + 1; omega)).trans q0, (h.cell (p := ⟨A, _, none⟩) (by show A < w.heap.size + 1; omega)).trans q1⟩
 have H0 : Below (w.heap.size + 1) W W := Below.refl _ _
 have z0 := B1.c 0 rfl; have z1 := B1.c 1 rfl; have y0 := B1.f 0 rfl; have y1 := B1.f 1 rfl; have zl := B1.lt
 have hI1 : (i : Int) < n := by omega
 have hnI : (n : Int) ≤ 1048576 := by omega
 clear hm hS B0 q0 q1
 generalize ((i + 1) % n) = e' at *
 go_region_held3 (fun w' : World => w'.cell? ⟨w.heap.size, 0, none⟩ = some (.slice (some ⟨A, off, none⟩) n cap) ∧ w'.cell? ⟨A, off + e' * 2, none⟩ = some (.int .i64 (p e').1) ∧ w'.cell? ⟨A, off + e' * 2 + 1, none⟩ = some (.int .i64 (p e').2)) (refine HK _ ?_ <;> repeat (first | (with_reducible exact H0) | (with_reducible refine Below.drew ?_) | (with_reducible refine Below.setCell ?_ (by first | exact Nat.le_refl _ | simp) _))) (fail)
 all_goals have RN : Blk ((W.setCell ⟨w.heap.size + 1, 0, none⟩ (.int .i64 (p e').1)).setCell ⟨w.heap.size + 1, 1, none⟩ (.int .i64 (p e').2)).drew (w.heap.size + 1) [.int .i64 (p e').1, .int .i64 (p e').2] := ((B1.setI 0 (by simp) _).setI 1 (by simp) _).drew
 all_goals have HN : Below w.heap.size w ((W.setCell ⟨w.heap.size + 1, 0, none⟩ (.int .i64 (p e').1)).setCell ⟨w.heap.size + 1, 1, none⟩ (.int .i64 (p e').2)).drew := ((HB.setCell (p := ⟨w.heap.size + 1, 0, none⟩) (by simp) _).setCell (p := ⟨w.heap.size + 1, 1, none⟩) (by simp) _).drew
 all_goals have r0 := RN.c 0 rfl; have r1 := RN.c 1 rfl
 all_goals go_wp2
 all_goals refine bodyPost_ret (v := Sp (p e').1 (p e').2) (by simp [results, Tryz.results76, go_sem, r0, r1]) rfl ?_
 all_goals exact ⟨rfl, HN⟩
def moI (n i j : Nat) : Int := if i + 1 = j ∨ j + 1 = i ∨ i + n = j + 1 ∨ j + n = i + 1 then 1 else 0
set_option maxRecDepth 100000 in
set_option maxHeartbeats 4000000 in
theorem most_any (ao : Option Addr) (n cap : Nat) (i j : Nat) (hi : i < n) (hj : j < n) (hn : n ≤ 1048576) (h3 : 2 ≤ n) (w : World) : Calls Tryz.prog 119 #[.agg #[.slice ao n cap], .int .i64 (i : Int), .int .i64 (j : Int)] w (VP (.int .i64 (moI n i j)) w) := by
 have HB : Below w.heap.size w (w.alloc (.cells #[.slice ao n cap] 34)) := (Below.refl _ w).alloc (Nat.le_refl _) _
 have B0 := Blk.new w [.slice ao n cap] 34 rfl
 have s1 : IntKind.i64.wrap ((i : Int) - j) = (i : Int) - j := by rw [IntKind.wrap_i64]; omega
 have s2 : IntKind.i64.wrap ((j : Int) - i) = (j : Int) - i := by rw [IntKind.wrap_i64]; omega
 have s3 : IntKind.i64.wrap ((n : Int) - 1) = (n : Int) - 1 := by rw [IntKind.wrap_i64]; omega
 have b0 := B0.c 0 rfl
 go_enter Tryz.func119, Tryz.ntmps119
 go_upto_region 1 with fail
 generalize (w.alloc (.cells #[.slice ao n cap] 34)) = W at *
 go_upto_region 2 with fail
 generalize hz : (if (i : Int) - j < (j : Int) - i then (j : Int) - i else (i : Int) - j) = z at *
 have hz2 : (z = (i : Int) - j ∧ (j : Int) ≤ i) ∨ (z = (j : Int) - i ∧ (i : Int) ≤ j) := by
   rw [← hz]
   split <;> omega
 clear hz s1 s2
 by_cases a1 : z = 1
 · have HO : Hid (moI n i j = 1) := by show _ = _; unfold moI; rw [if_pos (by omega)]
   subst a1
   clear hz2 B0
   go_wp2
   go_ret
   exact ⟨by rw [HO.out]; rfl, HB⟩
 · have a1' : (z == 1) = false := beq_eq_false_iff_ne.2 a1
   by_cases a2 : z = (n : Int) - 1
   · have HO : Hid (moI n i j = 1) := by show _ = _; unfold moI; rw [if_pos (by omega)]
     have a2' : (z == (n : Int) - 1) = true := by rw [a2]; exact beq_self_eq_true _
     clear hz2 B0 a1 a2
     go_wp2
     go_ret
     exact ⟨by rw [HO.out]; rfl, HB⟩
   · have HO : Hid (moI n i j = 0) := by show _ = _; unfold moI; rw [if_neg (by omega)]
     have a2' : (z == (n : Int) - 1) = false := beq_eq_false_iff_ne.2 a2
     clear hz2 B0 a1 a2
     go_wp2
     go_ret
     exact ⟨by rw [HO.out]; rfl, HB⟩
set_option maxRecDepth 100000 in
set_option maxHeartbeats 4000000 in
theorem wrong_any (ao : Option Addr) (n cap : Nat) (p : Ps) (hn : n ≤ 1048576) (w : World) (hS : SpIn w ao n p) : Calls Tryz.prog 88 #[.agg #[.slice ao n cap]] w (VP (.bool (decide (¬ (∀ i, i < n → spotOk (p i).1 (p i).2 = true)))) w) := by
 have B0 := Blk.new w [.slice ao n cap] 34 rfl
 have HB0 : Below w.heap.size w (w.alloc (.cells #[.slice ao n cap] 34)) := (Below.refl _ w).alloc (Nat.le_refl _) _
 have hmI : (n : Int) ≤ 1048576 := by omega
 have HS : Hid (SpIn (w.alloc (.cells #[.slice ao n cap] 34)) ao n p) := hS.step HB0
 clear hS
 go_enter Tryz.func88, Tryz.ntmps88
 have b0 := B0.c 0 rfl
 go_wp2_with fail
 generalize (w.alloc (.cells #[.slice ao n cap] 34)) = W1 at *
 go_loopw [8] (fun i wr => ∃ c : Nat, c ≤ n ∧ i = .int .i64 c ∧ (∀ j, j < c → spotOk (p j).1 (p j).2 = true) ∧ Below W1.heap.size W1 wr) (fun i _ => n - (intOf i).toNat)
 case atStart => exact ⟨0, by omega, rfl, fun j hj => by omega, Below.refl _ _⟩
 case round =>
   obtain ⟨c, hc, rfl, hall, HB⟩ := hrel
   have HA : Hid (∀ j, j < c → spotOk (p j).1 (p j).2 = true) := hall
   clear hall b0
   by_cases hcn : c < n
   · obtain ⟨A, off, rfl, hA, q0, q1⟩ := HS.out.step HB c hcn
     have hcI : (c : Int) < n := by omega
     clear B0
     go_wp2_with fail
     refine (implSpotOk_any (p c).1 (p c).2 _ rfl _).mono ?_
     rintro e w1 ⟨rfl, hB⟩
     replace HB := (HB.alloc HB.size _).trans (hB.mono (HB.alloc HB.size _).size)
     clear hB q0 q1 hA
     by_cases hk : spotOk (p c).1 (p c).2 = true
     · rw [hk]
       have HK : Hid (spotOk (p c).1 (p c).2 = true) := hk
       clear hk
       go_wp2
       go_roundw
       case rel => exact ⟨c + 1, by omega, by go_num, fun j hj => by
         rcases Nat.lt_or_ge j c with h | h
         · exact HA.out j h
         · obtain rfl : j = c := by omega
           exact HK.out, HB⟩
       case measure => simp [intOf]; omega
     · have HO : Hid (decide (¬ (∀ i, i < n → spotOk (p i).1 (p i).2 = true)) = true) := decide_eq_true (fun h => hk (h c hcn))
       rw [Bool.eq_false_iff.2 hk]
       have HBF := HB0.trans (HB.mono HB0.size)
       clear hk
       go_wp2
       go_ret
       exact ⟨by rw [HO.out]; rfl, HBF⟩
   · obtain rfl : c = n := by omega
     have HO : Hid (decide (¬ (∀ i, i < c → spotOk (p i).1 (p i).2 = true)) = false) := decide_eq_false (fun h => h HA.out)
     have HBF := HB0.trans (HB.mono HB0.size)
     clear HA HS B0
     go_wp2
     go_ret
     exact ⟨by rw [HO.out]; rfl, HBF⟩
end Go.Proofs.YtibbjjlapglndaaGreat
