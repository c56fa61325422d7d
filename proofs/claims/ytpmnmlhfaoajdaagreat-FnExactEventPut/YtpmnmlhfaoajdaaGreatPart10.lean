/- Part 10 of the walks that the proof leans on. -/
import Derived.Test.YtpmnmlhfaoajdaaGreatPart9
set_option maxRecDepth 100000
set_option maxHeartbeats 16000000
namespace Go.Proofs.YtpmnmlhfaoajdaaGreat
open Go.RowKit
def EvIn (w : World) (ao : Option Addr) (n : Nat) (q : Nat → Int × Int × Int) (S : Nat → Option Addr × Nat) (L : Nat → Nat) (E : Nat → Nat → Int) : Prop :=
 ∀ i, i < n → ∃ A off, ao = some ⟨A, off, none⟩ ∧ A < w.heap.size ∧ w.cell? ⟨A, off + i * 13, none⟩ = some (.int .u64 (ww3 (q i).1)) ∧ w.cell? ⟨A, off + i * 13 + 1, none⟩ = some (.int .u64 (ww2 (q i).1)) ∧ w.cell? ⟨A, off + i * 13 + 2, none⟩ = some (.int .u64 (ww1 (q i).1)) ∧ w.cell? ⟨A, off + i * 13 + 3, none⟩ = some (.int .u64 (ww0 (q i).1)) ∧ w.cell? ⟨A, off + i * 13 + 4, none⟩ = some (.int .u64 (ww3 (q i).2.1)) ∧ w.cell? ⟨A, off + i * 13 + 5, none⟩ = some (.int .u64 (ww2 (q i).2.1)) ∧ w.cell? ⟨A, off + i * 13 + 6, none⟩ = some (.int .u64 (ww1 (q i).2.1)) ∧ w.cell? ⟨A, off + i * 13 + 7, none⟩ = some (.int .u64 (ww0 (q i).2.1)) ∧ w.cell? ⟨A, off + i * 13 + 8, none⟩ = some (.int .u64 (ww3 (q i).2.2)) ∧ w.cell? ⟨A, off + i * 13 + 9, none⟩ = some (.int .u64 (ww2 (q i).2.2)) ∧ w.cell? ⟨A, off + i * 13 + 10, none⟩ = some (.int .u64 (ww1 (q i).2.2)) ∧ w.cell? ⟨A, off + i * 13 + 11, none⟩ = some (.int .u64 (ww0 (q i).2.2)) ∧ w.cell? ⟨A, off + i * 13 + 12, none⟩ = some (.slice (S i).1 (L i) (S i).2) ∧ NoIn w (S i).1 (L i) (E i)
theorem EvIn.step {w w' : World} {ao : Option Addr} {n : Nat} {q : Nat → Int × Int × Int} {S : Nat → Option Addr × Nat} {L : Nat → Nat} {E : Nat → Nat → Int} (h : EvIn w ao n q S L E) (hB : Below w.heap.size w w') : EvIn w' ao n q S L E := fun i hi => by
 obtain ⟨A, off, e, hA, c0, c1, c2, c3, c4, c5, c6, c7, c8, c9, c10, c11, c12, hp⟩ := h i hi
 exact ⟨A, off, e, Nat.lt_of_lt_of_le hA hB.size, (hB.cell (p := ⟨A, _, none⟩) hA).trans c0, (hB.cell (p := ⟨A, _, none⟩) hA).trans c1, (hB.cell (p := ⟨A, _, none⟩) hA).trans c2, (hB.cell (p := ⟨A, _, none⟩) hA).trans c3, (hB.cell (p := ⟨A, _, none⟩) hA).trans c4, (hB.cell (p := ⟨A, _, none⟩) hA).trans c5, (hB.cell (p := ⟨A, _, none⟩) hA).trans c6, (hB.cell (p := ⟨A, _, none⟩) hA).trans c7, (hB.cell (p := ⟨A, _, none⟩) hA).trans c8, (hB.cell (p := ⟨A, _, none⟩) hA).trans c9, (hB.cell (p := ⟨A, _, none⟩) hA).trans c10, (hB.cell (p := ⟨A, _, none⟩) hA).trans c11, (hB.cell (p := ⟨A, _, none⟩) hA).trans c12, hp.step hB⟩
def enB (e : Nat → Int) (k : Nat) : Bool := decide ((0 ≤ e k ∧ e k ≤ 39) ∧ (0 < k → e (k - 1) < e k))
def endB (m : Nat) (e : Nat → Int) : Bool := decide (∀ k, k < m → enB e k = true)
theorem endB_no {m : Nat} {e : Nat → Int} {k : Nat} (hk : k < m) (h : enB e k = false) : endB m e = false := by
 unfold endB
 exact decide_eq_false (fun hh => by rw [hh k hk] at h; cases h)
theorem endB_yes {m : Nat} {e : Nat → Int} (h : ∀ k, k < m → enB e k = true) : endB m e = true := decide_eq_true h
def evH (q : Nat → Int × Int × Int) (L : Nat → Nat) (i : Nat) : Bool := decide (ptB (q i).1 (q i).2.1 (q i).2.2 = true ∧ 1 ≤ L i ∧ (0 < i → ordI (q (i - 1)).1 (q (i - 1)).2.1 (q (i - 1)).2.2 (q i).1 (q i).2.1 (q i).2.2 < 0))
def evB (n : Nat) (q : Nat → Int × Int × Int) (L : Nat → Nat) (E : Nat → Nat → Int) : Bool := decide (n ≤ 200 ∧ ∀ i, i < n → evH q L i = true ∧ endB (L i) (E i) = true)
theorem evB_no {n : Nat} {q : Nat → Int × Int × Int} {L : Nat → Nat} {E : Nat → Nat → Int} {i : Nat} (hi : i < n) (h : evH q L i = false ∨ endB (L i) (E i) = false) : evB n q L E = false := by
 unfold evB
 exact decide_eq_false (fun hh => by
   have := hh.2 i hi
   rcases h with h | h
   · rw [this.1] at h; cases h
   · rw [this.2] at h; cases h)
theorem isNumber_any (x : Int) (w : World) : Calls Tryz.prog 40 #[.int .i64 x] w (VP (.bool (decide (0 ≤ x ∧ x ≤ 39))) w) := by
 by_cases h1 : 0 ≤ x
 · by_cases h2 : x ≤ 39
   · rw [decide_eq_true (show 0 ≤ x ∧ x ≤ 39 from ⟨h1, h2⟩)]
     have h3 : x < 40 := by omega
     go_enter Tryz.func40, Tryz.ntmps40
     go_wp2
     go_ret
     exact ⟨rfl, Below.refl _ _⟩
   · rw [decide_eq_false (show ¬ (0 ≤ x ∧ x ≤ 39) from fun h => h2 h.2)]
     have h3 : 40 ≤ x := by omega
     go_enter Tryz.func40, Tryz.ntmps40
     go_wp2
     go_ret
     exact ⟨by show Ending.returned (.bool (decide (x < 40))) = _; rw [decide_eq_false (by omega)], Below.refl _ _⟩
 · rw [decide_eq_false (show ¬ (0 ≤ x ∧ x ≤ 39) from fun h => h1 h.1)]
   have h3 : x < 0 := by omega
   go_enter Tryz.func40, Tryz.ntmps40
   go_wp2
   go_ret
   exact ⟨rfl, Below.refl _ _⟩
theorem rightEnds_any (ao : Option Addr) (m cap : Nat) (e : Nat → Int) (hm : m ≤ 1048576) (w : World) (hS : NoIn w ao m e) : Calls Tryz.prog 70 #[.slice ao m cap] w (VP (.bool (decide (1 ≤ m) && endB m e)) w) := by
 have HS : Hid (NoIn w ao m e) := hS
 have hmI : (m : Int) ≤ 1048576 := by omega
 clear hS
 go_enter Tryz.func70, Tryz.ntmps70
 go_wp2_with fail
 go_loopw [7] (fun i wr => ∃ c : Nat, c ≤ m ∧ i = .int .i64 c ∧ (∀ j, j < c → enB e j = true) ∧ Below w.heap.size w wr) (fun i _ => m - (intOf i).toNat)
 case atStart => exact ⟨0, by omega, rfl, fun j hj => by omega, Below.refl _ _⟩
 case round =>
   obtain ⟨c, hc, rfl, hall, HB⟩ := hrel
   have HA : Hid (∀ j, j < c → enB e j = true) := hall
   clear hall
   by_cases hcn : c < m
   · obtain ⟨A, off, rfl, hA, q0⟩ := HS.out.step HB c hcn
     have hcI : (c : Int) < m := by omega
     have IN := isNumber_any (e c)
     cases hz : enB e c
     · have HO : Hid ((decide (1 ≤ m) && endB m e) = false) := by show _ = _; rw [endB_no hcn hz, Bool.and_false]
       by_cases h1 : 0 ≤ e c ∧ e c ≤ 39
       · rw [decide_eq_true h1] at IN
         have h0 : 0 < c := by
           rcases Nat.eq_zero_or_pos c with h | h
           · exact absurd hz (by unfold enB; rw [decide_eq_true (show _ ∧ _ from ⟨h1, fun h' => by omega⟩)]; simp)
           · exact h
         obtain ⟨d, hd⟩ : ∃ d, c = d + 1 := ⟨c - 1, by omega⟩
         subst hd
         have h2 : e (d + 1) ≤ e d := by
           apply Classical.byContradiction
           intro h
           exact absurd hz (by unfold enB; rw [decide_eq_true (show _ ∧ _ from ⟨h1, fun _ => by show e (d + 1 - 1) < _; rw [Nat.add_sub_cancel]; omega⟩)]; simp)
         obtain ⟨A', off', hao, hA', q1⟩ := HS.out.step HB d (by omega)
         obtain ⟨rfl, rfl⟩ : A = A' ∧ off = off' := by simpa using hao
         have hdI : (d : Int) + 1 < m := by omega
         clear hao h1 hz HS HA h0
         go_wp2_with fail
         refine (IN _).mono ?_
         rintro e1 w1 ⟨rfl, hB⟩
         have k1 := (hB.cell (p := ⟨A, off + d, none⟩) hA').trans q1
         replace HB := HB.trans (hB.mono HB.size)
         clear hB IN q0 q1
         go_wp2
         go_ret
         exact ⟨by rw [HO.out]; rfl, HB⟩
       · rw [decide_eq_false h1] at IN
         clear h1 hz HS HA
         go_wp2_with fail
         refine (IN _).mono ?_
         rintro e1 w1 ⟨rfl, hB⟩
         replace HB := HB.trans (hB.mono HB.size)
         clear hB IN q0
         go_wp2
         go_ret
         exact ⟨by rw [HO.out]; rfl, HB⟩
     · have HK : Hid (enB e c = true) := hz
       obtain ⟨h1, h2⟩ := of_decide_eq_true (show decide ((0 ≤ e c ∧ e c ≤ 39) ∧ (0 < c → e (c - 1) < e c)) = true from hz)
       rw [decide_eq_true h1] at IN
       clear hz h1
       rcases Nat.eq_zero_or_pos c with h0 | h0
       · subst h0
         clear h2
         rw [Nat.add_zero] at q0
         go_wp2_with fail
         refine (IN _).mono ?_
         rintro e1 w1 ⟨rfl, hB⟩
         replace HB := HB.trans (hB.mono HB.size)
         clear hB IN q0
         go_wp2
         go_roundw
         case rel => exact ⟨1, by omega, by go_num, fun j hj => by
           obtain rfl : j = 0 := by omega
           exact HK.out, HB⟩
         case measure => simp [intOf]; omega
       · obtain ⟨d, hd⟩ : ∃ d, c = d + 1 := ⟨c - 1, by omega⟩
         subst hd
         replace h2 : e d < e (d + 1) := h2 h0
         obtain ⟨A', off', hao, hA', q1⟩ := HS.out.step HB d (by omega)
         obtain ⟨rfl, rfl⟩ : A = A' ∧ off = off' := by simpa using hao
         have hdI : (d : Int) + 1 < m := by omega
         clear hao h0
         go_wp2_with fail
         refine (IN _).mono ?_
         rintro e1 w1 ⟨rfl, hB⟩
         have k1 := (hB.cell (p := ⟨A, off + d, none⟩) hA').trans q1
         replace HB := HB.trans (hB.mono HB.size)
         clear hB IN q0 q1
         go_wp2
         go_roundw
         case rel => exact ⟨d + 1 + 1, by omega, by go_num, fun j hj => by
           rcases Nat.lt_or_ge j (d + 1) with h | h
           · exact HA.out j h
           · obtain rfl : j = d + 1 := by omega
             exact HK.out, HB⟩
         case measure => simp [intOf]; omega
   · obtain rfl : c = m := by omega
     have HO : Hid ((decide (1 ≤ c) && endB c e) = decide (1 ≤ c)) := by show _ = _; rw [endB_yes HA.out, Bool.and_true]
     clear HS HA
     go_wp2
     go_ret
     exact ⟨by rw [HO.out]; rfl, HB⟩
theorem specEventsOk_any (ao : Option Addr) (n cap : Nat) (q : Nat → Int × Int × Int) (S : Nat → Option Addr × Nat) (L : Nat → Nat) (E : Nat → Nat → Int) (w : World) (hS : EvIn w ao n q S L E) (hT : ∀ i, i < n → told (q i).1 = true ∧ told (q i).2.1 = true ∧ told (q i).2.2 = true) (hL : ∀ i, i < n → L i ≤ 1048576) : Calls Tryz.prog 33 #[.slice ao n cap] w (VP (.bool (evB n q L E)) w) := by
 by_cases hn : 200 < n
 · have HO : Hid (evB n q L E = false) := by show _ = _; unfold evB; exact decide_eq_false (fun h => by omega)
   go_enter Tryz.func33, Tryz.ntmps33
   have hn' : (200 : Int) < n := by omega
   clear hS hT hL
   go_wp2
   go_ret
   exact ⟨by rw [HO.out]; rfl, Below.refl _ _⟩
 · go_enter Tryz.func33, Tryz.ntmps33
   have hn' : (n : Int) ≤ 200 := by omega
   have hn6 : n ≤ 200 := by omega
   have HS : Hid (EvIn w ao n q S L E) := hS
   have HT : Hid (∀ i, i < n → told (q i).1 = true ∧ told (q i).2.1 = true ∧ told (q i).2.2 = true) := hT
   have HL : Hid (∀ i, i < n → L i ≤ 1048576) := hL
   clear hS hT hL
   go_wp2_with fail
   go_loopw [3] (fun i wr => ∃ c : Nat, c ≤ n ∧ i = .int .i64 c ∧ (∀ j, j < c → evH q L j = true ∧ endB (L j) (E j) = true) ∧ Below w.heap.size w wr) (fun i _ => n - (intOf i).toNat)
   case atStart => exact ⟨0, by omega, rfl, fun j hj => by omega, Below.refl _ _⟩
   case round =>
     obtain ⟨c, hc, rfl, hall, HB⟩ := hrel
     have HA : Hid (∀ j, j < c → evH q L j = true ∧ endB (L j) (E j) = true) := hall
     clear hall
     by_cases hcn : c < n
     · obtain ⟨A, off, rfl, hA, q0, q1, q2, q3, q4, q5, q6, q7, q8, q9, q10, q11, q12, hrow⟩ := HS.out.step HB c hcn
       have hLc := HL.out c hcn
       obtain ⟨t1, t2, t3⟩ := HT.out c hcn
       have HR : Hid (NoIn wr (S c).1 (L c) (E c)) := hrow
       have hcI : (c : Int) < n := by omega
       have hLI : (L c : Int) ≤ 1048576 := by omega
       clear hrow
       go_upto_region 6 with fail
       go_cut [50] (fun zv wx => zv = .bool (!evH q L c) ∧ Below wr.heap.size wr wx)
       case first =>
         by_cases h1 : ptB (q c).1 (q c).2.1 (q c).2.2 = true
         · by_cases h2 : L c < 1
           · have hv : Hid (true = !evH q L c) := by show _ = _; rw [show evH q L c = false from decide_eq_false (fun h => by omega)]; rfl
             refine evM_B (n := n) (cap := cap) (A := A) (off := off) (c := c) (m := L c) (mc := (S c).2) (eo := (S c).1) (x := (q c).1) (y := (q c).2.1) (z := (q c).2.2) hcn hn6 t1 t2 t3 h1 h2 rfl rfl q0 hA q1 hA q2 hA q3 hA q4 hA q5 hA q6 hA q7 hA q8 hA q9 hA q10 hA q11 hA q12 hA rfl ?_
             rintro ⟨tm, df⟩ Wz hz hdf hoff hx hBz
             simp only at hz hdf hoff hx
             change tm.getD 50 undef = .bool true at hx
             subst hdf
             have htm := tmps_fold [14, 15, 16, 17, 18, 19, 20, 21, 22, 23, 24, 25, 26, 27, 28, 29, 30, 31, 32, 33, 34, 35, 36, 37, 38, 39, 40, 41, 42, 43, 44, 45, 46, 47, 48, 49, 50] tm _ hz hoff
             simp only [List.foldl, List.setIfInBounds_toArray, List.set_cons_zero, List.set_cons_succ, hx] at htm
             clear hz hoff
             generalize tm.getD 14 undef = u0, tm.getD 15 undef = u1, tm.getD 16 undef = u2, tm.getD 17 undef = u3, tm.getD 18 undef = u4, tm.getD 19 undef = u5, tm.getD 20 undef = u6, tm.getD 21 undef = u7, tm.getD 22 undef = u8, tm.getD 23 undef = u9, tm.getD 24 undef = u10, tm.getD 25 undef = u11, tm.getD 26 undef = u12, tm.getD 27 undef = u13, tm.getD 28 undef = u14, tm.getD 29 undef = u15, tm.getD 30 undef = u16, tm.getD 31 undef = u17, tm.getD 32 undef = u18, tm.getD 33 undef = u19, tm.getD 34 undef = u20, tm.getD 35 undef = u21, tm.getD 36 undef = u22, tm.getD 37 undef = u23, tm.getD 38 undef = u24, tm.getD 39 undef = u25, tm.getD 40 undef = u26, tm.getD 41 undef = u27, tm.getD 42 undef = u28, tm.getD 43 undef = u29, tm.getD 44 undef = u30, tm.getD 45 undef = u31, tm.getD 46 undef = u32, tm.getD 47 undef = u33, tm.getD 48 undef = u34, tm.getD 49 undef = u35 at htm
             clear hx
             subst htm
             go_wp2_with fail
             go_meet
             exact ⟨congrArg Value.bool hv.out, hBz⟩
           · rcases Nat.eq_zero_or_pos c with h0 | h0
             · have hv : Hid (false = !evH q L c) := by show _ = _; rw [show evH q L c = true from decide_eq_true ⟨h1, by omega, fun h => by omega⟩]; rfl
               refine evM_C (n := n) (cap := cap) (A := A) (off := off) (c := c) (m := L c) (mc := (S c).2) (eo := (S c).1) (x := (q c).1) (y := (q c).2.1) (z := (q c).2.2) hcn hn6 t1 t2 t3 h1 (by omega) hLc h0 rfl rfl q0 hA q1 hA q2 hA q3 hA q4 hA q5 hA q6 hA q7 hA q8 hA q9 hA q10 hA q11 hA q12 hA rfl ?_
               rintro ⟨tm, df⟩ Wz hz hdf hoff hx hBz
               simp only at hz hdf hoff hx
               change tm.getD 50 undef = .bool false at hx
               subst hdf
               have htm := tmps_fold [14, 15, 16, 17, 18, 19, 20, 21, 22, 23, 24, 25, 26, 27, 28, 29, 30, 31, 32, 33, 34, 35, 36, 37, 38, 39, 40, 41, 42, 43, 44, 45, 46, 47, 48, 49, 50] tm _ hz hoff
               simp only [List.foldl, List.setIfInBounds_toArray, List.set_cons_zero, List.set_cons_succ, hx] at htm
               clear hz hoff
               generalize tm.getD 14 undef = u0, tm.getD 15 undef = u1, tm.getD 16 undef = u2, tm.getD 17 undef = u3, tm.getD 18 undef = u4, tm.getD 19 undef = u5, tm.getD 20 undef = u6, tm.getD 21 undef = u7, tm.getD 22 undef = u8, tm.getD 23 undef = u9, tm.getD 24 undef = u10, tm.getD 25 undef = u11, tm.getD 26 undef = u12, tm.getD 27 undef = u13, tm.getD 28 undef = u14, tm.getD 29 undef = u15, tm.getD 30 undef = u16, tm.getD 31 undef = u17, tm.getD 32 undef = u18, tm.getD 33 undef = u19, tm.getD 34 undef = u20, tm.getD 35 undef = u21, tm.getD 36 undef = u22, tm.getD 37 undef = u23, tm.getD 38 undef = u24, tm.getD 39 undef = u25, tm.getD 40 undef = u26, tm.getD 41 undef = u27, tm.getD 42 undef = u28, tm.getD 43 undef = u29, tm.getD 44 undef = u30, tm.getD 45 undef = u31, tm.getD 46 undef = u32, tm.getD 47 undef = u33, tm.getD 48 undef = u34, tm.getD 49 undef = u35 at htm
               clear hx
               subst htm
               go_wp2_with fail
               go_meet
               exact ⟨congrArg Value.bool hv.out, hBz⟩
             · obtain ⟨d, hd⟩ : ∃ d, c = d + 1 := ⟨c - 1, by omega⟩
               obtain ⟨A', off', hao, -, r0, r1, r2, r3, r4, r5, r6, r7, r8, r9, r10, r11, -, -⟩ := HS.out.step HB d (by omega)
               obtain ⟨rfl, rfl⟩ : A = A' ∧ off = off' := by simpa using hao
               have hv : Hid (decide (0 ≤ ordI (q d).1 (q d).2.1 (q d).2.2 (q c).1 (q c).2.1 (q c).2.2) = !evH q L c) := by show _ = _; rw [show evH q L c = decide (ordI (q d).1 (q d).2.1 (q d).2.2 (q c).1 (q c).2.1 (q c).2.2 < 0) from by unfold evH; rw [hd]; rw [hd] at h1 h2; rw [Nat.add_sub_cancel]; exact decide_eq_decide.2 ⟨fun h => h.2.2 (by omega), fun h => ⟨h1, by omega, fun _ => h⟩⟩, ← decide_not]; exact decide_eq_decide.2 (by omega)
               obtain ⟨u1, u2, u3⟩ := HT.out d (by omega)
               have HD : Hid (c = d + 1) := hd
               clear hd
               refine evM_D (n := n) (cap := cap) (A := A) (off := off) (c := c) (m := L c) (mc := (S c).2) (eo := (S c).1) (x := (q c).1) (y := (q c).2.1) (z := (q c).2.2) (d := d) (u := (q d).1) (vv := (q d).2.1) (t := (q d).2.2) hcn hn6 t1 t2 t3 u1 u2 u3 h1 (by omega) hLc HD rfl rfl q0 hA q1 hA q2 hA q3 hA q4 hA q5 hA q6 hA q7 hA q8 hA q9 hA q10 hA q11 hA q12 hA r0 hA r1 hA r2 hA r3 hA r4 hA r5 hA r6 hA r7 hA r8 hA r9 hA r10 hA r11 hA rfl ?_
               rintro ⟨tm, df⟩ Wz hz hdf hoff hx hBz
               simp only at hz hdf hoff hx
               change tm.getD 50 undef = .bool (decide (0 ≤ ordI (q d).1 (q d).2.1 (q d).2.2 (q c).1 (q c).2.1 (q c).2.2)) at hx
               subst hdf
               have htm := tmps_fold [14, 15, 16, 17, 18, 19, 20, 21, 22, 23, 24, 25, 26, 27, 28, 29, 30, 31, 32, 33, 34, 35, 36, 37, 38, 39, 40, 41, 42, 43, 44, 45, 46, 47, 48, 49, 50] tm _ hz hoff
               simp only [List.foldl, List.setIfInBounds_toArray, List.set_cons_zero, List.set_cons_succ, hx] at htm
               clear hz hoff
               generalize tm.getD 14 undef = u0, tm.getD 15 undef = u1, tm.getD 16 undef = u2, tm.getD 17 undef = u3, tm.getD 18 undef = u4, tm.getD 19 undef = u5, tm.getD 20 undef = u6, tm.getD 21 undef = u7, tm.getD 22 undef = u8, tm.getD 23 undef = u9, tm.getD 24 undef = u10, tm.getD 25 undef = u11, tm.getD 26 undef = u12, tm.getD 27 undef = u13, tm.getD 28 undef = u14, tm.getD 29 undef = u15, tm.getD 30 undef = u16, tm.getD 31 undef = u17, tm.getD 32 undef = u18, tm.getD 33 undef = u19, tm.getD 34 undef = u20, tm.getD 35 undef = u21, tm.getD 36 undef = u22, tm.getD 37 undef = u23, tm.getD 38 undef = u24, tm.getD 39 undef = u25, tm.getD 40 undef = u26, tm.getD 41 undef = u27, tm.getD 42 undef = u28, tm.getD 43 undef = u29, tm.getD 44 undef = u30, tm.getD 45 undef = u31, tm.getD 46 undef = u32, tm.getD 47 undef = u33, tm.getD 48 undef = u34, tm.getD 49 undef = u35 at htm
               clear hx
               subst htm
               go_wp2_with fail
               go_meet
               exact ⟨congrArg Value.bool hv.out, hBz⟩
         · have hv : Hid (true = !evH q L c) := by show _ = _; rw [show evH q L c = false from decide_eq_false (fun h => h1 h.1)]; rfl
           refine evM_A (n := n) (cap := cap) (A := A) (off := off) (c := c) (m := L c) (mc := (S c).2) (eo := (S c).1) (x := (q c).1) (y := (q c).2.1) (z := (q c).2.2) hcn hn6 t1 t2 t3 (Bool.eq_false_iff.2 h1) rfl rfl q0 hA q1 hA q2 hA q3 hA q4 hA q5 hA q6 hA q7 hA q8 hA q9 hA q10 hA q11 hA q12 hA rfl ?_
           rintro ⟨tm, df⟩ Wz hz hdf hoff hx hBz
           simp only at hz hdf hoff hx
           change tm.getD 50 undef = .bool true at hx
           subst hdf
           have htm := tmps_fold [14, 15, 16, 17, 18, 19, 20, 21, 22, 23, 24, 25, 26, 27, 28, 29, 30, 31, 32, 33, 34, 35, 36, 37, 38, 39, 40, 41, 42, 43, 44, 45, 46, 47, 48, 49, 50] tm _ hz hoff
           simp only [List.foldl, List.setIfInBounds_toArray, List.set_cons_zero, List.set_cons_succ, hx] at htm
           clear hz hoff
           generalize tm.getD 14 undef = u0, tm.getD 15 undef = u1, tm.getD 16 undef = u2, tm.getD 17 undef = u3, tm.getD 18 undef = u4, tm.getD 19 undef = u5, tm.getD 20 undef = u6, tm.getD 21 undef = u7, tm.getD 22 undef = u8, tm.getD 23 undef = u9, tm.getD 24 undef = u10, tm.getD 25 undef = u11, tm.getD 26 undef = u12, tm.getD 27 undef = u13, tm.getD 28 undef = u14, tm.getD 29 undef = u15, tm.getD 30 undef = u16, tm.getD 31 undef = u17, tm.getD 32 undef = u18, tm.getD 33 undef = u19, tm.getD 34 undef = u20, tm.getD 35 undef = u21, tm.getD 36 undef = u22, tm.getD 37 undef = u23, tm.getD 38 undef = u24, tm.getD 39 undef = u25, tm.getD 40 undef = u26, tm.getD 41 undef = u27, tm.getD 42 undef = u28, tm.getD 43 undef = u29, tm.getD 44 undef = u30, tm.getD 45 undef = u31, tm.getD 46 undef = u32, tm.getD 47 undef = u33, tm.getD 48 undef = u34, tm.getD 49 undef = u35 at htm
           clear hx
           subst htm
           go_wp2_with fail
           go_meet
           exact ⟨congrArg Value.bool hv.out, hBz⟩
       case rest =>
         obtain ⟨hq2, hBc⟩ := hcut
         subst hq2
         have HBN := HB.trans (hBc.mono HB.size)
         have q12' := (hBc.cell (p := ⟨A, _, none⟩) hA).trans q12
         have hA2 := Nat.lt_of_lt_of_le hA hBc.size
         have HR2 : Hid (NoIn wc (S c).1 (L c) (E c)) := HR.out.step hBc
         clear hBc HB HR q0 q1 q2 q3 q4 q5 q6 q7 q8 q9 q10 q11 q12 t1 t2 t3 hA
         cases hz : evH q L c
         · have HO : Hid (evB n q L E = false) := evB_no hcn (.inl hz)
           clear hz HS HT HL HA HR2 q12'
           go_wp2
           go_ret
           exact ⟨by rw [HO.out]; rfl, HBN⟩
         · have HZ : Hid (evH q L c = true) := hz
           clear hz
           go_wp2_with fail
           go_loopw [4] (fun k wk => ∃ d : Nat, d ≤ L c ∧ k = .int .i64 d ∧ (∀ j, j < d → enB (E c) j = true) ∧ Below wc.heap.size wc wk) (fun k _ => L c - (intOf k).toNat)
           case atStart => exact ⟨0, by omega, rfl, fun j hj => by omega, Below.refl _ _⟩
           case round =>
             rename_i hrel
             obtain ⟨d, hd, rfl, hp, HB2⟩ := hrel
             have HP : Hid (∀ j, j < d → enB (E c) j = true) := hp
             clear hp
             have q12 := (HB2.cell (p := ⟨A, _, none⟩) hA2).trans q12'
             have hA := Nat.lt_of_lt_of_le hA2 HB2.size
             by_cases hdn : d < L c
             · obtain ⟨G, ob, hsc, hG, e0⟩ := HR2.out.step HB2 d hdn
               rw [hsc] at q12
               have hdI : (d : Int) < L c := by omega
               go_upto_region 11 with fail
               go_cut [94] (fun zv wx => zv = .bool (!enB (E c) d) ∧ Below wr.heap.size wr wx)
               case first =>
                 by_cases h1 : 0 ≤ E c d ∧ E c d ≤ 39
                 · rcases Nat.eq_zero_or_pos d with h0 | h0
                   · have hv : Hid (false = !enB (E c) d) := by show _ = _; rw [show enB (E c) d = true from decide_eq_true ⟨h1, fun h => by omega⟩]; rfl
                     refine evN_C (n := n) (cap := cap) (A := A) (off := off) (c := c) (m := L c) (mc := (S c).2) (G := G) (ob := ob) (k := d) (x := E c d) hcn hn6 hdn hLc (decide_eq_true h1) h0 rfl rfl rfl q12 hA e0 hG rfl ?_
                     rintro ⟨tm, df⟩ Wz hz hdf hoff hx hBz
                     simp only at hz hdf hoff hx
                     change tm.getD 94 undef = .bool false at hx
                     subst hdf
                     have htm := tmps_fold [61, 62, 63, 64, 65, 66, 67, 68, 69, 70, 71, 72, 73, 74, 75, 76, 77, 78, 79, 80, 81, 82, 83, 84, 85, 86, 87, 88, 89, 90, 91, 92, 93, 94] tm _ hz hoff
                     simp only [List.foldl, List.setIfInBounds_toArray, List.set_cons_zero, List.set_cons_succ, hx] at htm
                     clear hz hoff
                     generalize tm.getD 61 undef = u0, tm.getD 62 undef = u1, tm.getD 63 undef = u2, tm.getD 64 undef = u3, tm.getD 65 undef = u4, tm.getD 66 undef = u5, tm.getD 67 undef = u6, tm.getD 68 undef = u7, tm.getD 69 undef = u8, tm.getD 70 undef = u9, tm.getD 71 undef = u10, tm.getD 72 undef = u11, tm.getD 73 undef = u12, tm.getD 74 undef = u13, tm.getD 75 undef = u14, tm.getD 76 undef = u15, tm.getD 77 undef = u16, tm.getD 78 undef = u17, tm.getD 79 undef = u18, tm.getD 80 undef = u19, tm.getD 81 undef = u20, tm.getD 82 undef = u21, tm.getD 83 undef = u22, tm.getD 84 undef = u23, tm.getD 85 undef = u24, tm.getD 86 undef = u25, tm.getD 87 undef = u26, tm.getD 88 undef = u27, tm.getD 89 undef = u28, tm.getD 90 undef = u29, tm.getD 91 undef = u30, tm.getD 92 undef = u31, tm.getD 93 undef = u32 at htm
                     clear hx
                     subst htm
                     go_wp2_with fail
                     go_meet
                     exact ⟨congrArg Value.bool hv.out, hBz⟩
                   · obtain ⟨j, hj⟩ : ∃ j, d = j + 1 := ⟨d - 1, by omega⟩
                     obtain ⟨G', ob', hao, -, e1⟩ := HR2.out.step HB2 j (by omega)
                     obtain ⟨rfl, rfl⟩ : G = G' ∧ ob = ob' := by rw [hsc] at hao; simpa using hao
                     have hv : Hid (decide (E c d ≤ E c j) = !enB (E c) d) := by
                       show _ = _
                       rw [show enB (E c) d = decide (E c j < E c d) from by unfold enB; rw [hj]; rw [hj] at h1; rw [Nat.add_sub_cancel]; exact decide_eq_decide.2 ⟨fun h => h.2 (by omega), fun h => ⟨h1, fun _ => h⟩⟩, ← decide_not]
                       exact decide_eq_decide.2 (by omega)
                     refine evN_D (n := n) (cap := cap) (A := A) (off := off) (c := c) (m := L c) (mc := (S c).2) (G := G) (ob := ob) (k := d) (x := E c d) (jj := j) (y := E c j) hcn hn6 hdn hLc (decide_eq_true h1) hj rfl rfl rfl q12 hA e0 hG e1 hG rfl ?_
                     rintro ⟨tm, df⟩ Wz hz hdf hoff hx hBz
                     simp only at hz hdf hoff hx
                     change tm.getD 94 undef = .bool (decide (E c d ≤ E c j)) at hx
                     subst hdf
                     have htm := tmps_fold [61, 62, 63, 64, 65, 66, 67, 68, 69, 70, 71, 72, 73, 74, 75, 76, 77, 78, 79, 80, 81, 82, 83, 84, 85, 86, 87, 88, 89, 90, 91, 92, 93, 94] tm _ hz hoff
                     simp only [List.foldl, List.setIfInBounds_toArray, List.set_cons_zero, List.set_cons_succ, hx] at htm
                     clear hz hoff
                     generalize tm.getD 61 undef = u0, tm.getD 62 undef = u1, tm.getD 63 undef = u2, tm.getD 64 undef = u3, tm.getD 65 undef = u4, tm.getD 66 undef = u5, tm.getD 67 undef = u6, tm.getD 68 undef = u7, tm.getD 69 undef = u8, tm.getD 70 undef = u9, tm.getD 71 undef = u10, tm.getD 72 undef = u11, tm.getD 73 undef = u12, tm.getD 74 undef = u13, tm.getD 75 undef = u14, tm.getD 76 undef = u15, tm.getD 77 undef = u16, tm.getD 78 undef = u17, tm.getD 79 undef = u18, tm.getD 80 undef = u19, tm.getD 81 undef = u20, tm.getD 82 undef = u21, tm.getD 83 undef = u22, tm.getD 84 undef = u23, tm.getD 85 undef = u24, tm.getD 86 undef = u25, tm.getD 87 undef = u26, tm.getD 88 undef = u27, tm.getD 89 undef = u28, tm.getD 90 undef = u29, tm.getD 91 undef = u30, tm.getD 92 undef = u31, tm.getD 93 undef = u32 at htm
                     clear hx
                     subst htm
                     go_wp2_with fail
                     go_meet
                     exact ⟨congrArg Value.bool hv.out, hBz⟩
                 · have hv : Hid (true = !enB (E c) d) := by show _ = _; rw [show enB (E c) d = false from decide_eq_false (fun h => h1 h.1)]; rfl
                   refine evN_A (n := n) (cap := cap) (A := A) (off := off) (c := c) (m := L c) (mc := (S c).2) (G := G) (ob := ob) (k := d) (x := E c d) hcn hn6 hdn hLc (decide_eq_false h1) rfl rfl rfl q12 hA e0 hG rfl ?_
                   rintro ⟨tm, df⟩ Wz hz hdf hoff hx hBz
                   simp only at hz hdf hoff hx
                   change tm.getD 94 undef = .bool true at hx
                   subst hdf
                   have htm := tmps_fold [61, 62, 63, 64, 65, 66, 67, 68, 69, 70, 71, 72, 73, 74, 75, 76, 77, 78, 79, 80, 81, 82, 83, 84, 85, 86, 87, 88, 89, 90, 91, 92, 93, 94] tm _ hz hoff
                   simp only [List.foldl, List.setIfInBounds_toArray, List.set_cons_zero, List.set_cons_succ, hx] at htm
                   clear hz hoff
                   generalize tm.getD 61 undef = u0, tm.getD 62 undef = u1, tm.getD 63 undef = u2, tm.getD 64 undef = u3, tm.getD 65 undef = u4, tm.getD 66 undef = u5, tm.getD 67 undef = u6, tm.getD 68 undef = u7, tm.getD 69 undef = u8, tm.getD 70 undef = u9, tm.getD 71 undef = u10, tm.getD 72 undef = u11, tm.getD 73 undef = u12, tm.getD 74 undef = u13, tm.getD 75 undef = u14, tm.getD 76 undef = u15, tm.getD 77 undef = u16, tm.getD 78 undef = u17, tm.getD 79 undef = u18, tm.getD 80 undef = u19, tm.getD 81 undef = u20, tm.getD 82 undef = u21, tm.getD 83 undef = u22, tm.getD 84 undef = u23, tm.getD 85 undef = u24, tm.getD 86 undef = u25, tm.getD 87 undef = u26, tm.getD 88 undef = u27, tm.getD 89 undef = u28, tm.getD 90 undef = u29, tm.getD 91 undef = u30, tm.getD 92 undef = u31, tm.getD 93 undef = u32 at htm
                   clear hx
                   subst htm
                   go_wp2_with fail
                   go_meet
                   exact ⟨congrArg Value.bool hv.out, hBz⟩
               case rest =>
                 obtain ⟨hq2, hBc⟩ := hcut
                 subst hq2
                 have HBM := HB2.trans (hBc.mono HB2.size)
                 have HBF := HBN.trans (HBM.mono HBN.size)
                 clear hBc HB2 q12 hA hG e0 hsc
                 cases hz : enB (E c) d
                 · have HO : Hid (evB n q L E = false) := evB_no hcn (.inr (endB_no hdn hz))
                   clear hz HS HT HL HA HR2 q12' HP HBM HBN
                   go_wp2
                   go_ret
                   exact ⟨by rw [HO.out]; rfl, HBF⟩
                 · have HY : Hid (enB (E c) d = true) := hz
                   clear hz
                   go_wp2
                   go_roundw
                   case rel => exact ⟨d + 1, by omega, by go_num, fun j hj => by
                     rcases Nat.lt_or_ge j d with h | h
                     · exact HP.out j h
                     · obtain rfl : j = d := by omega
                       exact HY.out, HBM⟩
                   case measure => simp [intOf]; omega
             · obtain rfl : d = L c := by omega
               have HQ : Hid (endB (L c) (E c) = true) := endB_yes HP.out
               have HBF := HBN.trans (HB2.mono HBN.size)
               clear HP
               go_wp2
               go_roundw
               case rel => exact ⟨c + 1, by omega, by go_num, fun j hj => by
                 rcases Nat.lt_or_ge j c with h | h
                 · exact HA.out j h
                 · obtain rfl : j = c := by omega
                   exact ⟨HZ.out, HQ.out⟩, HBF⟩
               case measure => simp [intOf]; omega
     · obtain rfl : c = n := by omega
       have HO : Hid (evB c q L E = true) := decide_eq_true ⟨hn6, HA.out⟩
       clear HS HT HL HA
       go_wp2
       go_ret
       exact ⟨by rw [HO.out]; rfl, HB⟩
theorem implEventsOk_any (ao : Option Addr) (n cap : Nat) (q : Nat → Int × Int × Int) (S : Nat → Option Addr × Nat) (L : Nat → Nat) (E : Nat → Nat → Int) (w : World) (hS : EvIn w ao n q S L E) (hT : ∀ i, i < n → told (q i).1 = true ∧ told (q i).2.1 = true ∧ told (q i).2.2 = true) (hL : ∀ i, i < n → L i ≤ 1048576) : Calls Tryz.prog 39 #[.slice ao n cap] w (VP (.bool (evB n q L E)) w) := by
 by_cases hn : 200 < n
 · have HO : Hid (evB n q L E = false) := by show _ = _; unfold evB; exact decide_eq_false (fun h => by omega)
   go_enter Tryz.func39, Tryz.ntmps39
   have hn' : (200 : Int) < n := by omega
   clear hS hT hL
   go_wp2
   go_ret
   exact ⟨by rw [HO.out]; rfl, Below.refl _ _⟩
 · go_enter Tryz.func39, Tryz.ntmps39
   have hn' : (n : Int) ≤ 200 := by omega
   have hn6 : n ≤ 200 := by omega
   have HS : Hid (EvIn w ao n q S L E) := hS
   have HT : Hid (∀ i, i < n → told (q i).1 = true ∧ told (q i).2.1 = true ∧ told (q i).2.2 = true) := hT
   have HL : Hid (∀ i, i < n → L i ≤ 1048576) := hL
   clear hS hT hL
   go_wp2_with fail
   go_loopw [10] (fun i wr => ∃ c : Nat, c ≤ n ∧ i = .int .i64 c ∧ (∀ j, j < c → evH q L j = true ∧ endB (L j) (E j) = true) ∧ Below w.heap.size w wr) (fun i _ => n - (intOf i).toNat)
   case atStart => exact ⟨0, by omega, rfl, fun j hj => by omega, Below.refl _ _⟩
   case round =>
     obtain ⟨c, hc, rfl, hall, HB⟩ := hrel
     have HA : Hid (∀ j, j < c → evH q L j = true ∧ endB (L j) (E j) = true) := hall
     clear hall
     by_cases hcn : c < n
     · obtain ⟨A, off, rfl, hA0, q0, q1, q2, q3, q4, q5, q6, q7, q8, q9, q10, q11, q12, hrow0⟩ := HS.out.step HB c hcn
       have hLc := HL.out c hcn
       obtain ⟨t1, t2, t3⟩ := HT.out c hcn
       have hcI : (c : Int) < n := by omega
       have RE := fun W h => rightEnds_any (S c).1 (L c) (S c).2 (E c) hLc W h
       have hB1 := (Below.refl wr.heap.size wr).alloc (Nat.le_refl _) (.cells #[.int .u64 (ww3 (q c).1), .int .u64 (ww2 (q c).1), .int .u64 (ww1 (q c).1), .int .u64 (ww0 (q c).1), .int .u64 (ww3 (q c).2.1), .int .u64 (ww2 (q c).2.1), .int .u64 (ww1 (q c).2.1), .int .u64 (ww0 (q c).2.1), .int .u64 (ww3 (q c).2.2), .int .u64 (ww2 (q c).2.2), .int .u64 (ww1 (q c).2.2), .int .u64 (ww0 (q c).2.2), .slice (S c).1 (L c) (S c).2] 81)
       have B1 := Blk.new wr [.int .u64 (ww3 (q c).1), .int .u64 (ww2 (q c).1), .int .u64 (ww1 (q c).1), .int .u64 (ww0 (q c).1), .int .u64 (ww3 (q c).2.1), .int .u64 (ww2 (q c).2.1), .int .u64 (ww1 (q c).2.1), .int .u64 (ww0 (q c).2.1), .int .u64 (ww3 (q c).2.2), .int .u64 (ww2 (q c).2.2), .int .u64 (ww1 (q c).2.2), .int .u64 (ww0 (q c).2.2), .slice (S c).1 (L c) (S c).2] 81 rfl
       have hrow := hrow0.step hB1
       have hA := Nat.lt_of_lt_of_le hA0 hB1.size
       clear hrow0 hA0
       go_upto_region 6 with fail
       have HB5 := HB.trans (hB1.mono HB.size)
       clear q0 q1 q2 q3 q4 q5 q6 q7 q8 q9 q10 q11 q12 hB1 HB
       generalize wr.alloc (.cells #[.int .u64 (ww3 (q c).1), .int .u64 (ww2 (q c).1), .int .u64 (ww1 (q c).1), .int .u64 (ww0 (q c).1), .int .u64 (ww3 (q c).2.1), .int .u64 (ww2 (q c).2.1), .int .u64 (ww1 (q c).2.1), .int .u64 (ww0 (q c).2.1), .int .u64 (ww3 (q c).2.2), .int .u64 (ww2 (q c).2.2), .int .u64 (ww1 (q c).2.2), .int .u64 (ww0 (q c).2.2), .slice (S c).1 (L c) (S c).2] 81) = W5 at *
       generalize wr.heap.size = gr at *
       go_cut [40] (fun zv wx => zv = .bool (!(evH q L c && endB (L c) (E c))) ∧ Below W5.heap.size W5 wx)
       case first =>
         by_cases h1 : ptB (q c).1 (q c).2.1 (q c).2.2 = true
         · by_cases h2 : (decide (1 ≤ L c) && endB (L c) (E c)) = false
           · have hv : Hid (true = !(evH q L c && endB (L c) (E c))) := by show _ = _; rw [show (evH q L c && endB (L c) (E c)) = false from by rw [Bool.and_eq_false_iff] at h2 ⊢; rcases h2 with h2 | h2; exact .inl (decide_eq_false (fun h => of_decide_eq_false h2 h.2.1)); exact .inr h2]; rfl
             refine evI_B (m := L c) (mc := (S c).2) (Be := gr) (eo := (S c).1) (x := (q c).1) (y := (q c).2.1) (z := (q c).2.2) (c := c) (xs := E c) t1 t2 t3 h1 hrow (fun W h => by have := RE W h; rw [h2] at this; exact this) rfl rfl (B1.c 0 rfl) B1.lt (B1.c 1 rfl) B1.lt (B1.c 2 rfl) B1.lt (B1.c 3 rfl) B1.lt (B1.c 4 rfl) B1.lt (B1.c 5 rfl) B1.lt (B1.c 6 rfl) B1.lt (B1.c 7 rfl) B1.lt (B1.c 8 rfl) B1.lt (B1.c 9 rfl) B1.lt (B1.c 10 rfl) B1.lt (B1.c 11 rfl) B1.lt (B1.c 12 rfl) B1.lt rfl ?_
             rintro ⟨tm, df⟩ Wz hz hdf hoff hx hBz
             simp only at hz hdf hoff hx
             change tm.getD 40 undef = .bool true at hx
             subst hdf
             have htm := tmps_fold [15, 16, 17, 18, 19, 20, 21, 22, 23, 24, 25, 26, 27, 28, 29, 30, 31, 32, 33, 34, 35, 36, 37, 38, 39, 40] tm _ hz hoff
             simp only [List.foldl, List.setIfInBounds_toArray, List.set_cons_zero, List.set_cons_succ, hx] at htm
             clear hz hoff
             generalize tm.getD 15 undef = u0, tm.getD 16 undef = u1, tm.getD 17 undef = u2, tm.getD 18 undef = u3, tm.getD 19 undef = u4, tm.getD 20 undef = u5, tm.getD 21 undef = u6, tm.getD 22 undef = u7, tm.getD 23 undef = u8, tm.getD 24 undef = u9, tm.getD 25 undef = u10, tm.getD 26 undef = u11, tm.getD 27 undef = u12, tm.getD 28 undef = u13, tm.getD 29 undef = u14, tm.getD 30 undef = u15, tm.getD 31 undef = u16, tm.getD 32 undef = u17, tm.getD 33 undef = u18, tm.getD 34 undef = u19, tm.getD 35 undef = u20, tm.getD 36 undef = u21, tm.getD 37 undef = u22, tm.getD 38 undef = u23, tm.getD 39 undef = u24 at htm
             clear hx
             subst htm
             go_wp2_with fail
             go_meet
             exact ⟨congrArg Value.bool hv.out, hBz⟩
           · rcases Nat.eq_zero_or_pos c with h0 | h0
             · have hv : Hid (false = !(evH q L c && endB (L c) (E c))) := by show _ = _; rw [Bool.not_eq_false, Bool.and_eq_true] at h2; rw [show evH q L c = true from decide_eq_true ⟨h1, of_decide_eq_true h2.1, fun h => by omega⟩, h2.2]; rfl
               refine evI_C (m := L c) (mc := (S c).2) (Be := gr) (eo := (S c).1) (x := (q c).1) (y := (q c).2.1) (z := (q c).2.2) (c := c) (xs := E c) t1 t2 t3 h1 hrow (fun W h => by have := RE W h; rw [eq_true_of_ne_false h2] at this; exact this) h0 rfl rfl (B1.c 0 rfl) B1.lt (B1.c 1 rfl) B1.lt (B1.c 2 rfl) B1.lt (B1.c 3 rfl) B1.lt (B1.c 4 rfl) B1.lt (B1.c 5 rfl) B1.lt (B1.c 6 rfl) B1.lt (B1.c 7 rfl) B1.lt (B1.c 8 rfl) B1.lt (B1.c 9 rfl) B1.lt (B1.c 10 rfl) B1.lt (B1.c 11 rfl) B1.lt (B1.c 12 rfl) B1.lt rfl ?_
               rintro ⟨tm, df⟩ Wz hz hdf hoff hx hBz
               simp only at hz hdf hoff hx
               change tm.getD 40 undef = .bool false at hx
               subst hdf
               have htm := tmps_fold [15, 16, 17, 18, 19, 20, 21, 22, 23, 24, 25, 26, 27, 28, 29, 30, 31, 32, 33, 34, 35, 36, 37, 38, 39, 40] tm _ hz hoff
               simp only [List.foldl, List.setIfInBounds_toArray, List.set_cons_zero, List.set_cons_succ, hx] at htm
               clear hz hoff
               generalize tm.getD 15 undef = u0, tm.getD 16 undef = u1, tm.getD 17 undef = u2, tm.getD 18 undef = u3, tm.getD 19 undef = u4, tm.getD 20 undef = u5, tm.getD 21 undef = u6, tm.getD 22 undef = u7, tm.getD 23 undef = u8, tm.getD 24 undef = u9, tm.getD 25 undef = u10, tm.getD 26 undef = u11, tm.getD 27 undef = u12, tm.getD 28 undef = u13, tm.getD 29 undef = u14, tm.getD 30 undef = u15, tm.getD 31 undef = u16, tm.getD 32 undef = u17, tm.getD 33 undef = u18, tm.getD 34 undef = u19, tm.getD 35 undef = u20, tm.getD 36 undef = u21, tm.getD 37 undef = u22, tm.getD 38 undef = u23, tm.getD 39 undef = u24 at htm
               clear hx
               subst htm
               go_wp2_with fail
               go_meet
               exact ⟨congrArg Value.bool hv.out, hBz⟩
             · obtain ⟨d, hd⟩ : ∃ d, c = d + 1 := ⟨c - 1, by omega⟩
               obtain ⟨A', off', hao, -, r0, r1, r2, r3, r4, r5, r6, r7, r8, r9, r10, r11, -, -⟩ := HS.out.step HB5 d (by omega)
               obtain ⟨rfl, rfl⟩ : A = A' ∧ off = off' := by simpa using hao
               have hv : Hid (decide (0 ≤ ordI (q d).1 (q d).2.1 (q d).2.2 (q c).1 (q c).2.1 (q c).2.2) = !(evH q L c && endB (L c) (E c))) := by show _ = _; rw [Bool.not_eq_false, Bool.and_eq_true] at h2; rw [h2.2, Bool.and_true, show evH q L c = decide (ordI (q d).1 (q d).2.1 (q d).2.2 (q c).1 (q c).2.1 (q c).2.2 < 0) from by unfold evH; rw [hd]; rw [hd] at h1 h2; rw [Nat.add_sub_cancel]; exact decide_eq_decide.2 ⟨fun h => h.2.2 (by omega), fun h => ⟨h1, of_decide_eq_true h2.1, fun _ => h⟩⟩, ← decide_not]; exact decide_eq_decide.2 (by omega)
               obtain ⟨u1, u2, u3⟩ := HT.out d (by omega)
               have hpu := (of_decide_eq_true (show decide (ptB (q d).1 (q d).2.1 (q d).2.2 = true ∧ 1 ≤ L d ∧ (0 < d → ordI (q (d - 1)).1 (q (d - 1)).2.1 (q (d - 1)).2.2 (q d).1 (q d).2.1 (q d).2.2 < 0)) = true from (HA.out d (by omega)).1)).1
               have HD : Hid (c = d + 1) := hd
               clear hd
               refine evI_D (m := L c) (mc := (S c).2) (Be := gr) (eo := (S c).1) (x := (q c).1) (y := (q c).2.1) (z := (q c).2.2) (n := n) (cap := cap) (A := A) (off := off) (c := c) (d := d) (u := (q d).1) (vv := (q d).2.1) (t := (q d).2.2) (xs := E c) t1 t2 t3 h1 hpu hrow (fun W h => by have := RE W h; rw [eq_true_of_ne_false h2] at this; exact this) HD hcn hn6 rfl rfl rfl (B1.c 0 rfl) B1.lt (B1.c 1 rfl) B1.lt (B1.c 2 rfl) B1.lt (B1.c 3 rfl) B1.lt (B1.c 4 rfl) B1.lt (B1.c 5 rfl) B1.lt (B1.c 6 rfl) B1.lt (B1.c 7 rfl) B1.lt (B1.c 8 rfl) B1.lt (B1.c 9 rfl) B1.lt (B1.c 10 rfl) B1.lt (B1.c 11 rfl) B1.lt (B1.c 12 rfl) B1.lt r0 hA r1 hA r2 hA r3 hA r4 hA r5 hA r6 hA r7 hA r8 hA r9 hA r10 hA r11 hA rfl ?_
               rintro ⟨tm, df⟩ Wz hz hdf hoff hx hBz
               simp only at hz hdf hoff hx
               change tm.getD 40 undef = .bool (decide (0 ≤ ordI (q d).1 (q d).2.1 (q d).2.2 (q c).1 (q c).2.1 (q c).2.2)) at hx
               subst hdf
               have htm := tmps_fold [15, 16, 17, 18, 19, 20, 21, 22, 23, 24, 25, 26, 27, 28, 29, 30, 31, 32, 33, 34, 35, 36, 37, 38, 39, 40] tm _ hz hoff
               simp only [List.foldl, List.setIfInBounds_toArray, List.set_cons_zero, List.set_cons_succ, hx] at htm
               clear hz hoff
               generalize tm.getD 15 undef = u0, tm.getD 16 undef = u1, tm.getD 17 undef = u2, tm.getD 18 undef = u3, tm.getD 19 undef = u4, tm.getD 20 undef = u5, tm.getD 21 undef = u6, tm.getD 22 undef = u7, tm.getD 23 undef = u8, tm.getD 24 undef = u9, tm.getD 25 undef = u10, tm.getD 26 undef = u11, tm.getD 27 undef = u12, tm.getD 28 undef = u13, tm.getD 29 undef = u14, tm.getD 30 undef = u15, tm.getD 31 undef = u16, tm.getD 32 undef = u17, tm.getD 33 undef = u18, tm.getD 34 undef = u19, tm.getD 35 undef = u20, tm.getD 36 undef = u21, tm.getD 37 undef = u22, tm.getD 38 undef = u23, tm.getD 39 undef = u24 at htm
               clear hx
               subst htm
               go_wp2_with fail
               go_meet
               exact ⟨congrArg Value.bool hv.out, hBz⟩
         · have hv : Hid (true = !(evH q L c && endB (L c) (E c))) := by show _ = _; rw [show evH q L c = false from decide_eq_false (fun h => h1 h.1)]; rfl
           refine evI_A (m := L c) (mc := (S c).2) (Be := gr) (eo := (S c).1) (x := (q c).1) (y := (q c).2.1) (z := (q c).2.2) (c := c) t1 t2 t3 (Bool.eq_false_iff.2 h1) rfl rfl (B1.c 0 rfl) B1.lt (B1.c 1 rfl) B1.lt (B1.c 2 rfl) B1.lt (B1.c 3 rfl) B1.lt (B1.c 4 rfl) B1.lt (B1.c 5 rfl) B1.lt (B1.c 6 rfl) B1.lt (B1.c 7 rfl) B1.lt (B1.c 8 rfl) B1.lt (B1.c 9 rfl) B1.lt (B1.c 10 rfl) B1.lt (B1.c 11 rfl) B1.lt (B1.c 12 rfl) B1.lt rfl ?_
           rintro ⟨tm, df⟩ Wz hz hdf hoff hx hBz
           simp only at hz hdf hoff hx
           change tm.getD 40 undef = .bool true at hx
           subst hdf
           have htm := tmps_fold [15, 16, 17, 18, 19, 20, 21, 22, 23, 24, 25, 26, 27, 28, 29, 30, 31, 32, 33, 34, 35, 36, 37, 38, 39, 40] tm _ hz hoff
           simp only [List.foldl, List.setIfInBounds_toArray, List.set_cons_zero, List.set_cons_succ, hx] at htm
           clear hz hoff
           generalize tm.getD 15 undef = u0, tm.getD 16 undef = u1, tm.getD 17 undef = u2, tm.getD 18 undef = u3, tm.getD 19 undef = u4, tm.getD 20 undef = u5, tm.getD 21 undef = u6, tm.getD 22 undef = u7, tm.getD 23 undef = u8, tm.getD 24 undef = u9, tm.getD 25 undef = u10, tm.getD 26 undef = u11, tm.getD 27 undef = u12, tm.getD 28 undef = u13, tm.getD 29 undef = u14, tm.getD 30 undef = u15, tm.getD 31 undef = u16, tm.getD 32 undef = u17, tm.getD 33 undef = u18, tm.getD 34 undef = u19, tm.getD 35 undef = u20, tm.getD 36 undef = u21, tm.getD 37 undef = u22, tm.getD 38 undef = u23, tm.getD 39 undef = u24 at htm
           clear hx
           subst htm
           go_wp2_with fail
           go_meet
           exact ⟨congrArg Value.bool hv.out, hBz⟩
       case rest =>
         obtain ⟨hq2, hBc⟩ := hcut
         subst hq2
         have HBN := HB5.trans (hBc.mono HB5.size)
         clear hBc HB5 B1 hrow hA RE t1 t2 t3
         cases hz : (evH q L c && endB (L c) (E c))
         · have HO : Hid (evB n q L E = false) := evB_no hcn (by rw [Bool.and_eq_false_iff] at hz; exact hz)
           clear hz HS HT HL HA
           go_wp2
           go_ret
           exact ⟨by rw [HO.out]; rfl, HBN⟩
         · rw [Bool.and_eq_true] at hz
           have HZ : Hid (evH q L c = true ∧ endB (L c) (E c) = true) := hz
           clear hz
           go_wp2
           go_roundw
           case rel => exact ⟨c + 1, by omega, by go_num, fun j hj => by
             rcases Nat.lt_or_ge j c with h | h
             · exact HA.out j h
             · obtain rfl : j = c := by omega
               exact HZ.out, HBN⟩
           case measure => simp [intOf]; omega
     · obtain rfl : c = n := by omega
       have HO : Hid (evB c q L E = true) := decide_eq_true ⟨hn6, HA.out⟩
       clear HS HT HL HA
       go_wp2
       go_ret
       exact ⟨by rw [HO.out]; rfl, HB⟩
end Go.Proofs.YtpmnmlhfaoajdaaGreat
