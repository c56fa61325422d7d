/- Part 16 of the walks that the proof leans on. -/
import Derived.Test.YtpmnmlhfaoajdaaGreatPart15
import Derived.Test.YtpmnmlhfaoajdaaGreatPart14
import Derived.Test.YtpmnmlhfaoajdaaGreatPart12
import Derived.Test.YtpmnmlhfaoajdaaGreatPart7
set_option maxRecDepth 100000
set_option maxHeartbeats 16000000
namespace Go.Proofs.YtpmnmlhfaoajdaaGreat
open Go.RowKit
open Go.Lib in
theorem insEEv_any (base n vb : Nat) (v : Value) (xs vs : List Value) (w : World) (hn : n ≤ 1048576) (hb : base ≤ w.heap.size) (hO : w.ownsRow base 81 13 v n xs) (hv : w.heap[vb]? = some (.cells vs.toArray 81 (0, 0))) (hvl : vs.length = 13) (h1v : ∀ v ∈ vs, v.oneCell' = true) : Calls Tryz.prog 44 #[v, .int .i64 (n : Int), .slice (some ⟨vb, 0, none⟩) 1 1] w (InsP base 81 13 v n n xs vs w) := by
 obtain ⟨i0, hi0, hz0, hzs, hzb⟩ := info_ev
 have hxl := hO.1
 have hvw : ∀ j v, vs[j]? = some v → w.cell? ⟨vb, 0 + j, none⟩ = some v := fun j v hj => by
   rw [Nat.zero_add]
   simp [World.cell?, hv, hj]
 have hnI : (n : Int) ≤ 1048576 := by omega
 rcases hO.2 with ⟨rfl, rfl⟩ | ⟨b, c, cur, rfl, _, _, hnc, _, _⟩
 · clear hnI hv
   go_enter Tryz.func44, Tryz.ntmps44
   go_wp2_with (at_builtin; refine wpList_append_own_at _ rfl _ _ 44 rfl base 81 i0 (.agg #[.int .u64 0, .int .u64 0, .int .u64 0, .int .u64 0, .int .u64 0, .int .u64 0, .int .u64 0, .int .u64 0, .int .u64 0, .int .u64 0, .int .u64 0, .int .u64 0, .slice none 0 0]) 13 120 Tryz.underlying44 hi0 hz0 hzs hzb rfl (by decide) _ _ _ rfl hO ⟨vb, 0, none⟩ 1 1 vs rfl (by rw [hvl]) (fun j v hj => by rw [Addr.add_lit]; exact hvw j v hj) h1v (by unfold maxLen; omega) (by omega) (by omega) ?_)
   all_goals
     intro v' w' hown hgrow _ hob
     go_wp2
     go_ret
     refine ⟨v', rfl, ?_, hgrow, hob⟩
     rw [show xs.take (0 * 13) = xs from List.take_of_length_le (by omega), show xs.drop (0 * 13) = [] from List.drop_of_length_le (by omega), List.append_nil]
     exact hown
 · clear hv
   go_enter Tryz.func44, Tryz.ntmps44
   go_wp2_with (at_builtin; refine wpList_append_own_at _ rfl _ _ 44 rfl base 81 i0 (.agg #[.int .u64 0, .int .u64 0, .int .u64 0, .int .u64 0, .int .u64 0, .int .u64 0, .int .u64 0, .int .u64 0, .int .u64 0, .int .u64 0, .int .u64 0, .int .u64 0, .slice none 0 0]) 13 120 Tryz.underlying44 hi0 hz0 hzs hzb rfl (by decide) _ _ _ rfl hO ⟨vb, 0, none⟩ 1 1 vs rfl (by rw [hvl]) (fun j v hj => by rw [Addr.add_lit]; exact hvw j v hj) h1v (by unfold maxLen; omega) (by omega) (by omega) ?_)
   all_goals
     intro v' w' hown hgrow _ hob
     go_wp2
     go_ret
     refine ⟨v', rfl, ?_, hgrow, hob⟩
     rw [show xs.take (n * 13) = xs from List.take_of_length_le (by omega), show xs.drop (n * 13) = [] from List.drop_of_length_le (by omega), List.append_nil]
     exact hown
open Go.Lib in
theorem insEv_any (base b n c i vb : Nat) (xs vs : List Value) (w : World) (hi : i < n) (hn : n ≤ 1048576) (hO : w.ownsRow base 81 13 (.slice (some ⟨b, 0, none⟩) n c) n xs) (hv : w.heap[vb]? = some (.cells vs.toArray 81 (0, 0))) (hvl : vs.length = 13) (hvb : vb ≠ b) (h1v : ∀ v ∈ vs, v.oneCell' = true) (h1x : ∀ v ∈ xs, v.oneCell' = true) : Calls Tryz.prog 44 #[.slice (some ⟨b, 0, none⟩) n c, .int .i64 (i : Int), .slice (some ⟨vb, 0, none⟩) 1 1] w (InsP base 81 13 (.slice (some ⟨b, 0, none⟩) n c) n i xs vs w) := by
 obtain ⟨i0, hi0, hz0, hzs, hzb⟩ := info_ev
 obtain ⟨hxl, hcase⟩ := hO
 rcases hcase with ⟨e, _⟩ | ⟨g, cap, cur, e, hbg, hg, hnc, hcm, hcs, hct⟩
 · cases e
 cases e
 have hvw : ∀ j v, vs[j]? = some v → w.cell? ⟨vb, 0 + j, none⟩ = some v := fun j v hj => by
   rw [Nat.zero_add]
   simp [World.cell?, hv, hj]
 have hbw : b < w.heap.size := (Array.getElem?_eq_some_iff.1 hg).1
 have hvw2 : vb < w.heap.size := (Array.getElem?_eq_some_iff.1 hv).1
 have hz2 : ¬ ((i : Int) = (n : Int)) := by omega
 have hltI : (i : Int) < (n : Int) := by omega
 have hnI : (n : Int) ≤ 1048576 := by omega
 have hsz : (Tryz.prog.info? 81).map (·.size) = some 13 := by rw [hi0]; simp [hzs]
 have hxc : ∀ j v, xs[j]? = some v → w.cell? ⟨b, j, none⟩ = some v := fun j v hj => by
   rw [← hct] at hj
   rw [List.getElem?_take] at hj
   split at hj
   · simp [World.cell?, hg]; simpa using hj
   · cases hj
 by_cases hroom : n + 1 ≤ c
 · have hroomI : (n : Int) + 1 ≤ (c : Int) := by omega
   have hc63 : c ≤ 9223372036854775807 := by have := hcm; unfold maxLen at this; omega
   have hci : ¬ (c = i) := by omega
   have hci1 : ¬ (c = i + 1) := by omega
   have hov : ∀ (A : Addr) lb cb, A.block = b → (callFunc 73 #[.slice (some ⟨vb, 0, none⟩) 1 1, .slice (some A) lb cb]).run Tryz.prog w = .ok (.value (.bool false)) w := fun A lb cb hA => by
     rw [run_callFunc_extern Tryz.func73 (by kernel_rfl) (by kernel_rfl) (by kernel_rfl) (e := Extern.SlicesOverlaps.overlaps #[44, 44] #[4]) (by kernel_rfl),
       Lib.run_overlaps_apart w 44 4 81 Tryz.underlying44 13 Tryz.sizeOf81 ⟨vb, 0, none⟩ A 1 1 lb cb (by rw [hA]; exact hvb) 81 81 13 (c * 13) (by simp [World.shape?, hv, hvl]) (by rw [hA]; simp [World.shape?, hg, hcs]) (by omega) (by simp [World.frozen?, hv]) (by simp [World.frozen?, hv])]
     rfl
   have hov1 := fun lb cb => hov ⟨b, (i + 1) * 13, none⟩ lb cb rfl
   clear hov
   go_enter Tryz.func44, Tryz.ntmps44
   obtain ⟨C1, hC1⟩ : ∃ C1 : Array Value, C1 = (cur.toList.take ((i + 1) * 13) ++ xs.drop (i * 13) ++ cur.toList.drop ((i + 1) * 13 + (xs.drop (i * 13)).length)).toArray := ⟨_, rfl⟩
   have hdl : (xs.drop (i * 13)).length = (n - i) * 13 := by rw [List.length_drop, hxl]; omega
   have hcp1 : ∀ ty dc sc, (Builtin.copy_ #[44, 44] ty #[.slice (some ⟨b, (i + 1) * 13, none⟩) (n - i) dc, .slice (some ⟨b, i * 13, none⟩) (n + 1 - i) sc]).run Tryz.prog w.drew = .ok (goInt (Nat.min (n + 1 - i) (n - i))) (w.drew.setRow b C1) := fun ty dc sc => by
     rw [hC1]
     exact copy_rowK w.drew 44 44 ty 81 13 b ((i + 1) * 13) (n - i) dc ⟨b, i * 13, none⟩ (n + 1 - i) sc cur 81 (xs.drop (i * 13)) Tryz.underlying44 hsz hg (by rw [hdl, show Nat.min (n + 1 - i) (n - i) = n - i from Nat.min_eq_right (by omega)])
       (fun j v hj => by rw [Addr.add_lit]; exact hxc _ v (by rwa [List.getElem?_drop] at hj)) (by rw [hdl, hcs]; omega) (fun v hv => h1x v (List.mem_of_mem_drop hv))
   have hC1s : C1.size = c * 13 := by rw [hC1]; simp [hxl, hcs]; omega
   obtain ⟨C2, hC2⟩ : ∃ C2 : Array Value, C2 = (C1.toList.take (i * 13) ++ vs ++ C1.toList.drop (i * 13 + vs.length)).toArray := ⟨_, rfl⟩
   have hcp2 : ∀ (W : World), W.heap = (w.setRow b C1).heap → ∀ ty dc, (Builtin.copy_ #[44, 44] ty #[.slice (some ⟨b, i * 13, none⟩) (n + 1 - i) dc, .slice (some ⟨vb, 0, none⟩) 1 1]).run Tryz.prog W = .ok (goInt (Nat.min 1 (n + 1 - i))) (W.setRow b C2) := fun W hW ty dc => by
     rw [hC2]
     exact copy_rowK W 44 44 ty 81 13 b (i * 13) (n + 1 - i) dc ⟨vb, 0, none⟩ 1 1 C1 81 vs Tryz.underlying44 hsz (by rw [hW]; exact setRow_heap w b cur C1 _ _ hg) (by rw [hvl, show Nat.min 1 (n + 1 - i) = 1 from Nat.min_eq_left (by omega)])
       (fun j v hj => by
         rw [Addr.add_lit]
         have := hvw j v hj
         rw [← this]
         exact World.cell?_of_block (w := w) (a := ⟨vb, 0 + j, none⟩) (by show W.heap[vb]? = _; rw [hW]; exact setRow_other w b vb C1 hvb)) (by rw [hvl, hC1s]; omega) h1v
   have HF : Hid (C2.toList.take ((n + 1) * 13) = xs.take (i * 13) ++ vs ++ xs.drop (i * 13) ∧ C2.size = c * 13) := by
     refine ⟨?_, ?_⟩
     · rw [hC2, hC1]
       have h := ins_list (k := 13) (n := n) (c := c) (i := i) (cur := cur.toList) (xs := xs) (vs := vs) hct hvl (by simpa using hcs) (by omega) hroom
       first | exact h | (simp only [Nat.mul_one] at h ⊢; exact h)
     · rw [hC2]
       simp [hvl, hC1s]
       omega
   clear hC1 hC2 hxc hvw hct
   have mixed : Tryz.prog.follows Departure.mixedOrders = true := by kernel_rfl
   have hw1 : IntKind.i64.wrap ((i : Int) + 1) = (i : Int) + 1 := by rw [IntKind.wrap_i64]; omega
   have hb1 : (0 : Int) ≤ (i : Int) + 1 := by omega
   have htn : ((i : Int) + 1).toNat = i + 1 := by omega
   have hb3 : (i : Int) + 1 ≤ (n : Int) + 1 := by omega
   have hb5 : (i : Int) ≤ (n : Int) + 1 := by omega
   go_wp2_with (simp only [hov1])
   go_region_law_o (refine step_copy_runI rfl _ _ 44 44 rfl (.slice (some ⟨b, (i + 1) * 13, none⟩) (n - i) (c - (i + 1))) (.slice (some ⟨b, i * 13, none⟩) (n + 1 - i) (c - i)) (by simp [Act.eval, Act.put]) (by simp [Act.eval, Act.put]) (hcp1 _ _ _) ?_)
   have hcp3 := hcp2 (w.drew.setRow b C1) rfl
   clear hcp2 hcp1
   go_wp2
   go_ret
   have e1 : (w.drew.setRow b C1).heap[b]? = some (.cells C1 81 (0, 0)) := setRow_heap w.drew b cur C1 _ _ hg
   refine ⟨_, rfl, ⟨?_, .inr ⟨b, c, C2, rfl, hbg, setRow_heap _ b C1 C2 _ _ e1, hroom, hcm, HF.out.2, HF.out.1⟩⟩, ⟨rfl, rfl, rfl, by simp, fun k hk hne => ?_⟩, .inl rfl⟩
   · rw [List.length_append, List.length_append, List.length_take, List.length_drop, hxl, hvl]
     omega
   · have hkb : k ≠ b := fun e => hne (congrArg some e)
     rw [setRow_other _ b k C2 hkb, setRow_other _ b k C1 hkb]
     rfl
 · obtain ⟨G, hG⟩ : ∃ G, G = grownCap w (n + 1) c 81 := ⟨_, rfl⟩
   obtain ⟨ROW, hROW⟩ : ∃ ROW : Array Value, ROW = (xs.take (i * 13)).toArray ++ Builtin.zeroCells (.agg #[.int .u64 0, .int .u64 0, .int .u64 0, .int .u64 0, .int .u64 0, .int .u64 0, .int .u64 0, .int .u64 0, .int .u64 0, .int .u64 0, .int .u64 0, .int .u64 0, .slice none 0 0] : Value).cells (n + 1 - i) ++ Builtin.zeroCells (.agg #[.int .u64 0, .int .u64 0, .int .u64 0, .int .u64 0, .int .u64 0, .int .u64 0, .int .u64 0, .int .u64 0, .int .u64 0, .int .u64 0, .int .u64 0, .int .u64 0, .slice none 0 0] : Value).cells (G - (n + 1)) := ⟨_, rfl⟩
   have hGn : n + 1 ≤ G := by rw [hG]; exact grownCap_ge w _ _ _
   have hGm : G ≤ maxLen := by rw [hG]; exact grownCap_le_maxLen w (n + 1) c 81 (by unfold maxLen; omega)
   have hRl : ROW.size = G * 13 := by
     rw [hROW]
     simp [Builtin.zeroCells, Value.cells, hxl]
     omega
   have hRt : ROW.toList.take (i * 13) = xs.take (i * 13) := by
     rw [hROW]
     simp only [Array.toList_append, List.append_assoc]
     rw [List.take_append_of_le_length (by simp [hxl]; omega), List.take_of_length_le (by simp [hxl]; omega)]
   have hold : (Builtin.firstCells i0.size i (.slice (some ⟨b, 0, none⟩) i c)).run Tryz.prog w.drew = .ok (xs.take (i * 13)).toArray w.drew := by
     rw [hzs]
     exact run_firstCells_some w.drew 13 i ⟨b, 0, none⟩ i c (xs.take (i * 13)) (by rw [List.length_take, hxl]; omega) (fun j v hj => by
       rw [Addr.add_lit, Nat.zero_add]
       rw [List.getElem?_take] at hj
       split at hj
       · exact hxc j v hj
       · cases hj)
   have hrz : ∀ ty, (Builtin.append_ #[44, 3] ty #[.slice (some ⟨b, 0, none⟩) i c, .int .i64 ((n : Int) + 1 - (i : Int))]).run Tryz.prog w = .ok (.slice (some ⟨w.heap.size, 0, none⟩) (n + 1) G) (w.drew.alloc (.cells ROW 81)) := fun ty => by
     have h := Lib.run_append_grow_zeros w 44 3 ty 81 i0 _ .i64 .i64 Tryz.underlying44 Tryz.underlying3 hi0 hz0 (some ⟨b, 0, none⟩) i c (xs.take (i * 13)) hold (n + 1 - i) (by omega) (by omega) (by omega) (by omega) (by rw [hzb]; omega) (by rw [hzb, show i + (n + 1 - i) = n + 1 by omega]; exact growslice_fits (by omega) (by omega))
     rw [show i + (n + 1 - i) = n + 1 by omega, ← hG, ← hROW] at h
     rw [show (n : Int) + 1 - (i : Int) = ((n + 1 - i : Nat) : Int) by omega]
     exact h
   obtain ⟨R1, hR1⟩ : ∃ R1 : Array Value, R1 = (ROW.toList.take (i * 13) ++ vs ++ ROW.toList.drop (i * 13 + vs.length)).toArray := ⟨_, rfl⟩
   have hR1s : R1.size = G * 13 := by rw [hR1]; simp [hvl, hRl]; omega
   obtain ⟨R2, hR2⟩ : ∃ R2 : Array Value, R2 = (R1.toList.take ((i + 1) * 13) ++ xs.drop (i * 13) ++ R1.toList.drop ((i + 1) * 13 + (xs.drop (i * 13)).length)).toArray := ⟨_, rfl⟩
   have hdl : (xs.drop (i * 13)).length = (n - i) * 13 := by rw [List.length_drop, hxl]; omega
   have hR2s : R2.size = G * 13 := by rw [hR2]; simp [hxl, hR1s]; omega
   have hNw : w.heap.size ≠ vb := by omega
   have hNb : w.heap.size ≠ b := by omega
   have a1 : (w.alloc (.cells ROW 81)).heap[w.heap.size]? = some (.cells ROW 81 (0, 0)) := heap_alloc_new w _
   have hcpA : ∀ (W : World), W.heap = (w.alloc (.cells ROW 81)).heap → ∀ ty dc, (Builtin.copy_ #[44, 44] ty #[.slice (some ⟨w.heap.size, i * 13, none⟩) (n + 1 - i) dc, .slice (some ⟨vb, 0, none⟩) 1 1]).run Tryz.prog W = .ok (goInt (Nat.min 1 (n + 1 - i))) (W.setRow w.heap.size R1) := fun W hW ty dc => by
     rw [hR1]
     exact copy_rowK W 44 44 ty 81 13 w.heap.size (i * 13) (n + 1 - i) dc ⟨vb, 0, none⟩ 1 1 ROW 81 vs Tryz.underlying44 hsz (by rw [hW]; exact a1) (by rw [hvl, show Nat.min 1 (n + 1 - i) = 1 from Nat.min_eq_left (by omega)])
       (fun j v hj => by
         rw [Addr.add_lit]
         have := hvw j v hj
         rw [← this]
         exact World.cell?_of_block (w := w) (a := ⟨vb, 0 + j, none⟩) (by show W.heap[vb]? = _; rw [hW]; exact Below.heap_alloc _ _ _ hvw2)) (by rw [hvl, hRl]; omega) h1v
   have hcpB : ∀ (W : World), W.heap = ((w.alloc (.cells ROW 81)).setRow w.heap.size R1).heap → ∀ ty dc sc, (Builtin.copy_ #[44, 44] ty #[.slice (some ⟨w.heap.size, (i + 1) * 13, none⟩) (n - i) dc, .slice (some ⟨b, i * 13, none⟩) (n - i) sc]).run Tryz.prog W = .ok (goInt (Nat.min (n - i) (n - i))) (W.setRow w.heap.size R2) := fun W hW ty dc sc => by
     rw [hR2]
     exact copy_rowK W 44 44 ty 81 13 w.heap.size ((i + 1) * 13) (n - i) dc ⟨b, i * 13, none⟩ (n - i) sc R1 81 (xs.drop (i * 13)) Tryz.underlying44 hsz (by rw [hW]; exact setRow_heap _ w.heap.size ROW R1 _ _ a1) (by rw [hdl, show Nat.min (n - i) (n - i) = n - i from Nat.min_self _])
       (fun j v hj => by
         rw [Addr.add_lit]
         have := hxc (i * 13 + j) v (by rwa [List.getElem?_drop] at hj)
         rw [← this]
         exact World.cell?_of_block (w := w) (a := ⟨b, i * 13 + j, none⟩) (by show W.heap[b]? = _; rw [hW, setRow_other _ _ _ _ (Ne.symm hNb)]; exact Below.heap_alloc _ _ _ hbw)) (by rw [hdl, hR1s]; omega) (fun v hv => h1x v (List.mem_of_mem_drop hv))
   have HF : Hid (R2.toList.take ((n + 1) * 13) = xs.take (i * 13) ++ vs ++ xs.drop (i * 13)) := by
     show _ = _
     rw [hR2, hR1]
     have h := ins_list2 (k := 13) (n := n) (i := i) (row := ROW.toList) (xs := xs) (vs := vs) (by first | exact hRt | (simp only [Nat.mul_one]; exact hRt)) hvl hxl (by omega)
     first | exact h | (simp only [Nat.mul_one] at h ⊢; exact h)
   have hcI : (c : Int) < (n : Int) + 1 := by omega
   have hci : ¬ (c = i) := by omega
   have hGi : ¬ (G = i) := by omega
   have hGi1 : ¬ (G = i + 1) := by omega
   have mixed : Tryz.prog.follows Departure.mixedOrders = true := by kernel_rfl
   have hw1 : IntKind.i64.wrap ((i : Int) + 1) = (i : Int) + 1 := by rw [IntKind.wrap_i64]; omega
   have hb1 : (0 : Int) ≤ (i : Int) + 1 := by omega
   have htn : ((i : Int) + 1).toNat = i + 1 := by omega
   have hb3 : (i : Int) + 1 ≤ (n : Int) + 1 := by omega
   have hb5 : (i : Int) ≤ (n : Int) + 1 := by omega
   have hb6 : (i : Int) ≤ (n : Int) := by omega
   have hG63 : G ≤ 9223372036854775807 := by have := hGm; unfold maxLen at this; omega
   have hA := hcpA (w.alloc (.cells ROW 81)).drew rfl
   have hB := hcpB ((w.alloc (.cells ROW 81)).drew.setRow w.heap.size R1).drew rfl
   clear hROW hG hR1 hR2 hRt hold hxc hvw hct a1 hcpA hcpB
   go_enter Tryz.func44, Tryz.ntmps44
   go_wp2_with (at_builtin; refine Lib.wpList_append_run _ rfl _ _ _ _ rfl _ _ rfl rfl _ _ (hrz _) ?_)
   go_region_law_o (refine step_copy_runI rfl _ _ 44 44 rfl (.slice (some ⟨w.heap.size, (i + 1) * 13, none⟩) (n - i) (G - (i + 1))) (.slice (some ⟨b, i * 13, none⟩) (n - i) (c - i)) (by simp [Act.eval, Act.put]) (by simp [Act.eval, Act.put]) (hB _ _ _) ?_)
   go_wp2
   go_ret
   have e0 : (w.alloc (.cells ROW 81)).drew.heap[w.heap.size]? = some (.cells ROW 81 (0, 0)) := heap_alloc_new w _
   have e1 : ((w.alloc (.cells ROW 81)).drew.setRow w.heap.size R1).drew.heap[w.heap.size]? = some (.cells R1 81 (0, 0)) := setRow_heap (w.alloc (.cells ROW 81)).drew w.heap.size ROW R1 _ _ e0
   refine ⟨_, rfl, ⟨?_, .inr ⟨w.heap.size, G, R2, rfl, by omega, setRow_heap _ w.heap.size R1 R2 _ _ e1, hGn, hGm, hR2s, HF.out⟩⟩, ⟨rfl, rfl, rfl, by simp, fun k hk hne => ?_⟩, .inr rfl⟩
   · rw [List.length_append, List.length_append, List.length_take, List.length_drop, hxl, hvl]
     omega
   · rw [setRow_other _ w.heap.size k R2 (by omega)]
     show ((w.alloc (.cells ROW 81)).drew.setRow w.heap.size R1).heap[k]? = _
     rw [setRow_other _ w.heap.size k R1 (by omega)]
     exact Below.heap_alloc w _ _ hk
open Go.RowKit
theorem implPut_any (ao : Option Addr) (n cap : Nat) (q : Nat → Int × Int × Int) (S : Nat → Option Addr × Nat) (L : Nat → Nat) (E : Nat → Nat → Int) (p : Int × Int × Int) (x : Int) (w : World) (hS : EvIn w ao n q S L E) (hn : n ≤ 1048576) (hT : ∀ i, i < n → told (q i).1 = true ∧ told (q i).2.1 = true ∧ told (q i).2.2 = true) (hL : ∀ i, i < n → L i ≤ 1048576) (hp : told p.1 = true ∧ told p.2.1 = true ∧ told p.2.2 = true) (ok : Bool) (N : Nat) (Q : Nat → Int × Int × Int) (L' : Nat → Nat) (E' : Nat → Nat → Int) (hR : PutTo n q L E p x ok N Q L' E') : Calls Tryz.prog 18 #[.slice ao n cap, PV p.1 p.2.1 p.2.2, .int .i64 x] w (fun r w' => ∃ v s, r = .returned (.tuple #[v, .bool ok]) ∧ EvRow w' w.heap.size w'.heap.size v N (wq Q) s L' E' ∧ Below w.heap.size w w') := by
 have B0 : Blk (w.alloc (.cells #[.int .u64 (ww3 p.1), .int .u64 (ww2 p.1), .int .u64 (ww1 p.1), .int .u64 (ww0 p.1), .int .u64 (ww3 p.2.1), .int .u64 (ww2 p.2.1), .int .u64 (ww1 p.2.1), .int .u64 (ww0 p.2.1), .int .u64 (ww3 p.2.2), .int .u64 (ww2 p.2.2), .int .u64 (ww1 p.2.2), .int .u64 (ww0 p.2.2)] 35)) w.heap.size [.int .u64 (ww3 p.1), .int .u64 (ww2 p.1), .int .u64 (ww1 p.1), .int .u64 (ww0 p.1), .int .u64 (ww3 p.2.1), .int .u64 (ww2 p.2.1), .int .u64 (ww1 p.2.1), .int .u64 (ww0 p.2.1), .int .u64 (ww3 p.2.2), .int .u64 (ww2 p.2.2), .int .u64 (ww1 p.2.2), .int .u64 (ww0 p.2.2)] := Blk.new w [.int .u64 (ww3 p.1), .int .u64 (ww2 p.1), .int .u64 (ww1 p.1), .int .u64 (ww0 p.1), .int .u64 (ww3 p.2.1), .int .u64 (ww2 p.2.1), .int .u64 (ww1 p.2.1), .int .u64 (ww0 p.2.1), .int .u64 (ww3 p.2.2), .int .u64 (ww2 p.2.2), .int .u64 (ww1 p.2.2), .int .u64 (ww0 p.2.2)] 35 rfl
 have HB : Below w.heap.size w (w.alloc (.cells #[.int .u64 (ww3 p.1), .int .u64 (ww2 p.1), .int .u64 (ww1 p.1), .int .u64 (ww0 p.1), .int .u64 (ww3 p.2.1), .int .u64 (ww2 p.2.1), .int .u64 (ww1 p.2.1), .int .u64 (ww0 p.2.1), .int .u64 (ww3 p.2.2), .int .u64 (ww2 p.2.2), .int .u64 (ww1 p.2.2), .int .u64 (ww0 p.2.2)] 35)) := (Below.refl _ w).alloc (Nat.le_refl _) _
 have hS1 := hS.step HB
 have CE := implEventsOk_any ao n cap q S L E (w.alloc (.cells #[.int .u64 (ww3 p.1), .int .u64 (ww2 p.1), .int .u64 (ww1 p.1), .int .u64 (ww0 p.1), .int .u64 (ww3 p.2.1), .int .u64 (ww2 p.2.1), .int .u64 (ww1 p.2.1), .int .u64 (ww0 p.2.1), .int .u64 (ww3 p.2.2), .int .u64 (ww2 p.2.2), .int .u64 (ww1 p.2.2), .int .u64 (ww0 p.2.2)] 35)) hS1 hT hL
 have CP := pright_det p.1 p.2.1 p.2.2 hp.1 hp.2.1 hp.2.2
 have CI := isNumber_any x
 rcases hR with ⟨hno, rfl, rfl, rfl, rfl, rfl⟩ | ⟨h1, h2, h3, j, th, hP, hR⟩
 · have hb1 : ∃ b1, evB n q L E = b1 := ⟨_, rfl⟩
   obtain ⟨b1, hb1⟩ := hb1
   obtain ⟨b2, hb2⟩ : ∃ b2, ptB p.1 p.2.1 p.2.2 = b2 := ⟨_, rfl⟩
   obtain ⟨b3, hb3⟩ : ∃ b3, decide (0 ≤ x ∧ x ≤ 39) = b3 := ⟨_, rfl⟩
   rw [hb1, hb2, hb3] at hno
   rw [hb1] at CE
   rw [hb2] at CP
   rw [hb3] at CI
   clear hb1 hb2 hb3 hS hT hL hp
   cases b1 with
   | false =>
     go_enter Tryz.func18, Tryz.ntmps18
     go_wp2_with fail
     refine CE.mono ?_
     rintro r w1 ⟨rfl, hB1⟩
     replace B0 := B0.step hB1
     replace HB := HB.trans (hB1.mono HB.size)
     clear CE hB1 hS1
     go_wp2
     refine bodyPost_ret (v := .tuple #[.slice none 0 0, .bool false]) (by simp [results, Tryz.results18, go_sem]) rfl ?_
     exact ⟨.slice none 0 0, fun _ => .slice none 0 0, rfl, .inl ⟨rfl, rfl⟩, HB⟩
   | true =>
     cases b2 with
     | false =>
       go_enter Tryz.func18, Tryz.ntmps18
       go_wp2_with fail
       refine CE.mono ?_
       rintro r w1 ⟨rfl, hB1⟩
       replace B0 := B0.step hB1
       replace HB := HB.trans (hB1.mono HB.size)
       clear CE hB1 hS1
       have m0 := B0.c 0 rfl; have m1 := B0.c 1 rfl; have m2 := B0.c 2 rfl; have m3 := B0.c 3 rfl; have m4 := B0.c 4 rfl; have m5 := B0.c 5 rfl; have m6 := B0.c 6 rfl; have m7 := B0.c 7 rfl; have m8 := B0.c 8 rfl; have m9 := B0.c 9 rfl; have m10 := B0.c 10 rfl; have m11 := B0.c 11 rfl
       go_wp2_with fail
       refine (CP _).mono ?_
       rintro r w2 ⟨rfl, hB1⟩
       replace B0 := B0.step hB1
       replace HB := HB.trans (hB1.mono HB.size)
       clear hB1
       clear m0 m1 m2 m3 m4 m5 m6 m7 m8 m9 m10 m11
       go_wp2
       refine bodyPost_ret (v := .tuple #[.slice none 0 0, .bool false]) (by simp [results, Tryz.results18, go_sem]) rfl ?_
       exact ⟨.slice none 0 0, fun _ => .slice none 0 0, rfl, .inl ⟨rfl, rfl⟩, HB⟩
     | true =>
       cases b3 with
       | false =>
         go_enter Tryz.func18, Tryz.ntmps18
         go_wp2_with fail
         refine CE.mono ?_
         rintro r w1 ⟨rfl, hB1⟩
         replace B0 := B0.step hB1
         replace HB := HB.trans (hB1.mono HB.size)
         clear CE hB1 hS1
         have m0 := B0.c 0 rfl; have m1 := B0.c 1 rfl; have m2 := B0.c 2 rfl; have m3 := B0.c 3 rfl; have m4 := B0.c 4 rfl; have m5 := B0.c 5 rfl; have m6 := B0.c 6 rfl; have m7 := B0.c 7 rfl; have m8 := B0.c 8 rfl; have m9 := B0.c 9 rfl; have m10 := B0.c 10 rfl; have m11 := B0.c 11 rfl
         go_wp2_with fail
         refine (CP _).mono ?_
         rintro r w2 ⟨rfl, hB1⟩
         replace B0 := B0.step hB1
         replace HB := HB.trans (hB1.mono HB.size)
         clear hB1
         clear m0 m1 m2 m3 m4 m5 m6 m7 m8 m9 m10 m11
         go_wp2_with fail
         refine (CI _).mono ?_
         rintro r w3 ⟨rfl, hB1⟩
         replace B0 := B0.step hB1
         replace HB := HB.trans (hB1.mono HB.size)
         clear hB1
         go_wp2
         refine bodyPost_ret (v := .tuple #[.slice none 0 0, .bool false]) (by simp [results, Tryz.results18, go_sem]) rfl ?_
         exact ⟨.slice none 0 0, fun _ => .slice none 0 0, rfl, .inl ⟨rfl, rfl⟩, HB⟩
       | true => cases hno
 · obtain ⟨hn2, hL0⟩ := evB_pos h1
   have CC := fun w h => copiedEvents_any ao n cap q S L E hn (fun i hi => ⟨hL0 i hi, hL i hi⟩) w h
   have CB := fun w h => bsf_any ao n cap q S L E p j th hn2 (fun i hi => evB_pt h1 hi) h2 hP w h
   have HS : Hid (EvIn w ao n q S L E) := hS
   have HP : Hid (PutAt n q p j th) := hP
   have HR : Hid _ := hR
   have hj := hP.le
   have hnI : (n : Int) ≤ 200 := by omega
   have hjI : (j : Int) ≤ n := by omega
   rw [h1] at CE
   rw [h2] at CP
   rw [decide_eq_true h3] at CI
   have HX : Hid _ := h1
   clear hS hT hL hP hR h1 h2 h3 hL0 hp
   go_enter Tryz.func18, Tryz.ntmps18
   go_wp2_with fail
   refine CE.mono ?_
   rintro r w1 ⟨rfl, hB1⟩
   replace B0 := B0.step hB1
   replace HB := HB.trans (hB1.mono HB.size)
   clear CE hB1 hS1
   have m0 := B0.c 0 rfl; have m1 := B0.c 1 rfl; have m2 := B0.c 2 rfl; have m3 := B0.c 3 rfl; have m4 := B0.c 4 rfl; have m5 := B0.c 5 rfl; have m6 := B0.c 6 rfl; have m7 := B0.c 7 rfl; have m8 := B0.c 8 rfl; have m9 := B0.c 9 rfl; have m10 := B0.c 10 rfl; have m11 := B0.c 11 rfl
   go_wp2_with fail
   refine (CP _).mono ?_
   rintro r w2 ⟨rfl, hB1⟩
   replace B0 := B0.step hB1
   replace HB := HB.trans (hB1.mono HB.size)
   clear hB1
   clear m0 m1 m2 m3 m4 m5 m6 m7 m8 m9 m10 m11
   go_wp2_with fail
   refine (CI _).mono ?_
   rintro r w3 ⟨rfl, hB1⟩
   replace B0 := B0.step hB1
   replace HB := HB.trans (hB1.mono HB.size)
   clear hB1
   have m0 := B0.c 0 rfl; have m1 := B0.c 1 rfl; have m2 := B0.c 2 rfl; have m3 := B0.c 3 rfl; have m4 := B0.c 4 rfl; have m5 := B0.c 5 rfl; have m6 := B0.c 6 rfl; have m7 := B0.c 7 rfl; have m8 := B0.c 8 rfl; have m9 := B0.c 9 rfl; have m10 := B0.c 10 rfl; have m11 := B0.c 11 rfl
   go_wp2_with fail
   refine (CB _ (HS.out.step HB)).mono ?_
   rintro r w4 ⟨rfl, hB1⟩
   replace B0 := B0.step hB1
   replace HB := HB.trans (hB1.mono HB.size)
   clear hB1 CB CP CI
   clear m0 m1 m2 m3 m4 m5 m6 m7 m8 m9 m10 m11
   rcases HR.out with ⟨rfl, h200, rfl, rfl, rfl, rfl, rfl⟩ | ⟨rfl, hlt, rfl, rfl, rfl, rfl, rfl⟩ | ⟨rfl, jn, tw, hN, rfl, rfl, rfl, rfl, rfl⟩
   · subst h200
     clear CC HS HP HR HX
     go_wp2
     refine bodyPost_ret (v := .tuple #[.slice none 0 0, .bool false]) (by simp [results, Tryz.results18, go_sem]) rfl ?_
     exact ⟨.slice none 0 0, fun _ => .slice none 0 0, rfl, .inl ⟨rfl, rfl⟩, HB⟩
   · have hlt2 : (n : Int) < 200 := by omega
     have hne : ¬ ((n : Int) = 200) := by omega
     go_wp2_with fail
     refine (CC _ (HS.out.step HB)).mono ?_
     rintro r w6 ⟨v, s, rfl, HO, hB1⟩
     replace B0 := B0.step hB1
     have hb0 : w.heap.size ≤ w4.heap.size := HB.size
     have hB1s := hB1.size
     replace HB := HB.trans (hB1.mono HB.size)
     clear hB1 CC HS
     have m0 := B0.c 0 rfl; have m1 := B0.c 1 rfl; have m2 := B0.c 2 rfl; have m3 := B0.c 3 rfl; have m4 := B0.c 4 rfl; have m5 := B0.c 5 rfl; have m6 := B0.c 6 rfl; have m7 := B0.c 7 rfl; have m8 := B0.c 8 rfl; have m9 := B0.c 9 rfl; have m10 := B0.c 10 rfl; have m11 := B0.c 11 rfl
     have HWA : Below w6.heap.size w6 (w6.alloc (.cells #[.int .i64 x] 2)) := (Below.refl _ _).alloc (Nat.le_refl _) _
     have HWE : Below w6.heap.size w6 ((w6.alloc (.cells #[.int .i64 x] 2)).alloc (.cells #[.int .u64 (ww3 p.1), .int .u64 (ww2 p.1), .int .u64 (ww1 p.1), .int .u64 (ww0 p.1), .int .u64 (ww3 p.2.1), .int .u64 (ww2 p.2.1), .int .u64 (ww1 p.2.1), .int .u64 (ww0 p.2.1), .int .u64 (ww3 p.2.2), .int .u64 (ww2 p.2.2), .int .u64 (ww1 p.2.2), .int .u64 (ww0 p.2.2), (.slice (some ⟨w6.heap.size, 0, none⟩) 1 1)] 81)) := HWA.alloc (by simp) _
     have hsE : ((w6.alloc (.cells #[.int .i64 x] 2)).alloc (.cells #[.int .u64 (ww3 p.1), .int .u64 (ww2 p.1), .int .u64 (ww1 p.1), .int .u64 (ww0 p.1), .int .u64 (ww3 p.2.1), .int .u64 (ww2 p.2.1), .int .u64 (ww1 p.2.1), .int .u64 (ww0 p.2.1), .int .u64 (ww3 p.2.2), .int .u64 (ww2 p.2.2), .int .u64 (ww1 p.2.2), .int .u64 (ww0 p.2.2), (.slice (some ⟨w6.heap.size, 0, none⟩) 1 1)] 81)).heap.size = w6.heap.size + 2 := by simp
     have hvE : ((w6.alloc (.cells #[.int .i64 x] 2)).alloc (.cells #[.int .u64 (ww3 p.1), .int .u64 (ww2 p.1), .int .u64 (ww1 p.1), .int .u64 (ww0 p.1), .int .u64 (ww3 p.2.1), .int .u64 (ww2 p.2.1), .int .u64 (ww1 p.2.1), .int .u64 (ww0 p.2.1), .int .u64 (ww3 p.2.2), .int .u64 (ww2 p.2.2), .int .u64 (ww1 p.2.2), .int .u64 (ww0 p.2.2), (.slice (some ⟨w6.heap.size, 0, none⟩) 1 1)] 81)).heap[w6.heap.size + 1]? = some (.cells (ev13 p (.slice (some ⟨w6.heap.size, 0, none⟩) 1 1)).toArray 81 (0, 0)) := by
       have h := heap_alloc_new (w6.alloc (.cells #[.int .i64 x] 2)) (.cells (ev13 p (.slice (some ⟨w6.heap.size, 0, none⟩) 1 1)).toArray 81)
       rw [show (w6.alloc (.cells #[.int .i64 x] 2)).heap.size = w6.heap.size + 1 by simp] at h
       exact h
     have HOE := HO.step HWE
     have h1e := evCs_one HO
     have hs4 : w4.heap.size ≤ w6.heap.size := hB1s
     have INS : Calls Tryz.prog 44 #[v, .int .i64 (j : Int), .slice (some ⟨w6.heap.size + 1, 0, none⟩) 1 1] ((w6.alloc (.cells #[.int .i64 x] 2)).alloc (.cells #[.int .u64 (ww3 p.1), .int .u64 (ww2 p.1), .int .u64 (ww1 p.1), .int .u64 (ww0 p.1), .int .u64 (ww3 p.2.1), .int .u64 (ww2 p.2.1), .int .u64 (ww1 p.2.1), .int .u64 (ww0 p.2.1), .int .u64 (ww3 p.2.2), .int .u64 (ww2 p.2.2), .int .u64 (ww1 p.2.2), .int .u64 (ww0 p.2.2), (.slice (some ⟨w6.heap.size, 0, none⟩) 1 1)] 81)) (InsP w4.heap.size 81 13 v n j (evCs n (wq q) s) (ev13 p (.slice (some ⟨w6.heap.size, 0, none⟩) 1 1)) ((w6.alloc (.cells #[.int .i64 x] 2)).alloc (.cells #[.int .u64 (ww3 p.1), .int .u64 (ww2 p.1), .int .u64 (ww1 p.1), .int .u64 (ww0 p.1), .int .u64 (ww3 p.2.1), .int .u64 (ww2 p.2.1), .int .u64 (ww1 p.2.1), .int .u64 (ww0 p.2.1), .int .u64 (ww3 p.2.2), .int .u64 (ww2 p.2.2), .int .u64 (ww1 p.2.2), .int .u64 (ww0 p.2.2), (.slice (some ⟨w6.heap.size, 0, none⟩) 1 1)] 81))) := by
       by_cases hjn : j = n
       · subst hjn
         exact insEEv_any _ _ _ _ _ _ _ hn (by rw [hsE]; omega) HOE.own hvE rfl (ev13_one _ _ _ _)
       · obtain ⟨b, bc, rfl, _, hb, _⟩ := ownN_form HO.own (by omega)
         exact insEv_any _ _ _ _ _ _ _ _ _ (by omega) hn HOE.own hvE rfl (by omega) (ev13_one _ _ _ _) h1e
     clear h1e hvE HWA
     go_wp2_with fail
     refine INS.mono ?_
     rintro r w7 ⟨v', rfl, hown, hgrow, hob⟩
     clear INS B0
     clear m0 m1 m2 m3 m4 m5 m6 m7 m8 m9 m10 m11
     have hv0 : ∀ k, v.ownBlock = some k → w4.heap.size ≤ k ∧ k < w6.heap.size := fun k hk => HO.own.lt k hk
     have HU : ((w6.alloc (.cells #[.int .i64 x] 2)).alloc (.cells #[.int .u64 (ww3 p.1), .int .u64 (ww2 p.1), .int .u64 (ww1 p.1), .int .u64 (ww0 p.1), .int .u64 (ww3 p.2.1), .int .u64 (ww2 p.2.1), .int .u64 (ww1 p.2.1), .int .u64 (ww0 p.2.1), .int .u64 (ww3 p.2.2), .int .u64 (ww2 p.2.2), .int .u64 (ww1 p.2.2), .int .u64 (ww0 p.2.2), (.slice (some ⟨w6.heap.size, 0, none⟩) 1 1)] 81)).ownsRow w4.heap.size 2 1 (.slice (some ⟨w6.heap.size, 0, none⟩) 1 1) 1 (noL 1 (fun _ => x)) := ownA_step (own_one w6 x (by omega)) ((Below.refl _ _).alloc (Nat.le_refl _) _)
     replace HU := HU.kept hgrow (.inr fun e => by have := hv0 w6.heap.size e.symm; omega)
     have HBF := (HB.trans (HWE.mono HB.size)).grown hgrow (by rw [hsE]; omega) (fun k hk => by have := hv0 k hk; omega)
     rw [hsE] at hob
     have hF := HOE.ins_ (j := j) (p := p) hj HU (fun i hi => (HOE.ins i hi).kept hgrow (by
       cases e : (s i).ownBlock with
       | none => exact .inl rfl
       | some k => exact .inr fun e2 => HO.d1 i hi k e e2.symm)) hown (fun i hi k hk e => by
       rcases hob with h | h
       · rw [h] at e; exact HO.d1 i hi k hk e
       · rw [h] at e; have := Option.some.inj e; have := (HO.ins i hi).lt k hk; omega) (fun k hk => by
       obtain rfl : w6.heap.size = k := Option.some.inj hk
       refine ⟨fun e => ?_, fun i hi e => by have := (HO.ins i hi).lt w6.heap.size e; omega⟩
       rcases hob with h | h
       · rw [h] at e; have := hv0 _ e; omega
       · rw [h] at e; have := Option.some.inj e; omega)
     clear HO HOE HU hown hgrow hob HB HWE hsE
     go_wp2
     refine bodyPost_ret (v := .tuple #[v', .bool true]) (by simp [results, Tryz.results18, go_sem]) rfl ?_
     exact ⟨v', _, rfl, hF.row.mono hb0 (Nat.le_refl _), HBF⟩
   · have hcn := (HP.out.t1 rfl).1
     go_wp2_with fail
     refine (CC _ (HS.out.step HB)).mono ?_
     rintro r w6 ⟨v, s, rfl, HO, hB1⟩
     have hb0 : w.heap.size ≤ w4.heap.size := HB.size
     replace HB := HB.trans (hB1.mono HB.size)
     have hs4 := hB1.size
     clear hB1 CC HS B0
     obtain ⟨g, gc, rfl, hg0, hg1, hgc, _⟩ := ownN_form HO.own (by omega)
     have hLj := endB_len (evB_end HX.out hcn)
     have hL1 := (evB_pos HX.out).2 j hcn
     obtain ⟨b, sc, hsc, hb1, hb2, _⟩ := ownN_form (HO.ins j hcn) hL1
     obtain ⟨so, sc2, hsc2, hNI⟩ := (NoRow.of (HO.ins j hcn)).in
     rw [hsc] at hsc2
     cases hsc2
     have hjI3 : (j : Int) < n := by omega
     have hbk := (ownE_blk HO.own).c (j * 13 + 12) (evCs_at (by omega))
     rw [evC_12, hsc] at hbk
     go_wp2_with fail
     refine (binSearch_any _ (L j) sc jn (E j) x tw (by omega) hN.le hN.lo hN.t1 hN.t0 hN.hi _ hNI).mono ?_
     rintro r w7 ⟨rfl, hB2⟩
     replace HO := HO.step hB2
     replace HB := HB.trans (hB2.mono HB.size)
     have hs6 := hB2.size
     clear hB2 hbk hNI
     cases tw with
     | true =>
       have e1 : setF L j (inM (L j) true) = L := funext fun i => by
         unfold setF inM
         rw [if_pos rfl]
         split
         · rename_i c; rw [c]
         · rfl
       have e2 : setF E j (inE (E j) jn x true) = E := funext fun i => by
         rw [inE_same hN]
         unfold setF
         split
         · rename_i c; rw [c]
         · rfl
       have hF : ∃ s2, EvRow w7 w.heap.size w7.heap.size (.slice (some ⟨g, 0, none⟩) n gc) n (wq q) s2 (setF L j (inM (L j) true)) (setF E j (inE (E j) jn x true)) := by
         rw [e1, e2]
         exact ⟨_, HO.row.mono hb0 (Nat.le_refl _)⟩
       obtain ⟨s2, hF⟩ := hF
       clear HO e1 e2
       go_wp2
       refine bodyPost_ret (v := .tuple #[.slice (some ⟨g, 0, none⟩) n gc, .bool true]) (by simp [results, Tryz.results18, go_sem]) rfl ?_
       exact ⟨_, s2, rfl, hF, HB⟩
     | false =>
       have HWB : Below w7.heap.size w7 (w7.alloc (.cells #[.int .i64 x] 2)) := (Below.refl _ _).alloc (Nat.le_refl _) _
       have hsB : (w7.alloc (.cells #[.int .i64 x] 2)).heap.size = w7.heap.size + 1 := by simp
       have HO8 := HO.step HWB
       have hvB : (w7.alloc (.cells #[.int .i64 x] 2)).heap[w7.heap.size]? = some (.cells [Value.int .i64 x].toArray 2 (0, 0)) := heap_alloc_new w7 _
       have hown0 := HO8.ins j hcn
       rw [hsc] at hown0
       have INS : Calls Tryz.prog 46 #[.slice (some ⟨b, 0, none⟩) (L j) sc, .int .i64 (jn : Int), .slice (some ⟨w7.heap.size, 0, none⟩) 1 1] (w7.alloc (.cells #[.int .i64 x] 2)) (InsP w4.heap.size 2 1 (.slice (some ⟨b, 0, none⟩) (L j) sc) (L j) jn (noL (L j) (E j)) [.int .i64 x] (w7.alloc (.cells #[.int .i64 x] 2))) := by
         have hjn := hN.le
         by_cases hjm : jn = L j
         · rw [hjm]
           exact insENo_any _ _ _ _ _ _ _ (by omega) (by rw [hsB]; omega) hown0 hvB rfl (one_cellI _)
         · exact insNo_any _ _ _ _ _ _ _ _ _ (by omega) (by omega) hown0 hvB rfl (by omega) (one_cellI _) (noL_one _ _)
       clear hvB
       go_wp2_with fail
       refine INS.mono ?_
       rintro r w8 ⟨u, rfl, hU, hgrow, hob⟩
       clear INS
       obtain ⟨uo, uc, rfl⟩ := ownE_slice hU
       have hgb : b ≠ g := fun e => HO.d1 j hcn b (by rw [hsc]; rfl) (by rw [e]; rfl)
       have hk8 := ownE_blk (HO8.own.kept hgrow (.inr fun e => hgb (Option.some.inj e).symm))
       have hbk8 := hk8.c (j * 13 + 12) (evCs_at (by omega))
       have hfk8 := hk8.f (j * 13 + 12) (evCs_at (by omega))
       have HBF := (((HB.trans (HWB.mono HB.size)).grown hgrow (by rw [hsB]; have := HB.size; omega) (fun k hk => by have h : b = k := Option.some.inj hk; omega))).setCell (p := ⟨g, j * 13 + 12, none⟩) (by show _ ≤ g; omega) (.slice uo (L j + 1) uc)
       rw [← noL_ins hN.le] at hU
       have hF := HO8.put_ hcn hU (fun k hk hne => hgrow.block k hk (fun e => hne (by rw [hsc]; exact e.symm))) (fun k hk => by
         rcases hob with h | h
         · exact .inl (by rw [hsc, ← h]; exact hk)
         · exact .inr (by have := Option.some.inj (h.symm.trans hk); omega))
       clear HO HO8 hU hgrow hob HB HWB hk8 hown0
       go_wp2
       refine bodyPost_ret (v := .tuple #[.slice (some ⟨g, 0, none⟩) n gc, .bool true]) (by simp [results, Tryz.results18, go_sem]) rfl ?_
       exact ⟨_, _, rfl, hF.row.mono hb0 (Nat.le_refl _), HBF⟩
def InE (n : Nat) (q : Nat → Int × Int × Int) (L : Nat → Nat) (E : Nat → Nat → Int) (v : Value) (W : World) : Prop := ∃ g S, v = .slice (some ⟨g, 0, none⟩) n n ∧ EvIn W (some ⟨g, 0, none⟩) n q S L E
theorem InE.step {n : Nat} {q : Nat → Int × Int × Int} {L : Nat → Nat} {E : Nat → Nat → Int} {v : Value} {W W2 : World} (h : InE n q L E v W) (hB : Below W.heap.size W W2) : InE n q L E v W2 := by
 obtain ⟨g, S, h1, h2⟩ := h
 exact ⟨g, S, h1, h2.step hB⟩
def RowE (B n : Nat) (q : Nat → Int × Int × Int) (L : Nat → Nat) (E : Nat → Nat → Int) (v : Value) (W : World) : Prop := ∃ s t, t ≤ W.heap.size ∧ EvRow W B t v n (wq q) s L E
theorem RowE.step {B : Nat} {n : Nat} {q : Nat → Int × Int × Int} {L : Nat → Nat} {E : Nat → Nat → Int} {v : Value} {W W2 : World} (h : RowE B n q L E v W) (hB : Below W.heap.size W W2) : RowE B n q L E v W2 := by
 obtain ⟨s, t, h1, h2⟩ := h
 exact ⟨s, t, Nat.le_trans h1 hB.size, h2.step hB⟩
def TupE (B : Nat) (ok : Bool) (n : Nat) (q : Nat → Int × Int × Int) (L : Nat → Nat) (E : Nat → Nat → Int) (v : Value) (W : World) : Prop := ∃ u s t, v = .tuple #[u, .bool ok] ∧ t ≤ W.heap.size ∧ EvRow W B t u n (wq q) s L E
theorem TupE.step {B : Nat} {ok : Bool} {n : Nat} {q : Nat → Int × Int × Int} {L : Nat → Nat} {E : Nat → Nat → Int} {v : Value} {W W2 : World} (h : TupE B ok n q L E v W) (hB : Below W.heap.size W W2) : TupE B ok n q L E v W2 := by
 obtain ⟨u, s, t, h0, h1, h2⟩ := h
 exact ⟨u, s, t, h0, Nat.le_trans h1 hB.size, h2.step hB⟩
def VpwA (n cap : Nat) (ao : Option Addr) (qf : Nat → Int × Int × Int) (Lf : Nat → Nat) (Ef : Nat → Nat → Int) (px py pz xx : Int) (okn : Bool) (Nn : Nat) (Qn : Nat → Int × Int × Int) (Ln : Nat → Nat) (En : Nat → Nat → Int) (B : Nat) : Nat → Value → World → Prop
 | 0, v, _ => v = .slice ao n cap
 | 1, v, W => InE n qf Lf Ef v W
 | 2, v, _ => v = PV px py pz
 | 3, v, _ => v = PV px py pz
 | 4, v, _ => v = .int .i64 xx
 | 5, v, W => TupE B okn Nn Qn Ln En v W
 | 6, v, W => TupE B okn Nn Qn Ln En v W
 | 7, v, W => RowE B Nn Qn Ln En v W
 | 8, v, _ => v = .bool okn
 | 9, v, W => RowE B Nn Qn Ln En v W
 | 10, v, _ => v = .bool okn
 | _, _, _ => True
theorem VpwA.mono {n cap : Nat} {ao : Option Addr} {qf : Nat → Int × Int × Int} {Lf : Nat → Nat} {Ef : Nat → Nat → Int} {px py pz xx : Int} {okn : Bool} {Nn : Nat} {Qn : Nat → Int × Int × Int} {Ln : Nat → Nat} {En : Nat → Nat → Int} {B j : Nat} {v : Value} {W W2 : World} (hB : Below W.heap.size W W2) (h : VpwA n cap ao qf Lf Ef px py pz xx okn Nn Qn Ln En B j v W) : VpwA n cap ao qf Lf Ef px py pz xx okn Nn Qn Ln En B j v W2 := by
 unfold VpwA at *
 split <;> simp only at h <;> first | exact h | exact h.step hB | trivial
theorem pwA {Q : Exit → Act → World → Prop} {n cap : Nat} {ao : Option Addr} {qf : Nat → Int × Int × Int} {Lf : Nat → Nat} {Ef : Nat → Nat → Int} {px py pz xx : Int} {okn : Bool} {Nn : Nat} {Qn : Nat → Int × Int × Int} {Ln : Nat → Nat} {En : Nat → Nat → Int} {P : Nat} {Sf : Nat → Option Addr × Nat} {w0 : World} {a0 : Act} {idq : Nat} {t0 t1 t2 t3 t4 t5 t6 t7 t8 t9 t10 : TypeId} {q0 q1 q2 q3 q4 q5 q6 q7 q8 q9 q10 : String}
   (hIn : EvIn w0 ao n qf Sf Lf Ef) (hT1 : ∀ w, EvIn w ao n qf Sf Lf Ef → Calls Tryz.prog 17 #[.slice ao n cap] w (fun r w' => ∃ g S', r = .returned (.slice (some ⟨g, 0, none⟩) n n) ∧ EvIn w' (some ⟨g, 0, none⟩) n qf S' Lf Ef ∧ Below w.heap.size w w')) (hSP : ∀ g S w, EvIn w (some ⟨g, 0, none⟩) n qf S Lf Ef → Calls Tryz.prog 16 #[.slice (some ⟨g, 0, none⟩) n n, PV px py pz, .int .i64 xx] w (fun r w' => ∃ v s, r = .returned (.tuple #[v, .bool okn]) ∧ EvRow w' w.heap.size w'.heap.size v Nn (wq Qn) s Ln En ∧ Below w.heap.size w w')) (h0 : a0.tmps[0]? = some (.slice ao n cap)) (h2 : a0.tmps[2]? = some (.int .i64 xx)) (h4 : a0.tmps[4]? = some (.pointer (some ⟨P, 0, none⟩))) (k0 : w0.cell? ⟨P, 0, none⟩ = some (.int .u64 (ww3 px))) (l0 : (⟨P, 0, none⟩ : Addr).block < w0.heap.size) (k1 : w0.cell? ⟨P, 1, none⟩ = some (.int .u64 (ww2 px))) (l1 : (⟨P, 1, none⟩ : Addr).block < w0.heap.size) (k2 : w0.cell? ⟨P, 2, none⟩ = some (.int .u64 (ww1 px))) (l2 : (⟨P, 2, none⟩ : Addr).block < w0.heap.size) (k3 : w0.cell? ⟨P, 3, none⟩ = some (.int .u64 (ww0 px))) (l3 : (⟨P, 3, none⟩ : Addr).block < w0.heap.size) (k4 : w0.cell? ⟨P, 4, none⟩ = some (.int .u64 (ww3 py))) (l4 : (⟨P, 4, none⟩ : Addr).block < w0.heap.size) (k5 : w0.cell? ⟨P, 5, none⟩ = some (.int .u64 (ww2 py))) (l5 : (⟨P, 5, none⟩ : Addr).block < w0.heap.size) (k6 : w0.cell? ⟨P, 6, none⟩ = some (.int .u64 (ww1 py))) (l6 : (⟨P, 6, none⟩ : Addr).block < w0.heap.size) (k7 : w0.cell? ⟨P, 7, none⟩ = some (.int .u64 (ww0 py))) (l7 : (⟨P, 7, none⟩ : Addr).block < w0.heap.size) (k8 : w0.cell? ⟨P, 8, none⟩ = some (.int .u64 (ww3 pz))) (l8 : (⟨P, 8, none⟩ : Addr).block < w0.heap.size) (k9 : w0.cell? ⟨P, 9, none⟩ = some (.int .u64 (ww2 pz))) (l9 : (⟨P, 9, none⟩ : Addr).block < w0.heap.size) (k10 : w0.cell? ⟨P, 10, none⟩ = some (.int .u64 (ww1 pz))) (l10 : (⟨P, 10, none⟩ : Addr).block < w0.heap.size) (k11 : w0.cell? ⟨P, 11, none⟩ = some (.int .u64 (ww0 pz))) (l11 : (⟨P, 11, none⟩ : Addr).block < w0.heap.size) (hz : a0.tmps.size = 109)
   (hQ : ∀ aq W, aq.tmps.size = a0.tmps.size → aq.defers = a0.defers → (∀ e, e ∉ ([24, 25, 26, 27, 28, 29, 23, 30, 31, 8, 9] : List Nat) → aq.tmps[e]? = a0.tmps[e]?) → VpwA n cap ao qf Lf Ef px py pz xx okn Nn Qn Ln En w0.heap.size 9 (aq.tmps.getD 8 undef) W → VpwA n cap ao qf Lf Ef px py pz xx okn Nn Qn Ln En w0.heap.size 10 (aq.tmps.getD 9 undef) W → Below w0.heap.size w0 W → Q .normal aq W) :
   (Code.region idq #[{ dst := some 24, op := Op.move (.tmp 0), type := t0, pos := q0, after := #[], guard := none },
   { dst := some 25, op := Op.call { callee := Callee.value (Operand.func 17), args := #[.tmp 24], argTypes := #[42] }, type := t1, pos := q1, after := #[⟨0, .data⟩], guard := none },
   { dst := some 26, op := Op.load 27 (.tmp 4), type := t2, pos := q2, after := #[], guard := none },
   { dst := some 27, op := Op.call { callee := Callee.value (Operand.func 8), args := #[.tmp 26], argTypes := #[27] }, type := t3, pos := q3, after := #[⟨2, .data⟩, ⟨1, .chain⟩], guard := none },
   { dst := some 28, op := Op.move (.tmp 2), type := t4, pos := q4, after := #[], guard := none },
   { dst := some 29, op := Op.call { callee := Callee.value (Operand.func 16), args := #[.tmp 25, .tmp 27, .tmp 28], argTypes := #[44, 35, 2] }, type := t5, pos := q5, after := #[⟨1, .data⟩, ⟨3, .data⟩, ⟨4, .data⟩, ⟨3, .chain⟩], guard := none },
   { dst := some 23, op := Op.move (.tmp 29), type := t6, pos := q6, after := #[⟨5, .data⟩], guard := none },
   { dst := some 30, op := Op.extract (.tmp 23) 0, type := t7, pos := q7, after := #[⟨6, .data⟩], guard := none },
   { dst := some 31, op := Op.extract (.tmp 23) 1, type := t8, pos := q8, after := #[⟨6, .data⟩, { on := 9, ground := Ground.gcOnly Departure.lateStores }], guard := none },
   { dst := some 8, op := Op.assign (.tmp 30), type := t9, pos := q9, after := #[⟨7, .data⟩, ⟨5, .chain⟩, ⟨0, .phase⟩, ⟨1, .phase⟩, ⟨2, .phase⟩, ⟨3, .phase⟩, ⟨4, .phase⟩, ⟨5, .phase⟩, ⟨6, .phase⟩, ⟨7, .phase⟩, { on := 8, ground := Ground.textOnly Departure.lateStores }], guard := none },
   { dst := some 9, op := Op.assign (.tmp 31), type := t10, pos := q10, after := #[⟨8, .data⟩, ⟨9, .chain⟩, ⟨0, .phase⟩, ⟨1, .phase⟩, ⟨2, .phase⟩, ⟨3, .phase⟩, ⟨4, .phase⟩, ⟨5, .phase⟩, ⟨6, .phase⟩, ⟨7, .phase⟩, ⟨8, .phase⟩, ⟨9, .phase⟩], guard := none }] true).wp Tryz.prog Q a0 w0 := by
 have hS : distS [some 24, some 25, some 26, some 27, some 28, some 29, some 23, some 30, some 31, some 8, some 9] = true := rfl
 refine wp_region_q (by kernel_rfl) w0.heap.size [some 24, some 25, some 26, some 27, some 28, some 29, some 23, some 30, some 31, some 8, some 9] (VpwA n cap ao qf Lf Ef px py pz xx okn Nn Qn Ln En w0.heap.size) rfl ?_ ?_
 · intro Q lq aq W iq oq hJ hl ho hall
   have hJ2 := hJ
   obtain ⟨z1, z2, z3, z4, z5, z6, z7⟩ := hJ
   have g0 : aq.tmps.getD 0 undef = .slice ao n cap := by rw [Array.getD_eq_getD_getElem?, z4 0 (by decide), h0]; rfl
   have g2 : aq.tmps.getD 2 undef = .int .i64 xx := by rw [Array.getD_eq_getD_getElem?, z4 2 (by decide), h2]; rfl
   have g4 : aq.tmps.getD 4 undef = .pointer (some ⟨P, 0, none⟩) := by rw [Array.getD_eq_getD_getElem?, z4 4 (by decide), h4]; rfl
   have c0 : W.cell? ⟨P, 0, none⟩ = some (.int .u64 (ww3 px)) := (z5.cell l0).trans k0
   have c1 : W.cell? ⟨P, 1, none⟩ = some (.int .u64 (ww2 px)) := (z5.cell l1).trans k1
   have c2 : W.cell? ⟨P, 2, none⟩ = some (.int .u64 (ww1 px)) := (z5.cell l2).trans k2
   have c3 : W.cell? ⟨P, 3, none⟩ = some (.int .u64 (ww0 px)) := (z5.cell l3).trans k3
   have c4 : W.cell? ⟨P, 4, none⟩ = some (.int .u64 (ww3 py)) := (z5.cell l4).trans k4
   have c5 : W.cell? ⟨P, 5, none⟩ = some (.int .u64 (ww2 py)) := (z5.cell l5).trans k5
   have c6 : W.cell? ⟨P, 6, none⟩ = some (.int .u64 (ww1 py)) := (z5.cell l6).trans k6
   have c7 : W.cell? ⟨P, 7, none⟩ = some (.int .u64 (ww0 py)) := (z5.cell l7).trans k7
   have c8 : W.cell? ⟨P, 8, none⟩ = some (.int .u64 (ww3 pz)) := (z5.cell l8).trans k8
   have c9 : W.cell? ⟨P, 9, none⟩ = some (.int .u64 (ww2 pz)) := (z5.cell l9).trans k9
   have c10 : W.cell? ⟨P, 10, none⟩ = some (.int .u64 (ww1 pz)) := (z5.cell l10).trans k10
   have c11 : W.cell? ⟨P, 11, none⟩ = some (.int .u64 (ww0 pz)) := (z5.cell l11).trans k11
   match iq, ho with
   | 0, ho =>
     cases ho
     refine wpOp_of rfl rfl ?_
     have hK := fun (v : Value) (W2 : World) hW hT hv => hJ2.put hS 0 24 rfl (by omega) (W' := W2) hW hT v hv
     clear ho hall hl hQ
     generalize InvQ _ _ _ w0 a0 (lq.setIfInBounds 0 true) = K at hK ⊢
     clear hJ2 hS z1 z2 z3 z4 z6 z7
     go_simp
     exact hK _ _ z5 (fun _ _ h => h) rfl
   | 1, ho =>
     cases ho
     refine wpOp_of rfl rfl ?_
     have f0 : (aq.tmps.getD 24 undef) = .slice ao n cap := z6 0 24 (hall ⟨0, .data⟩ (by simp) rfl) rfl
     have hK := fun (v : Value) (W2 : World) hW hT hv => hJ2.put hS 1 25 rfl (by omega) (W' := W2) hW hT v hv
     clear ho hall hl hQ
     generalize InvQ _ _ _ w0 a0 (lq.setIfInBounds 1 true) = K at hK ⊢
     clear hJ2 hS z1 z2 z3 z4 z6 z7
     go_simp
     refine (hT1 W (hIn.step z5)).mono ?_
     rintro r v1 ⟨g1, S1, rfl, R1, hBv⟩
     exact hK _ _ (z5.trans (hBv.mono z5.size)) (fun j v h => h.mono hBv) ⟨g1, S1, rfl, R1⟩
   | 2, ho =>
     cases ho
     refine wpOp_of rfl rfl ?_
     have hK := fun (v : Value) (W2 : World) hW hT hv => hJ2.put hS 2 26 rfl (by omega) (W' := W2) hW hT v hv
     clear ho hall hl hQ
     generalize InvQ _ _ _ w0 a0 (lq.setIfInBounds 2 true) = K at hK ⊢
     clear hJ2 hS z1 z2 z3 z4 z6 z7
     go_simp
     exact hK _ _ z5 (fun _ _ h => h) rfl
   | 3, ho =>
     cases ho
     refine wpOp_of rfl rfl ?_
     have f2 : (aq.tmps.getD 26 undef) = PV px py pz := z6 2 26 (hall ⟨2, .data⟩ (by simp) rfl) rfl
     have hK := fun (v : Value) (W2 : World) hW hT hv => hJ2.put hS 3 27 rfl (by omega) (W' := W2) hW hT v hv
     clear ho hall hl hQ
     generalize InvQ _ _ _ w0 a0 (lq.setIfInBounds 3 true) = K at hK ⊢
     clear hJ2 hS z1 z2 z3 z4 z6 z7
     go_simp
     refine (toPoint_det px py pz W).mono ?_
     rintro e v1 ⟨rfl, hBv⟩
     exact hK _ _ (z5.trans (hBv.mono z5.size)) (fun j v h => h.mono hBv) rfl
   | 4, ho =>
     cases ho
     refine wpOp_of rfl rfl ?_
     have hK := fun (v : Value) (W2 : World) hW hT hv => hJ2.put hS 4 28 rfl (by omega) (W' := W2) hW hT v hv
     clear ho hall hl hQ
     generalize InvQ _ _ _ w0 a0 (lq.setIfInBounds 4 true) = K at hK ⊢
     clear hJ2 hS z1 z2 z3 z4 z6 z7
     go_simp
     exact hK _ _ z5 (fun _ _ h => h) rfl
   | 5, ho =>
     cases ho
     refine wpOp_of rfl rfl ?_
     have f1 : InE n qf Lf Ef (aq.tmps.getD 25 undef) W := z6 1 25 (hall ⟨1, .data⟩ (by simp) rfl) rfl
     obtain ⟨g1, S1, e1, R1⟩ := f1
     have f3 : (aq.tmps.getD 27 undef) = PV px py pz := z6 3 27 (hall ⟨3, .data⟩ (by simp) rfl) rfl
     have f4 : (aq.tmps.getD 28 undef) = .int .i64 xx := z6 4 28 (hall ⟨4, .data⟩ (by simp) rfl) rfl
     have hK := fun (v : Value) (W2 : World) hW hT hv => hJ2.put hS 5 29 rfl (by omega) (W' := W2) hW hT v hv
     clear ho hall hl hQ
     generalize InvQ _ _ _ w0 a0 (lq.setIfInBounds 5 true) = K at hK ⊢
     clear hJ2 hS z1 z2 z3 z4 z6 z7
     go_simp
     refine (hSP g1 S1 W R1).mono ?_
     rintro r v1 ⟨u1, s1, rfl, V1, hBv⟩
     exact hK _ _ (z5.trans (hBv.mono z5.size)) (fun j v h => h.mono hBv) ⟨u1, s1, v1.heap.size, rfl, Nat.le_refl _, V1.mono z5.size (Nat.le_refl _)⟩
   | 6, ho =>
     cases ho
     refine wpOp_of rfl rfl ?_
     have f5 : TupE w0.heap.size okn Nn Qn Ln En (aq.tmps.getD 29 undef) W := z6 5 29 (hall ⟨5, .data⟩ (by simp) rfl) rfl
     obtain ⟨u5, s5, y5, e5, ht5, hr5⟩ := f5
     have hK := fun (v : Value) (W2 : World) hW hT hv => hJ2.put hS 6 23 rfl (by omega) (W' := W2) hW hT v hv
     clear ho hall hl hQ
     generalize InvQ _ _ _ w0 a0 (lq.setIfInBounds 6 true) = K at hK ⊢
     clear hJ2 hS z1 z2 z3 z4 z6 z7
     go_simp
     exact hK _ _ z5 (fun _ _ h => h) ⟨u5, s5, y5, rfl, ht5, hr5⟩
   | 7, ho =>
     cases ho
     refine wpOp_of rfl rfl ?_
     have f6 : TupE w0.heap.size okn Nn Qn Ln En (aq.tmps.getD 23 undef) W := z6 6 23 (hall ⟨6, .data⟩ (by simp) rfl) rfl
     obtain ⟨u6, s6, y6, e6, ht6, hr6⟩ := f6
     have hK := fun (v : Value) (W2 : World) hW hT hv => hJ2.put hS 7 30 rfl (by omega) (W' := W2) hW hT v hv
     clear ho hall hl hQ
     generalize InvQ _ _ _ w0 a0 (lq.setIfInBounds 7 true) = K at hK ⊢
     clear hJ2 hS z1 z2 z3 z4 z6 z7
     go_simp
     exact hK _ _ z5 (fun _ _ h => h) ⟨s6, y6, ht6, hr6⟩
   | 8, ho =>
     cases ho
     refine wpOp_of rfl rfl ?_
     have f6 : TupE w0.heap.size okn Nn Qn Ln En (aq.tmps.getD 23 undef) W := z6 6 23 (hall ⟨6, .data⟩ (by simp) rfl) rfl
     obtain ⟨u6, s6, y6, e6, ht6, hr6⟩ := f6
     have hK := fun (v : Value) (W2 : World) hW hT hv => hJ2.put hS 8 31 rfl (by omega) (W' := W2) hW hT v hv
     clear ho hall hl hQ
     generalize InvQ _ _ _ w0 a0 (lq.setIfInBounds 8 true) = K at hK ⊢
     clear hJ2 hS z1 z2 z3 z4 z6 z7
     go_simp
     exact hK _ _ z5 (fun _ _ h => h) rfl
   | 9, ho =>
     cases ho
     refine wpOp_of rfl rfl ?_
     have f7 : RowE w0.heap.size Nn Qn Ln En (aq.tmps.getD 30 undef) W := z6 7 30 (hall ⟨7, .data⟩ (by simp) rfl) rfl
     rw [Array.getD_eq_getD_getElem?] at f7
     have hK := fun (v : Value) (W2 : World) hW hT hv => hJ2.put hS 9 8 rfl (by omega) (W' := W2) hW hT v hv
     clear ho hall hl hQ
     generalize InvQ _ _ _ w0 a0 (lq.setIfInBounds 9 true) = K at hK ⊢
     clear hJ2 hS z1 z2 z3 z4 z6 z7
     go_simp
     exact hK _ _ z5 (fun _ _ h => h) f7
   | 10, ho =>
     cases ho
     refine wpOp_of rfl rfl ?_
     have f8 : (aq.tmps.getD 31 undef) = .bool okn := z6 8 31 (hall ⟨8, .data⟩ (by simp) rfl) rfl
     have hK := fun (v : Value) (W2 : World) hW hT hv => hJ2.put hS 10 9 rfl (by omega) (W' := W2) hW hT v hv
     clear ho hall hl hQ
     generalize InvQ _ _ _ w0 a0 (lq.setIfInBounds 10 true) = K at hK ⊢
     clear hJ2 hS z1 z2 z3 z4 z6 z7
     go_simp
     exact hK _ _ z5 (fun _ _ h => h) rfl
   | iq + 11, ho => simp at ho
 · intro lq aq W hJ hr
   obtain ⟨z1, z2, z3, z4, z5, z6, z7⟩ := hJ
   have hl := listed_of hr [0, 1, 2, 3, 4, 5, 6, 7, 9, 8, 10] [] (by simp) (by kernel_rfl) (by rw [z1]; decide)
   exact hQ aq W z2 z3 (fun e he => z4 e (by simpa using he)) (z6 9 8 (hl 9 (by simp)) rfl) (z6 10 9 (hl 10 (by simp)) rfl) z5
def VpwB (n cap : Nat) (ao : Option Addr) (qf : Nat → Int × Int × Int) (Lf : Nat → Nat) (Ef : Nat → Nat → Int) (px py pz xx : Int) (okn : Bool) (Nn : Nat) (Qn : Nat → Int × Int × Int) (Ln : Nat → Nat) (En : Nat → Nat → Int) (B : Nat) : Nat → Value → World → Prop
 | 0, v, _ => v = .slice ao n cap
 | 1, v, W => InE n qf Lf Ef v W
 | 2, v, _ => v = PV px py pz
 | 3, v, _ => v = PV px py pz
 | 4, v, _ => v = .int .i64 xx
 | 5, v, W => TupE B okn Nn Qn Ln En v W
 | 6, v, W => TupE B okn Nn Qn Ln En v W
 | 7, v, W => RowE B Nn Qn Ln En v W
 | 8, v, _ => v = .bool okn
 | 9, v, W => RowE B Nn Qn Ln En v W
 | 10, v, _ => v = .bool okn
 | _, _, _ => True
theorem VpwB.mono {n cap : Nat} {ao : Option Addr} {qf : Nat → Int × Int × Int} {Lf : Nat → Nat} {Ef : Nat → Nat → Int} {px py pz xx : Int} {okn : Bool} {Nn : Nat} {Qn : Nat → Int × Int × Int} {Ln : Nat → Nat} {En : Nat → Nat → Int} {B j : Nat} {v : Value} {W W2 : World} (hB : Below W.heap.size W W2) (h : VpwB n cap ao qf Lf Ef px py pz xx okn Nn Qn Ln En B j v W) : VpwB n cap ao qf Lf Ef px py pz xx okn Nn Qn Ln En B j v W2 := by
 unfold VpwB at *
 split <;> simp only at h <;> first | exact h | exact h.step hB | trivial
theorem pwB {Q : Exit → Act → World → Prop} {n cap : Nat} {ao : Option Addr} {qf : Nat → Int × Int × Int} {Lf : Nat → Nat} {Ef : Nat → Nat → Int} {px py pz xx : Int} {okn : Bool} {Nn : Nat} {Qn : Nat → Int × Int × Int} {Ln : Nat → Nat} {En : Nat → Nat → Int} {P : Nat} {Sf : Nat → Option Addr × Nat} {w0 : World} {a0 : Act} {idq : Nat} {t0 t1 t2 t3 t4 t5 t6 t7 t8 t9 t10 : TypeId} {q0 q1 q2 q3 q4 q5 q6 q7 q8 q9 q10 : String}
   (hIn : EvIn w0 ao n qf Sf Lf Ef) (hT1 : ∀ w, EvIn w ao n qf Sf Lf Ef → Calls Tryz.prog 17 #[.slice ao n cap] w (fun r w' => ∃ g S', r = .returned (.slice (some ⟨g, 0, none⟩) n n) ∧ EvIn w' (some ⟨g, 0, none⟩) n qf S' Lf Ef ∧ Below w.heap.size w w')) (hSP : ∀ g S w, EvIn w (some ⟨g, 0, none⟩) n qf S Lf Ef → Calls Tryz.prog 18 #[.slice (some ⟨g, 0, none⟩) n n, PV px py pz, .int .i64 xx] w (fun r w' => ∃ v s, r = .returned (.tuple #[v, .bool okn]) ∧ EvRow w' w.heap.size w'.heap.size v Nn (wq Qn) s Ln En ∧ Below w.heap.size w w')) (h0 : a0.tmps[0]? = some (.slice ao n cap)) (h2 : a0.tmps[2]? = some (.int .i64 xx)) (h4 : a0.tmps[4]? = some (.pointer (some ⟨P, 0, none⟩))) (k0 : w0.cell? ⟨P, 0, none⟩ = some (.int .u64 (ww3 px))) (l0 : (⟨P, 0, none⟩ : Addr).block < w0.heap.size) (k1 : w0.cell? ⟨P, 1, none⟩ = some (.int .u64 (ww2 px))) (l1 : (⟨P, 1, none⟩ : Addr).block < w0.heap.size) (k2 : w0.cell? ⟨P, 2, none⟩ = some (.int .u64 (ww1 px))) (l2 : (⟨P, 2, none⟩ : Addr).block < w0.heap.size) (k3 : w0.cell? ⟨P, 3, none⟩ = some (.int .u64 (ww0 px))) (l3 : (⟨P, 3, none⟩ : Addr).block < w0.heap.size) (k4 : w0.cell? ⟨P, 4, none⟩ = some (.int .u64 (ww3 py))) (l4 : (⟨P, 4, none⟩ : Addr).block < w0.heap.size) (k5 : w0.cell? ⟨P, 5, none⟩ = some (.int .u64 (ww2 py))) (l5 : (⟨P, 5, none⟩ : Addr).block < w0.heap.size) (k6 : w0.cell? ⟨P, 6, none⟩ = some (.int .u64 (ww1 py))) (l6 : (⟨P, 6, none⟩ : Addr).block < w0.heap.size) (k7 : w0.cell? ⟨P, 7, none⟩ = some (.int .u64 (ww0 py))) (l7 : (⟨P, 7, none⟩ : Addr).block < w0.heap.size) (k8 : w0.cell? ⟨P, 8, none⟩ = some (.int .u64 (ww3 pz))) (l8 : (⟨P, 8, none⟩ : Addr).block < w0.heap.size) (k9 : w0.cell? ⟨P, 9, none⟩ = some (.int .u64 (ww2 pz))) (l9 : (⟨P, 9, none⟩ : Addr).block < w0.heap.size) (k10 : w0.cell? ⟨P, 10, none⟩ = some (.int .u64 (ww1 pz))) (l10 : (⟨P, 10, none⟩ : Addr).block < w0.heap.size) (k11 : w0.cell? ⟨P, 11, none⟩ = some (.int .u64 (ww0 pz))) (l11 : (⟨P, 11, none⟩ : Addr).block < w0.heap.size) (hz : a0.tmps.size = 109)
   (hQ : ∀ aq W, aq.tmps.size = a0.tmps.size → aq.defers = a0.defers → (∀ e, e ∉ ([84, 85, 86, 87, 88, 89, 83, 90, 91, 16, 17] : List Nat) → aq.tmps[e]? = a0.tmps[e]?) → VpwB n cap ao qf Lf Ef px py pz xx okn Nn Qn Ln En w0.heap.size 9 (aq.tmps.getD 16 undef) W → VpwB n cap ao qf Lf Ef px py pz xx okn Nn Qn Ln En w0.heap.size 10 (aq.tmps.getD 17 undef) W → Below w0.heap.size w0 W → Q .normal aq W) :
   (Code.region idq #[{ dst := some 84, op := Op.move (.tmp 0), type := t0, pos := q0, after := #[], guard := none },
   { dst := some 85, op := Op.call { callee := Callee.value (Operand.func 17), args := #[.tmp 84], argTypes := #[42] }, type := t1, pos := q1, after := #[⟨0, .data⟩], guard := none },
   { dst := some 86, op := Op.load 27 (.tmp 4), type := t2, pos := q2, after := #[], guard := none },
   { dst := some 87, op := Op.call { callee := Callee.value (Operand.func 8), args := #[.tmp 86], argTypes := #[27] }, type := t3, pos := q3, after := #[⟨2, .data⟩, ⟨1, .chain⟩], guard := none },
   { dst := some 88, op := Op.move (.tmp 2), type := t4, pos := q4, after := #[], guard := none },
   { dst := some 89, op := Op.call { callee := Callee.value (Operand.func 18), args := #[.tmp 85, .tmp 87, .tmp 88], argTypes := #[44, 35, 2] }, type := t5, pos := q5, after := #[⟨1, .data⟩, ⟨3, .data⟩, ⟨4, .data⟩, ⟨3, .chain⟩], guard := none },
   { dst := some 83, op := Op.move (.tmp 89), type := t6, pos := q6, after := #[⟨5, .data⟩], guard := none },
   { dst := some 90, op := Op.extract (.tmp 83) 0, type := t7, pos := q7, after := #[⟨6, .data⟩], guard := none },
   { dst := some 91, op := Op.extract (.tmp 83) 1, type := t8, pos := q8, after := #[⟨6, .data⟩, { on := 9, ground := Ground.gcOnly Departure.lateStores }], guard := none },
   { dst := some 16, op := Op.assign (.tmp 90), type := t9, pos := q9, after := #[⟨7, .data⟩, ⟨5, .chain⟩, ⟨0, .phase⟩, ⟨1, .phase⟩, ⟨2, .phase⟩, ⟨3, .phase⟩, ⟨4, .phase⟩, ⟨5, .phase⟩, ⟨6, .phase⟩, ⟨7, .phase⟩, { on := 8, ground := Ground.textOnly Departure.lateStores }], guard := none },
   { dst := some 17, op := Op.assign (.tmp 91), type := t10, pos := q10, after := #[⟨8, .data⟩, ⟨9, .chain⟩, ⟨0, .phase⟩, ⟨1, .phase⟩, ⟨2, .phase⟩, ⟨3, .phase⟩, ⟨4, .phase⟩, ⟨5, .phase⟩, ⟨6, .phase⟩, ⟨7, .phase⟩, ⟨8, .phase⟩, ⟨9, .phase⟩], guard := none }] true).wp Tryz.prog Q a0 w0 := by
 have hS : distS [some 84, some 85, some 86, some 87, some 88, some 89, some 83, some 90, some 91, some 16, some 17] = true := rfl
 refine wp_region_q (by kernel_rfl) w0.heap.size [some 84, some 85, some 86, some 87, some 88, some 89, some 83, some 90, some 91, some 16, some 17] (VpwB n cap ao qf Lf Ef px py pz xx okn Nn Qn Ln En w0.heap.size) rfl ?_ ?_
 · intro Q lq aq W iq oq hJ hl ho hall
   have hJ2 := hJ
   obtain ⟨z1, z2, z3, z4, z5, z6, z7⟩ := hJ
   have g0 : aq.tmps.getD 0 undef = .slice ao n cap := by rw [Array.getD_eq_getD_getElem?, z4 0 (by decide), h0]; rfl
   have g2 : aq.tmps.getD 2 undef = .int .i64 xx := by rw [Array.getD_eq_getD_getElem?, z4 2 (by decide), h2]; rfl
   have g4 : aq.tmps.getD 4 undef = .pointer (some ⟨P, 0, none⟩) := by rw [Array.getD_eq_getD_getElem?, z4 4 (by decide), h4]; rfl
   have c0 : W.cell? ⟨P, 0, none⟩ = some (.int .u64 (ww3 px)) := (z5.cell l0).trans k0
   have c1 : W.cell? ⟨P, 1, none⟩ = some (.int .u64 (ww2 px)) := (z5.cell l1).trans k1
   have c2 : W.cell? ⟨P, 2, none⟩ = some (.int .u64 (ww1 px)) := (z5.cell l2).trans k2
   have c3 : W.cell? ⟨P, 3, none⟩ = some (.int .u64 (ww0 px)) := (z5.cell l3).trans k3
   have c4 : W.cell? ⟨P, 4, none⟩ = some (.int .u64 (ww3 py)) := (z5.cell l4).trans k4
   have c5 : W.cell? ⟨P, 5, none⟩ = some (.int .u64 (ww2 py)) := (z5.cell l5).trans k5
   have c6 : W.cell? ⟨P, 6, none⟩ = some (.int .u64 (ww1 py)) := (z5.cell l6).trans k6
   have c7 : W.cell? ⟨P, 7, none⟩ = some (.int .u64 (ww0 py)) := (z5.cell l7).trans k7
   have c8 : W.cell? ⟨P, 8, none⟩ = some (.int .u64 (ww3 pz)) := (z5.cell l8).trans k8
   have c9 : W.cell? ⟨P, 9, none⟩ = some (.int .u64 (ww2 pz)) := (z5.cell l9).trans k9
   have c10 : W.cell? ⟨P, 10, none⟩ = some (.int .u64 (ww1 pz)) := (z5.cell l10).trans k10
   have c11 : W.cell? ⟨P, 11, none⟩ = some (.int .u64 (ww0 pz)) := (z5.cell l11).trans k11
   match iq, ho with
   | 0, ho =>
     cases ho
     refine wpOp_of rfl rfl ?_
     have hK := fun (v : Value) (W2 : World) hW hT hv => hJ2.put hS 0 84 rfl (by omega) (W' := W2) hW hT v hv
     clear ho hall hl hQ
     generalize InvQ _ _ _ w0 a0 (lq.setIfInBounds 0 true) = K at hK ⊢
     clear hJ2 hS z1 z2 z3 z4 z6 z7
     go_simp
     exact hK _ _ z5 (fun _ _ h => h) rfl
   | 1, ho =>
     cases ho
     refine wpOp_of rfl rfl ?_
     have f0 : (aq.tmps.getD 84 undef) = .slice ao n cap := z6 0 84 (hall ⟨0, .data⟩ (by simp) rfl) rfl
     have hK := fun (v : Value) (W2 : World) hW hT hv => hJ2.put hS 1 85 rfl (by omega) (W' := W2) hW hT v hv
     clear ho hall hl hQ
     generalize InvQ _ _ _ w0 a0 (lq.setIfInBounds 1 true) = K at hK ⊢
     clear hJ2 hS z1 z2 z3 z4 z6 z7
     go_simp
     refine (hT1 W (hIn.step z5)).mono ?_
     rintro r v1 ⟨g1, S1, rfl, R1, hBv⟩
     exact hK _ _ (z5.trans (hBv.mono z5.size)) (fun j v h => h.mono hBv) ⟨g1, S1, rfl, R1⟩
   | 2, ho =>
     cases ho
     refine wpOp_of rfl rfl ?_
     have hK := fun (v : Value) (W2 : World) hW hT hv => hJ2.put hS 2 86 rfl (by omega) (W' := W2) hW hT v hv
     clear ho hall hl hQ
     generalize InvQ _ _ _ w0 a0 (lq.setIfInBounds 2 true) = K at hK ⊢
     clear hJ2 hS z1 z2 z3 z4 z6 z7
     go_simp
     exact hK _ _ z5 (fun _ _ h => h) rfl
   | 3, ho =>
     cases ho
     refine wpOp_of rfl rfl ?_
     have f2 : (aq.tmps.getD 86 undef) = PV px py pz := z6 2 86 (hall ⟨2, .data⟩ (by simp) rfl) rfl
     have hK := fun (v : Value) (W2 : World) hW hT hv => hJ2.put hS 3 87 rfl (by omega) (W' := W2) hW hT v hv
     clear ho hall hl hQ
     generalize InvQ _ _ _ w0 a0 (lq.setIfInBounds 3 true) = K at hK ⊢
     clear hJ2 hS z1 z2 z3 z4 z6 z7
     go_simp
     refine (toPoint_det px py pz W).mono ?_
     rintro e v1 ⟨rfl, hBv⟩
     exact hK _ _ (z5.trans (hBv.mono z5.size)) (fun j v h => h.mono hBv) rfl
   | 4, ho =>
     cases ho
     refine wpOp_of rfl rfl ?_
     have hK := fun (v : Value) (W2 : World) hW hT hv => hJ2.put hS 4 88 rfl (by omega) (W' := W2) hW hT v hv
     clear ho hall hl hQ
     generalize InvQ _ _ _ w0 a0 (lq.setIfInBounds 4 true) = K at hK ⊢
     clear hJ2 hS z1 z2 z3 z4 z6 z7
     go_simp
     exact hK _ _ z5 (fun _ _ h => h) rfl
   | 5, ho =>
     cases ho
     refine wpOp_of rfl rfl ?_
     have f1 : InE n qf Lf Ef (aq.tmps.getD 85 undef) W := z6 1 85 (hall ⟨1, .data⟩ (by simp) rfl) rfl
     obtain ⟨g1, S1, e1, R1⟩ := f1
     have f3 : (aq.tmps.getD 87 undef) = PV px py pz := z6 3 87 (hall ⟨3, .data⟩ (by simp) rfl) rfl
     have f4 : (aq.tmps.getD 88 undef) = .int .i64 xx := z6 4 88 (hall ⟨4, .data⟩ (by simp) rfl) rfl
     have hK := fun (v : Value) (W2 : World) hW hT hv => hJ2.put hS 5 89 rfl (by omega) (W' := W2) hW hT v hv
     clear ho hall hl hQ
     generalize InvQ _ _ _ w0 a0 (lq.setIfInBounds 5 true) = K at hK ⊢
     clear hJ2 hS z1 z2 z3 z4 z6 z7
     go_simp
     refine (hSP g1 S1 W R1).mono ?_
     rintro r v1 ⟨u1, s1, rfl, V1, hBv⟩
     exact hK _ _ (z5.trans (hBv.mono z5.size)) (fun j v h => h.mono hBv) ⟨u1, s1, v1.heap.size, rfl, Nat.le_refl _, V1.mono z5.size (Nat.le_refl _)⟩
   | 6, ho =>
     cases ho
     refine wpOp_of rfl rfl ?_
     have f5 : TupE w0.heap.size okn Nn Qn Ln En (aq.tmps.getD 89 undef) W := z6 5 89 (hall ⟨5, .data⟩ (by simp) rfl) rfl
     obtain ⟨u5, s5, y5, e5, ht5, hr5⟩ := f5
     have hK := fun (v : Value) (W2 : World) hW hT hv => hJ2.put hS 6 83 rfl (by omega) (W' := W2) hW hT v hv
     clear ho hall hl hQ
     generalize InvQ _ _ _ w0 a0 (lq.setIfInBounds 6 true) = K at hK ⊢
     clear hJ2 hS z1 z2 z3 z4 z6 z7
     go_simp
     exact hK _ _ z5 (fun _ _ h => h) ⟨u5, s5, y5, rfl, ht5, hr5⟩
   | 7, ho =>
     cases ho
     refine wpOp_of rfl rfl ?_
     have f6 : TupE w0.heap.size okn Nn Qn Ln En (aq.tmps.getD 83 undef) W := z6 6 83 (hall ⟨6, .data⟩ (by simp) rfl) rfl
     obtain ⟨u6, s6, y6, e6, ht6, hr6⟩ := f6
     have hK := fun (v : Value) (W2 : World) hW hT hv => hJ2.put hS 7 90 rfl (by omega) (W' := W2) hW hT v hv
     clear ho hall hl hQ
     generalize InvQ _ _ _ w0 a0 (lq.setIfInBounds 7 true) = K at hK ⊢
     clear hJ2 hS z1 z2 z3 z4 z6 z7
     go_simp
     exact hK _ _ z5 (fun _ _ h => h) ⟨s6, y6, ht6, hr6⟩
   | 8, ho =>
     cases ho
     refine wpOp_of rfl rfl ?_
     have f6 : TupE w0.heap.size okn Nn Qn Ln En (aq.tmps.getD 83 undef) W := z6 6 83 (hall ⟨6, .data⟩ (by simp) rfl) rfl
     obtain ⟨u6, s6, y6, e6, ht6, hr6⟩ := f6
     have hK := fun (v : Value) (W2 : World) hW hT hv => hJ2.put hS 8 91 rfl (by omega) (W' := W2) hW hT v hv
     clear ho hall hl hQ
     generalize InvQ _ _ _ w0 a0 (lq.setIfInBounds 8 true) = K at hK ⊢
     clear hJ2 hS z1 z2 z3 z4 z6 z7
     go_simp
     exact hK _ _ z5 (fun _ _ h => h) rfl
   | 9, ho =>
     cases ho
     refine wpOp_of rfl rfl ?_
     have f7 : RowE w0.heap.size Nn Qn Ln En (aq.tmps.getD 90 undef) W := z6 7 90 (hall ⟨7, .data⟩ (by simp) rfl) rfl
     rw [Array.getD_eq_getD_getElem?] at f7
     have hK := fun (v : Value) (W2 : World) hW hT hv => hJ2.put hS 9 16 rfl (by omega) (W' := W2) hW hT v hv
     clear ho hall hl hQ
     generalize InvQ _ _ _ w0 a0 (lq.setIfInBounds 9 true) = K at hK ⊢
     clear hJ2 hS z1 z2 z3 z4 z6 z7
     go_simp
     exact hK _ _ z5 (fun _ _ h => h) f7
   | 10, ho =>
     cases ho
     refine wpOp_of rfl rfl ?_
     have f8 : (aq.tmps.getD 91 undef) = .bool okn := z6 8 91 (hall ⟨8, .data⟩ (by simp) rfl) rfl
     have hK := fun (v : Value) (W2 : World) hW hT hv => hJ2.put hS 10 17 rfl (by omega) (W' := W2) hW hT v hv
     clear ho hall hl hQ
     generalize InvQ _ _ _ w0 a0 (lq.setIfInBounds 10 true) = K at hK ⊢
     clear hJ2 hS z1 z2 z3 z4 z6 z7
     go_simp
     exact hK _ _ z5 (fun _ _ h => h) rfl
   | iq + 11, ho => simp at ho
 · intro lq aq W hJ hr
   obtain ⟨z1, z2, z3, z4, z5, z6, z7⟩ := hJ
   have hl := listed_of hr [0, 1, 2, 3, 4, 5, 6, 7, 9, 8, 10] [] (by simp) (by kernel_rfl) (by rw [z1]; decide)
   exact hQ aq W z2 z3 (fun e he => z4 e (by simpa using he)) (z6 9 16 (hl 9 (by simp)) rfl) (z6 10 17 (hl 10 (by simp)) rfl) z5
def OutB (b t : Nat) (w w' : World) : Prop := Below b w w' ∧ ∀ k, t ≤ k → k < w.heap.size → w'.heap[k]? = w.heap[k]?
theorem OutB.refl (b t : Nat) (w : World) : OutB b t w w := ⟨Below.refl _ _, fun _ _ _ => rfl⟩
theorem OutB.trans {b t : Nat} {w w' w'' : World} (h : OutB b t w w') (k : OutB b t w' w'') : OutB b t w w'' :=
 ⟨h.1.trans k.1, fun i hi hs => (k.2 i hi (Nat.lt_of_lt_of_le hs h.1.size)).trans (h.2 i hi hs)⟩
def OutV (v : Value) (b : Nat) (w w' : World) : Prop := Below b w w' ∧ ∀ k, v.ownBlock ≠ some k → k < w.heap.size → w'.heap[k]? = w.heap[k]?
theorem OutV.out {v : Value} {b t : Nat} {w w' : World} (h : OutV v b w w') (hv : ∀ k, v.ownBlock = some k → k < t) : OutB b t w w' :=
 ⟨h.1, fun k hk hs => h.2 k (fun e => by have := hv k e; omega) hs⟩
theorem markNoK_any (so : Option Addr) (m sc b t K : Nat) (e : Nat → Int) (hm : m ≤ 1048576) (hK : K ≤ 1152921504606846976) (w : World) (hO : NoRow w b t (.slice so m sc) m e) : Calls Tryz.prog 13 #[.slice so m sc, .int .i64 (K : Int)] w (fun r w' => r = .returned (.int .i64 ((K : Int) + (m : Int))) ∧ NoRow w' b t (.slice so m sc) m (fun i => (K : Int) + (i : Int)) ∧ OutV (.slice so m sc) b w w') := by
 have hKI : (K : Int) ≤ 1152921504606846976 := by omega
 rcases hO with ⟨e1, rfl⟩ | ⟨g, cap, f, e1, hg, hgt, hc, R, hf⟩
 · cases e1
   go_enter Tryz.func13, Tryz.ntmps13
   go_wp2_with fail
   go_loopw [1, 5] (fun o i wr => o = .int .i64 (K : Int) ∧ i = .int .i64 0 ∧ wr = w) (fun _ i _ => 0)
   case atStart => exact ⟨rfl, rfl, rfl⟩
   case round =>
     obtain ⟨rfl, rfl, rfl⟩ := hrel
     go_wp2
     go_ret
     exact ⟨by simp, .inl ⟨rfl, rfl⟩, Below.refl _ _, fun _ _ _ => rfl⟩
 · cases e1
   have HR : Hid (w.rowIs g 2 sc f) := R
   clear R hf
   have hnI : (m : Int) ≤ 1048576 := by omega
   go_enter Tryz.func13, Tryz.ntmps13
   go_wp2_with fail
   go_loopw [1, 5] (fun o i wr => ∃ c : Nat, c ≤ m ∧ o = .int .i64 ((K : Int) + (c : Int)) ∧ i = .int .i64 c ∧ (∃ f, wr.rowIs g 2 sc f ∧ ∀ i, i < c → f i = .int .i64 ((K : Int) + (i : Int))) ∧ OutV (.slice (some ⟨g, 0, none⟩) m sc) b w wr) (fun _ i _ => m - (intOf i).toNat)
   case atStart => exact ⟨0, by omega, by simp, rfl, ⟨f, HR.out, fun i hi => by omega⟩, Below.refl _ _, fun _ _ _ => rfl⟩
   case round =>
     obtain ⟨c, hcn, rfl, rfl, ⟨f', R, hd⟩, KB⟩ := hrel
     by_cases hlt : c < m
     · have hcI : (c : Int) < m := by omega
       have o0 := R.cell (i := c) (by omega)
       have f0 := R.frozen c
       have RN : Hid (∃ f, (wr.setCell ⟨g, c, none⟩ (.int .i64 ((K : Int) + (c : Int)))).rowIs g 2 sc f ∧ ∀ i, i < c + 1 → f i = .int .i64 ((K : Int) + (i : Int))) := ⟨_, R.set c (.int .i64 ((K : Int) + (c : Int))), fun i hi => by
         by_cases e : i = c
         · subst e; rw [if_pos rfl]
         · rw [if_neg e]; exact hd i (by omega)⟩
       have KN : OutV (.slice (some ⟨g, 0, none⟩) m sc) b w (wr.setCell ⟨g, c, none⟩ (.int .i64 ((K : Int) + (c : Int)))) := ⟨KB.1.setCell (p := ⟨g, c, none⟩) hg _, fun k hk hs => (Below.heap_setCell _ _ _ _ (fun e => hk (by subst e; rfl))).trans (KB.2 k hk hs)⟩
       clear R KB hd
       go_wp2
       go_roundw
       case rel => exact ⟨c + 1, by omega, by go_num, by go_num, RN.out, KN⟩
       case measure => simp [intOf]; omega
     · obtain rfl : c = m := by omega
       have HD : Hid (∀ i, i < c → f' i = .int .i64 ((K : Int) + (i : Int))) := hd
       clear hd
       go_wp2
       go_ret
       exact ⟨rfl, .inr ⟨g, sc, f', rfl, hg, hgt, hc, R, HD.out⟩, KB⟩
theorem heldNoK_any (so : Option Addr) (m sc K : Nat) (hm : m ≤ 1048576) (hK : K ≤ 1152921504606846976) (w : World) (hI : NoIn w so m (fun i => (K : Int) + (i : Int))) : Calls Tryz.prog 14 #[.slice so m sc, .int .i64 (K : Int)] w (VP (.int .i64 ((K : Int) + (m : Int))) w) := by
 have hKI : (K : Int) ≤ 1152921504606846976 := by omega
 have HR : Hid (NoIn w so m (fun i => (K : Int) + (i : Int))) := hI
 clear hI
 have hnI : (m : Int) ≤ 1048576 := by omega
 go_enter Tryz.func14, Tryz.ntmps14
 go_wp2_with fail
 go_loopw [1, 5] (fun o i wr => ∃ c : Nat, c ≤ m ∧ o = .int .i64 ((K : Int) + (c : Int)) ∧ i = .int .i64 c ∧ Below w.heap.size w wr) (fun _ i _ => m - (intOf i).toNat)
 case atStart => exact ⟨0, by omega, by simp, rfl, Below.refl _ _⟩
 case round =>
   obtain ⟨c, hcn, rfl, rfl, HB⟩ := hrel
   by_cases hlt : c < m
   · have hcI : (c : Int) < m := by omega
     obtain ⟨A, off, rfl, hA, hcell⟩ := HR.out.step HB c hlt
     go_wp2
     go_roundw
     case rel => exact ⟨c + 1, by omega, by go_num, by go_num, HB⟩
     case measure => simp [intOf]; omega
   · obtain rfl : c = m := by omega
     go_wp2
     go_ret
     exact ⟨rfl, HB⟩
def mkK (K : Nat) (L : Nat → Nat) : Nat → Nat
 | 0 => K
 | c + 1 => mkK K L c + 12 + L c
def mkX (K : Nat) (L : Nat → Nat) (k : Nat) : Int := (mkK K L (k / 13) : Int) + ((k % 13 : Nat) : Int)
def mkE (K : Nat) (L : Nat → Nat) (i j : Nat) : Int := ((mkK K L i + 12 : Nat) : Int) + (j : Int)
theorem mkX_at (K : Nat) (L : Nat → Nat) (c j : Nat) (hj : j < 13) : mkX K L (c * 13 + j) = (mkK K L c : Int) + (j : Int) := by
 unfold mkX
 rw [show (c * 13 + j) / 13 = c by omega, show (c * 13 + j) % 13 = j by omega]
theorem mkK_le {K n : Nat} {L : Nat → Nat} (hL : ∀ i, i < n → L i ≤ 1048576) : ∀ c, c ≤ n → mkK K L c ≤ K + c * 1048588
 | 0, _ => by simp [mkK]
 | c + 1, h => by have := mkK_le (K := K) hL c (by omega); have := hL c (by omega); simp only [mkK]; omega
def MkSt (wr : World) (g cap n c b K : Nat) (L : Nat → Nat) (s : Nat → Value) (x : Nat → Int) (j : Nat) (W : World) : Prop :=
 (∃ f, W.rowIs g 81 (cap * 13) f ∧ (∀ k, k < c * 13 + j → f k = evC (mkX K L) s k) ∧ ∀ k, c * 13 + j ≤ k → k < n * 13 → f k = evC x s k) ∧ (∀ k, k ≠ g → W.heap[k]? = wr.heap[k]?) ∧ Below b wr W
theorem MkSt.set {wr W : World} {g cap n c b K : Nat} {L : Nat → Nat} {s : Nat → Value} {x : Nat → Int} {j : Nat} (h : MkSt wr g cap n c b K L s x j W) (hj : j < 12) (hg : b ≤ g) {u : Int} (hu : (mkK K L c : Int) + (j : Int) = u) : MkSt wr g cap n c b K L s x (j + 1) (W.setCell ⟨g, c * 13 + j, none⟩ (.int .u64 u)) := by
 obtain ⟨⟨f, h1, h2, h3⟩, h4, h5⟩ := h
 refine ⟨⟨_, h1.set (c * 13 + j) (.int .u64 u), fun k hk => ?_, fun k hk hn => ?_⟩, fun k hk => (Below.heap_setCell _ _ _ _ hk).trans (h4 k hk), h5.setCell (p := ⟨g, c * 13 + j, none⟩) hg _⟩
 · by_cases e : k = c * 13 + j
   · subst e
     rw [if_pos rfl, evC_at _ _ _ _ hj, mkX_at _ _ _ _ (by omega), hu]
   · rw [if_neg e]; exact h2 k (by omega)
 · rw [if_neg (by omega)]; exact h3 k (by omega) hn
theorem MkSt.last {wr W : World} {g cap n c b K : Nat} {L : Nat → Nat} {s : Nat → Value} {x : Nat → Int} (h : MkSt wr g cap n c b K L s x 12 W) (hc : c < n) : ∃ f, W.rowIs g 81 (cap * 13) f ∧ (∀ k, k < (c + 1) * 13 → f k = evC (mkX K L) s k) ∧ ∀ k, (c + 1) * 13 ≤ k → k < n * 13 → f k = evC x s k := by
 obtain ⟨⟨f, h1, h2, h3⟩, h4, h5⟩ := h
 refine ⟨f, h1, fun k hk => ?_, fun k hk hn => h3 k (by omega) hn⟩
 by_cases e : k = c * 13 + 12
 · subst e
   rw [h3 _ (by omega) (by omega), evC_12, evC_12]
 · exact h2 k (by omega)
theorem MkSt.cell {wr W : World} {g cap n c b K : Nat} {L : Nat → Nat} {s : Nat → Value} {x : Nat → Int} {j : Nat} (h : MkSt wr g cap n c b K L s x j W) (hj : j < 12) (hc : c < n) (hn : n ≤ cap) : W.cell? ⟨g, c * 13 + j, none⟩ = some (.int .u64 (x (c * 13 + j))) ∧ W.frozen? ⟨g, c * 13 + j, none⟩ = false := by
 obtain ⟨⟨f, h1, h2, h3⟩, h4, h5⟩ := h
 exact ⟨by rw [h1.cell (by omega), h3 _ (by omega) (by omega), evC_at _ _ _ _ hj], h1.frozen _⟩
theorem MkSt.cell12 {wr W : World} {g cap n c b K : Nat} {L : Nat → Nat} {s : Nat → Value} {x : Nat → Int} (h : MkSt wr g cap n c b K L s x 12 W) (hc : c < n) (hn : n ≤ cap) : W.cell? ⟨g, c * 13 + 12, none⟩ = some (s c) := by
 obtain ⟨⟨f, h1, h2, h3⟩, h4, h5⟩ := h
 rw [h1.cell (by omega), h3 _ (by omega) (by omega), evC_12]
theorem markEvS_any (v : Value) (n b t K : Nat) (x : Nat → Int) (s : Nat → Value) (L : Nat → Nat) (E : Nat → Nat → Int) (hn : n ≤ 1048576) (hL : ∀ i, i < n → L i ≤ 1048576) (hK : K ≤ 4294967296) (w : World) (hO : EvRow w b t v n x s L E) : Calls Tryz.prog 20 #[v, .int .i64 (K : Int)] w (fun r w' => r = .returned (.int .i64 (mkK K L n : Int)) ∧ EvRow w' b t v n (mkX K L) s L (mkE K L) ∧ OutB b t w w') := by
 rcases hO with ⟨rfl, rfl⟩ | ⟨g, cap, f, rfl, hg, hgt, hc, R, hf, hN, d1, d2⟩
 · have hKI : (K : Int) ≤ 4294967296 := by omega
   go_enter Tryz.func20, Tryz.ntmps20
   go_wp2_with fail
   go_loopw [1, 5] (fun o i wr => o = .int .i64 (K : Int) ∧ i = .int .i64 0 ∧ wr = w) (fun _ i _ => 0)
   case atStart => exact ⟨rfl, rfl, rfl⟩
   case round =>
     obtain ⟨rfl, rfl, rfl⟩ := hrel
     go_wp2
     go_ret
     exact ⟨rfl, .inl ⟨rfl, rfl⟩, OutB.refl _ _ _⟩
 · have HR : Hid (w.rowIs g 81 (cap * 13) f ∧ (∀ k, k < n * 13 → f k = evC x s k) ∧ (∀ i, i < n → NoRow w b t (s i) (L i) (E i))) := ⟨R, hf, hN⟩
   have HD : Hid ((∀ i, i < n → (s i).ownBlock ≠ some g) ∧ ∀ i j, i < n → j < n → i ≠ j → ∀ h, (s i).ownBlock = some h → (s j).ownBlock ≠ some h) := ⟨d1, d2⟩
   have HL : Hid (∀ i, i < n → L i ≤ 1048576) := hL
   have HK : Hid (∀ c, c ≤ n → mkK K L c ≤ 2199560257536) := fun c hc => by have := mkK_le (K := K) hL c hc; have : c * 1048588 ≤ 1048576 * 1048588 := Nat.mul_le_mul_right _ (by omega); omega
   clear R hf hN d1 d2 hL
   have hnI : (n : Int) ≤ 1048576 := by omega
   go_enter Tryz.func20, Tryz.ntmps20
   go_wp2_with fail
   go_loopw [1, 5] (fun o i wr => ∃ c : Nat, c ≤ n ∧ o = .int .i64 (mkK K L c : Int) ∧ i = .int .i64 c ∧ (∃ f, wr.rowIs g 81 (cap * 13) f ∧ (∀ k, k < c * 13 → f k = evC (mkX K L) s k) ∧ (∀ k, c * 13 ≤ k → k < n * 13 → f k = evC x s k)) ∧ (∀ i, i < c → NoRow wr b t (s i) (L i) (mkE K L i)) ∧ (∀ i, c ≤ i → i < n → NoRow wr b t (s i) (L i) (E i)) ∧ OutB b t w wr) (fun _ i _ => n - (intOf i).toNat)
   case atStart => exact ⟨0, by omega, rfl, rfl, ⟨f, HR.out.1, fun k hk => by omega, fun k _ hk => HR.out.2.1 k hk⟩, fun i hi => by omega, fun i _ hi => HR.out.2.2 i hi, OutB.refl _ _ _⟩
   case round =>
     obtain ⟨c, hcn, rfl, rfl, ⟨f', R, hd, hd2⟩, hA, hB, KB⟩ := hrel
     clear HR
     by_cases hlt : c < n
     · have hcI : (c : Int) < n := by omega
       have hkb := HK.out c hcn
       obtain ⟨kk, hkk⟩ : ∃ kk, mkK K L c = kk := ⟨_, rfl⟩
       rw [hkk] at hkb ⊢
       have hkI : (kk : Int) ≤ 2199560257536 := by omega
       have HKK : Hid (mkK K L c = kk) := hkk
       obtain ⟨so, sc, hs, _⟩ := (hB c (Nat.le_refl _) hlt).in
       have H0 : Hid (MkSt wr g cap n c b K L s x 0 wr) := ⟨⟨f', R, fun k hk => hd k (by omega), fun k hk hn => hd2 k (by omega) hn⟩, fun _ _ => rfl, Below.refl _ _⟩
       have HAB : Hid ((∀ i, i < c → NoRow wr b t (s i) (L i) (mkE K L i)) ∧ (∀ i, c ≤ i → i < n → NoRow wr b t (s i) (L i) (E i)) ∧ OutB b t w wr) := ⟨hA, hB, KB⟩
       have HSC : Hid (s c = .slice so (L c) sc) := hs
       have hrl := R.lt
       clear R hd hd2 hA hB KB hkk hs
       obtain ⟨oc, of⟩ := H0.out.cell (by omega) hlt hc
       simp only [Nat.add_zero] at oc of
       go_upto_region 6 with fail
       have H1 : Hid (MkSt wr g cap n c b K L s x 1 (wr.setCell ⟨g, c * 13, none⟩ (.int .u64 ((kk : Int))))) := H0.out.set (by omega) hg (by have := HKK.out; omega)
       clear oc of H0
       generalize (wr.setCell ⟨g, c * 13, none⟩ (.int .u64 ((kk : Int)))) = W1 at H1 ⊢
       obtain ⟨oc, of⟩ := H1.out.cell (by omega) hlt hc
       go_upto_region 8 with fail
       have H2 : Hid (MkSt wr g cap n c b K L s x 2 (W1.setCell ⟨g, c * 13 + 1, none⟩ (.int .u64 ((kk : Int) + 1)))) := H1.out.set (by omega) hg (by have := HKK.out; omega)
       clear oc of H1
       generalize (W1.setCell ⟨g, c * 13 + 1, none⟩ (.int .u64 ((kk : Int) + 1))) = W2 at H2 ⊢
       obtain ⟨oc, of⟩ := H2.out.cell (by omega) hlt hc
       go_upto_region 10 with fail
       have H3 : Hid (MkSt wr g cap n c b K L s x 3 (W2.setCell ⟨g, c * 13 + 2, none⟩ (.int .u64 ((kk : Int) + 1 + 1)))) := H2.out.set (by omega) hg (by have := HKK.out; omega)
       clear oc of H2
       generalize (W2.setCell ⟨g, c * 13 + 2, none⟩ (.int .u64 ((kk : Int) + 1 + 1))) = W3 at H3 ⊢
       obtain ⟨oc, of⟩ := H3.out.cell (by omega) hlt hc
       go_upto_region 12 with fail
       have H4 : Hid (MkSt wr g cap n c b K L s x 4 (W3.setCell ⟨g, c * 13 + 3, none⟩ (.int .u64 ((kk : Int) + 1 + 1 + 1)))) := H3.out.set (by omega) hg (by have := HKK.out; omega)
       clear oc of H3
       generalize (W3.setCell ⟨g, c * 13 + 3, none⟩ (.int .u64 ((kk : Int) + 1 + 1 + 1))) = W4 at H4 ⊢
       obtain ⟨oc, of⟩ := H4.out.cell (by omega) hlt hc
       go_upto_region 14 with fail
       have H5 : Hid (MkSt wr g cap n c b K L s x 5 (W4.setCell ⟨g, c * 13 + 4, none⟩ (.int .u64 ((kk : Int) + 1 + 1 + 1 + 1)))) := H4.out.set (by omega) hg (by have := HKK.out; omega)
       clear oc of H4
       generalize (W4.setCell ⟨g, c * 13 + 4, none⟩ (.int .u64 ((kk : Int) + 1 + 1 + 1 + 1))) = W5 at H5 ⊢
       obtain ⟨oc, of⟩ := H5.out.cell (by omega) hlt hc
       go_upto_region 16 with fail
       have H6 : Hid (MkSt wr g cap n c b K L s x 6 (W5.setCell ⟨g, c * 13 + 5, none⟩ (.int .u64 ((kk : Int) + 1 + 1 + 1 + 1 + 1)))) := H5.out.set (by omega) hg (by have := HKK.out; omega)
       clear oc of H5
       generalize (W5.setCell ⟨g, c * 13 + 5, none⟩ (.int .u64 ((kk : Int) + 1 + 1 + 1 + 1 + 1))) = W6 at H6 ⊢
       obtain ⟨oc, of⟩ := H6.out.cell (by omega) hlt hc
       go_upto_region 18 with fail
       have H7 : Hid (MkSt wr g cap n c b K L s x 7 (W6.setCell ⟨g, c * 13 + 6, none⟩ (.int .u64 ((kk : Int) + 1 + 1 + 1 + 1 + 1 + 1)))) := H6.out.set (by omega) hg (by have := HKK.out; omega)
       clear oc of H6
       generalize (W6.setCell ⟨g, c * 13 + 6, none⟩ (.int .u64 ((kk : Int) + 1 + 1 + 1 + 1 + 1 + 1))) = W7 at H7 ⊢
       obtain ⟨oc, of⟩ := H7.out.cell (by omega) hlt hc
       go_upto_region 20 with fail
       have H8 : Hid (MkSt wr g cap n c b K L s x 8 (W7.setCell ⟨g, c * 13 + 7, none⟩ (.int .u64 ((kk : Int) + 1 + 1 + 1 + 1 + 1 + 1 + 1)))) := H7.out.set (by omega) hg (by have := HKK.out; omega)
       clear oc of H7
       generalize (W7.setCell ⟨g, c * 13 + 7, none⟩ (.int .u64 ((kk : Int) + 1 + 1 + 1 + 1 + 1 + 1 + 1))) = W8 at H8 ⊢
       obtain ⟨oc, of⟩ := H8.out.cell (by omega) hlt hc
       go_upto_region 22 with fail
       have H9 : Hid (MkSt wr g cap n c b K L s x 9 (W8.setCell ⟨g, c * 13 + 8, none⟩ (.int .u64 ((kk : Int) + 1 + 1 + 1 + 1 + 1 + 1 + 1 + 1)))) := H8.out.set (by omega) hg (by have := HKK.out; omega)
       clear oc of H8
       generalize (W8.setCell ⟨g, c * 13 + 8, none⟩ (.int .u64 ((kk : Int) + 1 + 1 + 1 + 1 + 1 + 1 + 1 + 1))) = W9 at H9 ⊢
       obtain ⟨oc, of⟩ := H9.out.cell (by omega) hlt hc
       go_upto_region 24 with fail
       have H10 : Hid (MkSt wr g cap n c b K L s x 10 (W9.setCell ⟨g, c * 13 + 9, none⟩ (.int .u64 ((kk : Int) + 1 + 1 + 1 + 1 + 1 + 1 + 1 + 1 + 1)))) := H9.out.set (by omega) hg (by have := HKK.out; omega)
       clear oc of H9
       generalize (W9.setCell ⟨g, c * 13 + 9, none⟩ (.int .u64 ((kk : Int) + 1 + 1 + 1 + 1 + 1 + 1 + 1 + 1 + 1))) = W10 at H10 ⊢
       obtain ⟨oc, of⟩ := H10.out.cell (by omega) hlt hc
       go_upto_region 26 with fail
       have H11 : Hid (MkSt wr g cap n c b K L s x 11 (W10.setCell ⟨g, c * 13 + 10, none⟩ (.int .u64 ((kk : Int) + 1 + 1 + 1 + 1 + 1 + 1 + 1 + 1 + 1 + 1)))) := H10.out.set (by omega) hg (by have := HKK.out; omega)
       clear oc of H10
       generalize (W10.setCell ⟨g, c * 13 + 10, none⟩ (.int .u64 ((kk : Int) + 1 + 1 + 1 + 1 + 1 + 1 + 1 + 1 + 1 + 1))) = W11 at H11 ⊢
       obtain ⟨oc, of⟩ := H11.out.cell (by omega) hlt hc
       go_upto_region 28 with fail
       have H12 : Hid (MkSt wr g cap n c b K L s x 12 (W11.setCell ⟨g, c * 13 + 11, none⟩ (.int .u64 ((kk : Int) + 1 + 1 + 1 + 1 + 1 + 1 + 1 + 1 + 1 + 1 + 1)))) := H11.out.set (by omega) hg (by have := HKK.out; omega)
       clear oc of H11
       generalize (W11.setCell ⟨g, c * 13 + 11, none⟩ (.int .u64 ((kk : Int) + 1 + 1 + 1 + 1 + 1 + 1 + 1 + 1 + 1 + 1 + 1))) = W12 at H12 ⊢
       have o12 := H12.out.cell12 hlt hc
       rw [HSC.out] at o12
       have NC : NoRow W12 b t (.slice so (L c) sc) (L c) (E c) := HSC.out ▸ (HAB.out.2.1 c (Nat.le_refl _) hlt).heap (fun k hk => H12.out.2.1 k (fun e => HD.out.1 c hlt (by rw [hk, e])))
       have CM := markNoK_any so (L c) sc b t (kk + 12) (E c) (HL.out c hlt) (by omega) W12 NC
       rw [show ((kk + 12 : Nat) : Int) = (kk : Int) + 1 + 1 + 1 + 1 + 1 + 1 + 1 + 1 + 1 + 1 + 1 + 1 by omega] at CM
       clear NC
       go_wp2_with fail
       refine CM.mono ?_
       rintro r w1 ⟨rfl, hN1, hV⟩
       have HF : Hid (∃ f, w1.rowIs g 81 (cap * 13) f ∧ (∀ k, k < (c + 1) * 13 → f k = evC (mkX K L) s k) ∧ ∀ k, (c + 1) * 13 ≤ k → k < n * 13 → f k = evC x s k) := by
         obtain ⟨f2, p1, p2, p3⟩ := H12.out.last hlt
         exact ⟨f2, p1.of_block (hV.2 g (fun e => HD.out.1 c hlt (by rw [HSC.out, e])) p1.lt), p2, p3⟩
       have hB12 : ∀ i, i < n → i ≠ c → ∀ k, (s i).ownBlock = some k → k < W12.heap.size → w1.heap[k]? = wr.heap[k]? := fun i hi hne k hk hks =>
         (hV.2 k (fun e => HD.out.2 i c hi hlt hne k hk (by rw [HSC.out]; exact e)) hks).trans (H12.out.2.1 k (fun e => HD.out.1 i hi (by rw [hk, e])))
       have HA2 : Hid (∀ i, i < c + 1 → NoRow w1 b t (s i) (L i) (mkE K L i)) := fun i hi => by
         by_cases e : i = c
         · subst e
           rw [HSC.out]
           unfold mkE
           rw [HKK.out, show ((kk + 12 : Nat) : Int) = (kk : Int) + 1 + 1 + 1 + 1 + 1 + 1 + 1 + 1 + 1 + 1 + 1 + 1 by omega]
           exact hN1
         · have p := HAB.out.1 i (by omega)
           exact p.heap fun k hk => hB12 i (by omega) e k hk (Nat.lt_of_lt_of_le (p.lt hk).2.2 H12.out.2.2.size)
       have HB2 : Hid (∀ i, c + 1 ≤ i → i < n → NoRow w1 b t (s i) (L i) (E i)) := fun i hi hi2 => by
         have p := HAB.out.2.1 i (by omega) hi2
         exact p.heap fun k hk => hB12 i hi2 (by omega) k hk (Nat.lt_of_lt_of_le (p.lt hk).2.2 H12.out.2.2.size)
       have KN : OutB b t w w1 := (HAB.out.2.2.trans ⟨H12.out.2.2, fun k hk hs => H12.out.2.1 k (by omega)⟩).trans (hV.out (fun k hk => by
         have p := HAB.out.2.1 c (Nat.le_refl _) hlt
         exact (p.lt (by rw [HSC.out]; exact hk)).2.1))
       have HKN : Hid ((kk : Int) + 1 + 1 + 1 + 1 + 1 + 1 + 1 + 1 + 1 + 1 + 1 + 1 + (L c : Int) = (mkK K L (c + 1) : Int)) := by
         have := HKK.out
         show _ = ((mkK K L c + 12 + L c : Nat) : Int)
         omega
       clear CM hN1 hV hB12 H12 HAB o12
       have hLI : (L c : Int) ≤ 1048576 := by have := HL.out c hlt; omega
       go_wp2
       go_roundw
       case rel => exact ⟨c + 1, by omega, congrArg (Value.int .i64) HKN.out, by go_num, HF.out, HA2.out, HB2.out, KN⟩
       case measure => simp [intOf]; omega
     · obtain rfl : c = n := by omega
       have HE : Hid ((∀ k, k < c * 13 → f' k = evC (mkX K L) s k) ∧ ∀ i, i < c → NoRow wr b t (s i) (L i) (mkE K L i)) := ⟨hd, hA⟩
       have HK2 := HK.out c hcn
       obtain ⟨kk, hkk⟩ : ∃ kk, mkK K L c = kk := ⟨_, rfl⟩
       rw [hkk]
       clear hd hd2 hA hB
       go_wp2
       go_ret
       exact ⟨by rw [hkk]; rfl, .inr ⟨g, cap, f', rfl, hg, hgt, hc, R, HE.out.1, HE.out.2, HD.out.1, HD.out.2⟩, KB⟩
theorem heldEvS_any (v : Value) (n b t K : Nat) (s : Nat → Value) (L : Nat → Nat) (hn : n ≤ 1048576) (hL : ∀ i, i < n → L i ≤ 1048576) (hK : K ≤ 4294967296) (w : World) (hO : EvRow w b t v n (mkX K L) s L (mkE K L)) : Calls Tryz.prog 21 #[v, .int .i64 (K : Int)] w (VP (.int .i64 (mkK K L n : Int)) w) := by
 rcases hO with ⟨rfl, rfl⟩ | ⟨g, cap, f, rfl, hg, hgt, hc, R, hf, hN, d1, d2⟩
 · have hKI : (K : Int) ≤ 4294967296 := by omega
   go_enter Tryz.func21, Tryz.ntmps21
   go_wp2_with fail
   go_loopw [1, 5] (fun o i wr => o = .int .i64 (K : Int) ∧ i = .int .i64 0 ∧ wr = w) (fun _ i _ => 0)
   case atStart => exact ⟨rfl, rfl, rfl⟩
   case round =>
     obtain ⟨rfl, rfl, rfl⟩ := hrel
     go_wp2
     go_ret
     exact ⟨rfl, Below.refl _ _⟩
 have HR : Hid (w.rowIs g 81 (cap * 13) f ∧ (∀ k, k < n * 13 → f k = evC (mkX K L) s k) ∧ (∀ i, i < n → NoRow w b t (s i) (L i) (mkE K L i))) := ⟨R, hf, hN⟩
 have HL : Hid (∀ i, i < n → L i ≤ 1048576) := hL
 have HK : Hid (∀ c, c ≤ n → mkK K L c ≤ 2199560257536) := fun c hc => by have := mkK_le (K := K) hL c hc; have : c * 1048588 ≤ 1048576 * 1048588 := Nat.mul_le_mul_right _ (by omega); omega
 clear R hf hN d1 d2 hL
 have hnI : (n : Int) ≤ 1048576 := by omega
 go_enter Tryz.func21, Tryz.ntmps21
 go_wp2_with fail
 go_loopw [1, 5] (fun o i wr => ∃ c : Nat, c ≤ n ∧ o = .int .i64 (mkK K L c : Int) ∧ i = .int .i64 c ∧ Below w.heap.size w wr) (fun _ i _ => n - (intOf i).toNat)
 case atStart => exact ⟨0, by omega, rfl, rfl, Below.refl _ _⟩
 case round =>
   obtain ⟨c, hcn, rfl, rfl, HB⟩ := hrel
   by_cases hlt : c < n
   · have hcI : (c : Int) < n := by omega
     have hkb := HK.out c hcn
     obtain ⟨kk, hkk⟩ : ∃ kk, mkK K L c = kk := ⟨_, rfl⟩
     rw [hkk] at hkb ⊢
     have hkI : (kk : Int) ≤ 2199560257536 := by omega
     have HKK : Hid (mkK K L c = kk) := hkk
     clear hkk
     obtain ⟨so, sc, hs, NI⟩ := ((HR.out.2.2 c hlt).heap (w' := wr) (fun k hk => HB.block k ((HR.out.2.2 c hlt).lt hk).2.2)).in
     have q0 : wr.cell? ⟨g, c * 13, none⟩ = some (.int .u64 ((kk : Int))) := (HR.out.1.of_block (HB.block g HR.out.1.lt)).cell (i := c * 13 + 0) (by omega) |>.trans (by rw [HR.out.2.1 _ (by omega), evC_at _ _ _ 0 (by omega), mkX_at _ _ _ 0 (by omega), HKK.out]; congr 2)
     have q1 : wr.cell? ⟨g, c * 13 + 1, none⟩ = some (.int .u64 ((kk : Int) + 1)) := (HR.out.1.of_block (HB.block g HR.out.1.lt)).cell (i := c * 13 + 1) (by omega) |>.trans (by rw [HR.out.2.1 _ (by omega), evC_at _ _ _ 1 (by omega), mkX_at _ _ _ 1 (by omega), HKK.out]; congr 2)
     have q2 : wr.cell? ⟨g, c * 13 + 2, none⟩ = some (.int .u64 ((kk : Int) + 1 + 1)) := (HR.out.1.of_block (HB.block g HR.out.1.lt)).cell (i := c * 13 + 2) (by omega) |>.trans (by rw [HR.out.2.1 _ (by omega), evC_at _ _ _ 2 (by omega), mkX_at _ _ _ 2 (by omega), HKK.out]; congr 2)
     have q3 : wr.cell? ⟨g, c * 13 + 3, none⟩ = some (.int .u64 ((kk : Int) + 1 + 1 + 1)) := (HR.out.1.of_block (HB.block g HR.out.1.lt)).cell (i := c * 13 + 3) (by omega) |>.trans (by rw [HR.out.2.1 _ (by omega), evC_at _ _ _ 3 (by omega), mkX_at _ _ _ 3 (by omega), HKK.out]; congr 2)
     have q4 : wr.cell? ⟨g, c * 13 + 4, none⟩ = some (.int .u64 ((kk : Int) + 1 + 1 + 1 + 1)) := (HR.out.1.of_block (HB.block g HR.out.1.lt)).cell (i := c * 13 + 4) (by omega) |>.trans (by rw [HR.out.2.1 _ (by omega), evC_at _ _ _ 4 (by omega), mkX_at _ _ _ 4 (by omega), HKK.out]; congr 2)
     have q5 : wr.cell? ⟨g, c * 13 + 5, none⟩ = some (.int .u64 ((kk : Int) + 1 + 1 + 1 + 1 + 1)) := (HR.out.1.of_block (HB.block g HR.out.1.lt)).cell (i := c * 13 + 5) (by omega) |>.trans (by rw [HR.out.2.1 _ (by omega), evC_at _ _ _ 5 (by omega), mkX_at _ _ _ 5 (by omega), HKK.out]; congr 2)
     have q6 : wr.cell? ⟨g, c * 13 + 6, none⟩ = some (.int .u64 ((kk : Int) + 1 + 1 + 1 + 1 + 1 + 1)) := (HR.out.1.of_block (HB.block g HR.out.1.lt)).cell (i := c * 13 + 6) (by omega) |>.trans (by rw [HR.out.2.1 _ (by omega), evC_at _ _ _ 6 (by omega), mkX_at _ _ _ 6 (by omega), HKK.out]; congr 2)
     have q7 : wr.cell? ⟨g, c * 13 + 7, none⟩ = some (.int .u64 ((kk : Int) + 1 + 1 + 1 + 1 + 1 + 1 + 1)) := (HR.out.1.of_block (HB.block g HR.out.1.lt)).cell (i := c * 13 + 7) (by omega) |>.trans (by rw [HR.out.2.1 _ (by omega), evC_at _ _ _ 7 (by omega), mkX_at _ _ _ 7 (by omega), HKK.out]; congr 2)
     have q8 : wr.cell? ⟨g, c * 13 + 8, none⟩ = some (.int .u64 ((kk : Int) + 1 + 1 + 1 + 1 + 1 + 1 + 1 + 1)) := (HR.out.1.of_block (HB.block g HR.out.1.lt)).cell (i := c * 13 + 8) (by omega) |>.trans (by rw [HR.out.2.1 _ (by omega), evC_at _ _ _ 8 (by omega), mkX_at _ _ _ 8 (by omega), HKK.out]; congr 2)
     have q9 : wr.cell? ⟨g, c * 13 + 9, none⟩ = some (.int .u64 ((kk : Int) + 1 + 1 + 1 + 1 + 1 + 1 + 1 + 1 + 1)) := (HR.out.1.of_block (HB.block g HR.out.1.lt)).cell (i := c * 13 + 9) (by omega) |>.trans (by rw [HR.out.2.1 _ (by omega), evC_at _ _ _ 9 (by omega), mkX_at _ _ _ 9 (by omega), HKK.out]; congr 2)
     have q10 : wr.cell? ⟨g, c * 13 + 10, none⟩ = some (.int .u64 ((kk : Int) + 1 + 1 + 1 + 1 + 1 + 1 + 1 + 1 + 1 + 1)) := (HR.out.1.of_block (HB.block g HR.out.1.lt)).cell (i := c * 13 + 10) (by omega) |>.trans (by rw [HR.out.2.1 _ (by omega), evC_at _ _ _ 10 (by omega), mkX_at _ _ _ 10 (by omega), HKK.out]; congr 2)
     have q11 : wr.cell? ⟨g, c * 13 + 11, none⟩ = some (.int .u64 ((kk : Int) + 1 + 1 + 1 + 1 + 1 + 1 + 1 + 1 + 1 + 1 + 1)) := (HR.out.1.of_block (HB.block g HR.out.1.lt)).cell (i := c * 13 + 11) (by omega) |>.trans (by rw [HR.out.2.1 _ (by omega), evC_at _ _ _ 11 (by omega), mkX_at _ _ _ 11 (by omega), HKK.out]; congr 2)
     have q12 : wr.cell? ⟨g, c * 13 + 12, none⟩ = some (.slice so (L c) sc) := (HR.out.1.of_block (HB.block g HR.out.1.lt)).cell (i := c * 13 + 12) (by omega) |>.trans (by rw [HR.out.2.1 _ (by omega), evC_12, hs])
     have CM := heldNoK_any so (L c) sc (kk + 12) (HL.out c hlt) (by omega) wr (by
       have := HKK.out
       refine fun i hi => ?_
       have p := NI i hi
       unfold mkE at p
       rw [this] at p
       exact p)
     rw [show ((kk + 12 : Nat) : Int) = (kk : Int) + 1 + 1 + 1 + 1 + 1 + 1 + 1 + 1 + 1 + 1 + 1 + 1 by omega] at CM
     clear NI hs
     have HKN : Hid ((kk : Int) + 1 + 1 + 1 + 1 + 1 + 1 + 1 + 1 + 1 + 1 + 1 + 1 + (L c : Int) = (mkK K L (c + 1) : Int)) := by
       have := HKK.out
       show _ = ((mkK K L c + 12 + L c : Nat) : Int)
       omega
     have hLI : (L c : Int) ≤ 1048576 := by have := HL.out c hlt; omega
     go_wp2_with fail
     refine CM.mono ?_
     rintro r w1 ⟨rfl, hV⟩
     replace HB := HB.trans (hV.mono HB.size)
     clear CM hV q0 q1 q2 q3 q4 q5 q6 q7 q8 q9 q10 q11 q12
     go_wp2
     go_roundw
     case rel => exact ⟨c + 1, by omega, congrArg (Value.int .i64) HKN.out, by go_num, HB⟩
     case measure => simp [intOf]; omega
   · obtain rfl : c = n := by omega
     have HK2 := HK.out c hcn
     obtain ⟨kk, hkk⟩ : ∃ kk, mkK K L c = kk := ⟨_, rfl⟩
     rw [hkk]
     go_wp2
     go_ret
     exact ⟨by rw [hkk]; rfl, HB⟩
end Go.Proofs.YtpmnmlhfaoajdaaGreat
