/- Part 16 of the walks that the proof leans on. -/
import Derived.Test.YtjhapeidafbncaaPart7
import Derived.Shelf.Spec.SlicesInsertGrow
import Derived.Test.YtjhapeidafbncaaPart2
import Derived.Test.YtjhapeidafbncaaPart12
import Derived.Test.YtjhapeidafbncaaPart15
import Derived.Test.YtjhapeidafbncaaPart13
namespace Go.Proofs.Ytjhapeidafbncaa
open Go.RowKit
def InsP (base : Nat) (T : TypeId) (k : Nat) (v : Value) (n i : Nat) (xs vs : List Value) (w : World) (e : Ending) (w' : World) : Prop :=
 ∃ v', e = .returned v' ∧ w'.ownsRow base T k v' (n + 1) (xs.take (i * k) ++ vs ++ xs.drop (i * k)) ∧ w.grownBy w' v.ownBlock ∧ (v'.ownBlock = v.ownBlock ∨ v'.ownBlock = some w.heap.size)
theorem ins_list {k n c i : Nat} {cur xs vs : List Value} (hct : cur.take (n * k) = xs) (hvl : vs.length = k) (hcl : cur.length = c * k) (hi : i < n) (hc : n + 1 ≤ c) :
   ((((cur.take ((i + 1) * k) ++ xs.drop (i * k) ++ cur.drop ((i + 1) * k + (xs.drop (i * k)).length)).toArray.toList.take (i * k) ++ vs ++ (cur.take ((i + 1) * k) ++ xs.drop (i * k) ++ cur.drop ((i + 1) * k + (xs.drop (i * k)).length)).toArray.toList.drop (i * k + vs.length)).toArray.toList).take ((n + 1) * k)) = xs.take (i * k) ++ vs ++ xs.drop (i * k) := by
 have m1 : (i + 1) * k = i * k + k := Nat.succ_mul i k
 have m2 : (n + 1) * k = n * k + k := Nat.succ_mul n k
 have m3 : i * k + k ≤ n * k := by rw [← m1]; exact Nat.mul_le_mul_right k hi
 have m4 : n * k + k ≤ c * k := by rw [← m2]; exact Nat.mul_le_mul_right k hc
 have hxl : xs.length = n * k := by rw [← hct, List.length_take]; omega
 have hdl : (xs.drop (i * k)).length = n * k - i * k := by rw [List.length_drop, hxl]
 simp only [hdl, hvl, m1, m2]
 have e1 : (cur.take (i * k + k) ++ xs.drop (i * k) ++ cur.drop (i * k + k + (n * k - i * k))).take (i * k) = xs.take (i * k) := by
   rw [List.append_assoc, List.take_append_of_le_length (by rw [List.length_take]; omega), List.take_take, ← hct, List.take_take]
   congr 1
   omega
 have e2 : (cur.take (i * k + k) ++ xs.drop (i * k) ++ cur.drop (i * k + k + (n * k - i * k))).drop (i * k + k) = xs.drop (i * k) ++ cur.drop (i * k + k + (n * k - i * k)) := by
   rw [List.append_assoc, List.drop_append_of_le_length (by rw [List.length_take]; omega), List.drop_of_length_le (by rw [List.length_take]; omega), List.nil_append]
 rw [e1, e2, ← List.append_assoc, List.take_append_of_le_length (by rw [List.length_append, List.length_append, hdl, hvl, List.length_take, hxl]; omega), List.take_of_length_le (by rw [List.length_append, List.length_append, hdl, hvl, List.length_take, hxl]; omega)]
theorem ins_list2 {k n i : Nat} {row xs vs : List Value} (hrt : row.take (i * k) = xs.take (i * k)) (hvl : vs.length = k) (hxl : xs.length = n * k) (hi : i < n) :
   (((row.take (i * k) ++ vs ++ row.drop (i * k + vs.length)).toArray.toList.take ((i + 1) * k) ++ xs.drop (i * k) ++ (row.take (i * k) ++ vs ++ row.drop (i * k + vs.length)).toArray.toList.drop ((i + 1) * k + (xs.drop (i * k)).length)).toArray.toList).take ((n + 1) * k) = xs.take (i * k) ++ vs ++ xs.drop (i * k) := by
 have m1 : (i + 1) * k = i * k + k := Nat.succ_mul i k
 have m2 : (n + 1) * k = n * k + k := Nat.succ_mul n k
 have m3 : i * k + k ≤ n * k := by rw [← m1]; exact Nat.mul_le_mul_right k hi
 have hdl : (xs.drop (i * k)).length = n * k - i * k := by rw [List.length_drop, hxl]
 have htl : (xs.take (i * k)).length = i * k := by rw [List.length_take, hxl]; omega
 simp only [hdl, hvl, m1, m2, hrt]
 have e1 : (xs.take (i * k) ++ vs ++ row.drop (i * k + k)).take (i * k + k) = xs.take (i * k) ++ vs := by
   rw [List.take_append_of_le_length (by rw [List.length_append, htl, hvl]; omega), List.take_of_length_le (by rw [List.length_append, htl, hvl]; omega)]
 rw [e1, List.take_append_of_le_length (by rw [List.length_append, List.length_append, hdl, htl, hvl]; omega), List.take_of_length_le (by rw [List.length_append, List.length_append, hdl, htl, hvl]; omega)]
open Go.Lib in
theorem copy_rowK {P : Program} (w : World) (dT sT ty elem : TypeId) (k g o dLen dCap : Nat) (a : Addr) (sLen sCap : Nat) (cur : Array Value) (t : TypeId) (cs : List Value)
   (hu : P.underlying dT = some (.slice elem)) (hs : (P.info? elem).map (·.size) = some k)
   (hg : w.heap[g]? = some (.cells cur t (0, 0))) (hn : cs.length = Nat.min sLen dLen * k)
   (hsrc : ∀ j v, cs[j]? = some v → w.cell? (a.add j) = some v) (hfit : o + cs.length ≤ cur.size) (h1 : ∀ v ∈ cs, v.oneCell' = true) :
   (Builtin.copy_ #[dT, sT] ty #[.slice (some ⟨g, o, none⟩) dLen dCap, .slice (some a) sLen sCap]).run P w =
     .ok (goInt (Nat.min sLen dLen)) (w.setRow g (cur.toList.take o ++ cs ++ cur.toList.drop (o + cs.length)).toArray) := by
 have hl := run_loadCells_list (P := P) w a cs hsrc
 have hst := run_storeCells_at P g o t cs 0 cur w hg (by simpa using hfit) h1
 cases hq : P.info? elem with
 | none => simp [hq] at hs
 | some i =>
   have hi : i.size = k := by simpa [hq] using hs
   simp [Builtin.copy_, run_underlying hu, Builtin.lenOf, Builtin.firstCells, sizeOf, typeInfo, hq, hi, ← hn, hl, hst]
set_option maxRecDepth 100000 in
set_option maxHeartbeats 4000000 in
open Go.Lib in
theorem insEIt_any (base n vb : Nat) (v : Value) (xs vs : List Value) (w : World) (hn : n ≤ 1048576) (hb : base ≤ w.heap.size) (hO : w.ownsRow base 59 5 v n xs) (hv : w.heap[vb]? = some (.cells vs.toArray 59 (0, 0))) (hvl : vs.length = 5) (h1v : ∀ v ∈ vs, v.oneCell' = true) : Calls Try.prog 38 #[v, .int .i64 (n : Int), .slice (some ⟨vb, 0, none⟩) 1 1] w (InsP base 59 5 v n n xs vs w) := by
 obtain ⟨i0, hi0, hz0, hzs, hzb⟩ := info_item
 have hxl := hO.1
 have hvw : ∀ j v, vs[j]? = some v → w.cell? ⟨vb, 0 + j, none⟩ = some v := fun j v hj => by
   rw [Nat.zero_add]
   simp [World.cell?, hv, hj]
 have hnI : (n : Int) ≤ 1048576 := by omega
 rcases hO.2 with ⟨rfl, rfl⟩ | ⟨b, c, cur, rfl, _, _, hnc, _, _⟩
 · clear hnI hv
   go_enter Try.func38, Try.ntmps38
   go_wp2_with (at_builtin; refine wpList_append_own_at _ rfl _ _ 31 rfl base 59 i0 (.agg #[.int .i64 0, .int .i64 0, .int .i64 0, .int .i64 0, .int .i64 0]) 5 40 Try.underlying31 hi0 hz0 hzs hzb rfl (by decide) _ _ _ rfl hO ⟨vb, 0, none⟩ 1 1 vs rfl (by rw [hvl]) (fun j v hj => by rw [Addr.add_lit]; exact hvw j v hj) h1v (by unfold maxLen; omega) (by omega) (by omega) ?_)
   all_goals
     intro v' w' hown hgrow _ hob
     go_wp2
     go_ret
     refine ⟨v', rfl, ?_, hgrow, hob⟩
     rw [show xs.take (0 * 5) = xs from List.take_of_length_le (by omega), show xs.drop (0 * 5) = [] from List.drop_of_length_le (by omega), List.append_nil]
     exact hown
 · clear hv
   go_enter Try.func38, Try.ntmps38
   go_wp2_with (at_builtin; refine wpList_append_own_at _ rfl _ _ 31 rfl base 59 i0 (.agg #[.int .i64 0, .int .i64 0, .int .i64 0, .int .i64 0, .int .i64 0]) 5 40 Try.underlying31 hi0 hz0 hzs hzb rfl (by decide) _ _ _ rfl hO ⟨vb, 0, none⟩ 1 1 vs rfl (by rw [hvl]) (fun j v hj => by rw [Addr.add_lit]; exact hvw j v hj) h1v (by unfold maxLen; omega) (by omega) (by omega) ?_)
   all_goals
     intro v' w' hown hgrow _ hob
     go_wp2
     go_ret
     refine ⟨v', rfl, ?_, hgrow, hob⟩
     rw [show xs.take (n * 5) = xs from List.take_of_length_le (by omega), show xs.drop (n * 5) = [] from List.drop_of_length_le (by omega), List.append_nil]
     exact hown
set_option maxRecDepth 100000 in
set_option maxHeartbeats 4000000 in
open Go.Lib in
theorem insIt_any (base b n c i vb : Nat) (xs vs : List Value) (w : World) (hi : i < n) (hn : n ≤ 1048576) (hO : w.ownsRow base 59 5 (.slice (some ⟨b, 0, none⟩) n c) n xs) (hv : w.heap[vb]? = some (.cells vs.toArray 59 (0, 0))) (hvl : vs.length = 5) (hvb : vb ≠ b) (h1v : ∀ v ∈ vs, v.oneCell' = true) (h1x : ∀ v ∈ xs, v.oneCell' = true) : Calls Try.prog 38 #[.slice (some ⟨b, 0, none⟩) n c, .int .i64 (i : Int), .slice (some ⟨vb, 0, none⟩) 1 1] w (InsP base 59 5 (.slice (some ⟨b, 0, none⟩) n c) n i xs vs w) := by
 obtain ⟨i0, hi0, hz0, hzs, hzb⟩ := info_item
 obtain ⟨hxl, hcase⟩ := hO
 rcases hcase with ⟨e, _⟩ | ⟨g, cap, cur, e, hbg, hg, hnc, hcm, hcs, hct⟩
 · cases e
 cases e
 have hvw : ∀ j v, vs[j]? = some v → w.cell? ⟨vb, 0 + j, none⟩ = some v := fun j v hj => by
   rw [Nat.zero_add]
   simp [World.cell?, hv, hj]
 have hbw : b < w.heap.size := (Array.getElem?_eq_some_iff.1 hg).1
 have hvw2 : vb < w.heap.size := (Array.getElem?_eq_some_iff.1 hv).1
 have hz2 : ¬ ((i : Int) = (n : Int)) := by omega
 have hltI : (i : Int) < (n : Int) := by omega
 have hnI : (n : Int) ≤ 1048576 := by omega
 have hsz : (Try.prog.info? 59).map (·.size) = some 5 := by rw [hi0]; simp [hzs]
 have hxc : ∀ j v, xs[j]? = some v → w.cell? ⟨b, j, none⟩ = some v := fun j v hj => by
   rw [← hct] at hj
   rw [List.getElem?_take] at hj
   split at hj
   · simp [World.cell?, hg]; simpa using hj
   · cases hj
 by_cases hroom : n + 1 ≤ c
 · have hroomI : (n : Int) + 1 ≤ (c : Int) := by omega
   have hc63 : c ≤ 9223372036854775807 := by have := hcm; unfold maxLen at this; omega
   have hci : ¬ (c = i) := by omega
   have hci1 : ¬ (c = i + 1) := by omega
   have hov : ∀ (A : Addr) lb cb, A.block = b → (callFunc 76 #[.slice (some ⟨vb, 0, none⟩) 1 1, .slice (some A) lb cb]).run Try.prog w = .ok (.value (.bool false)) w := fun A lb cb hA => by
     rw [run_callFunc_extern Try.func76 (by kernel_rfl) (by kernel_rfl) (by kernel_rfl) (e := Extern.SlicesOverlaps.overlaps #[31, 31] #[4]) (by kernel_rfl),
       Lib.run_overlaps_apart w 31 4 59 Try.underlying31 5 Try.sizeOf59 ⟨vb, 0, none⟩ A 1 1 lb cb (by rw [hA]; exact hvb) 59 59 5 (c * 5) (by simp [World.shape?, hv, hvl]) (by rw [hA]; simp [World.shape?, hg, hcs]) (by omega) (by simp [World.frozen?, hv]) (by simp [World.frozen?, hv])]
     rfl
   have hov1 := fun lb cb => hov ⟨b, (i + 1) * 5, none⟩ lb cb rfl
   clear hov
   go_enter Try.func38, Try.ntmps38
   obtain ⟨C1, hC1⟩ : ∃ C1 : Array Value, C1 = (cur.toList.take ((i + 1) * 5) ++ xs.drop (i * 5) ++ cur.toList.drop ((i + 1) * 5 + (xs.drop (i * 5)).length)).toArray := ⟨_, rfl⟩
   have hdl : (xs.drop (i * 5)).length = (n - i) * 5 := by rw [List.length_drop, hxl]; omega
   have hcp1 : ∀ ty dc sc, (Builtin.copy_ #[31, 31] ty #[.slice (some ⟨b, (i + 1) * 5, none⟩) (n - i) dc, .slice (some ⟨b, i * 5, none⟩) (n + 1 - i) sc]).run Try.prog w.drew = .ok (goInt (Nat.min (n + 1 - i) (n - i))) (w.drew.setRow b C1) := fun ty dc sc => by
     rw [hC1]
     exact copy_rowK w.drew 31 31 ty 59 5 b ((i + 1) * 5) (n - i) dc ⟨b, i * 5, none⟩ (n + 1 - i) sc cur 59 (xs.drop (i * 5)) Try.underlying31 hsz hg (by rw [hdl, show Nat.min (n + 1 - i) (n - i) = n - i from Nat.min_eq_right (by omega)])
       (fun j v hj => by rw [Addr.add_lit]; exact hxc _ v (by rwa [List.getElem?_drop] at hj)) (by rw [hdl, hcs]; omega) (fun v hv => h1x v (List.mem_of_mem_drop hv))
   have hC1s : C1.size = c * 5 := by rw [hC1]; simp [hxl, hcs]; omega
   obtain ⟨C2, hC2⟩ : ∃ C2 : Array Value, C2 = (C1.toList.take (i * 5) ++ vs ++ C1.toList.drop (i * 5 + vs.length)).toArray := ⟨_, rfl⟩
   have hcp2 : ∀ (W : World), W.heap = (w.setRow b C1).heap → ∀ ty dc, (Builtin.copy_ #[31, 31] ty #[.slice (some ⟨b, i * 5, none⟩) (n + 1 - i) dc, .slice (some ⟨vb, 0, none⟩) 1 1]).run Try.prog W = .ok (goInt (Nat.min 1 (n + 1 - i))) (W.setRow b C2) := fun W hW ty dc => by
     rw [hC2]
     exact copy_rowK W 31 31 ty 59 5 b (i * 5) (n + 1 - i) dc ⟨vb, 0, none⟩ 1 1 C1 59 vs Try.underlying31 hsz (by rw [hW]; exact setRow_heap w b cur C1 _ _ hg) (by rw [hvl, show Nat.min 1 (n + 1 - i) = 1 from Nat.min_eq_left (by omega)])
       (fun j v hj => by
         rw [Addr.add_lit]
         have := hvw j v hj
         rw [← this]
         exact World.cell?_of_block (w := w) (a := ⟨vb, 0 + j, none⟩) (by show W.heap[vb]? = _; rw [hW]; exact setRow_other w b vb C1 hvb)) (by rw [hvl, hC1s]; omega) h1v
   have HF : Hid (C2.toList.take ((n + 1) * 5) = xs.take (i * 5) ++ vs ++ xs.drop (i * 5) ∧ C2.size = c * 5) := by
     refine ⟨?_, ?_⟩
     · rw [hC2, hC1]
       have h := ins_list (k := 5) (n := n) (c := c) (i := i) (cur := cur.toList) (xs := xs) (vs := vs) hct hvl (by simpa using hcs) (by omega) hroom
       first | exact h | (simp only [Nat.mul_one] at h ⊢; exact h)
     · rw [hC2]
       simp [hvl, hC1s]
       omega
   clear hC1 hC2 hxc hvw hct
   have mixed : Try.prog.follows Departure.mixedOrders = true := by kernel_rfl
   have hw1 : IntKind.i64.wrap ((i : Int) + 1) = (i : Int) + 1 := by rw [IntKind.wrap_i64]; omega
   have hb1 : (0 : Int) ≤ (i : Int) + 1 := by omega
   have htn : ((i : Int) + 1).toNat = i + 1 := by omega
   have hb3 : (i : Int) + 1 ≤ (n : Int) + 1 := by omega
   have hb5 : (i : Int) ≤ (n : Int) + 1 := by omega
   go_wp2_with (simp only [hov1])
   go_region_law_o (refine step_copy_runI rfl _ _ 31 31 rfl (.slice (some ⟨b, (i + 1) * 5, none⟩) (n - i) (c - (i + 1))) (.slice (some ⟨b, i * 5, none⟩) (n + 1 - i) (c - i)) (by simp [Act.eval, Act.put]) (by simp [Act.eval, Act.put]) (hcp1 _ _ _) ?_)
   have hcp3 := hcp2 (w.drew.setRow b C1) rfl
   clear hcp2 hcp1
   go_wp2
   go_ret
   have e1 : (w.drew.setRow b C1).heap[b]? = some (.cells C1 59 (0, 0)) := setRow_heap w.drew b cur C1 _ _ hg
   refine ⟨_, rfl, ⟨?_, .inr ⟨b, c, C2, rfl, hbg, setRow_heap _ b C1 C2 _ _ e1, hroom, hcm, HF.out.2, HF.out.1⟩⟩, ⟨rfl, rfl, rfl, by simp, fun k hk hne => ?_⟩, .inl rfl⟩
   · rw [List.length_append, List.length_append, List.length_take, List.length_drop, hxl, hvl]
     omega
   · have hkb : k ≠ b := fun e => hne (congrArg some e)
     rw [setRow_other _ b k C2 hkb, setRow_other _ b k C1 hkb]
     rfl
 · obtain ⟨G, hG⟩ : ∃ G, G = grownCap w (n + 1) c 59 := ⟨_, rfl⟩
   obtain ⟨ROW, hROW⟩ : ∃ ROW : Array Value, ROW = (xs.take (i * 5)).toArray ++ Builtin.zeroCells (.agg #[.int .i64 0, .int .i64 0, .int .i64 0, .int .i64 0, .int .i64 0] : Value).cells (n + 1 - i) ++ Builtin.zeroCells (.agg #[.int .i64 0, .int .i64 0, .int .i64 0, .int .i64 0, .int .i64 0] : Value).cells (G - (n + 1)) := ⟨_, rfl⟩
   have hGn : n + 1 ≤ G := by rw [hG]; exact grownCap_ge w _ _ _
   have hGm : G ≤ maxLen := by rw [hG]; exact grownCap_le_maxLen w (n + 1) c 59 (by unfold maxLen; omega)
   have hRl : ROW.size = G * 5 := by
     rw [hROW]
     simp [Builtin.zeroCells, Value.cells, hxl]
     omega
   have hRt : ROW.toList.take (i * 5) = xs.take (i * 5) := by
     rw [hROW]
     simp only [Array.toList_append, List.append_assoc]
     rw [List.take_append_of_le_length (by simp [hxl]; omega), List.take_of_length_le (by simp [hxl]; omega)]
   have hold : (Builtin.firstCells i0.size i (.slice (some ⟨b, 0, none⟩) i c)).run Try.prog w.drew = .ok (xs.take (i * 5)).toArray w.drew := by
     rw [hzs]
     exact run_firstCells_some w.drew 5 i ⟨b, 0, none⟩ i c (xs.take (i * 5)) (by rw [List.length_take, hxl]; omega) (fun j v hj => by
       rw [Addr.add_lit, Nat.zero_add]
       rw [List.getElem?_take] at hj
       split at hj
       · exact hxc j v hj
       · cases hj)
   have hrz : ∀ ty, (Builtin.append_ #[31, 3] ty #[.slice (some ⟨b, 0, none⟩) i c, .int .i64 ((n : Int) + 1 - (i : Int))]).run Try.prog w = .ok (.slice (some ⟨w.heap.size, 0, none⟩) (n + 1) G) (w.drew.alloc (.cells ROW 59)) := fun ty => by
     have h := Lib.run_append_grow_zeros w 31 3 ty 59 i0 _ .i64 .i64 Try.underlying31 Try.underlying3 hi0 hz0 (some ⟨b, 0, none⟩) i c (xs.take (i * 5)) hold (n + 1 - i) (by omega) (by omega) (by omega) (by omega) (by rw [hzb]; omega) (by rw [hzb, show i + (n + 1 - i) = n + 1 by omega]; exact growslice_fits (by omega) (by omega))
     rw [show i + (n + 1 - i) = n + 1 by omega, ← hG, ← hROW] at h
     rw [show (n : Int) + 1 - (i : Int) = ((n + 1 - i : Nat) : Int) by omega]
     exact h
   obtain ⟨R1, hR1⟩ : ∃ R1 : Array Value, R1 = (ROW.toList.take (i * 5) ++ vs ++ ROW.toList.drop (i * 5 + vs.length)).toArray := ⟨_, rfl⟩
   have hR1s : R1.size = G * 5 := by rw [hR1]; simp [hvl, hRl]; omega
   obtain ⟨R2, hR2⟩ : ∃ R2 : Array Value, R2 = (R1.toList.take ((i + 1) * 5) ++ xs.drop (i * 5) ++ R1.toList.drop ((i + 1) * 5 + (xs.drop (i * 5)).length)).toArray := ⟨_, rfl⟩
   have hdl : (xs.drop (i * 5)).length = (n - i) * 5 := by rw [List.length_drop, hxl]; omega
   have hR2s : R2.size = G * 5 := by rw [hR2]; simp [hxl, hR1s]; omega
   have hNw : w.heap.size ≠ vb := by omega
   have hNb : w.heap.size ≠ b := by omega
   have a1 : (w.alloc (.cells ROW 59)).heap[w.heap.size]? = some (.cells ROW 59 (0, 0)) := heap_alloc_new w _
   have hcpA : ∀ (W : World), W.heap = (w.alloc (.cells ROW 59)).heap → ∀ ty dc, (Builtin.copy_ #[31, 31] ty #[.slice (some ⟨w.heap.size, i * 5, none⟩) (n + 1 - i) dc, .slice (some ⟨vb, 0, none⟩) 1 1]).run Try.prog W = .ok (goInt (Nat.min 1 (n + 1 - i))) (W.setRow w.heap.size R1) := fun W hW ty dc => by
     rw [hR1]
     exact copy_rowK W 31 31 ty 59 5 w.heap.size (i * 5) (n + 1 - i) dc ⟨vb, 0, none⟩ 1 1 ROW 59 vs Try.underlying31 hsz (by rw [hW]; exact a1) (by rw [hvl, show Nat.min 1 (n + 1 - i) = 1 from Nat.min_eq_left (by omega)])
       (fun j v hj => by
         rw [Addr.add_lit]
         have := hvw j v hj
         rw [← this]
         exact World.cell?_of_block (w := w) (a := ⟨vb, 0 + j, none⟩) (by show W.heap[vb]? = _; rw [hW]; exact Below.heap_alloc _ _ _ hvw2)) (by rw [hvl, hRl]; omega) h1v
   have hcpB : ∀ (W : World), W.heap = ((w.alloc (.cells ROW 59)).setRow w.heap.size R1).heap → ∀ ty dc sc, (Builtin.copy_ #[31, 31] ty #[.slice (some ⟨w.heap.size, (i + 1) * 5, none⟩) (n - i) dc, .slice (some ⟨b, i * 5, none⟩) (n - i) sc]).run Try.prog W = .ok (goInt (Nat.min (n - i) (n - i))) (W.setRow w.heap.size R2) := fun W hW ty dc sc => by
     rw [hR2]
     exact copy_rowK W 31 31 ty 59 5 w.heap.size ((i + 1) * 5) (n - i) dc ⟨b, i * 5, none⟩ (n - i) sc R1 59 (xs.drop (i * 5)) Try.underlying31 hsz (by rw [hW]; exact setRow_heap _ w.heap.size ROW R1 _ _ a1) (by rw [hdl, show Nat.min (n - i) (n - i) = n - i from Nat.min_self _])
       (fun j v hj => by
         rw [Addr.add_lit]
         have := hxc (i * 5 + j) v (by rwa [List.getElem?_drop] at hj)
         rw [← this]
         exact World.cell?_of_block (w := w) (a := ⟨b, i * 5 + j, none⟩) (by show W.heap[b]? = _; rw [hW, setRow_other _ _ _ _ (Ne.symm hNb)]; exact Below.heap_alloc _ _ _ hbw)) (by rw [hdl, hR1s]; omega) (fun v hv => h1x v (List.mem_of_mem_drop hv))
   have HF : Hid (R2.toList.take ((n + 1) * 5) = xs.take (i * 5) ++ vs ++ xs.drop (i * 5)) := by
     show _ = _
     rw [hR2, hR1]
     have h := ins_list2 (k := 5) (n := n) (i := i) (row := ROW.toList) (xs := xs) (vs := vs) (by first | exact hRt | (simp only [Nat.mul_one]; exact hRt)) hvl hxl (by omega)
     first | exact h | (simp only [Nat.mul_one] at h ⊢; exact h)
   have hcI : (c : Int) < (n : Int) + 1 := by omega
   have hci : ¬ (c = i) := by omega
   have hGi : ¬ (G = i) := by omega
   have hGi1 : ¬ (G = i + 1) := by omega
   have mixed : Try.prog.follows Departure.mixedOrders = true := by kernel_rfl
   have hw1 : IntKind.i64.wrap ((i : Int) + 1) = (i : Int) + 1 := by rw [IntKind.wrap_i64]; omega
   have hb1 : (0 : Int) ≤ (i : Int) + 1 := by omega
   have htn : ((i : Int) + 1).toNat = i + 1 := by omega
   have hb3 : (i : Int) + 1 ≤ (n : Int) + 1 := by omega
   have hb5 : (i : Int) ≤ (n : Int) + 1 := by omega
   have hb6 : (i : Int) ≤ (n : Int) := by omega
   have hG63 : G ≤ 9223372036854775807 := by have := hGm; unfold maxLen at this; omega
   have hA := hcpA (w.alloc (.cells ROW 59)).drew rfl
   have hB := hcpB ((w.alloc (.cells ROW 59)).drew.setRow w.heap.size R1).drew rfl
   clear hROW hG hR1 hR2 hRt hold hxc hvw hct a1 hcpA hcpB
   go_enter Try.func38, Try.ntmps38
   go_wp2_with (at_builtin; refine Lib.wpList_append_run _ rfl _ _ _ _ rfl _ _ rfl rfl _ _ (hrz _) ?_)
   go_region_law_o (refine step_copy_runI rfl _ _ 31 31 rfl (.slice (some ⟨w.heap.size, (i + 1) * 5, none⟩) (n - i) (G - (i + 1))) (.slice (some ⟨b, i * 5, none⟩) (n - i) (c - i)) (by simp [Act.eval, Act.put]) (by simp [Act.eval, Act.put]) (hB _ _ _) ?_)
   go_wp2
   go_ret
   have e0 : (w.alloc (.cells ROW 59)).drew.heap[w.heap.size]? = some (.cells ROW 59 (0, 0)) := heap_alloc_new w _
   have e1 : ((w.alloc (.cells ROW 59)).drew.setRow w.heap.size R1).drew.heap[w.heap.size]? = some (.cells R1 59 (0, 0)) := setRow_heap (w.alloc (.cells ROW 59)).drew w.heap.size ROW R1 _ _ e0
   refine ⟨_, rfl, ⟨?_, .inr ⟨w.heap.size, G, R2, rfl, by omega, setRow_heap _ w.heap.size R1 R2 _ _ e1, hGn, hGm, hR2s, HF.out⟩⟩, ⟨rfl, rfl, rfl, by simp, fun k hk hne => ?_⟩, .inr rfl⟩
   · rw [List.length_append, List.length_append, List.length_take, List.length_drop, hxl, hvl]
     omega
   · rw [setRow_other _ w.heap.size k R2 (by omega)]
     show ((w.alloc (.cells ROW 59)).drew.setRow w.heap.size R1).heap[k]? = _
     rw [setRow_other _ w.heap.size k R1 (by omega)]
     exact Below.heap_alloc w _ _ hk
def ordN (x y : Int) : Int := if x < y then -1 else if y < x then 1 else 0
set_option maxRecDepth 100000 in
set_option maxHeartbeats 4000000 in
theorem cmpNo_any (x y : Int) (w : World) : Calls Try.prog 99 #[.int .i64 x, .int .i64 y] w (VP (.int .i64 (ordN x y)) w) := by
 unfold ordN
 by_cases h1 : x < y
 · rw [if_pos h1]
   go_enter Try.func99, Try.ntmps99
   go_wp2
   go_ret
   exact ⟨rfl, Below.refl _ _⟩
 · rw [if_neg h1]
   by_cases h2 : y < x
   · rw [if_pos h2]
     go_enter Try.func99, Try.ntmps99
     go_wp2
     go_ret
     exact ⟨rfl, Below.refl _ _⟩
   · rw [if_neg h2]
     go_enter Try.func99, Try.ntmps99
     go_wp2
     go_ret
     exact ⟨rfl, Below.refl _ _⟩
set_option maxRecDepth 100000 in
set_option maxHeartbeats 4000000 in
theorem orderItem_any (x a bb cc d y : Int) (w : World) : Calls Try.prog 75 #[.agg #[.int .i64 x, .int .i64 a, .int .i64 bb, .int .i64 cc, .int .i64 d], .int .i64 y] w (VP (.int .i64 (ordN x y)) w) := by
 have B0 : Blk (w.alloc (.cells #[.int .i64 x, .int .i64 a, .int .i64 bb, .int .i64 cc, .int .i64 d] 59)) w.heap.size [.int .i64 x, .int .i64 a, .int .i64 bb, .int .i64 cc, .int .i64 d] := Blk.new w [.int .i64 x, .int .i64 a, .int .i64 bb, .int .i64 cc, .int .i64 d] 59 rfl
 have HB : Below w.heap.size w (w.alloc (.cells #[.int .i64 x, .int .i64 a, .int .i64 bb, .int .i64 cc, .int .i64 d] 59)) := (Below.refl _ w).alloc (Nat.le_refl _) _
 go_enter Try.func75, Try.ntmps75
 go_upto_region 1 with fail
 generalize (w.alloc (.cells #[.int .i64 x, .int .i64 a, .int .i64 bb, .int .i64 cc, .int .i64 d] 59)) = W1 at *
 have m0 := B0.c 0 rfl
 go_wp2_with fail
 refine (cmpNo_any x y W1).mono ?_
 rintro r w1 ⟨rfl, hB⟩
 have HB2 := HB.trans (hB.mono HB.size)
 clear hB HB m0 B0
 go_wp2
 go_ret
 exact ⟨rfl, HB2⟩
theorem ordN_lt (x y : Int) : (ordN x y < 0) ↔ x < y := by
 unfold ordN
 split
 · exact ⟨fun _ => by assumption, fun _ => by omega⟩
 · split <;> exact ⟨fun h => absurd h (by omega), fun h => absurd h (by assumption)⟩
theorem ordN_zero (x y : Int) : (ordN x y = 0) ↔ x = y := by
 unfold ordN
 split
 · exact ⟨fun h => absurd h (by omega), fun h => by omega⟩
 · split
   · exact ⟨fun h => absurd h (by omega), fun h => by omega⟩
   · exact ⟨fun _ => by omega, fun _ => rfl⟩
set_option maxRecDepth 100000 in
set_option maxHeartbeats 8000000 in
theorem bsfItem_any (Q : QD) (ao : Option Addr) (n cap : Nat) (id : Int) (j : Nat) (th : Bool) (hn : n ≤ 1048576) (hj : j ≤ n) (hlo : ∀ i, i < j → Q.I i < id) (hhi : ∀ i, j ≤ i → i < n → id ≤ Q.I i) (hth : th = true ↔ (j < n ∧ Q.I j = id)) (w : World) (hS : ItIn Q w ao (List.range n)) : Calls Try.prog 74 #[.slice ao n cap, .int .i64 id, .func (.func 75) #[] #[]] w (VP (.tuple #[.int .i64 (j : Int), .bool th]) w) := by
 have HS : Hid (ItIn Q w ao (List.range n)) := hS
 have HLO : Hid (∀ i, i < j → Q.I i < id) := hlo
 have HHI : Hid (∀ i, j ≤ i → i < n → id ≤ Q.I i) := hhi
 have HTH : Hid (th = true ↔ (j < n ∧ Q.I j = id)) := hth
 clear hS hlo hhi hth
 have hnI : (n : Int) ≤ 1048576 := by omega
 go_enter Try.func74, Try.ntmps74
 go_wp2_with fail
 go_loopw [9, 10] (fun a b wr => ∃ l r : Nat, a = .int .i64 l ∧ b = .int .i64 r ∧ l ≤ j ∧ j ≤ r ∧ r ≤ n ∧ Below w.heap.size w wr) (fun a b _ => (intOf b).toNat - (intOf a).toNat)
 case atStart => exact ⟨0, n, rfl, rfl, by omega, hj, by omega, Below.refl _ _⟩
 case round =>
   obtain ⟨l, r, rfl, rfl, hl, hr, hrm, HB⟩ := hrel
   by_cases hlr : l < r
   · have hlI : (l : Int) < r := by omega
     have hrI : (r : Int) ≤ 1048576 := by omega
     obtain ⟨hf, hh0⟩ : ∃ h : Nat, h = (l + r) / 2 := ⟨_, rfl⟩
     have hhI : ((l : Int) + (r : Int)) / 2 = (hf : Int) := by omega
     have hh : l ≤ hf ∧ hf < r := by omega
     clear hh0
     obtain ⟨A, off, rfl, hA, q0, q1, q2, q3, q4⟩ := HS.out.step HB hf hf (by simp [show hf < n by omega])
     obtain ⟨ov, hov⟩ : ∃ ov, ordN (Q.I hf) id = ov := ⟨_, rfl⟩
     have HOV : Hid (ordN (Q.I hf) id = ov) := hov
     have C := orderItem_any (Q.I hf) (Q.S hf).1 (Q.S hf).2.1 (Q.S hf).2.2.1 (Q.S hf).2.2.2 id wr
     rw [hov] at C
     clear hov
     go_wp2_with fail
     refine C.mono ?_
     rintro e w1 ⟨rfl, hBz⟩
     replace HB := HB.trans (hBz.mono HB.size)
     clear C hBz hA q0 q1 q2 q3 q4
     by_cases hx : ov < 0
     · have hfj : Hid (hf < j) := Nat.lt_of_not_le fun hle => by have := HHI.out hf hle (by omega); have := (ordN_lt _ _).1 (by rw [HOV.out]; exact hx); omega
       go_wp2
       go_roundw
       case rel => exact ⟨hf + 1, r, by go_num, rfl, hfj.out, hr, hrm, HB⟩
       case measure => simp [intOf]; omega
     · have hfj : Hid (j ≤ hf) := Nat.le_of_not_lt fun hlt => hx (by rw [← HOV.out]; exact (ordN_lt _ _).2 (HLO.out hf hlt))
       go_wp2
       go_roundw
       case rel => exact ⟨l, hf, rfl, rfl, hl, hfj.out, by omega, HB⟩
       case measure => simp [intOf]; omega
   · obtain rfl : l = j := by omega
     obtain rfl : r = l := by omega
     by_cases hlm : r < n
     · have hlI : (r : Int) < n := by omega
       obtain ⟨A, off, rfl, hA, q0, q1, q2, q3, q4⟩ := HS.out.step HB r r (by simp [hlm])
       obtain ⟨ov, hov⟩ : ∃ ov, ordN (Q.I r) id = ov := ⟨_, rfl⟩
       have hth : (ov == 0) = th := by
         cases th with
         | true => exact beq_iff_eq.2 (hov.symm.trans ((ordN_zero _ _).2 (HTH.out.1 rfl).2))
         | false => exact Bool.eq_false_iff.2 (fun h => by have := HTH.out.2 ⟨hlm, (ordN_zero _ _).1 (hov.trans (beq_iff_eq.1 h))⟩; cases this)
       have C := orderItem_any (Q.I r) (Q.S r).1 (Q.S r).2.1 (Q.S r).2.2.1 (Q.S r).2.2.2 id wr
       rw [hov] at C
       clear hov
       go_wp2_with fail
       refine C.mono ?_
       rintro e w1 ⟨rfl, hBz⟩
       replace HB := HB.trans (hBz.mono HB.size)
       clear C hBz hA q0 q1 q2 q3 q4
       go_wp2
       refine bodyPost_ret (v := .tuple #[.int .i64 (r : Int), .bool th]) (by simp [results, Try.results74, go_sem]) rfl ?_
       exact ⟨rfl, HB⟩
     · obtain rfl : r = n := by omega
       have htf : th = false := by cases th with | false => rfl | true => have := (HTH.out.1 rfl).1; omega
       subst htf
       go_wp2
       refine bodyPost_ret (v := .tuple #[.int .i64 (r : Int), .bool false]) (by simp [results, Try.results74, go_sem]) rfl ?_
       exact ⟨rfl, HB⟩
theorem tr_small {Q : QD} {m d : Int} (h : qOk Q m d = true) : d.toNat ≤ 8 ∧ nlT (trQ Q d.toNat 0 (-1048576) (-1048576) 2097152) ≤ 65536 ∧ dpT (trQ Q d.toNat 0 (-1048576) (-1048576) 2097152) ≤ 8 := by
 have h8 : d.toNat ≤ 8 := by
   unfold qOk limB at h
   simp at h
   omega
 exact ⟨h8, nl_small h8 (dp_tr Q _ _ _ _ _), Nat.le_trans (dp_le _ _ (dp_tr Q _ _ _ _ _)) h8⟩
theorem own_set4 {w1 : World} {b g size n : Nat} {T : TypeId} {v v0 v1 v2 v3 : Value} {xs : List Value} (hO : w1.ownsRow b T size v n xs) (hg : g < b) : ((((w1.setCell ⟨g, 0, none⟩ v0).setCell ⟨g, 1, none⟩ v1).setCell ⟨g, 2, none⟩ v2).setCell ⟨g, 3, none⟩ v3).drew.ownsRow g T size v n xs :=
 World.ownsRow.drew (ownQ_mono2 (ownQ_heap hO (fun k hk => set4_heap (W := w1) (g := g) (by have := (World.ownsRow.lt hO k hk).1; omega))) (by omega))
def ToldP (m d : Int) (iv : Value) (ok : Nat → Prop) (L : List WB) (w : World) (r : Ending) (w' : World) : Prop :=
 Below w.heap.size w w' ∧ ((2000 < L.length ∧ r = .returned (.tuple #[.agg #[.int .i64 0, .int .i64 0, .slice none 0 0, .slice none 0 0], .bool false])) ∨ (L.length ≤ 2000 ∧ ∃ u I, r = .returned (.tuple #[.agg #[.int .i64 m, .int .i64 d, iv, u], .bool true]) ∧ w'.ownsRow w.heap.size 55 5 u L.length (wbCs L I) ∧ IsP ok w L I))
set_option maxRecDepth 100000 in
set_option maxHeartbeats 8000000 in
theorem toldS_any (t : QT) (gq gr n ic : Nat) (io : Option Addr) (m d : Int) (ok : Nat → Prop) (w : World) (hL : (wrT t (-1048576) (-1048576) 2097152).length ≤ 1048576) (Bq : Blk w gq [.int .i64 m, .int .i64 d, .slice io n ic, .pointer (some ⟨gr, 0, none⟩)]) (hT : STr ok w t (-1048576) (-1048576) 2097152 0 gr) : Calls Try.prog 40 #[.pointer (some ⟨gq, 0, none⟩)] w (ToldP m d (.slice io n ic) ok (wrT t (-1048576) (-1048576) 2097152) w) := by
 have H1 : Below w.heap.size w (w.alloc (.cells #[.int .i64 0, .int .i64 0, .slice none 0 0, .slice none 0 0] 34)) := (Below.refl _ w).alloc (Nat.le_refl _) _
 have BZ := Blk.new w [.int .i64 0, .int .i64 0, .slice none 0 0, .slice none 0 0] 34 rfl
 have HKq : ∀ W, Below w.heap.size w W → (fun w' : World => w'.cell? ⟨gq, 0, none⟩ = some (.int .i64 m) ∧ w'.cell? ⟨gq, 1, none⟩ = some (.int .i64 d) ∧ w'.cell? ⟨gq, 2, none⟩ = some (.slice io n ic)) W := fun W h => ⟨(Bq.below h Bq.lt).c 0 rfl, (Bq.below h Bq.lt).c 1 rfl, (Bq.below h Bq.lt).c 2 rfl⟩
 have hT1 : STr (fun b => ok b ∧ b < w.heap.size) w t (-1048576) (-1048576) 2097152 0 gr := STr.keep (Nat.le_refl _) (fun _ _ _ => rfl) (fun b hb hl => ⟨hb, hl⟩) hT
 replace Bq := Bq.step H1
 replace hT1 := hT1.step H1
 have RL := row_any t _ _ _ _ _ gr _ hL hT1
 have hpos := wrT_pos t (-1048576) (-1048576) 2097152
 obtain ⟨L, hLL⟩ : ∃ L, wrT t (-1048576) (-1048576) 2097152 = L := ⟨_, rfl⟩
 rw [hLL] at hL RL hpos ⊢
 clear hLL hT hT1
 go_enter Try.func40, Try.ntmps40
 go_upto_region 1 with fail
 generalize w.alloc (.cells #[.int .i64 0, .int .i64 0, .slice none 0 0, .slice none 0 0] 34) = W at *
 have q3 := Bq.c 3 rfl
 go_wp2_with fail
 refine RL.mono ?_
 rintro e w1 ⟨v, I, rfl, hO, hI, hB⟩
 have hzl := BZ.lt
 have hIW : Hid (IsP ok w L I) := hI.keep (fun b hb _ => (H1.block b hb.2).symm) (fun b hb _ => hb.1)
 replace BZ := BZ.step hB
 replace H1 := H1.trans (hB.mono H1.size)
 obtain ⟨N, hN⟩ : ∃ N, L.length = N := ⟨_, rfl⟩
 have HN : Hid (L.length = N) := hN
 rw [hN] at hO hL hpos
 obtain ⟨h, hc, rfl, hh1, hh2, _, _⟩ := ownQ_form hO hpos
 have hnI : (N : Int) ≤ 1048576 := by omega
 clear hB RL q3 Bq hI hN
 have z0 := BZ.c 0 rfl; have z1 := BZ.c 1 rfl; have z2 := BZ.c 2 rfl; have z3 := BZ.c 3 rfl; have y0 := BZ.f 0 rfl; have y1 := BZ.f 1 rfl; have y2 := BZ.f 2 rfl; have y3 := BZ.f 3 rfl; have zl := BZ.lt
 by_cases h2 : 2000 < N
 · have h2I : (2000 : Int) < (N : Int) := by omega
   have BF := set4_blk BZ (.int .i64 0) (.int .i64 0) (.slice none 0 0) (.slice none 0 0)
   have HF := set4_below H1 (Nat.le_refl _) (.int .i64 0) (.int .i64 0) (.slice none 0 0) (.slice none 0 0)
   clear BZ H1 hO HKq hIW
   go_wp2
   have r0 := BF.out.c 0 rfl; have r1 := BF.out.c 1 rfl; have r2 := BF.out.c 2 rfl; have r3 := BF.out.c 3 rfl
   refine bodyPost_ret (v := .tuple #[.agg #[.int .i64 0, .int .i64 0, .slice none 0 0, .slice none 0 0], .bool false]) (by simp [results, Try.results40, go_sem, r0, r1, r2, r3]) rfl ?_
   exact ⟨HF, .inl ⟨by rw [HN.out]; exact h2, rfl⟩⟩
 · have h2I : (N : Int) ≤ 2000 := by omega
   go_upto_region 4 with fail
   go_region_held3 (fun w' : World => w'.cell? ⟨gq, 0, none⟩ = some (.int .i64 m) ∧ w'.cell? ⟨gq, 1, none⟩ = some (.int .i64 d) ∧ w'.cell? ⟨gq, 2, none⟩ = some (.slice io n ic)) (refine HKq _ ?_ <;> repeat (first | (with_reducible exact H1) | (with_reducible refine Below.drew ?_) | (with_reducible refine Below.setCell ?_ (by first | exact Nat.le_refl _ | simp) _))) (fail)
   all_goals have RN : Blk ((((w1.setCell ⟨w.heap.size, 0, none⟩ (.int .i64 m)).setCell ⟨w.heap.size, 1, none⟩ (.int .i64 d)).setCell ⟨w.heap.size, 2, none⟩ (.slice io n ic)).setCell ⟨w.heap.size, 3, none⟩ (.slice (some ⟨h, 0, none⟩) N hc)).drew w.heap.size [.int .i64 m, .int .i64 d, .slice io n ic, .slice (some ⟨h, 0, none⟩) N hc] := ((((BZ.setI 0 (by simp) _).setI 1 (by simp) _).setI 2 (by simp) _).setI 3 (by simp) _).drew
   all_goals have HNN : Below w.heap.size w ((((w1.setCell ⟨w.heap.size, 0, none⟩ (.int .i64 m)).setCell ⟨w.heap.size, 1, none⟩ (.int .i64 d)).setCell ⟨w.heap.size, 2, none⟩ (.slice io n ic)).setCell ⟨w.heap.size, 3, none⟩ (.slice (some ⟨h, 0, none⟩) N hc)).drew := ((((H1.setCell (p := ⟨w.heap.size, 0, none⟩) (Nat.le_refl _) _).setCell (p := ⟨w.heap.size, 1, none⟩) (Nat.le_refl _) _).setCell (p := ⟨w.heap.size, 2, none⟩) (Nat.le_refl _) _).setCell (p := ⟨w.heap.size, 3, none⟩) (Nat.le_refl _) _).drew
   all_goals have HON : Hid (((((w1.setCell ⟨w.heap.size, 0, none⟩ (.int .i64 m)).setCell ⟨w.heap.size, 1, none⟩ (.int .i64 d)).setCell ⟨w.heap.size, 2, none⟩ (.slice io n ic)).setCell ⟨w.heap.size, 3, none⟩ (.slice (some ⟨h, 0, none⟩) N hc)).drew.ownsRow w.heap.size 55 5 (.slice (some ⟨h, 0, none⟩) N hc) L.length (wbCs L I)) := by rw [HN.out]; exact own_set4 hO hzl
   all_goals clear BZ hO H1 HKq z0 z1 z2 z3 y0 y1 y2 y3 zl
   all_goals have r0 := RN.c 0 rfl; have r1 := RN.c 1 rfl; have r2 := RN.c 2 rfl; have r3 := RN.c 3 rfl
   all_goals go_wp2
   all_goals refine bodyPost_ret (v := .tuple #[.agg #[.int .i64 m, .int .i64 d, .slice io n ic, .slice (some ⟨h, 0, none⟩) N hc], .bool true]) (by simp [results, Try.results40, go_sem, r0, r1, r2, r3]) rfl ?_
   all_goals exact ⟨HNN, .inr ⟨by rw [HN.out]; omega, _, I, rfl, HON.out, hIW.out⟩⟩
theorem place_ex {Q : QD} (hr : riseI Q) (id : Int) : ∀ n, n ≤ Q.m → ∃ j, j ≤ n ∧ (∀ i, i < j → Q.I i < id) ∧ ∀ i, j ≤ i → i < n → id ≤ Q.I i
 | 0, _ => ⟨0, Nat.le_refl _, fun i hi => absurd hi (by omega), fun i _ hi => absurd hi (by omega)⟩
 | n + 1, hn => by
   obtain ⟨j, h1, h2, h3⟩ := place_ex hr id n (by omega)
   by_cases hj : j < n
   · refine ⟨j, by omega, h2, fun i hi hi2 => ?_⟩
     rcases Nat.lt_or_ge i n with h | h
     · exact h3 i hi h
     · have h4 := h3 j (Nat.le_refl _) hj
       have h5 := rise_lt hr (i - j - 1) j (by omega)
       rw [show j + (i - j - 1) + 1 = i by omega] at h5
       omega
   · obtain rfl : j = n := by omega
     by_cases hid : Q.I j < id
     · exact ⟨j + 1, by omega, fun i hi => by
         rcases Nat.lt_or_ge i j with h | h
         · exact h2 i h
         · rw [show i = j by omega]; exact hid, fun i hi hi2 => absurd hi (by omega)⟩
     · exact ⟨j, by omega, h2, fun i hi hi2 => by rw [show i = j by omega]; omega⟩
set_option maxRecDepth 100000 in
set_option maxHeartbeats 4000000 in
theorem place_any (Q : QD) (gq ic : Nat) (io : Option Addr) (m d id : Int) (pv : Value) (j : Nat) (th : Bool) (hn : Q.m ≤ 1048576) (hj : j ≤ Q.m) (hlo : ∀ i, i < j → Q.I i < id) (hhi : ∀ i, j ≤ i → i < Q.m → id ≤ Q.I i) (hth : th = true ↔ (j < Q.m ∧ Q.I j = id)) (w : World) (BQ : Blk w gq [.int .i64 m, .int .i64 d, .slice io Q.m ic, pv]) (hS : ItIn Q w io (List.range Q.m)) : Calls Try.prog 37 #[.pointer (some ⟨gq, 0, none⟩), .int .i64 id] w (VP (.tuple #[.int .i64 (j : Int), .bool th]) w) := by
 have C := bsfItem_any Q io Q.m ic id j th hn hj hlo hhi hth w hS
 have q2 := BQ.c 2 rfl
 clear hlo hhi hth hS BQ
 go_enter Try.func37, Try.ntmps37
 go_wp2_with fail
 refine C.mono ?_
 rintro r w1 ⟨rfl, hB⟩
 clear C q2
 go_wp2
 refine bodyPost_ret (v := .tuple #[.int .i64 (j : Int), .bool th]) (by simp [results, Try.results37, go_sem]) rfl ?_
 exact ⟨rfl, hB⟩
theorem insA_any (base n j vb ic : Nat) (io : Option Addr) (xs vs : List Value) (w : World) (hj : j ≤ n) (hn : n ≤ 1048576) (hb : base ≤ w.heap.size) (hO : w.ownsRow base 59 5 (.slice io n ic) n xs) (hv : w.heap[vb]? = some (.cells vs.toArray 59 (0, 0))) (hvl : vs.length = 5) (hvb : ∀ b, (Value.slice io n ic).ownBlock = some b → vb ≠ b) (h1v : ∀ v ∈ vs, v.oneCell' = true) (h1x : ∀ v ∈ xs, v.oneCell' = true) : Calls Try.prog 38 #[.slice io n ic, .int .i64 (j : Int), .slice (some ⟨vb, 0, none⟩) 1 1] w (InsP base 59 5 (.slice io n ic) n j xs vs w) := by
 rcases Nat.lt_or_ge j n with h | h
 · obtain ⟨g, c, e, _⟩ := ownQ_form hO (by omega)
   cases e
   exact insIt_any base g n ic j vb xs vs w h hn hO hv hvl (hvb g rfl) h1v h1x
 · obtain rfl : j = n := by omega
   exact insEIt_any base j vb _ xs vs w hn hb hO hv hvl h1v
theorem implSegQ_any (a b c d : Int) (w : World) : Calls Try.prog 36 #[Sg a b c d] w (VP (.bool (segOk a b c d)) w) := (implSegOk_any a b c d _ rfl w).mono fun _ _ h => h
theorem itCs_take {Q : QD} {j : Nat} : ∀ n, (itCs Q (List.range (j + n))).take (j * 5) = itCs Q (List.range j)
 | 0 => List.take_of_length_le (by rw [itCs_len, List.length_range]; omega)
 | n + 1 => by
   rw [← Nat.add_assoc, itCs_more, List.take_append_of_le_length (by rw [itCs_len, List.length_range]; omega)]
   exact itCs_take n
theorem itCs_insN {Q : QD} {id : Int} {sg : Int × Int × Int × Int} {j : Nat} : ∀ n, itCs (insQ Q j id sg) (List.range (j + n + 1)) = itCs Q (List.range j) ++ [.int .i64 id, .int .i64 sg.1, .int .i64 sg.2.1, .int .i64 sg.2.2.1, .int .i64 sg.2.2.2] ++ (itCs Q (List.range (j + n))).drop (j * 5)
 | 0 => by
   rw [Nat.add_zero, itCs_put, List.drop_of_length_le (by rw [itCs_len, List.length_range]; omega), List.append_nil]
 | n + 1 => by
   rw [← Nat.add_assoc, itCs_gt (show j ≤ j + n by omega), itCs_insN n, itCs_more Q (j + n), List.drop_append_of_le_length (by rw [itCs_len, List.length_range]; omega)]
   simp only [List.append_assoc]
theorem itCs_insert {Q : QD} {id : Int} {sg : Int × Int × Int × Int} {j : Nat} (hj : j ≤ Q.m) : (itCs Q (List.range Q.m)).take (j * 5) ++ [.int .i64 id, .int .i64 sg.1, .int .i64 sg.2.1, .int .i64 sg.2.2.1, .int .i64 sg.2.2.2] ++ (itCs Q (List.range Q.m)).drop (j * 5) = itCs (insQ Q j id sg) (List.range (Q.m + 1)) := by
 have h1 := itCs_take (Q := Q) (j := j) (Q.m - j)
 have h2 := itCs_insN (Q := Q) (id := id) (sg := sg) (j := j) (Q.m - j)
 rw [show j + (Q.m - j) = Q.m by omega] at h1 h2
 rw [h1, h2]
structure MidP (Q : QD) (j : Nat) (m d id a bb cc dd : Int) (w : World) (base gq gr : Nat) (okx : Nat → Prop) (ao7 : Option Addr) (cap7 : Nat) (wx : World) : Prop where
 below : Below w.heap.size w wx
 seg : Blk wx (w.heap.size + 1) [.int .i64 a, .int .i64 bb, .int .i64 cc, .int .i64 dd]
 res : Blk wx (w.heap.size + 2) [.int .i64 0, .int .i64 0, .slice none 0 0, .slice none 0 0]
 quad : Blk wx gq [.int .i64 m, .int .i64 d, .slice ao7 (Q.m + 1) cap7, .pointer (some ⟨gr, 0, none⟩)]
 tree : STr okx wx (trQ Q d.toNat 0 (-1048576) (-1048576) 2097152) (-1048576) (-1048576) 2097152 0 gr
 oks : ∀ b, okx b → base ≤ b ∧ b < wx.heap.size ∧ b ≠ gq ∧ (Value.slice ao7 (Q.m + 1) cap7).ownBlock ≠ some b
 items : wx.ownsRow base 59 5 (.slice ao7 (Q.m + 1) cap7) (Q.m + 1) (itCs (insQ Q j id (a, bb, cc, dd)) (List.range (Q.m + 1)))
 gqi : (Value.slice ao7 (Q.m + 1) cap7).ownBlock ≠ some gq
 size : base ≤ wx.heap.size
theorem mid_of {Q : QD} {j : Nat} {m d id a bb cc dd : Int} {w wA w7 : World} {base s5 gq gr ic cap7 : Nat} {io ao7 : Option Addr} (hj : j ≤ Q.m) (hb0 : w.heap.size + 2 < base) (hbq : base ≤ gq) (hgq5 : gq < s5) (hs5 : s5 < wA.heap.size) (HBQ : Blk wA gq [.int .i64 m, .int .i64 d, .slice io Q.m ic, .pointer (some ⟨gr, 0, none⟩)]) (HB1 : Blk wA (w.heap.size + 1) [.int .i64 a, .int .i64 bb, .int .i64 cc, .int .i64 dd]) (HB2 : Blk wA (w.heap.size + 2) [.int .i64 0, .int .i64 0, .slice none 0 0, .slice none 0 0]) (HB : Below w.heap.size w wA) (hST : STr (fun b => (base ≤ b ∧ b < s5) ∧ b ≠ gq ∧ ∀ c, (Value.slice io Q.m ic).ownBlock = some c → b ≠ c) wA (trQ Q d.toNat 0 (-1048576) (-1048576) 2097152) (-1048576) (-1048576) 2097152 0 gr) (hIl : ∀ c, (Value.slice io Q.m ic).ownBlock = some c → base ≤ c ∧ c < s5) (hneq : ∀ c, (Value.slice io Q.m ic).ownBlock = some c → c ≠ gq) (hO7 : w7.ownsRow base 59 5 (.slice ao7 (Q.m + 1) cap7) (Q.m + 1) ((itCs Q (List.range Q.m)).take (j * 5) ++ [.int .i64 id, .int .i64 a, .int .i64 bb, .int .i64 cc, .int .i64 dd] ++ (itCs Q (List.range Q.m)).drop (j * 5))) (hG7 : wA.grownBy w7 (Value.slice io Q.m ic).ownBlock) (hob7 : (Value.slice ao7 (Q.m + 1) cap7).ownBlock = (Value.slice io Q.m ic).ownBlock ∨ (Value.slice ao7 (Q.m + 1) cap7).ownBlock = some wA.heap.size) : ∃ okx, MidP Q j m d id a bb cc dd w base gq gr okx ao7 cap7 (w7.setCell ⟨gq, 2, none⟩ (.slice ao7 (Q.m + 1) cap7)) := by
 have hG7s := hG7.size
 have hsz : (w7.setCell ⟨gq, 2, none⟩ (.slice ao7 (Q.m + 1) cap7)).heap.size = w7.heap.size := by simp [World.setCell]
 have hne : ∀ b, b ≠ gq → (w7.setCell ⟨gq, 2, none⟩ (.slice ao7 (Q.m + 1) cap7)).heap[b]? = w7.heap[b]? := fun b hb => Below.heap_setCell _ _ _ _ hb
 have hv7 : ∀ c, (Value.slice ao7 (Q.m + 1) cap7).ownBlock = some c → c ≠ gq ∧ ((Value.slice io Q.m ic).ownBlock = some c ∨ s5 ≤ c) := fun c e => by
   rcases hob7 with h | h
   · rw [h] at e; exact ⟨hneq c e, .inl e⟩
   · rw [h] at e; have := Option.some.inj e; exact ⟨by omega, .inr (by omega)⟩
 have BQ7 := HBQ.grown hG7 (fun e => hneq gq e.symm rfl)
 refine ⟨fun b => (base ≤ b ∧ b < s5) ∧ b ≠ gq ∧ ∀ c, (Value.slice io Q.m ic).ownBlock = some c → b ≠ c, ?_, ?_, ?_, BQ7.setI 2 (by simp) _, ?_, fun b hb => ?_, ?_, fun e => (hv7 gq e).1 rfl, by omega⟩
 · exact (HB.grown hG7 HB.size (fun c e => by have := (hIl c e).1; omega)).setCell (p := ⟨gq, 2, none⟩) (by show w.heap.size ≤ gq; omega) _
 · exact (HB1.grown hG7 (fun e => by have := (hIl _ e.symm).1; omega)).keep (by omega) (hne _ (by omega))
 · exact (HB2.grown hG7 (fun e => by have := (hIl _ e.symm).1; omega)).keep (by omega) (hne _ (by omega))
 · exact STr.keep (by omega) (fun b hb _ => (hne b hb.2.1).trans (hG7.block b (by have := hb.1.2; omega) (fun e => hb.2.2 b e.symm rfl))) (fun _ h _ => h) hST
 · refine ⟨hb.1.1, by have := hb.1.2; omega, hb.2.1, fun e => ?_⟩
   rcases (hv7 b e).2 with h | h
   · exact hb.2.2 b h rfl
   · have := hb.1.2; omega
 · rw [← itCs_insert hj]
   exact ownQ_heap hO7 (fun k hk => hne k (hv7 k hk).1)
def PutG (Q : QD) (m d id a bb cc dd : Int) (w : World) (r : Ending) (w' : World) : Prop :=
 Below w.heap.size w w' ∧ ((putB Q m d id (a, bb, cc, dd) = false ∧ r = .returned (.tuple #[.agg #[.int .i64 0, .int .i64 0, .slice none 0 0, .slice none 0 0], .bool false])) ∨ (putB Q m d id (a, bb, cc, dd) = true ∧ ∃ j, plcJ Q id j ∧ ((2000 < (putL Q m d id (a, bb, cc, dd) j).length ∧ r = .returned (.tuple #[.agg #[.int .i64 0, .int .i64 0, .slice none 0 0, .slice none 0 0], .bool false])) ∨ ((putL Q m d id (a, bb, cc, dd) j).length ≤ 2000 ∧ ∃ v u I, r = .returned (.tuple #[.agg #[.int .i64 m, .int .i64 d, v, u], .bool true]) ∧ w'.ownsRow w.heap.size 59 5 v (Q.m + 1) (itCs (insQ Q j id (a, bb, cc, dd)) (List.range (Q.m + 1))) ∧ w'.ownsRow w.heap.size 55 5 u (putL Q m d id (a, bb, cc, dd) j).length (wbCs (putL Q m d id (a, bb, cc, dd) j) I) ∧ IsP (fun b => w.heap.size ≤ b ∧ v.ownBlock ≠ some b ∧ u.ownBlock ≠ some b) w' (putL Q m d id (a, bb, cc, dd) j) I ∧ ∀ b, v.ownBlock = some b → u.ownBlock ≠ some b))))
set_option maxRecDepth 100000 in
set_option maxHeartbeats 16000000 in
theorem implQuadPut_any (w : World) (Q : QD) (ao bo : Option Addr) (cap bcap A off : Nat) (so : Nat → Option Addr × Nat) (m d : Int) (hm : Q.m ≤ 1048576) (hN : Q.N ≤ 1048576) (hcap : Q.N ≤ bcap) (hL : ∀ i, i < Q.N → Q.L i ≤ 1048576) (hbo : 0 < Q.N → bo = some ⟨A, off, none⟩) (hao : ∀ A o sp, ao = some ⟨A, o, sp⟩ → A < w.heap.size) (hS : ItIn Q w ao (List.range Q.m)) (hBl : BlIn Q w A off so) (id a bb cc dd : Int) : Calls Try.prog 11 #[.agg #[.int .i64 m, .int .i64 d, .slice ao Q.m cap, .slice bo Q.N bcap], .int .i64 id, Sg a bb cc dd] w (PutG Q m d id a bb cc dd w) := by
 have B0 : Blk (((w.alloc (.cells #[.int .i64 m, .int .i64 d, .slice ao Q.m cap, .slice bo Q.N bcap] 34)).alloc (.cells #[.int .i64 a, .int .i64 bb, .int .i64 cc, .int .i64 dd] 40)).alloc (.cells #[.int .i64 0, .int .i64 0, .slice none 0 0, .slice none 0 0] 34)) w.heap.size [.int .i64 m, .int .i64 d, .slice ao Q.m cap, .slice bo Q.N bcap] := ((Blk.new w [.int .i64 m, .int .i64 d, .slice ao Q.m cap, .slice bo Q.N bcap] 34 rfl).alloc _).alloc _
 have B1 : Blk (((w.alloc (.cells #[.int .i64 m, .int .i64 d, .slice ao Q.m cap, .slice bo Q.N bcap] 34)).alloc (.cells #[.int .i64 a, .int .i64 bb, .int .i64 cc, .int .i64 dd] 40)).alloc (.cells #[.int .i64 0, .int .i64 0, .slice none 0 0, .slice none 0 0] 34)) (w.heap.size + 1) [.int .i64 a, .int .i64 bb, .int .i64 cc, .int .i64 dd] := (Blk.new (w.alloc (.cells #[.int .i64 m, .int .i64 d, .slice ao Q.m cap, .slice bo Q.N bcap] 34)) [.int .i64 a, .int .i64 bb, .int .i64 cc, .int .i64 dd] 40 (by simp)).alloc _
 have B2 : Blk (((w.alloc (.cells #[.int .i64 m, .int .i64 d, .slice ao Q.m cap, .slice bo Q.N bcap] 34)).alloc (.cells #[.int .i64 a, .int .i64 bb, .int .i64 cc, .int .i64 dd] 40)).alloc (.cells #[.int .i64 0, .int .i64 0, .slice none 0 0, .slice none 0 0] 34)) (w.heap.size + 2) [.int .i64 0, .int .i64 0, .slice none 0 0, .slice none 0 0] := Blk.new ((w.alloc (.cells #[.int .i64 m, .int .i64 d, .slice ao Q.m cap, .slice bo Q.N bcap] 34)).alloc (.cells #[.int .i64 a, .int .i64 bb, .int .i64 cc, .int .i64 dd] 40)) [.int .i64 0, .int .i64 0, .slice none 0 0, .slice none 0 0] 34 (by simp)
 have HB : Below w.heap.size w (((w.alloc (.cells #[.int .i64 m, .int .i64 d, .slice ao Q.m cap, .slice bo Q.N bcap] 34)).alloc (.cells #[.int .i64 a, .int .i64 bb, .int .i64 cc, .int .i64 dd] 40)).alloc (.cells #[.int .i64 0, .int .i64 0, .slice none 0 0, .slice none 0 0] 34)) := (((Below.refl _ w).alloc (Nat.le_refl _) _).alloc (by simp) _).alloc (by simp; omega) _
 have C := quadOf_any (((w.alloc (.cells #[.int .i64 m, .int .i64 d, .slice ao Q.m cap, .slice bo Q.N bcap] 34)).alloc (.cells #[.int .i64 a, .int .i64 bb, .int .i64 cc, .int .i64 dd] 40)).alloc (.cells #[.int .i64 0, .int .i64 0, .slice none 0 0, .slice none 0 0] 34)) Q ao bo cap bcap A off so m d hm hN hcap hL hbo (fun A o sp e => Nat.lt_of_lt_of_le (hao A o sp e) HB.size) (hS.step HB) (hBl.below HB)
 have hmI : (Q.m : Int) ≤ 1048576 := by omega
 clear hS hBl hao
 go_enter Try.func11, Try.ntmps11
 go_upto_region 1 with fail
 generalize (((w.alloc (.cells #[.int .i64 m, .int .i64 d, .slice ao Q.m cap, .slice bo Q.N bcap] 34)).alloc (.cells #[.int .i64 a, .int .i64 bb, .int .i64 cc, .int .i64 dd] 40)).alloc (.cells #[.int .i64 0, .int .i64 0, .slice none 0 0, .slice none 0 0] 34)) = W1 at *
 have c0 := B0.c 0 rfl; have c1 := B0.c 1 rfl; have c2 := B0.c 2 rfl; have c3 := B0.c 3 rfl
 go_wp2_with fail
 refine C.mono ?_
 rintro r w1 ⟨pv, rfl, hB1, hQT⟩
 have hP2 : w.heap.size + 2 < W1.heap.size := B2.lt
 have hW1 := hB1.size
 replace B0 := B0.step hB1
 replace B1 := B1.step hB1
 replace B2 := B2.step hB1
 replace HB := HB.trans (hB1.mono HB.size)
 clear C c0 c1 c2 c3 hB1
 cases hq : qOk Q m d with
 | false =>
   have HP : Hid (putB Q m d id (a, bb, cc, dd) = false) := by show _ = _; unfold putB; rw [hq]; rfl
   clear hq hQT
   have y0 := B2.f 0 rfl; have y1 := B2.f 1 rfl; have y2 := B2.f 2 rfl; have y3 := B2.f 3 rfl; have z0 := B2.c 0 rfl; have z1 := B2.c 1 rfl; have z2 := B2.c 2 rfl; have z3 := B2.c 3 rfl
   have BF := set4_blk B2 (.int .i64 0) (.int .i64 0) (.slice none 0 0) (.slice none 0 0)
   have HF := set4_below HB (show w.heap.size ≤ w.heap.size + 2 by omega) (.int .i64 0) (.int .i64 0) (.slice none 0 0) (.slice none 0 0)
   go_wp2
   have r0 := BF.out.c 0 rfl; have r1 := BF.out.c 1 rfl; have r2 := BF.out.c 2 rfl; have r3 := BF.out.c 3 rfl
   refine bodyPost_ret (v := .tuple #[.agg #[.int .i64 0, .int .i64 0, .slice none 0 0, .slice none 0 0], .bool false]) (by simp [results, Try.results11, go_sem, r0, r1, r2, r3]) rfl ?_
   exact ⟨HF, .inl ⟨HP.out, rfl⟩⟩
 | true =>
   obtain ⟨gq, io, ic, gr, rfl, BQ, hIt, hbq, hST, hOI, hneq⟩ := hQT hq
   have HQ : Hid (qOk Q m d = true) := hq
   obtain ⟨⟨hm1, hm8⟩, ⟨hd0, hd8⟩, hits, _⟩ := qOk_all hq
   have h6 := its6_of hits
   have hri := rise_of hits
   have h40 : Q.m ≤ 40 := (of_decide_eq_true hits).1
   clear hq hits hQT
   go_wp2_with fail
   refine (isItem_any id _).mono ?_
   rintro r w3 ⟨rfl, hB3⟩
   replace B0 := B0.step hB3
   replace B1 := B1.step hB3
   replace B2 := B2.step hB3
   replace HB := HB.trans (hB3.mono HB.size)
   replace BQ := BQ.step hB3
   replace hIt := hIt.step hB3
   replace hST := hST.step hB3
   replace hOI := ownA_step hOI hB3
   have hw3 := hB3.size
   clear hB3
   by_cases hid : 1 ≤ id ∧ id ≤ 1000
   rotate_left
   · rw [decide_eq_false hid]
     have HP : Hid (putB Q m d id (a, bb, cc, dd) = false) := by show _ = _; unfold putB; rw [decide_eq_false (fun h => hid h.1), Bool.and_false]
     clear hid
     have y0 := B2.f 0 rfl; have y1 := B2.f 1 rfl; have y2 := B2.f 2 rfl; have y3 := B2.f 3 rfl; have z0 := B2.c 0 rfl; have z1 := B2.c 1 rfl; have z2 := B2.c 2 rfl; have z3 := B2.c 3 rfl
     have BF := set4_blk B2 (.int .i64 0) (.int .i64 0) (.slice none 0 0) (.slice none 0 0)
     have HF := set4_below HB (show w.heap.size ≤ w.heap.size + 2 by omega) (.int .i64 0) (.int .i64 0) (.slice none 0 0) (.slice none 0 0)
     go_wp2
     have r0 := BF.out.c 0 rfl; have r1 := BF.out.c 1 rfl; have r2 := BF.out.c 2 rfl; have r3 := BF.out.c 3 rfl
     refine bodyPost_ret (v := .tuple #[.agg #[.int .i64 0, .int .i64 0, .slice none 0 0, .slice none 0 0], .bool false]) (by simp [results, Try.results11, go_sem, r0, r1, r2, r3]) rfl ?_
     exact ⟨HF, .inl ⟨HP.out, rfl⟩⟩
   rw [decide_eq_true hid]
   have n0 := B1.c 0 rfl; have n1 := B1.c 1 rfl; have n2 := B1.c 2 rfl; have n3 := B1.c 3 rfl
   go_wp2_with fail
   refine (implSegQ_any a bb cc dd w3).mono ?_
   rintro r w4 ⟨rfl, hB4⟩
   clear n0 n1 n2 n3
   replace B0 := B0.step hB4
   replace B1 := B1.step hB4
   replace B2 := B2.step hB4
   replace HB := HB.trans (hB4.mono HB.size)
   replace BQ := BQ.step hB4
   replace hIt := hIt.step hB4
   replace hST := hST.step hB4
   replace hOI := ownA_step hOI hB4
   have hw4 := hB4.size
   clear hB4
   cases hsg : segOk a bb cc dd with
   | false =>
     have HP : Hid (putB Q m d id (a, bb, cc, dd) = false) := by show _ = _; unfold putB; rw [decide_eq_false (fun h => by have := h.2.1; simp only at this; rw [hsg] at this; cases this), Bool.and_false]
     clear hsg hid
     have y0 := B2.f 0 rfl; have y1 := B2.f 1 rfl; have y2 := B2.f 2 rfl; have y3 := B2.f 3 rfl; have z0 := B2.c 0 rfl; have z1 := B2.c 1 rfl; have z2 := B2.c 2 rfl; have z3 := B2.c 3 rfl
     have BF := set4_blk B2 (.int .i64 0) (.int .i64 0) (.slice none 0 0) (.slice none 0 0)
     have HF := set4_below HB (show w.heap.size ≤ w.heap.size + 2 by omega) (.int .i64 0) (.int .i64 0) (.slice none 0 0) (.slice none 0 0)
     go_wp2
     have r0 := BF.out.c 0 rfl; have r1 := BF.out.c 1 rfl; have r2 := BF.out.c 2 rfl; have r3 := BF.out.c 3 rfl
     refine bodyPost_ret (v := .tuple #[.agg #[.int .i64 0, .int .i64 0, .slice none 0 0, .slice none 0 0], .bool false]) (by simp [results, Try.results11, go_sem, r0, r1, r2, r3]) rfl ?_
     exact ⟨HF, .inl ⟨HP.out, rfl⟩⟩
   | true =>
     have HSG : Hid (segOk a bb cc dd = true) := hsg
     have HID : Hid (1 ≤ id ∧ id ≤ 1000) := hid
     clear hsg hid
     have q2 := BQ.c 2 rfl
     by_cases hm40 : Q.m = 40
     · have HP : Hid (putB Q m d id (a, bb, cc, dd) = false) := by show _ = _; unfold putB; rw [decide_eq_false (fun h => by have := h.2.2.1; omega), Bool.and_false]
       have hmI4 : (Q.m : Int) = 40 := by omega
       have hmB : ((Q.m : Int) == 40) = true := by simpa using hmI4
       clear hm40
       have y0 := B2.f 0 rfl; have y1 := B2.f 1 rfl; have y2 := B2.f 2 rfl; have y3 := B2.f 3 rfl; have z0 := B2.c 0 rfl; have z1 := B2.c 1 rfl; have z2 := B2.c 2 rfl; have z3 := B2.c 3 rfl
       have BF := set4_blk B2 (.int .i64 0) (.int .i64 0) (.slice none 0 0) (.slice none 0 0)
       have HF := set4_below HB (show w.heap.size ≤ w.heap.size + 2 by omega) (.int .i64 0) (.int .i64 0) (.slice none 0 0) (.slice none 0 0)
       clear hmI4
       go_wp2
       have r0 := BF.out.c 0 rfl; have r1 := BF.out.c 1 rfl; have r2 := BF.out.c 2 rfl; have r3 := BF.out.c 3 rfl
       refine bodyPost_ret (v := .tuple #[.agg #[.int .i64 0, .int .i64 0, .slice none 0 0, .slice none 0 0], .bool false]) (by simp [results, Try.results11, go_sem, r0, r1, r2, r3]) rfl ?_
       exact ⟨HF, .inl ⟨HP.out, rfl⟩⟩
     have hmB : ((Q.m : Int) == 40) = false := by simp; omega
     obtain ⟨j, hj, hlo, hhi⟩ := place_ex hri id Q.m (Nat.le_refl _)
     have HLO : Hid (∀ i, i < j → Q.I i < id) := hlo
     have HHI : Hid (∀ i, j ≤ i → i < Q.m → id ≤ Q.I i) := hhi
     obtain ⟨th, hth⟩ : ∃ th, decide (j < Q.m ∧ Q.I j = id) = th := ⟨_, rfl⟩
     have HTH : Hid (decide (j < Q.m ∧ Q.I j = id) = th) := hth
     have CP := place_any Q gq ic io m d id (.pointer (some ⟨gr, 0, none⟩)) j th hm hj hlo hhi (by rw [← hth]; simp) w4 BQ hIt
     clear hlo hhi hth
     go_wp2_with fail
     refine CP.mono ?_
     rintro r w5 ⟨rfl, hB5⟩
     clear CP q2 hmB
     replace B0 := B0.step hB5
     replace B1 := B1.step hB5
     replace B2 := B2.step hB5
     replace HB := HB.trans (hB5.mono HB.size)
     replace BQ := BQ.step hB5
     replace hIt := hIt.step hB5
     replace hST := hST.step hB5
     replace hOI := ownA_step hOI hB5
     have hw5 := hB5.size
     clear hB5
     cases th with
     | true =>
       have HP : Hid (putB Q m d id (a, bb, cc, dd) = false) := by
         show _ = _
         obtain ⟨h1, h2⟩ := of_decide_eq_true HTH.out
         unfold putB
         rw [decide_eq_false (fun h => h.2.2.2 j h1 h2), Bool.and_false]
       have y0 := B2.f 0 rfl; have y1 := B2.f 1 rfl; have y2 := B2.f 2 rfl; have y3 := B2.f 3 rfl; have z0 := B2.c 0 rfl; have z1 := B2.c 1 rfl; have z2 := B2.c 2 rfl; have z3 := B2.c 3 rfl
       have BF := set4_blk B2 (.int .i64 0) (.int .i64 0) (.slice none 0 0) (.slice none 0 0)
       have HF := set4_below HB (show w.heap.size ≤ w.heap.size + 2 by omega) (.int .i64 0) (.int .i64 0) (.slice none 0 0) (.slice none 0 0)
       go_wp2
       have r0 := BF.out.c 0 rfl; have r1 := BF.out.c 1 rfl; have r2 := BF.out.c 2 rfl; have r3 := BF.out.c 3 rfl
       refine bodyPost_ret (v := .tuple #[.agg #[.int .i64 0, .int .i64 0, .slice none 0 0, .slice none 0 0], .bool false]) (by simp [results, Try.results11, go_sem, r0, r1, r2, r3]) rfl ?_
       exact ⟨HF, .inl ⟨HP.out, rfl⟩⟩
     | false =>
       have HPL : Hid (plcJ Q id j) := ⟨hj, HLO.out, fun i h1 h2 => by
         have h3 := HHI.out i h1 h2
         have h4 : ¬ (j < Q.m ∧ Q.I j = id) := of_decide_eq_false HTH.out
         rcases Nat.lt_or_ge j i with h5 | h5
         · have h6 := rise_lt hri (i - j - 1) j (by omega)
           rw [show j + (i - j - 1) + 1 = i by omega] at h6
           have h7 := HHI.out j (Nat.le_refl _) (by omega)
           omega
         · obtain rfl : i = j := by omega
           have h8 : ¬ (Q.I i = id) := fun e => h4 ⟨h2, e⟩
           omega⟩
       have HP : Hid (putB Q m d id (a, bb, cc, dd) = true) := by
         show _ = _
         unfold putB
         rw [HQ.out, Bool.true_and]
         refine decide_eq_true ⟨HID.out, HSG.out, by omega, fun i hi e => ?_⟩
         rcases Nat.lt_or_ge i j with h | h
         · have := HLO.out i h; omega
         · have := HPL.out.2.2 i h hi; omega
       clear HTH HHI HLO
       go_upto_region 7 with fail
       go_cut [] (fun wx => ∃ ao7 cap7 okx, MidP Q j m d id a bb cc dd w W1.heap.size gq gr okx ao7 cap7 wx)
       case first =>
         have n0 := B1.c 0 rfl; have n1 := B1.c 1 rfl; have n2 := B1.c 2 rfl; have n3 := B1.c 3 rfl; have q2 := BQ.c 2 rfl; have f2 := BQ.f 2 rfl
         have hgq5 : gq < w5.heap.size := BQ.lt
         have hOIl : Hid (∀ c, (Value.slice io Q.m ic).ownBlock = some c → W1.heap.size ≤ c ∧ c < w5.heap.size) := fun c e => World.ownsRow.lt hOI c e
         have hW15 : W1.heap.size ≤ w5.heap.size := by omega
         have hA1 : Below w5.heap.size w5 (w5.alloc (.cells #[.int .i64 id, .int .i64 a, .int .i64 bb, .int .i64 cc, .int .i64 dd] 59)).drew := ((Below.refl _ w5).alloc (Nat.le_refl _) _).drew
         have hA1s : (w5.alloc (.cells #[.int .i64 id, .int .i64 a, .int .i64 bb, .int .i64 cc, .int .i64 dd] 59)).drew.heap.size = w5.heap.size + 1 := by simp
         have HI := insA_any W1.heap.size Q.m j w5.heap.size ic io (itCs Q (List.range Q.m)) [.int .i64 id, .int .i64 a, .int .i64 bb, .int .i64 cc, .int .i64 dd] (w5.alloc (.cells #[.int .i64 id, .int .i64 a, .int .i64 bb, .int .i64 cc, .int .i64 dd] 59)).drew hj hm (by rw [hA1s]; omega) (ownA_step hOI hA1) (heap_alloc_new w5 _) rfl (fun b e => by have := (hOIl.out b e).2; omega) (int5_one _ _ _ _ _) (itCs_one Q _)
         have HA1S : Hid ((w5.alloc (.cells #[.int .i64 id, .int .i64 a, .int .i64 bb, .int .i64 cc, .int .i64 dd] 59)).drew.heap.size = w5.heap.size + 1) := hA1s
         have HAB : Hid (Below w5.heap.size w5 (w5.alloc (.cells #[.int .i64 id, .int .i64 a, .int .i64 bb, .int .i64 cc, .int .i64 dd] 59)).drew) := hA1
         have HSTW : Hid (STr (fun b => (W1.heap.size ≤ b ∧ b < w5.heap.size) ∧ b ≠ gq ∧ ∀ c, (Value.slice io Q.m ic).ownBlock = some c → b ≠ c) (w5.alloc (.cells #[.int .i64 id, .int .i64 a, .int .i64 bb, .int .i64 cc, .int .i64 dd] 59)).drew (trQ Q d.toNat 0 (-1048576) (-1048576) 2097152) (-1048576) (-1048576) 2097152 0 gr) := STr.step hA1 (STr.keep (Nat.le_refl _) (fun _ _ _ => rfl) (fun b hb hl => ⟨⟨hb.1, hl⟩, hb.2⟩) hST)
         have HBQ1 : Hid (Blk (w5.alloc (.cells #[.int .i64 id, .int .i64 a, .int .i64 bb, .int .i64 cc, .int .i64 dd] 59)).drew gq [.int .i64 m, .int .i64 d, .slice io Q.m ic, .pointer (some ⟨gr, 0, none⟩)]) := BQ.step hA1
         have HB11 : Hid (Blk (w5.alloc (.cells #[.int .i64 id, .int .i64 a, .int .i64 bb, .int .i64 cc, .int .i64 dd] 59)).drew (w.heap.size + 1) [.int .i64 a, .int .i64 bb, .int .i64 cc, .int .i64 dd]) := B1.step hA1
         have HB21 : Hid (Blk (w5.alloc (.cells #[.int .i64 id, .int .i64 a, .int .i64 bb, .int .i64 cc, .int .i64 dd] 59)).drew (w.heap.size + 2) [.int .i64 0, .int .i64 0, .slice none 0 0, .slice none 0 0]) := B2.step hA1
         have HBB1 : Hid (Below w.heap.size w (w5.alloc (.cells #[.int .i64 id, .int .i64 a, .int .i64 bb, .int .i64 cc, .int .i64 dd] 59)).drew) := HB.trans (hA1.mono HB.size)
         clear hA1 hA1s hST hOI hIt
         go_region_with ((go_at_call 38; refine HI.mono ?_; rintro r w7 ⟨v7, rfl, hO7, hG7, hob7⟩; obtain ⟨ao7, cap7, rfl⟩ := ownQ_slice hO7; have BQ7 := HBQ1.out.grown hG7 (fun e => hneq gq e.symm rfl); have q27 := BQ7.c 2 rfl; have f27 := BQ7.f 2 rfl; have HREL : Hid (∃ okx, MidP Q j m d id a bb cc dd w W1.heap.size gq gr okx ao7 cap7 (w7.setCell ⟨gq, 2, none⟩ (.slice ao7 (Q.m + 1) cap7))) := mid_of hj hP2 hbq hgq5 (by have := HA1S.out; omega) HBQ1.out HB11.out HB21.out HBB1.out HSTW.out hOIl.out hneq hO7 hG7 hob7))
         all_goals (go_wp2; go_meet; case rel => exact ⟨ao7, cap7, HREL.out⟩)
       case rest =>
         obtain ⟨ao7, cap7, okx, M⟩ := hcut
         rename ∀ (a : Act) (w_1 : World), Code.wp _ (Go.Code.seq _ _) _ _ _ → _ => hk
         refine hk _ _ ?_
         clear hk BQ hIt hST hOI B0 B1 B2 HB
         obtain ⟨HB, B1, B2, BQ, hST, hoks, hIW, hgqi, hWs⟩ := M
         have hsn : nlT (trQ Q d.toNat 0 (-1048576) (-1048576) 2097152) ≤ 1048576 := Nat.le_trans (tr_small HQ.out).2.1 (by omega)
         have hIt : ItIn (insQ Q j id (a, bb, cc, dd)) wc ao7 (List.range (insQ Q j id (a, bb, cc, dd)).m) := by
           obtain ⟨ao9, cap9, e9, hI9⟩ := ItIn.of (Q := insQ Q j id (a, bb, cc, dd)) (l := List.range (Q.m + 1)) (by rw [List.length_range]; exact hIW)
           rw [List.length_range] at e9
           cases e9
           exact hI9
         have CU := quadPut_any (insQ Q j id (a, bb, cc, dd)) j d.toNat m d _ gq gr ao7 cap7 okx wc (Nat.lt_succ_of_le hj) (by omega) hd8 (dp_tr Q _ _ _ _ _) hsn (insQ_its6 h6 (in6_seg HSG.out) hj) (by show Q.m + 1 ≤ 1048576; omega) hST BQ (fun h => (hoks gq h).2.2.1 rfl) hIt (fun A o sp e => ⟨fun h => (hoks A h).2.2.2 (by subst e; rfl), (World.ownsRow.lt hIW A (by subst e; rfl)).2⟩)
         rw [(insQ_at Q j id (a, bb, cc, dd)).2] at CU
         have HOKS : Hid (∀ b, okx b → W1.heap.size ≤ b ∧ b < wc.heap.size ∧ b ≠ gq ∧ (Value.slice ao7 (Q.m + 1) cap7).ownBlock ≠ some b) := hoks
         have HIWL : Hid (∀ c, (Value.slice ao7 (Q.m + 1) cap7).ownBlock = some c → W1.heap.size ≤ c ∧ c < wc.heap.size) := fun c e => World.ownsRow.lt hIW c e
         have n0 := B1.c 0 rfl; have n1 := B1.c 1 rfl; have n2 := B1.c 2 rfl; have n3 := B1.c 3 rfl
         clear hST hIt hoks
         go_wp2_with fail
         refine CU.mono ?_
         rintro r w9 ⟨rfl, ok9, hS9, ho9, hF9⟩
         clear CU n0 n1 n2 n3
         have hB9 : Below W1.heap.size wc w9 := hF9.below hWs (fun b h => (HOKS.out b h.1).1)
         replace HB := HB.trans (hB9.mono (by omega))
         replace B2 := B2.below hB9 (by omega)
         replace BQ := hF9.blk BQ (fun h => (HOKS.out gq h.1).2.2.1 rfl)
         replace hIW := ownQ_heap hIW (fun k hk => hF9.block k (HIWL.out k hk).2 (fun h => (HOKS.out k h.1).2.2.2 hk))
         have hs9 := hF9.size
         have TO := toldS_any _ gq gr (Q.m + 1) cap7 ao7 m d ok9 w9 (Nat.le_trans (putL_le (Q := Q) (m := m) (d := d) (id := id) (sg := (a, bb, cc, dd)) (j := j) hd0 hd8) (by omega)) BQ hS9
         change Calls _ _ _ _ (ToldP m d (.slice ao7 (Q.m + 1) cap7) ok9 (putL Q m d id (a, bb, cc, dd) j) w9) at TO
         clear hB9 hF9 hS9 B1 BQ
         go_wp2_with fail
         refine TO.mono ?_
         rintro r wx ⟨hBx, hTx⟩
         clear TO
         replace HB := HB.trans (hBx.mono HB.size)
         replace hIW := ownA_step hIW hBx
         have hP9 : w.heap.size + 2 < w9.heap.size := B2.lt
         replace B2 := B2.step hBx
         have hsx := hBx.size
         rcases hTx with ⟨h2000, rfl⟩ | ⟨h2000, u, I, rfl, hU, hIs⟩
         · have HF9 : Hid (2000 < (putL Q m d id (a, bb, cc, dd) j).length) := h2000
           clear h2000 hIW hBx
           have y0 := B2.f 0 rfl; have y1 := B2.f 1 rfl; have y2 := B2.f 2 rfl; have y3 := B2.f 3 rfl; have z0 := B2.c 0 rfl; have z1 := B2.c 1 rfl; have z2 := B2.c 2 rfl; have z3 := B2.c 3 rfl
           have BF := set4_blk B2 (.int .i64 0) (.int .i64 0) (.slice none 0 0) (.slice none 0 0)
           have HF := set4_below HB (show w.heap.size ≤ w.heap.size + 2 by omega) (.int .i64 0) (.int .i64 0) (.slice none 0 0) (.slice none 0 0)
           go_wp2
           have r0 := BF.out.c 0 rfl; have r1 := BF.out.c 1 rfl; have r2 := BF.out.c 2 rfl; have r3 := BF.out.c 3 rfl
           refine bodyPost_ret (v := .tuple #[.agg #[.int .i64 0, .int .i64 0, .slice none 0 0, .slice none 0 0], .bool false]) (by simp [results, Try.results11, go_sem, r0, r1, r2, r3]) rfl ?_
           exact ⟨HF, .inr ⟨HP.out, j, HPL.out, .inl ⟨HF9.out, rfl⟩⟩⟩
         · have HF9 : Hid ((putL Q m d id (a, bb, cc, dd) j).length ≤ 2000) := h2000
           obtain ⟨uo, uc, rfl⟩ := ownQ_slice hU
           obtain ⟨un, hun⟩ : ∃ un, (putL Q m d id (a, bb, cc, dd) j).length = un := ⟨_, rfl⟩
           have HUN : Hid ((putL Q m d id (a, bb, cc, dd) j).length = un) := hun
           rw [hun] at hU ⊢
           clear hun h2000
           have HOF : Hid (((((wx.setCell ⟨w.heap.size + 2, 0, none⟩ (.int .i64 m)).setCell ⟨w.heap.size + 2, 1, none⟩ (.int .i64 d)).setCell ⟨w.heap.size + 2, 2, none⟩ (.slice ao7 (Q.m + 1) cap7)).setCell ⟨w.heap.size + 2, 3, none⟩ (.slice uo un uc)).ownsRow w.heap.size 59 5 (.slice ao7 (Q.m + 1) cap7) (Q.m + 1) (itCs (insQ Q j id (a, bb, cc, dd)) (List.range (Q.m + 1))) ∧ ((((wx.setCell ⟨w.heap.size + 2, 0, none⟩ (.int .i64 m)).setCell ⟨w.heap.size + 2, 1, none⟩ (.int .i64 d)).setCell ⟨w.heap.size + 2, 2, none⟩ (.slice ao7 (Q.m + 1) cap7)).setCell ⟨w.heap.size + 2, 3, none⟩ (.slice uo un uc)).ownsRow w.heap.size 55 5 (.slice uo un uc) (putL Q m d id (a, bb, cc, dd) j).length (wbCs (putL Q m d id (a, bb, cc, dd) j) I) ∧ IsP (fun b => w.heap.size ≤ b ∧ (Value.slice ao7 (Q.m + 1) cap7).ownBlock ≠ some b ∧ (Value.slice uo un uc).ownBlock ≠ some b) ((((wx.setCell ⟨w.heap.size + 2, 0, none⟩ (.int .i64 m)).setCell ⟨w.heap.size + 2, 1, none⟩ (.int .i64 d)).setCell ⟨w.heap.size + 2, 2, none⟩ (.slice ao7 (Q.m + 1) cap7)).setCell ⟨w.heap.size + 2, 3, none⟩ (.slice uo un uc)) (putL Q m d id (a, bb, cc, dd) j) I ∧ ∀ b, (Value.slice ao7 (Q.m + 1) cap7).ownBlock = some b → (Value.slice uo un uc).ownBlock ≠ some b) := by
             have hb9 : ∀ b, ok9 b → b < w9.heap.size → W1.heap.size ≤ b ∧ (Value.slice ao7 (Q.m + 1) cap7).ownBlock ≠ some b := fun b hb hl => by
               rcases ho9 b hb with h | h
               · exact ⟨(HOKS.out b h.1).1, (HOKS.out b h.1).2.2.2⟩
               · exact ⟨by omega, fun e => by have := (HIWL.out b e).2; omega⟩
             refine ⟨ownQ_mono2 (ownQ_heap hIW (fun k hk => set4_heap (by have := (HIWL.out k hk).1; omega))) (by omega), ?_, ?_, fun b e e2 => ?_⟩
             · rw [HUN.out]
               exact ownQ_mono2 (ownQ_heap hU (fun k hk => set4_heap (by have := (World.ownsRow.lt hU k hk).1; omega))) (by omega)
             · refine IsP.keep (fun b hb hl => (set4_heap (by have := (hb9 b hb hl).1; omega)).trans (hBx.block b hl)) (fun b hb hl => ⟨by have := (hb9 b hb hl).1; omega, (hb9 b hb hl).2, fun e => by have := (World.ownsRow.lt hU b e).1; omega⟩) hIs
             · have := (HIWL.out b e).2
               have := (World.ownsRow.lt hU b e2).1
               omega
           have y0 := B2.f 0 rfl; have y1 := B2.f 1 rfl; have y2 := B2.f 2 rfl; have y3 := B2.f 3 rfl; have z0 := B2.c 0 rfl; have z1 := B2.c 1 rfl; have z2 := B2.c 2 rfl; have z3 := B2.c 3 rfl
           have BF := set4_blk B2 (.int .i64 m) (.int .i64 d) (.slice ao7 (Q.m + 1) cap7) (.slice uo un uc)
           have HF := set4_below HB (show w.heap.size ≤ w.heap.size + 2 by omega) (.int .i64 m) (.int .i64 d) (.slice ao7 (Q.m + 1) cap7) (.slice uo un uc)
           clear hIW hU hIs hBx
           go_wp2
           have r0 := BF.out.c 0 rfl; have r1 := BF.out.c 1 rfl; have r2 := BF.out.c 2 rfl; have r3 := BF.out.c 3 rfl
           refine bodyPost_ret (v := .tuple #[.agg #[.int .i64 m, .int .i64 d, .slice ao7 (Q.m + 1) cap7, .slice uo un uc], .bool true]) (by simp [results, Try.results11, go_sem, r0, r1, r2, r3]) rfl ?_
           exact ⟨HF, .inr ⟨HP.out, j, HPL.out, .inr ⟨HF9.out, _, _, I, rfl, HOF.out⟩⟩⟩
def RwN (w : World) (T : TypeId) (k : Nat) (v : Value) (n : Nat) (c : Nat → Value) : Prop := (v = .slice none 0 0 ∧ n = 0) ∨ ∃ g cap f, v = .slice (some ⟨g, 0, none⟩) n cap ∧ n ≤ cap ∧ w.rowIs g T (cap * k) f ∧ ∀ i, i < n * k → f i = c i
theorem RwN.heap {w w' : World} {T : TypeId} {k : Nat} {v : Value} {n : Nat} {c : Nat → Value} (h : RwN w T k v n c) (hh : ∀ b, v.ownBlock = some b → w'.heap[b]? = w.heap[b]?) : RwN w' T k v n c := by
 rcases h with h | ⟨g, cap, f, h1, h2, h3, h4⟩
 · exact .inl h
 · exact .inr ⟨g, cap, f, h1, h2, h3.of_block (hh g (by subst h1; rfl)), h4⟩
theorem RwN.lt {w : World} {T : TypeId} {k : Nat} {v : Value} {n : Nat} {c : Nat → Value} (h : RwN w T k v n c) {b : Nat} (hb : v.ownBlock = some b) : b < w.heap.size := by
 rcases h with ⟨h, _⟩ | ⟨g, cap, f, h1, h2, h3, h4⟩
 · subst h; cases hb
 · subst h1; cases hb; exact h3.lt
theorem RwN.congr {w : World} {T : TypeId} {k : Nat} {v : Value} {n : Nat} {c c' : Nat → Value} (h : RwN w T k v n c) (hc : ∀ i, i < n * k → c i = c' i) : RwN w T k v n c' := by
 rcases h with h | ⟨g, cap, f, h1, h2, h3, h4⟩
 · exact .inl h
 · exact .inr ⟨g, cap, f, h1, h2, h3, fun i hi => (h4 i hi).trans (hc i hi)⟩
theorem RwN.own {w : World} {T : TypeId} {k b : Nat} {v : Value} {n : Nat} {xs : List Value} (h : w.ownsRow b T k v n xs) : RwN w T k v n (fun i => xs.getD i undef) := by
 rcases h.2 with ⟨h1, h2⟩ | ⟨g, cap, cur, h1, h2, h3, h4, h5, h6, h7⟩
 · exact .inl ⟨h1, h2⟩
 · refine .inr ⟨g, cap, fun i => cur.getD i undef, h1, h4, ⟨cur, h3, h6, fun i hi => ?_⟩, fun i hi => ?_⟩
   · simp [Array.getD_eq_getD_getElem?, show i < cur.size by omega]
   · rw [← h7]
     simp only [List.getD_eq_getElem?_getD]
     rw [List.getElem?_take_of_lt hi]
     simp [Array.getD_eq_getD_getElem?]
theorem RwN.row {w : World} {T : TypeId} {k g n : Nat} {f : Nat → Value} (h : w.rowIs g T (n * k) f) : RwN w T k (.slice (some ⟨g, 0, none⟩) n n) n f := .inr ⟨g, n, f, rfl, Nat.le_refl _, h, fun _ _ => rfl⟩
theorem RwN.slice {w : World} {T : TypeId} {k : Nat} {v : Value} {n : Nat} {c : Nat → Value} (h : RwN w T k v n c) : ∃ ao cap, v = .slice ao n cap := by
 rcases h with ⟨h, h0⟩ | ⟨g, cap, f, h1, _⟩
 · exact ⟨none, 0, by rw [h, h0]⟩
 · exact ⟨_, _, h1⟩
theorem RwN.numbers {w : World} {v : Value} {n : Nat} {e : Nat → Int} (h : RwN w 2 1 v n (fun i => .int .i64 (e i))) : ∃ ao cap, v = .slice ao n cap ∧ NoIn w ao n e := by
 rcases h with ⟨h1, rfl⟩ | ⟨g, cap, f, h1, h4, h5, h6⟩
 · exact ⟨none, 0, h1, fun i hi => absurd hi (by omega)⟩
 · exact ⟨some ⟨g, 0, none⟩, cap, h1, fun i hi => ⟨g, 0, rfl, h5.lt, by rw [Nat.zero_add, h5.cell (by omega), h6 i (by omega)]⟩⟩
def nuK (K i : Nat) : Value := .int .i64 ((K : Int) + (i : Int))
set_option maxRecDepth 100000 in
set_option maxHeartbeats 2000000 in
theorem markNoQ_any (v : Value) (m K : Nat) (c : Nat → Value) (hm : m ≤ 1048576) (hK : K ≤ 1152921504606846976) (w : World) (hO : RwN w 2 1 v m c) : Calls Try.prog 84 #[v, .int .i64 (K : Int)] w (fun r w' => r = .returned (.int .i64 ((K : Int) + (m : Int))) ∧ RwN w' 2 1 v m (nuK K) ∧ w.grownBy w' v.ownBlock) := by
 have hKI : (K : Int) ≤ 1152921504606846976 := by omega
 rcases hO with ⟨rfl, rfl⟩ | ⟨g, cap, f, rfl, hc, R, hf⟩
 · go_enter Try.func84, Try.ntmps84
   go_wp2_with fail
   go_loopw [1, 5] (fun o i wr => o = .int .i64 (K : Int) ∧ i = .int .i64 0 ∧ wr = w) (fun _ i _ => 0)
   case atStart => exact ⟨rfl, rfl, rfl⟩
   case round =>
     obtain ⟨rfl, rfl, rfl⟩ := hrel
     go_wp2
     go_ret
     exact ⟨by simp, .inl ⟨rfl, rfl⟩, rfl, rfl, rfl, Nat.le_refl _, fun _ _ _ => rfl⟩
 · have HR : Hid (w.rowIs g 2 (cap * 1) f) := R
   clear R hf
   have hnI : (m : Int) ≤ 1048576 := by omega
   go_enter Try.func84, Try.ntmps84
   go_wp2_with fail
   go_loopw [1, 5] (fun o i wr => ∃ c : Nat, c ≤ m ∧ o = .int .i64 ((K : Int) + (c : Int)) ∧ i = .int .i64 c ∧ (∃ f, wr.rowIs g 2 (cap * 1) f ∧ ∀ i, i < c → f i = nuK K i) ∧ w.grownBy wr (some g)) (fun _ i _ => m - (intOf i).toNat)
   case atStart => exact ⟨0, by omega, by simp, rfl, ⟨f, HR.out, fun i hi => by omega⟩, rfl, rfl, rfl, Nat.le_refl _, fun _ _ _ => rfl⟩
   case round =>
     obtain ⟨c, hcn, rfl, rfl, ⟨f', R, hd⟩, KB⟩ := hrel
     by_cases hlt : c < m
     · have hcI : (c : Int) < m := by omega
       have o0 := R.cell (i := c) (by omega)
       have f0 := R.frozen c
       have RN : Hid (∃ f, (wr.setCell ⟨g, c, none⟩ (.int .i64 ((K : Int) + (c : Int)))).rowIs g 2 (cap * 1) f ∧ ∀ i, i < c + 1 → f i = nuK K i) := ⟨_, R.set c (.int .i64 ((K : Int) + (c : Int))), fun i hi => by
         by_cases e : i = c
         · subst e; rw [if_pos rfl]; rfl
         · rw [if_neg e]; exact hd i (by omega)⟩
       have KN : w.grownBy (wr.setCell ⟨g, c, none⟩ (.int .i64 ((K : Int) + (c : Int)))) (some g) := grown_trans KB (grown_set (Below.refl _ _) c _)
       clear R KB hd
       go_wp2
       go_roundw
       case rel => exact ⟨c + 1, by omega, by go_num, by go_num, RN.out, KN⟩
       case measure => simp [intOf]; omega
     · obtain rfl : c = m := by omega
       have HD : Hid (∀ i, i < c → f' i = nuK K i) := hd
       clear hd
       go_wp2
       go_ret
       exact ⟨rfl, .inr ⟨g, cap, f', rfl, hc, R, fun i hi => HD.out i (by omega)⟩, KB⟩
set_option maxRecDepth 100000 in
set_option maxHeartbeats 2000000 in
theorem heldNoQ_any (v : Value) (m K : Nat) (hm : m ≤ 1048576) (hK : K ≤ 1152921504606846976) (w : World) (hO : RwN w 2 1 v m (nuK K)) : Calls Try.prog 85 #[v, .int .i64 (K : Int)] w (VP (.int .i64 ((K : Int) + (m : Int))) w) := by
 have hKI : (K : Int) ≤ 1152921504606846976 := by omega
 obtain ⟨so, sc, rfl, hI⟩ := RwN.numbers (e := fun i => (K : Int) + (i : Int)) hO
 have HR : Hid (NoIn w so m (fun i => (K : Int) + (i : Int))) := hI
 clear hI hO
 have hnI : (m : Int) ≤ 1048576 := by omega
 go_enter Try.func85, Try.ntmps85
 go_wp2_with fail
 go_loopw [1, 5] (fun o i wr => ∃ c : Nat, c ≤ m ∧ o = .int .i64 ((K : Int) + (c : Int)) ∧ i = .int .i64 c ∧ Below w.heap.size w wr) (fun _ i _ => m - (intOf i).toNat)
 case atStart => exact ⟨0, by omega, by simp, rfl, Below.refl _ _⟩
 case round =>
   obtain ⟨c, hcn, rfl, rfl, HB⟩ := hrel
   by_cases hlt : c < m
   · have hcI : (c : Int) < m := by omega
     obtain ⟨A, off, rfl, hA, hcell⟩ := HR.out.step HB c hlt
     go_wp2
     go_roundw
     case rel => exact ⟨c + 1, by omega, by go_num, by go_num, HB⟩
     case measure => simp [intOf]; omega
   · obtain rfl : c = m := by omega
     go_wp2
     go_ret
     exact ⟨rfl, HB⟩
theorem five_set {w : World} {g n c : Nat} {T : TypeId} {f : Nat → Value} (R : w.rowIs g T n f) (v0 v1 v2 v3 v4 : Value) : ∃ f2, ((((((w.setCell ⟨g, c * 5, none⟩ (v0)).setCell ⟨g, c * 5 + 1, none⟩ (v1)).setCell ⟨g, c * 5 + 2, none⟩ (v2)).setCell ⟨g, c * 5 + 3, none⟩ (v3)).setCell ⟨g, c * 5 + 4, none⟩ (v4))).rowIs g T n f2 ∧ (∀ i, i < c * 5 → f2 i = f i) ∧ f2 (c * 5) = v0 ∧ f2 (c * 5 + 1) = v1 ∧ f2 (c * 5 + 2) = v2 ∧ f2 (c * 5 + 3) = v3 ∧ f2 (c * 5 + 4) = v4 ∧ ∀ i, c * 5 + 5 ≤ i → f2 i = f i := by
 refine ⟨_, ((((R.set (c * 5) v0).set (c * 5 + 1) v1).set (c * 5 + 2) v2).set (c * 5 + 3) v3).set (c * 5 + 4) v4, fun i hi => ?_, ?_, ?_, ?_, ?_, ?_, fun i hi => ?_⟩
 · rw [if_neg (by omega), if_neg (by omega), if_neg (by omega), if_neg (by omega), if_neg (by omega)]
 · rw [if_neg (by omega), if_neg (by omega), if_neg (by omega), if_neg (by omega), if_pos rfl]
 · rw [if_neg (by omega), if_neg (by omega), if_neg (by omega), if_pos rfl]
 · rw [if_neg (by omega), if_neg (by omega), if_pos rfl]
 · rw [if_neg (by omega), if_pos rfl]
 · rw [if_pos rfl]
 · rw [if_neg (by omega), if_neg (by omega), if_neg (by omega), if_neg (by omega), if_neg (by omega)]
theorem grown_five {w : World} {g c : Nat} (v0 v1 v2 v3 v4 : Value) : w.grownBy (((((w.setCell ⟨g, c * 5, none⟩ (v0)).setCell ⟨g, c * 5 + 1, none⟩ (v1)).setCell ⟨g, c * 5 + 2, none⟩ (v2)).setCell ⟨g, c * 5 + 3, none⟩ (v3)).setCell ⟨g, c * 5 + 4, none⟩ (v4)) (some g) :=
 grown_trans (grown_trans (grown_trans (grown_trans (grown_set (Below.refl _ _) _ v0) (grown_set (Below.refl _ _) _ v1)) (grown_set (Below.refl _ _) _ v2)) (grown_set (Below.refl _ _) _ v3)) (grown_set (Below.refl _ _) _ v4)
set_option maxRecDepth 100000 in
set_option maxHeartbeats 8000000 in
theorem markItQ_any (v : Value) (m K : Nat) (c : Nat → Value) (hm : m ≤ 1048576) (hK : K ≤ 4294967296) (w : World) (hO : RwN w 59 5 v m c) : Calls Try.prog 43 #[v, .int .i64 (K : Int)] w (fun r w' => r = .returned (.int .i64 ((K + m * 5 : Nat) : Int)) ∧ RwN w' 59 5 v m (nuK K) ∧ w.grownBy w' v.ownBlock) := by
 have hKI : (K : Int) ≤ 4294967296 := by omega
 rcases hO with ⟨rfl, rfl⟩ | ⟨g, cap, f, rfl, hc, R, hf⟩
 · go_enter Try.func43, Try.ntmps43
   go_wp2_with fail
   go_loopw [1, 5] (fun o i wr => o = .int .i64 (K : Int) ∧ i = .int .i64 0 ∧ wr = w) (fun _ i _ => 0)
   case atStart => exact ⟨rfl, rfl, rfl⟩
   case round =>
     obtain ⟨rfl, rfl, rfl⟩ := hrel
     go_wp2
     go_ret
     exact ⟨by simp, .inl ⟨rfl, rfl⟩, rfl, rfl, rfl, Nat.le_refl _, fun _ _ _ => rfl⟩
 · have HR : Hid (w.rowIs g 59 (cap * 5) f) := R
   clear R hf
   have hnI : (m : Int) ≤ 1048576 := by omega
   go_enter Try.func43, Try.ntmps43
   go_wp2_with fail
   go_loopw [1, 5] (fun o i wr => ∃ c kk : Nat, c ≤ m ∧ o = .int .i64 (kk : Int) ∧ K + c * 5 = kk ∧ i = .int .i64 c ∧ (∃ f, wr.rowIs g 59 (cap * 5) f ∧ ∀ i, i < c * 5 → f i = nuK K i) ∧ w.grownBy wr (some g)) (fun _ i _ => m - (intOf i).toNat)
   case atStart => exact ⟨0, K, by omega, rfl, by omega, rfl, ⟨f, HR.out, fun i hi => by omega⟩, rfl, rfl, rfl, Nat.le_refl _, fun _ _ _ => rfl⟩
   case round =>
     obtain ⟨c, kk, hcn, rfl, hkk, rfl, ⟨f', R, hd⟩, KB⟩ := hrel
     have HKK : Hid (K + c * 5 = kk) := hkk
     have hkI : (kk : Int) ≤ 4300210176 := by omega
     clear hkk
     by_cases hlt : c < m
     · have hcI : (c : Int) < m := by omega
       have o0 := R.cell (i := c * 5) (by omega); have f0 := R.frozen (c * 5); have o1 := R.cell (i := c * 5 + 1) (by omega); have f1 := R.frozen (c * 5 + 1); have o2 := R.cell (i := c * 5 + 2) (by omega); have f2 := R.frozen (c * 5 + 2); have o3 := R.cell (i := c * 5 + 3) (by omega); have f3 := R.frozen (c * 5 + 3); have o4 := R.cell (i := c * 5 + 4) (by omega); have f4 := R.frozen (c * 5 + 4)
       have RN : Hid (∃ f, ((((((wr.setCell ⟨g, c * 5, none⟩ (.int .i64 ((kk : Int)))).setCell ⟨g, c * 5 + 1, none⟩ (.int .i64 ((kk : Int) + 1))).setCell ⟨g, c * 5 + 2, none⟩ (.int .i64 ((kk : Int) + 1 + 1))).setCell ⟨g, c * 5 + 3, none⟩ (.int .i64 ((kk : Int) + 1 + 1 + 1))).setCell ⟨g, c * 5 + 4, none⟩ (.int .i64 ((kk : Int) + 1 + 1 + 1 + 1)))).rowIs g 59 (cap * 5) f ∧ ∀ i, i < (c + 1) * 5 → f i = nuK K i) := by
         obtain ⟨f2, r0, r1, r2, r3, r4, r5, r6, _⟩ := five_set (c := c) R (.int .i64 ((kk : Int))) (.int .i64 ((kk : Int) + 1)) (.int .i64 ((kk : Int) + 1 + 1)) (.int .i64 ((kk : Int) + 1 + 1 + 1)) (.int .i64 ((kk : Int) + 1 + 1 + 1 + 1))
         have hk9 := HKK.out
         refine ⟨f2, r0, fun i hi => ?_⟩
         rcases (show i < c * 5 ∨ i = c * 5 ∨ i = c * 5 + 1 ∨ i = c * 5 + 2 ∨ i = c * 5 + 3 ∨ i = c * 5 + 4 by omega) with e | e | e | e | e | e
         · rw [r1 i e]; exact hd i e
         all_goals
           subst e
           first | rw [r2] | rw [r3] | rw [r4] | rw [r5] | rw [r6]
           unfold nuK
           congr 1
           omega
       have KN : w.grownBy (((((wr.setCell ⟨g, c * 5, none⟩ (.int .i64 ((kk : Int)))).setCell ⟨g, c * 5 + 1, none⟩ (.int .i64 ((kk : Int) + 1))).setCell ⟨g, c * 5 + 2, none⟩ (.int .i64 ((kk : Int) + 1 + 1))).setCell ⟨g, c * 5 + 3, none⟩ (.int .i64 ((kk : Int) + 1 + 1 + 1))).setCell ⟨g, c * 5 + 4, none⟩ (.int .i64 ((kk : Int) + 1 + 1 + 1 + 1))) (some g) := grown_trans KB (grown_five _ _ _ _ _)
       clear R KB hd
       go_wp2
       go_roundw
       case rel => exact ⟨c + 1, kk + 5, by omega, by go_num, by have := HKK.out; omega, by go_num, RN.out, KN⟩
       case measure => simp [intOf]; omega
     · obtain rfl : c = m := by omega
       have HD : Hid (∀ i, i < c * 5 → f' i = nuK K i) := hd
       clear hd
       go_wp2
       go_ret
       exact ⟨congrArg (fun z : Nat => Ending.returned (.int .i64 (z : Int))) HKK.out.symm, .inr ⟨g, cap, f', rfl, hc, R, HD.out⟩, KB⟩
set_option maxRecDepth 100000 in
set_option maxHeartbeats 8000000 in
theorem heldItQ_any (v : Value) (m K : Nat) (hm : m ≤ 1048576) (hK : K ≤ 4294967296) (w : World) (hO : RwN w 59 5 v m (nuK K)) : Calls Try.prog 45 #[v, .int .i64 (K : Int)] w (VP (.int .i64 ((K + m * 5 : Nat) : Int)) w) := by
 have hKI : (K : Int) ≤ 4294967296 := by omega
 rcases hO with ⟨rfl, rfl⟩ | ⟨g, cap, f, rfl, hc, R, hf⟩
 · go_enter Try.func45, Try.ntmps45
   go_wp2_with fail
   go_loopw [1, 5] (fun o i wr => o = .int .i64 (K : Int) ∧ i = .int .i64 0 ∧ wr = w) (fun _ i _ => 0)
   case atStart => exact ⟨rfl, rfl, rfl⟩
   case round =>
     obtain ⟨rfl, rfl, rfl⟩ := hrel
     go_wp2
     go_ret
     exact ⟨by simp, Below.refl _ _⟩
 · have HR : Hid (w.rowIs g 59 (cap * 5) f ∧ ∀ i, i < m * 5 → f i = nuK K i) := ⟨R, hf⟩
   clear R hf
   have hnI : (m : Int) ≤ 1048576 := by omega
   go_enter Try.func45, Try.ntmps45
   go_wp2_with fail
   go_loopw [1, 5] (fun o i wr => ∃ c kk : Nat, c ≤ m ∧ o = .int .i64 (kk : Int) ∧ K + c * 5 = kk ∧ i = .int .i64 c ∧ Below w.heap.size w wr) (fun _ i _ => m - (intOf i).toNat)
   case atStart => exact ⟨0, K, by omega, rfl, by omega, rfl, Below.refl _ _⟩
   case round =>
     obtain ⟨c, kk, hcn, rfl, hkk, rfl, HB⟩ := hrel
     have HKK : Hid (K + c * 5 = kk) := hkk
     have hkI : (kk : Int) ≤ 4300210176 := by omega
     clear hkk
     by_cases hlt : c < m
     · have hcI : (c : Int) < m := by omega
       have RW := rowI_step HR.out.1 (HB.mono (Nat.le_refl _))
       have o0 : wr.cell? ⟨g, c * 5, none⟩ = some (.int .i64 ((kk : Int))) := (RW.cell (i := c * 5) (by omega)).trans (by rw [HR.out.2 _ (by omega)]; unfold nuK; have := HKK.out; congr 2; omega)
       have o1 : wr.cell? ⟨g, c * 5 + 1, none⟩ = some (.int .i64 ((kk : Int) + 1)) := (RW.cell (i := c * 5 + 1) (by omega)).trans (by rw [HR.out.2 _ (by omega)]; unfold nuK; have := HKK.out; congr 2; omega)
       have o2 : wr.cell? ⟨g, c * 5 + 2, none⟩ = some (.int .i64 ((kk : Int) + 1 + 1)) := (RW.cell (i := c * 5 + 2) (by omega)).trans (by rw [HR.out.2 _ (by omega)]; unfold nuK; have := HKK.out; congr 2; omega)
       have o3 : wr.cell? ⟨g, c * 5 + 3, none⟩ = some (.int .i64 ((kk : Int) + 1 + 1 + 1)) := (RW.cell (i := c * 5 + 3) (by omega)).trans (by rw [HR.out.2 _ (by omega)]; unfold nuK; have := HKK.out; congr 2; omega)
       have o4 : wr.cell? ⟨g, c * 5 + 4, none⟩ = some (.int .i64 ((kk : Int) + 1 + 1 + 1 + 1)) := (RW.cell (i := c * 5 + 4) (by omega)).trans (by rw [HR.out.2 _ (by omega)]; unfold nuK; have := HKK.out; congr 2; omega)
       clear RW
       go_wp2
       go_roundw
       case rel => exact ⟨c + 1, kk + 5, by omega, by go_num, by have := HKK.out; omega, by go_num, HB⟩
       case measure => simp [intOf]; omega
     · obtain rfl : c = m := by omega
       go_wp2
       go_ret
       exact ⟨congrArg (fun z : Nat => Ending.returned (.int .i64 (z : Int))) HKK.out.symm, HB⟩
def mkB (K : Nat) (L : Nat → Nat) : Nat → Nat
 | 0 => K
 | c + 1 => mkB K L c + 4 + L c
def flB (k : Nat) : Bool := decide ((k + 3) % 3 = 0)
def bkX (K : Nat) (L : Nat → Nat) (k : Nat) : Value := if k % 5 = 3 then .bool (flB (mkB K L (k / 5))) else .int .i64 ((mkB K L (k / 5) : Int) + ((k % 5 : Nat) : Int))
def bkC (x : Nat → Value) (s : Nat → Value) (k : Nat) : Value := if k % 5 = 4 then s (k / 5) else x k
theorem bkC_at (x s : Nat → Value) (c j : Nat) (hj : j < 4) : bkC x s (c * 5 + j) = x (c * 5 + j) := by unfold bkC; rw [if_neg (by omega)]
theorem bkC_4 (x s : Nat → Value) (c : Nat) : bkC x s (c * 5 + 4) = s c := by unfold bkC; rw [if_pos (by omega), show (c * 5 + 4) / 5 = c by omega]
theorem bkX_at (K : Nat) (L : Nat → Nat) (c j : Nat) (hj : j < 3) : bkX K L (c * 5 + j) = .int .i64 ((mkB K L c : Int) + (j : Int)) := by unfold bkX; rw [if_neg (by omega), show (c * 5 + j) / 5 = c by omega, show (c * 5 + j) % 5 = j by omega]
theorem bkX_3 (K : Nat) (L : Nat → Nat) (c : Nat) : bkX K L (c * 5 + 3) = .bool (flB (mkB K L c)) := by unfold bkX; rw [if_pos (by omega), show (c * 5 + 3) / 5 = c by omega]
theorem mkB_le {K n : Nat} {L : Nat → Nat} (hL : ∀ i, i < n → L i ≤ 1048576) : ∀ c, c ≤ n → mkB K L c ≤ K + c * 1048580
 | 0, _ => by simp [mkB]
 | c + 1, h => by have := mkB_le (K := K) hL c (by omega); have := hL c (by omega); simp only [mkB]; omega
def mqE (K : Nat) (L : Nat → Nat) (i : Nat) : Nat → Value := nuK (mkB K L i + 4)
structure BkN (w : World) (v : Value) (n : Nat) (x s : Nat → Value) (L : Nat → Nat) (E : Nat → Nat → Value) : Prop where
 row : RwN w 55 5 v n (bkC x s)
 ids : ∀ i, i < n → RwN w 2 1 (s i) (L i) (E i)
 d1 : ∀ i b, i < n → (s i).ownBlock = some b → v.ownBlock ≠ some b
 d2 : ∀ i j b, i < n → j < n → i ≠ j → (s i).ownBlock = some b → (s j).ownBlock ≠ some b
def bkN (v : Value) (n : Nat) (s : Nat → Value) (b : Nat) : Prop := v.ownBlock = some b ∨ ∃ i, i < n ∧ (s i).ownBlock = some b
theorem BkN.frm {ok : Nat → Prop} {w w' : World} {v : Value} {n : Nat} {x s : Nat → Value} {L : Nat → Nat} {E : Nat → Nat → Value} (h : BkN w v n x s L E) (hF : Frm ok w w') (hd : ∀ b, bkN v n s b → ¬ ok b) : BkN w' v n x s L E :=
 ⟨h.row.heap (fun b e => hF.block b (h.row.lt e) (hd b (.inl e))), fun i hi => (h.ids i hi).heap (fun b e => hF.block b ((h.ids i hi).lt e) (hd b (.inr ⟨i, hi, e⟩))), h.d1, h.d2⟩
theorem BkN.step {w w' : World} {v : Value} {n : Nat} {x s : Nat → Value} {L : Nat → Nat} {E : Nat → Nat → Value} (h : BkN w v n x s L E) (hB : Below w.heap.size w w') : BkN w' v n x s L E :=
 ⟨h.row.heap (fun b e => hB.block b (h.row.lt e)), fun i hi => (h.ids i hi).heap (fun b e => hB.block b ((h.ids i hi).lt e)), h.d1, h.d2⟩
theorem four_set {w : World} {g n c : Nat} {T : TypeId} {f : Nat → Value} (R : w.rowIs g T n f) (v0 v1 v2 v3 : Value) : ∃ f2, (((((w.setCell ⟨g, c * 5, none⟩ (v0)).setCell ⟨g, c * 5 + 1, none⟩ (v1)).setCell ⟨g, c * 5 + 2, none⟩ (v2)).setCell ⟨g, c * 5 + 3, none⟩ (v3))).rowIs g T n f2 ∧ (∀ i, i < c * 5 → f2 i = f i) ∧ f2 (c * 5) = v0 ∧ f2 (c * 5 + 1) = v1 ∧ f2 (c * 5 + 2) = v2 ∧ f2 (c * 5 + 3) = v3 ∧ ∀ i, c * 5 + 4 ≤ i → f2 i = f i := by
 refine ⟨_, (((R.set (c * 5) v0).set (c * 5 + 1) v1).set (c * 5 + 2) v2).set (c * 5 + 3) v3, fun i hi => ?_, ?_, ?_, ?_, ?_, fun i hi => ?_⟩
 · rw [if_neg (by omega), if_neg (by omega), if_neg (by omega), if_neg (by omega)]
 · rw [if_neg (by omega), if_neg (by omega), if_neg (by omega), if_pos rfl]
 · rw [if_neg (by omega), if_neg (by omega), if_pos rfl]
 · rw [if_neg (by omega), if_pos rfl]
 · rw [if_pos rfl]
 · rw [if_neg (by omega), if_neg (by omega), if_neg (by omega), if_neg (by omega)]
theorem grown_four {w : World} {g c : Nat} (v0 v1 v2 v3 : Value) : w.grownBy ((((w.setCell ⟨g, c * 5, none⟩ (v0)).setCell ⟨g, c * 5 + 1, none⟩ (v1)).setCell ⟨g, c * 5 + 2, none⟩ (v2)).setCell ⟨g, c * 5 + 3, none⟩ (v3)) (some g) :=
 grown_trans (grown_trans (grown_trans (grown_set (Below.refl _ _) _ v0) (grown_set (Below.refl _ _) _ v1)) (grown_set (Below.refl _ _) _ v2)) (grown_set (Below.refl _ _) _ v3)
theorem flB_val (k : Nat) : ((((k : Int) + 1 + 1 + 1).tmod 3) == 0) = flB k := by
 unfold flB
 rw [Int.tmod_eq_emod_of_nonneg (by omega)]
 by_cases h : (k + 3) % 3 = 0
 · rw [decide_eq_true h, beq_iff_eq]; omega
 · rw [decide_eq_false h]
   exact Bool.eq_false_iff.2 (fun e => h (by have := beq_iff_eq.1 e; omega))
theorem Frm.grownO {ok : Nat → Prop} {w w1 w2 : World} {row : Option Nat} (h : Frm ok w w1) (hg : w1.grownBy w2 row) (hp : ∀ b, row = some b → ok b) : Frm ok w w2 :=
 ⟨hg.os.trans h.os, hg.tape.trans h.tape, hg.output.trans h.output, Nat.le_trans h.size hg.size, fun b hb hn => (hg.block b (Nat.lt_of_lt_of_le hb h.size) (fun e => hn (hp b e.symm))).trans (h.block b hb hn)⟩
set_option maxRecDepth 100000 in
set_option maxHeartbeats 16000000 in
theorem markBlQ_any (v : Value) (n K : Nat) (x s : Nat → Value) (L : Nat → Nat) (E : Nat → Nat → Value) (hn : n ≤ 1048576) (hL : ∀ i, i < n → L i ≤ 1048576) (hK : K ≤ 4300210176) (w : World) (hO : BkN w v n x s L E) : Calls Try.prog 44 #[v, .int .i64 (K : Int)] w (fun r w' => r = .returned (.int .i64 (mkB K L n : Int)) ∧ BkN w' v n (bkX K L) s L (mqE K L) ∧ Frm (bkN v n s) w w') := by
 have hKI : (K : Int) ≤ 4300210176 := by omega
 obtain ⟨hrow, hN, d1, d2⟩ := hO
 rcases hrow with ⟨rfl, rfl⟩ | ⟨g, cap, f, rfl, hc, R, hf⟩
 · clear hN d1 d2
   go_enter Try.func44, Try.ntmps44
   go_wp2_with fail
   go_loopw [1, 5] (fun o i wr => o = .int .i64 (K : Int) ∧ i = .int .i64 0 ∧ wr = w) (fun _ i _ => 0)
   case atStart => exact ⟨rfl, rfl, rfl⟩
   case round =>
     obtain ⟨rfl, rfl, rfl⟩ := hrel
     go_wp2
     go_ret
     exact ⟨rfl, ⟨.inl ⟨rfl, rfl⟩, fun i hi => absurd hi (by omega), fun i b hi => absurd hi (by omega), fun i j b hi => absurd hi (by omega)⟩, Frm.refl _ _⟩
 have HR : Hid (w.rowIs g 55 (cap * 5) f ∧ (∀ k, k < n * 5 → f k = bkC x s k) ∧ (∀ i, i < n → RwN w 2 1 (s i) (L i) (E i))) := ⟨R, hf, hN⟩
 have HD : Hid ((∀ i b, i < n → (s i).ownBlock = some b → g ≠ b) ∧ ∀ i j b, i < n → j < n → i ≠ j → (s i).ownBlock = some b → (s j).ownBlock ≠ some b) := ⟨fun i b hi e e2 => d1 i b hi e (by rw [e2]; rfl), d2⟩
 have HL : Hid (∀ i, i < n → L i ≤ 1048576) := hL
 have HK : Hid (∀ c, c ≤ n → mkB K L c ≤ 1103816294400) := fun c hc => by have := mkB_le (K := K) hL c hc; have : c * 1048580 ≤ 1048576 * 1048580 := Nat.mul_le_mul_right _ (by omega); omega
 clear R hf hN d1 d2 hL
 have hnI : (n : Int) ≤ 1048576 := by omega
 go_enter Try.func44, Try.ntmps44
 go_wp2_with fail
 go_loopw [1, 5] (fun o i wr => ∃ (c : Nat) (f : Nat → Value), c ≤ n ∧ o = .int .i64 (mkB K L c : Int) ∧ i = .int .i64 c ∧ wr.rowIs g 55 (cap * 5) f ∧ (∀ k, k < c * 5 → f k = bkC (bkX K L) s k) ∧ (∀ k, c * 5 ≤ k → k < n * 5 → f k = bkC x s k) ∧ (∀ i, i < c → RwN wr 2 1 (s i) (L i) (mqE K L i)) ∧ (∀ i, c ≤ i → i < n → RwN wr 2 1 (s i) (L i) (E i)) ∧ Frm (bkN (.slice (some ⟨g, 0, none⟩) n cap) n s) w wr) (fun _ i _ => n - (intOf i).toNat)
 case atStart => exact ⟨0, f, by omega, rfl, rfl, HR.out.1, fun k hk => absurd hk (by omega), fun k _ hk => HR.out.2.1 k hk, fun i hi => absurd hi (by omega), fun i _ hi => HR.out.2.2 i hi, Frm.refl _ _⟩
 case round =>
   obtain ⟨c, f', hcn, rfl, rfl, R, hd, hd2, hA, hB, HF⟩ := hrel
   have HDD : Hid ((∀ k, k < c * 5 → f' k = bkC (bkX K L) s k) ∧ ∀ k, c * 5 ≤ k → k < n * 5 → f' k = bkC x s k) := ⟨hd, hd2⟩
   have HAB : Hid ((∀ i, i < c → RwN wr 2 1 (s i) (L i) (mqE K L i)) ∧ ∀ i, c ≤ i → i < n → RwN wr 2 1 (s i) (L i) (E i)) := ⟨hA, hB⟩
   have hkb := HK.out c hcn
   obtain ⟨kk, hkk⟩ : ∃ kk, mkB K L c = kk := ⟨_, rfl⟩
   have HKK : Hid (mkB K L c = kk) := hkk
   rw [hkk] at hkb ⊢
   have hkI : (kk : Int) ≤ 1103816294400 := by omega
   clear hkk hd hd2 hA hB
   by_cases hlt : c < n
   · have hcI : (c : Int) < n := by omega
     obtain ⟨so, sc, hs⟩ := (HAB.out.2 c (Nat.le_refl _) hlt).slice
     have HSC : Hid (s c = .slice so (L c) sc) := hs
     have o0 := R.cell (i := c * 5) (by omega); have f0 := R.frozen (c * 5); have o1 := R.cell (i := c * 5 + 1) (by omega); have f1 := R.frozen (c * 5 + 1); have o2 := R.cell (i := c * 5 + 2) (by omega); have f2 := R.frozen (c * 5 + 2); have o3 := R.cell (i := c * 5 + 3) (by omega); have f3 := R.frozen (c * 5 + 3)
     have o4 : wr.cell? ⟨g, c * 5 + 4, none⟩ = some (.slice so (L c) sc) := (R.cell (i := c * 5 + 4) (by omega)).trans (by rw [HDD.out.2 _ (by omega) (by omega), bkC_4, hs])
     obtain ⟨tm, htm⟩ : ∃ tm : Int, ((kk : Int) + 1 + 1 + 1).tmod 3 = tm := ⟨_, rfl⟩
     have hfl : (tm == 0) = flB kk := by rw [← htm]; exact flB_val kk
     have hF4 := four_set (c := c) R (.int .i64 ((kk : Int))) (.int .i64 ((kk : Int) + 1)) (.int .i64 ((kk : Int) + 1 + 1)) (.bool (flB kk))
     have HG4 : wr.grownBy ((((wr.setCell ⟨g, c * 5, none⟩ (.int .i64 ((kk : Int)))).setCell ⟨g, c * 5 + 1, none⟩ (.int .i64 ((kk : Int) + 1))).setCell ⟨g, c * 5 + 2, none⟩ (.int .i64 ((kk : Int) + 1 + 1))).setCell ⟨g, c * 5 + 3, none⟩ (.bool (flB kk))) (some g) := grown_four _ _ _ _
     have hLc := HL.out c hlt
     have NC : RwN ((((wr.setCell ⟨g, c * 5, none⟩ (.int .i64 ((kk : Int)))).setCell ⟨g, c * 5 + 1, none⟩ (.int .i64 ((kk : Int) + 1))).setCell ⟨g, c * 5 + 2, none⟩ (.int .i64 ((kk : Int) + 1 + 1))).setCell ⟨g, c * 5 + 3, none⟩ (.bool (flB kk))) 2 1 (.slice so (L c) sc) (L c) (E c) := by
       have h := HAB.out.2 c (Nat.le_refl _) hlt
       rw [hs] at h
       exact h.heap (fun b e => HG4.block b (h.lt e) (fun e2 => HD.out.1 c b hlt (by rw [hs]; exact e) (Option.some.inj e2).symm))
     have CM := markNoQ_any (.slice so (L c) sc) (L c) (kk + 4) (E c) hLc (by omega) _ NC
     rw [show ((kk + 4 : Nat) : Int) = (kk : Int) + 1 + 1 + 1 + 1 by omega] at CM
     clear NC hs
     go_wp2_with fail
     refine CM.mono ?_
     rintro r w1 ⟨rfl, hN1, hV⟩
     obtain ⟨f2, r0, r1, r2, r3, r4, r5, r6⟩ := hF4
     have hgl := r0.lt
     generalize ((((wr.setCell ⟨g, c * 5, none⟩ (.int .i64 ((kk : Int)))).setCell ⟨g, c * 5 + 1, none⟩ (.int .i64 ((kk : Int) + 1))).setCell ⟨g, c * 5 + 2, none⟩ (.int .i64 ((kk : Int) + 1 + 1))).setCell ⟨g, c * 5 + 3, none⟩ (.bool (flB kk))) = W4 at *
     have hgo : ∀ b, b < wr.heap.size → b ≠ g → (s c).ownBlock ≠ some b → w1.heap[b]? = wr.heap[b]? := fun b hb hne hns => (hV.block b (Nat.lt_of_lt_of_le hb HG4.size) (fun e => hns (by rw [HSC.out]; exact e.symm))).trans (HG4.block b hb (fun e => hne (Option.some.inj e)))
     have HFN : Hid (∃ f3, w1.rowIs g 55 (cap * 5) f3 ∧ (∀ k, k < (c + 1) * 5 → f3 k = bkC (bkX K L) s k) ∧ ∀ k, (c + 1) * 5 ≤ k → k < n * 5 → f3 k = bkC x s k) := by
       have hk9 := HKK.out
       refine ⟨f2, r0.of_block (hV.block g hgl (fun e => HD.out.1 c g hlt (by rw [HSC.out]; exact e.symm) rfl)), fun k hk => ?_, fun k hk hn2 => ?_⟩
       · rcases (show k < c * 5 ∨ k = c * 5 ∨ k = c * 5 + 1 ∨ k = c * 5 + 2 ∨ k = c * 5 + 3 ∨ k = c * 5 + 4 by omega) with e | e | e | e | e | e
         · rw [r1 k e]; exact HDD.out.1 k e
         · subst e; rw [r2, show c * 5 = c * 5 + 0 from rfl, bkC_at _ _ _ 0 (by omega), bkX_at _ _ _ 0 (by omega), hk9]; congr 2
         · subst e; rw [r3, bkC_at _ _ _ 1 (by omega), bkX_at _ _ _ 1 (by omega), hk9]; congr 2
         · subst e; rw [r4, bkC_at _ _ _ 2 (by omega), bkX_at _ _ _ 2 (by omega), hk9]; congr 1
         · subst e; rw [r5, bkC_at _ _ _ 3 (by omega), bkX_3, hk9]
         · subst e; rw [r6 _ (by omega), HDD.out.2 _ (by omega) (by omega), bkC_4, bkC_4]
       · rw [r6 k (by omega)]; exact HDD.out.2 k (by omega) hn2
     have HA2 : Hid (∀ i, i < c + 1 → RwN w1 2 1 (s i) (L i) (mqE K L i)) := fun i hi => by
       by_cases e : i = c
       · subst e
         rw [HSC.out]
         unfold mqE
         rw [HKK.out]
         refine hN1.congr (fun k _ => ?_)
         unfold nuK
         congr 1
       · have p := HAB.out.1 i (by omega)
         exact p.heap fun b hb => hgo b (p.lt hb) (fun e3 => HD.out.1 i b (by omega) hb e3.symm) (HD.out.2 i c b (by omega) hlt e hb)
     have HB2 : Hid (∀ i, c + 1 ≤ i → i < n → RwN w1 2 1 (s i) (L i) (E i)) := fun i hi hi2 => by
       have p := HAB.out.2 i (by omega) hi2
       exact p.heap fun b hb => hgo b (p.lt hb) (fun e3 => HD.out.1 i b hi2 hb e3.symm) (HD.out.2 i c b hi2 hlt (by omega) hb)
     have KN : Frm (bkN (.slice (some ⟨g, 0, none⟩) n cap) n s) w w1 := (HF.grownO HG4 (fun b e => .inl e)).grownO hV (fun b e => .inr ⟨c, hlt, by rw [HSC.out]; exact e⟩)
     have HKN : Hid ((kk : Int) + 1 + 1 + 1 + 1 + (L c : Int) = (mkB K L (c + 1) : Int)) := by
       have := HKK.out
       show _ = ((mkB K L c + 4 + L c : Nat) : Int)
       omega
     have hLI : (L c : Int) ≤ 1048576 := by omega
     clear CM hN1 hV HG4 HF hgo r0 r1 r2 r3 r4 r5 r6 o0 o1 o2 o3 o4 R HAB HDD
     go_wp2
     go_roundw
     case rel =>
       obtain ⟨f3, p1, p2, p3⟩ := HFN.out
       exact ⟨c + 1, f3, by omega, congrArg (Value.int .i64) HKN.out, by go_num, p1, p2, p3, HA2.out, HB2.out, KN⟩
     case measure => simp [intOf]; omega
   · obtain rfl : c = n := by omega
     have HE : Hid (BkN wr (.slice (some ⟨g, 0, none⟩) c cap) c (bkX K L) s L (mqE K L)) := ⟨.inr ⟨g, cap, f', rfl, hc, R, HDD.out.1⟩, HAB.out.1, fun i b hi e e2 => HD.out.1 i b hi e (Option.some.inj e2), HD.out.2⟩
     clear HAB HDD R
     go_wp2
     go_ret
     exact ⟨congrArg (fun z : Nat => Ending.returned (.int .i64 (z : Int))) HKK.out.symm, HE.out, HF⟩
end Go.Proofs.Ytjhapeidafbncaa
