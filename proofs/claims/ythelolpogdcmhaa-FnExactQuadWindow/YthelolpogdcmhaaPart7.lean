/- Part 7 of the walks that the proof leans on. -/
import Derived.Test.YthelolpogdcmhaaPart5
import Derived.Laws.AppendOwnNone
import Derived.Test.YthelolpogdcmhaaPart2
import Derived.Test.YthelolpogdcmhaaPart1
import Derived.Test.YthelolpogdcmhaaPart6
import Derived.Test.YthelolpogdcmhaaPart3
import Derived.Deep.RegionHeld3
import Derived.Deep.DeepCutAuto
import Derived.BigRegion
namespace Go.Proofs.Ythelolpogdcmhaa
open Go.RowKit
def MTr (ok : Nat → Prop) (w : World) : QT → Int → Int → Int → Value → Value → Prop
 | .leaf l, _, _, _, kv, ev => kv = .slice none 0 0 ∧ IdV ok w ev l
 | .node K, x, y, s, kv, ev => IdV ok w ev [] ∧ ∃ A kc, kv = .slice (some ⟨A, 0, none⟩) 4 kc ∧ A < w.heap.size ∧ ok A ∧ ∀ k, k < 4 → ∃ kv' ev', w.cell? ⟨A, k * 5, none⟩ = some (.int .i64 (kX x (s / 2) k)) ∧ w.cell? ⟨A, k * 5 + 1, none⟩ = some (.int .i64 (kY y (s / 2) k)) ∧ w.cell? ⟨A, k * 5 + 2, none⟩ = some (.int .i64 (s / 2)) ∧ w.cell? ⟨A, k * 5 + 3, none⟩ = some kv' ∧ w.cell? ⟨A, k * 5 + 4, none⟩ = some ev' ∧ MTr ok w (K k) (kX x (s / 2) k) (kY y (s / 2) k) (s / 2) kv' ev'
theorem MTr.keep {ok ok' : Nat → Prop} {w w' : World} (hs : w.heap.size ≤ w'.heap.size) (hk : ∀ b, ok b → b < w.heap.size → w'.heap[b]? = w.heap[b]?) (ho : ∀ b, ok b → b < w.heap.size → ok' b) : ∀ {t : QT} {x y s : Int} {kv ev : Value}, MTr ok w t x y s kv ev → MTr ok' w' t x y s kv ev
 | .leaf _, _, _, _, _, _, h => ⟨h.1, h.2.keep hs hk ho⟩
 | .node K, _, _, _, _, _, h => by
   obtain ⟨h1, A, kc, h2, hA, hoA, h3⟩ := h
   refine ⟨h1.keep hs hk ho, A, kc, h2, Nat.lt_of_lt_of_le hA hs, ho A hoA hA, fun k hk4 => ?_⟩
   obtain ⟨kv', ev', c0, c1, c2, c3, c4, h4⟩ := h3 k hk4
   have hc : ∀ j, w'.cell? ⟨A, j, none⟩ = w.cell? ⟨A, j, none⟩ := fun j => World.cell?_of_block (w := w) (a := ⟨A, j, none⟩) (hk A hoA hA)
   exact ⟨kv', ev', (hc _).trans c0, (hc _).trans c1, (hc _).trans c2, (hc _).trans c3, (hc _).trans c4, MTr.keep hs hk ho (t := K k) h4⟩
theorem MTr.step {ok : Nat → Prop} {w w' : World} (hB : Below w.heap.size w w') {t : QT} {x y s : Int} {kv ev : Value} (h : MTr ok w t x y s kv ev) : MTr ok w' t x y s kv ev := MTr.keep hB.size (fun b _ hb => hB.block b hb) (fun _ h _ => h) h
def kd5 (x y h : Int) (kv ev : Nat → Value) (k : Nat) : List Value := [.int .i64 (kX x h k), .int .i64 (kY y h k), .int .i64 h, kv k, ev k]
def kdL (x y h : Int) (kv ev : Nat → Value) (n : Nat) : List Value := (List.range n).flatMap (kd5 x y h kv ev)
theorem kdL_more (x y h : Int) (kv ev : Nat → Value) (n : Nat) : kdL x y h kv ev (n + 1) = kdL x y h kv ev n ++ kd5 x y h kv ev n := by
 unfold kdL
 rw [List.range_succ, List.flatMap_append]
 simp
theorem kdL_len (x y h : Int) (kv ev : Nat → Value) : ∀ n, (kdL x y h kv ev n).length = n * 5
 | 0 => rfl
 | n + 1 => by rw [kdL_more, List.length_append, kdL_len x y h kv ev n]; simp [kd5]; omega
theorem kdL_at (x y h : Int) (kv ev : Nat → Value) : ∀ n k j, k < n → j < 5 → (kdL x y h kv ev n)[k * 5 + j]? = (kd5 x y h kv ev k)[j]?
 | 0, k, j, hk, _ => absurd hk (by omega)
 | n + 1, k, j, hk, hj => by
   rw [kdL_more]
   rcases Nat.lt_or_ge k n with h1 | h1
   · rw [List.getElem?_append_left (by rw [kdL_len]; omega)]
     exact kdL_at x y h kv ev n k j h1 hj
   · obtain rfl : k = n := by omega
     rw [List.getElem?_append_right (by rw [kdL_len]; omega), kdL_len, Nat.add_sub_cancel_left]
theorem kdL_same (x y h : Int) {kv ev kv' ev' : Nat → Value} {n : Nat} (h1 : ∀ k, k < n → kv' k = kv k) (h2 : ∀ k, k < n → ev' k = ev k) : kdL x y h kv' ev' n = kdL x y h kv ev n := by
 induction n with
 | zero => rfl
 | succ n ih => rw [kdL_more, kdL_more, ih (fun k hk => h1 k (by omega)) (fun k hk => h2 k (by omega)), kd5, kd5, h1 n (by omega), h2 n (by omega)]
def setV (f : Nat → Value) (c : Nat) (u : Value) (i : Nat) : Value := if i = c then u else f i
theorem kdL_set (x y h : Int) (kv ev : Nat → Value) (n : Nat) (a b : Value) : kdL x y h (setV kv n a) (setV ev n b) (n + 1) = kdL x y h kv ev n ++ [.int .i64 (kX x h n), .int .i64 (kY y h n), .int .i64 h, a, b] := by
 rw [kdL_more, kdL_same x y h (kv := kv) (ev := ev) (kv' := setV kv n a) (ev' := setV ev n b) (fun k hk => by unfold setV; rw [if_neg (by omega)]) (fun k hk => by unfold setV; rw [if_neg (by omega)])]
 simp [kd5, setV]
theorem MTr.node_of {ok : Nat → Prop} {w : World} {base : Nat} (hok : ∀ b, base ≤ b → ok b) {K : Nat → QT} {x y s : Int} {v ev : Value} {kv' ev' : Nat → Value} (h0 : IdV ok w ev []) (h : w.ownsRow base 48 5 v 4 (kdL x y (s / 2) kv' ev' 4)) (hk : ∀ k, k < 4 → MTr ok w (K k) (kX x (s / 2) k) (kY y (s / 2) k) (s / 2) (kv' k) (ev' k)) : MTr ok w (.node K) x y s v ev := by
 rcases h.2 with ⟨_, h1⟩ | ⟨g, cap, cur, h1, h2, h3, h4, h5, h6⟩
 · omega
 · subst h1
   refine ⟨h0, g, cap, rfl, (Array.getElem?_eq_some_iff.1 h3).1, hok g h2, fun k hk4 => ⟨kv' k, ev' k, ?_, ?_, ?_, ?_, ?_, hk k hk4⟩⟩
   all_goals
     refine (ownQ_cell h (i := _) ?_).1
   · exact kdL_at x y (s / 2) kv' ev' 4 k 0 hk4 (by omega)
   · exact kdL_at x y (s / 2) kv' ev' 4 k 1 hk4 (by omega)
   · exact kdL_at x y (s / 2) kv' ev' 4 k 2 hk4 (by omega)
   · exact kdL_at x y (s / 2) kv' ev' 4 k 3 hk4 (by omega)
   · exact kdL_at x y (s / 2) kv' ev' 4 k 4 hk4 (by omega)
theorem MTr.vals {ok : Nat → Prop} {w : World} {t : QT} {x y s : Int} {kv ev : Value} (h : MTr ok w t x y s kv ev) : ∃ ko kn kc eo en ec, kv = .slice ko kn kc ∧ ev = .slice eo en ec := by
 cases t with
 | leaf l =>
   obtain ⟨h1, ao, c, h2, _⟩ := h
   exact ⟨_, _, _, _, _, _, h1, h2⟩
 | node K =>
   obtain ⟨⟨ao, c, h2, _⟩, A, kc, h1, _⟩ := h
   exact ⟨_, _, _, _, _, _, h1, h2⟩
theorem new_cells (w : World) (vs : List Value) (t : TypeId) : ∀ j v, vs[j]? = some v → (w.alloc (.cells vs.toArray t)).cell? ((⟨w.heap.size, 0, none⟩ : Addr).add j) = some v := by
 intro j v hj
 rw [Addr.add_lit, Nat.zero_add]
 exact (Blk.new w vs t rfl).c j hj
theorem one5 (a b c : Int) (ao bo : Option Addr) (m n k l : Nat) : ∀ u ∈ [Value.int .i64 a, .int .i64 b, .int .i64 c, .slice ao m k, .slice bo n l], u.oneCell' = true := by
 intro u hu
 simp only [List.mem_cons, List.not_mem_nil, or_false] at hu
 rcases hu with rfl | rfl | rfl | rfl | rfl <;> rfl
theorem wpList_append_ids {ops : Array Oper} {rest : List Oper} {o : Oper} {a : Act} {w : World} {Q : Exit → Act → World → Prop} (hgd : o.guard = none) (s x : Operand) (ho : o.op = .call { callee := .builtin .append, args := #[s, x], argTypes := #[29, 29] }) (base : Nat) (v : Value) (hs : a.eval s = v) (hown : w.ownsRow base 2 1 v 0 []) (l : List Int) (ao : Option Addr) (c : Nat) (hx : a.eval x = .slice ao l.length c) (hN : NoIn w ao l.length (fun i => l.getD i 0)) (h0 : ao = none → c = 0) (hm : l.length ≤ 1048576) (hb : base ≤ w.heap.size)
   (h : ∀ v' w', w'.ownsRow base 2 1 v' l.length (l.map (Value.int .i64)) → w.grownBy w' v.ownBlock → (v'.ownBlock = v.ownBlock ∨ v'.ownBlock = some w.heap.size) → wpList Try.prog ops Q rest (a.put o.dst v') w') : wpList Try.prog ops Q (o :: rest) a w := by
 obtain ⟨i0, hi, hz0, hz1, hz2⟩ := info_parts Try.infoNo
 cases ao with
 | none =>
   have hl : l = [] := by
     cases l with
     | nil => rfl
     | cons z l => obtain ⟨A, off, e, _⟩ := hN 0 (by simp); cases e
   subst hl
   obtain rfl := h0 rfl
   exact wpList_append_own_none hgd s x 29 ho base 2 i0 1 Try.underlying29 hi v 0 [] hs hown hx (h v w hown ⟨rfl, rfl, rfl, Nat.le_refl _, fun _ _ _ => rfl⟩ (.inl rfl))
 | some ad =>
   refine wpList_append_own_at w hgd s x 29 ho base 2 i0 (.int .i64 0) 1 8 Try.underlying29 hi hz0 hz1 hz2 rfl (by decide) v 0 [] hs hown ad l.length c (l.map (Value.int .i64)) hx (by simp) (fun j u hj => ?_) (fun u hu => ?_) (by unfold maxLen; omega) (by omega) hb (fun v' w' r1 r2 _ r4 => ?_)
   · have hjl : j < l.length := by have := (List.getElem?_eq_some_iff.1 hj).1; simpa using this
     obtain ⟨A, off, e, hA, hc⟩ := hN j hjl
     cases e
     rw [Addr.add_lit, hc]
     rw [List.getElem?_map, List.getElem?_eq_getElem hjl] at hj
     simp only [Option.map_some, Option.some.injEq] at hj
     rw [← hj]
     simp [List.getD_eq_getElem?_getD, hjl]
   · obtain ⟨z, _, rfl⟩ := List.mem_map.1 hu
     rfl
   · rw [Nat.zero_add, List.nil_append] at r1
     exact h v' w' r1 r2 r4
set_option maxRecDepth 100000 in
set_option maxHeartbeats 2000000 in
theorem toItem_any (a b c d e : Int) (w : World) : Calls Try.prog 38 #[.agg #[.int .i64 a, .int .i64 b, .int .i64 c, .int .i64 d, .int .i64 e]] w (VP (.agg #[.int .i64 a, .int .i64 b, .int .i64 c, .int .i64 d, .int .i64 e]) w) := by
 have B0 : Blk ((w.alloc (.cells #[.int .i64 a, .int .i64 b, .int .i64 c, .int .i64 d, .int .i64 e] 88)).alloc (.cells #[.int .i64 0, .int .i64 0, .int .i64 0, .int .i64 0, .int .i64 0] 56)) w.heap.size [.int .i64 a, .int .i64 b, .int .i64 c, .int .i64 d, .int .i64 e] := (Blk.new w [.int .i64 a, .int .i64 b, .int .i64 c, .int .i64 d, .int .i64 e] 88 rfl).alloc _
 have B1 : Blk ((w.alloc (.cells #[.int .i64 a, .int .i64 b, .int .i64 c, .int .i64 d, .int .i64 e] 88)).alloc (.cells #[.int .i64 0, .int .i64 0, .int .i64 0, .int .i64 0, .int .i64 0] 56)) (w.heap.size + 1) [.int .i64 0, .int .i64 0, .int .i64 0, .int .i64 0, .int .i64 0] := Blk.new (w.alloc (.cells #[.int .i64 a, .int .i64 b, .int .i64 c, .int .i64 d, .int .i64 e] 88)) [.int .i64 0, .int .i64 0, .int .i64 0, .int .i64 0, .int .i64 0] 56 (by simp)
 have HB : Below w.heap.size w ((w.alloc (.cells #[.int .i64 a, .int .i64 b, .int .i64 c, .int .i64 d, .int .i64 e] 88)).alloc (.cells #[.int .i64 0, .int .i64 0, .int .i64 0, .int .i64 0, .int .i64 0] 56)) := ((Below.refl _ w).alloc (Nat.le_refl _) _).alloc (by simp) _
 have TS := fun w => toSeg_any b c d e w
 go_enter Try.func38, Try.ntmps38
 go_upto_region 1 with fail
 have hs : ((w.alloc (.cells #[.int .i64 a, .int .i64 b, .int .i64 c, .int .i64 d, .int .i64 e] 88)).alloc (.cells #[.int .i64 0, .int .i64 0, .int .i64 0, .int .i64 0, .int .i64 0] 56)).heap.size = w.heap.size + 2 := by simp
 generalize ((w.alloc (.cells #[.int .i64 a, .int .i64 b, .int .i64 c, .int .i64 d, .int .i64 e] 88)).alloc (.cells #[.int .i64 0, .int .i64 0, .int .i64 0, .int .i64 0, .int .i64 0] 56)) = W1 at *
 have B0' := B0
 replace B0 := B0.alloc (.cells #[.int .i64 a, .int .i64 0, .int .i64 0, .int .i64 0, .int .i64 0] 56)
 replace B1 := B1.alloc (.cells #[.int .i64 a, .int .i64 0, .int .i64 0, .int .i64 0, .int .i64 0] 56)
 have B2 := Blk.new W1 [.int .i64 a, .int .i64 0, .int .i64 0, .int .i64 0, .int .i64 0] 56 (g := w.heap.size + 2) hs.symm
 have e0 := (B0'.alloc (.cells #[.int .i64 0, .int .i64 0, .int .i64 0, .int .i64 0, .int .i64 0] 56)).c 0 rfl
 replace HB := HB.alloc HB.size (.cells #[.int .i64 a, .int .i64 0, .int .i64 0, .int .i64 0, .int .i64 0] 56)
 go_upto_region 3 with fail
 clear e0 B0'
 generalize (W1.alloc (.cells #[.int .i64 a, .int .i64 0, .int .i64 0, .int .i64 0, .int .i64 0] 56)) = W2 at *
 clear hs
 have e1 := B0.c 1 rfl; have e2 := B0.c 2 rfl; have e3 := B0.c 3 rfl; have e4 := B0.c 4 rfl
 go_wp2_with fail
 refine (TS _).mono ?_
 rintro r w1 ⟨rfl, hB⟩
 replace B1 := B1.step hB; replace B2 := B2.step hB
 replace HB := HB.trans (hB.mono HB.size)
 clear hB TS e1 e2 e3 e4 B0
 have BN := (((B2.setI 1 (by simp) (.int .i64 b)).setI 2 (by simp) (.int .i64 c)).setI 3 (by simp) (.int .i64 d)).setI 4 (by simp) (.int .i64 e)
 have BM := (((B1.setO (p := ⟨w.heap.size + 2, 1, none⟩) (by show w.heap.size + 1 ≠ w.heap.size + 2; omega) (.int .i64 b)).setO (p := ⟨w.heap.size + 2, 2, none⟩) (by show w.heap.size + 1 ≠ w.heap.size + 2; omega) (.int .i64 c)).setO (p := ⟨w.heap.size + 2, 3, none⟩) (by show w.heap.size + 1 ≠ w.heap.size + 2; omega) (.int .i64 d)).setO (p := ⟨w.heap.size + 2, 4, none⟩) (by show w.heap.size + 1 ≠ w.heap.size + 2; omega) (.int .i64 e)
 have HN := (((HB.setCell (p := ⟨w.heap.size + 2, 1, none⟩) (by show w.heap.size ≤ w.heap.size + 2; omega) (.int .i64 b)).setCell (p := ⟨w.heap.size + 2, 2, none⟩) (by show w.heap.size ≤ w.heap.size + 2; omega) (.int .i64 c)).setCell (p := ⟨w.heap.size + 2, 3, none⟩) (by show w.heap.size ≤ w.heap.size + 2; omega) (.int .i64 d)).setCell (p := ⟨w.heap.size + 2, 4, none⟩) (by show w.heap.size ≤ w.heap.size + 2; omega) (.int .i64 e)
 have d1 := B2.c 1 rfl; have d2 := B2.c 2 rfl; have d3 := B2.c 3 rfl; have d4 := B2.c 4 rfl; have f1 := B2.f 1 rfl; have f2 := B2.f 2 rfl; have f3 := B2.f 3 rfl; have f4 := B2.f 4 rfl
 clear B1 B2 HB
 go_upto_region 4 with fail
 clear d1 d2 d3 d4 f1 f2 f3 f4
 simp only [List.set_cons_zero, List.set_cons_succ] at BN BM
 generalize ((((w1.setCell ⟨w.heap.size + 2, 1, none⟩ (.int .i64 b)).setCell ⟨w.heap.size + 2, 2, none⟩ (.int .i64 c)).setCell ⟨w.heap.size + 2, 3, none⟩ (.int .i64 d)).setCell ⟨w.heap.size + 2, 4, none⟩ (.int .i64 e)) = W3 at *
 have e0 := BN.c 0 rfl; have e1 := BN.c 1 rfl; have e2 := BN.c 2 rfl; have e3 := BN.c 3 rfl; have e4 := BN.c 4 rfl
 have g0 := BM.c 0 rfl; have g1 := BM.c 1 rfl; have g2 := BM.c 2 rfl; have g3 := BM.c 3 rfl; have g4 := BM.c 4 rfl; have h0 := BM.f 0 rfl; have h1 := BM.f 1 rfl; have h2 := BM.f 2 rfl; have h3 := BM.f 3 rfl; have h4 := BM.f 4 rfl
 have BF : Hid (Blk (((((W3.setCell ⟨(w.heap.size + 1), 0, none⟩ (.int .i64 a)).setCell ⟨(w.heap.size + 1), 1, none⟩ (.int .i64 b)).setCell ⟨(w.heap.size + 1), 2, none⟩ (.int .i64 c)).setCell ⟨(w.heap.size + 1), 3, none⟩ (.int .i64 d)).setCell ⟨(w.heap.size + 1), 4, none⟩ (.int .i64 e)) (w.heap.size + 1) [.int .i64 a, .int .i64 b, .int .i64 c, .int .i64 d, .int .i64 e]) := ((((BM.setI 0 (by decide) _).setI 1 (by simp) _).setI 2 (by simp) _).setI 3 (by simp) _).setI 4 (by simp) _
 clear BM BN
 go_wp2
 have r0 := BF.out.c 0 rfl; have r1 := BF.out.c 1 rfl; have r2 := BF.out.c 2 rfl; have r3 := BF.out.c 3 rfl; have r4 := BF.out.c 4 rfl
 refine bodyPost_ret (v := .agg #[.int .i64 a, .int .i64 b, .int .i64 c, .int .i64 d, .int .i64 e]) (by simp [results, Try.results38, go_sem, r0, r1, r2, r3, r4]) rfl ?_
 exact ⟨rfl, ((((HN.setCell (Nat.le_succ _) _).setCell (Nat.le_succ _) _).setCell (Nat.le_succ _) _).setCell (Nat.le_succ _) _).setCell (Nat.le_succ _) _⟩
theorem Try.infoItemZ : (Try.prog.info? 56).map (fun i => (i.zero, i.size, i.bytes)) = some (some (.agg #[.int .i64 0, .int .i64 0, .int .i64 0, .int .i64 0, .int .i64 0]), 5, 40) := by kernel_rfl
theorem make_items (n : Nat) (hn : n ≤ 1048576) (w : World) : (Instr.makeSlice 32 (.int .i64 (n : Int)) (.int .i64 (n : Int))).run Try.prog w = .ok (.slice (some ⟨w.heap.size, 0, none⟩) n n) (w.alloc (.cells (madeCells #[.int .i64 0, .int .i64 0, .int .i64 0, .int .i64 0, .int .i64 0] (n * 5)) 56)) := by
 obtain ⟨i, hi, hzz⟩ := Option.map_eq_some_iff.1 Try.infoItemZ
 simp only [Prod.mk.injEq] at hzz
 obtain ⟨hz, hs, hb⟩ := hzz
 have hr := run_make (P := Try.prog) w 32 56 i (.agg #[.int .i64 0, .int .i64 0, .int .i64 0, .int .i64 0, .int .i64 0]) Try.underlying32 hi hz .i64 .i64 n n (by omega) (Int.le_refl _) (by rw [hb]; omega) (by omega)
 simp only [Int.toNat_natCast, hs, Value.cells] at hr
 exact hr
theorem row_items (w : World) (n : Nat) (T : TypeId) : (w.alloc (.cells (madeCells #[.int .i64 0, .int .i64 0, .int .i64 0, .int .i64 0, .int .i64 0] (n * 5)) T)).rowIs w.heap.size T (n * 5) (fun _ => .int .i64 0) := by
 have h := World.rowIs_alloc w (madeCells #[.int .i64 0, .int .i64 0, .int .i64 0, .int .i64 0, .int .i64 0] (n * 5)) T (fun _ => .int .i64 0) (fun i hi => by
   rw [size_madeCells] at hi
   simp [madeCells, hi]
   rcases (show i % 5 = 0 ∨ i % 5 = 1 ∨ i % 5 = 2 ∨ i % 5 = 3 ∨ i % 5 = 4 by omega) with h | h | h | h | h <;> simp [h])
 rwa [size_madeCells] at h
def xI (Q : QD) (k : Nat) : Int := match k % 5 with
 | 0 => Q.I (k / 5)
 | 1 => (Q.S (k / 5)).1
 | 2 => (Q.S (k / 5)).2.1
 | 3 => (Q.S (k / 5)).2.2.1
 | _ => (Q.S (k / 5)).2.2.2
theorem xI0 (Q : QD) (c : Nat) : xI Q (c * 5) = Q.I c := by unfold xI; rw [show c * 5 % 5 = 0 by omega, show c * 5 / 5 = c by omega]; rfl
theorem xI1 (Q : QD) (c : Nat) : xI Q (c * 5 + 1) = (Q.S c).1 := by unfold xI; rw [show (c * 5 + 1) % 5 = 1 by omega, show (c * 5 + 1) / 5 = c by omega]; rfl
theorem xI2 (Q : QD) (c : Nat) : xI Q (c * 5 + 2) = (Q.S c).2.1 := by unfold xI; rw [show (c * 5 + 2) % 5 = 2 by omega, show (c * 5 + 2) / 5 = c by omega]; rfl
theorem xI3 (Q : QD) (c : Nat) : xI Q (c * 5 + 3) = (Q.S c).2.2.1 := by unfold xI; rw [show (c * 5 + 3) % 5 = 3 by omega, show (c * 5 + 3) / 5 = c by omega]; rfl
theorem xI4 (Q : QD) (c : Nat) : xI Q (c * 5 + 4) = (Q.S c).2.2.2 := by unfold xI; rw [show (c * 5 + 4) % 5 = 4 by omega, show (c * 5 + 4) / 5 = c by omega]; rfl
def cpIt (Q : QD) (c : Nat) (i : Nat) : Value := .int .i64 (if i < c * 5 then xI Q i else 0)
theorem rowI_step {w w' : World} {g n : Nat} {T : TypeId} {f : Nat → Value} (h : w.rowIs g T n f) (hB : Below w.heap.size w w') : w'.rowIs g T n f := h.of_block (hB.block g h.lt)
theorem cpIt_step {w : World} {g n c : Nat} {T : TypeId} {Q : QD} (h : w.rowIs g T (n * 5) (cpIt Q c)) :
   (((((w.setCell ⟨g, c * 5, none⟩ (.int .i64 (Q.I c))).setCell ⟨g, c * 5 + 1, none⟩ (.int .i64 (Q.S c).1)).setCell ⟨g, c * 5 + 2, none⟩ (.int .i64 (Q.S c).2.1)).setCell ⟨g, c * 5 + 3, none⟩ (.int .i64 (Q.S c).2.2.1)).setCell ⟨g, c * 5 + 4, none⟩ (.int .i64 (Q.S c).2.2.2)).rowIs g T (n * 5) (cpIt Q (c + 1)) := by
 refine (((((h.set (c * 5) (.int .i64 (Q.I c))).set (c * 5 + 1) (.int .i64 (Q.S c).1)).set (c * 5 + 2) (.int .i64 (Q.S c).2.1)).set (c * 5 + 3) (.int .i64 (Q.S c).2.2.1)).set (c * 5 + 4) (.int .i64 (Q.S c).2.2.2)).congr (fun i hi => ?_)
 unfold cpIt
 by_cases h4 : i = c * 5 + 4
 · subst h4; rw [xI4]; simp <;> omega
 by_cases h3 : i = c * 5 + 3
 · subst h3; rw [xI3]; simp <;> omega
 by_cases h2 : i = c * 5 + 2
 · subst h2; rw [xI2]; simp <;> omega
 by_cases h1 : i = c * 5 + 1
 · subst h1; rw [xI1]; simp <;> omega
 by_cases h0 : i = c * 5
 · subst h0; rw [xI0]; simp <;> omega
 simp [h4, h3, h2, h1, h0]
 by_cases hl : i < c * 5
 · simp [hl] <;> omega
 · simp [hl] <;> omega
theorem itIn_row {w : World} {g : Nat} {T : TypeId} {Q : QD} (h : w.rowIs g T (Q.m * 5) (fun i => .int .i64 (xI Q i))) : ItIn Q w (some ⟨g, 0, none⟩) (List.range Q.m) := fun j i hj => by
 have hjm : j < Q.m := by have := (List.getElem?_eq_some_iff.1 hj).1; simpa using this
 obtain rfl : j = i := by simpa [hjm] using hj
 refine ⟨g, 0, rfl, h.lt, ?_, ?_, ?_, ?_, ?_⟩
 · rw [Nat.zero_add, h.cell (by omega), xI0]
 · rw [Nat.zero_add, h.cell (by omega), xI1]
 · rw [Nat.zero_add, h.cell (by omega), xI2]
 · rw [Nat.zero_add, h.cell (by omega), xI3]
 · rw [Nat.zero_add, h.cell (by omega), xI4]
set_option maxRecDepth 100000 in
set_option maxHeartbeats 2000000 in
theorem toItemS_any (Q : QD) (ao : Option Addr) (cap : Nat) (hm : Q.m ≤ 1048576) (w : World) (hS : ItIn Q w ao (List.range Q.m)) : Calls Try.prog 19 #[.slice ao Q.m cap] w (fun e w' => ∃ g, e = .returned (.slice (some ⟨g, 0, none⟩) Q.m Q.m) ∧ w.heap.size ≤ g ∧ w'.rowIs g 56 (Q.m * 5) (fun i => .int .i64 (xI Q i)) ∧ Below w.heap.size w w') := by
 obtain ⟨n, hn⟩ : ∃ n, Q.m = n := ⟨_, rfl⟩
 rw [hn] at hm hS ⊢
 clear hn
 have MK := make_items n hm
 have HS : Hid (ItIn Q w ao (List.range n)) := hS
 clear hS
 go_enter Try.func19, Try.ntmps19
 go_wp2_with fail
 have R0 := row_items w n 56
 have B0 : Below w.heap.size w (w.alloc (.cells (madeCells #[.int .i64 0, .int .i64 0, .int .i64 0, .int .i64 0, .int .i64 0] (n * 5)) 56)) := (Below.refl _ _).alloc (Nat.le_refl _) _
 generalize w.alloc (.cells (madeCells #[.int .i64 0, .int .i64 0, .int .i64 0, .int .i64 0, .int .i64 0] (n * 5)) 56) = W1 at *
 have hnI : (n : Int) ≤ 1048576 := by omega
 clear MK
 go_loopw [4] (fun i wr => ∃ c : Nat, c ≤ n ∧ i = .int .i64 c ∧ wr.rowIs w.heap.size 56 (n * 5) (cpIt Q c) ∧ Below w.heap.size w wr) (fun i _ => n - (intOf i).toNat)
 case atStart => exact ⟨0, by omega, rfl, R0.congr (fun i _ => by unfold cpIt; simp), B0⟩
 case round =>
   clear R0 B0
   obtain ⟨c, hc, rfl, R, HB⟩ := hrel
   by_cases hcn : c < n
   · obtain ⟨A, off, rfl, hA, q0, q1, q2, q3, q4⟩ := HS.out.step HB c c (by simp [hcn])
     have hcI : (c : Int) < n := by omega
     have TL := fun w => toItem_any (Q.I c) (Q.S c).1 (Q.S c).2.1 (Q.S c).2.2.1 (Q.S c).2.2.2 w
     go_wp2_with fail
     refine (TL _).mono ?_
     rintro e w1 ⟨rfl, hB⟩
     replace R := rowI_step R hB
     replace HB := HB.trans (hB.mono HB.size)
     have p0 := R.cell (i := c * 5) (by omega); have p1 := R.cell (i := c * 5 + 1) (by omega); have p2 := R.cell (i := c * 5 + 2) (by omega); have p3 := R.cell (i := c * 5 + 3) (by omega); have p4 := R.cell (i := c * 5 + 4) (by omega)
     have f0 := R.frozen (c * 5); have f1 := R.frozen (c * 5 + 1); have f2 := R.frozen (c * 5 + 2); have f3 := R.frozen (c * 5 + 3); have f4 := R.frozen (c * 5 + 4)
     have RN := cpIt_step R
     have HN : Below w.heap.size w (((((w1.setCell ⟨w.heap.size, c * 5, none⟩ (.int .i64 (Q.I c))).setCell ⟨w.heap.size, c * 5 + 1, none⟩ (.int .i64 (Q.S c).1)).setCell ⟨w.heap.size, c * 5 + 2, none⟩ (.int .i64 (Q.S c).2.1)).setCell ⟨w.heap.size, c * 5 + 3, none⟩ (.int .i64 (Q.S c).2.2.1)).setCell ⟨w.heap.size, c * 5 + 4, none⟩ (.int .i64 (Q.S c).2.2.2)) := ((((HB.setCell (by simp) _).setCell (by simp) _).setCell (by simp) _).setCell (by simp) _).setCell (by simp) _
     clear hB q0 q1 q2 q3 q4 hA R HB TL
     go_wp2
     go_roundw
     case rel => exact ⟨c + 1, by omega, by go_num, RN, HN⟩
     case measure => simp [intOf]; omega
   · obtain rfl : c = n := by omega
     have RN : wr.rowIs w.heap.size 56 (c * 5) (fun i => .int .i64 (xI Q i)) := R.congr (fun i hi => by unfold cpIt; rw [if_pos hi])
     clear R HS
     go_wp2
     go_ret
     exact ⟨_, rfl, Nat.le_refl _, RN, HB⟩
set_option maxRecDepth 100000 in
set_option maxHeartbeats 2000000 in
theorem eqItem_same (a b c d e : Int) (w : World) : Calls Try.prog 51 #[.agg #[.int .i64 a, .int .i64 b, .int .i64 c, .int .i64 d, .int .i64 e], .agg #[.int .i64 a, .int .i64 b, .int .i64 c, .int .i64 d, .int .i64 e]] w (VP (.bool true) w) := by
 have B0 := (Blk.new w [.int .i64 a, .int .i64 b, .int .i64 c, .int .i64 d, .int .i64 e] 56 rfl).alloc (.cells #[.int .i64 a, .int .i64 b, .int .i64 c, .int .i64 d, .int .i64 e] 56)
 have B1 := Blk.new (w.alloc (.cells #[.int .i64 a, .int .i64 b, .int .i64 c, .int .i64 d, .int .i64 e] 56)) [.int .i64 a, .int .i64 b, .int .i64 c, .int .i64 d, .int .i64 e] 56 (g := w.heap.size + 1) (by simp)
 have HB := ((Below.refl _ w).alloc (Nat.le_refl _) (.cells #[.int .i64 a, .int .i64 b, .int .i64 c, .int .i64 d, .int .i64 e] 56)).alloc (by simp) (.cells #[.int .i64 a, .int .i64 b, .int .i64 c, .int .i64 d, .int .i64 e] 56)
 go_enter Try.func51, Try.ntmps51
 go_upto_region 1 with fail
 generalize ((w.alloc (.cells #[.int .i64 a, .int .i64 b, .int .i64 c, .int .i64 d, .int .i64 e] 56)).alloc (.cells #[.int .i64 a, .int .i64 b, .int .i64 c, .int .i64 d, .int .i64 e] 56)) = W1 at *
 have p0 := B0.c 0 rfl; have p1 := B0.c 1 rfl; have p2 := B0.c 2 rfl; have p3 := B0.c 3 rfl; have p4 := B0.c 4 rfl
 have q0 := B1.c 0 rfl; have q1 := B1.c 1 rfl; have q2 := B1.c 2 rfl; have q3 := B1.c 3 rfl; have q4 := B1.c 4 rfl
 clear B0 B1
 go_wp2_with fail
 refine (eqSeg_same b c d e _).mono ?_
 rintro r w1 ⟨rfl, hB⟩
 have HB2 := HB.trans (hB.mono HB.size)
 clear hB HB p0 p1 p2 p3 p4 q0 q1 q2 q3 q4
 go_wp2
 go_ret
 exact ⟨rfl, HB2⟩
def VqeI (A off D od n ca cb c : Nat) (a b p d e : Int) (_B : Nat) : Nat → Value → World → Prop
 | 0, v, _ => v = .slice (some ⟨A, off, none⟩) n ca
 | 1, v, _ => v = .int .i64 (c : Int)
 | 2, v, _ => v = .pointer (some ⟨A, off + c * 5, none⟩)
 | 3, v, _ => v = .agg #[.int .i64 a, .int .i64 b, .int .i64 p, .int .i64 d, .int .i64 e]
 | 4, v, _ => v = .slice (some ⟨D, od, none⟩) n cb
 | 5, v, _ => v = .int .i64 (c : Int)
 | 6, v, _ => v = .pointer (some ⟨D, od + c * 5, none⟩)
 | 7, v, _ => v = .agg #[.int .i64 a, .int .i64 b, .int .i64 p, .int .i64 d, .int .i64 e]
 | 8, v, _ => v = .bool true
 | 9, v, _ => v = .bool false
 | _, _, _ => True
theorem VqeI.mono {A off D od n ca cb c : Nat} {a b p d e : Int} {B j : Nat} {v : Value} {W W2 : World} (_hB : Below W.heap.size W W2) (h : VqeI A off D od n ca cb c a b p d e B j v W) : VqeI A off D od n ca cb c a b p d e B j v W2 := by
 unfold VqeI at *
 split <;> simp only at h <;> first | exact h | trivial
set_option maxRecDepth 100000 in
set_option maxHeartbeats 4000000 in
theorem qeI {Q : Exit → Act → World → Prop} {A off D od n ca cb c : Nat} {a b p d e : Int}  {w0 : World} {a0 : Act} {idq : Nat} {t0 t1 t2 t3 t4 t5 t6 t7 t8 t9 : TypeId} {q0 q1 q2 q3 q4 q5 q6 q7 q8 q9 : String}
   (hcn : c < n) (hn : n ≤ 1048576) (h0 : a0.tmps[0]? = some (.slice (some ⟨A, off, none⟩) n ca)) (h1 : a0.tmps[1]? = some (.slice (some ⟨D, od, none⟩) n cb)) (h5 : a0.tmps[5]? = some (.int .i64 (c : Int))) (k0 : w0.cell? ⟨A, off + c * 5, none⟩ = some (.int .i64 a)) (l0 : (⟨A, off + c * 5, none⟩ : Addr).block < w0.heap.size) (k1 : w0.cell? ⟨A, off + c * 5 + 1, none⟩ = some (.int .i64 b)) (l1 : (⟨A, off + c * 5 + 1, none⟩ : Addr).block < w0.heap.size) (k2 : w0.cell? ⟨A, off + c * 5 + 2, none⟩ = some (.int .i64 p)) (l2 : (⟨A, off + c * 5 + 2, none⟩ : Addr).block < w0.heap.size) (k3 : w0.cell? ⟨A, off + c * 5 + 3, none⟩ = some (.int .i64 d)) (l3 : (⟨A, off + c * 5 + 3, none⟩ : Addr).block < w0.heap.size) (k4 : w0.cell? ⟨A, off + c * 5 + 4, none⟩ = some (.int .i64 e)) (l4 : (⟨A, off + c * 5 + 4, none⟩ : Addr).block < w0.heap.size) (k5 : w0.cell? ⟨D, od + c * 5, none⟩ = some (.int .i64 a)) (l5 : (⟨D, od + c * 5, none⟩ : Addr).block < w0.heap.size) (k6 : w0.cell? ⟨D, od + c * 5 + 1, none⟩ = some (.int .i64 b)) (l6 : (⟨D, od + c * 5 + 1, none⟩ : Addr).block < w0.heap.size) (k7 : w0.cell? ⟨D, od + c * 5 + 2, none⟩ = some (.int .i64 p)) (l7 : (⟨D, od + c * 5 + 2, none⟩ : Addr).block < w0.heap.size) (k8 : w0.cell? ⟨D, od + c * 5 + 3, none⟩ = some (.int .i64 d)) (l8 : (⟨D, od + c * 5 + 3, none⟩ : Addr).block < w0.heap.size) (k9 : w0.cell? ⟨D, od + c * 5 + 4, none⟩ = some (.int .i64 e)) (l9 : (⟨D, od + c * 5 + 4, none⟩ : Addr).block < w0.heap.size) (hz : a0.tmps.size = 27)
   (hQ : ∀ aq W, aq.tmps.size = a0.tmps.size → aq.defers = a0.defers → (∀ e, e ∉ ([17, 18, 19, 20, 21, 22, 23, 24, 25, 26] : List Nat) → aq.tmps[e]? = a0.tmps[e]?) → VqeI A off D od n ca cb c a b p d e w0.heap.size 9 (aq.tmps.getD 26 undef) W → Below w0.heap.size w0 W → Q .normal aq W) :
   (Code.region idq #[{ dst := some 17, op := Op.move (Operand.tmp 0), type := t0, pos := q0, after := #[], guard := none },
   { dst := some 18, op := Op.move (Operand.tmp 5), type := t1, pos := q1, after := #[], guard := none },
   { dst := some 19, op := Op.indexAddr 32 (Operand.tmp 17) (Operand.tmp 18), type := t2, pos := q2, after := #[{ on := 0, ground := Ground.data }, { on := 1, ground := Ground.data }], guard := none },
   { dst := some 20, op := Op.load 56 (Operand.tmp 19), type := t3, pos := q3, after := #[{ on := 2, ground := Ground.data }], guard := none },
   { dst := some 21, op := Op.move (Operand.tmp 1), type := t4, pos := q4, after := #[], guard := none },
   { dst := some 22, op := Op.move (Operand.tmp 5), type := t5, pos := q5, after := #[], guard := none },
   { dst := some 23, op := Op.indexAddr 32 (Operand.tmp 21) (Operand.tmp 22), type := t6, pos := q6, after := #[{ on := 4, ground := Ground.data }, { on := 5, ground := Ground.data }], guard := none },
   { dst := some 24, op := Op.load 56 (Operand.tmp 23), type := t7, pos := q7, after := #[{ on := 6, ground := Ground.data }], guard := none },
   { dst := some 25, op := Op.call { callee := Callee.value (Operand.func 51), args := #[Operand.tmp 20, Operand.tmp 24], argTypes := #[56, 56] }, type := t8, pos := q8, after := #[{ on := 3, ground := Ground.data }, { on := 7, ground := Ground.data }], guard := none },
   { dst := some 26, op := Op.unOp UnOp.not 4 (Operand.tmp 25), type := t9, pos := q9, after := #[{ on := 8, ground := Ground.data }], guard := none }] true).wp Try.prog Q a0 w0 := by
 have hS : distS [some 17, some 18, some 19, some 20, some 21, some 22, some 23, some 24, some 25, some 26] = true := rfl
 refine wp_region_q (by kernel_rfl) w0.heap.size [some 17, some 18, some 19, some 20, some 21, some 22, some 23, some 24, some 25, some 26] (VqeI A off D od n ca cb c a b p d e w0.heap.size) rfl ?_ ?_
 · intro Q lq aq W iq oq hJ hl ho hall
   have hJ2 := hJ
   obtain ⟨z1, z2, z3, z4, z5, z6, z7⟩ := hJ
   have g0 : aq.tmps.getD 0 undef = .slice (some ⟨A, off, none⟩) n ca := by rw [Array.getD_eq_getD_getElem?, z4 0 (by decide), h0]; rfl
   have g1 : aq.tmps.getD 1 undef = .slice (some ⟨D, od, none⟩) n cb := by rw [Array.getD_eq_getD_getElem?, z4 1 (by decide), h1]; rfl
   have g5 : aq.tmps.getD 5 undef = .int .i64 (c : Int) := by rw [Array.getD_eq_getD_getElem?, z4 5 (by decide), h5]; rfl
   have c0 : W.cell? ⟨A, off + c * 5, none⟩ = some (.int .i64 a) := (z5.cell l0).trans k0
   have c1 : W.cell? ⟨A, off + c * 5 + 1, none⟩ = some (.int .i64 b) := (z5.cell l1).trans k1
   have c2 : W.cell? ⟨A, off + c * 5 + 2, none⟩ = some (.int .i64 p) := (z5.cell l2).trans k2
   have c3 : W.cell? ⟨A, off + c * 5 + 3, none⟩ = some (.int .i64 d) := (z5.cell l3).trans k3
   have c4 : W.cell? ⟨A, off + c * 5 + 4, none⟩ = some (.int .i64 e) := (z5.cell l4).trans k4
   have c5 : W.cell? ⟨D, od + c * 5, none⟩ = some (.int .i64 a) := (z5.cell l5).trans k5
   have c6 : W.cell? ⟨D, od + c * 5 + 1, none⟩ = some (.int .i64 b) := (z5.cell l6).trans k6
   have c7 : W.cell? ⟨D, od + c * 5 + 2, none⟩ = some (.int .i64 p) := (z5.cell l7).trans k7
   have c8 : W.cell? ⟨D, od + c * 5 + 3, none⟩ = some (.int .i64 d) := (z5.cell l8).trans k8
   have c9 : W.cell? ⟨D, od + c * 5 + 4, none⟩ = some (.int .i64 e) := (z5.cell l9).trans k9
   match iq, ho with
   | 0, ho =>
     cases ho
     refine wpOp_of rfl rfl ?_
     have hK := fun (v : Value) (W2 : World) hW hT hv => hJ2.put hS 0 17 rfl (by omega) (W' := W2) hW hT v hv
     clear ho hall hl hQ
     generalize InvQ _ _ _ w0 a0 (lq.setIfInBounds 0 true) = K at hK ⊢
     clear hJ2 hS z1 z2 z3 z4 z6 z7
     go_simp
     exact hK _ _ z5 (fun _ _ h => h) rfl
   | 1, ho =>
     cases ho
     refine wpOp_of rfl rfl ?_
     have hK := fun (v : Value) (W2 : World) hW hT hv => hJ2.put hS 1 18 rfl (by omega) (W' := W2) hW hT v hv
     clear ho hall hl hQ
     generalize InvQ _ _ _ w0 a0 (lq.setIfInBounds 1 true) = K at hK ⊢
     clear hJ2 hS z1 z2 z3 z4 z6 z7
     go_simp
     exact hK _ _ z5 (fun _ _ h => h) rfl
   | 2, ho =>
     cases ho
     refine wpOp_of rfl rfl ?_
     have f0 : (aq.tmps.getD 17 undef) = .slice (some ⟨A, off, none⟩) n ca := z6 0 17 (hall { on := 0, ground := Ground.data } (by simp) rfl) rfl
     have f1 : (aq.tmps.getD 18 undef) = .int .i64 (c : Int) := z6 1 18 (hall { on := 1, ground := Ground.data } (by simp) rfl) rfl
     have hcI : (c : Int) < n := by omega
     have hnI : (n : Int) ≤ 1048576 := by omega
     have hK := fun (v : Value) (W2 : World) hW hT hv => hJ2.put hS 2 19 rfl (by omega) (W' := W2) hW hT v hv
     clear ho hall hl hQ
     generalize InvQ _ _ _ w0 a0 (lq.setIfInBounds 2 true) = K at hK ⊢
     clear hJ2 hS z1 z2 z3 z4 z6 z7
     go_simp
     exact hK _ _ z5 (fun _ _ h => h) rfl
   | 3, ho =>
     cases ho
     refine wpOp_of rfl rfl ?_
     have f2 : (aq.tmps.getD 19 undef) = .pointer (some ⟨A, off + c * 5, none⟩) := z6 2 19 (hall { on := 2, ground := Ground.data } (by simp) rfl) rfl
     have hK := fun (v : Value) (W2 : World) hW hT hv => hJ2.put hS 3 20 rfl (by omega) (W' := W2) hW hT v hv
     clear ho hall hl hQ
     generalize InvQ _ _ _ w0 a0 (lq.setIfInBounds 3 true) = K at hK ⊢
     clear hJ2 hS z1 z2 z3 z4 z6 z7
     go_simp
     exact hK _ _ z5 (fun _ _ h => h) rfl
   | 4, ho =>
     cases ho
     refine wpOp_of rfl rfl ?_
     have hK := fun (v : Value) (W2 : World) hW hT hv => hJ2.put hS 4 21 rfl (by omega) (W' := W2) hW hT v hv
     clear ho hall hl hQ
     generalize InvQ _ _ _ w0 a0 (lq.setIfInBounds 4 true) = K at hK ⊢
     clear hJ2 hS z1 z2 z3 z4 z6 z7
     go_simp
     exact hK _ _ z5 (fun _ _ h => h) rfl
   | 5, ho =>
     cases ho
     refine wpOp_of rfl rfl ?_
     have hK := fun (v : Value) (W2 : World) hW hT hv => hJ2.put hS 5 22 rfl (by omega) (W' := W2) hW hT v hv
     clear ho hall hl hQ
     generalize InvQ _ _ _ w0 a0 (lq.setIfInBounds 5 true) = K at hK ⊢
     clear hJ2 hS z1 z2 z3 z4 z6 z7
     go_simp
     exact hK _ _ z5 (fun _ _ h => h) rfl
   | 6, ho =>
     cases ho
     refine wpOp_of rfl rfl ?_
     have f4 : (aq.tmps.getD 21 undef) = .slice (some ⟨D, od, none⟩) n cb := z6 4 21 (hall { on := 4, ground := Ground.data } (by simp) rfl) rfl
     have f5 : (aq.tmps.getD 22 undef) = .int .i64 (c : Int) := z6 5 22 (hall { on := 5, ground := Ground.data } (by simp) rfl) rfl
     have hcI : (c : Int) < n := by omega
     have hnI : (n : Int) ≤ 1048576 := by omega
     have hK := fun (v : Value) (W2 : World) hW hT hv => hJ2.put hS 6 23 rfl (by omega) (W' := W2) hW hT v hv
     clear ho hall hl hQ
     generalize InvQ _ _ _ w0 a0 (lq.setIfInBounds 6 true) = K at hK ⊢
     clear hJ2 hS z1 z2 z3 z4 z6 z7
     go_simp
     exact hK _ _ z5 (fun _ _ h => h) rfl
   | 7, ho =>
     cases ho
     refine wpOp_of rfl rfl ?_
     have f6 : (aq.tmps.getD 23 undef) = .pointer (some ⟨D, od + c * 5, none⟩) := z6 6 23 (hall { on := 6, ground := Ground.data } (by simp) rfl) rfl
     have hK := fun (v : Value) (W2 : World) hW hT hv => hJ2.put hS 7 24 rfl (by omega) (W' := W2) hW hT v hv
     clear ho hall hl hQ
     generalize InvQ _ _ _ w0 a0 (lq.setIfInBounds 7 true) = K at hK ⊢
     clear hJ2 hS z1 z2 z3 z4 z6 z7
     go_simp
     exact hK _ _ z5 (fun _ _ h => h) rfl
   | 8, ho =>
     cases ho
     refine wpOp_of rfl rfl ?_
     have f3 : (aq.tmps.getD 20 undef) = .agg #[.int .i64 a, .int .i64 b, .int .i64 p, .int .i64 d, .int .i64 e] := z6 3 20 (hall { on := 3, ground := Ground.data } (by simp) rfl) rfl
     have f7 : (aq.tmps.getD 24 undef) = .agg #[.int .i64 a, .int .i64 b, .int .i64 p, .int .i64 d, .int .i64 e] := z6 7 24 (hall { on := 7, ground := Ground.data } (by simp) rfl) rfl
     have hK := fun (v : Value) (W2 : World) hW hT hv => hJ2.put hS 8 25 rfl (by omega) (W' := W2) hW hT v hv
     clear ho hall hl hQ
     generalize InvQ _ _ _ w0 a0 (lq.setIfInBounds 8 true) = K at hK ⊢
     clear hJ2 hS z1 z2 z3 z4 z6 z7
     go_simp
     refine (eqItem_same a b p d e W).mono ?_
     rintro e v1 ⟨rfl, hBv⟩
     exact hK _ _ (z5.trans (hBv.mono z5.size)) (fun j v h => h.mono hBv) rfl
   | 9, ho =>
     cases ho
     refine wpOp_of rfl rfl ?_
     have f8 : (aq.tmps.getD 25 undef) = .bool true := z6 8 25 (hall { on := 8, ground := Ground.data } (by simp) rfl) rfl
     have hK := fun (v : Value) (W2 : World) hW hT hv => hJ2.put hS 9 26 rfl (by omega) (W' := W2) hW hT v hv
     clear ho hall hl hQ
     generalize InvQ _ _ _ w0 a0 (lq.setIfInBounds 9 true) = K at hK ⊢
     clear hJ2 hS z1 z2 z3 z4 z6 z7
     go_simp
     exact hK _ _ z5 (fun _ _ h => h) rfl
   | iq + 10, ho => simp at ho
 · intro lq aq W hJ hr
   obtain ⟨z1, z2, z3, z4, z5, z6, z7⟩ := hJ
   have hl := listed_of hr [0, 1, 2, 3, 4, 5, 6, 7, 8, 9] [] (by simp) (by kernel_rfl) (by rw [z1]; decide)
   exact hQ aq W z2 z3 (fun e he => z4 e (by simpa using he)) (z6 9 26 (hl 9 (by simp)) rfl) z5
set_option maxRecDepth 100000 in
set_option maxHeartbeats 2000000 in
theorem eqItemS_any (Q : QD) (ao bo : Option Addr) (ca cb : Nat) (hm : Q.m ≤ 1048576) (w : World) (hA : ItIn Q w ao (List.range Q.m)) (hC : ItIn Q w bo (List.range Q.m)) : Calls Try.prog 26 #[.slice ao Q.m ca, .slice bo Q.m cb] w (VP (.bool true) w) := by
 obtain ⟨n, hn⟩ : ∃ n, Q.m = n := ⟨_, rfl⟩
 rw [hn] at hm hA hC ⊢
 clear hn
 have HA : Hid (ItIn Q w ao (List.range n)) := hA
 have HC : Hid (ItIn Q w bo (List.range n)) := hC
 have hnI : (n : Int) ≤ 1048576 := by omega
 clear hA hC
 go_enter Try.func26, Try.ntmps26
 go_wp2_with fail
 go_loopw [5] (fun i wr => ∃ c : Nat, c ≤ n ∧ i = .int .i64 c ∧ Below w.heap.size w wr) (fun i _ => n - (intOf i).toNat)
 case atStart => exact ⟨0, by omega, rfl, Below.refl _ _⟩
 case round =>
   obtain ⟨c, hc, rfl, HB⟩ := hrel
   by_cases hcn : c < n
   · obtain ⟨A, off, rfl, hA, q0, q1, q2, q3, q4⟩ := HA.out.step HB c c (by simp [hcn])
     obtain ⟨D, od, rfl, hD, r0, r1, r2, r3, r4⟩ := HC.out.step HB c c (by simp [hcn])
     have hcI : (c : Int) < n := by omega
     go_upto_region 6 with fail
     refine qeI (A := A) (off := off) (D := D) (od := od) (n := n) (ca := ca) (cb := cb) (c := c) (a := Q.I c) (b := (Q.S c).1) (p := (Q.S c).2.1) (d := (Q.S c).2.2.1) (e := (Q.S c).2.2.2) hcn hm rfl rfl rfl q0 hA q1 hA q2 hA q3 hA q4 hA r0 hD r1 hD r2 hD r3 hD r4 hD rfl ?_
     rintro ⟨tm, df⟩ Wz hz hdf hoff hx hBz
     simp only at hz hdf hoff hx
     change tm.getD 26 undef = .bool false at hx
     subst hdf
     have htm := tmps_fold [17, 18, 19, 20, 21, 22, 23, 24, 25, 26] tm _ hz hoff
     simp only [List.foldl, List.setIfInBounds_toArray, List.set_cons_zero, List.set_cons_succ, hx] at htm
     clear hz hoff
     generalize tm.getD 17 undef = pz0, tm.getD 18 undef = pz1, tm.getD 19 undef = pz2, tm.getD 20 undef = pz3, tm.getD 21 undef = pz4, tm.getD 22 undef = pz5, tm.getD 23 undef = pz6, tm.getD 24 undef = pz7, tm.getD 25 undef = pz8 at htm
     clear hx
     subst htm
     have HB2 := HB.trans (hBz.mono HB.size)
     clear HB hBz q0 q1 q2 q3 q4 r0 r1 r2 r3 r4
     go_wp2
     go_roundw
     case rel => exact ⟨c + 1, by omega, by go_num, HB2⟩
     case measure => simp [intOf]; omega
   · obtain rfl : c = n := by omega
     clear HA HC
     go_wp2
     go_ret
     exact ⟨rfl, HB⟩
set_option maxRecDepth 100000 in
set_option maxHeartbeats 2000000 in
theorem toBlock_any (x y z : Int) (t : Bool) (ao : Option Addr) (m cap : Nat) (e : Nat → Int) (hm : m ≤ 1048576) (w : World) (hS : NoIn w ao m e) : Calls Try.prog 39 #[.agg #[.int .i64 x, .int .i64 y, .int .i64 z, .bool t, .slice ao m cap]] w (fun r w' => ∃ g, r = .returned (.agg #[.int .i64 x, .int .i64 y, .int .i64 z, .bool t, .slice (some ⟨g, 0, none⟩) m m]) ∧ w.heap.size < g ∧ w'.rowIs g 2 m (fun i => .int .i64 (e i)) ∧ Below w.heap.size w w') := by
 have B0 : Blk ((w.alloc (.cells #[.int .i64 x, .int .i64 y, .int .i64 z, .bool t, .slice ao m cap] 74)).alloc (.cells #[.int .i64 0, .int .i64 0, .int .i64 0, .bool false, .slice none 0 0] 89)) w.heap.size [.int .i64 x, .int .i64 y, .int .i64 z, .bool t, .slice ao m cap] := (Blk.new w [.int .i64 x, .int .i64 y, .int .i64 z, .bool t, .slice ao m cap] 74 rfl).alloc _
 have B1 : Blk ((w.alloc (.cells #[.int .i64 x, .int .i64 y, .int .i64 z, .bool t, .slice ao m cap] 74)).alloc (.cells #[.int .i64 0, .int .i64 0, .int .i64 0, .bool false, .slice none 0 0] 89)) (w.heap.size + 1) [.int .i64 0, .int .i64 0, .int .i64 0, .bool false, .slice none 0 0] := Blk.new (w.alloc (.cells #[.int .i64 x, .int .i64 y, .int .i64 z, .bool t, .slice ao m cap] 74)) [.int .i64 0, .int .i64 0, .int .i64 0, .bool false, .slice none 0 0] 89 (by simp)
 have HB : Below w.heap.size w ((w.alloc (.cells #[.int .i64 x, .int .i64 y, .int .i64 z, .bool t, .slice ao m cap] 74)).alloc (.cells #[.int .i64 0, .int .i64 0, .int .i64 0, .bool false, .slice none 0 0] 89)) := ((Below.refl _ w).alloc (Nat.le_refl _) _).alloc (by simp) _
 have HS : Hid (NoIn ((w.alloc (.cells #[.int .i64 x, .int .i64 y, .int .i64 z, .bool t, .slice ao m cap] 74)).alloc (.cells #[.int .i64 0, .int .i64 0, .int .i64 0, .bool false, .slice none 0 0] 89)) ao m e) := hS.step HB
 have TN := fun w h => toNoS_any ao m cap e hm w h
 clear hS
 go_enter Try.func39, Try.ntmps39
 go_upto_region 1 with fail
 have hs : ((w.alloc (.cells #[.int .i64 x, .int .i64 y, .int .i64 z, .bool t, .slice ao m cap] 74)).alloc (.cells #[.int .i64 0, .int .i64 0, .int .i64 0, .bool false, .slice none 0 0] 89)).heap.size = w.heap.size + 2 := by simp
 generalize ((w.alloc (.cells #[.int .i64 x, .int .i64 y, .int .i64 z, .bool t, .slice ao m cap] 74)).alloc (.cells #[.int .i64 0, .int .i64 0, .int .i64 0, .bool false, .slice none 0 0] 89)) = W1 at *
 have e0 := (B0.alloc (.cells #[.int .i64 0, .int .i64 0, .int .i64 0, .bool false, .slice none 0 0] 89)).c 0 rfl; have e1 := (B0.alloc (.cells #[.int .i64 x, .int .i64 0, .int .i64 0, .bool false, .slice none 0 0] 89)).c 1 rfl; have e2 := (B0.alloc (.cells #[.int .i64 x, .int .i64 y, .int .i64 0, .bool false, .slice none 0 0] 89)).c 2 rfl; have e3 := (B0.alloc (.cells #[.int .i64 x, .int .i64 y, .int .i64 z, .bool false, .slice none 0 0] 89)).c 3 rfl
 replace B0 := B0.alloc (.cells #[.int .i64 x, .int .i64 y, .int .i64 z, .bool t, .slice none 0 0] 89)
 replace B1 := B1.alloc (.cells #[.int .i64 x, .int .i64 y, .int .i64 z, .bool t, .slice none 0 0] 89)
 have B2 := Blk.new W1 [.int .i64 x, .int .i64 y, .int .i64 z, .bool t, .slice none 0 0] 89 (g := w.heap.size + 2) hs.symm
 replace HS : Hid (NoIn (W1.alloc (.cells #[.int .i64 x, .int .i64 y, .int .i64 z, .bool t, .slice none 0 0] 89)) ao m e) := HS.out.step ((Below.refl _ _).alloc (Nat.le_refl _) _)
 replace HB := HB.alloc HB.size (.cells #[.int .i64 x, .int .i64 y, .int .i64 z, .bool t, .slice none 0 0] 89)
 go_upto_region 6 with fail
 clear e0 e1 e2 e3
 generalize (W1.alloc (.cells #[.int .i64 x, .int .i64 y, .int .i64 z, .bool t, .slice none 0 0] 89)) = W2 at *
 clear hs
 have hl2 := B2.lt
 have e4 := B0.c 4 rfl
 go_wp2_with fail
 refine (TN _ HS.out).mono ?_
 rintro r w1 ⟨g, rfl, hg, R, hB⟩
 replace B1 := B1.step hB; replace B2 := B2.step hB
 replace HB := HB.trans (hB.mono HB.size)
 clear hB TN e4 B0 HS
 have BN := B2.setI 4 (by simp) (.slice (some ⟨g, 0, none⟩) m m)
 have BM := B1.setO (p := ⟨w.heap.size + 2, 4, none⟩) (by show w.heap.size + 1 ≠ w.heap.size + 2; omega) (.slice (some ⟨g, 0, none⟩) m m)
 have HN := HB.setCell (p := ⟨w.heap.size + 2, 4, none⟩) (by show w.heap.size ≤ w.heap.size + 2; omega) (.slice (some ⟨g, 0, none⟩) m m)
 have RN : (w1.setCell ⟨w.heap.size + 2, 4, none⟩ (.slice (some ⟨g, 0, none⟩) m m)).rowIs g 2 m (fun i => .int .i64 (e i)) := R.setOther (by show g ≠ w.heap.size + 2; omega) _
 have d4 := B2.c 4 rfl; have f4 := B2.f 4 rfl
 clear B1 B2 HB R
 go_upto_region 7 with fail
 clear d4 f4
 simp only [List.set_cons_zero, List.set_cons_succ] at BN
 generalize (w1.setCell ⟨w.heap.size + 2, 4, none⟩ (.slice (some ⟨g, 0, none⟩) m m)) = W3 at *
 have e0 := BN.c 0 rfl; have e1 := BN.c 1 rfl; have e2 := BN.c 2 rfl; have e3 := BN.c 3 rfl; have e4 := BN.c 4 rfl
 have g0 := BM.c 0 rfl; have g1 := BM.c 1 rfl; have g2 := BM.c 2 rfl; have g3 := BM.c 3 rfl; have g4 := BM.c 4 rfl; have h0 := BM.f 0 rfl; have h1 := BM.f 1 rfl; have h2 := BM.f 2 rfl; have h3 := BM.f 3 rfl; have h4 := BM.f 4 rfl
 have BF : Hid (Blk (((((W3.setCell ⟨(w.heap.size + 1), 0, none⟩ (.int .i64 x)).setCell ⟨(w.heap.size + 1), 1, none⟩ (.int .i64 y)).setCell ⟨(w.heap.size + 1), 2, none⟩ (.int .i64 z)).setCell ⟨(w.heap.size + 1), 3, none⟩ (.bool t)).setCell ⟨(w.heap.size + 1), 4, none⟩ (.slice (some ⟨g, 0, none⟩) m m)) (w.heap.size + 1) [.int .i64 x, .int .i64 y, .int .i64 z, .bool t, .slice (some ⟨g, 0, none⟩) m m]) := ((((BM.setI 0 (by decide) _).setI 1 (by simp) _).setI 2 (by simp) _).setI 3 (by simp) _).setI 4 (by simp) _
 have RF : Hid ((((((W3.setCell ⟨(w.heap.size + 1), 0, none⟩ (.int .i64 x)).setCell ⟨(w.heap.size + 1), 1, none⟩ (.int .i64 y)).setCell ⟨(w.heap.size + 1), 2, none⟩ (.int .i64 z)).setCell ⟨(w.heap.size + 1), 3, none⟩ (.bool t)).setCell ⟨(w.heap.size + 1), 4, none⟩ (.slice (some ⟨g, 0, none⟩) m m)).rowIs g 2 m (fun i => .int .i64 (e i))) := by
   have hne : g ≠ w.heap.size + 1 := by omega
   exact ((((RN.setOther hne _).setOther hne _).setOther hne _).setOther hne _).setOther hne _
 clear BM BN RN
 go_wp2
 have r0 := BF.out.c 0 rfl; have r1 := BF.out.c 1 rfl; have r2 := BF.out.c 2 rfl; have r3 := BF.out.c 3 rfl; have r4 := BF.out.c 4 rfl
 refine bodyPost_ret (v := .agg #[.int .i64 x, .int .i64 y, .int .i64 z, .bool t, .slice (some ⟨g, 0, none⟩) m m]) (by simp [results, Try.results39, go_sem, r0, r1, r2, r3, r4]) rfl ?_
 exact ⟨g, rfl, by omega, RF.out, ((((HN.setCell (Nat.le_succ _) _).setCell (Nat.le_succ _) _).setCell (Nat.le_succ _) _).setCell (Nat.le_succ _) _).setCell (Nat.le_succ _) _⟩
def blV (Q : QD) (S : Nat → Nat) (k : Nat) : Value := match k % 5 with
 | 0 => .int .i64 (Q.X (k / 5))
 | 1 => .int .i64 (Q.Y (k / 5))
 | 2 => .int .i64 (Q.Z (k / 5))
 | 3 => .bool (Q.T (k / 5))
 | _ => .slice (some ⟨S (k / 5), 0, none⟩) (Q.L (k / 5)) (Q.L (k / 5))
def blZ (k : Nat) : Value := match k % 5 with
 | 3 => .bool false
 | 4 => .slice none 0 0
 | _ => .int .i64 0
theorem blV0 (Q : QD) (S : Nat → Nat) (c : Nat) : blV Q S (c * 5) = .int .i64 (Q.X c) := by unfold blV; rw [show (c * 5) % 5 = 0 by omega, show (c * 5) / 5 = c by omega]; rfl
theorem blV1 (Q : QD) (S : Nat → Nat) (c : Nat) : blV Q S (c * 5 + 1) = .int .i64 (Q.Y c) := by unfold blV; rw [show (c * 5 + 1) % 5 = 1 by omega, show (c * 5 + 1) / 5 = c by omega]; rfl
theorem blV2 (Q : QD) (S : Nat → Nat) (c : Nat) : blV Q S (c * 5 + 2) = .int .i64 (Q.Z c) := by unfold blV; rw [show (c * 5 + 2) % 5 = 2 by omega, show (c * 5 + 2) / 5 = c by omega]; rfl
theorem blV3 (Q : QD) (S : Nat → Nat) (c : Nat) : blV Q S (c * 5 + 3) = .bool (Q.T c) := by unfold blV; rw [show (c * 5 + 3) % 5 = 3 by omega, show (c * 5 + 3) / 5 = c by omega]; rfl
theorem blV4 (Q : QD) (S : Nat → Nat) (c : Nat) : blV Q S (c * 5 + 4) = .slice (some ⟨S c, 0, none⟩) (Q.L c) (Q.L c) := by unfold blV; rw [show (c * 5 + 4) % 5 = 4 by omega, show (c * 5 + 4) / 5 = c by omega]; rfl
theorem Try.infoBlk : (Try.prog.info? 89).map (fun i => (i.zero, i.size, i.bytes)) = some (some (.agg #[.int .i64 0, .int .i64 0, .int .i64 0, .bool false, .slice none 0 0]), 5, 56) := by kernel_rfl
theorem make_blocks (n : Nat) (hn : n ≤ 1048576) (w : World) : (Instr.makeSlice 33 (.int .i64 (n : Int)) (.int .i64 (n : Int))).run Try.prog w = .ok (.slice (some ⟨w.heap.size, 0, none⟩) n n) (w.alloc (.cells (madeCells #[.int .i64 0, .int .i64 0, .int .i64 0, .bool false, .slice none 0 0] (n * 5)) 89)) := by
 obtain ⟨i, hi, hzz⟩ := Option.map_eq_some_iff.1 Try.infoBlk
 simp only [Prod.mk.injEq] at hzz
 obtain ⟨hz, hs, hb⟩ := hzz
 have hr := run_make (P := Try.prog) w 33 89 i (.agg #[.int .i64 0, .int .i64 0, .int .i64 0, .bool false, .slice none 0 0]) Try.underlying33 hi hz .i64 .i64 n n (by omega) (Int.le_refl _) (by rw [hb]; omega) (by omega)
 simp only [Int.toNat_natCast, hs, Value.cells] at hr
 exact hr
theorem row_blocks (w : World) (n : Nat) (T : TypeId) : (w.alloc (.cells (madeCells #[.int .i64 0, .int .i64 0, .int .i64 0, .bool false, .slice none 0 0] (n * 5)) T)).rowIs w.heap.size T (n * 5) blZ := by
 have h := World.rowIs_alloc w (madeCells #[.int .i64 0, .int .i64 0, .int .i64 0, .bool false, .slice none 0 0] (n * 5)) T blZ (fun i hi => by
   rw [size_madeCells] at hi
   unfold blZ
   simp [madeCells, hi]
   rcases (show i % 5 = 0 ∨ i % 5 = 1 ∨ i % 5 = 2 ∨ i % 5 = 3 ∨ i % 5 = 4 by omega) with h | h | h | h | h <;> simp [h])
 rwa [size_madeCells] at h
def cpBl (Q : QD) (S : Nat → Nat) (c : Nat) (i : Nat) : Value := if i < c * 5 then blV Q S i else blZ i
theorem blV_same {Q : QD} {S S' : Nat → Nat} {c i : Nat} (h : ∀ j, j < c → S' j = S j) (hi : i < c * 5) : blV Q S' i = blV Q S i := by
 unfold blV
 rw [h (i / 5) (by omega)]
theorem cpBl_step {w : World} {g n c b : Nat} {T : TypeId} {Q : QD} {S : Nat → Nat} (h : w.rowIs g T (n * 5) (cpBl Q S c)) :
   (((((w.setCell ⟨g, c * 5, none⟩ (.int .i64 (Q.X c))).setCell ⟨g, c * 5 + 1, none⟩ (.int .i64 (Q.Y c))).setCell ⟨g, c * 5 + 2, none⟩ (.int .i64 (Q.Z c))).setCell ⟨g, c * 5 + 3, none⟩ (.bool (Q.T c))).setCell ⟨g, c * 5 + 4, none⟩ (.slice (some ⟨b, 0, none⟩) (Q.L c) (Q.L c))).rowIs g T (n * 5) (cpBl Q (fun j => if j = c then b else S j) (c + 1)) := by
 refine (((((h.set (c * 5) _).set (c * 5 + 1) _).set (c * 5 + 2) _).set (c * 5 + 3) _).set (c * 5 + 4) _).congr (fun i hi => ?_)
 unfold cpBl
 by_cases h4 : i = c * 5 + 4
 · subst h4; rw [if_pos rfl, if_pos (by omega), blV4]; simp
 by_cases h3 : i = c * 5 + 3
 · subst h3; rw [if_neg (by omega), if_pos rfl, if_pos (by omega), blV3]
 by_cases h2 : i = c * 5 + 2
 · subst h2; rw [if_neg (by omega), if_neg (by omega), if_pos rfl, if_pos (by omega), blV2]
 by_cases h1 : i = c * 5 + 1
 · subst h1; rw [if_neg (by omega), if_neg (by omega), if_neg (by omega), if_pos rfl, if_pos (by omega), blV1]
 by_cases h0 : i = c * 5
 · subst h0; rw [if_neg (by omega), if_neg (by omega), if_neg (by omega), if_neg (by omega), if_pos rfl, if_pos (by omega), blV0]
 rw [if_neg h4, if_neg h3, if_neg h2, if_neg h1, if_neg h0]
 by_cases hl : i < c * 5
 · rw [if_pos hl, if_pos (by omega)]
   exact (blV_same (fun j hj => if_neg (by omega)) hl).symm
 · rw [if_neg hl, if_neg (by omega)]
structure BlRow (Q : QD) (w : World) (b g : Nat) (S : Nat → Nat) : Prop where
 row : w.rowIs g 89 (Q.N * 5) (blV Q S)
 lt : b ≤ g
 ids : ∀ j, j < Q.N → b ≤ S j ∧ S j ≠ g ∧ w.rowIs (S j) 2 (Q.L j) (fun i => .int .i64 (Q.E j i))
 up : ∀ i j, i < j → j < Q.N → S i < S j
theorem BlRow.in {Q : QD} {w : World} {b g : Nat} {S : Nat → Nat} (h : BlRow Q w b g S) : BlIn Q w g 0 (fun i => (some ⟨S i, 0, none⟩, Q.L i)) := fun i hi => by
 refine ⟨h.row.lt, ?_, ?_, ?_, ?_, ?_, noIn_row (h.ids i hi).2.2⟩
 · rw [Nat.zero_add, h.row.cell (by omega), blV0]
 · rw [Nat.zero_add, h.row.cell (by omega), blV1]
 · rw [Nat.zero_add, h.row.cell (by omega), blV2]
 · rw [Nat.zero_add, h.row.cell (by omega), blV3]
 · rw [Nat.zero_add, h.row.cell (by omega), blV4]
theorem BlRow.step {Q : QD} {w w' : World} {b g : Nat} {S : Nat → Nat} (h : BlRow Q w b g S) (hB : Below w.heap.size w w') : BlRow Q w' b g S :=
 ⟨rowI_step h.row hB, h.lt, fun j hj => ⟨(h.ids j hj).1, (h.ids j hj).2.1, rowI_step (h.ids j hj).2.2 hB⟩, h.up⟩
set_option maxRecDepth 100000 in
set_option maxHeartbeats 4000000 in
theorem toBlockS_any (Q : QD) (bo : Option Addr) (cap A off : Nat) (so : Nat → Option Addr × Nat) (hN : Q.N ≤ 1048576) (hL : ∀ i, i < Q.N → Q.L i ≤ 1048576) (hbo : 0 < Q.N → bo = some ⟨A, off, none⟩) (w : World) (hBl : BlIn Q w A off so) : Calls Try.prog 20 #[.slice bo Q.N cap] w (fun r w' => ∃ g S, r = .returned (.slice (some ⟨g, 0, none⟩) Q.N Q.N) ∧ BlRow Q w' w.heap.size g S ∧ Below w.heap.size w w') := by
 obtain ⟨n, hn⟩ : ∃ n, Q.N = n := ⟨_, rfl⟩
 have HN : Hid (Q.N = n) := hn
 have HL : Hid (∀ i, i < n → Q.L i ≤ 1048576) := by rw [← hn]; exact hL
 have HBO : Hid (0 < n → bo = some ⟨A, off, none⟩) := by rw [← hn]; exact hbo
 have HBL : Hid (BlIn Q w A off so) := hBl
 have MK := make_blocks n (by omega)
 have hnI : (n : Int) ≤ 1048576 := by omega
 rw [hn]
 clear hn hL hbo hBl hN
 go_enter Try.func20, Try.ntmps20
 go_wp2_with fail
 have R0 := row_blocks w n 89
 have B0 : Below w.heap.size w (w.alloc (.cells (madeCells #[.int .i64 0, .int .i64 0, .int .i64 0, .bool false, .slice none 0 0] (n * 5)) 89)) := (Below.refl _ _).alloc (Nat.le_refl _) _
 generalize w.alloc (.cells (madeCells #[.int .i64 0, .int .i64 0, .int .i64 0, .bool false, .slice none 0 0] (n * 5)) 89) = W1 at *
 clear MK
 go_loopw [4] (fun i wr => ∃ (c : Nat) (S : Nat → Nat), c ≤ n ∧ i = .int .i64 c ∧ wr.rowIs w.heap.size 89 (n * 5) (cpBl Q S c) ∧ (∀ j, j < c → w.heap.size ≤ S j ∧ S j ≠ w.heap.size ∧ wr.rowIs (S j) 2 (Q.L j) (fun i => .int .i64 (Q.E j i))) ∧ (∀ i j, i < j → j < c → S i < S j) ∧ Below w.heap.size w wr) (fun i _ => n - (intOf i).toNat)
 case atStart => exact ⟨0, fun _ => 0, by omega, rfl, R0.congr (fun i _ => by unfold cpBl; simp), fun j hj => absurd hj (by omega), fun i j _ hj => absurd hj (by omega), B0⟩
 case round =>
   clear R0 B0
   obtain ⟨c, S, hc, rfl, R, hp, hup, HB⟩ := hrel
   have HUP : Hid (∀ i j, i < j → j < c → S i < S j) := hup
   clear hup
   have HP : Hid (∀ j, j < c → w.heap.size ≤ S j ∧ S j ≠ w.heap.size ∧ wr.rowIs (S j) 2 (Q.L j) (fun i => .int .i64 (Q.E j i))) := hp
   clear hp
   by_cases hcn : c < n
   · obtain rfl := HBO.out (by omega)
     obtain ⟨hA, c0, c1, c2, c3, c4, hNo⟩ := HBL.out.below HB c (by rw [HN.out]; exact hcn)
     have hcI : (c : Int) < n := by omega
     have TL := fun w h => toBlock_any (Q.X c) (Q.Y c) (Q.Z c) (Q.T c) (so c).1 (Q.L c) (so c).2 (Q.E c) (HL.out c hcn) w h
     have hlr := R.lt
     go_wp2_with fail
     refine (TL _ hNo).mono ?_
     rintro e w1 ⟨g, rfl, hg, RG, hB⟩
     replace R := rowI_step R hB
     have HP2 : Hid (∀ j, j < c → w.heap.size ≤ S j ∧ S j ≠ w.heap.size ∧ w1.rowIs (S j) 2 (Q.L j) (fun i => .int .i64 (Q.E j i))) := fun j hj => ⟨(HP.out j hj).1, (HP.out j hj).2.1, rowI_step (HP.out j hj).2.2 hB⟩
     replace HB := HB.trans (hB.mono HB.size)
     have p0 := R.cell (i := c * 5) (by omega); have p1 := R.cell (i := c * 5 + 1) (by omega); have p2 := R.cell (i := c * 5 + 2) (by omega); have p3 := R.cell (i := c * 5 + 3) (by omega); have p4 := R.cell (i := c * 5 + 4) (by omega)
     have f0 := R.frozen (c * 5); have f1 := R.frozen (c * 5 + 1); have f2 := R.frozen (c * 5 + 2); have f3 := R.frozen (c * 5 + 3); have f4 := R.frozen (c * 5 + 4)
     have RN := cpBl_step (b := g) R
     have HPN : Hid (∀ j, j < c + 1 → w.heap.size ≤ (if j = c then g else S j) ∧ (if j = c then g else S j) ≠ w.heap.size ∧ (((((w1.setCell ⟨w.heap.size, c * 5, none⟩ (.int .i64 (Q.X c))).setCell ⟨w.heap.size, c * 5 + 1, none⟩ (.int .i64 (Q.Y c))).setCell ⟨w.heap.size, c * 5 + 2, none⟩ (.int .i64 (Q.Z c))).setCell ⟨w.heap.size, c * 5 + 3, none⟩ (.bool (Q.T c))).setCell ⟨w.heap.size, c * 5 + 4, none⟩ (.slice (some ⟨g, 0, none⟩) (Q.L c) (Q.L c))).rowIs (if j = c then g else S j) 2 (Q.L j) (fun i => .int .i64 (Q.E j i))) := fun j hj => by
       by_cases h : j = c
       · subst h
         rw [if_pos rfl]
         have hne : g ≠ w.heap.size := by omega
         exact ⟨by omega, hne, ((((RG.setOther hne _).setOther hne _).setOther hne _).setOther hne _).setOther hne _⟩
       · rw [if_neg h]
         have h3 := HP2.out j (by omega)
         have hne : S j ≠ w.heap.size := h3.2.1
         exact ⟨h3.1, hne, ((((h3.2.2.setOther hne _).setOther hne _).setOther hne _).setOther hne _).setOther hne _⟩
     have HUN : Hid (∀ i j, i < j → j < c + 1 → (if i = c then g else S i) < (if j = c then g else S j)) := fun i j hij hj => by
       by_cases h : j = c
       · rw [if_pos h, if_neg (by omega)]
         have := (HP.out i (by omega)).2.2.lt
         omega
       · rw [if_neg h, if_neg (by omega)]
         exact HUP.out i j hij (by omega)
     have HN2 : Below w.heap.size w (((((w1.setCell ⟨w.heap.size, c * 5, none⟩ (.int .i64 (Q.X c))).setCell ⟨w.heap.size, c * 5 + 1, none⟩ (.int .i64 (Q.Y c))).setCell ⟨w.heap.size, c * 5 + 2, none⟩ (.int .i64 (Q.Z c))).setCell ⟨w.heap.size, c * 5 + 3, none⟩ (.bool (Q.T c))).setCell ⟨w.heap.size, c * 5 + 4, none⟩ (.slice (some ⟨g, 0, none⟩) (Q.L c) (Q.L c))) := ((((HB.setCell (by simp) _).setCell (by simp) _).setCell (by simp) _).setCell (by simp) _).setCell (by simp) _
     clear hB c0 c1 c2 c3 c4 hA R HB TL hlr hg HP HP2 RG hNo HUP
     go_wp2
     go_roundw
     case rel => exact ⟨c + 1, _, by omega, by go_num, RN, HPN.out, HUN.out, HN2⟩
     case measure => simp [intOf]; omega
   · obtain rfl : c = n := by omega
     have RN : Hid (BlRow Q wr w.heap.size w.heap.size S) := ⟨(by rw [HN.out]; exact R.congr (fun i hi => by unfold cpBl; rw [if_pos hi])), Nat.le_refl _, fun j hj => HP.out j (by rw [← HN.out]; exact hj), fun i j hij hj => HUP.out i j hij (by rw [← HN.out]; exact hj)⟩
     clear R HP HBL HBO HL HUP
     go_wp2
     go_ret
     exact ⟨_, S, rfl, RN.out, HB⟩
theorem ownQ_mono2 {w : World} {b b' n : Nat} {e : TypeId} {size : Nat} {v : Value} {xs : List Value} (h : w.ownsRow b' e size v n xs) (hb : b ≤ b') : w.ownsRow b e size v n xs := by
 rcases h with ⟨h0, h1 | ⟨g, cap, cur, h1, h2, h3⟩⟩
 · exact ⟨h0, .inl h1⟩
 · exact ⟨h0, .inr ⟨g, cap, cur, h1, by omega, h3⟩⟩
theorem itCs_len (Q : QD) : ∀ l : List Nat, (itCs Q l).length = l.length * 5
 | [] => rfl
 | a :: l => by
   show (it5 Q a ++ itCs Q l).length = _
   rw [List.length_append, itCs_len Q l, List.length_cons]
   show 5 + l.length * 5 = _
   omega
theorem itCs_one (Q : QD) (l : List Nat) : ∀ u ∈ itCs Q l, u.oneCell' = true := by
 intro u hu
 obtain ⟨i, _, h⟩ := List.mem_flatMap.1 hu
 exact it5_one Q i u h
theorem itCs_cell {Q : QD} {w : World} {ad : Addr} {l : List Nat} (h : ItIn Q w (some ad) l) : ∀ j u, (itCs Q l)[j]? = some u → w.cell? (ad.add j) = some u := by
 intro j u hj
 have hlt : j < l.length * 5 := by rw [← itCs_len Q l]; exact (List.getElem?_eq_some_iff.1 hj).1
 obtain ⟨i, hi⟩ : ∃ i, l[j / 5]? = some i := ⟨_, List.getElem?_eq_getElem (by omega)⟩
 have h5 := itCs_at Q l (j / 5) i (j % 5) hi (by omega)
 rw [show j / 5 * 5 + j % 5 = j by omega, hj] at h5
 obtain ⟨A, off, e, _, c0, c1, c2, c3, c4⟩ := h (j / 5) i hi
 cases e
 rw [Addr.add_lit]
 have hj5 : off + j = off + j / 5 * 5 + j % 5 := by omega
 rw [hj5]
 rcases (show j % 5 = 0 ∨ j % 5 = 1 ∨ j % 5 = 2 ∨ j % 5 = 3 ∨ j % 5 = 4 by omega) with e | e | e | e | e <;> rw [e] at h5 ⊢ <;> cases h5
 · exact c0
 · exact c1
 · exact c2
 · exact c3
 · exact c4
set_option maxRecDepth 100000 in
set_option maxHeartbeats 4000000 in
theorem cloneIt_any (Q : QD) (ao : Option Addr) (cap : Nat) (l : List Nat) (hl : l.length ≤ 1048576) (w : World) (hS : ItIn Q w ao l) : Calls Try.prog 42 #[.slice ao l.length cap] w (fun r w' => ∃ v, r = .returned v ∧ w'.ownsRow w.heap.size 56 5 v l.length (itCs Q l) ∧ Below w.heap.size w w') := by
 obtain ⟨i0, hi, hz0, hz1, hz2⟩ := info_item
 have q := fun (w : World) (a : Option Addr) (n c n' c' : Nat) => Lib.run_eql_slice_nil (P := Try.prog) w _ _ a n c n' c' Try.underlying32
 have HR : Hid (ItIn Q w ao l) := hS
 clear hS
 cases ao with
 | none =>
   have hl0 : l = [] := by
     cases l with
     | nil => rfl
     | cons a l => obtain ⟨A, off, e, _⟩ := HR.out 0 a rfl; cases e
   subst hl0
   go_enter Try.func42, Try.ntmps42
   go_wp2
   go_ret
   exact ⟨_, rfl, World.ownsRow_nil _ _ _ _, Below.refl _ _⟩
 | some ad =>
   obtain ⟨n, hn⟩ : ∃ n, l.length = n := ⟨_, rfl⟩
   have HN : Hid (l.length = n) := hn
   rw [hn] at hl ⊢
   clear hn
   go_enter Try.func42, Try.ntmps42
   go_wp2_with (at_builtin; refine wpList_append_own _ rfl _ _ 32 rfl w.heap.size 56 i0 (.agg #[.int .i64 0, .int .i64 0, .int .i64 0, .int .i64 0, .int .i64 0]) 5 40 Try.underlying32 hi hz0 hz1 hz2 rfl (by decide) _ _ _ rfl (World.ownsRow_made w #[] 0 (Nat.le_refl _) (by decide) rfl) ad n cap (itCs Q l) rfl ?c1 ?c2 ?c3 ?c4 ?c5 ?c6 ?_)
   case c1 => rw [itCs_len, HN.out]
   case c2 => exact itCs_cell (HR.out.step ((Below.refl _ _).alloc (Nat.le_refl _) _))
   case c3 => exact itCs_one Q l
   case c4 => unfold maxLen; omega
   case c5 => omega
   case c6 => simp
   intro v w1 hown hgrow hne
   have HB : Below w.heap.size w w1 := ((Below.refl _ _).alloc (Nat.le_refl _) _).grown hgrow (by simp) (fun k hk => by cases hk; exact Nat.le_refl _)
   clear hgrow
   go_wp2
   go_ret
   exact ⟨_, rfl, hown, HB⟩
def limB (m d : Int) : Bool := decide (1 ≤ m) && decide (m ≤ 8) && decide (0 ≤ d) && decide (d ≤ 8)
set_option maxRecDepth 100000 in
theorem rightLimits_any (m d : Int) (w : World) : Calls Try.prog 40 #[.int .i64 m, .int .i64 d] w (VP (.bool (limB m d)) w) := by
 by_cases h : 1 ≤ m ∧ m ≤ 8 ∧ 0 ≤ d ∧ d ≤ 8
 · obtain ⟨h1, h2, h3, h4⟩ := h
   have HO : Hid (limB m d = true) := by show _ = _; simp [limB]; omega
   go_enter Try.func40, Try.ntmps40
   go_wp2
   go_ret
   exact ⟨by rw [HO.out]; rfl, Below.refl _ _⟩
 · have HO : Hid (limB m d = false) := by show _ = _; rw [Bool.eq_false_iff]; intro hh; simp [limB] at hh; omega
   go_enter Try.func40, Try.ntmps40
   by_cases h0 : m < 1
   · clear h
     go_wp2
     go_ret
     exact ⟨by rw [HO.out]; rfl, Below.refl _ _⟩
   replace h0 := Int.not_lt.1 h0
   by_cases h1 : 8 < m
   · clear h
     go_wp2
     go_ret
     exact ⟨by rw [HO.out]; rfl, Below.refl _ _⟩
   replace h1 := Int.not_lt.1 h1
   by_cases h2 : d < 0
   · clear h
     go_wp2
     go_ret
     exact ⟨by rw [HO.out]; rfl, Below.refl _ _⟩
   replace h2 := Int.not_lt.1 h2
   have h3 : decide (d ≤ 8) = false := decide_eq_false (by omega)
   clear h
   go_wp2
   go_ret
   exact ⟨by rw [HO.out]; rfl, Below.refl _ _⟩
set_option maxRecDepth 100000 in
theorem l13Limits_any (m d : Int) (w : World) : Calls Try.prog 31 #[.int .i64 m, .int .i64 d] w (VP (.bool (limB m d)) w) := by
 by_cases h : 1 ≤ m ∧ m ≤ 8 ∧ 0 ≤ d ∧ d ≤ 8
 · obtain ⟨h1, h2, h3, h4⟩ := h
   have HO : Hid (limB m d = true) := by show _ = _; simp [limB]; omega
   go_enter Try.func31, Try.ntmps31
   go_wp2
   go_ret
   exact ⟨by rw [HO.out]; rfl, Below.refl _ _⟩
 · have HO : Hid (limB m d = false) := by show _ = _; rw [Bool.eq_false_iff]; intro hh; simp [limB] at hh; omega
   go_enter Try.func31, Try.ntmps31
   by_cases h0 : m < 1
   · clear h
     go_wp2
     go_ret
     exact ⟨by rw [HO.out]; rfl, Below.refl _ _⟩
   replace h0 := Int.not_lt.1 h0
   by_cases h1 : 8 < m
   · clear h
     go_wp2
     go_ret
     exact ⟨by rw [HO.out]; rfl, Below.refl _ _⟩
   replace h1 := Int.not_lt.1 h1
   by_cases h2 : d < 0
   · clear h
     go_wp2
     go_ret
     exact ⟨by rw [HO.out]; rfl, Below.refl _ _⟩
   replace h2 := Int.not_lt.1 h2
   have h3 : decide (d ≤ 8) = false := decide_eq_false (by omega)
   clear h
   go_wp2
   go_ret
   exact ⟨by rw [HO.out]; rfl, Below.refl _ _⟩
def ItR (Q : QD) (B : Nat) (l : List Nat) (v : Value) (W : World) : Prop := W.ownsRow B 56 5 v l.length (itCs Q l)
theorem ItR.step {Q : QD} {B : Nat} {l : List Nat} {v : Value} {W W2 : World} (h : ItR Q B l v W) (hB : Below W.heap.size W W2) : ItR Q B l v W2 := ownA_step h hB
def TyB (w : World) (g : Nat) (T : TypeId) : Prop := ∃ cur, w.heap[g]? = some (.cells cur T (0, 0))
theorem TyB.step {w w' : World} {g : Nat} {T : TypeId} (h : TyB w g T) (hB : Below w.heap.size w w') : TyB w' g T := by
 obtain ⟨cur, h1⟩ := h
 exact ⟨cur, (hB.block g (Array.getElem?_eq_some_iff.1 h1).1).trans h1⟩
theorem rootBlock_ty (w : World) : Calls Try.prog 43 #[] w (fun e w' => ∃ g, e = .returned (.pointer (some ⟨g, 0, none⟩)) ∧ w.heap.size ≤ g ∧ Blk w' g [.int .i64 (-1048576), .int .i64 (-1048576), .int .i64 2097152, .int .i64 0, .slice none 0 0, .slice none 0 0] ∧ TyB w' g 99 ∧ Below w.heap.size w w') := by
 go_enter Try.func43, Try.ntmps43
 go_wp2
 go_ret
 exact ⟨_, rfl, Nat.le_refl _, Blk.new _ [.int .i64 (-1048576), .int .i64 (-1048576), .int .i64 2097152, .int .i64 0, .slice none 0 0, .slice none 0 0] _ rfl, ⟨_, heap_alloc_new w _⟩, (Below.refl _ _).alloc (Nat.le_refl _) _⟩
theorem it_root {Q : QD} {B : Nat} {l : List Nat} {v : Value} {W : World} {gr : Nat} (h : ItR Q B l v W) (hy : TyB W gr 99) : ∀ b, v.ownBlock = some b → b ≠ gr ∧ b < W.heap.size := fun b e => by
 refine ⟨fun e2 => ?_, (World.ownsRow.lt h b e).2⟩
 rcases h.2 with ⟨h1, _⟩ | ⟨g, c, cur, h1, h2, h3, _⟩
 · subst h1; cases e
 · subst h1
   obtain ⟨cur2, h4⟩ := hy
   cases e
   subst e2
   rw [h3] at h4
   simp at h4
def RtR (B : Nat) (v : Value) (W : World) : Prop := ∃ gr, v = .pointer (some ⟨gr, 0, none⟩) ∧ B ≤ gr ∧ Blk W gr [.int .i64 (-1048576), .int .i64 (-1048576), .int .i64 2097152, .int .i64 0, .slice none 0 0, .slice none 0 0] ∧ TyB W gr 99
theorem RtR.step {B : Nat} {v : Value} {W W2 : World} (h : RtR B v W) (hB : Below W.heap.size W W2) : RtR B v W2 := by
 obtain ⟨gr, h1, h2, h3, h4⟩ := h
 exact ⟨gr, h1, h2, h3.step hB, h4.step hB⟩
def QuA (Q : QD) (B : Nat) (l : List Nat) (m d : Int) (v : Value) (W : World) : Prop := ∃ io ic gr, v = .agg #[.int .i64 m, .int .i64 d, .slice io l.length ic, .pointer (some ⟨gr, 0, none⟩)] ∧ ItR Q B l (.slice io l.length ic) W ∧ B ≤ gr ∧ Blk W gr [.int .i64 (-1048576), .int .i64 (-1048576), .int .i64 2097152, .int .i64 0, .slice none 0 0, .slice none 0 0] ∧ ∀ b, (Value.slice io l.length ic).ownBlock = some b → b ≠ gr ∧ b < W.heap.size
theorem QuA.step {Q : QD} {B : Nat} {l : List Nat} {m d : Int} {v : Value} {W W2 : World} (h : QuA Q B l m d v W) (hB : Below W.heap.size W W2) : QuA Q B l m d v W2 := by
 obtain ⟨io, ic, gr, h1, h2, h3, h4, h5⟩ := h
 exact ⟨io, ic, gr, h1, h2.step hB, h3, h4.step hB, fun b e => ⟨(h5 b e).1, Nat.lt_of_lt_of_le (h5 b e).2 hB.size⟩⟩
def QuB (Q : QD) (B : Nat) (l : List Nat) (m d : Int) (v : Value) (W : World) : Prop := ∃ gq io ic gr, v = .pointer (some ⟨gq, 0, none⟩) ∧ Blk W gq [.int .i64 m, .int .i64 d, .slice io l.length ic, .pointer (some ⟨gr, 0, none⟩)] ∧ ItR Q B l (.slice io l.length ic) W ∧ B ≤ gr ∧ gr < gq ∧ Blk W gr [.int .i64 (-1048576), .int .i64 (-1048576), .int .i64 2097152, .int .i64 0, .slice none 0 0, .slice none 0 0] ∧ ∀ b, (Value.slice io l.length ic).ownBlock = some b → b ≠ gr ∧ b < gq
theorem QuB.step {Q : QD} {B : Nat} {l : List Nat} {m d : Int} {v : Value} {W W2 : World} (h : QuB Q B l m d v W) (hB : Below W.heap.size W W2) : QuB Q B l m d v W2 := by
 obtain ⟨gq, io, ic, gr, h1, h0, h2, h3, h5, h4, h6⟩ := h
 exact ⟨gq, io, ic, gr, h1, h0.step hB, h2.step hB, h3, h5, h4.step hB, h6⟩
theorem ownB_mono {w : World} {b b' n : Nat} {e : TypeId} {size : Nat} {v : Value} {xs : List Value} (h : w.ownsRow b' e size v n xs) (hb : b ≤ b') : w.ownsRow b e size v n xs := by
 rcases h with ⟨h0, h1 | ⟨g, cap, cur, h1, h2, h3⟩⟩
 · exact ⟨h0, .inl h1⟩
 · exact ⟨h0, .inr ⟨g, cap, cur, h1, Nat.le_trans hb h2, h3⟩⟩
theorem own_slI {Q : QD} {B : Nat} {l : List Nat} {v : Value} {W : World} (h : ItR Q B l v W) : ∃ io ic, v = .slice io l.length ic := by
 rcases h.2 with ⟨h1, h2⟩ | ⟨g, c, _, h1, _⟩
 · exact ⟨none, 0, by rw [h1, h2]⟩
 · exact ⟨_, c, h1⟩
def VqfA (Qd : QD) (P : Nat) (ao : Option Addr) (cap : Nat) (its : List Nat) (m d : Int) (B : Nat) : Nat → Value → World → Prop
 | 0, v, _ => v = .pointer (some ⟨P, 0, none⟩)
 | 1, v, _ => v = .int .i64 m
 | 2, v, _ => v = .pointer (some ⟨P, 1, none⟩)
 | 3, v, _ => v = .int .i64 d
 | 4, v, _ => v = .pointer (some ⟨P, 2, none⟩)
 | 5, v, _ => v = .slice ao its.length cap
 | 6, v, W => ItR Qd B its v W
 | 7, v, W => RtR B v W
 | 8, v, W => QuA Qd B its m d v W
 | 9, v, W => QuB Qd B its m d v W
 | 10, v, W => QuB Qd B its m d v W
 | _, _, _ => True
theorem VqfA.mono {Qd : QD} {P : Nat} {ao : Option Addr} {cap : Nat} {its : List Nat} {m d : Int} {B j : Nat} {v : Value} {W W2 : World} (hB : Below W.heap.size W W2) (h : VqfA Qd P ao cap its m d B j v W) : VqfA Qd P ao cap its m d B j v W2 := by
 unfold VqfA at *
 split <;> simp only at h <;> first | exact h | exact h.step hB | trivial
set_option maxRecDepth 100000 in
set_option maxHeartbeats 4000000 in
theorem qfA {Q : Exit → Act → World → Prop} {Qd : QD} {P : Nat} {ao : Option Addr} {cap : Nat} {its : List Nat} {m d : Int}  {w0 : World} {a0 : Act} {idq : Nat} {t0 t1 t2 t3 t4 t5 t6 t7 t8 t9 t10 : TypeId} {q0 q1 q2 q3 q4 q5 q6 q7 q8 q9 q10 : String}
   (hl0 : its.length ≤ 1048576) (hS0 : ItIn Qd w0 ao its) (h1 : a0.tmps[1]? = some (.pointer (some ⟨P, 0, none⟩))) (k0 : w0.cell? ⟨P, 0, none⟩ = some (.int .i64 m)) (l0 : (⟨P, 0, none⟩ : Addr).block < w0.heap.size) (k1 : w0.cell? ⟨P, 1, none⟩ = some (.int .i64 d)) (l1 : (⟨P, 1, none⟩ : Addr).block < w0.heap.size) (k2 : w0.cell? ⟨P, 2, none⟩ = some (.slice ao its.length cap)) (l2 : (⟨P, 2, none⟩ : Addr).block < w0.heap.size) (hz : a0.tmps.size = 57)
   (hQ : ∀ aq W, aq.tmps.size = a0.tmps.size → aq.defers = a0.defers → (∀ e, e ∉ ([25, 26, 27, 28, 29, 30, 31, 32, 33, 34, 4] : List Nat) → aq.tmps[e]? = a0.tmps[e]?) → VqfA Qd P ao cap its m d w0.heap.size 10 (aq.tmps.getD 4 undef) W → Below w0.heap.size w0 W → Q .normal aq W) :
   (Code.region idq #[{ dst := some 25, op := Op.fieldAddr 35 (Operand.tmp 1) 0, type := t0, pos := q0, after := #[], guard := none },
   { dst := some 26, op := Op.load 2 (Operand.tmp 25), type := t1, pos := q1, after := #[{ on := 0, ground := Ground.data }], guard := none },
   { dst := some 27, op := Op.fieldAddr 35 (Operand.tmp 1) 1, type := t2, pos := q2, after := #[], guard := none },
   { dst := some 28, op := Op.load 2 (Operand.tmp 27), type := t3, pos := q3, after := #[{ on := 2, ground := Ground.data }], guard := none },
   { dst := some 29, op := Op.fieldAddr 35 (Operand.tmp 1) 2, type := t4, pos := q4, after := #[], guard := none },
   { dst := some 30, op := Op.load 32 (Operand.tmp 29), type := t5, pos := q5, after := #[{ on := 4, ground := Ground.data }], guard := none },
   { dst := some 31, op := Op.call { callee := Callee.value (Operand.func 42), args := #[Operand.tmp 30], argTypes := #[32] }, type := t6, pos := q6, after := #[{ on := 5, ground := Ground.data }], guard := none },
   { dst := some 32, op := Op.call { callee := Callee.value (Operand.func 43), args := #[], argTypes := #[] }, type := t7, pos := q7, after := #[{ on := 6, ground := Ground.chain }], guard := none },
   { dst := some 33, op := Op.build 65 #[(0, Operand.tmp 26), (1, Operand.tmp 28), (2, Operand.tmp 31), (3, Operand.tmp 32)], type := t8, pos := q8, after := #[{ on := 1, ground := Ground.data }, { on := 3, ground := Ground.data }, { on := 6, ground := Ground.data }, { on := 7, ground := Ground.data }], guard := none },
   { dst := some 34, op := Op.box 65 (Operand.tmp 33), type := t9, pos := q9, after := #[{ on := 8, ground := Ground.data }], guard := none },
   { dst := some 4, op := Op.assign (Operand.tmp 34), type := t10, pos := q10, after := #[{ on := 9, ground := Ground.data }, { on := 7, ground := Ground.chain }, { on := 0, ground := Ground.phase }, { on := 1, ground := Ground.phase }, { on := 2, ground := Ground.phase }, { on := 3, ground := Ground.phase }, { on := 4, ground := Ground.phase }, { on := 5, ground := Ground.phase }, { on := 6, ground := Ground.phase }, { on := 7, ground := Ground.phase }, { on := 8, ground := Ground.phase }, { on := 9, ground := Ground.phase }], guard := none }] true).wp Try.prog Q a0 w0 := by
 have hS : distS [some 25, some 26, some 27, some 28, some 29, some 30, some 31, some 32, some 33, some 34, some 4] = true := rfl
 refine wp_region_q (by kernel_rfl) w0.heap.size [some 25, some 26, some 27, some 28, some 29, some 30, some 31, some 32, some 33, some 34, some 4] (VqfA Qd P ao cap its m d w0.heap.size) rfl ?_ ?_
 · intro Q lq aq W iq oq hJ hl ho hall
   have hJ2 := hJ
   obtain ⟨z1, z2, z3, z4, z5, z6, z7⟩ := hJ
   have g1 : aq.tmps.getD 1 undef = .pointer (some ⟨P, 0, none⟩) := by rw [Array.getD_eq_getD_getElem?, z4 1 (by decide), h1]; rfl
   have c0 : W.cell? ⟨P, 0, none⟩ = some (.int .i64 m) := (z5.cell l0).trans k0
   have c1 : W.cell? ⟨P, 1, none⟩ = some (.int .i64 d) := (z5.cell l1).trans k1
   have c2 : W.cell? ⟨P, 2, none⟩ = some (.slice ao its.length cap) := (z5.cell l2).trans k2
   match iq, ho with
   | 0, ho =>
     cases ho
     refine wpOp_of rfl rfl ?_
     have hK := fun (v : Value) (W2 : World) hW hT hv => hJ2.put hS 0 25 rfl (by omega) (W' := W2) hW hT v hv
     clear ho hall hl hQ
     generalize InvQ _ _ _ w0 a0 (lq.setIfInBounds 0 true) = K at hK ⊢
     clear hJ2 hS z1 z2 z3 z4 z6 z7
     go_simp
     exact hK _ _ z5 (fun _ _ h => h) rfl
   | 1, ho =>
     cases ho
     refine wpOp_of rfl rfl ?_
     have f0 : (aq.tmps.getD 25 undef) = .pointer (some ⟨P, 0, none⟩) := z6 0 25 (hall { on := 0, ground := Ground.data } (by simp) rfl) rfl
     have hK := fun (v : Value) (W2 : World) hW hT hv => hJ2.put hS 1 26 rfl (by omega) (W' := W2) hW hT v hv
     clear ho hall hl hQ
     generalize InvQ _ _ _ w0 a0 (lq.setIfInBounds 1 true) = K at hK ⊢
     clear hJ2 hS z1 z2 z3 z4 z6 z7
     go_simp
     exact hK _ _ z5 (fun _ _ h => h) rfl
   | 2, ho =>
     cases ho
     refine wpOp_of rfl rfl ?_
     have hK := fun (v : Value) (W2 : World) hW hT hv => hJ2.put hS 2 27 rfl (by omega) (W' := W2) hW hT v hv
     clear ho hall hl hQ
     generalize InvQ _ _ _ w0 a0 (lq.setIfInBounds 2 true) = K at hK ⊢
     clear hJ2 hS z1 z2 z3 z4 z6 z7
     go_simp
     exact hK _ _ z5 (fun _ _ h => h) rfl
   | 3, ho =>
     cases ho
     refine wpOp_of rfl rfl ?_
     have f2 : (aq.tmps.getD 27 undef) = .pointer (some ⟨P, 1, none⟩) := z6 2 27 (hall { on := 2, ground := Ground.data } (by simp) rfl) rfl
     have hK := fun (v : Value) (W2 : World) hW hT hv => hJ2.put hS 3 28 rfl (by omega) (W' := W2) hW hT v hv
     clear ho hall hl hQ
     generalize InvQ _ _ _ w0 a0 (lq.setIfInBounds 3 true) = K at hK ⊢
     clear hJ2 hS z1 z2 z3 z4 z6 z7
     go_simp
     exact hK _ _ z5 (fun _ _ h => h) rfl
   | 4, ho =>
     cases ho
     refine wpOp_of rfl rfl ?_
     have hK := fun (v : Value) (W2 : World) hW hT hv => hJ2.put hS 4 29 rfl (by omega) (W' := W2) hW hT v hv
     clear ho hall hl hQ
     generalize InvQ _ _ _ w0 a0 (lq.setIfInBounds 4 true) = K at hK ⊢
     clear hJ2 hS z1 z2 z3 z4 z6 z7
     go_simp
     exact hK _ _ z5 (fun _ _ h => h) rfl
   | 5, ho =>
     cases ho
     refine wpOp_of rfl rfl ?_
     have f4 : (aq.tmps.getD 29 undef) = .pointer (some ⟨P, 2, none⟩) := z6 4 29 (hall { on := 4, ground := Ground.data } (by simp) rfl) rfl
     have hK := fun (v : Value) (W2 : World) hW hT hv => hJ2.put hS 5 30 rfl (by omega) (W' := W2) hW hT v hv
     clear ho hall hl hQ
     generalize InvQ _ _ _ w0 a0 (lq.setIfInBounds 5 true) = K at hK ⊢
     clear hJ2 hS z1 z2 z3 z4 z6 z7
     go_simp
     exact hK _ _ z5 (fun _ _ h => h) rfl
   | 6, ho =>
     cases ho
     refine wpOp_of rfl rfl ?_
     have f5 : (aq.tmps.getD 30 undef) = .slice ao its.length cap := z6 5 30 (hall { on := 5, ground := Ground.data } (by simp) rfl) rfl
     have hK := fun (v : Value) (W2 : World) hW hT hv => hJ2.put hS 6 31 rfl (by omega) (W' := W2) hW hT v hv
     clear ho hall hl hQ
     generalize InvQ _ _ _ w0 a0 (lq.setIfInBounds 6 true) = K at hK ⊢
     clear hJ2 hS z1 z2 z3 z4 z6 z7
     go_simp
     refine (cloneIt_any Qd ao cap its hl0 W (hS0.step z5)).mono ?_
     rintro r v1 ⟨v, rfl, hO, hBv⟩
     exact hK _ _ (z5.trans (hBv.mono z5.size)) (fun j v h => h.mono hBv) (show ItR Qd w0.heap.size its v v1 from ownB_mono hO z5.size)
   | 7, ho =>
     cases ho
     refine wpOp_of rfl rfl ?_
     have hK := fun (v : Value) (W2 : World) hW hT hv => hJ2.put hS 7 32 rfl (by omega) (W' := W2) hW hT v hv
     clear ho hall hl hQ
     generalize InvQ _ _ _ w0 a0 (lq.setIfInBounds 7 true) = K at hK ⊢
     clear hJ2 hS z1 z2 z3 z4 z6 z7
     go_simp
     refine (rootBlock_ty W).mono ?_
     rintro r v1 ⟨gr, rfl, hg, hX, hY, hBv⟩
     exact hK _ _ (z5.trans (hBv.mono z5.size)) (fun j v h => h.mono hBv) ⟨gr, rfl, Nat.le_trans z5.size hg, hX, hY⟩
   | 8, ho =>
     cases ho
     refine wpOp_of rfl rfl ?_
     have f1 : (aq.tmps.getD 26 undef) = .int .i64 m := z6 1 26 (hall { on := 1, ground := Ground.data } (by simp) rfl) rfl
     have f3 : (aq.tmps.getD 28 undef) = .int .i64 d := z6 3 28 (hall { on := 3, ground := Ground.data } (by simp) rfl) rfl
     have f6 : ItR Qd w0.heap.size its (aq.tmps.getD 31 undef) W := z6 6 31 (hall { on := 6, ground := Ground.data } (by simp) rfl) rfl
     have f7 : RtR w0.heap.size (aq.tmps.getD 32 undef) W := z6 7 32 (hall { on := 7, ground := Ground.data } (by simp) rfl) rfl
     obtain ⟨gr, e7, hg7, hx7, hy7⟩ := f7
     obtain ⟨io, ic, e6⟩ := own_slI f6
     rw [e6] at f6
     have hi6 := f6
     have hob6 := it_root hi6 hy7
     clear hy7
     rw [Array.getD_eq_getD_getElem?] at e6 e7 f1 f3
     have hK := fun (v : Value) (W2 : World) hW hT hv => hJ2.put hS 8 33 rfl (by omega) (W' := W2) hW hT v hv
     clear ho hall hl hQ
     generalize InvQ _ _ _ w0 a0 (lq.setIfInBounds 8 true) = K at hK ⊢
     clear hJ2 hS z1 z2 z3 z4 z6 z7
     go_simp
     exact hK _ _ z5 (fun _ _ h => h) ⟨io, ic, gr, rfl, hi6, hg7, hx7, hob6⟩
   | 9, ho =>
     cases ho
     refine wpOp_of rfl rfl ?_
     have f8 : QuA Qd w0.heap.size its m d (aq.tmps.getD 33 undef) W := z6 8 33 (hall { on := 8, ground := Ground.data } (by simp) rfl) rfl
     obtain ⟨io, ic, gr, e8, hi8, hg8, hx8, hob8⟩ := f8
     rw [Array.getD_eq_getD_getElem?] at e8
     have hK := fun (v : Value) (W2 : World) hW hT hv => hJ2.put hS 9 34 rfl (by omega) (W' := W2) hW hT v hv
     clear ho hall hl hQ
     generalize InvQ _ _ _ w0 a0 (lq.setIfInBounds 9 true) = K at hK ⊢
     clear hJ2 hS z1 z2 z3 z4 z6 z7
     go_simp
     exact hK _ _ (z5.alloc z5.size _) (fun j v h => h.mono ((Below.refl _ _).alloc (Nat.le_refl _) _)) ⟨_, io, ic, gr, rfl, Blk.new W [.int .i64 m, .int .i64 d, .slice io its.length ic, .pointer (some ⟨gr, 0, none⟩)] 65 rfl, hi8.step ((Below.refl _ _).alloc (Nat.le_refl _) _), hg8, hx8.lt, hx8.alloc _, hob8⟩
   | 10, ho =>
     cases ho
     refine wpOp_of rfl rfl ?_
     have f9 : QuB Qd w0.heap.size its m d (aq.tmps.getD 34 undef) W := z6 9 34 (hall { on := 9, ground := Ground.data } (by simp) rfl) rfl
     rw [Array.getD_eq_getD_getElem?] at f9
     have hK := fun (v : Value) (W2 : World) hW hT hv => hJ2.put hS 10 4 rfl (by omega) (W' := W2) hW hT v hv
     clear ho hall hl hQ
     generalize InvQ _ _ _ w0 a0 (lq.setIfInBounds 10 true) = K at hK ⊢
     clear hJ2 hS z1 z2 z3 z4 z6 z7
     go_simp
     exact hK _ _ z5 (fun _ _ h => h) f9
   | iq + 11, ho => simp at ho
 · intro lq aq W hJ hr
   obtain ⟨z1, z2, z3, z4, z5, z6, z7⟩ := hJ
   have hl := listed_of hr [0, 1, 2, 3, 4, 5, 6, 7, 8, 9, 10] [] (by simp) (by kernel_rfl) (by rw [z1]; decide)
   exact hQ aq W z2 z3 (fun e he => z4 e (by simpa using he)) (z6 10 4 (hl 10 (by simp)) rfl) z5
end Go.Proofs.Ythelolpogdcmhaa
