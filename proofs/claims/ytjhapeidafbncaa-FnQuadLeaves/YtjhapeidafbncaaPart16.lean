/- Part 16 of the walks that the proof leans on. -/
import Derived.Test.YtjhapeidafbncaaPart15
import Derived.Test.YtjhapeidafbncaaPart9
import Derived.Test.YtjhapeidafbncaaPart14
import Derived.Test.YtjhapeidafbncaaPart12
import Derived.Deep.DeepAppendRoom
import Derived.Deep.RegionLaw
import Derived.Test.YtjhapeidafbncaaPart8
namespace Go.Proofs.Ytjhapeidafbncaa
open Go.RowKit
def smT (n : Nat) : QT → Prop
 | .leaf l => l.length ≤ n
 | .node K => ∀ k, k < 4 → smT n (K k)
theorem withL_len (n : Int) : ∀ (l : List Int), (withL l n).length ≤ l.length + 1
 | [] => Nat.le_refl _
 | a :: l => by
   have h := withL_len n l
   unfold withL at h ⊢
   simp only [List.length_append, List.length_cons] at h ⊢
   rcases Int.lt_trichotomy a n with e | e | e
   · rw [List.filter_cons_of_pos (p := fun z => decide (z < n)) (decide_eq_true e), List.filter_cons_of_neg (p := fun z => decide (n < z)) (by simp; omega), List.length_cons]
     omega
   · rw [List.filter_cons_of_neg (p := fun z => decide (z < n)) (by simp; omega), List.filter_cons_of_neg (p := fun z => decide (n < z)) (by simp; omega)]
     omega
   · rw [List.filter_cons_of_neg (p := fun z => decide (z < n)) (by simp; omega), List.filter_cons_of_pos (p := fun z => decide (n < z)) (decide_eq_true e), List.length_cons]
     omega
theorem mrg_len : ∀ (l a : List Int), (mrgL a l).length ≤ a.length + l.length
 | [], _ => Nat.le_refl _
 | n :: l, a => by
   have h1 := mrg_len l (withL a n)
   have h2 := withL_len n a
   show (mrgL (withL a n) l).length ≤ a.length + (l.length + 1)
   omega
theorem allK_len {K : Nat → QT} {n : Nat} : ∀ {c : Nat}, (∀ k, k < c → (idsT (K k)).length ≤ n) → (allK K c).length ≤ c * n
 | 0, _ => Nat.zero_le _
 | c + 1, h => by
   have h1 := allK_len (K := K) (n := n) (c := c) fun k hk => h k (by omega)
   have h2 := h c (by omega)
   have h3 := mrg_len (idsT (K c)) (allK K c)
   rw [Nat.succ_mul]
   show (mrgL (allK K c) (idsT (K c))).length ≤ _
   omega
theorem cut_ids {mx id : Int} {n : Nat} (hn : mx ≤ n) : ∀ {t : QT}, smT n t → (idsT (cutT mx id t)).length ≤ n
 | .leaf l, h => Nat.le_trans (List.length_filter_le _ _) h
 | .node K, _ => by
   unfold cutT
   split
   · rename_i h1
     have := h1.2
     show (allK _ 4).length ≤ n
     omega
   · exact Nat.zero_le _
theorem mrg_take (a : List Int) {l : List Int} {i : Nat} {z : Int} (h : l[i]? = some z) : mrgL a (l.take (i + 1)) = withL (mrgL a (l.take i)) z := by
 unfold mrgL
 rw [List.take_add_one, h, List.foldl_append]
 rfl
theorem MTr.ids {ok : Nat → Prop} {w : World} {t : QT} {x y s : Int} {kv ev : Value} (h : MTr ok w t x y s kv ev) : IdV ok w ev (idsT t) := by
 cases t with
 | leaf l => exact h.2
 | node K => exact h.1
theorem MTr.lf {ok : Nat → Prop} {w : World} {t : QT} {x y s : Int} {ko : Option Addr} {kn kc : Nat} {ev : Value} (h : MTr ok w t x y s (.slice ko kn kc) ev) : (kn = 0 ∧ isLf t = true) ∨ (kn = 4 ∧ isLf t = false) := by
 cases t with
 | leaf l => have h1 := h.1; cases h1; exact .inl ⟨rfl, rfl⟩
 | node K => obtain ⟨_, A, kc', h1, _⟩ := h; cases h1; exact .inr ⟨rfl, rfl⟩
def okC (ok : Nat → Prop) (P : Nat) (v : Value) (b : Nat) : Prop := (ok b ∧ b < P) ∨ (P + 1 < b ∧ some b ≠ v.ownBlock)
theorem cut_node {mx id : Int} {K TK : Nat → QT} (h : (fun k => cutT mx id (K k)) = TK) : ∃ TR : Nat → QT, (∀ k, k < 4 → TR k = TK k) ∧ cutT mx id (.node K) = if lfK TK 4 = true ∧ ((allK TK 4).length : Int) ≤ mx then .leaf (allK TK 4) else .node TR := by
 refine ⟨fun k => if k < 4 then cutT mx id (K k) else K k, fun k hk => ?_, ?_⟩
 · rw [← h]
   exact if_pos hk
 · rw [← h]
   rfl
set_option maxRecDepth 100000 in
set_option maxHeartbeats 16000000 in
theorem l13Cut_any (mx id : Int) (n : Nat) (hmx : mx ≤ n) (hn : n ≤ 1000) (t : QT) : ∀ (x y s : Int) (ok : Nat → Prop) (kv ev : Value) (w : World), smT n t → MTr ok w t x y s kv ev → Calls Try.prog 47 #[.agg #[.int .i64 x, .int .i64 y, .int .i64 s, kv, ev], .int .i64 id, .int .i64 mx] w (PuM ok (cutT mx id t) x y s w) := by
 obtain ⟨i0, hi0, hz0, hz1, hz2⟩ := info_b13
 induction t with
 | leaf l =>
   intro x y s ok kv ev w hsm hM
   obtain ⟨rfl, eo, ec, rfl, hN, hn0, hok⟩ := hM
   have hl : l.length ≤ n := hsm
   refine (l13Cut_leaf x y s mx id l (by omega) eo ec w hN).mono ?_
   rintro r w' ⟨eo1, en1, ec1, rfl, hI, hB⟩
   exact ⟨none, 0, 0, eo1, en1, ec1, rfl, ⟨rfl, hI.keep (Nat.le_refl _) (fun _ _ _ => rfl) (fun _ h _ => .inr h)⟩, hB⟩
 | node K ih =>
   intro x y s ok kv ev w hsm hM
   obtain ⟨hE, A, kc, rfl, hA, hoA, hk⟩ := hM
   have HE : Hid (IdV ok w ev []) := hE
   obtain ⟨eo, ec, rfl, _⟩ := hE
   obtain ⟨hf, hhf⟩ : ∃ hf, s / 2 = hf := ⟨_, rfl⟩
   have HHF : Hid (s / 2 = hf) := hhf
   rw [hhf] at hk
   obtain ⟨TK, hTK⟩ : ∃ TK : Nat → QT, (fun k => cutT mx id (K k)) = TK := ⟨_, rfl⟩
   have HTK : Hid ((fun k => cutT mx id (K k)) = TK) := hTK
   obtain ⟨TR, hTR, hcut0⟩ := cut_node hTK
   have HTR : Hid (∀ k, k < 4 → TR k = TK k) := hTR
   obtain ⟨TT, hTT⟩ : ∃ TT : QT, cutT mx id (.node K) = TT := ⟨_, rfl⟩
   have HTT : Hid (TT = if lfK TK 4 = true ∧ ((allK TK 4).length : Int) ≤ mx then .leaf (allK TK 4) else .node TR) := by rw [← hTT]; exact hcut0
   rw [hTT]
   clear hTT
   have HID : Hid (∀ k, k < 4 → (idsT (TK k)).length ≤ n) := fun k hk4 => by rw [← hTK]; exact cut_ids hmx (hsm k hk4)
   have HSM : Hid (∀ k, k < 4 → smT n (K k)) := hsm
   have HK : Hid (∀ k, k < 4 → ∃ kv' ev', w.cell? ⟨A, k * 5, none⟩ = some (.int .i64 (kX x hf k)) ∧ w.cell? ⟨A, k * 5 + 1, none⟩ = some (.int .i64 (kY y hf k)) ∧ w.cell? ⟨A, k * 5 + 2, none⟩ = some (.int .i64 hf) ∧ w.cell? ⟨A, k * 5 + 3, none⟩ = some kv' ∧ w.cell? ⟨A, k * 5 + 4, none⟩ = some ev' ∧ MTr ok w (K k) (kX x hf k) (kY y hf k) hf kv' ev') := hk
   change Calls _ _ #[.agg #[.int .i64 x, .int .i64 y, .int .i64 s, .slice (some ⟨A, 0, none⟩) 4 kc, .slice eo 0 ec], _, _] _ _
   clear hhf hTK hk hsm hTR hcut0
   have B0 : Blk ((w.alloc (.cells #[.int .i64 x, .int .i64 y, .int .i64 s, .slice (some ⟨A, 0, none⟩) 4 kc, .slice eo 0 ec] 64)).alloc (.cells #[.int .i64 0, .int .i64 0, .int .i64 0, .slice none 0 0, .slice none 0 0] 64)) w.heap.size [.int .i64 x, .int .i64 y, .int .i64 s, .slice (some ⟨A, 0, none⟩) 4 kc, .slice eo 0 ec] := (Blk.new w [.int .i64 x, .int .i64 y, .int .i64 s, .slice (some ⟨A, 0, none⟩) 4 kc, .slice eo 0 ec] 64 rfl).alloc _
   have B2 : Blk ((w.alloc (.cells #[.int .i64 x, .int .i64 y, .int .i64 s, .slice (some ⟨A, 0, none⟩) 4 kc, .slice eo 0 ec] 64)).alloc (.cells #[.int .i64 0, .int .i64 0, .int .i64 0, .slice none 0 0, .slice none 0 0] 64)) (w.heap.size + 1) [.int .i64 0, .int .i64 0, .int .i64 0, .slice none 0 0, .slice none 0 0] := Blk.new (w.alloc (.cells #[.int .i64 x, .int .i64 y, .int .i64 s, .slice (some ⟨A, 0, none⟩) 4 kc, .slice eo 0 ec] 64)) [.int .i64 0, .int .i64 0, .int .i64 0, .slice none 0 0, .slice none 0 0] 64 (by simp)
   have HB : Below w.heap.size w ((w.alloc (.cells #[.int .i64 x, .int .i64 y, .int .i64 s, .slice (some ⟨A, 0, none⟩) 4 kc, .slice eo 0 ec] 64)).alloc (.cells #[.int .i64 0, .int .i64 0, .int .i64 0, .slice none 0 0, .slice none 0 0] 64)) := ((Below.refl _ w).alloc (Nat.le_refl _) _).alloc (by simp) _
   go_enter Try.func47, Try.ntmps47
   go_upto_region 1 with fail
   generalize ((w.alloc (.cells #[.int .i64 x, .int .i64 y, .int .i64 s, .slice (some ⟨A, 0, none⟩) 4 kc, .slice eo 0 ec] 64)).alloc (.cells #[.int .i64 0, .int .i64 0, .int .i64 0, .slice none 0 0, .slice none 0 0] 64)) = W1 at *
   have hsz : w.heap.size + 1 < W1.heap.size := B2.lt
   have HO0 : (W1.alloc (.cells #[] 64)).ownsRow (w.heap.size + 2) 64 5 (.slice (some ⟨W1.heap.size, 0, none⟩) 0 0) 0 [] := ownQ_mono2 (World.ownsRow_made W1 #[] 0 (Nat.le_refl _) (by decide) rfl) (by omega)
   have m3 := B0.c 3 rfl
   go_upto_region 11 with fail
   clear m3
   replace B0 := B0.alloc (.cells #[] 64)
   replace B2 := B2.alloc (.cells #[] 64)
   replace HB := HB.alloc (by omega) (.cells #[] 64)
   have hs2 : W1.heap.size < (W1.alloc (.cells #[] 64)).heap.size := by simp
   generalize (W1.alloc (.cells #[] 64)) = W2 at *
   have HA0 : (W2.alloc (.cells #[] 2)).ownsRow (w.heap.size + 2) 2 1 (.slice (some ⟨W2.heap.size, 0, none⟩) 0 0) 0 [] := ownQ_mono2 (World.ownsRow_made W2 #[] 0 (Nat.le_refl _) (by decide) rfl) (by omega)
   go_upto_region 12 with fail
   replace HO0 := ownA_step HO0 ((Below.refl _ _).alloc (Nat.le_refl _) (.cells #[] 2))
   replace B0 := B0.alloc (.cells #[] 2)
   replace B2 := B2.alloc (.cells #[] 2)
   replace HB := HB.alloc (by omega) (.cells #[] 2)
   generalize (W2.alloc (.cells #[] 2)) = W3 at *
   go_wp2_with fail
   go_loopw [9, 10, 11, 12] (fun v av lf ic wr => ∃ (c : Nat) (kvf evf : Nat → Value) (vv aa : Value), vv = v ∧ aa = av ∧ c ≤ 4 ∧ lf = .bool (lfK TK c) ∧ ic = .int .i64 c ∧ Blk wr w.heap.size [.int .i64 x, .int .i64 y, .int .i64 s, .slice (some ⟨A, 0, none⟩) 4 kc, .slice eo 0 ec] ∧ Blk wr (w.heap.size + 1) [.int .i64 0, .int .i64 0, .int .i64 0, .slice none 0 0, .slice none 0 0] ∧ wr.ownsRow (w.heap.size + 2) 64 5 vv c (kdL x y hf kvf evf c) ∧ wr.ownsRow (w.heap.size + 2) 2 1 aa (allK TK c).length ((allK TK c).map (Value.int .i64)) ∧ (∀ b, aa.ownBlock = some b → some b ≠ vv.ownBlock) ∧ (∀ i, i < c → MTr (okC ok w.heap.size vv) wr (TK i) (kX x hf i) (kY y hf i) hf (kvf i) (evf i)) ∧ Below w.heap.size w wr) (fun _ _ _ i _ => 4 - (intOf i).toNat)
   case atStart => exact ⟨0, fun _ => .slice none 0 0, fun _ => .slice none 0 0, _, _, rfl, rfl, by omega, rfl, rfl, B0, B2, HO0, HA0, fun b hb e => (by have h1 : W2.heap.size = b := Option.some.inj hb; have h2 : b = W1.heap.size := Option.some.inj e; omega), fun i hi => absurd hi (by omega), HB⟩
   case round =>
     clear B0 B2 HO0 HA0 HB hs2 hsz
     obtain ⟨c, kvf, evf, vv, aa, rfl, rfl, hc, rfl, rfl, B0, B2, HO, HOA, hne, HM, HB⟩ := hrel
     have hPl : w.heap.size + 1 < wr.heap.size := B2.lt
     obtain ⟨b1, hb1⟩ : ∃ b1, lfK TK c = b1 := ⟨_, rfl⟩
     have HB1 : Hid (lfK TK c = b1) := hb1
     rw [hb1]
     clear hb1
     by_cases hc4 : c < 4
     · have hcI : (c : Int) < 4 := by omega
       obtain ⟨kv', ev', c0, c1, c2, c3, c4, hMk⟩ := HK.out c hc4
       obtain ⟨ko, kn, kc', eo', en', ec', rfl, rfl⟩ := hMk.vals
       have hM2 : MTr (fun b => ok b ∧ b < w.heap.size) wr (K c) (kX x hf c) (kY y hf c) hf (.slice ko kn kc') (.slice eo' en' ec') := MTr.keep HB.size (fun b _ hb => HB.block b hb) (fun b h h2 => ⟨h, h2⟩) hMk
       have C := ih c (kX x hf c) (kY y hf c) hf (fun b => ok b ∧ b < w.heap.size) _ _ wr (HSM.out c hc4) hM2
       rw [show cutT mx id (K c) = TK c from by rw [← HTK.out]] at C
       have hcc : ∀ i, wr.cell? ⟨A, i, none⟩ = w.cell? ⟨A, i, none⟩ := fun i => HB.cell (p := ⟨A, i, none⟩) hA
       have e0 := (hcc _).trans c0; have e1 := (hcc _).trans c1; have e2 := (hcc _).trans c2; have e3 := (hcc _).trans c3; have e4 := (hcc _).trans c4
       have m3 := B0.c 3 rfl
       clear hM2 hMk c0 c1 c2 c3 c4 hcc
       go_wp2_with fail
       refine C.mono ?_
       rintro r w1 ⟨ko1, kn1, kc1, eo1, en1, ec1, rfl, hT, hB1⟩
       clear C m3 e0 e1 e2 e3 e4
       have B5 : Blk (w1.alloc (.cells #[.int .i64 (kX x hf c), .int .i64 (kY y hf c), .int .i64 hf, .slice ko1 kn1 kc1, .slice eo1 en1 ec1] 64)) w1.heap.size [.int .i64 (kX x hf c), .int .i64 (kY y hf c), .int .i64 hf, .slice ko1 kn1 kc1, .slice eo1 en1 ec1] := Blk.new w1 [.int .i64 (kX x hf c), .int .i64 (kY y hf c), .int .i64 hf, .slice ko1 kn1 kc1, .slice eo1 en1 ec1] 64 rfl
       have HB15 : Below wr.heap.size wr (w1.alloc (.cells #[.int .i64 (kX x hf c), .int .i64 (kY y hf c), .int .i64 hf, .slice ko1 kn1 kc1, .slice eo1 en1 ec1] 64)) := hB1.alloc hB1.size _
       have HM5 : Hid (∀ j, j < c → MTr (okC ok w.heap.size vv) (w1.alloc (.cells #[.int .i64 (kX x hf c), .int .i64 (kY y hf c), .int .i64 hf, .slice ko1 kn1 kc1, .slice eo1 en1 ec1] 64)) (TK j) (kX x hf j) (kY y hf j) hf (kvf j) (evf j)) := fun j hj => (HM j hj).step HB15
       have hT5 : MTr (fun b => (ok b ∧ b < w.heap.size) ∨ wr.heap.size ≤ b) (w1.alloc (.cells #[.int .i64 (kX x hf c), .int .i64 (kY y hf c), .int .i64 hf, .slice ko1 kn1 kc1, .slice eo1 en1 ec1] 64)) (TK c) (kX x hf c) (kY y hf c) hf (.slice ko1 kn1 kc1) (.slice eo1 en1 ec1) := hT.step ((Below.refl _ _).alloc (Nat.le_refl _) _)
       have hvb : ∀ b, vv.ownBlock = some b → w.heap.size + 2 ≤ b ∧ b < wr.heap.size := fun b hb => HO.lt b hb
       go_upto_region 17 with fail
       replace B0 := B0.step HB15
       replace B2 := B2.step HB15
       replace HO := ownA_step HO HB15
       replace HOA := ownA_step HOA HB15
       replace HB := HB.trans (HB15.mono HB.size)
       have hwr5 := HB15.size
       have hw15 := hB1.size
       have hPl5 : w1.heap.size < (w1.alloc (.cells #[.int .i64 (kX x hf c), .int .i64 (kY y hf c), .int .i64 hf, .slice ko1 kn1 kc1, .slice eo1 en1 ec1] 64)).heap.size := by simp
       clear HM hT HB15 hB1
       generalize (w1.alloc (.cells #[.int .i64 (kX x hf c), .int .i64 (kY y hf c), .int .i64 hf, .slice ko1 kn1 kc1, .slice eo1 en1 ec1] 64)) = W5 at *
       obtain ⟨G5, hG5⟩ : ∃ G5, w1.heap.size = G5 := ⟨_, rfl⟩
       rw [hG5] at B5 hw15 hPl5 ⊢
       clear hG5
       have p0 := B5.c 0 rfl; have p1 := B5.c 1 rfl; have p2 := B5.c 2 rfl; have p3 := B5.c 3 rfl; have p4 := B5.c 4 rfl
       have HO6 := ownA_step HO ((Below.refl _ _).alloc (Nat.le_refl _) (.cells #[.int .i64 (kX x hf c), .int .i64 (kY y hf c), .int .i64 hf, .slice ko1 kn1 kc1, .slice eo1 en1 ec1] 64))
       have hs6 : Hid ((W5.alloc (.cells #[.int .i64 (kX x hf c), .int .i64 (kY y hf c), .int .i64 hf, .slice ko1 kn1 kc1, .slice eo1 en1 ec1] 64)).heap.size = W5.heap.size + 1) := by show (W5.alloc _).heap.size = _; simp
       go_wp2_with (at_builtin; go_loud (refine wpList_append_own_at _ rfl _ _ 62 rfl (w.heap.size + 2) 64 i0 (.agg #[.int .i64 0, .int .i64 0, .int .i64 0, .slice none 0 0, .slice none 0 0]) 5 72 Try.underlying62 hi0 hz0 hz1 hz2 rfl (by decide) _ _ _ rfl HO6 ⟨W5.heap.size, 0, none⟩ 1 1 [.int .i64 (kX x hf c), .int .i64 (kY y hf c), .int .i64 hf, .slice ko1 kn1 kc1, .slice eo1 en1 ec1] rfl rfl (new_cells _ _ _) (one5 _ _ _ _ _ _ _ _ _) (by unfold maxLen; omega) (by omega) (by have := hs6.out; omega) ?_))
       intro v' w' hown hgrow _ hob
       have hold : ∀ b, b < W5.heap.size → some b ≠ vv.ownBlock → w'.heap[b]? = W5.heap[b]? := fun b hb hne2 => (hgrow.block b (by have := hs6.out; omega) hne2).trans (((Below.refl W5.heap.size W5).alloc (Nat.le_refl _) _).block b hb)
       have hsz5 : W5.heap.size ≤ w'.heap.size := by have h := hgrow.size; have := hs6.out; omega
       have HKN : Hid (∀ j, j < c + 1 → MTr (okC ok w.heap.size v') w' (TK j) (kX x hf j) (kY y hf j) hf (setV kvf c (.slice ko1 kn1 kc1) j) (setV evf c (.slice eo1 en1 ec1) j)) := fun j hj => by
         by_cases e2 : j = c
         · subst e2
           rw [show setV kvf j (.slice ko1 kn1 kc1) j = .slice ko1 kn1 kc1 from if_pos rfl, show setV evf j (.slice eo1 en1 ec1) j = .slice eo1 en1 ec1 from if_pos rfl]
           refine MTr.keep hsz5 (fun b hb hb2 => hold b hb2 (fun e3 => by have := hvb b e3.symm; rcases hb with hb | hb <;> omega)) (fun b hb hb2 => ?_) hT5
           rcases hb with hb | hb
           · exact .inl hb
           · refine .inr ⟨by omega, fun e3 => ?_⟩
             rcases hob with h | h
             · rw [h] at e3; have := hvb b e3.symm; omega
             · rw [h] at e3; have := Option.some.inj e3; have := hs6.out; omega
         · rw [show setV kvf c (.slice ko1 kn1 kc1) j = kvf j from if_neg e2, show setV evf c (.slice eo1 en1 ec1) j = evf j from if_neg e2]
           refine MTr.keep hsz5 (fun b hb hb2 => hold b hb2 (fun e3 => ?_)) (fun b hb hb2 => ?_) (HM5.out j (by omega))
           · rcases hb with hb | hb
             · have := hvb b e3.symm; omega
             · exact hb.2 e3
           · rcases hb with hb | hb
             · exact .inl hb
             · refine .inr ⟨hb.1, fun e3 => ?_⟩
               rcases hob with h | h
               · rw [h] at e3; exact hb.2 e3
               · rw [h] at e3; have := Option.some.inj e3; have := hs6.out; omega
       have HOA7 : w'.ownsRow (w.heap.size + 2) 2 1 aa (allK TK c).length ((allK TK c).map (Value.int .i64)) := ownQ_heap HOA (fun b hb => hold b (HOA.lt b hb).2 (hne b hb))
       have hne7 : ∀ b, aa.ownBlock = some b → some b ≠ v'.ownBlock := fun b hb e3 => by
         have hb2 := (HOA.lt b hb).2
         rcases hob with h | h
         · rw [h] at e3; exact hne b hb e3
         · rw [h] at e3; have := Option.some.inj e3; have := hs6.out; omega
       have hT7 := HKN.out c (by omega)
       rw [show setV kvf c (.slice ko1 kn1 kc1) c = .slice ko1 kn1 kc1 from if_pos rfl, show setV evf c (.slice eo1 en1 ec1) c = .slice eo1 en1 ec1 from if_pos rfl] at hT7
       have hlf := hT7.lf
       have hI7 := hT7.ids
       obtain ⟨ao', cap', rfl⟩ := ownQ_slice hown
       rw [← kdL_set] at hown
       have B57 : Blk w' G5 [.int .i64 (kX x hf c), .int .i64 (kY y hf c), .int .i64 hf, .slice ko1 kn1 kc1, .slice eo1 en1 ec1] := B5.keep hsz5 (hold G5 B5.lt (fun e3 => by have := hvb G5 e3.symm; omega))
       have B07 := B0.keep hsz5 (hold _ B0.lt (fun e3 => by have := hvb _ e3.symm; omega))
       have B27 := B2.keep hsz5 (hold _ B2.lt (fun e3 => by have := hvb _ e3.symm; omega))
       have HB7 : Below w.heap.size w w' := (HB.alloc (by omega) _).grown hgrow (by have := hs6.out; omega) (fun b hb => by have := hvb b hb; omega)
       have hvb7 : ∀ b, (Value.slice ao' (c + 1) cap').ownBlock = some b → b < w'.heap.size := fun b hb => (hown.lt b hb).2
       clear hold hsz5 hgrow hob HO6 hs6 p0 p1 p2 p3 p4 HO HOA B0 B2 HB hT5 HM5 B5 hvb hT7 hne hPl5 hwr5 hw15
       have p3 := B57.c 3 rfl
       obtain ⟨b2, hb2⟩ : ∃ b2, isLf (TK c) = b2 := ⟨_, rfl⟩
       rw [hb2] at hlf
       have HLF : Hid (lfK TK (c + 1) = (b1 && b2)) := by show (lfK TK c && isLf (TK c)) = (b1 && b2); rw [HB1.out, hb2]
       clear hb2
       go_upto_region 18 with fail
       go_cut [11] (fun p wx => p = .bool (b1 && b2) ∧ w' = wx)
       case first =>
         rcases hlf with ⟨h0, h1⟩ | ⟨h0, h1⟩ <;> subst h0 <;> subst h1 <;> cases b1 <;> go_wp2 <;> go_meet <;> exact ⟨rfl, rfl⟩
       case rest =>
         obtain ⟨rfl, rfl⟩ := hcut
         clear hlf p3
         obtain ⟨ai, ci, h1, hNo, _, _⟩ := hI7
         obtain ⟨L, hL⟩ : ∃ L, idsT (TK c) = L := ⟨_, rfl⟩
         have HL : Hid (idsT (TK c) = L) := hL
         have hLn := HID.out c hc4
         rw [hL] at h1 hNo hLn
         clear hL
         cases h1
         obtain ⟨en, hen⟩ : ∃ en, L.length = en := ⟨_, rfl⟩
         have HEN : Hid (L.length = en) := hen
         rw [hen] at hNo hLn B57 hown
         have HKN2 : Hid (∀ j, j < c + 1 → MTr (okC ok w.heap.size (.slice ao' (c + 1) cap')) w' (TK j) (kX x hf j) (kY y hf j) hf (setV kvf c (.slice ko1 kn1 kc1) j) (setV evf c (.slice eo1 en ec1) j)) := by
           have := HKN.out
           rw [hen] at this
           exact this
         have HNO : Hid (NoIn w' eo1 en (fun i => L.getD i 0)) := hNo
         have hAl := allK_len (n := n) (K := TK) (c := c) (fun k hk => HID.out k (by omega))
         clear hen HKN hNo
         have hcn : c * n ≤ 4 * 1000 := Nat.mul_le_mul (by omega) hn
         go_wp2_with fail
         go_loopw [10, 14] (fun av ii wr => ∃ (i : Nat) (az : Value), az = av ∧ i ≤ en ∧ ii = .int .i64 i ∧ wr.ownsRow (w.heap.size + 2) 2 1 az (mrgL (allK TK c) (L.take i)).length ((mrgL (allK TK c) (L.take i)).map (Value.int .i64)) ∧ (∀ b, az.ownBlock = some b → some b ≠ (Value.slice ao' (c + 1) cap').ownBlock) ∧ Below w'.heap.size w' wr) (fun _ i _ => en - (intOf i).toNat)
         case atStart => exact ⟨0, aa, rfl, by omega, rfl, HOA7, hne7, Below.refl _ _⟩
         case round =>
           clear HOA7 hne7
           obtain ⟨i, az, rfl, hi, rfl, HOZ, hnz, HBZ⟩ := hrel
           by_cases hie : i < en
           · have hiI : (i : Int) < en := by omega
             obtain ⟨A1, off, rfl, hA1, hcell⟩ := HNO.out.step HBZ i hie
             obtain ⟨z, hz⟩ : ∃ z, L[i]? = some z := ⟨_, List.getElem?_eq_getElem (by rw [HEN.out]; exact hie)⟩
             have hgd : L.getD i 0 = z := by rw [List.getD_eq_getElem?_getD, hz]; rfl
             have HY : Hid (L[i]? = some z) := hz
             replace hcell : wr.cell? ⟨A1, off + i, none⟩ = some (.int .i64 z) := by rw [← hgd]; exact hcell
             clear hgd hz
             have hml := mrg_len (L.take i) (allK TK c)
             rw [List.length_take] at hml
             obtain ⟨a3, n3, h3, hN3, _, _⟩ := IdV.of HOZ
             subst h3
             have hWl : w.heap.size + 1 < wr.heap.size := Nat.lt_of_lt_of_le B27.lt HBZ.size
             have C := l7With_up a3 n3 (mrgL (allK TK c) (L.take i)) z (up_mrg _ (up_allK TK c)) (by omega) wr hN3
             rw [← mrg_take _ HY.out] at C
             obtain ⟨nl, hnl⟩ : ∃ nl, (mrgL (allK TK c) (L.take i)).length = nl := ⟨_, rfl⟩
             rw [hnl] at C HOZ ⊢
             have p4 := (B57.step HBZ).c 4 rfl
             clear hN3 hml hnl
             go_wp2_with fail
             refine C.mono ?_
             rintro r w2 ⟨v2, rfl, hown2, hB2⟩
             clear C p4 hcell
             have HN2 : Hid (w2.ownsRow (w.heap.size + 2) 2 1 v2 (mrgL (allK TK c) (L.take (i + 1))).length ((mrgL (allK TK c) (L.take (i + 1))).map (Value.int .i64))) := ownQ_mono2 hown2 (by omega)
             have hnz2 : Hid (∀ b, v2.ownBlock = some b → some b ≠ (Value.slice ao' (c + 1) cap').ownBlock) := fun b hb e3 => by
               have h4 := (hown2.lt b hb).1
               have h5 := hvb7 b e3.symm
               have h6 := HBZ.size
               omega
             replace HBZ := HBZ.trans (hB2.mono HBZ.size)
             clear hown2 hB2 HOZ hnz
             go_wp2
             go_roundw
             case rel => exact ⟨i + 1, v2, rfl, by omega, by go_num, HN2.out, hnz2.out, HBZ⟩
             case measure => simp [intOf]; omega
           · obtain rfl : i = en := by omega
             have HAN : Hid (wr.ownsRow (w.heap.size + 2) 2 1 az (allK TK (c + 1)).length ((allK TK (c + 1)).map (Value.int .i64))) := by
               show wr.ownsRow _ _ _ _ _ _
               rw [List.take_of_length_le (by rw [HEN.out]; exact Nat.le_refl _)] at HOZ
               rw [show allK TK (c + 1) = mrgL (allK TK c) L from by rw [← HL.out]; rfl]
               exact HOZ
             replace B07 := B07.step HBZ
             replace B27 := B27.step HBZ
             have p4 := (B57.step HBZ).c 4 rfl
             have HON := ownA_step hown HBZ
             have HMN : Hid (∀ j, j < c + 1 → MTr (okC ok w.heap.size (.slice ao' (c + 1) cap')) wr (TK j) (kX x hf j) (kY y hf j) hf (setV kvf c (.slice ko1 kn1 kc1) j) (setV evf c (.slice eo1 i ec1) j)) := fun j hj => (HKN2.out j hj).step HBZ
             have HBN := HB7.trans (HBZ.mono HB7.size)
             have HNZ : Hid (∀ b, az.ownBlock = some b → some b ≠ (Value.slice ao' (c + 1) cap').ownBlock) := hnz
             clear HOZ hnz HBZ hown B57 HB7 HKN2 HNO hvb7
             go_wp2
             go_roundw
             case rel => exact ⟨c + 1, _, _, _, _, rfl, rfl, by omega, congrArg Value.bool HLF.out.symm, by go_num, B07, B27, HON, HAN.out, HNZ.out, HMN.out, HBN⟩
             case measure => simp [intOf]; omega
     · obtain rfl : c = 4 := by omega
       have hA4 := allK_len (n := n) (K := TK) (c := 4) HID.out
       obtain ⟨a4, c4, hI4⟩ := ownQ_slice HOA
       subst hI4
       have hI4 := IdV.of HOA
       obtain ⟨n4, hn4⟩ : ∃ n4, (allK TK 4).length = n4 := ⟨_, rfl⟩
       have HT4 : Hid (TT = if lfK TK 4 = true ∧ (n4 : Int) ≤ mx then .leaf (allK TK 4) else .node TR) := by show _ = _; rw [← hn4]; exact HTT.out
       rw [hn4] at HOA hA4 hI4 ⊢
       have HN4 : Hid ((allK TK 4).length = n4) := hn4
       clear hn4
       by_cases hres : b1 = true ∧ (n4 : Int) ≤ mx
       · obtain ⟨rfl, hle⟩ := hres
         obtain rfl : TT = .leaf (allK TK 4) := by rw [HT4.out, if_pos ⟨HB1.out, hle⟩]
         clear HT4 HTT
         have m0 := B0.c 0 rfl; have m1 := B0.c 1 rfl; have m2 := B0.c 2 rfl; have m3 := B0.c 3 rfl; have m4 := B0.c 4 rfl; have y0 := B0.f 0 rfl; have y1 := B0.f 1 rfl; have y2 := B0.f 2 rfl; have y3 := B0.f 3 rfl; have y4 := B0.f 4 rfl
         have B0N : Blk ((wr.setCell ⟨w.heap.size, 3, none⟩ (.slice none 0 0)).setCell ⟨w.heap.size, 4, none⟩ (.slice a4 n4 c4)) w.heap.size [.int .i64 x, .int .i64 y, .int .i64 s, .slice none 0 0, .slice a4 n4 c4] := (B0.setI 3 (by simp) _).setI 4 (by simp) _
         have hne0 : ∀ b, b ≠ w.heap.size → ((wr.setCell ⟨w.heap.size, 3, none⟩ (.slice none 0 0)).setCell ⟨w.heap.size, 4, none⟩ (.slice a4 n4 c4)).heap[b]? = wr.heap[b]? := fun b hb => (Below.heap_setCell _ _ _ _ hb).trans (Below.heap_setCell _ _ _ _ hb)
         have hss : wr.heap.size ≤ ((wr.setCell ⟨w.heap.size, 3, none⟩ (.slice none 0 0)).setCell ⟨w.heap.size, 4, none⟩ (.slice a4 n4 c4)).heap.size := by simp [World.setCell]
         have B2N : Blk ((wr.setCell ⟨w.heap.size, 3, none⟩ (.slice none 0 0)).setCell ⟨w.heap.size, 4, none⟩ (.slice a4 n4 c4)) (w.heap.size + 1) [.int .i64 0, .int .i64 0, .int .i64 0, .slice none 0 0, .slice none 0 0] := B2.keep hss (hne0 _ (by omega))
         have HBN : Below w.heap.size w ((wr.setCell ⟨w.heap.size, 3, none⟩ (.slice none 0 0)).setCell ⟨w.heap.size, 4, none⟩ (.slice a4 n4 c4)) := (HB.setCell (Nat.le_refl _) _).setCell (Nat.le_refl _) _
         have hIN : IdV (fun b => w.heap.size + 2 ≤ b) ((wr.setCell ⟨w.heap.size, 3, none⟩ (.slice none 0 0)).setCell ⟨w.heap.size, 4, none⟩ (.slice a4 n4 c4)) (.slice a4 n4 c4) (allK TK 4) := hI4.keep hss (fun b hb _ => hne0 b (by omega)) (fun _ h _ => h)
         clear hI4 HOA HO HM hne hne0 hss
         go_upto_region 26 with fail
         clear m0 m1 m2 m3 m4 y0 y1 y2 y3 y4 B0 B2 HB
         generalize ((wr.setCell ⟨w.heap.size, 3, none⟩ (.slice none 0 0)).setCell ⟨w.heap.size, 4, none⟩ (.slice a4 n4 c4)) = W4 at *
         have m0 := B0N.c 0 rfl; have m1 := B0N.c 1 rfl; have m2 := B0N.c 2 rfl; have m3 := B0N.c 3 rfl; have m4 := B0N.c 4 rfl; have y0 := B2N.f 0 rfl; have y1 := B2N.f 1 rfl; have y2 := B2N.f 2 rfl; have y3 := B2N.f 3 rfl; have y4 := B2N.f 4 rfl; have z0 := B2N.c 0 rfl; have z1 := B2N.c 1 rfl; have z2 := B2N.c 2 rfl; have z3 := B2N.c 3 rfl; have z4 := B2N.c 4 rfl
         have BF := set5_blk B2N (.int .i64 x) (.int .i64 y) (.int .i64 s) (.slice none 0 0) (.slice a4 n4 c4)
         have HF := set5_below HBN (show w.heap.size ≤ w.heap.size + 1 by omega) (.int .i64 x) (.int .i64 y) (.int .i64 s) (.slice none 0 0) (.slice a4 n4 c4)
         have HI9 : Hid (IdV (fun b => w.heap.size ≤ b) (((((W4.setCell ⟨w.heap.size + 1, 0, none⟩ (.int .i64 x)).setCell ⟨w.heap.size + 1, 1, none⟩ (.int .i64 y)).setCell ⟨w.heap.size + 1, 2, none⟩ (.int .i64 s)).setCell ⟨w.heap.size + 1, 3, none⟩ (.slice none 0 0)).setCell ⟨w.heap.size + 1, 4, none⟩ (.slice a4 n4 c4)) (.slice a4 n4 c4) (allK TK 4)) := hIN.keep (by simp [World.setCell]) (fun b hb _ => set5_heap (by show b ≠ w.heap.size + 1; omega)) (fun b hb _ => by omega)
         clear hIN
         go_wp2
         have r0 := BF.out.c 0 rfl; have r1 := BF.out.c 1 rfl; have r2 := BF.out.c 2 rfl; have r3 := BF.out.c 3 rfl; have r4 := BF.out.c 4 rfl
         refine bodyPost_ret (v := .agg #[.int .i64 x, .int .i64 y, .int .i64 s, .slice none 0 0, .slice a4 n4 c4]) (by simp [results, Try.results47, go_sem, r0, r1, r2, r3, r4]) rfl ?_
         exact ⟨none, 0, 0, a4, n4, c4, rfl, ⟨rfl, HI9.out.keep (Nat.le_refl _) (fun _ _ _ => rfl) (fun _ h _ => .inr h)⟩, HF⟩
       · obtain rfl : TT = .node TR := by rw [HT4.out, if_neg (fun e => hres ⟨HB1.out.symm.trans e.1, e.2⟩)]
         clear HT4 HTT
         go_upto_region 23 with fail
         go_cut [90] (fun p wx => p = .bool false ∧ wr = wx)
         case first =>
           cases b1
           · go_wp2
             go_meet
             exact ⟨rfl, rfl⟩
           · have hgt : ¬ ((n4 : Int) ≤ mx) := fun e => hres ⟨rfl, e⟩
             go_wp2
             go_meet
             exact ⟨by first | rfl | exact congrArg Value.bool (decide_eq_false hgt), rfl⟩
         case rest =>
           obtain ⟨rfl, rfl⟩ := hcut
           clear hres hI4 HOA hne
           obtain ⟨gk, ck, rfl, hgk1, hgk2, _, _⟩ := ownQ_form HO (by omega)
           have m0 := B0.c 0 rfl; have m1 := B0.c 1 rfl; have m2 := B0.c 2 rfl; have m3 := B0.c 3 rfl; have m4 := B0.c 4 rfl; have y0 := B0.f 0 rfl; have y1 := B0.f 1 rfl; have y2 := B0.f 2 rfl; have y3 := B0.f 3 rfl; have y4 := B0.f 4 rfl
           have B0N : Blk (wr.setCell ⟨w.heap.size, 3, none⟩ (.slice (some ⟨gk, 0, none⟩) 4 ck)) w.heap.size [.int .i64 x, .int .i64 y, .int .i64 s, .slice (some ⟨gk, 0, none⟩) 4 ck, .slice eo 0 ec] := B0.setI 3 (by simp) _
           have hne0 : ∀ b, b ≠ w.heap.size → (wr.setCell ⟨w.heap.size, 3, none⟩ (.slice (some ⟨gk, 0, none⟩) 4 ck)).heap[b]? = wr.heap[b]? := fun b hb => Below.heap_setCell _ _ _ _ hb
           have hss : wr.heap.size ≤ (wr.setCell ⟨w.heap.size, 3, none⟩ (.slice (some ⟨gk, 0, none⟩) 4 ck)).heap.size := by simp [World.setCell]
           have B2N : Blk (wr.setCell ⟨w.heap.size, 3, none⟩ (.slice (some ⟨gk, 0, none⟩) 4 ck)) (w.heap.size + 1) [.int .i64 0, .int .i64 0, .int .i64 0, .slice none 0 0, .slice none 0 0] := B2.keep hss (hne0 _ (by omega))
           have HBN : Below w.heap.size w (wr.setCell ⟨w.heap.size, 3, none⟩ (.slice (some ⟨gk, 0, none⟩) 4 ck)) := HB.setCell (Nat.le_refl _) _
           have MN : Hid (MTr (fun b => (ok b ∧ b < w.heap.size) ∨ w.heap.size + 1 < b) (wr.setCell ⟨w.heap.size, 3, none⟩ (.slice (some ⟨gk, 0, none⟩) 4 ck)) (.node TR) x y s (.slice (some ⟨gk, 0, none⟩) 4 ck) (.slice eo 0 ec)) := by
             refine MTr.node_of (kv' := kvf) (ev' := evf) (base := w.heap.size + 2) (fun b hb => .inr (by omega)) ?_ ?_ (fun k hk4 => ?_)
             · exact (HE.out.keep (w' := wr) (ok' := fun b => ok b ∧ b < w.heap.size) HB.size (fun b _ hb => HB.block b hb) (fun b h h2 => ⟨h, h2⟩)).keep hss (fun b hb _ => hne0 b (by omega)) (fun b hb _ => .inl hb)
             · rw [HHF.out]; exact ownQ_heap HO (fun b hb => hne0 b (by have := (HO.lt b hb).1; omega))
             · rw [HHF.out, HTR.out k hk4]
               exact MTr.keep hss (fun b hb _ => hne0 b (by rcases hb with hb | hb <;> omega)) (fun b hb _ => hb.elim .inl (fun h => .inr h.1)) (HM k hk4)
           go_upto_region 28 with fail
           clear m0 m1 m2 m3 m4 y0 y1 y2 y3 y4 B0 B2 HB HO HM hne0 hss
           generalize (wr.setCell ⟨w.heap.size, 3, none⟩ (.slice (some ⟨gk, 0, none⟩) 4 ck)) = W4 at *
           have m0 := B0N.c 0 rfl; have m1 := B0N.c 1 rfl; have m2 := B0N.c 2 rfl; have m3 := B0N.c 3 rfl; have m4 := B0N.c 4 rfl; have y0 := B2N.f 0 rfl; have y1 := B2N.f 1 rfl; have y2 := B2N.f 2 rfl; have y3 := B2N.f 3 rfl; have y4 := B2N.f 4 rfl; have z0 := B2N.c 0 rfl; have z1 := B2N.c 1 rfl; have z2 := B2N.c 2 rfl; have z3 := B2N.c 3 rfl; have z4 := B2N.c 4 rfl
           have BF := set5_blk B2N (.int .i64 x) (.int .i64 y) (.int .i64 s) (.slice (some ⟨gk, 0, none⟩) 4 ck) (.slice eo 0 ec)
           have HF := set5_below HBN (show w.heap.size ≤ w.heap.size + 1 by omega) (.int .i64 x) (.int .i64 y) (.int .i64 s) (.slice (some ⟨gk, 0, none⟩) 4 ck) (.slice eo 0 ec)
           have MF : Hid (MTr (fun b => ok b ∨ w.heap.size ≤ b) (((((W4.setCell ⟨w.heap.size + 1, 0, none⟩ (.int .i64 x)).setCell ⟨w.heap.size + 1, 1, none⟩ (.int .i64 y)).setCell ⟨w.heap.size + 1, 2, none⟩ (.int .i64 s)).setCell ⟨w.heap.size + 1, 3, none⟩ (.slice (some ⟨gk, 0, none⟩) 4 ck)).setCell ⟨w.heap.size + 1, 4, none⟩ (.slice eo 0 ec)) (.node TR) x y s (.slice (some ⟨gk, 0, none⟩) 4 ck) (.slice eo 0 ec)) := MTr.keep (by simp [World.setCell]) (fun b hb _ => set5_heap (by show b ≠ w.heap.size + 1; rcases hb with hb | hb <;> omega)) (fun b hb _ => hb.elim (fun h => .inl h.1) (fun h => .inr (by omega))) MN.out
           clear MN
           go_wp2
           have r0 := BF.out.c 0 rfl; have r1 := BF.out.c 1 rfl; have r2 := BF.out.c 2 rfl; have r3 := BF.out.c 3 rfl; have r4 := BF.out.c 4 rfl
           refine bodyPost_ret (v := .agg #[.int .i64 x, .int .i64 y, .int .i64 s, .slice (some ⟨gk, 0, none⟩) 4 ck, .slice eo 0 ec]) (by simp [results, Try.results47, go_sem, r0, r1, r2, r3, r4]) rfl ?_
           exact ⟨some ⟨gk, 0, none⟩, 4, ck, eo, 0, ec, rfl, MF.out, HF⟩
def Vqc12 (P _Rb _G kn kc en ec n icap : Nat) (ko eo io : Option Addr) (m d id : Int) (_TT : Option Addr → Nat → Nat → Option Addr → Nat → Nat → World → Prop) (_UU : Option Addr → Nat → Nat → World → Prop) (_Wd : World) (_B : Nat) : Nat → Value → World → Prop
 | 0, v, _ => v = .pointer (some ⟨P, 0, none⟩)
 | 1, v, _ => v = .int .i64 m
 | 2, v, _ => v = .pointer (some ⟨P, 1, none⟩)
 | 3, v, _ => v = .int .i64 d
 | 4, v, _ => v = .slice io n icap
 | 5, v, _ => v = .agg #[.int .i64 (-1048576), .int .i64 (-1048576), .int .i64 2097152, .slice ko kn kc, .slice eo en ec]
 | 6, v, _ => v = .int .i64 id
 | 7, v, _ => v = .pointer (some ⟨P, 0, none⟩)
 | 8, v, _ => v = .int .i64 m
 | 13, v, _ => v = .bool true
 | _, _, _ => True
theorem Vqc12.same {P Rb G kn kc en ec n icap : Nat} {ko eo io : Option Addr} {m d id : Int} {TT : Option Addr → Nat → Nat → Option Addr → Nat → Nat → World → Prop} {UU : Option Addr → Nat → Nat → World → Prop} {Wd : World} {B j : Nat} {v : Value} {W W2 : World} (h : Vqc12 P Rb G kn kc en ec n icap ko eo io m d id TT UU Wd B j v W) : Vqc12 P Rb G kn kc en ec n icap ko eo io m d id TT UU Wd B j v W2 := by
 unfold Vqc12 at *
 split <;> simp only at h <;> first | exact h | trivial
def Rqc12 (_P Rb _G _kn _kc _en _ec n icap : Nat) (_ko _eo io : Option Addr) (m d _id : Int) (TT : Option Addr → Nat → Nat → Option Addr → Nat → Nat → World → Prop) (UU : Option Addr → Nat → Nat → World → Prop) (Wd : World) : Nat → (Nat → Value) → World → Prop := fun kq val W => match kq with
 | 0 => W = Wd
 | 1 => ∃ ko1 kn1 kc1 eo1 en1 ec1, val 0 = .agg #[.int .i64 (-1048576), .int .i64 (-1048576), .int .i64 2097152, .slice ko1 kn1 kc1, .slice eo1 en1 ec1] ∧ TT ko1 kn1 kc1 eo1 en1 ec1 W ∧ Below Wd.heap.size Wd W
 | 2 => ∃ uo un uc, val 1 = .slice uo un uc ∧ UU uo un uc W ∧ Below Wd.heap.size Wd W
 | 3 => ∃ uo un uc, val 2 = .agg #[.int .i64 m, .int .i64 d, .slice io n icap, .slice uo un uc] ∧ UU uo un uc W ∧ Below Wd.heap.size Wd W
 | _ => ∃ uo un uc W2, UU uo un uc W2 ∧ Below Wd.heap.size Wd W2 ∧ W = ((((W2.setCell ⟨Rb, 0, none⟩ (.int .i64 m)).setCell ⟨Rb, 1, none⟩ (.int .i64 d)).setCell ⟨Rb, 2, none⟩ (.slice io n icap)).setCell ⟨Rb, 3, none⟩ (.slice uo un uc))
def Sqc12 (P Rb G kn kc en ec n icap : Nat) (ko eo io : Option Addr) (m d id : Int) (TT : Option Addr → Nat → Nat → Option Addr → Nat → Nat → World → Prop) (UU : Option Addr → Nat → Nat → World → Prop) (Wd : World) (lz : Array Bool) (az : Act) (W : World) : Prop := ChS 14 5 (fun t => [9, 10, 11, 12, 13].getD t 0) (fun t => [58, 59, 60, 1012, 5].getD t 0) (Rqc12 P Rb G kn kc en ec n icap ko eo io m d id TT UU Wd) lz az W ∧ ((lz.getD 9 false = true → lz.getD 5 false = true))
def Jqc12 (P Rb G kn kc en ec n icap : Nat) (ko eo io : Option Addr) (m d id : Int) (TT : Option Addr → Nat → Nat → Option Addr → Nat → Nat → World → Prop) (UU : Option Addr → Nat → Nat → World → Prop) (Wd : World) (w0 : World) (a0 : Act) (lz : Array Bool) (az : Act) (W : World) : Prop := InvQ (Rb) [some 49, some 50, some 51, some 52, some 53, some 54, some 55, some 56, some 57, some 58, some 59, some 60, none, some 5] (Vqc12 P Rb G kn kc en ec n icap ko eo io m d id TT UU Wd (Rb)) w0 a0 lz az W ∧ Sqc12 P Rb G kn kc en ec n icap ko eo io m d id TT UU Wd lz az W
set_option maxRecDepth 100000 in
set_option maxHeartbeats 4000000 in
theorem qc12 {Q : Exit → Act → World → Prop} {P Rb G kn kc en ec n icap : Nat} {ko eo io : Option Addr} {m d id : Int} {TT : Option Addr → Nat → Nat → Option Addr → Nat → Nat → World → Prop} {UU : Option Addr → Nat → Nat → World → Prop} {Wd : World}  {w0 : World} {a0 : Act} {idq : Nat} {t0 t1 t2 t3 t4 t5 t6 t7 t8 t9 t10 t11 t12 t13 : TypeId} {q0 q1 q2 q3 q4 q5 q6 q7 q8 q9 q10 q11 q12 q13 : String}
   (hbw : Rb < w0.heap.size) (hG : Blk w0.drew G [.int .i64 (-1048576), .int .i64 (-1048576), .int .i64 2097152, .slice ko kn kc, .slice eo en ec]) (hR0 : Blk w0.drew Rb [.int .i64 0, .int .i64 0, .slice none 0 0, .slice none 0 0]) (hcut : Calls Try.prog 47 #[.agg #[.int .i64 (-1048576), .int .i64 (-1048576), .int .i64 2097152, .slice ko kn kc, .slice eo en ec], .int .i64 id, .int .i64 m] Wd (fun r W2 => ∃ ko1 kn1 kc1 eo1 en1 ec1, r = .returned (.agg #[.int .i64 (-1048576), .int .i64 (-1048576), .int .i64 2097152, .slice ko1 kn1 kc1, .slice eo1 en1 ec1]) ∧ TT ko1 kn1 kc1 eo1 en1 ec1 W2 ∧ Below Wd.heap.size Wd W2)) (hwrite : ∀ ko1 kn1 kc1 eo1 en1 ec1 W, TT ko1 kn1 kc1 eo1 en1 ec1 W → Below Wd.heap.size Wd W → Calls Try.prog 29 #[.agg #[.int .i64 (-1048576), .int .i64 (-1048576), .int .i64 2097152, .slice ko1 kn1 kc1, .slice eo1 en1 ec1]] W (fun r W2 => ∃ uo un uc, r = .returned (.slice uo un uc) ∧ UU uo un uc W2 ∧ Below W.heap.size W W2)) (hWe : Wd = w0.drew) (h1 : a0.tmps[1]? = some (.int .i64 id)) (h2 : a0.tmps[2]? = some (.pointer (some ⟨P, 0, none⟩))) (h4 : a0.tmps[4]? = some (.pointer (some ⟨Rb, 0, none⟩))) (h6 : a0.tmps[6]? = some (.pointer (some ⟨G, 0, none⟩))) (h8 : a0.tmps[8]? = some (.slice io n icap)) (k0 : w0.cell? ⟨P, 0, none⟩ = some (.int .i64 m)) (l0 : (⟨P, 0, none⟩ : Addr).block < Rb) (k1 : w0.cell? ⟨P, 1, none⟩ = some (.int .i64 d)) (l1 : (⟨P, 1, none⟩ : Addr).block < Rb) (hz : a0.tmps.size = 61)
   (hQ : ∀ aq W, aq.tmps.size = a0.tmps.size → aq.defers = a0.defers → (∀ e, e ∉ ([49, 50, 51, 52, 53, 54, 55, 56, 57, 58, 59, 60, 5] : List Nat) → aq.tmps[e]? = a0.tmps[e]?) → Vqc12 P Rb G kn kc en ec n icap ko eo io m d id TT UU Wd (Rb) 13 (aq.tmps.getD 5 undef) W → Below (Rb) w0 W → (∃ uo un uc W2, UU uo un uc W2 ∧ Below Wd.heap.size Wd W2 ∧ W = ((((W2.setCell ⟨Rb, 0, none⟩ (.int .i64 m)).setCell ⟨Rb, 1, none⟩ (.int .i64 d)).setCell ⟨Rb, 2, none⟩ (.slice io n icap)).setCell ⟨Rb, 3, none⟩ (.slice uo un uc))) → Q .normal aq W) :
   (Code.region idq #[{ dst := some 49, op := Op.fieldAddr 34 (Operand.tmp 2) 0, type := t0, pos := q0, after := #[], guard := none },
   { dst := some 50, op := Op.load 2 (Operand.tmp 49), type := t1, pos := q1, after := #[{ on := 0, ground := Ground.data }], guard := none },
   { dst := some 51, op := Op.fieldAddr 34 (Operand.tmp 2) 1, type := t2, pos := q2, after := #[], guard := none },
   { dst := some 52, op := Op.load 2 (Operand.tmp 51), type := t3, pos := q3, after := #[{ on := 2, ground := Ground.data }], guard := none },
   { dst := some 53, op := Op.move (Operand.tmp 8), type := t4, pos := q4, after := #[], guard := none },
   { dst := some 54, op := Op.load 64 (Operand.tmp 6), type := t5, pos := q5, after := #[], guard := none },
   { dst := some 55, op := Op.move (Operand.tmp 1), type := t6, pos := q6, after := #[], guard := none },
   { dst := some 56, op := Op.fieldAddr 34 (Operand.tmp 2) 0, type := t7, pos := q7, after := #[], guard := none },
   { dst := some 57, op := Op.load 2 (Operand.tmp 56), type := t8, pos := q8, after := #[{ on := 7, ground := Ground.data }], guard := none },
   { dst := some 58, op := Op.call { callee := Callee.value (Operand.func 47), args := #[Operand.tmp 54, Operand.tmp 55, Operand.tmp 57], argTypes := #[64, 2, 2] }, type := t9, pos := q9, after := #[{ on := 5, ground := Ground.data }, { on := 6, ground := Ground.data }, { on := 8, ground := Ground.data }], guard := none },
   { dst := some 59, op := Op.call { callee := Callee.value (Operand.func 29), args := #[Operand.tmp 58], argTypes := #[64] }, type := t10, pos := q10, after := #[{ on := 9, ground := Ground.data }, { on := 9, ground := Ground.chain }], guard := none },
   { dst := some 60, op := Op.build 34 #[(0, Operand.tmp 50), (1, Operand.tmp 52), (2, Operand.tmp 53), (3, Operand.tmp 59)], type := t11, pos := q11, after := #[{ on := 1, ground := Ground.data }, { on := 3, ground := Ground.data }, { on := 4, ground := Ground.data }, { on := 10, ground := Ground.data }], guard := none },
   { dst := none, op := Op.store 34 (Operand.tmp 4) (Operand.tmp 60), type := t12, pos := q12, after := #[{ on := 11, ground := Ground.data }, { on := 10, ground := Ground.chain }, { on := 0, ground := Ground.phase }, { on := 1, ground := Ground.phase }, { on := 2, ground := Ground.phase }, { on := 3, ground := Ground.phase }, { on := 4, ground := Ground.phase }, { on := 5, ground := Ground.phase }, { on := 6, ground := Ground.phase }, { on := 7, ground := Ground.phase }, { on := 8, ground := Ground.phase }, { on := 9, ground := Ground.phase }, { on := 10, ground := Ground.phase }, { on := 11, ground := Ground.phase }], guard := none },
   { dst := some 5, op := Op.assign (Operand.const (Value.bool true)), type := t13, pos := q13, after := #[{ on := 12, ground := Ground.chain }, { on := 0, ground := Ground.phase }, { on := 1, ground := Ground.phase }, { on := 2, ground := Ground.phase }, { on := 3, ground := Ground.phase }, { on := 4, ground := Ground.phase }, { on := 5, ground := Ground.phase }, { on := 6, ground := Ground.phase }, { on := 7, ground := Ground.phase }, { on := 8, ground := Ground.phase }, { on := 9, ground := Ground.phase }, { on := 10, ground := Ground.phase }, { on := 11, ground := Ground.phase }, { on := 12, ground := Ground.phase }], guard := none }] true).wp Try.prog Q a0 w0 := by
 have hS : distS [some 49, some 50, some 51, some 52, some 53, some 54, some 55, some 56, some 57, some 58, some 59, some 60, none, some 5] = true := rfl
 refine wp_region_inv (by kernel_rfl) (Jqc12 P Rb G kn kc en ec n icap ko eo io m d id TT UU Wd w0 a0) ⟨⟨rfl, rfl, rfl, fun _ _ => rfl, (Below.refl _ w0).drew, fun j d hj => ?_, fun j hj => ?_⟩, ⟨ChS.start (by decide) (hWe.symm), (fun h => by rw [replD] at h; cases h)⟩⟩ ?_ ?_
 · exfalso
   rw [Array.getD_eq_getD_getElem?, Array.getElem?_replicate] at hj
   split at hj <;> simp at hj
 · exfalso
   rw [Array.getD_eq_getD_getElem?, Array.getElem?_replicate] at hj
   split at hj <;> simp at hj
 · intro lq aq W iq oq ⟨hJ, hs⟩ hl ho hall
   have hJ2 := hJ
   obtain ⟨z1, z2, z3, z4, z5, z6, z7⟩ := hJ
   have g1 : aq.tmps.getD 1 undef = .int .i64 id := by rw [Array.getD_eq_getD_getElem?, z4 1 (by decide), h1]; rfl
   have g2 : aq.tmps.getD 2 undef = .pointer (some ⟨P, 0, none⟩) := by rw [Array.getD_eq_getD_getElem?, z4 2 (by decide), h2]; rfl
   have g4 : aq.tmps.getD 4 undef = .pointer (some ⟨Rb, 0, none⟩) := by rw [Array.getD_eq_getD_getElem?, z4 4 (by decide), h4]; rfl
   have g6 : aq.tmps.getD 6 undef = .pointer (some ⟨G, 0, none⟩) := by rw [Array.getD_eq_getD_getElem?, z4 6 (by decide), h6]; rfl
   have g8 : aq.tmps.getD 8 undef = .slice io n icap := by rw [Array.getD_eq_getD_getElem?, z4 8 (by decide), h8]; rfl
   have c0 : W.cell? ⟨P, 0, none⟩ = some (.int .i64 m) := (z5.cell l0).trans k0
   have c1 : W.cell? ⟨P, 1, none⟩ = some (.int .i64 d) := (z5.cell l1).trans k1
   match iq, ho with
   | 0, ho =>
     cases ho
     refine wpOp_of rfl rfl ?_
     have hq : ∀ v : Value, Sqc12 P Rb G kn kc en ec n icap ko eo io m d id TT UU Wd (lq.setIfInBounds 0 true) (aq.put (some 49) v) W := fun v => ⟨hs.1.quiet 0 49 v (by decide) hl (by decide) (by decide), (by rw [getD_set_neq (i := 0) (j := 9) (by decide), getD_set_neq (i := 0) (j := 5) (by decide)]; exact hs.2)⟩
     clear hs hWe
     have hK := fun (v : Value) (W2 : World) hW hT hv (hs : Sqc12 P Rb G kn kc en ec n icap ko eo io m d id TT UU Wd (lq.setIfInBounds 0 true) (aq.put (some 49) v) W2) => show (Jqc12 P Rb G kn kc en ec n icap ko eo io m d id TT UU Wd w0 a0) (lq.setIfInBounds 0 true) (aq.put (some 49) v) W2 from ⟨hJ2.put hS 0 49 rfl (by omega) (W' := W2) hW hT v hv, hs⟩
     clear ho hall hl hQ
     generalize (Jqc12 P Rb G kn kc en ec n icap ko eo io m d id TT UU Wd w0 a0) (lq.setIfInBounds 0 true) = K at hK ⊢
     clear hJ2 hS z1 z2 z3 z4 z6 z7
     go_simp
     exact hK _ _ z5 (fun _ _ h => h) rfl (hq _)
   | 1, ho =>
     cases ho
     refine wpOp_of rfl rfl ?_
     have f0 : (aq.tmps.getD 49 undef) = .pointer (some ⟨P, 0, none⟩) := z6 0 49 (hall { on := 0, ground := Ground.data } (by simp) rfl) rfl
     have hq : ∀ v : Value, Sqc12 P Rb G kn kc en ec n icap ko eo io m d id TT UU Wd (lq.setIfInBounds 1 true) (aq.put (some 50) v) W := fun v => ⟨hs.1.quiet 1 50 v (by decide) hl (by decide) (by decide), (by rw [getD_set_neq (i := 1) (j := 9) (by decide), getD_set_neq (i := 1) (j := 5) (by decide)]; exact hs.2)⟩
     clear hs hWe
     have hK := fun (v : Value) (W2 : World) hW hT hv (hs : Sqc12 P Rb G kn kc en ec n icap ko eo io m d id TT UU Wd (lq.setIfInBounds 1 true) (aq.put (some 50) v) W2) => show (Jqc12 P Rb G kn kc en ec n icap ko eo io m d id TT UU Wd w0 a0) (lq.setIfInBounds 1 true) (aq.put (some 50) v) W2 from ⟨hJ2.put hS 1 50 rfl (by omega) (W' := W2) hW hT v hv, hs⟩
     clear ho hall hl hQ
     generalize (Jqc12 P Rb G kn kc en ec n icap ko eo io m d id TT UU Wd w0 a0) (lq.setIfInBounds 1 true) = K at hK ⊢
     clear hJ2 hS z1 z2 z3 z4 z6 z7
     go_simp
     exact hK _ _ z5 (fun _ _ h => h) rfl (hq _)
   | 2, ho =>
     cases ho
     refine wpOp_of rfl rfl ?_
     have hq : ∀ v : Value, Sqc12 P Rb G kn kc en ec n icap ko eo io m d id TT UU Wd (lq.setIfInBounds 2 true) (aq.put (some 51) v) W := fun v => ⟨hs.1.quiet 2 51 v (by decide) hl (by decide) (by decide), (by rw [getD_set_neq (i := 2) (j := 9) (by decide), getD_set_neq (i := 2) (j := 5) (by decide)]; exact hs.2)⟩
     clear hs hWe
     have hK := fun (v : Value) (W2 : World) hW hT hv (hs : Sqc12 P Rb G kn kc en ec n icap ko eo io m d id TT UU Wd (lq.setIfInBounds 2 true) (aq.put (some 51) v) W2) => show (Jqc12 P Rb G kn kc en ec n icap ko eo io m d id TT UU Wd w0 a0) (lq.setIfInBounds 2 true) (aq.put (some 51) v) W2 from ⟨hJ2.put hS 2 51 rfl (by omega) (W' := W2) hW hT v hv, hs⟩
     clear ho hall hl hQ
     generalize (Jqc12 P Rb G kn kc en ec n icap ko eo io m d id TT UU Wd w0 a0) (lq.setIfInBounds 2 true) = K at hK ⊢
     clear hJ2 hS z1 z2 z3 z4 z6 z7
     go_simp
     exact hK _ _ z5 (fun _ _ h => h) rfl (hq _)
   | 3, ho =>
     cases ho
     refine wpOp_of rfl rfl ?_
     have f2 : (aq.tmps.getD 51 undef) = .pointer (some ⟨P, 1, none⟩) := z6 2 51 (hall { on := 2, ground := Ground.data } (by simp) rfl) rfl
     have hq : ∀ v : Value, Sqc12 P Rb G kn kc en ec n icap ko eo io m d id TT UU Wd (lq.setIfInBounds 3 true) (aq.put (some 52) v) W := fun v => ⟨hs.1.quiet 3 52 v (by decide) hl (by decide) (by decide), (by rw [getD_set_neq (i := 3) (j := 9) (by decide), getD_set_neq (i := 3) (j := 5) (by decide)]; exact hs.2)⟩
     clear hs hWe
     have hK := fun (v : Value) (W2 : World) hW hT hv (hs : Sqc12 P Rb G kn kc en ec n icap ko eo io m d id TT UU Wd (lq.setIfInBounds 3 true) (aq.put (some 52) v) W2) => show (Jqc12 P Rb G kn kc en ec n icap ko eo io m d id TT UU Wd w0 a0) (lq.setIfInBounds 3 true) (aq.put (some 52) v) W2 from ⟨hJ2.put hS 3 52 rfl (by omega) (W' := W2) hW hT v hv, hs⟩
     clear ho hall hl hQ
     generalize (Jqc12 P Rb G kn kc en ec n icap ko eo io m d id TT UU Wd w0 a0) (lq.setIfInBounds 3 true) = K at hK ⊢
     clear hJ2 hS z1 z2 z3 z4 z6 z7
     go_simp
     exact hK _ _ z5 (fun _ _ h => h) rfl (hq _)
   | 4, ho =>
     cases ho
     refine wpOp_of rfl rfl ?_
     have hq : ∀ v : Value, Sqc12 P Rb G kn kc en ec n icap ko eo io m d id TT UU Wd (lq.setIfInBounds 4 true) (aq.put (some 53) v) W := fun v => ⟨hs.1.quiet 4 53 v (by decide) hl (by decide) (by decide), (by rw [getD_set_neq (i := 4) (j := 9) (by decide), getD_set_neq (i := 4) (j := 5) (by decide)]; exact hs.2)⟩
     clear hs hWe
     have hK := fun (v : Value) (W2 : World) hW hT hv (hs : Sqc12 P Rb G kn kc en ec n icap ko eo io m d id TT UU Wd (lq.setIfInBounds 4 true) (aq.put (some 53) v) W2) => show (Jqc12 P Rb G kn kc en ec n icap ko eo io m d id TT UU Wd w0 a0) (lq.setIfInBounds 4 true) (aq.put (some 53) v) W2 from ⟨hJ2.put hS 4 53 rfl (by omega) (W' := W2) hW hT v hv, hs⟩
     clear ho hall hl hQ
     generalize (Jqc12 P Rb G kn kc en ec n icap ko eo io m d id TT UU Wd w0 a0) (lq.setIfInBounds 4 true) = K at hK ⊢
     clear hJ2 hS z1 z2 z3 z4 z6 z7
     go_simp
     exact hK _ _ z5 (fun _ _ h => h) rfl (hq _)
   | 5, ho =>
     cases ho
     refine wpOp_of rfl rfl ?_
     have hq : ∀ v : Value, Sqc12 P Rb G kn kc en ec n icap ko eo io m d id TT UU Wd (lq.setIfInBounds 5 true) (aq.put (some 54) v) W := fun v => ⟨hs.1.quiet 5 54 v (by decide) hl (by decide) (by decide), (fun _ => getD_set_eq hl)⟩
     have h8 : lq.getD 9 false = false := by cases e : lq.getD 9 false with | false => rfl | true => have := hs.2 e; rw [getD_tf hl] at this; cases this
     obtain ⟨cc, hcc, hRR, hle⟩ := hs.1.some (i := 5) (by decide) hl
     have hcc1 : cc = 0 := by have := hle 0 (by decide) (by show lq.getD 9 true = false; exact getD_ft h8 (by rw [z1]; decide)); omega
     subst hcc1
     have eW : W = Wd := hRR
     have j0 : W.cell? ⟨G, 0, none⟩ = some (.int .i64 (-1048576)) := by rw [eW, hWe]; exact hG.c 0 rfl
     have j1 : W.cell? ⟨G, 1, none⟩ = some (.int .i64 (-1048576)) := by rw [eW, hWe]; exact hG.c 1 rfl
     have j2 : W.cell? ⟨G, 2, none⟩ = some (.int .i64 2097152) := by rw [eW, hWe]; exact hG.c 2 rfl
     have j3 : W.cell? ⟨G, 3, none⟩ = some (.slice ko kn kc) := by rw [eW, hWe]; exact hG.c 3 rfl
     have j4 : W.cell? ⟨G, 4, none⟩ = some (.slice eo en ec) := by rw [eW, hWe]; exact hG.c 4 rfl
     clear hRR hle hcc h8 eW
     clear hs hWe
     have hK := fun (v : Value) (W2 : World) hW hT hv (hs : Sqc12 P Rb G kn kc en ec n icap ko eo io m d id TT UU Wd (lq.setIfInBounds 5 true) (aq.put (some 54) v) W2) => show (Jqc12 P Rb G kn kc en ec n icap ko eo io m d id TT UU Wd w0 a0) (lq.setIfInBounds 5 true) (aq.put (some 54) v) W2 from ⟨hJ2.put hS 5 54 rfl (by omega) (W' := W2) hW hT v hv, hs⟩
     clear ho hall hl hQ
     generalize (Jqc12 P Rb G kn kc en ec n icap ko eo io m d id TT UU Wd w0 a0) (lq.setIfInBounds 5 true) = K at hK ⊢
     clear hJ2 hS z1 z2 z3 z4 z6 z7
     go_simp
     exact hK _ _ z5 (fun _ _ h => h) rfl (hq _)
   | 6, ho =>
     cases ho
     refine wpOp_of rfl rfl ?_
     have hq : ∀ v : Value, Sqc12 P Rb G kn kc en ec n icap ko eo io m d id TT UU Wd (lq.setIfInBounds 6 true) (aq.put (some 55) v) W := fun v => ⟨hs.1.quiet 6 55 v (by decide) hl (by decide) (by decide), (by rw [getD_set_neq (i := 6) (j := 9) (by decide), getD_set_neq (i := 6) (j := 5) (by decide)]; exact hs.2)⟩
     clear hs hWe
     have hK := fun (v : Value) (W2 : World) hW hT hv (hs : Sqc12 P Rb G kn kc en ec n icap ko eo io m d id TT UU Wd (lq.setIfInBounds 6 true) (aq.put (some 55) v) W2) => show (Jqc12 P Rb G kn kc en ec n icap ko eo io m d id TT UU Wd w0 a0) (lq.setIfInBounds 6 true) (aq.put (some 55) v) W2 from ⟨hJ2.put hS 6 55 rfl (by omega) (W' := W2) hW hT v hv, hs⟩
     clear ho hall hl hQ
     generalize (Jqc12 P Rb G kn kc en ec n icap ko eo io m d id TT UU Wd w0 a0) (lq.setIfInBounds 6 true) = K at hK ⊢
     clear hJ2 hS z1 z2 z3 z4 z6 z7
     go_simp
     exact hK _ _ z5 (fun _ _ h => h) rfl (hq _)
   | 7, ho =>
     cases ho
     refine wpOp_of rfl rfl ?_
     have hq : ∀ v : Value, Sqc12 P Rb G kn kc en ec n icap ko eo io m d id TT UU Wd (lq.setIfInBounds 7 true) (aq.put (some 56) v) W := fun v => ⟨hs.1.quiet 7 56 v (by decide) hl (by decide) (by decide), (by rw [getD_set_neq (i := 7) (j := 9) (by decide), getD_set_neq (i := 7) (j := 5) (by decide)]; exact hs.2)⟩
     clear hs hWe
     have hK := fun (v : Value) (W2 : World) hW hT hv (hs : Sqc12 P Rb G kn kc en ec n icap ko eo io m d id TT UU Wd (lq.setIfInBounds 7 true) (aq.put (some 56) v) W2) => show (Jqc12 P Rb G kn kc en ec n icap ko eo io m d id TT UU Wd w0 a0) (lq.setIfInBounds 7 true) (aq.put (some 56) v) W2 from ⟨hJ2.put hS 7 56 rfl (by omega) (W' := W2) hW hT v hv, hs⟩
     clear ho hall hl hQ
     generalize (Jqc12 P Rb G kn kc en ec n icap ko eo io m d id TT UU Wd w0 a0) (lq.setIfInBounds 7 true) = K at hK ⊢
     clear hJ2 hS z1 z2 z3 z4 z6 z7
     go_simp
     exact hK _ _ z5 (fun _ _ h => h) rfl (hq _)
   | 8, ho =>
     cases ho
     refine wpOp_of rfl rfl ?_
     have f7 : (aq.tmps.getD 56 undef) = .pointer (some ⟨P, 0, none⟩) := z6 7 56 (hall { on := 7, ground := Ground.data } (by simp) rfl) rfl
     have hq : ∀ v : Value, Sqc12 P Rb G kn kc en ec n icap ko eo io m d id TT UU Wd (lq.setIfInBounds 8 true) (aq.put (some 57) v) W := fun v => ⟨hs.1.quiet 8 57 v (by decide) hl (by decide) (by decide), (by rw [getD_set_neq (i := 8) (j := 9) (by decide), getD_set_neq (i := 8) (j := 5) (by decide)]; exact hs.2)⟩
     clear hs hWe
     have hK := fun (v : Value) (W2 : World) hW hT hv (hs : Sqc12 P Rb G kn kc en ec n icap ko eo io m d id TT UU Wd (lq.setIfInBounds 8 true) (aq.put (some 57) v) W2) => show (Jqc12 P Rb G kn kc en ec n icap ko eo io m d id TT UU Wd w0 a0) (lq.setIfInBounds 8 true) (aq.put (some 57) v) W2 from ⟨hJ2.put hS 8 57 rfl (by omega) (W' := W2) hW hT v hv, hs⟩
     clear ho hall hl hQ
     generalize (Jqc12 P Rb G kn kc en ec n icap ko eo io m d id TT UU Wd w0 a0) (lq.setIfInBounds 8 true) = K at hK ⊢
     clear hJ2 hS z1 z2 z3 z4 z6 z7
     go_simp
     exact hK _ _ z5 (fun _ _ h => h) rfl (hq _)
   | 9, ho =>
     cases ho
     refine wpOp_of rfl rfl ?_
     have f5 : (aq.tmps.getD 54 undef) = .agg #[.int .i64 (-1048576), .int .i64 (-1048576), .int .i64 2097152, .slice ko kn kc, .slice eo en ec] := z6 5 54 (hall { on := 5, ground := Ground.data } (by simp) rfl) rfl
     have f6 : (aq.tmps.getD 55 undef) = .int .i64 id := z6 6 55 (hall { on := 6, ground := Ground.data } (by simp) rfl) rfl
     have f8 : (aq.tmps.getD 57 undef) = .int .i64 m := z6 8 57 (hall { on := 8, ground := Ground.data } (by simp) rfl) rfl
     have hpr : ∀ t, 0 = t + 1 → lq.getD ((fun t => [9, 10, 11, 12, 13].getD t 0) t) false = true := (fun t ht => absurd ht (by omega))
     have RS := hs.1.now 0 (by decide) hl hpr
     have hq : ∀ (v : Value) (X : World), Rqc12 P Rb G kn kc en ec n icap ko eo io m d id TT UU Wd 1 (fun t => if t = 0 then v else valC 5 (fun t => [58, 59, 60, 1012, 5].getD t 0) aq t) X → Sqc12 P Rb G kn kc en ec n icap ko eo io m d id TT UU Wd (lq.setIfInBounds 9 true) (aq.put (some 58) v) X := fun v X hX => ⟨hs.1.link 0 (by decide) hl hpr (by decide) (by decide) (by rw [z2, hz]; decide) (fun e => absurd e (by decide)) hX, (fun _ => by rw [getD_set_neq (i := 9) (j := 5) (by decide)]; exact hall { on := 5, ground := Ground.data } (by simp) rfl)⟩
     have eW : W = Wd := RS
     have HC : Hid (Calls Try.prog 47 #[.agg #[.int .i64 (-1048576), .int .i64 (-1048576), .int .i64 2097152, .slice ko kn kc, .slice eo en ec], .int .i64 id, .int .i64 m] W (fun r W2 => ∃ ko1 kn1 kc1 eo1 en1 ec1, r = .returned (.agg #[.int .i64 (-1048576), .int .i64 (-1048576), .int .i64 2097152, .slice ko1 kn1 kc1, .slice eo1 en1 ec1]) ∧ TT ko1 kn1 kc1 eo1 en1 ec1 W2 ∧ Below Wd.heap.size Wd W2)) := by rw [eW]; exact hcut
     have hbW : Rb ≤ Wd.heap.size := by have := z5.size; rw [eW] at this; omega
     have HzB : ∀ X, Below Wd.heap.size Wd X → Below Rb w0 X := fun X h => by rw [eW] at z5; exact z5.trans (h.mono hbW)
     have hq2 : ∀ (v : Value) (X : World), (∃ ko1 kn1 kc1 eo1 en1 ec1, v = .agg #[.int .i64 (-1048576), .int .i64 (-1048576), .int .i64 2097152, .slice ko1 kn1 kc1, .slice eo1 en1 ec1] ∧ TT ko1 kn1 kc1 eo1 en1 ec1 X ∧ Below Wd.heap.size Wd X) → Sqc12 P Rb G kn kc en ec n icap ko eo io m d id TT UU Wd (lq.setIfInBounds 9 true) (aq.put (some 58) v) X := fun v X h => hq v X h
     clear eW RS hq hbW hcut hwrite hG hR0
     clear hs hWe
     have hK := fun (v : Value) (W2 : World) hW hT hv (hs : Sqc12 P Rb G kn kc en ec n icap ko eo io m d id TT UU Wd (lq.setIfInBounds 9 true) (aq.put (some 58) v) W2) => show (Jqc12 P Rb G kn kc en ec n icap ko eo io m d id TT UU Wd w0 a0) (lq.setIfInBounds 9 true) (aq.put (some 58) v) W2 from ⟨hJ2.put hS 9 58 rfl (by omega) (W' := W2) hW hT v hv, hs⟩
     clear ho hall hl hQ
     generalize (Jqc12 P Rb G kn kc en ec n icap ko eo io m d id TT UU Wd w0 a0) (lq.setIfInBounds 9 true) = K at hK ⊢
     clear hJ2 hS z1 z2 z3 z4 z6 z7
     go_simp
     refine HC.out.mono ?_
     rintro e v1 ⟨ko1, kn1, kc1, eo1, en1, ec1, rfl, hT, hBv⟩
     exact hK _ _ (HzB _ hBv) (fun _ _ h => h.same) trivial (hq2 _ _ ⟨_, _, _, _, _, _, rfl, hT, hBv⟩)
   | 10, ho =>
     cases ho
     refine wpOp_of rfl rfl ?_
     have f9 : True := z6 9 58 (hall { on := 9, ground := Ground.data } (by simp) rfl) rfl
     have hpr : ∀ t, 1 = t + 1 → lq.getD ((fun t => [9, 10, 11, 12, 13].getD t 0) t) false = true := (fun t ht => by obtain rfl : t = 0 := (by omega); exact hall { on := 9, ground := Ground.data } (by simp) rfl)
     have RS := hs.1.now 1 (by decide) hl hpr
     have hq : ∀ (v : Value) (X : World), Rqc12 P Rb G kn kc en ec n icap ko eo io m d id TT UU Wd 2 (fun t => if t = 1 then v else valC 5 (fun t => [58, 59, 60, 1012, 5].getD t 0) aq t) X → Sqc12 P Rb G kn kc en ec n icap ko eo io m d id TT UU Wd (lq.setIfInBounds 10 true) (aq.put (some 59) v) X := fun v X hX => ⟨hs.1.link 1 (by decide) hl hpr (by decide) (by decide) (by rw [z2, hz]; decide) (fun e => absurd e (by decide)) hX, (by rw [getD_set_neq (i := 10) (j := 9) (by decide), getD_set_neq (i := 10) (j := 5) (by decide)]; exact hs.2)⟩
     obtain ⟨ko1, kn1, kc1, eo1, en1, ec1, ev0, hT, hB⟩ := RS
     change aq.tmps.getD 58 undef = .agg #[.int .i64 (-1048576), .int .i64 (-1048576), .int .i64 2097152, .slice ko1 kn1 kc1, .slice eo1 en1 ec1] at ev0
     have HC : Hid (Calls Try.prog 29 #[.agg #[.int .i64 (-1048576), .int .i64 (-1048576), .int .i64 2097152, .slice ko1 kn1 kc1, .slice eo1 en1 ec1]] W (fun r W2 => ∃ uo un uc, r = .returned (.slice uo un uc) ∧ UU uo un uc W2 ∧ Below W.heap.size W W2)) := hwrite _ _ _ _ _ _ W hT hB
     have hbW : Rb ≤ W.heap.size := by have := z5.size; omega
     have hq2 : ∀ (v : Value) (X : World), (∃ uo un uc, v = .slice uo un uc ∧ UU uo un uc X ∧ Below W.heap.size W X) → Sqc12 P Rb G kn kc en ec n icap ko eo io m d id TT UU Wd (lq.setIfInBounds 10 true) (aq.put (some 59) v) X := fun v X ⟨uo, un, uc, h1, h2, h3⟩ => hq v X ⟨uo, un, uc, h1, h2, hB.trans (h3.mono hB.size)⟩
     rw [Array.getD_eq_getD_getElem?] at ev0
     clear hT hB hq hcut hwrite hG hR0
     clear hs hWe
     have hK := fun (v : Value) (W2 : World) hW hT hv (hs : Sqc12 P Rb G kn kc en ec n icap ko eo io m d id TT UU Wd (lq.setIfInBounds 10 true) (aq.put (some 59) v) W2) => show (Jqc12 P Rb G kn kc en ec n icap ko eo io m d id TT UU Wd w0 a0) (lq.setIfInBounds 10 true) (aq.put (some 59) v) W2 from ⟨hJ2.put hS 10 59 rfl (by omega) (W' := W2) hW hT v hv, hs⟩
     clear ho hall hl hQ
     generalize (Jqc12 P Rb G kn kc en ec n icap ko eo io m d id TT UU Wd w0 a0) (lq.setIfInBounds 10 true) = K at hK ⊢
     clear hJ2 hS z1 z2 z3 z4 z6 z7
     go_simp
     refine HC.out.mono ?_
     rintro e v1 ⟨uo, un, uc, rfl, hU, hBv⟩
     exact hK _ _ (z5.trans (hBv.mono hbW)) (fun _ _ h => h.same) trivial (hq2 _ _ ⟨_, _, _, rfl, hU, hBv⟩)
   | 11, ho =>
     cases ho
     refine wpOp_of rfl rfl ?_
     have f1 : (aq.tmps.getD 50 undef) = .int .i64 m := z6 1 50 (hall { on := 1, ground := Ground.data } (by simp) rfl) rfl
     have f3 : (aq.tmps.getD 52 undef) = .int .i64 d := z6 3 52 (hall { on := 3, ground := Ground.data } (by simp) rfl) rfl
     have f4 : (aq.tmps.getD 53 undef) = .slice io n icap := z6 4 53 (hall { on := 4, ground := Ground.data } (by simp) rfl) rfl
     have f10 : True := z6 10 59 (hall { on := 10, ground := Ground.data } (by simp) rfl) rfl
     have hpr : ∀ t, 2 = t + 1 → lq.getD ((fun t => [9, 10, 11, 12, 13].getD t 0) t) false = true := (fun t ht => by obtain rfl : t = 1 := (by omega); exact hall { on := 10, ground := Ground.data } (by simp) rfl)
     have RS := hs.1.now 2 (by decide) hl hpr
     have hq : ∀ (v : Value) (X : World), Rqc12 P Rb G kn kc en ec n icap ko eo io m d id TT UU Wd 3 (fun t => if t = 2 then v else valC 5 (fun t => [58, 59, 60, 1012, 5].getD t 0) aq t) X → Sqc12 P Rb G kn kc en ec n icap ko eo io m d id TT UU Wd (lq.setIfInBounds 11 true) (aq.put (some 60) v) X := fun v X hX => ⟨hs.1.link 2 (by decide) hl hpr (by decide) (by decide) (by rw [z2, hz]; decide) (fun e => absurd e (by decide)) hX, (by rw [getD_set_neq (i := 11) (j := 9) (by decide), getD_set_neq (i := 11) (j := 5) (by decide)]; exact hs.2)⟩
     obtain ⟨uo, un, uc, ev1, hU, hB⟩ := RS
     change aq.tmps.getD 59 undef = .slice uo un uc at ev1
     have hq2 : ∀ v : Value, v = .agg #[.int .i64 m, .int .i64 d, .slice io n icap, .slice uo un uc] → Sqc12 P Rb G kn kc en ec n icap ko eo io m d id TT UU Wd (lq.setIfInBounds 11 true) (aq.put (some 60) v) W := fun v h1 => hq v W ⟨uo, un, uc, h1, hU, hB⟩
     rw [Array.getD_eq_getD_getElem?] at ev1 f1 f3 f4
     clear hU hB hq hcut hwrite hG hR0
     clear hs hWe
     have hK := fun (v : Value) (W2 : World) hW hT hv (hs : Sqc12 P Rb G kn kc en ec n icap ko eo io m d id TT UU Wd (lq.setIfInBounds 11 true) (aq.put (some 60) v) W2) => show (Jqc12 P Rb G kn kc en ec n icap ko eo io m d id TT UU Wd w0 a0) (lq.setIfInBounds 11 true) (aq.put (some 60) v) W2 from ⟨hJ2.put hS 11 60 rfl (by omega) (W' := W2) hW hT v hv, hs⟩
     clear ho hall hl hQ
     generalize (Jqc12 P Rb G kn kc en ec n icap ko eo io m d id TT UU Wd w0 a0) (lq.setIfInBounds 11 true) = K at hK ⊢
     clear hJ2 hS z1 z2 z3 z4 z6 z7
     go_simp
     exact hK _ _ z5 (fun _ _ h => h.same) trivial (hq2 _ rfl)
   | 12, ho =>
     cases ho
     refine wpOp_of rfl rfl ?_
     have f11 : True := z6 11 60 (hall { on := 11, ground := Ground.data } (by simp) rfl) rfl
     have hpr : ∀ t, 3 = t + 1 → lq.getD ((fun t => [9, 10, 11, 12, 13].getD t 0) t) false = true := (fun t ht => by obtain rfl : t = 2 := (by omega); exact hall { on := 11, ground := Ground.data } (by simp) rfl)
     have RS := hs.1.now 3 (by decide) hl hpr
     have hq : ∀ (X : World), Rqc12 P Rb G kn kc en ec n icap ko eo io m d id TT UU Wd 4 (valC 5 (fun t => [58, 59, 60, 1012, 5].getD t 0) aq) X → Sqc12 P Rb G kn kc en ec n icap ko eo io m d id TT UU Wd (lq.setIfInBounds 12 true) aq X := fun X hX => ⟨hs.1.store 3 (by decide) hl hpr (by decide) (fun e => absurd e (by decide)) hX, (by rw [getD_set_neq (i := 12) (j := 9) (by decide), getD_set_neq (i := 12) (j := 5) (by decide)]; exact hs.2)⟩
     obtain ⟨uo, un, uc, ev2, hU, hB⟩ := RS
     change aq.tmps.getD 60 undef = .agg #[.int .i64 m, .int .i64 d, .slice io n icap, .slice uo un uc] at ev2
     have hq2 : Sqc12 P Rb G kn kc en ec n icap ko eo io m d id TT UU Wd (lq.setIfInBounds 12 true) aq ((((W.setCell ⟨Rb, 0, none⟩ (.int .i64 m)).setCell ⟨Rb, 1, none⟩ (.int .i64 d)).setCell ⟨Rb, 2, none⟩ (.slice io n icap)).setCell ⟨Rb, 3, none⟩ (.slice uo un uc)) := hq _ ⟨uo, un, uc, W, hU, hB, rfl⟩
     have BR : Blk W Rb [.int .i64 0, .int .i64 0, .slice none 0 0, .slice none 0 0] := by rw [← hWe] at hR0; exact hR0.step hB
     have y0 := BR.f 0 rfl; have y1 := BR.f 1 rfl; have y2 := BR.f 2 rfl; have y3 := BR.f 3 rfl; have x0 := BR.c 0 rfl; have x1 := BR.c 1 rfl; have x2 := BR.c 2 rfl; have x3 := BR.c 3 rfl
     rw [Array.getD_eq_getD_getElem?] at ev2
     clear hU hB hq BR hcut hwrite hG hR0
     clear hs hWe
     have hK := fun (W2 : World) hW hT hv (hs : Sqc12 P Rb G kn kc en ec n icap ko eo io m d id TT UU Wd (lq.setIfInBounds 12 true) aq W2) => show (Jqc12 P Rb G kn kc en ec n icap ko eo io m d id TT UU Wd w0 a0) (lq.setIfInBounds 12 true) aq W2 from ⟨hJ2.world 12 rfl (W' := W2) hW hT hv, hs⟩
     clear ho hall hl hQ
     generalize (Jqc12 P Rb G kn kc en ec n icap ko eo io m d id TT UU Wd w0 a0) (lq.setIfInBounds 12 true) = K at hK ⊢
     clear hJ2 hS z1 z2 z3 z4 z6 z7
     go_simp
     exact hK _ ((((z5.setCell (Nat.le_refl _) _).setCell (Nat.le_refl _) _).setCell (Nat.le_refl _) _).setCell (Nat.le_refl _) _) (fun _ _ h => h.same) trivial hq2
   | 13, ho =>
     cases ho
     refine wpOp_of rfl rfl ?_
     have hpr : ∀ t, 4 = t + 1 → lq.getD ((fun t => [9, 10, 11, 12, 13].getD t 0) t) false = true := (fun t ht => by obtain rfl : t = 3 := (by omega); exact hall { on := 12, ground := Ground.chain } (by simp) rfl)
     have RS := hs.1.now 4 (by decide) hl hpr
     have hq : ∀ (v : Value) (X : World), Rqc12 P Rb G kn kc en ec n icap ko eo io m d id TT UU Wd 5 (fun t => if t = 4 then v else valC 5 (fun t => [58, 59, 60, 1012, 5].getD t 0) aq t) X → Sqc12 P Rb G kn kc en ec n icap ko eo io m d id TT UU Wd (lq.setIfInBounds 13 true) (aq.put (some 5) v) X := fun v X hX => ⟨hs.1.link 4 (by decide) hl hpr (by decide) (by decide) (by rw [z2, hz]; decide) (fun _ j hj hn => match j, hj, hn with | 0, _, _ => hall { on := 0, ground := Ground.phase } (by simp) rfl | 1, _, _ => hall { on := 1, ground := Ground.phase } (by simp) rfl | 2, _, _ => hall { on := 2, ground := Ground.phase } (by simp) rfl | 3, _, _ => hall { on := 3, ground := Ground.phase } (by simp) rfl | 4, _, _ => hall { on := 4, ground := Ground.phase } (by simp) rfl | 5, _, _ => hall { on := 5, ground := Ground.phase } (by simp) rfl | 6, _, _ => hall { on := 6, ground := Ground.phase } (by simp) rfl | 7, _, _ => hall { on := 7, ground := Ground.phase } (by simp) rfl | 8, _, _ => hall { on := 8, ground := Ground.phase } (by simp) rfl | 9, _, _ => hall { on := 9, ground := Ground.phase } (by simp) rfl | 10, _, _ => hall { on := 10, ground := Ground.phase } (by simp) rfl | 11, _, _ => hall { on := 11, ground := Ground.phase } (by simp) rfl | 12, _, _ => hall { on := 12, ground := Ground.chain } (by simp) rfl | 13, _, hn => absurd rfl hn | j + 14, hj, _ => absurd hj (by omega)) hX, (by rw [getD_set_neq (i := 13) (j := 9) (by decide), getD_set_neq (i := 13) (j := 5) (by decide)]; exact hs.2)⟩
     have hq2 : ∀ v : Value, Sqc12 P Rb G kn kc en ec n icap ko eo io m d id TT UU Wd (lq.setIfInBounds 13 true) (aq.put (some 5) v) W := fun v => hq v W RS
     clear RS hq hcut hwrite hG hR0
     clear hs hWe
     have hK := fun (v : Value) (W2 : World) hW hT hv (hs : Sqc12 P Rb G kn kc en ec n icap ko eo io m d id TT UU Wd (lq.setIfInBounds 13 true) (aq.put (some 5) v) W2) => show (Jqc12 P Rb G kn kc en ec n icap ko eo io m d id TT UU Wd w0 a0) (lq.setIfInBounds 13 true) (aq.put (some 5) v) W2 from ⟨hJ2.put hS 13 5 rfl (by omega) (W' := W2) hW hT v hv, hs⟩
     clear ho hall hl hQ
     generalize (Jqc12 P Rb G kn kc en ec n icap ko eo io m d id TT UU Wd w0 a0) (lq.setIfInBounds 13 true) = K at hK ⊢
     clear hJ2 hS z1 z2 z3 z4 z6 z7
     go_simp
     exact hK _ _ z5 (fun _ _ h => h.same) rfl (hq2 _)
   | iq + 14, ho => simp at ho
 · intro lq aq W ⟨hJ, hs⟩ hr
   obtain ⟨z1, z2, z3, z4, z5, z6, z7⟩ := hJ
   have hl := listed_of hr [0, 1, 2, 3, 4, 5, 6, 7, 8, 9, 10, 11, 12, 13] [] (by simp) (by kernel_rfl) (by rw [z1]; decide)
   exact hQ aq W z2 z3 (fun e he => z4 e (by simpa using he)) (z6 13 5 (hl 13 (by simp)) rfl) z5 (by have hZ := hl 13 (by simp); exact hs.1.done (by decide) hZ)
def cutB (Q : QD) (m d id : Int) : Bool := qOk Q m d && !decide (∀ i, i < Q.m → Q.I i ≠ id)
def cutL (Q : QD) (m d : Int) (j : Nat) : List WB := wrT (setT (delQ Q j) m (trQ Q d.toNat 0 (-1048576) (-1048576) 2097152) (-1048576) (-1048576) 2097152) (-1048576) (-1048576) 2097152
def CutS (Q : QD) (m d id : Int) (w : World) (r : Ending) (w' : World) : Prop :=
 Below w.heap.size w w' ∧ ((cutB Q m d id = false ∧ r = .returned (.tuple #[.agg #[.int .i64 0, .int .i64 0, .slice none 0 0, .slice none 0 0], .bool false])) ∨ (cutB Q m d id = true ∧ ∃ j, j < Q.m ∧ Q.I j = id ∧ ∃ v u I, r = .returned (.tuple #[.agg #[.int .i64 m, .int .i64 d, v, u], .bool true]) ∧ w'.ownsRow w.heap.size 59 5 v (Q.m - 1) (itCs (delQ Q j) (List.range (Q.m - 1))) ∧ w'.ownsRow w.heap.size 55 5 u (cutL Q m d j).length (wbCs (cutL Q m d j) I) ∧ IvP (fun b => w.heap.size ≤ b ∧ v.ownBlock ≠ some b) w' (cutL Q m d j) I))
theorem itCs_del {Q : QD} {j : Nat} : ∀ c, c ≤ j → itCs (delQ Q j) (List.range c) = itCs Q (List.range c)
 | 0, _ => rfl
 | c + 1, h => by rw [itCs_more, itCs_more, itCs_del c (by omega), it5_eq (delQ_lt (by omega))]
theorem itCs_dgt {Q : QD} {j c : Nat} (h : j ≤ c) : itCs (delQ Q j) (List.range (c + 1)) = itCs (delQ Q j) (List.range c) ++ it5 Q (c + 1) := by
 rw [itCs_more, it5_eq (delQ_ge h)]
theorem seg_rise {a b c d : Int} (h : segOk a b c d = true) : a ≤ c := by
 unfold segOk lessI at h
 simp only [Bool.and_eq_true, decide_eq_true_eq] at h
 omega
theorem cut_tree {Q : QD} {m d : Int} {j : Nat} (h : qOk Q m d = true) (hj : j < Q.m) : cutT m (Q.I j) (trQ Q d.toNat 0 (-1048576) (-1048576) 2097152) = setT (delQ Q j) m (trQ Q d.toNat 0 (-1048576) (-1048576) 2097152) (-1048576) (-1048576) 2097152 ∧ (cutL Q m d j).length ≤ 2000 ∧ smT 40 (trQ Q d.toNat 0 (-1048576) (-1048576) 2097152) := by
 obtain ⟨⟨hm1, hm8⟩, ⟨hd0, hd8⟩, hits, hrt⟩ := qOk_all h
 have hac : ∀ i, i < Q.m → (Q.S i).1 ≤ (Q.S i).2.2.1 := fun i hi => seg_rise (of_decide_eq_true ((of_decide_eq_true hits).2 i hi)).2.1
 have hev : evT (trQ Q d.toNat 0 (-1048576) (-1048576) 2097152) 2097152 := by
   have e : (2097152 : Int) = 2 ^ d.toNat * 2 ^ (21 - d.toNat) := by
     rw [← Int.pow_add, show d.toNat + (21 - d.toNat) = 21 by omega]
     rfl
   have := ev_of d.toNat (trQ Q d.toNat 0 (-1048576) (-1048576) 2097152) (2 ^ (21 - d.toNat)) (dp_tr Q d.toNat 0 (-1048576) (-1048576) 2097152)
   rw [← e] at this
   exact this
 have e := cutT_setT m (rise_of hits) hj hac (trQ Q d.toNat 0 (-1048576) (-1048576) 2097152) (-1048576) (-1048576) 2097152 (by omega) hev hrt
 refine ⟨e, ?_, ?_⟩
 · unfold cutL
   rw [← e]
   refine Nat.le_trans (cut_len m (Q.I j) (trQ Q d.toNat 0 (-1048576) (-1048576) 2097152) (-1048576) (-1048576) 2097152) ?_
   unfold qOk limB at h
   simp only [Bool.and_eq_true, decide_eq_true_eq] at h
   have h2 := ((qrd_both Q d.toNat 0 (-1048576) (-1048576) 2097152 Q.N).1 h.2).1
   have h3 := tr_len Q d.toNat 0 (-1048576) (-1048576) 2097152 Q.N h2
   have h4 := h.1.2
   omega
 · have hsm : ∀ (t : QT) (x y s : Int), rtT Q t x y s = true → smT 40 t := by
     intro t
     induction t with
     | leaf l =>
       intro x y s h
       have h1 : l = canL Q x y s := of_decide_eq_true h
       have h2 : l.length ≤ Q.m := by rw [h1]; exact canL_len Q x y s
       have h3 := (of_decide_eq_true hits).1
       exact Nat.le_trans h2 h3
     | node K ih => exact fun x y s h k hk => ih k _ _ _ ((List.all_eq_true.1 h) k (List.mem_range.2 hk))
   exact hsm _ _ _ _ hrt
set_option maxRecDepth 100000 in
set_option maxHeartbeats 16000000 in
theorem specQuadCut_any (w : World) (Q : QD) (ao bo : Option Addr) (cap bcap A off : Nat) (so : Nat → Option Addr × Nat) (m d : Int) (hm : Q.m ≤ 1048576) (hN : Q.N ≤ 1048576) (hL : ∀ i, i < Q.N → Q.L i ≤ 1048576) (hbo : 0 < Q.N → bo = some ⟨A, off, none⟩) (hso : ∀ i, i < Q.N → (so i).1 = none → (so i).2 = 0) (hS : ItIn Q w ao (List.range Q.m)) (hBl : BlIn Q w A off so) (id : Int) : Calls Try.prog 15 #[.agg #[.int .i64 m, .int .i64 d, .slice ao Q.m cap, .slice bo Q.N bcap], .int .i64 id] w (CutS Q m d id w) := by
 have B0 : Blk ((w.alloc (.cells #[.int .i64 m, .int .i64 d, .slice ao Q.m cap, .slice bo Q.N bcap] 34)).alloc (.cells #[.int .i64 0, .int .i64 0, .slice none 0 0, .slice none 0 0] 34)) w.heap.size [.int .i64 m, .int .i64 d, .slice ao Q.m cap, .slice bo Q.N bcap] := (Blk.new w [.int .i64 m, .int .i64 d, .slice ao Q.m cap, .slice bo Q.N bcap] 34 rfl).alloc _
 have B2 : Blk ((w.alloc (.cells #[.int .i64 m, .int .i64 d, .slice ao Q.m cap, .slice bo Q.N bcap] 34)).alloc (.cells #[.int .i64 0, .int .i64 0, .slice none 0 0, .slice none 0 0] 34)) (w.heap.size + 1) [.int .i64 0, .int .i64 0, .slice none 0 0, .slice none 0 0] := Blk.new (w.alloc (.cells #[.int .i64 m, .int .i64 d, .slice ao Q.m cap, .slice bo Q.N bcap] 34)) [.int .i64 0, .int .i64 0, .slice none 0 0, .slice none 0 0] 34 (by simp)
 have HB : Below w.heap.size w ((w.alloc (.cells #[.int .i64 m, .int .i64 d, .slice ao Q.m cap, .slice bo Q.N bcap] 34)).alloc (.cells #[.int .i64 0, .int .i64 0, .slice none 0 0, .slice none 0 0] 34)) := ((Below.refl _ w).alloc (Nat.le_refl _) _).alloc (by simp) _
 have C := l13Root_any ((w.alloc (.cells #[.int .i64 m, .int .i64 d, .slice ao Q.m cap, .slice bo Q.N bcap] 34)).alloc (.cells #[.int .i64 0, .int .i64 0, .slice none 0 0, .slice none 0 0] 34)) Q ao bo cap bcap A off so m d hm hN hL hbo hso (hS.step HB) (hBl.below HB)
 have HS : Hid (ItIn Q w ao (List.range Q.m)) := hS
 have hmI : (Q.m : Int) ≤ 1048576 := by omega
 obtain ⟨i0, hi, hz0, hz1, hz2⟩ := info_item
 clear hS hBl
 go_enter Try.func15, Try.ntmps15
 go_upto_region 1 with fail
 generalize ((w.alloc (.cells #[.int .i64 m, .int .i64 d, .slice ao Q.m cap, .slice bo Q.N bcap] 34)).alloc (.cells #[.int .i64 0, .int .i64 0, .slice none 0 0, .slice none 0 0] 34)) = W1 at *
 have c0 := B0.c 0 rfl; have c1 := B0.c 1 rfl; have c2 := B0.c 2 rfl; have c3 := B0.c 3 rfl
 go_wp2_with fail
 refine C.mono ?_
 rintro r w1 ⟨hB1, hC⟩
 have hP2 : w.heap.size + 1 < W1.heap.size := B2.lt
 have hW1 := hB1.size
 replace B0 := B0.step hB1
 replace B2 := B2.step hB1
 replace HB := HB.trans (hB1.mono HB.size)
 clear C c0 c1 c2 c3 hB1
 rcases hC with ⟨hq, rfl⟩ | ⟨hq, kv, ev, rfl, hM⟩
 · have HQ : Hid (cutB Q m d id = false) := by show _ = _; unfold cutB; rw [hq]; rfl
   clear hq
   go_upto_region 2 with fail
   replace B2 := B2.alloc (.cells #[.int .i64 0, .int .i64 0, .int .i64 0, .slice none 0 0, .slice none 0 0] 64)
   replace HB := HB.alloc (show w.heap.size ≤ w1.heap.size by omega) (.cells #[.int .i64 0, .int .i64 0, .int .i64 0, .slice none 0 0, .slice none 0 0] 64)
   generalize (w1.alloc (.cells #[.int .i64 0, .int .i64 0, .int .i64 0, .slice none 0 0, .slice none 0 0] 64)) = W2 at *
   have y0 := B2.f 0 rfl; have y1 := B2.f 1 rfl; have y2 := B2.f 2 rfl; have y3 := B2.f 3 rfl; have z0 := B2.c 0 rfl; have z1 := B2.c 1 rfl; have z2 := B2.c 2 rfl; have z3 := B2.c 3 rfl
   have BF := set4_blk B2 (.int .i64 0) (.int .i64 0) (.slice none 0 0) (.slice none 0 0)
   have HF := set4_below HB (show w.heap.size ≤ w.heap.size + 1 by omega) (.int .i64 0) (.int .i64 0) (.slice none 0 0) (.slice none 0 0)
   go_wp2
   have r0 := BF.out.c 0 rfl; have r1 := BF.out.c 1 rfl; have r2 := BF.out.c 2 rfl; have r3 := BF.out.c 3 rfl
   refine bodyPost_ret (v := .tuple #[.agg #[.int .i64 0, .int .i64 0, .slice none 0 0, .slice none 0 0], .bool false]) (by simp [results, Try.results15, go_sem, r0, r1, r2, r3]) rfl ?_
   exact ⟨HF, .inl ⟨HQ.out, rfl⟩⟩
 · obtain ⟨ko, kn, kc, eo, en, ec, rfl, rfl⟩ := hM.vals
   have HQ : Hid (qOk Q m d = true) := hq
   clear hq
   go_upto_region 2 with fail
   have BT : Blk (w1.alloc (.cells #[.int .i64 (-1048576), .int .i64 (-1048576), .int .i64 2097152, .slice ko kn kc, .slice eo en ec] 64)) w1.heap.size [.int .i64 (-1048576), .int .i64 (-1048576), .int .i64 2097152, .slice ko kn kc, .slice eo en ec] := Blk.new w1 [.int .i64 (-1048576), .int .i64 (-1048576), .int .i64 2097152, .slice ko kn kc, .slice eo en ec] 64 rfl
   have hM2 : MTr (fun b => w.heap.size + 1 < b ∧ b < w1.heap.size) (w1.alloc (.cells #[.int .i64 (-1048576), .int .i64 (-1048576), .int .i64 2097152, .slice ko kn kc, .slice eo en ec] 64)) (trQ Q d.toNat 0 (-1048576) (-1048576) 2097152) (-1048576) (-1048576) 2097152 (.slice ko kn kc) (.slice eo en ec) := MTr.keep (by simp) (fun b _ hb => ((Below.refl w1.heap.size w1).alloc (Nat.le_refl _) _).block b hb) (fun b h h2 => ⟨by omega, h2⟩) hM
   replace B0 := B0.alloc (.cells #[.int .i64 (-1048576), .int .i64 (-1048576), .int .i64 2097152, .slice ko kn kc, .slice eo en ec] 64)
   replace B2 := B2.alloc (.cells #[.int .i64 (-1048576), .int .i64 (-1048576), .int .i64 2097152, .slice ko kn kc, .slice eo en ec] 64)
   replace HB := HB.alloc (show w.heap.size ≤ w1.heap.size by omega) (.cells #[.int .i64 (-1048576), .int .i64 (-1048576), .int .i64 2097152, .slice ko kn kc, .slice eo en ec] 64)
   have hW2 : w1.heap.size < (w1.alloc (.cells #[.int .i64 (-1048576), .int .i64 (-1048576), .int .i64 2097152, .slice ko kn kc, .slice eo en ec] 64)).heap.size := BT.lt
   clear hM
   generalize (w1.alloc (.cells #[.int .i64 (-1048576), .int .i64 (-1048576), .int .i64 2097152, .slice ko kn kc, .slice eo en ec] 64)) = W2 at *
   go_upto_region 5 with fail
   have HO0 : (W2.alloc (.cells #[] 59)).ownsRow W2.heap.size 59 5 (.slice (some ⟨W2.heap.size, 0, none⟩) 0 0) 0 [] := World.ownsRow_made W2 #[] 0 (Nat.le_refl _) (by decide) rfl
   replace B0 := B0.alloc (.cells #[] 59)
   replace B2 := B2.alloc (.cells #[] 59)
   replace BT := BT.alloc (.cells #[] 59)
   replace HB := HB.alloc (by omega) (.cells #[] 59)
   replace hM2 := hM2.step ((Below.refl _ W2).alloc (Nat.le_refl _) (.cells #[] 59))
   have hG0 : W2.heap.size ≤ (W2.alloc (.cells #[] 59)).heap.size := by simp
   generalize (W2.alloc (.cells #[] 59)) = W5 at *
   go_wp2_with fail
   go_loopw [8, 9] (fun v ic wr => ∃ (c : Nat) (vv : Value), vv = v ∧ c ≤ Q.m ∧ ic = .int .i64 c ∧ (Blk wr w.heap.size [.int .i64 m, .int .i64 d, .slice ao Q.m cap, .slice bo Q.N bcap] ∧ Blk wr (w.heap.size + 1) [.int .i64 0, .int .i64 0, .slice none 0 0, .slice none 0 0] ∧ Blk wr w1.heap.size [.int .i64 (-1048576), .int .i64 (-1048576), .int .i64 2097152, .slice ko kn kc, .slice eo en ec] ∧ MTr (fun b => w.heap.size + 1 < b ∧ b < w1.heap.size) wr (trQ Q d.toNat 0 (-1048576) (-1048576) 2097152) (-1048576) (-1048576) 2097152 (.slice ko kn kc) (.slice eo en ec) ∧ Below w.heap.size w wr ∧ W2.heap.size ≤ wr.heap.size) ∧ (((∀ i, i < c → Q.I i ≠ id) ∧ wr.ownsRow W2.heap.size 59 5 vv c (itCs Q (List.range c))) ∨ (∃ j e, j ≤ e ∧ c = e + 1 ∧ Q.I j = id ∧ wr.ownsRow W2.heap.size 59 5 vv e (itCs (delQ Q j) (List.range e))))) (fun _ i _ => Q.m - (intOf i).toNat)
   case atStart => exact ⟨0, _, rfl, by omega, rfl, ⟨B0, B2, BT, hM2, HB, hG0⟩, .inl ⟨fun i hi => absurd hi (by omega), HO0⟩⟩
   case round =>
     clear B0 B2 BT hM2 HB hG0 HO0
     obtain ⟨c, vv, rfl, hc, rfl, ⟨B0, B2, BT, hM2, HB, hGr⟩, hCase⟩ := hrel
     have q2 := B0.c 2 rfl
     by_cases hcm : c < Q.m
     · have hcI : (c : Int) < Q.m := by omega
       obtain ⟨A1, off1, rfl, hA1, c0, c1, c2, c3, c4⟩ := HS.out.step HB c c (by simp [hcm])
       rcases hCase with ⟨hne, HO⟩ | ⟨j, e, hje, rfl, hji, HO⟩
       · have HNE : Hid (∀ i, i < c → Q.I i ≠ id) := hne
         clear hne
         by_cases heq : Q.I c = id
         · have hxe : (Q.I c == id) = true := by simp [heq]
           have hxn : ¬ (Q.I c ≠ id) := fun h => h heq
           have HEQ : Hid (Q.I c = id) := heq
           have hown3 : wr.ownsRow W2.heap.size 59 5 vv c (itCs (delQ Q c) (List.range c)) := by rw [itCs_del c (Nat.le_refl _)]; exact HO
           clear HO
           go_wp2
           go_roundw
           case rel => exact ⟨c + 1, _, rfl, by omega, by go_num, ⟨B0, B2, BT, hM2, HB, hGr⟩, .inr ⟨c, c, Nat.le_refl _, rfl, HEQ.out, hown3⟩⟩
           case measure => simp [intOf]; omega
         · have HEQ : Hid (Q.I c ≠ id) := heq
           have HO6 := ownA_step HO ((Below.refl _ _).alloc (Nat.le_refl _) (.cells #[.int .i64 (Q.I c), .int .i64 (Q.S c).1, .int .i64 (Q.S c).2.1, .int .i64 (Q.S c).2.2.1, .int .i64 (Q.S c).2.2.2] 59))
           have hs6 : Hid ((wr.alloc (.cells #[.int .i64 (Q.I c), .int .i64 (Q.S c).1, .int .i64 (Q.S c).2.1, .int .i64 (Q.S c).2.2.1, .int .i64 (Q.S c).2.2.2] 59)).heap.size = wr.heap.size + 1) := by show (wr.alloc _).heap.size = _; simp
           go_wp2_with (at_builtin; go_loud (refine wpList_append_own_at _ rfl _ _ 31 rfl W2.heap.size 59 i0 (.agg #[.int .i64 0, .int .i64 0, .int .i64 0, .int .i64 0, .int .i64 0]) 5 40 Try.underlying31 hi hz0 hz1 hz2 rfl (by decide) _ _ _ rfl HO6 ⟨wr.heap.size, 0, none⟩ 1 1 [.int .i64 (Q.I c), .int .i64 (Q.S c).1, .int .i64 (Q.S c).2.1, .int .i64 (Q.S c).2.2.1, .int .i64 (Q.S c).2.2.2] rfl rfl (new_cells _ _ _) (int5_one _ _ _ _ _) (by unfold maxLen; omega) (by omega) (by have := hs6.out; omega) ?_))
           intro v9 wa hown hgrow _ hob
           replace B0 := (B0.alloc (.cells #[.int .i64 (Q.I c), .int .i64 (Q.S c).1, .int .i64 (Q.S c).2.1, .int .i64 (Q.S c).2.2.1, .int .i64 (Q.S c).2.2.2] 59)).grown hgrow (fun e3 => by have := (HO6.lt _ e3.symm).1; omega)
           replace B2 := (B2.alloc (.cells #[.int .i64 (Q.I c), .int .i64 (Q.S c).1, .int .i64 (Q.S c).2.1, .int .i64 (Q.S c).2.2.1, .int .i64 (Q.S c).2.2.2] 59)).grown hgrow (fun e3 => by have := (HO6.lt _ e3.symm).1; omega)
           replace BT := (BT.alloc (.cells #[.int .i64 (Q.I c), .int .i64 (Q.S c).1, .int .i64 (Q.S c).2.1, .int .i64 (Q.S c).2.2.1, .int .i64 (Q.S c).2.2.2] 59)).grown hgrow (fun e3 => by have := (HO6.lt _ e3.symm).1; omega)
           replace HB := (HB.alloc (by omega) (.cells #[.int .i64 (Q.I c), .int .i64 (Q.S c).1, .int .i64 (Q.S c).2.1, .int .i64 (Q.S c).2.2.1, .int .i64 (Q.S c).2.2.2] 59)).grown hgrow (by have := hs6.out; omega) (fun b hb => by have := (HO6.lt b hb).1; omega)
           replace hM2 := MTr.keep (ok' := (fun b => w.heap.size + 1 < b ∧ b < w1.heap.size)) hgrow.size (fun b hb hb2 => hgrow.block b hb2 (fun e3 => by have := (HO6.lt b e3.symm).1; omega)) (fun _ h _ => h) (hM2.step ((Below.refl _ _).alloc (Nat.le_refl _) (.cells #[.int .i64 (Q.I c), .int .i64 (Q.S c).1, .int .i64 (Q.S c).2.1, .int .i64 (Q.S c).2.2.1, .int .i64 (Q.S c).2.2.2] 59)))
           have hGwa : W2.heap.size ≤ wa.heap.size := by have h := hgrow.size; have := hs6.out; omega
           clear HO6 hs6 hgrow hob HO
           have hown2 : wa.ownsRow W2.heap.size 59 5 v9 (c + 1) (itCs Q (List.range (c + 1))) := by rw [itCs_more]; exact hown
           clear hown q2 c0 c1 c2 c3 c4
           go_wp2
           go_roundw
           case rel => exact ⟨c + 1, _, rfl, by omega, by go_num, ⟨B0, B2, BT, hM2, HB, hGwa⟩, .inl ⟨fun i hi => by
             rcases Nat.lt_or_eq_of_le (Nat.le_of_lt_succ hi) with h | h
             · exact HNE.out i h
             · subst h; exact HEQ.out, hown2⟩⟩
           case measure => simp [intOf]; omega
       · have heq : ¬ (Q.I (e + 1) = id) := fun h => by
           have h1 := rise_to (rise_of (qOk_all HQ.out).2.2.1) (show j < e + 1 by omega) hcm
           omega
         have HJI : Hid (Q.I j = id) := hji
         clear hji
         have HO6 := ownA_step HO ((Below.refl _ _).alloc (Nat.le_refl _) (.cells #[.int .i64 (Q.I (e + 1)), .int .i64 (Q.S (e + 1)).1, .int .i64 (Q.S (e + 1)).2.1, .int .i64 (Q.S (e + 1)).2.2.1, .int .i64 (Q.S (e + 1)).2.2.2] 59))
         have hs6 : Hid ((wr.alloc (.cells #[.int .i64 (Q.I (e + 1)), .int .i64 (Q.S (e + 1)).1, .int .i64 (Q.S (e + 1)).2.1, .int .i64 (Q.S (e + 1)).2.2.1, .int .i64 (Q.S (e + 1)).2.2.2] 59)).heap.size = wr.heap.size + 1) := by show (wr.alloc _).heap.size = _; simp
         go_wp2_with (at_builtin; go_loud (refine wpList_append_own_at _ rfl _ _ 31 rfl W2.heap.size 59 i0 (.agg #[.int .i64 0, .int .i64 0, .int .i64 0, .int .i64 0, .int .i64 0]) 5 40 Try.underlying31 hi hz0 hz1 hz2 rfl (by decide) _ _ _ rfl HO6 ⟨wr.heap.size, 0, none⟩ 1 1 [.int .i64 (Q.I (e + 1)), .int .i64 (Q.S (e + 1)).1, .int .i64 (Q.S (e + 1)).2.1, .int .i64 (Q.S (e + 1)).2.2.1, .int .i64 (Q.S (e + 1)).2.2.2] rfl rfl (new_cells _ _ _) (int5_one _ _ _ _ _) (by unfold maxLen; omega) (by omega) (by have := hs6.out; omega) ?_))
         intro v9 wa hown hgrow _ hob
         replace B0 := (B0.alloc (.cells #[.int .i64 (Q.I (e + 1)), .int .i64 (Q.S (e + 1)).1, .int .i64 (Q.S (e + 1)).2.1, .int .i64 (Q.S (e + 1)).2.2.1, .int .i64 (Q.S (e + 1)).2.2.2] 59)).grown hgrow (fun e3 => by have := (HO6.lt _ e3.symm).1; omega)
         replace B2 := (B2.alloc (.cells #[.int .i64 (Q.I (e + 1)), .int .i64 (Q.S (e + 1)).1, .int .i64 (Q.S (e + 1)).2.1, .int .i64 (Q.S (e + 1)).2.2.1, .int .i64 (Q.S (e + 1)).2.2.2] 59)).grown hgrow (fun e3 => by have := (HO6.lt _ e3.symm).1; omega)
         replace BT := (BT.alloc (.cells #[.int .i64 (Q.I (e + 1)), .int .i64 (Q.S (e + 1)).1, .int .i64 (Q.S (e + 1)).2.1, .int .i64 (Q.S (e + 1)).2.2.1, .int .i64 (Q.S (e + 1)).2.2.2] 59)).grown hgrow (fun e3 => by have := (HO6.lt _ e3.symm).1; omega)
         replace HB := (HB.alloc (by omega) (.cells #[.int .i64 (Q.I (e + 1)), .int .i64 (Q.S (e + 1)).1, .int .i64 (Q.S (e + 1)).2.1, .int .i64 (Q.S (e + 1)).2.2.1, .int .i64 (Q.S (e + 1)).2.2.2] 59)).grown hgrow (by have := hs6.out; omega) (fun b hb => by have := (HO6.lt b hb).1; omega)
         replace hM2 := MTr.keep (ok' := (fun b => w.heap.size + 1 < b ∧ b < w1.heap.size)) hgrow.size (fun b hb hb2 => hgrow.block b hb2 (fun e3 => by have := (HO6.lt b e3.symm).1; omega)) (fun _ h _ => h) (hM2.step ((Below.refl _ _).alloc (Nat.le_refl _) (.cells #[.int .i64 (Q.I (e + 1)), .int .i64 (Q.S (e + 1)).1, .int .i64 (Q.S (e + 1)).2.1, .int .i64 (Q.S (e + 1)).2.2.1, .int .i64 (Q.S (e + 1)).2.2.2] 59)))
         have hGwa : W2.heap.size ≤ wa.heap.size := by have h := hgrow.size; have := hs6.out; omega
         clear HO6 hs6 hgrow hob HO
         have hown2 : wa.ownsRow W2.heap.size 59 5 v9 (e + 1) (itCs (delQ Q j) (List.range (e + 1))) := by rw [itCs_dgt hje]; exact hown
         clear hown q2 c0 c1 c2 c3 c4 heq
         go_wp2
         go_roundw
         case rel => exact ⟨e + 1 + 1, _, rfl, by omega, by go_num, ⟨B0, B2, BT, hM2, HB, hGwa⟩, .inr ⟨j, e + 1, by omega, rfl, HJI.out, hown2⟩⟩
         case measure => simp [intOf]; omega
     · obtain rfl : c = Q.m := by omega
       rcases hCase with ⟨hne, HO⟩ | ⟨j, e, hje, hce, hji, HO⟩
       · have HP : Hid (cutB Q m d id = false) := by show _ = _; unfold cutB; rw [decide_eq_true hne]; simp
         obtain ⟨io, icap, rfl⟩ := ownQ_slice HO
         clear hne HO
         have y0 := B2.f 0 rfl; have y1 := B2.f 1 rfl; have y2 := B2.f 2 rfl; have y3 := B2.f 3 rfl; have z0 := B2.c 0 rfl; have z1 := B2.c 1 rfl; have z2 := B2.c 2 rfl; have z3 := B2.c 3 rfl
         have BF := set4_blk B2 (.int .i64 0) (.int .i64 0) (.slice none 0 0) (.slice none 0 0)
         have HF := set4_below HB (show w.heap.size ≤ w.heap.size + 1 by omega) (.int .i64 0) (.int .i64 0) (.slice none 0 0) (.slice none 0 0)
         go_wp2
         have r0 := BF.out.c 0 rfl; have r1 := BF.out.c 1 rfl; have r2 := BF.out.c 2 rfl; have r3 := BF.out.c 3 rfl
         refine bodyPost_ret (v := .tuple #[.agg #[.int .i64 0, .int .i64 0, .slice none 0 0, .slice none 0 0], .bool false]) (by simp [results, Try.results15, go_sem, r0, r1, r2, r3]) rfl ?_
         exact ⟨HF, .inl ⟨HP.out, rfl⟩⟩
       · have hjm : j < Q.m := by omega
         have HP : Hid (cutB Q m d id = true) := by show _ = _; unfold cutB; rw [HQ.out, decide_eq_false (fun h => h j hjm hji)]; rfl
         obtain ⟨htree, hlen, hsm⟩ := cut_tree HQ.out hjm
         have HLEN : Hid ((cutL Q m d j).length ≤ 2000) := hlen
         have HJI : Hid (Q.I j = id) := hji
         have HCE : Hid (Q.m = e + 1) := hce
         have hm8 := (qOk_all HQ.out).1.2
         obtain ⟨io, icap, rfl⟩ := ownQ_slice HO
         have HOl : Hid (∀ k, (Value.slice io e icap).ownBlock = some k → W2.heap.size ≤ k ∧ k < wr.heap.size) := fun k hk => World.ownsRow.lt HO k hk
         have hem : ((e : Int) == (Q.m : Int)) = false := by simp; omega
         have hen : ¬ ((e : Int) = (Q.m : Int)) := by omega
         have hP5 : w1.heap.size < wr.heap.size := by omega
         have hcut : Calls Try.prog 47 #[.agg #[.int .i64 (-1048576), .int .i64 (-1048576), .int .i64 2097152, .slice ko kn kc, .slice eo en ec], .int .i64 id, .int .i64 m] wr.drew (fun r W2 => ∃ ko1 kn1 kc1 eo1 en1 ec1, r = .returned (.agg #[.int .i64 (-1048576), .int .i64 (-1048576), .int .i64 2097152, .slice ko1 kn1 kc1, .slice eo1 en1 ec1]) ∧ (fun ko1 kn1 kc1 eo1 en1 ec1 W => MTr (fun b => (w.heap.size + 1 < b ∧ b < w1.heap.size) ∨ wr.heap.size ≤ b) W (setT (delQ Q j) m (trQ Q d.toNat 0 (-1048576) (-1048576) 2097152) (-1048576) (-1048576) 2097152) (-1048576) (-1048576) 2097152 (.slice ko1 kn1 kc1) (.slice eo1 en1 ec1)) ko1 kn1 kc1 eo1 en1 ec1 W2 ∧ Below wr.drew.heap.size wr.drew W2) := by
           have C := l13Cut_any m id 40 (by omega) (by omega) (trQ Q d.toNat 0 (-1048576) (-1048576) 2097152) (-1048576) (-1048576) 2097152 (fun b => w.heap.size + 1 < b ∧ b < w1.heap.size) _ _ wr.drew hsm (hM2.step (Below.refl _ wr).drew)
           rw [← hji, htree] at C
           rw [← hji]
           exact C.mono fun r W2 h => h
         have hwrite : ∀ ko1 kn1 kc1 eo1 en1 ec1 W, (fun ko1 kn1 kc1 eo1 en1 ec1 W => MTr (fun b => (w.heap.size + 1 < b ∧ b < w1.heap.size) ∨ wr.heap.size ≤ b) W (setT (delQ Q j) m (trQ Q d.toNat 0 (-1048576) (-1048576) 2097152) (-1048576) (-1048576) 2097152) (-1048576) (-1048576) 2097152 (.slice ko1 kn1 kc1) (.slice eo1 en1 ec1)) ko1 kn1 kc1 eo1 en1 ec1 W → Below wr.drew.heap.size wr.drew W → Calls Try.prog 29 #[.agg #[.int .i64 (-1048576), .int .i64 (-1048576), .int .i64 2097152, .slice ko1 kn1 kc1, .slice eo1 en1 ec1]] W (fun r W2 => ∃ uo un uc, r = .returned (.slice uo un uc) ∧ (fun uo un uc W => un = (cutL Q m d j).length ∧ ∃ I, W.ownsRow wr.heap.size 55 5 (.slice uo un uc) (cutL Q m d j).length (wbCs (cutL Q m d j) I) ∧ IvP (fun b => (w.heap.size + 1 < b ∧ b < w1.heap.size) ∨ wr.heap.size ≤ b) W (cutL Q m d j) I) uo un uc W2 ∧ Below W.heap.size W W2) := fun ko1 kn1 kc1 eo1 en1 ec1 W hT hBW => by
           have CW := l13Write_any (setT (delQ Q j) m (trQ Q d.toNat 0 (-1048576) (-1048576) 2097152) (-1048576) (-1048576) 2097152) _ (-1048576) (-1048576) 2097152 _ _ W (by have := HLEN.out; unfold cutL at this; omega) hT
           refine CW.mono ?_
           rintro r wq ⟨u, I, rfl, hOU, hIv, hBq⟩
           obtain ⟨uo, uc, rfl⟩ := ownQ_slice hOU
           have hsW : wr.heap.size ≤ W.heap.size := hBW.size
           exact ⟨_, _, _, rfl, ⟨rfl, I, ownQ_mono2 hOU hsW, IvP.keep hBq.size (fun b _ hb2 => hBq.block b hb2) (fun b hb _ => hb) hIv⟩, hBq⟩
         clear hsm htree hlen hji hM2
         go_upto_region 12 with fail
         refine qc12 (P := w.heap.size) (Rb := w.heap.size + 1) (G := w1.heap.size) (kn := kn) (kc := kc) (en := en) (ec := ec) (n := e) (icap := icap) (ko := ko) (eo := eo) (io := io) (m := m) (d := d) (id := id) (TT := (fun ko1 kn1 kc1 eo1 en1 ec1 W => MTr (fun b => (w.heap.size + 1 < b ∧ b < w1.heap.size) ∨ wr.heap.size ≤ b) W (setT (delQ Q j) m (trQ Q d.toNat 0 (-1048576) (-1048576) 2097152) (-1048576) (-1048576) 2097152) (-1048576) (-1048576) 2097152 (.slice ko1 kn1 kc1) (.slice eo1 en1 ec1))) (UU := (fun uo un uc W => un = (cutL Q m d j).length ∧ ∃ I, W.ownsRow wr.heap.size 55 5 (.slice uo un uc) (cutL Q m d j).length (wbCs (cutL Q m d j) I) ∧ IvP (fun b => (w.heap.size + 1 < b ∧ b < w1.heap.size) ∨ wr.heap.size ≤ b) W (cutL Q m d j) I)) (Wd := wr.drew) B2.lt (BT.step (Below.refl _ wr).drew) (B2.step (Below.refl _ wr).drew) hcut hwrite rfl rfl rfl rfl rfl rfl (B0.c 0 rfl) (by show w.heap.size < w.heap.size + 1; omega) (B0.c 1 rfl) (by show w.heap.size < w.heap.size + 1; omega) rfl ?_
         rintro ⟨tm, df⟩ Wz hz hdf hoff hV hBz ⟨uo, un, uc, W9, ⟨hun, I, hOU, hIv⟩, hB9, rfl⟩
         change tm.getD 5 undef = .bool true at hV
         simp only at hz hdf hoff
         subst hdf
         have htm := tmps_fold [49, 50, 51, 52, 53, 54, 55, 56, 57, 58, 59, 60, 5] tm _ hz hoff
         simp only [List.foldl, List.setIfInBounds_toArray, List.set_cons_zero, List.set_cons_succ, hV] at htm
         clear hz hoff
         generalize tm.getD 49 undef = pa0, tm.getD 50 undef = pa1, tm.getD 51 undef = pa2, tm.getD 52 undef = pa3, tm.getD 53 undef = pa4, tm.getD 54 undef = pa5, tm.getD 55 undef = pa6, tm.getD 56 undef = pa7, tm.getD 57 undef = pa8, tm.getD 58 undef = pa9, tm.getD 59 undef = pa10, tm.getD 60 undef = pa11 at htm
         subst htm
         have B9 : Blk W9 (w.heap.size + 1) [.int .i64 0, .int .i64 0, .slice none 0 0, .slice none 0 0] := (B2.step (Below.refl _ wr).drew).step hB9
         have HB9 : Below w.heap.size w W9 := (HB.drew).trans (hB9.mono HB.size)
         have hs9 : wr.heap.size ≤ W9.heap.size := hB9.size
         have HO9 := ownA_step (ownA_step HO (Below.refl _ wr).drew) hB9
         have BF := set4_blk B9 (.int .i64 m) (.int .i64 d) (.slice io e icap) (.slice uo un uc)
         have HF := set4_below HB9 (show w.heap.size ≤ w.heap.size + 1 by omega) (.int .i64 m) (.int .i64 d) (.slice io e icap) (.slice uo un uc)
         have HR1 : Hid (((((W9.setCell ⟨w.heap.size + 1, 0, none⟩ (.int .i64 m)).setCell ⟨w.heap.size + 1, 1, none⟩ (.int .i64 d)).setCell ⟨w.heap.size + 1, 2, none⟩ (.slice io e icap)).setCell ⟨w.heap.size + 1, 3, none⟩ (.slice uo un uc)).ownsRow w.heap.size 59 5 (.slice io e icap) (Q.m - 1) (itCs (delQ Q j) (List.range (Q.m - 1)))) := by
           rw [show Q.m - 1 = e by have := HCE.out; omega]
           exact ownQ_mono2 (ownQ_heap HO9 (fun b hb => set4_heap (by have := (HO9.lt b hb).1; omega))) (by omega)
         have HR2 : Hid (((((W9.setCell ⟨w.heap.size + 1, 0, none⟩ (.int .i64 m)).setCell ⟨w.heap.size + 1, 1, none⟩ (.int .i64 d)).setCell ⟨w.heap.size + 1, 2, none⟩ (.slice io e icap)).setCell ⟨w.heap.size + 1, 3, none⟩ (.slice uo un uc)).ownsRow w.heap.size 55 5 (.slice uo un uc) (cutL Q m d j).length (wbCs (cutL Q m d j) I)) := ownQ_mono2 (ownQ_heap hOU (fun b hb => set4_heap (by have := (hOU.lt b hb).1; omega))) (by omega)
         have HR3 : Hid (IvP (fun b => w.heap.size ≤ b ∧ (Value.slice io e icap).ownBlock ≠ some b) ((((W9.setCell ⟨w.heap.size + 1, 0, none⟩ (.int .i64 m)).setCell ⟨w.heap.size + 1, 1, none⟩ (.int .i64 d)).setCell ⟨w.heap.size + 1, 2, none⟩ (.slice io e icap)).setCell ⟨w.heap.size + 1, 3, none⟩ (.slice uo un uc)) (cutL Q m d j) I) := IvP.keep (by simp [World.setCell]) (fun b hb hb2 => set4_heap (by rcases hb with hb | hb <;> omega)) (fun b hb _ => ⟨by rcases hb with hb | hb <;> omega, fun e2 => by have := HOl.out b e2; rcases hb with hb | hb <;> omega⟩) hIv
         clear hun HO9 hOU hIv hB9 hBz HO B0 B2 BT HB B9 HB9
         go_wp2
         have r0 := BF.out.c 0 rfl; have r1 := BF.out.c 1 rfl; have r2 := BF.out.c 2 rfl; have r3 := BF.out.c 3 rfl
         refine bodyPost_ret (v := .tuple #[.agg #[.int .i64 m, .int .i64 d, .slice io e icap, .slice uo un uc], .bool true]) (by simp [results, Try.results15, go_sem, r0, r1, r2, r3]) rfl ?_
         exact ⟨HF, .inr ⟨HP.out, j, hjm, HJI.out, _, _, I, rfl, HR1.out, HR2.out, HR3.out⟩⟩
theorem setT_l2 {Q : QD} {mx : Int} : ∀ (t : QT) (x y s : Int), llB Q.m (setT Q mx t x y s)
 | .leaf _, x, y, s => canL_len Q x y s
 | .node K, x, y, s => by
   unfold setT
   split
   · exact canL_len Q x y s
   · intro k hk
     simp only [if_pos hk]
     exact setT_l2 (K k) _ _ _
theorem cutL_ll {Q : QD} {m d : Int} {j : Nat} (h : qOk Q m d = true) : ∀ q ∈ cutL Q m d j, q.l.length ≤ 41 := by
 have h40 : Q.m ≤ 40 := (of_decide_eq_true (qOk_all h).2.2.1).1
 intro q hq
 have h5 := wrT_ll (n := Q.m - 1) (setT_l2 (Q := delQ Q j) (trQ Q d.toNat 0 (-1048576) (-1048576) 2097152) (-1048576) (-1048576) 2097152) q hq
 omega
def QnP (m d : Int) (w : World) (e : Ending) (w' : World) : Prop := ∃ h, e = .returned (.tuple #[.agg #[.int .i64 m, .int .i64 d, .slice none 0 0, .slice (some ⟨h, 0, none⟩) 1 1], .bool true]) ∧ w.heap.size ≤ h ∧ Blk w' h [.int .i64 (-1048576), .int .i64 (-1048576), .int .i64 2097152, .bool false, .slice none 0 0] ∧ Below w.heap.size w w'
end Go.Proofs.Ytjhapeidafbncaa
