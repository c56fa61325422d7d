/- Part 12 of the walks that the proof leans on. -/
import Derived.Test.YtjhapeidafbncaaPart11
import Derived.Test.YtjhapeidafbncaaPart5
import Derived.Test.YtjhapeidafbncaaPart1
import Derived.Deep.QuietTactic
import Derived.Test.YtjhapeidafbncaaPart8
namespace Go.Proofs.Ytjhapeidafbncaa
open Go.RowKit
theorem kL_more {Q : QD} {FL : List Nat} {x y s : Int} {c i : Nat} (h : FL[c]? = some i) : idL Q (flQ Q (FL.take (c + 1)) x y s) = idL Q (flQ Q (FL.take c) x y s) ++ (if hitQ Q x y s i = true then [Q.I i] else []) := by
 unfold flQ idL
 rw [List.take_add_one, h, List.filter_append, List.map_append]
 cases hh : hitQ Q x y s i <;> simp [hh]
theorem kL_len (Q : QD) (FL : List Nat) (x y s : Int) (c : Nat) : (idL Q (flQ Q (FL.take c) x y s)).length ≤ c := by
 unfold flQ idL
 rw [List.length_map]
 exact Nat.le_trans (List.length_filter_le _ _) (by rw [List.length_take]; omega)
theorem idL_get {Q : QD} {FL : List Nat} {c i : Nat} (h : FL[c]? = some i) : (idL Q FL).getD c 0 = Q.I i := by
 unfold idL
 rw [List.getD_eq_getElem?_getD, List.getElem?_map, h]
 rfl
theorem rise_ne {Q : QD} (h : riseI Q) {i : Nat} (hi : i < Q.m) : ∀ k, k < i → Q.I k ≠ Q.I i := fun k hk => by
 have h1 := rise_lt h (i - k - 1) k (by omega)
 rw [show k + (i - k - 1) + 1 = i by omega] at h1
 omega
theorem kL_end {Q : QD} {x y s : Int} (hs : 0 ≤ s) {k : Nat} (hk : k < 4) {FL : List Nat} (hF : flQ Q (List.range Q.m) x y s = FL) {n : Nat} (hn : FL.length = n) : idL Q (flQ Q (FL.take n) (kX x (s / 2) k) (kY y (s / 2) k) (s / 2)) = canL Q (kX x (s / 2) k) (kY y (s / 2) k) (s / 2) := by
 rw [← hn, List.take_length, ← hF, fl_kid hs hk]
 rfl
set_option maxRecDepth 100000 in
set_option maxHeartbeats 16000000 in
theorem l13Put_split (Q : QD) (x y s mx D z a bb cc d : Int) (ao eo : Option Addr) (cap ec : Nat) (A B : List Int) (hq : Sq x y s) (ia : In6 a) (ib : In6 bb) (ic : In6 cc) (id : In6 d) (hh : hitB a bb cc d x y (x + s) (y + s) = true) (hm : (A ++ z :: B).length ≤ 1048576) (hA : ∀ u ∈ A, u < z) (hB0 : ∀ u ∈ B, z < u) (w : World) (hN : NoIn w eo (A ++ B).length (fun i => (A ++ B).getD i 0)) (hC : A ++ z :: B = canL Q x y s) (hQm : Q.m ≤ 1048576) (h6 : Its6 Q (List.range Q.m)) (hri : riseI Q) (hS : ItIn Q w ao (List.range Q.m)) (hst : ¬ (((A ++ z :: B).length : Int) ≤ mx)) (hd1 : ¬ (D < 1)) : Calls Try.prog 30 #[.agg #[.int .i64 x, .int .i64 y, .int .i64 s, .slice none 0 0, .slice eo (A ++ B).length ec], .slice ao Q.m cap, .int .i64 z, Sg a bb cc d, .int .i64 mx, .int .i64 D] w (PuM (fun _ => False) (.node (fun k => .leaf (canL Q (kX x (s / 2) k) (kY y (s / 2) k) (s / 2)))) x y s w) := by
 obtain ⟨i0, hi0, hz0, hz1, hz2⟩ := info_b13
 obtain ⟨iN, hN0, hN1, hN2, hN3⟩ := info_parts Try.infoNo
 obtain ⟨FL, hFL⟩ : ∃ FL, flQ Q (List.range Q.m) x y s = FL := ⟨_, rfl⟩
 have HC : Hid (A ++ z :: B = idL Q FL) := by show _ = _; rw [hC, ← hFL]; rfl
 have HFM : Hid (∀ i ∈ FL, i < Q.m) := fun i hi => by rw [← hFL] at hi; exact List.mem_range.1 (List.mem_filter.1 hi).1
 have HFL : Hid (flQ Q (List.range Q.m) x y s = FL) := hFL
 have HS : Hid (ItIn Q w ao (List.range Q.m)) := hS
 have HRI : Hid (riseI Q) := hri
 have HQM : Hid (Q.m ≤ 1048576) := hQm
 clear hFL hC hS hri
 have HH : Hid (hitB a bb cc d x y (x + s) (y + s) = true) := hh
 have hl1 : (A ++ z :: B).length = (A ++ B).length + 1 := by simp; omega
 obtain ⟨en, hen⟩ : ∃ en, (A ++ B).length = en := ⟨_, rfl⟩
 obtain ⟨n1, hn1⟩ : ∃ n1, (A ++ z :: B).length = n1 := ⟨_, rfl⟩
 have C0 : ∀ W, Below w.heap.size w W → Calls Try.prog 63 #[.slice eo en ec, .int .i64 z] W (fun r w2 => ∃ v, r = .returned v ∧ w2.ownsRow W.heap.size 2 1 v n1 ((A ++ z :: B).map (Value.int .i64)) ∧ Below W.heap.size W w2) := fun W h => by
   have h2 := l7WithL_any eo ec A B z (by omega) hA hB0 W (hN.step h)
   rw [hen, hn1] at h2
   exact h2
 rw [hn1] at hm hst
 rw [hen, hn1] at hl1
 rw [hen]
 have HEN : Hid ((A ++ B).length = en) := hen
 have HN1 : Hid ((A ++ z :: B).length = n1) := hn1
 have HLX : Hid (n1 = en + 1) := hl1
 have hnI : (n1 : Int) ≤ 1048576 := by omega
 clear hen hn1 hl1 hN hA hB0 hh
 have B0 : Blk (((w.alloc (.cells #[.int .i64 x, .int .i64 y, .int .i64 s, .slice none 0 0, .slice eo en ec] 64)).alloc (.cells #[.int .i64 a, .int .i64 bb, .int .i64 cc, .int .i64 d] 40)).alloc (.cells #[.int .i64 0, .int .i64 0, .int .i64 0, .slice none 0 0, .slice none 0 0] 64)) w.heap.size [.int .i64 x, .int .i64 y, .int .i64 s, .slice none 0 0, .slice eo en ec] := ((Blk.new w [.int .i64 x, .int .i64 y, .int .i64 s, .slice none 0 0, .slice eo en ec] 64 rfl).alloc _).alloc _
 have B1 : Blk (((w.alloc (.cells #[.int .i64 x, .int .i64 y, .int .i64 s, .slice none 0 0, .slice eo en ec] 64)).alloc (.cells #[.int .i64 a, .int .i64 bb, .int .i64 cc, .int .i64 d] 40)).alloc (.cells #[.int .i64 0, .int .i64 0, .int .i64 0, .slice none 0 0, .slice none 0 0] 64)) (w.heap.size + 1) [.int .i64 a, .int .i64 bb, .int .i64 cc, .int .i64 d] := (Blk.new (w.alloc (.cells #[.int .i64 x, .int .i64 y, .int .i64 s, .slice none 0 0, .slice eo en ec] 64)) [.int .i64 a, .int .i64 bb, .int .i64 cc, .int .i64 d] 40 (by simp)).alloc _
 have B2 : Blk (((w.alloc (.cells #[.int .i64 x, .int .i64 y, .int .i64 s, .slice none 0 0, .slice eo en ec] 64)).alloc (.cells #[.int .i64 a, .int .i64 bb, .int .i64 cc, .int .i64 d] 40)).alloc (.cells #[.int .i64 0, .int .i64 0, .int .i64 0, .slice none 0 0, .slice none 0 0] 64)) (w.heap.size + 2) [.int .i64 0, .int .i64 0, .int .i64 0, .slice none 0 0, .slice none 0 0] := Blk.new ((w.alloc (.cells #[.int .i64 x, .int .i64 y, .int .i64 s, .slice none 0 0, .slice eo en ec] 64)).alloc (.cells #[.int .i64 a, .int .i64 bb, .int .i64 cc, .int .i64 d] 40)) [.int .i64 0, .int .i64 0, .int .i64 0, .slice none 0 0, .slice none 0 0] 64 (by simp)
 have HB : Below w.heap.size w (((w.alloc (.cells #[.int .i64 x, .int .i64 y, .int .i64 s, .slice none 0 0, .slice eo en ec] 64)).alloc (.cells #[.int .i64 a, .int .i64 bb, .int .i64 cc, .int .i64 d] 40)).alloc (.cells #[.int .i64 0, .int .i64 0, .int .i64 0, .slice none 0 0, .slice none 0 0] 64)) := (((Below.refl _ w).alloc (Nat.le_refl _) _).alloc (by simp) _).alloc (by simp; omega) _
 go_enter Try.func30, Try.ntmps30
 go_upto_region 1 with fail
 generalize (((w.alloc (.cells #[.int .i64 x, .int .i64 y, .int .i64 s, .slice none 0 0, .slice eo en ec] 64)).alloc (.cells #[.int .i64 a, .int .i64 bb, .int .i64 cc, .int .i64 d] 40)).alloc (.cells #[.int .i64 0, .int .i64 0, .int .i64 0, .slice none 0 0, .slice none 0 0] 64)) = W1 at *
 have m0 := B0.c 0 rfl; have m1 := B0.c 1 rfl; have m2 := B0.c 2 rfl; have m3 := B0.c 3 rfl; have m4 := B0.c 4 rfl; have n0 := B1.c 0 rfl; have n1_1 := B1.c 1 rfl; have n2 := B1.c 2 rfl; have n3 := B1.c 3 rfl
 go_wp2_with fail
 refine (l13Meets_any x y s none eo 0 0 en ec a bb cc d hq ia ib ic id W1).mono ?_
 rintro r w1 ⟨rfl, hB1⟩
 rw [HH.out]
 clear m0 m1 m2 m3 m4 n0 n1_1 n2 n3
 have hsz : w.heap.size + 2 < W1.heap.size := B2.lt
 replace B0 := B0.step hB1
 replace B1 := B1.step hB1
 replace B2 := B2.step hB1
 replace HB := HB.trans (hB1.mono HB.size)
 have hsz1 := hB1.size
 have C := C0 w1 HB
 clear C0
 have m0 := B0.c 0 rfl; have m1 := B0.c 1 rfl; have m2 := B0.c 2 rfl; have m3 := B0.c 3 rfl; have m4 := B0.c 4 rfl
 go_wp2_with fail
 refine C.mono ?_
 rintro r w2 ⟨v, rfl, hown, hB2⟩
 clear C m0 m1 m2 m3 m4
 obtain ⟨eo1, ec1, rfl⟩ := ownQ_slice hown
 replace B0 := B0.step hB2
 replace B1 := B1.step hB2
 replace B2 := B2.step hB2
 replace HB := HB.trans (hB2.mono HB.size)
 have hsz2 := hB2.size
 have hI : IdV (fun b => w1.heap.size ≤ b) w2 (.slice eo1 n1 ec1) (A ++ z :: B) := IdV.of (by rw [HN1.out]; exact hown)
 have HOW : Hid (∀ b, (Value.slice eo1 n1 ec1).ownBlock = some b → w1.heap.size ≤ b ∧ b < w2.heap.size) := fun b hb => hown.lt b hb
 clear hown
 have m0 := B0.c 0 rfl; have m1 := B0.c 1 rfl; have m2 := B0.c 2 rfl; have m3 := B0.c 3 rfl; have m4 := B0.c 4 rfl; have y0 := B0.f 0 rfl; have y1 := B0.f 1 rfl; have y2 := B0.f 2 rfl; have y3 := B0.f 3 rfl; have y4 := B0.f 4 rfl
 have B0N : Blk (w2.setCell ⟨w.heap.size, 4, none⟩ (.slice eo1 n1 ec1)) w.heap.size [.int .i64 x, .int .i64 y, .int .i64 s, .slice none 0 0, .slice eo1 n1 ec1] := B0.setI 4 (by simp) _
 have B1N : Blk (w2.setCell ⟨w.heap.size, 4, none⟩ (.slice eo1 n1 ec1)) (w.heap.size + 1) [.int .i64 a, .int .i64 bb, .int .i64 cc, .int .i64 d] := B1.keep (by simp [World.setCell]) (Below.heap_setCell _ _ _ _ (by show w.heap.size + 1 ≠ w.heap.size; omega))
 have B2N : Blk (w2.setCell ⟨w.heap.size, 4, none⟩ (.slice eo1 n1 ec1)) (w.heap.size + 2) [.int .i64 0, .int .i64 0, .int .i64 0, .slice none 0 0, .slice none 0 0] := B2.keep (by simp [World.setCell]) (Below.heap_setCell _ _ _ _ (by show w.heap.size + 2 ≠ w.heap.size; omega))
 have HBN : Below w.heap.size w (w2.setCell ⟨w.heap.size, 4, none⟩ (.slice eo1 n1 ec1)) := HB.setCell (Nat.le_refl _) _
 have hIN : IdV (fun b => w1.heap.size ≤ b) (w2.setCell ⟨w.heap.size, 4, none⟩ (.slice eo1 n1 ec1)) (.slice eo1 n1 ec1) (A ++ z :: B) := hI.keep (by simp [World.setCell]) (fun b hb _ => Below.heap_setCell _ _ _ _ (by show b ≠ w.heap.size; omega)) (fun _ h _ => h)
 clear B0 B1 B2 HB hI
 go_upto_region 12 with fail
 generalize (w2.setCell ⟨w.heap.size, 4, none⟩ (.slice eo1 n1 ec1)) = W4 at *
 clear m0 m1 m2 m3 m4 y0 y1 y2 y3 y4
 rw [HC.out] at hIN
 have hI2 : IdV (fun b => w.heap.size + 2 < b ∧ b < W4.heap.size) W4 (.slice eo1 n1 ec1) (idL Q FL) := hIN.keep (Nat.le_refl _) (fun _ _ _ => rfl) (fun b hb hl => ⟨by omega, hl⟩)
 have HFN : Hid (FL.length = n1) := by show _ = _; rw [← HN1.out, HC.out]; exact (List.length_map _).symm
 have hW4 : w.heap.size + 2 < W4.heap.size := B2N.lt
 have HIA : Hid (∀ A1 o1 sp, eo1 = some ⟨A1, o1, sp⟩ → w.heap.size + 2 < A1 ∧ A1 < W4.heap.size) := fun A1 o1 sp e => by
   obtain ⟨a1, c1, e1, _, _, h5⟩ := hI2
   simp only [Value.slice.injEq] at e1
   exact (h5 A1 o1 sp (e1.1 ▸ e)).1
 obtain ⟨hf, hhf⟩ : ∃ hf, s / 2 = hf := ⟨_, rfl⟩
 have HHF : Hid (s / 2 = hf) := hhf
 have m4 := B0N.c 4 rfl
 clear hIN HOW hB1 hB2 hsz1 hsz2 HLX HEN HN1 HC HH B1N hhf
 go_wp2_with fail
 clear m4
 go_loopw [15] (fun ik wr => ∃ (k : Nat) (kv : Value) (evf : Nat → Value), k ≤ 4 ∧ ik = .int .i64 k ∧ Blk wr w.heap.size [.int .i64 x, .int .i64 y, .int .i64 s, kv, .slice eo1 n1 ec1] ∧ Blk wr (w.heap.size + 2) [.int .i64 0, .int .i64 0, .int .i64 0, .slice none 0 0, .slice none 0 0] ∧ IdV (fun b => w.heap.size + 2 < b ∧ b < W4.heap.size) wr (.slice eo1 n1 ec1) (idL Q FL) ∧ wr.ownsRow W4.heap.size 64 5 kv k (kdL x y hf (fun _ => .slice none 0 0) evf k) ∧ (∀ j, j < k → IdV (okK (w.heap.size + 2) kv) wr (evf j) (canL Q (kX x hf j) (kY y hf j) hf)) ∧ Below w.heap.size w wr ∧ W4.heap.size ≤ wr.heap.size) (fun i _ => 4 - (intOf i).toNat)
 case atStart => exact ⟨0, .slice none 0 0, fun _ => .slice none 0 0, by omega, rfl, B0N, B2N, hI2, World.ownsRow_nil _ _ _ _, fun j hj => absurd hj (by omega), HBN, Nat.le_refl _⟩
 case round =>
   clear B0N B2N hI2 HBN
   obtain ⟨k, kv, evf, hk, rfl, BG, BR, HI, HO, HM, HB, h4s⟩ := hrel
   by_cases hk4 : k < 4
   · have hkI : (k : Int) < 4 := by omega
     obtain ⟨wv0, wv1, wv2⟩ := kid_wrap hq HHF.out hk4
     obtain ⟨wk, rfl⟩ : ∃ wk, wk = wr := ⟨wr, rfl⟩
     obtain ⟨ao9, cap9, rfl⟩ := ownQ_slice HO
     have m0 := BG.c 0 rfl; have m1 := BG.c 1 rfl; have m2 := BG.c 2 rfl; have m3 := BG.c 3 rfl; have m4 := BG.c 4 rfl
     go_upto_region 18 with fail
     rw [wv0, wv1, wv2]
     have BK : Blk (wk.alloc (.cells #[.int .i64 (kX x hf k), .int .i64 (kY y hf k), .int .i64 hf, .slice none 0 0, .slice none 0 0] 64)) wk.heap.size [.int .i64 (kX x hf k), .int .i64 (kY y hf k), .int .i64 hf, .slice none 0 0, .slice none 0 0] := Blk.new wk [.int .i64 (kX x hf k), .int .i64 (kY y hf k), .int .i64 hf, .slice none 0 0, .slice none 0 0] 64 rfl
     have HBK : Below wk.heap.size wk (wk.alloc (.cells #[.int .i64 (kX x hf k), .int .i64 (kY y hf k), .int .i64 hf, .slice none 0 0, .slice none 0 0] 64)) := (Below.refl _ wk).alloc (Nat.le_refl _) _
     have hsq := hq.kid hk4
     rw [HHF.out] at hsq
     have hPl : w.heap.size + 2 < wk.heap.size := BR.lt
     have hkvb : Hid (∀ b, (Value.slice ao9 k cap9).ownBlock = some b → W4.heap.size ≤ b ∧ b < wk.heap.size) := fun b hb => HO.lt b hb
     have HMr : Hid (∀ j, j < k → IdV (okK (w.heap.size + 2) (.slice ao9 k cap9)) wk (evf j) (canL Q (kX x hf j) (kY y hf j) hf)) := HM
     replace BG := BG.step HBK
     replace BR := BR.step HBK
     replace HI := HI.step HBK
     replace HO := ownA_step HO HBK
     replace HB := HB.trans (HBK.mono (by omega))
     have hK5 := HBK.size
     have hK6 : wk.heap.size < (wk.alloc (.cells #[.int .i64 (kX x hf k), .int .i64 (kY y hf k), .int .i64 hf, .slice none 0 0, .slice none 0 0] 64)).heap.size := BK.lt
     clear HM wv0 wv1 wv2 m0 m1 m2 m3 m4
     generalize (wk.alloc (.cells #[.int .i64 (kX x hf k), .int .i64 (kY y hf k), .int .i64 hf, .slice none 0 0, .slice none 0 0] 64)) = W5 at *
     have m4 := BG.c 4 rfl
     go_wp2_with fail
     clear m4
     go_loopw [17] (fun ic wr => ∃ (c : Nat) (ev : Value), c ≤ n1 ∧ ic = .int .i64 c ∧ Blk wr wk.heap.size [.int .i64 (kX x hf k), .int .i64 (kY y hf k), .int .i64 hf, .slice none 0 0, ev] ∧ wr.ownsRow W5.heap.size 2 1 ev (idL Q (flQ Q (FL.take c) (kX x hf k) (kY y hf k) hf)).length ((idL Q (flQ Q (FL.take c) (kX x hf k) (kY y hf k) hf)).map (Value.int .i64)) ∧ Below wk.heap.size W5 wr) (fun i _ => n1 + 1 - (intOf i).toNat)
     case atStart => exact ⟨0, .slice none 0 0, Nat.zero_le _, rfl, BK, World.ownsRow_nil _ _ _ _, Below.refl _ _⟩
     case round =>
       clear BK
       obtain ⟨c, ev, hc, rfl, BK, HOK, HBz⟩ := hrel
       obtain ⟨go9, gc9, rfl⟩ := ownQ_slice HOK
       replace BG := BG.below HBz (by omega)
       replace BR := BR.below HBz (by omega)
       replace HI := HI.below HBz (fun b hb => by omega)
       have hKl : wk.heap.size < wr.heap.size := BK.lt
       have hW5 := HBz.size
       have m4 := BG.c 4 rfl
       by_cases hcn : c < n1
       · have hcI : (c : Int) < n1 := by omega
         obtain ⟨iq, hiq⟩ : ∃ iq, FL[c]? = some iq := ⟨_, List.getElem?_eq_getElem (by rw [HFN.out]; exact hcn)⟩
         have HIQ : Hid (FL[c]? = some iq) := hiq
         have hiqm : iq < Q.m := HFM.out iq (List.mem_of_getElem? hiq)
         obtain ⟨s1, s2, s3, s4⟩ := h6 iq (List.mem_range.2 hiqm)
         obtain ⟨eoI, ecI, he, hN, _, _⟩ := HI
         simp only [Value.slice.injEq] at he
         obtain ⟨rfl, hln, rfl⟩ := he
         obtain ⟨A1, o1, rfl, hA1, hcell⟩ := hN c (by rw [← hln]; exact hcn)
         dsimp only at hcell
         rw [idL_get hiq] at hcell
         have hSg : ∀ W, Below wr.heap.size wr W → Calls Try.prog 64 #[.slice ao Q.m cap, .int .i64 (Q.I iq)] W (VP (Sg (Q.S iq).1 (Q.S iq).2.1 (Q.S iq).2.2.1 (Q.S iq).2.2.2) W) := fun W h => l13Seg_any Q ao cap iq HQM.out hiqm (rise_ne HRI.out hiqm) W (HS.out.step (HB.trans ((HBz.mono (by omega)).trans (h.mono (by omega)))))
         have hlen : (idL Q (flQ Q (FL.take c) (kX x hf k) (kY y hf k) hf)).length ≤ n1 := Nat.le_trans (kL_len _ _ _ _ _ _) hc
         clear hiq hN hln
         go_upto_region 21 with fail
         refine qpA (K := wk.heap.size) (P := w.heap.size) (E0 := A1) (eoff := o1) (en := n1) (ec := ec1) (c := c) (m := Q.m) (cap := cap) (gn := (idL Q (flQ Q (FL.take c) (kX x hf k) (kY y hf k) hf)).length) (gc := gc9) (ao := ao) (go := go9) (x := kX x hf k) (y := kY y hf k) (sz := hf) (z := Q.I iq) (a := (Q.S iq).1) (bb := (Q.S iq).2.1) (cc := (Q.S iq).2.2.1) (d := (Q.S iq).2.2.2) hcn (by omega) hsq s1 s2 s3 s4 hSg rfl rfl rfl rfl (BK.c 0 rfl) hKl (BK.c 1 rfl) hKl (BK.c 2 rfl) hKl (BK.c 3 rfl) hKl (BK.c 4 rfl) hKl (BG.c 4 rfl) (by show w.heap.size < wr.heap.size; omega) hcell hA1 rfl ?_
         rintro ⟨tm, df⟩ Wz hz hdf hoff h106 hBz
         simp only at hz hdf hoff h106
         change tm.getD 106 undef = .bool (hitQ Q (kX x hf k) (kY y hf k) hf iq) at h106
         subst hdf
         have htm := tmps_fold [98, 99, 100, 101, 102, 103, 104, 105, 106] tm _ hz hoff
         simp only [List.foldl, List.setIfInBounds_toArray, List.set_cons_zero, List.set_cons_succ, h106] at htm
         clear hz hoff
         generalize tm.getD 98 undef = pa0, tm.getD 99 undef = pa1, tm.getD 100 undef = pa2, tm.getD 101 undef = pa3, tm.getD 102 undef = pa4, tm.getD 103 undef = pa5, tm.getD 104 undef = pa6, tm.getD 105 undef = pa7 at htm
         clear h106
         subst htm
         replace BG := BG.step hBz
         replace BR := BR.step hBz
         replace BK := BK.step hBz
         have HOK2 := ownA_step HOK hBz
         have HBz2 := HBz.trans (hBz.mono (by omega))
         have hcell2 := (hBz.cell (p := ⟨A1, o1 + c, none⟩) hA1).trans hcell
         have hWzs := hBz.size
         have hKL : w.heap.size + 2 < A1 ∧ A1 < wk.heap.size := by
           have := HIA.out A1 o1 none rfl
           omega
         clear m4 hcell HOK HBz hSg s1 s2 s3 s4 hBz
         cases hh : hitQ Q (kX x hf k) (kY y hf k) hf iq with
         | false =>
           have HKL : Hid ((idL Q (flQ Q (FL.take c) (kX x hf k) (kY y hf k) hf)) = (idL Q (flQ Q (FL.take (c + 1)) (kX x hf k) (kY y hf k) hf))) := by show _ = _; rw [kL_more HIQ.out, hh]; simp
           clear hh
           go_wp2
           go_roundw
           case rel => exact ⟨c + 1, .slice go9 _ gc9, by omega, by go_num, BK, by rw [← HKL.out]; exact HOK2, HBz2⟩
           case measure => simp [intOf]; omega
         | true =>
           have HKL : Hid ((idL Q (flQ Q (FL.take (c + 1)) (kX x hf k) (kY y hf k) hf)) = (idL Q (flQ Q (FL.take c) (kX x hf k) (kY y hf k) hf)) ++ [Q.I iq]) := by show _ = _; rw [kL_more HIQ.out, hh]; simp
           clear hh
           go_upto_region 22 with fail
           refine qpB (i0 := iN) (Kb := wk.heap.size) (P := w.heap.size) (E0 := A1) (eoff := o1) (en := n1) (ec := ec1) (c := c) (n := (idL Q (flQ Q (FL.take c) (kX x hf k) (kY y hf k) hf)).length) (base := W5.heap.size) (z := Q.I iq) (o := .slice go9 (idL Q (flQ Q (FL.take c) (kX x hf k) (kY y hf k) hf)).length gc9) (Lz := (idL Q (flQ Q (FL.take c) (kX x hf k) (kY y hf k) hf)).map (Value.int .i64)) (kd := [.int .i64 (kX x hf k), .int .i64 (kY y hf k), .int .i64 hf, .slice none 0 0, .slice go9 (idL Q (flQ Q (FL.take c) (kX x hf k) (kY y hf k) hf)).length gc9]) (Wd := Wz.drew) hN0 hN1 hN2 hN3 hcn (by omega) (by omega) (by omega) (by omega) (ownA_step HOK2 ((Below.refl _ Wz).drew)) (BK.step ((Below.refl _ Wz).drew)) rfl rfl rfl rfl rfl rfl (BG.c 4 rfl) (by show w.heap.size < wk.heap.size; omega) hcell2 hKL.2 rfl ?_
           rintro ⟨tm, df⟩ Wy hz hdf hoff _ hBy ⟨aoN, capN, hKN, hON⟩
           simp only at hz hdf hoff
           subst hdf
           have htm := tmps_fold [107, 108, 109, 110, 111, 112, 113, 114, 115, 116] tm _ hz hoff
           simp only [List.foldl, List.setIfInBounds_toArray, List.set_cons_zero, List.set_cons_succ] at htm
           clear hz hoff
           generalize tm.getD 107 undef = pb0, tm.getD 108 undef = pb1, tm.getD 109 undef = pb2, tm.getD 110 undef = pb3, tm.getD 111 undef = pb4, tm.getD 112 undef = pb5, tm.getD 113 undef = pb6, tm.getD 114 undef = pb7, tm.getD 115 undef = pb8, tm.getD 116 undef = pb9 at htm
           subst htm
           have HBy := HBz2.trans hBy
           clear HOK2 HBz2 BK hcell2
           go_wp2
           go_roundw
           case rel => exact ⟨c + 1, .slice aoN _ capN, by omega, by go_num, hKN, by rw [HKL.out, List.length_append, List.map_append]; exact hON, HBy⟩
           case measure => simp [intOf]; omega
       · obtain rfl : n1 = c := by omega
         have hke := kL_end hq.s1 hk4 HFL.out HFN.out
         rw [HHF.out] at hke
         rw [hke] at HOK BK
         have hIe : IdV (fun b => W5.heap.size ≤ b) wr (.slice go9 (canL Q (kX x hf k) (kY y hf k) hf).length gc9) (canL Q (kX x hf k) (kY y hf k) hf) := IdV.of HOK
         obtain ⟨q, hq9⟩ : ∃ q, (canL Q (kX x hf k) (kY y hf k) hf).length = q := ⟨_, rfl⟩
         rw [hq9] at hIe BK
         have HO6 := ownA_step (ownQ_heap HO (fun b hb => HBz.block b (hkvb.out b hb).2)) ((Below.refl _ _).alloc (Nat.le_refl _) (.cells #[.int .i64 (kX x hf k), .int .i64 (kY y hf k), .int .i64 hf, .slice none 0 0, .slice go9 q gc9] 64))
         have BG6 := BG.alloc (.cells #[.int .i64 (kX x hf k), .int .i64 (kY y hf k), .int .i64 hf, .slice none 0 0, .slice go9 q gc9] 64)
         have BR6 := BR.alloc (.cells #[.int .i64 (kX x hf k), .int .i64 (kY y hf k), .int .i64 hf, .slice none 0 0, .slice go9 q gc9] 64)
         have HB6 := (HB.trans (HBz.mono (by omega))).alloc (show w.heap.size ≤ wr.heap.size by omega) (.cells #[.int .i64 (kX x hf k), .int .i64 (kY y hf k), .int .i64 hf, .slice none 0 0, .slice go9 q gc9] 64)
         have hs6 : Hid ((wr.alloc (.cells #[.int .i64 (kX x hf k), .int .i64 (kY y hf k), .int .i64 hf, .slice none 0 0, .slice go9 q gc9] 64)).heap.size = wr.heap.size + 1) := by show (wr.alloc _).heap.size = _; simp
         have p0 := BK.c 0 rfl; have p1 := BK.c 1 rfl; have p2 := BK.c 2 rfl; have p3 := BK.c 3 rfl; have p4 := BK.c 4 rfl
         have g3 := BG.c 3 rfl
         clear hke HOK hq9
         go_upto_region 23 with fail
         go_wp2_with (at_builtin; go_loud (refine wpList_append_own_at _ rfl _ _ 62 rfl W4.heap.size 64 i0 (.agg #[.int .i64 0, .int .i64 0, .int .i64 0, .slice none 0 0, .slice none 0 0]) 5 72 Try.underlying62 hi0 hz0 hz1 hz2 rfl (by decide) _ _ _ rfl HO6 ⟨wr.heap.size, 0, none⟩ 1 1 [.int .i64 (kX x hf k), .int .i64 (kY y hf k), .int .i64 hf, .slice none 0 0, .slice go9 q gc9] rfl rfl (new_cells _ _ _) (one5 _ _ _ _ _ _ _ _ _) (by unfold maxLen; omega) (by omega) (by have := hs6.out; omega) ?_))
         clear m4
         intro v' w' hown hgrow _ hob
         have hold : ∀ b, b < wr.heap.size → some b ≠ (Value.slice ao9 k cap9).ownBlock → w'.heap[b]? = wr.heap[b]? := fun b hb hne => (hgrow.block b (by have := hs6.out; omega) hne).trans (((Below.refl wr.heap.size wr).alloc (Nat.le_refl _) _).block b hb)
         have hsz5 : wr.heap.size ≤ w'.heap.size := by have h := hgrow.size; have := hs6.out; omega
         have HKN : Hid (∀ j, j < k + 1 → IdV (okK (w.heap.size + 2) v') w' (setV evf k (.slice go9 q gc9) j) (canL Q (kX x hf j) (kY y hf j) hf)) := fun j hj => by
           by_cases e2 : j = k
           · subst e2
             rw [show setV evf j (.slice go9 q gc9) j = .slice go9 q gc9 from if_pos rfl]
             refine hIe.keep hsz5 (fun b hb hb2 => hold b hb2 (fun e3 => by have := hkvb.out b e3.symm; omega)) (fun b hb hb2 => ⟨by omega, fun e3 => ?_⟩)
             rcases hob with h | h
             · rw [h] at e3; have := hkvb.out b e3.symm; omega
             · rw [h] at e3; have := Option.some.inj e3; have := hs6.out; omega
           · rw [show setV evf k (.slice go9 q gc9) j = evf j from if_neg e2]
             refine IdV.keep (HMr.out j (by omega)) (by omega) (fun b hb hb2 => ((hold b (by omega) hb.2).trans (HBz.block b hb2)).trans (HBK.block b hb2)) (fun b hb hb2 => ⟨hb.1, fun e3 => ?_⟩)
             rcases hob with h | h
             · rw [h] at e3; exact hb.2 e3
             · rw [h] at e3; have := Option.some.inj e3; have := hs6.out; omega
         obtain ⟨ao', cap', rfl⟩ := ownQ_slice hown
         have hnil : (setV (fun _ => .slice none 0 0) k (.slice none 0 0) : Nat → Value) = (fun _ => .slice none 0 0) := by funext j; unfold setV; split <;> rfl
         rw [← kdL_set, hnil] at hown
         have BG7 := BG6.grown hgrow (fun e3 => by have := hkvb.out w.heap.size e3.symm; omega)
         have BR7 := BR6.grown hgrow (fun e3 => by have := hkvb.out (w.heap.size + 2) e3.symm; omega)
         have HI7 := HI.keep (ok' := (fun b => w.heap.size + 2 < b ∧ b < W4.heap.size)) hsz5 (fun b hb hb2 => hold b hb2 (fun e3 => by have := hkvb.out b e3.symm; omega)) (fun _ h _ => h)
         have HB7 := HB6.grown hgrow (by have := hs6.out; omega) (fun b hb => by have := hkvb.out b hb; omega)
         have g3f := BG7.f 3 rfl; have g3c := BG7.c 3 rfl
         have hne0 : ∀ b, w.heap.size < b → (w'.setCell ⟨w.heap.size, 3, none⟩ (.slice ao' (k + 1) cap')).heap[b]? = w'.heap[b]? := fun b hb => Below.heap_setCell _ _ _ _ (by show b ≠ w.heap.size; omega)
         have hsS : w'.heap.size ≤ (w'.setCell ⟨w.heap.size, 3, none⟩ (.slice ao' (k + 1) cap')).heap.size := by simp [World.setCell]
         have BGN : Blk (w'.setCell ⟨w.heap.size, 3, none⟩ (.slice ao' (k + 1) cap')) w.heap.size [.int .i64 x, .int .i64 y, .int .i64 s, .slice ao' (k + 1) cap', .slice eo1 n1 ec1] := BG7.setI 3 (by simp) _
         have BRN : Blk (w'.setCell ⟨w.heap.size, 3, none⟩ (.slice ao' (k + 1) cap')) (w.heap.size + 2) [.int .i64 0, .int .i64 0, .int .i64 0, .slice none 0 0, .slice none 0 0] := BR7.keep hsS (hne0 _ (by omega))
         have HIN : IdV (fun b => w.heap.size + 2 < b ∧ b < W4.heap.size) (w'.setCell ⟨w.heap.size, 3, none⟩ (.slice ao' (k + 1) cap')) (.slice eo1 n1 ec1) (idL Q FL) := HI7.keep hsS (fun b hb _ => hne0 b (by omega)) (fun _ h _ => h)
         have HON : (w'.setCell ⟨w.heap.size, 3, none⟩ (.slice ao' (k + 1) cap')).ownsRow W4.heap.size 64 5 (.slice ao' (k + 1) cap') (k + 1) (kdL x y hf (fun _ => .slice none 0 0) (setV evf k (.slice go9 q gc9)) (k + 1)) := ownQ_heap hown (fun b hb => hne0 b (by have := (hown.lt b hb).1; omega))
         have HMN : Hid (∀ j, j < k + 1 → IdV (okK (w.heap.size + 2) (.slice ao' (k + 1) cap')) (w'.setCell ⟨w.heap.size, 3, none⟩ (.slice ao' (k + 1) cap')) (setV evf k (.slice go9 q gc9) j) (canL Q (kX x hf j) (kY y hf j) hf)) := fun j hj => (HKN.out j hj).keep hsS (fun b hb _ => hne0 b (by have := hb.1; omega)) (fun _ h _ => h)
         have HBN : Below w.heap.size w (w'.setCell ⟨w.heap.size, 3, none⟩ (.slice ao' (k + 1) cap')) := HB7.setCell (Nat.le_refl _) _
         have hsN : W4.heap.size ≤ (w'.setCell ⟨w.heap.size, 3, none⟩ (.slice ao' (k + 1) cap')).heap.size := by omega
         clear HKN BG7 BR7 HI7 HB7 hown hgrow hob hold hsz5 HO6 BG6 BR6 HB6 hs6 p0 p1 p2 p3 p4 g3 hIe hne0 hsS hnil BG BR HI BK
         go_wp2
         go_roundw
         case rel => exact ⟨k + 1, .slice ao' (k + 1) cap', setV evf k (.slice go9 q gc9), by omega, by go_num, BGN, BRN, HIN, HON, HMN.out, HBN, hsN⟩
         case measure => simp [intOf]; omega
   · obtain rfl : k = 4 := by omega
     obtain ⟨gk, ck, rfl, hgk1, hgk2, _, _⟩ := ownQ_form HO (by omega)
     have hPl : w.heap.size + 2 < wr.heap.size := BR.lt
     have m0 := BG.c 0 rfl; have m1 := BG.c 1 rfl; have m2 := BG.c 2 rfl; have m3 := BG.c 3 rfl; have m4 := BG.c 4 rfl; have y0 := BG.f 0 rfl; have y1 := BG.f 1 rfl; have y2 := BG.f 2 rfl; have y3 := BG.f 3 rfl; have y4 := BG.f 4 rfl
     have B0N : Blk (wr.setCell ⟨w.heap.size, 4, none⟩ (.slice none 0 0)) w.heap.size [.int .i64 x, .int .i64 y, .int .i64 s, .slice (some ⟨gk, 0, none⟩) 4 ck, .slice none 0 0] := BG.setI 4 (by simp) _
     have B2N : Blk (wr.setCell ⟨w.heap.size, 4, none⟩ (.slice none 0 0)) (w.heap.size + 2) [.int .i64 0, .int .i64 0, .int .i64 0, .slice none 0 0, .slice none 0 0] := BR.keep (by simp [World.setCell]) (Below.heap_setCell _ _ _ _ (by show w.heap.size + 2 ≠ w.heap.size; omega))
     have HBN : Below w.heap.size w (wr.setCell ⟨w.heap.size, 4, none⟩ (.slice none 0 0)) := HB.setCell (Nat.le_refl _) _
     have hne0 : ∀ b, w.heap.size + 2 < b → (wr.setCell ⟨w.heap.size, 4, none⟩ (.slice none 0 0)).heap[b]? = wr.heap[b]? := fun b hb => Below.heap_setCell _ _ _ _ (by show b ≠ w.heap.size; omega)
     have hsS : wr.heap.size ≤ (wr.setCell ⟨w.heap.size, 4, none⟩ (.slice none 0 0)).heap.size := by simp [World.setCell]
     have MN : Hid (MTr (fun b => w.heap.size + 2 < b) (wr.setCell ⟨w.heap.size, 4, none⟩ (.slice none 0 0)) (.node (fun k => .leaf (canL Q (kX x (s / 2) k) (kY y (s / 2) k) (s / 2)))) x y s (.slice (some ⟨gk, 0, none⟩) 4 ck) (.slice none 0 0)) := by
       refine MTr.node_of (kv' := (fun _ => .slice none 0 0)) (ev' := evf) (base := W4.heap.size) (fun b hb => by omega) ⟨none, 0, rfl, fun i hi => absurd hi (by simp), fun _ => rfl, fun _ _ _ e => by cases e⟩ ?_ (fun k hk4 => ?_)
       · rw [HHF.out]; exact ownQ_heap HO (fun b hb => hne0 b (by have := (HO.lt b hb).1; omega))
       · rw [HHF.out]
         exact ⟨rfl, (HM k hk4).keep hsS (fun b hb _ => hne0 b (by have := hb.1; omega)) (fun b hb _ => hb.1)⟩
     go_upto_region 25 with fail
     clear m0 m1 m2 m3 m4 y0 y1 y2 y3 y4 BG BR HO HM HB HI hsS hne0
     generalize (wr.setCell ⟨w.heap.size, 4, none⟩ (.slice none 0 0)) = W9 at *
     have m0 := B0N.c 0 rfl; have m1 := B0N.c 1 rfl; have m2 := B0N.c 2 rfl; have m3 := B0N.c 3 rfl; have m4 := B0N.c 4 rfl; have y0 := B2N.f 0 rfl; have y1 := B2N.f 1 rfl; have y2 := B2N.f 2 rfl; have y3 := B2N.f 3 rfl; have y4 := B2N.f 4 rfl; have z0 := B2N.c 0 rfl; have z1 := B2N.c 1 rfl; have z2 := B2N.c 2 rfl; have z3 := B2N.c 3 rfl; have z4 := B2N.c 4 rfl
     have BF := set5_blk B2N (.int .i64 x) (.int .i64 y) (.int .i64 s) (.slice (some ⟨gk, 0, none⟩) 4 ck) (.slice none 0 0)
     have HF := set5_below HBN (show w.heap.size ≤ w.heap.size + 2 by omega) (.int .i64 x) (.int .i64 y) (.int .i64 s) (.slice (some ⟨gk, 0, none⟩) 4 ck) (.slice none 0 0)
     have MF : Hid (MTr (fun b => False ∨ w.heap.size ≤ b) (((((W9.setCell ⟨w.heap.size + 2, 0, none⟩ (.int .i64 x)).setCell ⟨w.heap.size + 2, 1, none⟩ (.int .i64 y)).setCell ⟨w.heap.size + 2, 2, none⟩ (.int .i64 s)).setCell ⟨w.heap.size + 2, 3, none⟩ (.slice (some ⟨gk, 0, none⟩) 4 ck)).setCell ⟨w.heap.size + 2, 4, none⟩ (.slice none 0 0)) (.node (fun k => .leaf (canL Q (kX x (s / 2) k) (kY y (s / 2) k) (s / 2)))) x y s (.slice (some ⟨gk, 0, none⟩) 4 ck) (.slice none 0 0)) := MTr.keep (by simp [World.setCell]) (fun b hb _ => set5_heap (by show b ≠ w.heap.size + 2; omega)) (fun b hb _ => .inr (by omega)) MN.out
     clear MN
     go_wp2
     have r0 := BF.out.c 0 rfl; have r1 := BF.out.c 1 rfl; have r2 := BF.out.c 2 rfl; have r3 := BF.out.c 3 rfl; have r4 := BF.out.c 4 rfl
     refine bodyPost_ret (v := .agg #[.int .i64 x, .int .i64 y, .int .i64 s, .slice (some ⟨gk, 0, none⟩) 4 ck, .slice none 0 0]) (by simp [results, Try.results30, go_sem, r0, r1, r2, r3, r4]) rfl ?_
     exact ⟨_, _, _, _, _, _, rfl, MF.out, HF⟩
theorem canL_len (Q : QD) (x y s : Int) : (canL Q x y s).length ≤ Q.m := by
 unfold canL idL flQ
 rw [List.length_map]
 exact Nat.le_trans (List.length_filter_le _ _) (by simp)
def okN (ok : Nat → Prop) (P : Nat) (v : Value) (b : Nat) : Prop := (ok b ∧ b < P) ∨ (P + 2 < b ∧ some b ≠ v.ownBlock)
theorem putT_hit {Q : QD} {j : Nat} {mx D x y s : Int} {K : Nat → QT} (h : hitQ Q x y s j = true) : putT Q j mx (.node K) D x y s = .node (fun k => putT Q j mx (K k) (D - 1) (kX x (s / 2) k) (kY y (s / 2) k) (s / 2)) := by
 rw [putT, if_pos h]
set_option maxRecDepth 100000 in
set_option maxHeartbeats 16000000 in
theorem l13Put_any (Q0 Q : QD) (j : Nat) (mx : Int) (ao : Option Addr) (cap : Nat) (hj : j < Q.m) (hQm : Q.m ≤ 1048576) (h6 : Its6 Q (List.range Q.m)) (hri : riseI Q) (hL : ∀ x y s, hitQ Q x y s j = true → ∃ A B, canL Q0 x y s = A ++ B ∧ canL Q x y s = A ++ Q.I j :: B ∧ (∀ u ∈ A, u < Q.I j) ∧ (∀ u ∈ B, Q.I j < u)) (t : QT) : ∀ (D x y s : Int) (ok : Nat → Prop) (kv ev : Value) (w : World), Sq x y s → (dpT t : Int) ≤ D → D ≤ 8 → rtT Q0 t x y s = true → MTr ok w t x y s kv ev → ItIn Q w ao (List.range Q.m) → Calls Try.prog 30 #[.agg #[.int .i64 x, .int .i64 y, .int .i64 s, kv, ev], .slice ao Q.m cap, .int .i64 (Q.I j), Sg (Q.S j).1 (Q.S j).2.1 (Q.S j).2.2.1 (Q.S j).2.2.2, .int .i64 mx, .int .i64 D] w (PuM ok (putT Q j mx t D x y s) x y s w) := by
 obtain ⟨s1, s2, s3, s4⟩ := h6 j (List.mem_range.2 hj)
 obtain ⟨i0, hi0, hz0, hz1, hz2⟩ := info_b13
 have miss : ∀ (t : QT) (D x y s : Int) (ok : Nat → Prop) (kv ev : Value) (w : World), Sq x y s → hitQ Q x y s j = false → MTr ok w t x y s kv ev → Calls Try.prog 30 #[.agg #[.int .i64 x, .int .i64 y, .int .i64 s, kv, ev], .slice ao Q.m cap, .int .i64 (Q.I j), Sg (Q.S j).1 (Q.S j).2.1 (Q.S j).2.2.1 (Q.S j).2.2.2, .int .i64 mx, .int .i64 D] w (PuM ok (putT Q j mx t D x y s) x y s w) := fun t D x y s ok kv ev w hq hh hM => by
   rw [putT_miss hh]
   obtain ⟨ko, kn, kc, eo, en, ec, rfl, rfl⟩ := hM.vals
   refine (l13Put_miss x y s mx D (Q.I j) _ _ _ _ ao ko eo Q.m cap kn kc en ec hq s1 s2 s3 s4 hh w).mono ?_
   rintro r w' ⟨rfl, hB⟩
   exact ⟨_, _, _, _, _, _, rfl, MTr.keep hB.size (fun b _ hb => hB.block b hb) (fun _ h _ => .inl h) hM, hB⟩
 induction t with
 | leaf l =>
   intro D x y s ok kv ev w hq hdp hD8 hr hM hS
   cases hh : hitQ Q x y s j with
   | false => exact miss _ D x y s ok kv ev w hq hh hM
   | true =>
     obtain ⟨rfl, eo, ec, rfl, hN, hn0, hok⟩ := hM
     obtain rfl : l = canL Q0 x y s := of_decide_eq_true hr
     obtain ⟨A, B, e1, e2, hA, hB⟩ := hL x y s hh
     have hlen : (A ++ Q.I j :: B).length ≤ 1048576 := by rw [← e2]; exact Nat.le_trans (canL_len Q x y s) hQm
     by_cases hst : ((A ++ Q.I j :: B).length : Int) ≤ mx ∨ D < 1
     · have hp : putT Q j mx (.leaf (canL Q0 x y s)) D x y s = .leaf (canL Q x y s) := by rw [putT, if_pos hh, if_pos (by rw [e2]; exact hst)]
       rw [hp]
       have C := l13Put_stay x y s mx D (Q.I j) _ _ _ _ ao eo Q.m cap ec A B hq s1 s2 s3 s4 hh hlen hA hB w (by rw [← e1]; exact hN) hst
       rw [← e1] at C
       refine C.mono ?_
       rintro r w' ⟨ev, rfl, hI, hB'⟩
       rw [← e2] at hI
       have hI2 := hI
       obtain ⟨eo1, ec1, rfl, _⟩ := hI2
       exact ⟨none, 0, 0, eo1, _, ec1, rfl, ⟨rfl, hI.keep (Nat.le_refl _) (fun _ _ _ => rfl) (fun _ h _ => .inr h)⟩, hB'⟩
     · have hp : putT Q j mx (.leaf (canL Q0 x y s)) D x y s = .node (fun k => .leaf (canL Q (kX x (s / 2) k) (kY y (s / 2) k) (s / 2))) := by rw [putT, if_pos hh, if_neg (by rw [e2]; exact hst)]
       rw [hp]
       have C := l13Put_split Q x y s mx D (Q.I j) _ _ _ _ ao eo cap ec A B hq s1 s2 s3 s4 hh hlen hA hB w (by rw [← e1]; exact hN) e2.symm hQm h6 hri hS (fun h => hst (.inl h)) (fun h => hst (.inr h))
       rw [← e1] at C
       refine C.mono ?_
       rintro r w' ⟨ko, kn, kc, eo1, en1, ec1, rfl, hM1, hB'⟩
       exact ⟨_, _, _, _, _, _, rfl, MTr.keep (Nat.le_refl _) (fun _ _ _ => rfl) (fun b h _ => h.elim (fun e => e.elim) .inr) hM1, hB'⟩
 | node K ih =>
   intro D x y s ok kv ev w hq hdp hD8 hr hM hS
   cases hh : hitQ Q x y s j with
   | false => exact miss _ D x y s ok kv ev w hq hh hM
   | true =>
     rw [putT_hit hh]
     obtain ⟨hE, A, kc, rfl, hA, hoA, hk⟩ := hM
     have HE : Hid (IdV ok w ev []) := hE
     obtain ⟨eo, ec, rfl, _⟩ := hE
     have hdk : ∀ c, c < 4 → (dpT (K c) : Int) ≤ D - 1 := fun c hc => by
       unfold dpT at hdp
       rcases (show c = 0 ∨ c = 1 ∨ c = 2 ∨ c = 3 by omega) with h | h | h | h <;> subst h <;> omega
     have hD1 : 1 ≤ D := by have := hdk 0 (by omega); omega
     have hrk : ∀ c, c < 4 → rtT Q0 (K c) (kX x (s / 2) c) (kY y (s / 2) c) (s / 2) = true := fun c hc => (List.all_eq_true.1 hr) c (List.mem_range.2 hc)
     have HH : Hid (hitB (Q.S j).1 (Q.S j).2.1 (Q.S j).2.2.1 (Q.S j).2.2.2 x y (x + s) (y + s) = true) := hh
     obtain ⟨hf, hhf⟩ : ∃ hf, s / 2 = hf := ⟨_, rfl⟩
     have HHF : Hid (s / 2 = hf) := hhf
     rw [hhf] at hk hrk ⊢
     obtain ⟨TK, hTK⟩ : ∃ TK : Nat → QT, (fun k => putT Q j mx (K k) (D - 1) (kX x hf k) (kY y hf k) hf) = TK := ⟨_, rfl⟩
     have HTK : Hid ((fun k => putT Q j mx (K k) (D - 1) (kX x hf k) (kY y hf k) hf) = TK) := hTK
     rw [hTK]
     have HK : Hid (∀ k, k < 4 → ∃ kv' ev', w.cell? ⟨A, k * 5, none⟩ = some (.int .i64 (kX x hf k)) ∧ w.cell? ⟨A, k * 5 + 1, none⟩ = some (.int .i64 (kY y hf k)) ∧ w.cell? ⟨A, k * 5 + 2, none⟩ = some (.int .i64 hf) ∧ w.cell? ⟨A, k * 5 + 3, none⟩ = some kv' ∧ w.cell? ⟨A, k * 5 + 4, none⟩ = some ev' ∧ MTr ok w (K k) (kX x hf k) (kY y hf k) hf kv' ev') := hk
     have HS : Hid (ItIn Q w ao (List.range Q.m)) := hS
     have HDK : Hid (∀ c, c < 4 → (dpT (K c) : Int) ≤ D - 1) := hdk
     have HRK : Hid (∀ c, c < 4 → rtT Q0 (K c) (kX x hf c) (kY y hf c) hf = true) := hrk
     change Calls _ _ #[.agg #[.int .i64 x, .int .i64 y, .int .i64 s, .slice (some ⟨A, 0, none⟩) 4 kc, .slice eo 0 ec], _, _, _, _, _] _ _
     clear hhf hTK hk hS hdk hrk hh hdp hr miss hL
     have B0 : Blk (((w.alloc (.cells #[.int .i64 x, .int .i64 y, .int .i64 s, .slice (some ⟨A, 0, none⟩) 4 kc, .slice eo 0 ec] 64)).alloc (.cells #[.int .i64 (Q.S j).1, .int .i64 (Q.S j).2.1, .int .i64 (Q.S j).2.2.1, .int .i64 (Q.S j).2.2.2] 40)).alloc (.cells #[.int .i64 0, .int .i64 0, .int .i64 0, .slice none 0 0, .slice none 0 0] 64)) w.heap.size [.int .i64 x, .int .i64 y, .int .i64 s, .slice (some ⟨A, 0, none⟩) 4 kc, .slice eo 0 ec] := ((Blk.new w [.int .i64 x, .int .i64 y, .int .i64 s, .slice (some ⟨A, 0, none⟩) 4 kc, .slice eo 0 ec] 64 rfl).alloc _).alloc _
     have B1 : Blk (((w.alloc (.cells #[.int .i64 x, .int .i64 y, .int .i64 s, .slice (some ⟨A, 0, none⟩) 4 kc, .slice eo 0 ec] 64)).alloc (.cells #[.int .i64 (Q.S j).1, .int .i64 (Q.S j).2.1, .int .i64 (Q.S j).2.2.1, .int .i64 (Q.S j).2.2.2] 40)).alloc (.cells #[.int .i64 0, .int .i64 0, .int .i64 0, .slice none 0 0, .slice none 0 0] 64)) (w.heap.size + 1) [.int .i64 (Q.S j).1, .int .i64 (Q.S j).2.1, .int .i64 (Q.S j).2.2.1, .int .i64 (Q.S j).2.2.2] := (Blk.new (w.alloc (.cells #[.int .i64 x, .int .i64 y, .int .i64 s, .slice (some ⟨A, 0, none⟩) 4 kc, .slice eo 0 ec] 64)) [.int .i64 (Q.S j).1, .int .i64 (Q.S j).2.1, .int .i64 (Q.S j).2.2.1, .int .i64 (Q.S j).2.2.2] 40 (by simp)).alloc _
     have B2 : Blk (((w.alloc (.cells #[.int .i64 x, .int .i64 y, .int .i64 s, .slice (some ⟨A, 0, none⟩) 4 kc, .slice eo 0 ec] 64)).alloc (.cells #[.int .i64 (Q.S j).1, .int .i64 (Q.S j).2.1, .int .i64 (Q.S j).2.2.1, .int .i64 (Q.S j).2.2.2] 40)).alloc (.cells #[.int .i64 0, .int .i64 0, .int .i64 0, .slice none 0 0, .slice none 0 0] 64)) (w.heap.size + 2) [.int .i64 0, .int .i64 0, .int .i64 0, .slice none 0 0, .slice none 0 0] := Blk.new ((w.alloc (.cells #[.int .i64 x, .int .i64 y, .int .i64 s, .slice (some ⟨A, 0, none⟩) 4 kc, .slice eo 0 ec] 64)).alloc (.cells #[.int .i64 (Q.S j).1, .int .i64 (Q.S j).2.1, .int .i64 (Q.S j).2.2.1, .int .i64 (Q.S j).2.2.2] 40)) [.int .i64 0, .int .i64 0, .int .i64 0, .slice none 0 0, .slice none 0 0] 64 (by simp)
     have HB : Below w.heap.size w (((w.alloc (.cells #[.int .i64 x, .int .i64 y, .int .i64 s, .slice (some ⟨A, 0, none⟩) 4 kc, .slice eo 0 ec] 64)).alloc (.cells #[.int .i64 (Q.S j).1, .int .i64 (Q.S j).2.1, .int .i64 (Q.S j).2.2.1, .int .i64 (Q.S j).2.2.2] 40)).alloc (.cells #[.int .i64 0, .int .i64 0, .int .i64 0, .slice none 0 0, .slice none 0 0] 64)) := (((Below.refl _ w).alloc (Nat.le_refl _) _).alloc (by simp) _).alloc (by simp; omega) _
     go_enter Try.func30, Try.ntmps30
     go_upto_region 1 with fail
     generalize (((w.alloc (.cells #[.int .i64 x, .int .i64 y, .int .i64 s, .slice (some ⟨A, 0, none⟩) 4 kc, .slice eo 0 ec] 64)).alloc (.cells #[.int .i64 (Q.S j).1, .int .i64 (Q.S j).2.1, .int .i64 (Q.S j).2.2.1, .int .i64 (Q.S j).2.2.2] 40)).alloc (.cells #[.int .i64 0, .int .i64 0, .int .i64 0, .slice none 0 0, .slice none 0 0] 64)) = W1 at *
     have m0 := B0.c 0 rfl; have m1 := B0.c 1 rfl; have m2 := B0.c 2 rfl; have m3 := B0.c 3 rfl; have m4 := B0.c 4 rfl; have n0 := B1.c 0 rfl; have n1 := B1.c 1 rfl; have n2 := B1.c 2 rfl; have n3 := B1.c 3 rfl
     go_wp2_with fail
     refine (l13Meets_any x y s (some ⟨A, 0, none⟩) eo 4 kc 0 ec _ _ _ _ hq s1 s2 s3 s4 W1).mono ?_
     rintro r w1 ⟨rfl, hB1⟩
     rw [HH.out]
     clear m0 m1 m2 m3 m4 n0 n1 n2 n3
     replace B0 := B0.step hB1
     replace B1 := B1.step hB1
     replace B2 := B2.step hB1
     replace HB := HB.trans (hB1.mono HB.size)
     have hsz : w.heap.size + 2 < w1.heap.size := B2.lt
     have m3 := B0.c 3 rfl
     clear hB1
     go_upto_region 5 with fail
     have HO0 : (w1.alloc (.cells #[] 64)).ownsRow (w.heap.size + 3) 64 5 (.slice (some ⟨w1.heap.size, 0, none⟩) 0 0) 0 [] := ownQ_mono2 (World.ownsRow_made w1 #[] 0 (Nat.le_refl _) (by decide) rfl) (by omega)
     replace B0 := B0.alloc (.cells #[] 64)
     replace B1 := B1.alloc (.cells #[] 64)
     replace B2 := B2.alloc (.cells #[] 64)
     replace HB := HB.alloc (by omega) (.cells #[] 64)
     generalize (w1.alloc (.cells #[] 64)) = W3 at *
     clear m3
     go_wp2_with fail
     go_loopw [13, 14] (fun v ic wr => ∃ (c : Nat) (kvf evf : Nat → Value) (vv : Value), vv = v ∧ c ≤ 4 ∧ ic = .int .i64 c ∧ Blk wr w.heap.size [.int .i64 x, .int .i64 y, .int .i64 s, .slice (some ⟨A, 0, none⟩) 4 kc, .slice eo 0 ec] ∧ Blk wr (w.heap.size + 1) [.int .i64 (Q.S j).1, .int .i64 (Q.S j).2.1, .int .i64 (Q.S j).2.2.1, .int .i64 (Q.S j).2.2.2] ∧ Blk wr (w.heap.size + 2) [.int .i64 0, .int .i64 0, .int .i64 0, .slice none 0 0, .slice none 0 0] ∧ wr.ownsRow (w.heap.size + 3) 64 5 vv c (kdL x y hf kvf evf c) ∧ (∀ i, i < c → MTr (okN ok w.heap.size (vv)) wr (TK i) (kX x hf i) (kY y hf i) hf (kvf i) (evf i)) ∧ Below w.heap.size w wr) (fun _ i _ => 4 - (intOf i).toNat)
     case atStart => exact ⟨0, fun _ => .slice none 0 0, fun _ => .slice none 0 0, _, rfl, by omega, rfl, B0, B1, B2, HO0, fun i hi => absurd hi (by omega), HB⟩
     case round =>
       clear B0 B1 B2 HO0 HB
       obtain ⟨c, kvf, evf, vv, rfl, hc, rfl, BG, BS, BR, HO, HM, HB⟩ := hrel
       have hPl : w.heap.size + 2 < wr.heap.size := BR.lt
       by_cases hc4 : c < 4
       · have hcI : (c : Int) < 4 := by omega
         obtain ⟨kv', ev', c0, c1, c2, c3, c4, hMk⟩ := HK.out c hc4
         obtain ⟨ko, kn, kc', eo', en', ec', rfl, rfl⟩ := hMk.vals
         have hsq := hq.kid hc4
         rw [HHF.out] at hsq
         have hM2 : MTr (fun b => ok b ∧ b < w.heap.size) wr.drew (K c) (kX x hf c) (kY y hf c) hf (.slice ko kn kc') (.slice eo' en' ec') := MTr.keep (w' := wr.drew) (ok' := fun b => ok b ∧ b < w.heap.size) HB.size (fun b _ hb => HB.block b hb) (fun b h h2 => ⟨h, h2⟩) hMk
         have C := ih c (D - 1) (kX x hf c) (kY y hf c) hf (fun b => ok b ∧ b < w.heap.size) _ _ wr.drew hsq (HDK.out c hc4) (by omega) (HRK.out c hc4) hM2 (HS.out.step HB.drew)
         have hput : Calls Try.prog 30 #[.agg #[.int .i64 (kX x hf c), .int .i64 (kY y hf c), .int .i64 hf, .slice ko kn kc', .slice eo' en' ec'], .slice ao Q.m cap, .int .i64 (Q.I j), Sg (Q.S j).1 (Q.S j).2.1 (Q.S j).2.2.1 (Q.S j).2.2.2, .int .i64 mx, .int .i64 (D - 1)] wr.drew (fun r W2 => ∃ ko1 kn1 kc1 eo1 en1 ec1, r = .returned (.agg #[.int .i64 (kX x hf c), .int .i64 (kY y hf c), .int .i64 hf, .slice ko1 kn1 kc1, .slice eo1 en1 ec1]) ∧ MTr (fun b => (ok b ∧ b < w.heap.size) ∨ wr.heap.size ≤ b) W2 (TK c) (kX x hf c) (kY y hf c) hf (.slice ko1 kn1 kc1) (.slice eo1 en1 ec1) ∧ Below wr.drew.heap.size wr.drew W2) := C.mono (by
           rintro r W2 ⟨ko1, kn1, kc1, eo1, en1, ec1, h1, h2, h3⟩
           exact ⟨ko1, kn1, kc1, eo1, en1, ec1, h1, by rw [← HTK.out]; exact h2, h3⟩)
         have hcc : ∀ i, wr.cell? ⟨A, i, none⟩ = w.cell? ⟨A, i, none⟩ := fun i => HB.cell (p := ⟨A, i, none⟩) hA
         clear C ih hM2 hMk
         go_upto_region 8 with fail
         refine qp8 (i0 := i0) (P := w.heap.size) (Sb := w.heap.size + 1) (A := A) (kk := kc) (m := Q.m) (cap := cap) (base := w.heap.size + 3) (c := c) (kn := kn) (kc := kc') (en := en') (ec := ec') (ao := ao) (ko := ko) (eo := eo') (x := kX x hf c) (y := kY y hf c) (sz := hf) (z := Q.I j) (most := mx) (D := D) (a := (Q.S j).1) (bb := (Q.S j).2.1) (cc := (Q.S j).2.2.1) (d := (Q.S j).2.2.2) (o := vv) (Lk := kdL x y hf kvf evf c) (TT := fun k1 e1 W => MTr (fun b => (ok b ∧ b < w.heap.size) ∨ wr.heap.size ≤ b) W (TK c) (kX x hf c) (kY y hf c) hf k1 e1) (Wd := wr.drew) hi0 hz0 hz1 hz2 hc4 hD1 hD8 (by omega) (ownA_step HO ((Below.refl _ wr).drew)) hput rfl rfl rfl rfl rfl rfl rfl rfl rfl (BG.c 3 rfl) (by show w.heap.size < w.heap.size + 3; omega) (BS.c 0 rfl) (by show w.heap.size + 1 < w.heap.size + 3; omega) (BS.c 1 rfl) (by show w.heap.size + 1 < w.heap.size + 3; omega) (BS.c 2 rfl) (by show w.heap.size + 1 < w.heap.size + 3; omega) (BS.c 3 rfl) (by show w.heap.size + 1 < w.heap.size + 3; omega) ((hcc _).trans c0) (by show A < w.heap.size + 3; omega) ((hcc _).trans c1) (by show A < w.heap.size + 3; omega) ((hcc _).trans c2) (by show A < w.heap.size + 3; omega) ((hcc _).trans c3) (by show A < w.heap.size + 3; omega) ((hcc _).trans c4) (by show A < w.heap.size + 3; omega) rfl ?_
         rintro ⟨tm, df⟩ Wz hz hdf hoff _ hBz ⟨Wc, ko1, kn1, kc1, eo1, en1, ec1, hT, hBc, hg, hown, hob⟩
         simp only at hz hdf hoff hown hob
         subst hdf
         obtain ⟨ao', cap', hv'⟩ := ownQ_slice hown
         rw [hv'] at hown hob
         have hgd : ∀ b, b < wr.heap.size → some b ≠ vv.ownBlock → Wz.heap[b]? = wr.heap[b]? := fun b hb hne => (hg.block b (Nat.lt_of_lt_of_le hb hBc.size) hne).trans (hBc.block b hb)
         have hvb : ∀ b, vv.ownBlock = some b → w.heap.size + 3 ≤ b ∧ b < wr.heap.size := fun b hb => HO.lt b hb
         have hWc : wr.heap.size ≤ Wc.heap.size := hBc.size
         have hWz : Wc.heap.size ≤ Wz.heap.size := hg.size
         have HKN : Hid (∀ i, i < c + 1 → MTr (okN ok w.heap.size (.slice ao' (c + 1) cap')) Wz (TK i) (kX x hf i) (kY y hf i) hf (setV kvf c (.slice ko1 kn1 kc1) i) (setV evf c (.slice eo1 en1 ec1) i)) := fun i hi => by
           by_cases e2 : i = c
           · subst e2
             rw [show setV kvf i (.slice ko1 kn1 kc1) i = .slice ko1 kn1 kc1 from if_pos rfl, show setV evf i (.slice eo1 en1 ec1) i = .slice eo1 en1 ec1 from if_pos rfl]
             refine MTr.keep hWz (fun b hb hb2 => hg.block b hb2 (fun e3 => ?_)) (fun b hb hb2 => ?_) hT
             · have := hvb b e3.symm
               rcases hb with hb | hb <;> omega
             · rcases hb with hb | hb
               · exact .inl hb
               · refine .inr ⟨by omega, fun e3 => ?_⟩
                 rcases hob with h | h
                 · rw [h] at e3; have := hvb b e3.symm; omega
                 · rw [h] at e3; have := Option.some.inj e3; omega
           · rw [show setV kvf c (.slice ko1 kn1 kc1) i = kvf i from if_neg e2, show setV evf c (.slice eo1 en1 ec1) i = evf i from if_neg e2]
             refine MTr.keep (by omega) (fun b hb hb2 => hgd b hb2 (fun e3 => ?_)) (fun b hb hb2 => ?_) (HM i (by omega))
             · rcases hb with hb | hb
               · have := hvb b e3.symm; omega
               · exact hb.2 e3
             · rcases hb with hb | hb
               · exact .inl hb
               · refine .inr ⟨hb.1, fun e3 => ?_⟩
                 rcases hob with h | h
                 · rw [h] at e3; exact hb.2 e3
                 · rw [h] at e3; have := Option.some.inj e3; omega
         rw [← kdL_set] at hown
         have htm := tmps_fold [32, 33, 34, 35, 36, 37, 38, 39, 40, 41, 42, 43, 44, 45, 46, 13] tm _ hz hoff
         simp only [List.foldl, List.setIfInBounds_toArray, List.set_cons_zero, List.set_cons_succ, hv'] at htm
         clear hz hoff
         generalize tm.getD 32 undef = pa0, tm.getD 33 undef = pa1, tm.getD 34 undef = pa2, tm.getD 35 undef = pa3, tm.getD 36 undef = pa4, tm.getD 37 undef = pa5, tm.getD 38 undef = pa6, tm.getD 39 undef = pa7, tm.getD 40 undef = pa8, tm.getD 41 undef = pa9, tm.getD 42 undef = pa10, tm.getD 43 undef = pa11, tm.getD 44 undef = pa12, tm.getD 45 undef = pa13, tm.getD 46 undef = pa14 at htm
         clear hv'
         subst htm
         replace BG := BG.below hBz (by omega)
         replace BS := BS.below hBz (by omega)
         replace BR := BR.below hBz (by omega)
         replace HB := HB.trans (hBz.mono (by omega))
         clear hT hBc hg hob hgd hvb HM HO c0 c1 c2 c3 c4 hcc hBz hput
         go_wp2
         go_roundw
         case rel => exact ⟨c + 1, _, _, _, rfl, by omega, by go_num, BG, BS, BR, hown, HKN.out, HB⟩
         case measure => simp [intOf]; omega
       · obtain rfl : c = 4 := by omega
         obtain ⟨gk, ck, rfl, hgk1, hgk2, _, _⟩ := ownQ_form HO (by omega)
         have m0 := BG.c 0 rfl; have m1 := BG.c 1 rfl; have m2 := BG.c 2 rfl; have m3 := BG.c 3 rfl; have m4 := BG.c 4 rfl; have y0 := BG.f 0 rfl; have y1 := BG.f 1 rfl; have y2 := BG.f 2 rfl; have y3 := BG.f 3 rfl; have y4 := BG.f 4 rfl
         have B0N : Blk (wr.setCell ⟨w.heap.size, 3, none⟩ (.slice (some ⟨gk, 0, none⟩) 4 ck)) w.heap.size [.int .i64 x, .int .i64 y, .int .i64 s, .slice (some ⟨gk, 0, none⟩) 4 ck, .slice eo 0 ec] := BG.setI 3 (by simp) _
         have B2N : Blk (wr.setCell ⟨w.heap.size, 3, none⟩ (.slice (some ⟨gk, 0, none⟩) 4 ck)) (w.heap.size + 2) [.int .i64 0, .int .i64 0, .int .i64 0, .slice none 0 0, .slice none 0 0] := BR.keep (by simp [World.setCell]) (Below.heap_setCell _ _ _ _ (by show w.heap.size + 2 ≠ w.heap.size; omega))
         have HBN : Below w.heap.size w (wr.setCell ⟨w.heap.size, 3, none⟩ (.slice (some ⟨gk, 0, none⟩) 4 ck)) := HB.setCell (Nat.le_refl _) _
         have hne0 : ∀ b, b ≠ w.heap.size → (wr.setCell ⟨w.heap.size, 3, none⟩ (.slice (some ⟨gk, 0, none⟩) 4 ck)).heap[b]? = wr.heap[b]? := fun b hb => Below.heap_setCell _ _ _ _ hb
         have hsS : wr.heap.size ≤ (wr.setCell ⟨w.heap.size, 3, none⟩ (.slice (some ⟨gk, 0, none⟩) 4 ck)).heap.size := by simp [World.setCell]
         have MN : Hid (MTr (fun b => (ok b ∧ b < w.heap.size) ∨ w.heap.size + 2 < b) (wr.setCell ⟨w.heap.size, 3, none⟩ (.slice (some ⟨gk, 0, none⟩) 4 ck)) (.node TK) x y s (.slice (some ⟨gk, 0, none⟩) 4 ck) (.slice eo 0 ec)) := by
           refine MTr.node_of (kv' := kvf) (ev' := evf) (base := w.heap.size + 3) (fun b hb => .inr (by omega)) ?_ ?_ (fun k hk4 => ?_)
           · exact (HE.out.keep (w' := wr) (ok' := fun b => ok b ∧ b < w.heap.size) HB.size (fun b _ hb => HB.block b hb) (fun b h h2 => ⟨h, h2⟩)).keep hsS (fun b hb _ => hne0 b (by omega)) (fun b hb _ => .inl hb)
           · rw [HHF.out]; exact ownQ_heap HO (fun b hb => hne0 b (by have := (HO.lt b hb).1; omega))
           · rw [HHF.out]
             exact MTr.keep hsS (fun b hb _ => hne0 b (by rcases hb with hb | hb <;> omega)) (fun b hb _ => hb.elim .inl (fun h => .inr h.1)) (HM k hk4)
         go_upto_region 10 with fail
         clear m0 m1 m2 m3 m4 y0 y1 y2 y3 y4 BG BR BS HO HM HB hsS hne0
         generalize (wr.setCell ⟨w.heap.size, 3, none⟩ (.slice (some ⟨gk, 0, none⟩) 4 ck)) = W9 at *
         have m0 := B0N.c 0 rfl; have m1 := B0N.c 1 rfl; have m2 := B0N.c 2 rfl; have m3 := B0N.c 3 rfl; have m4 := B0N.c 4 rfl; have y0 := B2N.f 0 rfl; have y1 := B2N.f 1 rfl; have y2 := B2N.f 2 rfl; have y3 := B2N.f 3 rfl; have y4 := B2N.f 4 rfl; have z0 := B2N.c 0 rfl; have z1 := B2N.c 1 rfl; have z2 := B2N.c 2 rfl; have z3 := B2N.c 3 rfl; have z4 := B2N.c 4 rfl
         have BF := set5_blk B2N (.int .i64 x) (.int .i64 y) (.int .i64 s) (.slice (some ⟨gk, 0, none⟩) 4 ck) (.slice eo 0 ec)
         have HF := set5_below HBN (show w.heap.size ≤ w.heap.size + 2 by omega) (.int .i64 x) (.int .i64 y) (.int .i64 s) (.slice (some ⟨gk, 0, none⟩) 4 ck) (.slice eo 0 ec)
         have MF : Hid (MTr (fun b => ok b ∨ w.heap.size ≤ b) (((((W9.setCell ⟨w.heap.size + 2, 0, none⟩ (.int .i64 x)).setCell ⟨w.heap.size + 2, 1, none⟩ (.int .i64 y)).setCell ⟨w.heap.size + 2, 2, none⟩ (.int .i64 s)).setCell ⟨w.heap.size + 2, 3, none⟩ (.slice (some ⟨gk, 0, none⟩) 4 ck)).setCell ⟨w.heap.size + 2, 4, none⟩ (.slice eo 0 ec)) (.node TK) x y s (.slice (some ⟨gk, 0, none⟩) 4 ck) (.slice eo 0 ec)) := MTr.keep (by simp [World.setCell]) (fun b hb _ => set5_heap (by show b ≠ w.heap.size + 2; rcases hb with hb | hb <;> omega)) (fun b hb _ => hb.elim (fun h => .inl h.1) (fun h => .inr (by omega))) MN.out
         clear MN
         go_wp2
         have r0 := BF.out.c 0 rfl; have r1 := BF.out.c 1 rfl; have r2 := BF.out.c 2 rfl; have r3 := BF.out.c 3 rfl; have r4 := BF.out.c 4 rfl
         refine bodyPost_ret (v := .agg #[.int .i64 x, .int .i64 y, .int .i64 s, .slice (some ⟨gk, 0, none⟩) 4 ck, .slice eo 0 ec]) (by simp [results, Try.results30, go_sem, r0, r1, r2, r3, r4]) rfl ?_
         exact ⟨_, _, _, _, _, _, rfl, MF.out, HF⟩
inductive AT where
 | leaf (g : Nat)
 | node (g A kc : Nat) (K : Nat → AT)
theorem Try.infoPtrQ : (Try.prog.info? 78).map (fun i => (i.zero, i.size, i.bytes)) = some (some (.pointer none), 1, 8) := by kernel_rfl
theorem info_ptrQ : ∃ i0, Try.prog.info? 78 = some i0 ∧ i0.zero = some (.pointer none) ∧ i0.size = 1 ∧ i0.bytes = 8 := by
 obtain ⟨i, hi, hz⟩ := Option.map_eq_some_iff.1 Try.infoPtrQ
 simp only [Prod.mk.injEq] at hz
 exact ⟨i, hi, hz.1, hz.2.1, hz.2.2⟩
def LeavesP (ok : Nat → Prop) (L : List LQ) (w : World) (r : Ending) (w' : World) : Prop := ∃ v ps, r = .returned v ∧ w'.ownsRow w.heap.size 78 1 v ps.length (ptL ps) ∧ LvP ok w ps L ∧ Below w.heap.size w w'
set_option maxRecDepth 100000 in
set_option maxHeartbeats 8000000 in
theorem leaves_any (t : QT) : ∀ (ok : Nat → Prop) (x y s lv : Int) (g : Nat) (w : World), nlT t ≤ 1048576 → PTr ok w t x y s lv g → Calls Try.prog 52 #[.pointer (some ⟨g, 0, none⟩)] w (LeavesP ok (lvs t x y s lv) w) := by
 obtain ⟨i0, hi, hz0, hz1, hz2⟩ := info_ptrQ
 have q := fun (w : World) (a : Option Addr) (n c n' c' : Nat) => Lib.run_eql_slice_nil (P := Try.prog) w _ _ a n c n' c' Try.underlying96
 induction t with
 | leaf l =>
   intro ok x y s lv g w hn hP
   obtain ⟨hg, iv, B0, hI⟩ := hP
   have c5 := B0.c 5 rfl
   have B1 : Blk (w.alloc (.cells #[.pointer (some ⟨g, 0, none⟩)] 78)) w.heap.size [.pointer (some ⟨g, 0, none⟩)] := Blk.new w [.pointer (some ⟨g, 0, none⟩)] 78 rfl
   go_enter Try.func52, Try.ntmps52
   go_wp2
   go_ret
   refine ⟨_, [g], rfl, ?_, ⟨⟨hg, iv, B0, hI⟩, trivial⟩, (Below.refl _ _).alloc (Nat.le_refl _) _⟩
   exact ⟨rfl, .inr ⟨w.heap.size, 1, #[.pointer (some ⟨g, 0, none⟩)], rfl, Nat.le_refl _, heap_alloc_new w _, Nat.le_refl _, by unfold maxLen; omega, rfl, rfl⟩⟩
 | node K ih =>
   intro ok x y s lv g w hn hP
   obtain ⟨hg, A, kc, gs, B0, hA, hoA, hk⟩ := hP
   have HK : Hid (∀ k, k < 4 → w.cell? ⟨A, k, none⟩ = some (.pointer (some ⟨gs k, 0, none⟩)) ∧ PTr ok w (K k) (kX x (s / 2) k) (kY y (s / 2) k) (s / 2) (lv + 1) (gs k)) := hk
   have hnn : nlT (K 0) + nlT (K 1) + nlT (K 2) + nlT (K 3) ≤ 1048576 := hn
   have HLEN : Hid (∀ k, k < 4 → (cat4 (fun k => lvs (K k) (kX x (s / 2) k) (kY y (s / 2) k) (s / 2) (lv + 1)) k).length + nlT (K k) ≤ 1048576) := fun k hk4 => by
     have e := cat4_len (fun k => lvs (K k) (kX x (s / 2) k) (kY y (s / 2) k) (s / 2) (lv + 1)) hk4
     simp only [lvs_len] at e
     omega
   clear hk hnn
   have c5 := B0.c 5 rfl
   go_enter Try.func52, Try.ntmps52
   go_wp2_with fail
   go_loopw [3, 18] (fun out i wr => ∃ (k : Nat) (ps : List Nat), k ≤ 4 ∧ i = .int .i64 k ∧ wr.ownsRow w.heap.size 78 1 out ps.length (ptL ps) ∧ LvP ok w ps (cat4 (fun k => lvs (K k) (kX x (s / 2) k) (kY y (s / 2) k) (s / 2) (lv + 1)) k) ∧ Below w.heap.size w wr) (fun _ i _ => 4 - (intOf i).toNat)
   case atStart => exact ⟨0, [], by omega, rfl, World.ownsRow_nil _ _ _ _, trivial, Below.refl _ _⟩
   case round =>
     obtain ⟨k, ps, hk, rfl, HO, hL, HB⟩ := hrel
     by_cases hk4 : k < 4
     · have hkI : (k : Int) < 4 := by omega
       obtain ⟨ck, hPk⟩ := HK.out k hk4
       have hlen := HLEN.out k hk4
       have C := ih k (fun b => ok b ∧ b < w.heap.size) (kX x (s / 2) k) (kY y (s / 2) k) (s / 2) (lv + 1) (gs k) wr (by omega) (PTr.keep HB.size (fun b _ hb => HB.block b hb) (fun _ h h2 => ⟨h, h2⟩) hPk)
       have cw := (HB.cell (p := ⟨A, k, none⟩) hA).trans ck
       go_wp2_with fail
       refine C.mono ?_
       rintro r w1 ⟨v2, ps2, rfl, HO2, hL2, hB1⟩
       have el2 := hL2.len
       rw [lvs_len] at el2
       have hp2 := nl_pos (K k)
       have ekl := hL.len
       have hpp : ps.length + ps2.length ≤ 1048576 := by omega
       have hp0 : 0 < ps2.length := by omega
       clear el2 ekl hp2
       obtain ⟨g2, c2, rfl, h21, h22, h23, h24⟩ := ownQ_form HO2 (by omega)
       have HO1 := ownA_step HO hB1
       have HB1 := HB.trans (hB1.mono HB.size)
       have hkeep : Hid (LvP ok w ps2 (lvs (K k) (kX x (s / 2) k) (kY y (s / 2) k) (s / 2) (lv + 1))) := hL2.swap (fun b hb => ⟨hb.2, (HB.block b hb.2).symm, hb.1⟩)
       clear HO hB1 HB C cw
       go_wp2_with (at_builtin; go_loud (refine wpList_append_own_at _ rfl _ _ 96 rfl w.heap.size 78 i0 (.pointer none) 1 8 Try.underlying96 hi hz0 hz1 hz2 rfl (by decide) _ _ _ rfl HO1 ⟨g2, 0, none⟩ ps2.length c2 (ptL ps2) rfl (by rw [ptL_len]; omega) (HO2.cells rfl) (ptL_one ps2) (by unfold maxLen; omega) (by omega) HB1.size ?_))
       intro v' w' hown hgrow _ _
       rw [← ptL_app] at hown
       have HBN := HB1.grown hgrow HB1.size (fun k hk => (HO1.lt k hk).1)
       clear HO1 HO2 HB1 hgrow
       go_wp2
       go_roundw
       case rel => exact ⟨k + 1, ps ++ ps2, by omega, by go_num, by rw [List.length_append]; exact hown, hL.app hkeep.out, HBN⟩
       case measure => simp [intOf]; omega
     · obtain rfl : k = 4 := by omega
       go_wp2
       go_ret
       exact ⟨_, ps, rfl, HO, hL, HB⟩
theorem putLeaf {Q : QD} {j : Nat} {mx D : Int} {l : List Int} {x y s : Int} : putT Q j mx (.leaf l) D x y s = if hitQ Q x y s j = true then (if ((canL Q x y s).length : Int) ≤ mx ∨ D < 1 then .leaf (canL Q x y s) else .node (fun k => .leaf (canL Q (kX x (s / 2) k) (kY y (s / 2) k) (s / 2)))) else .leaf l := rfl
theorem dpT_le : ∀ (d : Nat) (t : QT), dpB d t → dpT t ≤ d
 | _, .leaf _, _ => Nat.zero_le _
 | 0, .node _, h => h.elim
 | d + 1, .node K, h => by
   have h0 := dpT_le d (K 0) (h 0 (by omega)); have h1 := dpT_le d (K 1) (h 1 (by omega)); have h2 := dpT_le d (K 2) (h 2 (by omega)); have h3 := dpT_le d (K 3) (h 3 (by omega))
   unfold dpT
   omega
theorem catW_le {f : Nat → List WB} {n : Nat} (h : ∀ k, k < 4 → (f k).length ≤ n) : (catW f 4).length ≤ 4 * n := by
 have h0 := h 0 (by omega); have h1 := h 1 (by omega); have h2 := h 2 (by omega); have h3 := h 3 (by omega)
 simp only [catW, List.length_append, List.length_nil]
 omega
def wbM : Nat → Nat
 | 0 => 1
 | d + 1 => 1 + 4 * wbM d
theorem wrT_le : ∀ (d : Nat) (t : QT) (x y s : Int), dpT t ≤ d → (wrT t x y s).length ≤ wbM d
 | 0, .leaf _, _, _, _, _ => Nat.le_refl _
 | d + 1, .leaf _, _, _, _, _ => by show 1 ≤ 1 + _; omega
 | 0, .node K, _, _, _, h => by unfold dpT at h; omega
 | d + 1, .node K, x, y, s, h => by
   have hk : ∀ k, k < 4 → dpT (K k) ≤ d := fun k hk => by
     unfold dpT at h
     rcases (show k = 0 ∨ k = 1 ∨ k = 2 ∨ k = 3 by omega) with e | e | e | e <;> subst e <;> omega
   have h1 := catW_le (f := fun k => wrT (K k) (kX x (s / 2) k) (kY y (s / 2) k) (s / 2)) (n := wbM d) (fun k hk4 => wrT_le d (K k) _ _ _ (hk k hk4))
   show _ + 1 ≤ 1 + 4 * wbM d
   omega
theorem putT_dp (Q : QD) (j : Nat) (mx : Int) : ∀ (t : QT) (d : Nat) (x y s : Int), dpT t ≤ d → dpT (putT Q j mx t (d : Int) x y s) ≤ d
 | .leaf l, d, x, y, s, h => by
   unfold putT
   split
   · split
     · exact Nat.zero_le _
     · rename_i h1
       show max (max (max (0 + 1) (0 + 1)) (0 + 1)) (0 + 1) ≤ d
       omega
   · exact h
 | .node K, d, x, y, s, h => by
   cases hh : hitQ Q x y s j with
   | false => rw [putT_miss hh]; exact h
   | true =>
     have hk : ∀ k, k < 4 → dpT (K k) + 1 ≤ d := fun k hk => by
       unfold dpT at h
       rcases (show k = 0 ∨ k = 1 ∨ k = 2 ∨ k = 3 by omega) with e | e | e | e <;> subst e <;> omega
     obtain ⟨e, rfl⟩ : ∃ e, d = e + 1 := ⟨d - 1, by have := hk 0 (by omega); omega⟩
     rw [putT_hit hh, show ((e + 1 : Nat) : Int) - 1 = (e : Int) by omega]
     have h0 := putT_dp Q j mx (K 0) e (kX x (s / 2) 0) (kY y (s / 2) 0) (s / 2) (by have := hk 0 (by omega); omega)
     have h1 := putT_dp Q j mx (K 1) e (kX x (s / 2) 1) (kY y (s / 2) 1) (s / 2) (by have := hk 1 (by omega); omega)
     have h2 := putT_dp Q j mx (K 2) e (kX x (s / 2) 2) (kY y (s / 2) 2) (s / 2) (by have := hk 2 (by omega); omega)
     have h3 := putT_dp Q j mx (K 3) e (kX x (s / 2) 3) (kY y (s / 2) 3) (s / 2) (by have := hk 3 (by omega); omega)
     show max (max (max (dpT (putT Q j mx (K 0) (e : Int) (kX x (s / 2) 0) (kY y (s / 2) 0) (s / 2)) + 1) (dpT (putT Q j mx (K 1) (e : Int) (kX x (s / 2) 1) (kY y (s / 2) 1) (s / 2)) + 1)) (dpT (putT Q j mx (K 2) (e : Int) (kX x (s / 2) 2) (kY y (s / 2) 2) (s / 2)) + 1)) (dpT (putT Q j mx (K 3) (e : Int) (kX x (s / 2) 3) (kY y (s / 2) 3) (s / 2)) + 1) ≤ e + 1
     omega
def plcJ (Q : QD) (id : Int) (j : Nat) : Prop := j ≤ Q.m ∧ (∀ i, i < j → Q.I i < id) ∧ ∀ i, j ≤ i → i < Q.m → id < Q.I i
theorem insQ_rise {Q : QD} {id : Int} {sg : Int × Int × Int × Int} {j : Nat} (hr : riseI Q) (h : plcJ Q id j) : riseI (insQ Q j id sg) := fun i h0 hi => by
 obtain ⟨a1, a2, a3⟩ := h
 have hi' : i < Q.m + 1 := hi
 rcases Nat.lt_trichotomy i j with h1 | h1 | h1
 · rw [(insQ_lt (Q := Q) (id := id) (sg := sg) (show i - 1 < j by omega)).1, (insQ_lt (Q := Q) (id := id) (sg := sg) h1).1]
   exact hr i h0 (by omega)
 · subst h1
   rw [(insQ_lt (Q := Q) (id := id) (sg := sg) (show i - 1 < i by omega)).1, (insQ_at Q i id sg).1]
   exact a2 _ (by omega)
 · obtain ⟨e, rfl⟩ : ∃ e, i = e + 1 := ⟨i - 1, by omega⟩
   rw [(insQ_gt (Q := Q) (id := id) (sg := sg) (show j ≤ e by omega)).1, Nat.add_sub_cancel]
   rcases (show e = j ∨ j < e by omega) with h2 | h2
   · subst h2
     rw [(insQ_at Q e id sg).1]
     exact a3 _ (Nat.le_refl _) (by omega)
   · obtain ⟨f, rfl⟩ : ∃ f, e = f + 1 := ⟨e - 1, by omega⟩
     rw [(insQ_gt (Q := Q) (id := id) (sg := sg) (show j ≤ f by omega)).1]
     exact hr (f + 1) (by omega) (by omega)
theorem insQ_its6 {Q : QD} {id : Int} {sg : Int × Int × Int × Int} {j : Nat} (h6 : Its6 Q (List.range Q.m)) (hs : In6 sg.1 ∧ In6 sg.2.1 ∧ In6 sg.2.2.1 ∧ In6 sg.2.2.2) (hj : j ≤ Q.m) : Its6 (insQ Q j id sg) (List.range (Q.m + 1)) := fun i hi => by
 have hi := List.mem_range.1 hi
 rcases Nat.lt_trichotomy i j with h1 | h1 | h1
 · rw [(insQ_lt (Q := Q) (id := id) (sg := sg) h1).2]
   exact h6 i (List.mem_range.2 (by omega))
 · subst h1
   rw [(insQ_at Q i id sg).2]
   exact hs
 · obtain ⟨e, rfl⟩ : ∃ e, i = e + 1 := ⟨i - 1, by omega⟩
   rw [(insQ_gt (Q := Q) (id := id) (sg := sg) (show j ≤ e by omega)).2]
   exact h6 e (List.mem_range.2 (by omega))
theorem insQ_can {Q : QD} {id : Int} {sg : Int × Int × Int × Int} {j : Nat} (h : plcJ Q id j) (x y s : Int) (hh : hitQ (insQ Q j id sg) x y s j = true) : ∃ A B, canL Q x y s = A ++ B ∧ canL (insQ Q j id sg) x y s = A ++ (insQ Q j id sg).I j :: B ∧ (∀ u ∈ A, u < (insQ Q j id sg).I j) ∧ (∀ u ∈ B, (insQ Q j id sg).I j < u) := by
 obtain ⟨A, B, e1, e2, e3, e4⟩ := canL_ins h.1 id sg x y s
 have hn : newH sg x y s = true := by
   unfold hitQ at hh
   rw [(insQ_at Q j id sg).2] at hh
   exact hh
 rw [if_pos hn] at e2
 rw [(insQ_at Q j id sg).1]
 refine ⟨A, B, e1, e2, fun u hu => ?_, fun u hu => ?_⟩
 · rw [e3] at hu
   obtain ⟨i, h1, rfl⟩ := canP_mem hu
   exact h.2.1 i h1
 · rw [e4] at hu
   obtain ⟨i, h1, h2, rfl⟩ := canR_mem hu
   exact h.2.2 i h1 (by have := h.1; omega)
theorem it5_eq {Q Q' : QD} {i k : Nat} (h : Q'.I k = Q.I i ∧ Q'.S k = Q.S i) : it5 Q' k = it5 Q i := by
 unfold it5
 rw [h.1, h.2]
theorem itCs_more (Q : QD) (c : Nat) : itCs Q (List.range (c + 1)) = itCs Q (List.range c) ++ it5 Q c := by rw [List.range_succ, itCs_app]
theorem itCs_ins {Q : QD} {id : Int} {sg : Int × Int × Int × Int} {j : Nat} : ∀ c, c ≤ j → itCs (insQ Q j id sg) (List.range c) = itCs Q (List.range c)
 | 0, _ => rfl
 | c + 1, h => by rw [itCs_more, itCs_more, itCs_ins c (by omega), it5_eq (insQ_lt (by omega))]
theorem itCs_put {Q : QD} {id : Int} {sg : Int × Int × Int × Int} (j : Nat) : itCs (insQ Q j id sg) (List.range (j + 1)) = itCs Q (List.range j) ++ [.int .i64 id, .int .i64 sg.1, .int .i64 sg.2.1, .int .i64 sg.2.2.1, .int .i64 sg.2.2.2] := by
 rw [itCs_more, itCs_ins j (Nat.le_refl _)]
 unfold it5
 rw [(insQ_at Q j id sg).1, (insQ_at Q j id sg).2]
theorem itCs_gt {Q : QD} {id : Int} {sg : Int × Int × Int × Int} {j c : Nat} (h : j ≤ c) : itCs (insQ Q j id sg) (List.range (c + 1 + 1)) = itCs (insQ Q j id sg) (List.range (c + 1)) ++ it5 Q c := by
 rw [itCs_more, it5_eq (insQ_gt h)]
end Go.Proofs.Ytjhapeidafbncaa
