/- Part 12 of the walks that the proof leans on. -/
import Derived.Test.YtjhapeidafbncaaPart11
import Derived.Test.YtjhapeidafbncaaPart4
import Derived.Test.YtjhapeidafbncaaPart1
import Derived.Deep.QuietTactic
import Derived.Test.YtjhapeidafbncaaPart7
namespace Go.Proofs.Ytjhapeidafbncaa
open Go.RowKit
theorem canL_len (Q : QD) (x y s : Int) : (canL Q x y s).length ≤ Q.m := by
 unfold canL idL flQ
 rw [List.length_map]
 exact Nat.le_trans (List.length_filter_le _ _) (by simp)
def okN (ok : Nat → Prop) (P : Nat) (v : Value) (b : Nat) : Prop := (ok b ∧ b < P) ∨ (P + 2 < b ∧ some b ≠ v.ownBlock)
theorem putT_hit {Q : QD} {j : Nat} {mx D x y s : Int} {K : Nat → QT} (h : hitQ Q x y s j = true) : putT Q j mx (.node K) D x y s = .node (fun k => putT Q j mx (K k) (D - 1) (kX x (s / 2) k) (kY y (s / 2) k) (s / 2)) := by
 rw [putT, if_pos h]
set_option maxRecDepth 100000 in
set_option maxHeartbeats 16000000 in
theorem l13Put_any (Q0 Q : QD) (j : Nat) (mx : Int) (ao : Option Addr) (cap : Nat) (hj : j < Q.m) (hQm : Q.m ≤ 1048576) (h6 : Its6 Q (List.range Q.m)) (hri : riseI Q) (hL : ∀ x y s, hitQ Q x y s j = true → ∃ A B, canL Q0 x y s = A ++ B ∧ canL Q x y s = A ++ Q.I j :: B ∧ (∀ u ∈ A, u < Q.I j) ∧ (∀ u ∈ B, Q.I j < u)) (t : QT) : ∀ (D x y s : Int) (ok : Nat → Prop) (kv ev : Value) (w : World), Sq x y s → (dpT t : Int) ≤ D → D ≤ 8 → rtT Q0 t x y s = true → MTr ok w t x y s kv ev → ItIn Q w ao (List.range Q.m) → Calls Try.prog 30 #[.agg #[.int .i64 x, .int .i64 y, .int .i64 s, kv, ev], .slice ao Q.m cap, .int .i64 (Q.I j), Sg (Q.S j).1 (Q.S j).2.1 (Q.S j).2.2.1 (Q.S j).2.2.2, .int .i64 mx, .int .i64 D] w (PuM ok (putT Q j mx t D x y s) x y s w) := by
 obtain ⟨s1, s2, s3, s4⟩ := h6 j (List.mem_range.2 hj)
 obtain ⟨i0, hi0, hz0, hz1, hz2⟩ := info_b13
 have miss : ∀ (t : QT) (D x y s : Int) (ok : Nat → Prop) (kv ev : Value) (w : World), Sq x y s → hitQ Q x y s j = false → MTr ok w t x y s kv ev → Calls Try.prog 30 #[.agg #[.int .i64 x, .int .i64 y, .int .i64 s, kv, ev], .slice ao Q.m cap, .int .i64 (Q.I j), Sg (Q.S j).1 (Q.S j).2.1 (Q.S j).2.2.1 (Q.S j).2.2.2, .int .i64 mx, .int .i64 D] w (PuM ok (putT Q j mx t D x y s) x y s w) := fun t D x y s ok kv ev w hq hh hM => by
   rw [putT_miss hh]
   obtain ⟨ko, kn, kc, eo, en, ec, rfl, rfl⟩ := hM.vals
   refine (l13Put_miss x y s mx D (Q.I j) _ _ _ _ ao ko eo Q.m cap kn kc en ec hq s1 s2 s3 s4 hh w).mono ?_
   rintro r w' ⟨rfl, hB⟩
   exact ⟨_, _, _, _, _, _, rfl, MTr.keep hB.size (fun b _ hb => hB.block b hb) (fun _ h _ => .inl h) hM, hB⟩
 induction t with
 | leaf l =>
   intro D x y s ok kv ev w hq hdp hD8 hr hM hS
   cases hh : hitQ Q x y s j with
   | false => exact miss _ D x y s ok kv ev w hq hh hM
   | true =>
     obtain ⟨rfl, eo, ec, rfl, hN, hn0, hok⟩ := hM
     obtain rfl : l = canL Q0 x y s := of_decide_eq_true hr
     obtain ⟨A, B, e1, e2, hA, hB⟩ := hL x y s hh
     have hlen : (A ++ Q.I j :: B).length ≤ 1048576 := by rw [← e2]; exact Nat.le_trans (canL_len Q x y s) hQm
     by_cases hst : ((A ++ Q.I j :: B).length : Int) ≤ mx ∨ D < 1
     · have hp : putT Q j mx (.leaf (canL Q0 x y s)) D x y s = .leaf (canL Q x y s) := by rw [putT, if_pos hh, if_pos (by rw [e2]; exact hst)]
       rw [hp]
       have C := l13Put_stay x y s mx D (Q.I j) _ _ _ _ ao eo Q.m cap ec A B hq s1 s2 s3 s4 hh hlen hA hB w (by rw [← e1]; exact hN) hst
       rw [← e1] at C
       refine C.mono ?_
       rintro r w' ⟨ev, rfl, hI, hB'⟩
       rw [← e2] at hI
       have hI2 := hI
       obtain ⟨eo1, ec1, rfl, _⟩ := hI2
       exact ⟨none, 0, 0, eo1, _, ec1, rfl, ⟨rfl, hI.keep (Nat.le_refl _) (fun _ _ _ => rfl) (fun _ h _ => .inr h)⟩, hB'⟩
     · have hp : putT Q j mx (.leaf (canL Q0 x y s)) D x y s = .node (fun k => .leaf (canL Q (kX x (s / 2) k) (kY y (s / 2) k) (s / 2))) := by rw [putT, if_pos hh, if_neg (by rw [e2]; exact hst)]
       rw [hp]
       have C := l13Put_split Q x y s mx D (Q.I j) _ _ _ _ ao eo cap ec A B hq s1 s2 s3 s4 hh hlen hA hB w (by rw [← e1]; exact hN) e2.symm hQm h6 hri hS (fun h => hst (.inl h)) (fun h => hst (.inr h))
       rw [← e1] at C
       refine C.mono ?_
       rintro r w' ⟨ko, kn, kc, eo1, en1, ec1, rfl, hM1, hB'⟩
       exact ⟨_, _, _, _, _, _, rfl, MTr.keep (Nat.le_refl _) (fun _ _ _ => rfl) (fun b h _ => h.elim (fun e => e.elim) .inr) hM1, hB'⟩
 | node K ih =>
   intro D x y s ok kv ev w hq hdp hD8 hr hM hS
   cases hh : hitQ Q x y s j with
   | false => exact miss _ D x y s ok kv ev w hq hh hM
   | true =>
     rw [putT_hit hh]
     obtain ⟨hE, A, kc, rfl, hA, hoA, hk⟩ := hM
     have HE : Hid (IdV ok w ev []) := hE
     obtain ⟨eo, ec, rfl, _⟩ := hE
     have hdk : ∀ c, c < 4 → (dpT (K c) : Int) ≤ D - 1 := fun c hc => by
       unfold dpT at hdp
       rcases (show c = 0 ∨ c = 1 ∨ c = 2 ∨ c = 3 by omega) with h | h | h | h <;> subst h <;> omega
     have hD1 : 1 ≤ D := by have := hdk 0 (by omega); omega
     have hrk : ∀ c, c < 4 → rtT Q0 (K c) (kX x (s / 2) c) (kY y (s / 2) c) (s / 2) = true := fun c hc => (List.all_eq_true.1 hr) c (List.mem_range.2 hc)
     have HH : Hid (hitB (Q.S j).1 (Q.S j).2.1 (Q.S j).2.2.1 (Q.S j).2.2.2 x y (x + s) (y + s) = true) := hh
     obtain ⟨hf, hhf⟩ : ∃ hf, s / 2 = hf := ⟨_, rfl⟩
     have HHF : Hid (s / 2 = hf) := hhf
     rw [hhf] at hk hrk ⊢
     obtain ⟨TK, hTK⟩ : ∃ TK : Nat → QT, (fun k => putT Q j mx (K k) (D - 1) (kX x hf k) (kY y hf k) hf) = TK := ⟨_, rfl⟩
     have HTK : Hid ((fun k => putT Q j mx (K k) (D - 1) (kX x hf k) (kY y hf k) hf) = TK) := hTK
     rw [hTK]
     have HK : Hid (∀ k, k < 4 → ∃ kv' ev', w.cell? ⟨A, k * 5, none⟩ = some (.int .i64 (kX x hf k)) ∧ w.cell? ⟨A, k * 5 + 1, none⟩ = some (.int .i64 (kY y hf k)) ∧ w.cell? ⟨A, k * 5 + 2, none⟩ = some (.int .i64 hf) ∧ w.cell? ⟨A, k * 5 + 3, none⟩ = some kv' ∧ w.cell? ⟨A, k * 5 + 4, none⟩ = some ev' ∧ MTr ok w (K k) (kX x hf k) (kY y hf k) hf kv' ev') := hk
     have HS : Hid (ItIn Q w ao (List.range Q.m)) := hS
     have HDK : Hid (∀ c, c < 4 → (dpT (K c) : Int) ≤ D - 1) := hdk
     have HRK : Hid (∀ c, c < 4 → rtT Q0 (K c) (kX x hf c) (kY y hf c) hf = true) := hrk
     change Calls _ _ #[.agg #[.int .i64 x, .int .i64 y, .int .i64 s, .slice (some ⟨A, 0, none⟩) 4 kc, .slice eo 0 ec], _, _, _, _, _] _ _
     clear hhf hTK hk hS hdk hrk hh hdp hr miss hL
     have B0 : Blk (((w.alloc (.cells #[.int .i64 x, .int .i64 y, .int .i64 s, .slice (some ⟨A, 0, none⟩) 4 kc, .slice eo 0 ec] 64)).alloc (.cells #[.int .i64 (Q.S j).1, .int .i64 (Q.S j).2.1, .int .i64 (Q.S j).2.2.1, .int .i64 (Q.S j).2.2.2] 40)).alloc (.cells #[.int .i64 0, .int .i64 0, .int .i64 0, .slice none 0 0, .slice none 0 0] 64)) w.heap.size [.int .i64 x, .int .i64 y, .int .i64 s, .slice (some ⟨A, 0, none⟩) 4 kc, .slice eo 0 ec] := ((Blk.new w [.int .i64 x, .int .i64 y, .int .i64 s, .slice (some ⟨A, 0, none⟩) 4 kc, .slice eo 0 ec] 64 rfl).alloc _).alloc _
     have B1 : Blk (((w.alloc (.cells #[.int .i64 x, .int .i64 y, .int .i64 s, .slice (some ⟨A, 0, none⟩) 4 kc, .slice eo 0 ec] 64)).alloc (.cells #[.int .i64 (Q.S j).1, .int .i64 (Q.S j).2.1, .int .i64 (Q.S j).2.2.1, .int .i64 (Q.S j).2.2.2] 40)).alloc (.cells #[.int .i64 0, .int .i64 0, .int .i64 0, .slice none 0 0, .slice none 0 0] 64)) (w.heap.size + 1) [.int .i64 (Q.S j).1, .int .i64 (Q.S j).2.1, .int .i64 (Q.S j).2.2.1, .int .i64 (Q.S j).2.2.2] := (Blk.new (w.alloc (.cells #[.int .i64 x, .int .i64 y, .int .i64 s, .slice (some ⟨A, 0, none⟩) 4 kc, .slice eo 0 ec] 64)) [.int .i64 (Q.S j).1, .int .i64 (Q.S j).2.1, .int .i64 (Q.S j).2.2.1, .int .i64 (Q.S j).2.2.2] 40 (by simp)).alloc _
     have B2 : Blk (((w.alloc (.cells #[.int .i64 x, .int .i64 y, .int .i64 s, .slice (some ⟨A, 0, none⟩) 4 kc, .slice eo 0 ec] 64)).alloc (.cells #[.int .i64 (Q.S j).1, .int .i64 (Q.S j).2.1, .int .i64 (Q.S j).2.2.1, .int .i64 (Q.S j).2.2.2] 40)).alloc (.cells #[.int .i64 0, .int .i64 0, .int .i64 0, .slice none 0 0, .slice none 0 0] 64)) (w.heap.size + 2) [.int .i64 0, .int .i64 0, .int .i64 0, .slice none 0 0, .slice none 0 0] := Blk.new ((w.alloc (.cells #[.int .i64 x, .int .i64 y, .int .i64 s, .slice (some ⟨A, 0, none⟩) 4 kc, .slice eo 0 ec] 64)).alloc (.cells #[.int .i64 (Q.S j).1, .int .i64 (Q.S j).2.1, .int .i64 (Q.S j).2.2.1, .int .i64 (Q.S j).2.2.2] 40)) [.int .i64 0, .int .i64 0, .int .i64 0, .slice none 0 0, .slice none 0 0] 64 (by simp)
     have HB : Below w.heap.size w (((w.alloc (.cells #[.int .i64 x, .int .i64 y, .int .i64 s, .slice (some ⟨A, 0, none⟩) 4 kc, .slice eo 0 ec] 64)).alloc (.cells #[.int .i64 (Q.S j).1, .int .i64 (Q.S j).2.1, .int .i64 (Q.S j).2.2.1, .int .i64 (Q.S j).2.2.2] 40)).alloc (.cells #[.int .i64 0, .int .i64 0, .int .i64 0, .slice none 0 0, .slice none 0 0] 64)) := (((Below.refl _ w).alloc (Nat.le_refl _) _).alloc (by simp) _).alloc (by simp; omega) _
     go_enter Try.func30, Try.ntmps30
     go_upto_region 1 with fail
     generalize (((w.alloc (.cells #[.int .i64 x, .int .i64 y, .int .i64 s, .slice (some ⟨A, 0, none⟩) 4 kc, .slice eo 0 ec] 64)).alloc (.cells #[.int .i64 (Q.S j).1, .int .i64 (Q.S j).2.1, .int .i64 (Q.S j).2.2.1, .int .i64 (Q.S j).2.2.2] 40)).alloc (.cells #[.int .i64 0, .int .i64 0, .int .i64 0, .slice none 0 0, .slice none 0 0] 64)) = W1 at *
     have m0 := B0.c 0 rfl; have m1 := B0.c 1 rfl; have m2 := B0.c 2 rfl; have m3 := B0.c 3 rfl; have m4 := B0.c 4 rfl; have n0 := B1.c 0 rfl; have n1 := B1.c 1 rfl; have n2 := B1.c 2 rfl; have n3 := B1.c 3 rfl
     go_wp2_with fail
     refine (l13Meets_any x y s (some ⟨A, 0, none⟩) eo 4 kc 0 ec _ _ _ _ hq s1 s2 s3 s4 W1).mono ?_
     rintro r w1 ⟨rfl, hB1⟩
     rw [HH.out]
     clear m0 m1 m2 m3 m4 n0 n1 n2 n3
     replace B0 := B0.step hB1
     replace B1 := B1.step hB1
     replace B2 := B2.step hB1
     replace HB := HB.trans (hB1.mono HB.size)
     have hsz : w.heap.size + 2 < w1.heap.size := B2.lt
     have m3 := B0.c 3 rfl
     clear hB1
     go_upto_region 5 with fail
     have HO0 : (w1.alloc (.cells #[] 64)).ownsRow (w.heap.size + 3) 64 5 (.slice (some ⟨w1.heap.size, 0, none⟩) 0 0) 0 [] := ownQ_mono2 (World.ownsRow_made w1 #[] 0 (Nat.le_refl _) (by decide) rfl) (by omega)
     replace B0 := B0.alloc (.cells #[] 64)
     replace B1 := B1.alloc (.cells #[] 64)
     replace B2 := B2.alloc (.cells #[] 64)
     replace HB := HB.alloc (by omega) (.cells #[] 64)
     generalize (w1.alloc (.cells #[] 64)) = W3 at *
     clear m3
     go_wp2_with fail
     go_loopw [13, 14] (fun v ic wr => ∃ (c : Nat) (kvf evf : Nat → Value) (vv : Value), vv = v ∧ c ≤ 4 ∧ ic = .int .i64 c ∧ Blk wr w.heap.size [.int .i64 x, .int .i64 y, .int .i64 s, .slice (some ⟨A, 0, none⟩) 4 kc, .slice eo 0 ec] ∧ Blk wr (w.heap.size + 1) [.int .i64 (Q.S j).1, .int .i64 (Q.S j).2.1, .int .i64 (Q.S j).2.2.1, .int .i64 (Q.S j).2.2.2] ∧ Blk wr (w.heap.size + 2) [.int .i64 0, .int .i64 0, .int .i64 0, .slice none 0 0, .slice none 0 0] ∧ wr.ownsRow (w.heap.size + 3) 64 5 vv c (kdL x y hf kvf evf c) ∧ (∀ i, i < c → MTr (okN ok w.heap.size (vv)) wr (TK i) (kX x hf i) (kY y hf i) hf (kvf i) (evf i)) ∧ Below w.heap.size w wr) (fun _ i _ => 4 - (intOf i).toNat)
     case atStart => exact ⟨0, fun _ => .slice none 0 0, fun _ => .slice none 0 0, _, rfl, by omega, rfl, B0, B1, B2, HO0, fun i hi => absurd hi (by omega), HB⟩
     case round =>
       clear B0 B1 B2 HO0 HB
       obtain ⟨c, kvf, evf, vv, rfl, hc, rfl, BG, BS, BR, HO, HM, HB⟩ := hrel
       have hPl : w.heap.size + 2 < wr.heap.size := BR.lt
       by_cases hc4 : c < 4
       · have hcI : (c : Int) < 4 := by omega
         obtain ⟨kv', ev', c0, c1, c2, c3, c4, hMk⟩ := HK.out c hc4
         obtain ⟨ko, kn, kc', eo', en', ec', rfl, rfl⟩ := hMk.vals
         have hsq := hq.kid hc4
         rw [HHF.out] at hsq
         have hM2 : MTr (fun b => ok b ∧ b < w.heap.size) wr.drew (K c) (kX x hf c) (kY y hf c) hf (.slice ko kn kc') (.slice eo' en' ec') := MTr.keep (w' := wr.drew) (ok' := fun b => ok b ∧ b < w.heap.size) HB.size (fun b _ hb => HB.block b hb) (fun b h h2 => ⟨h, h2⟩) hMk
         have C := ih c (D - 1) (kX x hf c) (kY y hf c) hf (fun b => ok b ∧ b < w.heap.size) _ _ wr.drew hsq (HDK.out c hc4) (by omega) (HRK.out c hc4) hM2 (HS.out.step HB.drew)
         have hput : Calls Try.prog 30 #[.agg #[.int .i64 (kX x hf c), .int .i64 (kY y hf c), .int .i64 hf, .slice ko kn kc', .slice eo' en' ec'], .slice ao Q.m cap, .int .i64 (Q.I j), Sg (Q.S j).1 (Q.S j).2.1 (Q.S j).2.2.1 (Q.S j).2.2.2, .int .i64 mx, .int .i64 (D - 1)] wr.drew (fun r W2 => ∃ ko1 kn1 kc1 eo1 en1 ec1, r = .returned (.agg #[.int .i64 (kX x hf c), .int .i64 (kY y hf c), .int .i64 hf, .slice ko1 kn1 kc1, .slice eo1 en1 ec1]) ∧ MTr (fun b => (ok b ∧ b < w.heap.size) ∨ wr.heap.size ≤ b) W2 (TK c) (kX x hf c) (kY y hf c) hf (.slice ko1 kn1 kc1) (.slice eo1 en1 ec1) ∧ Below wr.drew.heap.size wr.drew W2) := C.mono (by
           rintro r W2 ⟨ko1, kn1, kc1, eo1, en1, ec1, h1, h2, h3⟩
           exact ⟨ko1, kn1, kc1, eo1, en1, ec1, h1, by rw [← HTK.out]; exact h2, h3⟩)
         have hcc : ∀ i, wr.cell? ⟨A, i, none⟩ = w.cell? ⟨A, i, none⟩ := fun i => HB.cell (p := ⟨A, i, none⟩) hA
         clear C ih hM2 hMk
         go_upto_region 8 with fail
         refine qp8 (i0 := i0) (P := w.heap.size) (Sb := w.heap.size + 1) (A := A) (kk := kc) (m := Q.m) (cap := cap) (base := w.heap.size + 3) (c := c) (kn := kn) (kc := kc') (en := en') (ec := ec') (ao := ao) (ko := ko) (eo := eo') (x := kX x hf c) (y := kY y hf c) (sz := hf) (z := Q.I j) (most := mx) (D := D) (a := (Q.S j).1) (bb := (Q.S j).2.1) (cc := (Q.S j).2.2.1) (d := (Q.S j).2.2.2) (o := vv) (Lk := kdL x y hf kvf evf c) (TT := fun k1 e1 W => MTr (fun b => (ok b ∧ b < w.heap.size) ∨ wr.heap.size ≤ b) W (TK c) (kX x hf c) (kY y hf c) hf k1 e1) (Wd := wr.drew) hi0 hz0 hz1 hz2 hc4 hD1 hD8 (by omega) (ownA_step HO ((Below.refl _ wr).drew)) hput rfl rfl rfl rfl rfl rfl rfl rfl rfl (BG.c 3 rfl) (by show w.heap.size < w.heap.size + 3; omega) (BS.c 0 rfl) (by show w.heap.size + 1 < w.heap.size + 3; omega) (BS.c 1 rfl) (by show w.heap.size + 1 < w.heap.size + 3; omega) (BS.c 2 rfl) (by show w.heap.size + 1 < w.heap.size + 3; omega) (BS.c 3 rfl) (by show w.heap.size + 1 < w.heap.size + 3; omega) ((hcc _).trans c0) (by show A < w.heap.size + 3; omega) ((hcc _).trans c1) (by show A < w.heap.size + 3; omega) ((hcc _).trans c2) (by show A < w.heap.size + 3; omega) ((hcc _).trans c3) (by show A < w.heap.size + 3; omega) ((hcc _).trans c4) (by show A < w.heap.size + 3; omega) rfl ?_
         rintro ⟨tm, df⟩ Wz hz hdf hoff _ hBz ⟨Wc, ko1, kn1, kc1, eo1, en1, ec1, hT, hBc, hg, hown, hob⟩
         simp only at hz hdf hoff hown hob
         subst hdf
         obtain ⟨ao', cap', hv'⟩ := ownQ_slice hown
         rw [hv'] at hown hob
         have hgd : ∀ b, b < wr.heap.size → some b ≠ vv.ownBlock → Wz.heap[b]? = wr.heap[b]? := fun b hb hne => (hg.block b (Nat.lt_of_lt_of_le hb hBc.size) hne).trans (hBc.block b hb)
         have hvb : ∀ b, vv.ownBlock = some b → w.heap.size + 3 ≤ b ∧ b < wr.heap.size := fun b hb => HO.lt b hb
         have hWc : wr.heap.size ≤ Wc.heap.size := hBc.size
         have hWz : Wc.heap.size ≤ Wz.heap.size := hg.size
         have HKN : Hid (∀ i, i < c + 1 → MTr (okN ok w.heap.size (.slice ao' (c + 1) cap')) Wz (TK i) (kX x hf i) (kY y hf i) hf (setV kvf c (.slice ko1 kn1 kc1) i) (setV evf c (.slice eo1 en1 ec1) i)) := fun i hi => by
           by_cases e2 : i = c
           · subst e2
             rw [show setV kvf i (.slice ko1 kn1 kc1) i = .slice ko1 kn1 kc1 from if_pos rfl, show setV evf i (.slice eo1 en1 ec1) i = .slice eo1 en1 ec1 from if_pos rfl]
             refine MTr.keep hWz (fun b hb hb2 => hg.block b hb2 (fun e3 => ?_)) (fun b hb hb2 => ?_) hT
             · have := hvb b e3.symm
               rcases hb with hb | hb <;> omega
             · rcases hb with hb | hb
               · exact .inl hb
               · refine .inr ⟨by omega, fun e3 => ?_⟩
                 rcases hob with h | h
                 · rw [h] at e3; have := hvb b e3.symm; omega
                 · rw [h] at e3; have := Option.some.inj e3; omega
           · rw [show setV kvf c (.slice ko1 kn1 kc1) i = kvf i from if_neg e2, show setV evf c (.slice eo1 en1 ec1) i = evf i from if_neg e2]
             refine MTr.keep (by omega) (fun b hb hb2 => hgd b hb2 (fun e3 => ?_)) (fun b hb hb2 => ?_) (HM i (by omega))
             · rcases hb with hb | hb
               · have := hvb b e3.symm; omega
               · exact hb.2 e3
             · rcases hb with hb | hb
               · exact .inl hb
               · refine .inr ⟨hb.1, fun e3 => ?_⟩
                 rcases hob with h | h
                 · rw [h] at e3; exact hb.2 e3
                 · rw [h] at e3; have := Option.some.inj e3; omega
         rw [← kdL_set] at hown
         have htm := tmps_fold [32, 33, 34, 35, 36, 37, 38, 39, 40, 41, 42, 43, 44, 45, 46, 13] tm _ hz hoff
         simp only [List.foldl, List.setIfInBounds_toArray, List.set_cons_zero, List.set_cons_succ, hv'] at htm
         clear hz hoff
         generalize tm.getD 32 undef = pa0, tm.getD 33 undef = pa1, tm.getD 34 undef = pa2, tm.getD 35 undef = pa3, tm.getD 36 undef = pa4, tm.getD 37 undef = pa5, tm.getD 38 undef = pa6, tm.getD 39 undef = pa7, tm.getD 40 undef = pa8, tm.getD 41 undef = pa9, tm.getD 42 undef = pa10, tm.getD 43 undef = pa11, tm.getD 44 undef = pa12, tm.getD 45 undef = pa13, tm.getD 46 undef = pa14 at htm
         clear hv'
         subst htm
         replace BG := BG.below hBz (by omega)
         replace BS := BS.below hBz (by omega)
         replace BR := BR.below hBz (by omega)
         replace HB := HB.trans (hBz.mono (by omega))
         clear hT hBc hg hob hgd hvb HM HO c0 c1 c2 c3 c4 hcc hBz hput
         go_wp2
         go_roundw
         case rel => exact ⟨c + 1, _, _, _, rfl, by omega, by go_num, BG, BS, BR, hown, HKN.out, HB⟩
         case measure => simp [intOf]; omega
       · obtain rfl : c = 4 := by omega
         obtain ⟨gk, ck, rfl, hgk1, hgk2, _, _⟩ := ownQ_form HO (by omega)
         have m0 := BG.c 0 rfl; have m1 := BG.c 1 rfl; have m2 := BG.c 2 rfl; have m3 := BG.c 3 rfl; have m4 := BG.c 4 rfl; have y0 := BG.f 0 rfl; have y1 := BG.f 1 rfl; have y2 := BG.f 2 rfl; have y3 := BG.f 3 rfl; have y4 := BG.f 4 rfl
         have B0N : Blk (wr.setCell ⟨w.heap.size, 3, none⟩ (.slice (some ⟨gk, 0, none⟩) 4 ck)) w.heap.size [.int .i64 x, .int .i64 y, .int .i64 s, .slice (some ⟨gk, 0, none⟩) 4 ck, .slice eo 0 ec] := BG.setI 3 (by simp) _
         have B2N : Blk (wr.setCell ⟨w.heap.size, 3, none⟩ (.slice (some ⟨gk, 0, none⟩) 4 ck)) (w.heap.size + 2) [.int .i64 0, .int .i64 0, .int .i64 0, .slice none 0 0, .slice none 0 0] := BR.keep (by simp [World.setCell]) (Below.heap_setCell _ _ _ _ (by show w.heap.size + 2 ≠ w.heap.size; omega))
         have HBN : Below w.heap.size w (wr.setCell ⟨w.heap.size, 3, none⟩ (.slice (some ⟨gk, 0, none⟩) 4 ck)) := HB.setCell (Nat.le_refl _) _
         have hne0 : ∀ b, b ≠ w.heap.size → (wr.setCell ⟨w.heap.size, 3, none⟩ (.slice (some ⟨gk, 0, none⟩) 4 ck)).heap[b]? = wr.heap[b]? := fun b hb => Below.heap_setCell _ _ _ _ hb
         have hsS : wr.heap.size ≤ (wr.setCell ⟨w.heap.size, 3, none⟩ (.slice (some ⟨gk, 0, none⟩) 4 ck)).heap.size := by simp [World.setCell]
         have MN : Hid (MTr (fun b => (ok b ∧ b < w.heap.size) ∨ w.heap.size + 2 < b) (wr.setCell ⟨w.heap.size, 3, none⟩ (.slice (some ⟨gk, 0, none⟩) 4 ck)) (.node TK) x y s (.slice (some ⟨gk, 0, none⟩) 4 ck) (.slice eo 0 ec)) := by
           refine MTr.node_of (kv' := kvf) (ev' := evf) (base := w.heap.size + 3) (fun b hb => .inr (by omega)) ?_ ?_ (fun k hk4 => ?_)
           · exact (HE.out.keep (w' := wr) (ok' := fun b => ok b ∧ b < w.heap.size) HB.size (fun b _ hb => HB.block b hb) (fun b h h2 => ⟨h, h2⟩)).keep hsS (fun b hb _ => hne0 b (by omega)) (fun b hb _ => .inl hb)
           · rw [HHF.out]; exact ownQ_heap HO (fun b hb => hne0 b (by have := (HO.lt b hb).1; omega))
           · rw [HHF.out]
             exact MTr.keep hsS (fun b hb _ => hne0 b (by rcases hb with hb | hb <;> omega)) (fun b hb _ => hb.elim .inl (fun h => .inr h.1)) (HM k hk4)
         go_upto_region 10 with fail
         clear m0 m1 m2 m3 m4 y0 y1 y2 y3 y4 BG BR BS HO HM HB hsS hne0
         generalize (wr.setCell ⟨w.heap.size, 3, none⟩ (.slice (some ⟨gk, 0, none⟩) 4 ck)) = W9 at *
         have m0 := B0N.c 0 rfl; have m1 := B0N.c 1 rfl; have m2 := B0N.c 2 rfl; have m3 := B0N.c 3 rfl; have m4 := B0N.c 4 rfl; have y0 := B2N.f 0 rfl; have y1 := B2N.f 1 rfl; have y2 := B2N.f 2 rfl; have y3 := B2N.f 3 rfl; have y4 := B2N.f 4 rfl; have z0 := B2N.c 0 rfl; have z1 := B2N.c 1 rfl; have z2 := B2N.c 2 rfl; have z3 := B2N.c 3 rfl; have z4 := B2N.c 4 rfl
         have BF := set5_blk B2N (.int .i64 x) (.int .i64 y) (.int .i64 s) (.slice (some ⟨gk, 0, none⟩) 4 ck) (.slice eo 0 ec)
         have HF := set5_below HBN (show w.heap.size ≤ w.heap.size + 2 by omega) (.int .i64 x) (.int .i64 y) (.int .i64 s) (.slice (some ⟨gk, 0, none⟩) 4 ck) (.slice eo 0 ec)
         have MF : Hid (MTr (fun b => ok b ∨ w.heap.size ≤ b) (((((W9.setCell ⟨w.heap.size + 2, 0, none⟩ (.int .i64 x)).setCell ⟨w.heap.size + 2, 1, none⟩ (.int .i64 y)).setCell ⟨w.heap.size + 2, 2, none⟩ (.int .i64 s)).setCell ⟨w.heap.size + 2, 3, none⟩ (.slice (some ⟨gk, 0, none⟩) 4 ck)).setCell ⟨w.heap.size + 2, 4, none⟩ (.slice eo 0 ec)) (.node TK) x y s (.slice (some ⟨gk, 0, none⟩) 4 ck) (.slice eo 0 ec)) := MTr.keep (by simp [World.setCell]) (fun b hb _ => set5_heap (by show b ≠ w.heap.size + 2; rcases hb with hb | hb <;> omega)) (fun b hb _ => hb.elim (fun h => .inl h.1) (fun h => .inr (by omega))) MN.out
         clear MN
         go_wp2
         have r0 := BF.out.c 0 rfl; have r1 := BF.out.c 1 rfl; have r2 := BF.out.c 2 rfl; have r3 := BF.out.c 3 rfl; have r4 := BF.out.c 4 rfl
         refine bodyPost_ret (v := .agg #[.int .i64 x, .int .i64 y, .int .i64 s, .slice (some ⟨gk, 0, none⟩) 4 ck, .slice eo 0 ec]) (by simp [results, Try.results30, go_sem, r0, r1, r2, r3, r4]) rfl ?_
         exact ⟨_, _, _, _, _, _, rfl, MF.out, HF⟩
inductive AT where
 | leaf (g : Nat)
 | node (g A kc : Nat) (K : Nat → AT)
def raT : AT → Nat
 | .leaf g => g
 | .node g _ _ _ => g
def LfIn : AT → Nat → Prop
 | .leaf g, p => p = g
 | .node _ _ _ K, p => ∃ k, k < 4 ∧ LfIn (K k) p
def inB : AT → Nat → Prop
 | .leaf _, _ => False
 | .node g A _ K, b => b = g ∨ b = A ∨ ∃ k, k < 4 ∧ inB (K k) b
def fpT (okf : Nat → Nat → Prop) : AT → Nat → Prop
 | .leaf g, b => okf g b
 | .node g A _ K, b => b = g ∨ b = A ∨ ∃ k, k < 4 ∧ fpT okf (K k) b
def ApT (okf : Nat → Nat → Prop) : AT → Prop
 | .leaf _ => True
 | .node g A _ K => A ≠ g ∧ (∀ k b, k < 4 → fpT okf (K k) b → b ≠ g ∧ b ≠ A) ∧ (∀ i j b, i < 4 → j < 4 → i ≠ j → fpT okf (K i) b → ¬ fpT okf (K j) b) ∧ ∀ k, k < 4 → ApT okf (K k)
def catP (f : Nat → List (Nat × LQ)) : Nat → List (Nat × LQ)
 | 0 => []
 | k + 1 => catP f k ++ f k
def lpT : QT → AT → Int → Int → Int → Int → List (Nat × LQ)
 | .leaf l, .leaf g, x, y, s, lv => [(g, ⟨x, y, s, lv, l⟩)]
 | .node K, .node _ _ _ Ka, x, y, s, lv => catP (fun k => lpT (K k) (Ka k) (kX x (s / 2) k) (kY y (s / 2) k) (s / 2) (lv + 1)) 4
 | _, _, _, _, _, _ => []
def SkT (w : World) : QT → AT → Int → Int → Int → Int → Prop
 | .leaf _, .leaf _, _, _, _, _ => True
 | .node K, .node g A kc Ka, x, y, s, lv => BkB w g x y s lv (.slice none 0 0) (.slice (some ⟨A, 0, none⟩) 4 kc) ∧ A < w.heap.size ∧ ∀ k, k < 4 → w.cell? ⟨A, k, none⟩ = some (.pointer (some ⟨raT (Ka k), 0, none⟩)) ∧ SkT w (K k) (Ka k) (kX x (s / 2) k) (kY y (s / 2) k) (s / 2) (lv + 1)
 | _, _, _, _, _, _ => False
theorem fp_lf {okf : Nat → Nat → Prop} : ∀ {a : AT} {p b : Nat}, LfIn a p → okf p b → fpT okf a b
 | .leaf _, _, _, h, hb => by cases h; exact hb
 | .node _ _ _ K, _, _, ⟨k, hk, h⟩, hb => .inr (.inr ⟨k, hk, fp_lf (a := K k) h hb⟩)
theorem fp_in {okf : Nat → Nat → Prop} : ∀ {a : AT} {b : Nat}, inB a b → fpT okf a b
 | .leaf _, _, h => h.elim
 | .node _ _ _ K, _, h => by
   rcases h with h | h | ⟨k, hk, h⟩
   · exact .inl h
   · exact .inr (.inl h)
   · exact .inr (.inr ⟨k, hk, fp_in (a := K k) h⟩)
theorem fp_upd {okf : Nat → Nat → Prop} {c : Nat} {N : Nat → Prop} : ∀ {a : AT} {b : Nat}, fpT (fun p b => okf p b ∨ (p = c ∧ N b)) a b → fpT okf a b ∨ (LfIn a c ∧ N b)
 | .leaf g, b, h => by
   rcases h with h | ⟨h1, h2⟩
   · exact .inl h
   · exact .inr ⟨h1.symm, h2⟩
 | .node _ _ _ K, b, h => by
   rcases h with h | h | ⟨k, hk, h⟩
   · exact .inl (.inl h)
   · exact .inl (.inr (.inl h))
   · rcases fp_upd (a := K k) h with h | ⟨h1, h2⟩
     · exact .inl (.inr (.inr ⟨k, hk, h⟩))
     · exact .inr ⟨⟨k, hk, h1⟩, h2⟩
theorem ApT.upd {okf : Nat → Nat → Prop} {c : Nat} {N : Nat → Prop} (hc : okf c c) : ∀ {a : AT}, ApT okf a → (∀ b, N b → ¬ fpT okf a b) → ApT (fun p b => okf p b ∨ (p = c ∧ N b)) a
 | .leaf _, _, _ => trivial
 | .node g A kc K, ⟨h1, h2, h3, h4⟩, hN => by
   refine ⟨h1, fun k b hk hb => ?_, fun i j b hi hj hij hb hb2 => ?_, fun k hk => ApT.upd hc (a := K k) (h4 k hk) (fun b hb h => hN b hb (.inr (.inr ⟨k, hk, h⟩)))⟩
   · rcases fp_upd hb with h | ⟨_, h⟩
     · exact h2 k b hk h
     · exact ⟨fun e => hN b h (.inl e), fun e => hN b h (.inr (.inl e))⟩
   · rcases fp_upd hb with h | ⟨h5, h⟩
     · rcases fp_upd hb2 with h' | ⟨_, h'⟩
       · exact h3 i j b hi hj hij h h'
       · exact hN b h' (.inr (.inr ⟨i, hi, h⟩))
     · rcases fp_upd hb2 with h' | ⟨h6, _⟩
       · exact hN b h (.inr (.inr ⟨j, hj, h'⟩))
       · exact h3 i j c hi hj hij (fp_lf h5 hc) (fp_lf h6 hc)
theorem ApT.apart {okf : Nat → Nat → Prop} : ∀ {a : AT} {p c b : Nat}, ApT okf a → LfIn a p → LfIn a c → p ≠ c → okf p b → ¬ okf c b
 | .leaf _, _, _, _, _, h1, h2, hne, _ => absurd (h1.trans h2.symm) hne
 | .node g A kc K, p, c, b, ⟨_, _, h3, h4⟩, ⟨i, hi, h5⟩, ⟨j, hj, h6⟩, hne, hp => fun hc => by
   by_cases e : i = j
   · subst e
     exact ApT.apart (a := K i) (h4 i hi) h5 h6 hne hp hc
   · exact h3 i j b hi hj e (fp_lf h5 hp) (fp_lf h6 hc)
theorem ApT.inner {okf : Nat → Nat → Prop} : ∀ {a : AT} {b c : Nat}, ApT okf a → inB a b → LfIn a c → ¬ okf c b
 | .leaf _, _, _, _, h, _ => h.elim
 | .node g A kc K, b, c, ⟨_, h2, h3, h4⟩, hb, ⟨j, hj, h6⟩ => fun hc => by
   rcases hb with h | h | ⟨i, hi, h⟩
   · exact (h2 j b hj (fp_lf h6 hc)).1 h
   · exact (h2 j b hj (fp_lf h6 hc)).2 h
   · by_cases e : i = j
     · subst e
       exact ApT.inner (a := K i) (h4 i hi) h h6 hc
     · exact h3 i j b hi hj e (fp_in h) (fp_lf h6 hc)
theorem SkT.keep {w w' : World} (hs : w.heap.size ≤ w'.heap.size) : ∀ {t : QT} {a : AT} {x y s lv : Int}, SkT w t a x y s lv → (∀ b, inB a b → w'.heap[b]? = w.heap[b]?) → SkT w' t a x y s lv
 | .leaf _, .leaf _, _, _, _, _, _, _ => trivial
 | .leaf _, .node .., _, _, _, _, h, _ => h.elim
 | .node _, .leaf _, _, _, _, _, h, _ => h.elim
 | .node K, .node g A kc Ka, x, y, s, lv, ⟨h1, h2, h3⟩, hk => by
   refine ⟨h1.keep hs (hk g (.inl rfl)), Nat.lt_of_lt_of_le h2 hs, fun k hk4 => ?_⟩
   obtain ⟨c0, h4⟩ := h3 k hk4
   exact ⟨(World.cell?_of_block (w := w) (a := ⟨A, k, none⟩) (hk A (.inr (.inl rfl)))).trans c0, SkT.keep hs (t := K k) (a := Ka k) h4 (fun b hb => hk b (.inr (.inr ⟨k, hk4, hb⟩)))⟩
theorem mem_catP {f : Nat → List (Nat × LQ)} {z : Nat × LQ} : ∀ {n}, z ∈ catP f n ↔ ∃ k, k < n ∧ z ∈ f k
 | 0 => by simp [catP]
 | n + 1 => by
   rw [catP, List.mem_append, mem_catP]
   constructor
   · rintro (⟨k, h1, h2⟩ | h)
     · exact ⟨k, by omega, h2⟩
     · exact ⟨n, by omega, h⟩
   · rintro ⟨k, h1, h2⟩
     rcases Nat.lt_or_ge k n with h | h
     · exact .inl ⟨k, h, h2⟩
     · obtain rfl : k = n := by omega
       exact .inr h2
theorem lp_lf : ∀ {t : QT} {a : AT} {x y s lv : Int} {z : Nat × LQ}, z ∈ lpT t a x y s lv → LfIn a z.1
 | .leaf _, .leaf _, _, _, _, _, z, h => by
   simp only [lpT, List.mem_singleton] at h
   subst h
   rfl
 | .leaf _, .node .., _, _, _, _, z, h => by simp [lpT] at h
 | .node _, .leaf _, _, _, _, _, z, h => by simp [lpT] at h
 | .node K, .node g A kc Ka, x, y, s, lv, z, h => by
   simp only [lpT] at h
   obtain ⟨k, hk, h1⟩ := mem_catP.1 h
   exact ⟨k, hk, lp_lf (t := K k) (a := Ka k) h1⟩
theorem nodup_catP {f : Nat → List (Nat × LQ)} {n : Nat} (h1 : ∀ k, k < n → ((f k).map Prod.fst).Nodup) (h2 : ∀ i j z z', i < n → j < n → i ≠ j → z ∈ f i → z' ∈ f j → z.1 ≠ z'.1) : ((catP f n).map Prod.fst).Nodup := by
 induction n with
 | zero => simp [catP]
 | succ n ih =>
   rw [catP, List.map_append, List.nodup_append]
   refine ⟨ih (fun k hk => h1 k (by omega)) (fun i j z z' hi hj => h2 i j z z' (by omega) (by omega)), h1 n (by omega), fun a ha b hb => ?_⟩
   obtain ⟨z, hz, rfl⟩ := List.mem_map.1 ha
   obtain ⟨z', hz', rfl⟩ := List.mem_map.1 hb
   obtain ⟨k, hk, hz⟩ := mem_catP.1 hz
   exact h2 k n z z' (by omega) (by omega) (by omega) hz hz'
theorem lp_nodup {okf : Nat → Nat → Prop} : ∀ {t : QT} {a : AT} {x y s lv : Int}, ApT okf a → (∀ p, LfIn a p → okf p p) → ((lpT t a x y s lv).map Prod.fst).Nodup
 | .leaf _, .leaf _, _, _, _, _, _, _ => by simp [lpT]
 | .leaf _, .node .., _, _, _, _, _, _ => by simp [lpT]
 | .node _, .leaf _, _, _, _, _, _, _ => by simp [lpT]
 | .node K, .node g A kc Ka, x, y, s, lv, ⟨_, _, h3, h4⟩, hs => by
   simp only [lpT]
   refine nodup_catP (fun k hk => lp_nodup (t := K k) (a := Ka k) (h4 k hk) (fun p hp => hs p ⟨k, hk, hp⟩)) (fun i j z z' hi hj hij hz hz' e => ?_)
   have l1 := lp_lf hz
   have l2 := lp_lf hz'
   rw [← e] at l2
   exact h3 i j z.1 hi hj hij (fp_lf l1 (hs _ ⟨i, hi, l1⟩)) (fp_lf l2 (hs _ ⟨i, hi, l1⟩))
def okW (w : World) (p b : Nat) : Prop := b = p ∨ ∃ v, w.cell? ⟨p, 4, none⟩ = some v ∧ v.ownBlock = some b
theorem STr.apart {w : World} : ∀ {t : QT} {ok : Nat → Prop} {x y s lv : Int} {g : Nat}, STr ok w t x y s lv g → ∃ a, raT a = g ∧ SkT w t a x y s lv ∧ ApT (okW w) a ∧ (∀ b, fpT (okW w) a b → ok b) ∧ ∀ z ∈ lpT t a x y s lv, STr (okW w z.1) w (.leaf z.2.l) z.2.x z.2.y z.2.s z.2.lv z.1
 | .leaf l, ok, x, y, s, lv, g, h => by
   obtain ⟨h1, iv, h2, h3, h4⟩ := h
   have c4 := h2.c 4 rfl
   refine ⟨.leaf g, rfl, trivial, trivial, fun b hb => ?_, fun z hz => ?_⟩
   · rcases hb with hb | ⟨v, e1, e2⟩
     · subst hb; exact h1
     · rw [c4] at e1
       cases e1
       exact (h4 b e2).1
   · simp only [lpT, List.mem_singleton] at hz
     subst hz
     exact ⟨.inl rfl, iv, h2, h3, fun b e => ⟨.inr ⟨iv, c4, e⟩, (h4 b e).2⟩⟩
 | .node K, ok, x, y, s, lv, g, h => by
   obtain ⟨h1, A, kc, gs, oks, h2, hA, hoA, hAg, hin, hap, h3⟩ := h
   have hex : ∀ k, ∃ a, k < 4 → (raT a = gs k ∧ SkT w (K k) a (kX x (s / 2) k) (kY y (s / 2) k) (s / 2) (lv + 1) ∧ ApT (okW w) a ∧ (∀ b, fpT (okW w) a b → oks k b) ∧ ∀ z ∈ lpT (K k) a (kX x (s / 2) k) (kY y (s / 2) k) (s / 2) (lv + 1), STr (okW w z.1) w (.leaf z.2.l) z.2.x z.2.y z.2.s z.2.lv z.1) := fun k => by
     by_cases hk : k < 4
     · obtain ⟨a, ha⟩ := STr.apart (t := K k) (h3 k hk).2
       exact ⟨a, fun _ => ha⟩
     · exact ⟨.leaf 0, fun h => absurd h hk⟩
   obtain ⟨Ka, hKa⟩ := Classical.axiomOfChoice hex
   refine ⟨.node g A kc Ka, rfl, ⟨h2, hA, fun k hk => ⟨by rw [(hKa k hk).1]; exact (h3 k hk).1, (hKa k hk).2.1⟩⟩, ⟨hAg, fun k b hk hb => (hin k b hk ((hKa k hk).2.2.2.1 b hb)).2, fun i j b hi hj hij hb hb2 => hap i j b hi hj hij ((hKa i hi).2.2.2.1 b hb) ((hKa j hj).2.2.2.1 b hb2), fun k hk => (hKa k hk).2.2.1⟩, fun b hb => ?_, fun z hz => ?_⟩
   · rcases hb with hb | hb | ⟨k, hk, hb⟩
     · subst hb; exact h1
     · subst hb; exact hoA
     · exact (hin k b hk ((hKa k hk).2.2.2.1 b hb)).1
   · simp only [lpT] at hz
     obtain ⟨k, hk, hz⟩ := mem_catP.1 hz
     exact (hKa k hk).2.2.2.2 z hz
theorem STr.put {w : World} {okf : Nat → Nat → Prop} {Q : QD} {j : Nat} {mx D0 : Int} : ∀ {t : QT} {a : AT} {x y s lv : Int}, 0 ≤ s → SkT w t a x y s lv → ApT okf a → (∀ z ∈ lpT t a x y s lv, STr (okf z.1) w (putT Q j mx (.leaf z.2.l) (D0 - z.2.lv) z.2.x z.2.y z.2.s) z.2.x z.2.y z.2.s z.2.lv z.1) → STr (fpT okf a) w (putT Q j mx t (D0 - lv) x y s) x y s lv (raT a)
 | .leaf l, .leaf g, x, y, s, lv, _, _, _, hl => by
   have h := hl (g, ⟨x, y, s, lv, l⟩) (by simp [lpT])
   exact STr.keep (Nat.le_refl _) (fun _ _ _ => rfl) (fun b hb _ => hb) h
 | .leaf _, .node .., _, _, _, _, _, h, _, _ => h.elim
 | .node _, .leaf _, _, _, _, _, _, h, _, _ => h.elim
 | .node K, .node g A kc Ka, x, y, s, lv, hs, ⟨h1, h2, h3⟩, ⟨a1, a2, a3, a4⟩, hl => by
   have ih : ∀ k, k < 4 → STr (fpT okf (Ka k)) w (putT Q j mx (K k) (D0 - (lv + 1)) (kX x (s / 2) k) (kY y (s / 2) k) (s / 2)) (kX x (s / 2) k) (kY y (s / 2) k) (s / 2) (lv + 1) (raT (Ka k)) := fun k hk => STr.put (t := K k) (a := Ka k) (by omega) (h3 k hk).2 (a4 k hk) (fun z hz => hl z (by simp only [lpT]; exact mem_catP.2 ⟨k, hk, hz⟩))
   cases hh : hitQ Q x y s j with
   | true =>
     rw [putT_hit hh]
     refine ⟨.inl rfl, A, kc, fun k => raT (Ka k), fun k => fpT okf (Ka k), h1, h2, .inr (.inl rfl), a1, fun k b hk hb => ⟨.inr (.inr ⟨k, hk, hb⟩), a2 k b hk hb⟩, a3, fun k hk => ⟨(h3 k hk).1, ?_⟩⟩
     have h := ih k hk
     rw [show D0 - (lv + 1) = D0 - lv - 1 by omega] at h
     exact h
   | false =>
     rw [putT_miss hh]
     refine ⟨.inl rfl, A, kc, fun k => raT (Ka k), fun k => fpT okf (Ka k), h1, h2, .inr (.inl rfl), a1, fun k b hk hb => ⟨.inr (.inr ⟨k, hk, hb⟩), a2 k b hk hb⟩, a3, fun k hk => ⟨(h3 k hk).1, ?_⟩⟩
     have h := ih k hk
     rw [putT_miss (by cases h9 : hitQ Q (kX x (s / 2) k) (kY y (s / 2) k) (s / 2) j with | false => rfl | true => rw [hit_kid hs hk h9] at hh; cases hh)] at h
     exact h
theorem Try.infoPtrQ : (Try.prog.info? 78).map (fun i => (i.zero, i.size, i.bytes)) = some (some (.pointer none), 1, 8) := by kernel_rfl
theorem info_ptrQ : ∃ i0, Try.prog.info? 78 = some i0 ∧ i0.zero = some (.pointer none) ∧ i0.size = 1 ∧ i0.bytes = 8 := by
 obtain ⟨i, hi, hz⟩ := Option.map_eq_some_iff.1 Try.infoPtrQ
 simp only [Prod.mk.injEq] at hz
 exact ⟨i, hi, hz.1, hz.2.1, hz.2.2⟩
def fsL (L : List (Nat × LQ)) : List Nat := L.map Prod.fst
theorem lp_len {w : World} : ∀ {t : QT} {a : AT} {x y s lv : Int}, SkT w t a x y s lv → (lpT t a x y s lv).length = nlT t
 | .leaf _, .leaf _, _, _, _, _, _ => rfl
 | .leaf _, .node .., _, _, _, _, h => h.elim
 | .node _, .leaf _, _, _, _, _, h => h.elim
 | .node K, .node g A kc Ka, x, y, s, lv, ⟨_, _, h⟩ => by
   simp only [lpT, catP, List.nil_append, List.length_append]
   rw [lp_len (h 0 (by omega)).2, lp_len (h 1 (by omega)).2, lp_len (h 2 (by omega)).2, lp_len (h 3 (by omega)).2]
   rfl
theorem catP_len (f : Nat → List (Nat × LQ)) {k : Nat} (hk : k < 4) : (catP f k).length + (f k).length ≤ (f 0).length + (f 1).length + (f 2).length + (f 3).length := by
 rcases (show k = 0 ∨ k = 1 ∨ k = 2 ∨ k = 3 by omega) with h | h | h | h <;> subst h <;> simp [catP] <;> omega
theorem SkT.lt {w : World} : ∀ {t : QT} {a : AT} {x y s lv : Int}, SkT w t a x y s lv → ∀ c, inB a c → c < w.heap.size
 | .leaf _, .leaf _, _, _, _, _, _, _, hc => hc.elim
 | .leaf _, .node .., _, _, _, _, h, _, _ => h.elim
 | .node _, .leaf _, _, _, _, _, h, _, _ => h.elim
 | .node K, .node g A kc Ka, x, y, s, lv, ⟨h1, h2, h3⟩, c, hc => by
   rcases hc with h | h | ⟨k, hk, h⟩
   · subst h; exact h1.lt
   · subst h; exact h2
   · exact SkT.lt (t := K k) (a := Ka k) (h3 k hk).2 c h
theorem SkT.step {w w' : World} (hB : Below w.heap.size w w') {t : QT} {a : AT} {x y s lv : Int} (h : SkT w t a x y s lv) : SkT w' t a x y s lv := SkT.keep hB.size h (fun c hc => hB.block c (h.lt c hc))
set_option maxRecDepth 100000 in
set_option maxHeartbeats 8000000 in
theorem leavesS_any (t : QT) : ∀ (a : AT) (x y s lv : Int) (w : World), nlT t ≤ 1048576 → SkT w t a x y s lv → (∀ z ∈ lpT t a x y s lv, ∃ iv, BkB w z.1 z.2.x z.2.y z.2.s z.2.lv iv (.slice none 0 0)) → Calls Try.prog 52 #[.pointer (some ⟨raT a, 0, none⟩)] w (fun r w' => ∃ v, r = .returned v ∧ w'.ownsRow w.heap.size 78 1 v (lpT t a x y s lv).length (ptL (fsL (lpT t a x y s lv))) ∧ Below w.heap.size w w') := by
 obtain ⟨i0, hi, hz0, hz1, hz2⟩ := info_ptrQ
 have q := fun (w : World) (a : Option Addr) (n c n' c' : Nat) => Lib.run_eql_slice_nil (P := Try.prog) w _ _ a n c n' c' Try.underlying96
 induction t with
 | leaf l =>
   intro a x y s lv w hn hS hL
   cases a with
   | node g A kc Ka => exact hS.elim
   | leaf g =>
   obtain ⟨iv, B0⟩ := hL (g, ⟨x, y, s, lv, l⟩) (by simp [lpT])
   show Calls _ _ #[.pointer (some ⟨g, 0, none⟩)] _ _
   simp only at B0
   have c5 := B0.c 5 rfl
   have B1 : Blk (w.alloc (.cells #[.pointer (some ⟨g, 0, none⟩)] 78)) w.heap.size [.pointer (some ⟨g, 0, none⟩)] := Blk.new w [.pointer (some ⟨g, 0, none⟩)] 78 rfl
   clear hL hS
   go_enter Try.func52, Try.ntmps52
   go_wp2
   go_ret
   refine ⟨_, rfl, ?_, (Below.refl _ _).alloc (Nat.le_refl _) _⟩
   exact ⟨rfl, .inr ⟨w.heap.size, 1, #[.pointer (some ⟨g, 0, none⟩)], rfl, Nat.le_refl _, heap_alloc_new w _, Nat.le_refl _, by unfold maxLen; omega, rfl, rfl⟩⟩
 | node K ih =>
   intro a x y s lv w hn hS hL
   cases a with
   | leaf g => exact hS.elim
   | node g A kc Ka =>
   obtain ⟨B0, hA, hk⟩ := hS
   show Calls _ _ #[.pointer (some ⟨g, 0, none⟩)] _ _
   have HLEN : Hid (∀ k, k < 4 → (catP (fun k => lpT (K k) (Ka k) (kX x (s / 2) k) (kY y (s / 2) k) (s / 2) (lv + 1)) k).length + (lpT (K k) (Ka k) (kX x (s / 2) k) (kY y (s / 2) k) (s / 2) (lv + 1)).length ≤ 1048576) := fun k hk4 => by
     have e := catP_len (fun k => lpT (K k) (Ka k) (kX x (s / 2) k) (kY y (s / 2) k) (s / 2) (lv + 1)) hk4
     have e0 := lp_len (hk 0 (by omega)).2; have e1 := lp_len (hk 1 (by omega)).2; have e2 := lp_len (hk 2 (by omega)).2; have e3 := lp_len (hk 3 (by omega)).2
     have hnn : nlT (K 0) + nlT (K 1) + nlT (K 2) + nlT (K 3) ≤ 1048576 := hn
     simp only [e0, e1, e2, e3] at e
     omega
   have HPOS : Hid (∀ k, k < 4 → 0 < (lpT (K k) (Ka k) (kX x (s / 2) k) (kY y (s / 2) k) (s / 2) (lv + 1)).length ∧ nlT (K k) ≤ 1048576) := fun k hk4 => by
     have e := lp_len (hk k hk4).2
     have hp2 := nl_pos (K k)
     have h9 := HLEN.out k hk4
     rw [e] at h9 ⊢
     omega
   have HK : Hid (∀ k, k < 4 → w.cell? ⟨A, k, none⟩ = some (.pointer (some ⟨raT (Ka k), 0, none⟩)) ∧ SkT w (K k) (Ka k) (kX x (s / 2) k) (kY y (s / 2) k) (s / 2) (lv + 1)) := hk
   have HL : Hid (∀ k, k < 4 → ∀ z ∈ lpT (K k) (Ka k) (kX x (s / 2) k) (kY y (s / 2) k) (s / 2) (lv + 1), ∃ iv, BkB w z.1 z.2.x z.2.y z.2.s z.2.lv iv (.slice none 0 0)) := fun k hk4 z hz => hL z (by simp only [lpT]; exact mem_catP.2 ⟨k, hk4, hz⟩)
   have HF : Hid (lpT (.node K) (.node g A kc Ka) x y s lv = catP (fun k => lpT (K k) (Ka k) (kX x (s / 2) k) (kY y (s / 2) k) (s / 2) (lv + 1)) 4) := by show _ = _; simp only [lpT]
   clear hk hL hn
   obtain ⟨f, hf⟩ : ∃ f : Nat → List (Nat × LQ), (fun k => lpT (K k) (Ka k) (kX x (s / 2) k) (kY y (s / 2) k) (s / 2) (lv + 1)) = f := ⟨_, rfl⟩
   have hfk : ∀ k, lpT (K k) (Ka k) (kX x (s / 2) k) (kY y (s / 2) k) (s / 2) (lv + 1) = f k := fun k => congrFun hf k
   simp only [hfk] at HLEN HPOS HL HF
   have HFK : Hid (∀ k, lpT (K k) (Ka k) (kX x (s / 2) k) (kY y (s / 2) k) (s / 2) (lv + 1) = f k) := hfk
   rw [HF.out]
   clear hf hfk HF
   have c5 := B0.c 5 rfl
   go_enter Try.func52, Try.ntmps52
   go_wp2_with fail
   go_loopw [3, 18] (fun out i wr => ∃ (k : Nat), k ≤ 4 ∧ i = .int .i64 k ∧ wr.ownsRow w.heap.size 78 1 out (catP f k).length (ptL (fsL (catP f k))) ∧ Below w.heap.size w wr) (fun _ i _ => 4 - (intOf i).toNat)
   case atStart => exact ⟨0, by omega, rfl, World.ownsRow_nil _ _ _ _, Below.refl _ _⟩
   case round =>
     obtain ⟨k, hk, rfl, HO, HB⟩ := hrel
     by_cases hk4 : k < 4
     · have hkI : (k : Int) < 4 := by omega
       obtain ⟨ck, hSk⟩ := HK.out k hk4
       have hlen := HLEN.out k hk4
       obtain ⟨hp0, hnk⟩ := HPOS.out k hk4
       have C := ih k (Ka k) (kX x (s / 2) k) (kY y (s / 2) k) (s / 2) (lv + 1) wr hnk (SkT.step HB hSk) (fun z hz => by
         rw [HFK.out k] at hz
         obtain ⟨iv, B9⟩ := HL.out k hk4 z hz
         exact ⟨iv, B9.step HB⟩)
       rw [HFK.out k] at C
       have cw := (HB.cell (p := ⟨A, k, none⟩) hA).trans ck
       go_wp2_with fail
       refine C.mono ?_
       rintro r w1 ⟨v2, rfl, HO2, hB1⟩
       obtain ⟨n2, hn2⟩ : ∃ n2, (f k).length = n2 := ⟨_, rfl⟩
       obtain ⟨n1, hn1⟩ : ∃ n1, (catP f k).length = n1 := ⟨_, rfl⟩
       rw [hn2] at HO2 hlen hp0
       rw [hn1] at HO hlen
       have HN : Hid ((catP f (k + 1)).length = n1 + n2) := by show _ = _; rw [catP, List.length_append, hn1, hn2]
       have hl2 : (ptL (fsL (f k))).length = n2 := by rw [ptL_len]; unfold fsL; rw [List.length_map, hn2]
       clear hn1 hn2
       obtain ⟨g2, c2, rfl, h21, h22, h23, h24⟩ := ownQ_form HO2 (by omega)
       have HO1 := ownA_step HO hB1
       have HB1 := HB.trans (hB1.mono HB.size)
       clear HO hB1 HB C cw
       go_wp2_with (at_builtin; go_loud (refine wpList_append_own_at _ rfl _ _ 96 rfl w.heap.size 78 i0 (.pointer none) 1 8 Try.underlying96 hi hz0 hz1 hz2 rfl (by decide) _ _ _ rfl HO1 ⟨g2, 0, none⟩ n2 c2 (ptL (fsL (f k))) rfl (by rw [hl2]; omega) (HO2.cells rfl) (ptL_one _) (by unfold maxLen; omega) (by omega) HB1.size ?_))
       intro v' w' hown hgrow _ _
       rw [← ptL_app] at hown
       have HBN := HB1.grown hgrow HB1.size (fun k hk => (HO1.lt k hk).1)
       have hownN : w'.ownsRow w.heap.size 78 1 v' (catP f (k + 1)).length (ptL (fsL (catP f (k + 1)))) := by
         rw [HN.out]
         have e9 : fsL (catP f (k + 1)) = fsL (catP f k) ++ fsL (f k) := by unfold fsL; rw [catP, List.map_append]
         rw [e9]
         exact hown
       clear HO1 HO2 HB1 hgrow hown hl2
       go_wp2
       go_roundw
       case rel => exact ⟨k + 1, by omega, by go_num, hownN, HBN⟩
       case measure => simp [intOf]; omega
     · obtain rfl : k = 4 := by omega
       go_wp2
       go_ret
       exact ⟨_, rfl, HO, HB⟩
def QwNil (W : List Oper → Act → Prop) (Q : Exit → Act → World → Prop) (w : World) : Prop := ∀ a, (∀ n, Q .normal a (w.drewN n)) → W [] a
def QwStep (W : List Oper → Act → Prop) (P : Program) (l : List Oper) (w : World) : Prop :=
 ∀ o rest a, (∀ K : Act → Prop, (∀ a, W rest a → K a) → if Region.wanted o (yielded l.toArray a.tmps) then o.quiet P a (fun w' => ∃ n, w' = w.drewN n) K else K (a.put o.dst undef)) → W (o :: rest) a
theorem wp_region_qw {P : Program} {id : Nat} {Q : Exit → Act → World → Prop} {a : Act} {w : World} {l : List Oper} (hm : P.follows .mixedOrders = true) (hB : Region.lexB .any l.toArray = true)
   (h : ∀ W : List Oper → Act → Prop, QwNil W Q w → QwStep W P l w → W l a) : (Code.region id l.toArray true).wp P Q a w :=
 wp_region_quiet_lit hm hB (h (wpQuiet P l.toArray (fun w' => ∃ n, w' = w.drewN n) (fun a' => ∀ w', (∃ n, w' = w.drewN n) → Q .normal a' w'))
   (fun _ h => wpQuiet_nil (fun _ ⟨n, hn⟩ => hn ▸ h n)) (fun _ _ _ h => wpQuiet_step h))
theorem canL_map (Q : QD) (x y s : Int) : idV Q (flQ Q (List.range Q.m) x y s) = (canL Q x y s).map (Value.int .i64) := by simp [idV, canL, idL]
theorem canF_len (Q : QD) (x y s : Int) : (flQ Q (List.range Q.m) x y s).length = (canL Q x y s).length := by simp [canL, idL]
theorem leaf_of {Q : QD} {w w' : World} {g : Nat} {x y s lv : Int} {v : Value} (B : BkB w' g x y s lv v (.slice none 0 0)) (hO : w'.ownsRow w.heap.size 2 1 v (flQ Q (List.range Q.m) x y s).length (idV Q (flQ Q (List.range Q.m) x y s))) (hg : g < w.heap.size) : STr (okB g w.heap.size) w' (.leaf (canL Q x y s)) x y s lv g :=
 ⟨.inl rfl, v, B, by rw [← canL_map, ← canF_len]; exact ownQ_base hO, fun b e => by have := (World.ownsRow.lt hO b e).1; exact ⟨.inr this, by omega⟩⟩
set_option maxRecDepth 100000 in
set_option maxHeartbeats 8000000 in
theorem split_any (Q : QD) (g gq : Nat) (x y s lv m d : Int) (ids pv : Value) (io : Option Addr) (ic : Nat) (hq : Sq x y s) (hl0 : 0 ≤ lv) (hl8 : lv ≤ 1000) (h6 : Its6 Q (List.range Q.m)) (hm : Q.m ≤ 1048576) (w : World) (B0 : BkB w g x y s lv ids (.slice none 0 0)) (BQ : Blk w gq [.int .i64 m, .int .i64 d, .slice io Q.m ic, pv]) (hgq : gq ≠ g) (hS : ItIn Q w io (List.range Q.m)) (hio : ∀ A o sp, io = some ⟨A, o, sp⟩ → A ≠ g ∧ A < w.heap.size) : Calls Try.prog 80 #[.pointer (some ⟨gq, 0, none⟩), .pointer (some ⟨g, 0, none⟩)] w (fun r w' => r = .returned (.tuple #[]) ∧ STr (okB g w.heap.size) w' (.node fun k => .leaf (canL Q (kX x (s / 2) k) (kY y (s / 2) k) (s / 2))) x y s lv g ∧ w.grownBy w' (some g)) := by
 have y4 := B0.c 4 rfl; have f4 := B0.f 4 rfl
 have B1 : BkB (w.setCell ⟨g, 4, none⟩ (.slice none 0 0)) g x y s lv (.slice none 0 0) (.slice none 0 0) := B0.setI 4 (by simp) (.slice none 0 0)
 have HG : w.grownBy (w.setCell ⟨g, 4, none⟩ (.slice none 0 0)) (some g) := grown_set (Below.refl _ _) 4 _
 have BQ1 := BQ.grown HG (fun e => hgq (Option.some.inj e))
 have hS1 := hS.grown HG (fun A o sp e => (hio A o sp e).1)
 have hgl := B0.lt
 have hgql := BQ.lt
 have hs1 : (w.setCell ⟨g, 4, none⟩ (.slice none 0 0)).heap.size = w.heap.size := by simp [World.setCell]
 clear B0 BQ hS
 go_enter Try.func80, Try.ntmps80
 go_upto_region 1 with fail
 clear y4 f4
 generalize (w.setCell ⟨g, 4, none⟩ (.slice none 0 0)) = W1 at *
 have QT := quarters_any g x y s lv _ _ hq hl0 hl8 W1 B1
 obtain ⟨hf, hhf⟩ : ∃ hf, s / 2 = hf := ⟨_, rfl⟩
 have HHF : Hid (s / 2 = hf) := hhf
 rw [hhf] at QT
 clear hhf
 go_wp2_with fail
 refine QT.mono ?_
 rintro r w2 ⟨kv, gs, rfl, HK, hB2⟩
 clear QT
 have hwy2 := hB2.size
 replace B1 := B1.step hB2
 replace BQ1 := BQ1.step hB2
 replace hS1 := hS1.step hB2
 replace HG := grown_trans HG (grown_of hB2 _)
 clear hB2
 obtain ⟨kb, kc, hkv, hkb0, hkb1⟩ : ∃ kb kc, kv = .slice (some ⟨kb, 0, none⟩) 4 kc ∧ W1.heap.size ≤ kb ∧ kb < w2.heap.size := by
   rcases HK.own.2 with ⟨_, e⟩ | ⟨b, c, cur, e, hb, hg2, _⟩
   · cases e
   · exact ⟨b, c, e, hb, (Array.getElem?_eq_some_iff.1 hg2).1⟩
 subst hkv
 have y5 := B1.c 5 rfl; have f5 := B1.f 5 rfl
 have B3 : BkB (w2.setCell ⟨g, 5, none⟩ (.slice (some ⟨kb, 0, none⟩) 4 kc)) g x y s lv (.slice none 0 0) (.slice (some ⟨kb, 0, none⟩) 4 kc) := B1.setI 5 (by simp) (.slice (some ⟨kb, 0, none⟩) 4 kc)
 have HG3 : w2.grownBy (w2.setCell ⟨g, 5, none⟩ (.slice (some ⟨kb, 0, none⟩) 4 kc)) (some g) := grown_set (Below.refl _ _) 5 _
 have BQ3 := BQ1.grown HG3 (fun e => hgq (Option.some.inj e))
 have hS3 := hS1.grown HG3 (fun A o sp e => (hio A o sp e).1)
 have KD : ∀ j, j < 4 → BkB (w2.setCell ⟨g, 5, none⟩ (.slice (some ⟨kb, 0, none⟩) 4 kc)) (gs j) (kX x hf j) (kY y hf j) hf (lv + 1) (.slice none 0 0) (.slice none 0 0) := fun j hj => (HK.kid j hj).2.grown HG3 (fun e => by have := Option.some.inj e; have := (HK.kid j hj).1; omega)
 have hs3 : (w2.setCell ⟨g, 5, none⟩ (.slice (some ⟨kb, 0, none⟩) 4 kc)).heap.size = w2.heap.size := by simp [World.setCell]
 have KG : Hid (∀ j, j < 4 → W1.heap.size ≤ gs j ∧ gs j < w2.heap.size) := fun j hj => ⟨(HK.kid j hj).1, (HK.kid j hj).2.lt⟩
 have KC : ∀ j, j < 4 → (w2.setCell ⟨g, 5, none⟩ (.slice (some ⟨kb, 0, none⟩) 4 kc)).cell? ⟨kb, j, none⟩ = some (.pointer (some ⟨gs j, 0, none⟩)) := fun j hj => by
   have h := HK.own.cells rfl j (.pointer (some ⟨gs j, 0, none⟩)) (by unfold gpL; simp [hj])
   rw [Addr.add_lit, Nat.zero_add] at h
   rw [← h]
   exact World.cell?_of_block (w := w2) (a := ⟨kb, j, none⟩) (HG3.block kb hkb1 (fun e => by have := Option.some.inj e; omega))
 have KN : Hid (∀ j, j < 4 → gs j ≠ kb) := fun j hj e => HK.d1 j hj (by rw [e]; rfl)
 have KD2 : Hid (∀ i j, i < 4 → j < 4 → i ≠ j → gs i ≠ gs j) := HK.d2
 replace HG := grown_trans HG HG3
 clear B1 BQ1 hS1 HK HG3
 go_upto_region 2 with fail
 clear y5 f5
 generalize (w2.setCell ⟨g, 5, none⟩ (.slice (some ⟨kb, 0, none⟩) 4 kc)) = w3 at *
 obtain ⟨T, hT⟩ : ∃ T : Nat → QT, (fun k => .leaf (canL Q (kX x hf k) (kY y hf k) hf)) = T := ⟨_, rfl⟩
 have HT : Hid ((fun k => .leaf (canL Q (kX x hf k) (kY y hf k) hf)) = T) := hT
 clear hT
 have b5 := B3.c 5 rfl
 go_wp2_with fail
 go_loopw [19] (fun i wr => ∃ (k : Nat) (oks : Nat → Nat → Prop), k ≤ 4 ∧ i = .int .i64 k ∧ KidS T x y hf lv gs w3.heap.size wr k oks ∧ (∀ j, k ≤ j → j < 4 → BkB wr (gs j) (kX x hf j) (kY y hf j) hf (lv + 1) (.slice none 0 0) (.slice none 0 0)) ∧ (∀ j, j < 4 → wr.cell? ⟨kb, j, none⟩ = some (.pointer (some ⟨gs j, 0, none⟩))) ∧ BkB wr g x y s lv (.slice none 0 0) (.slice (some ⟨kb, 0, none⟩) 4 kc) ∧ Blk wr gq [.int .i64 m, .int .i64 d, .slice io Q.m ic, pv] ∧ ItIn Q wr io (List.range Q.m) ∧ w.grownBy wr (some g) ∧ w3.heap.size ≤ wr.heap.size) (fun i _ => 4 - (intOf i).toNat)
 case atStart => exact ⟨0, fun _ _ => False, by omega, rfl, ⟨fun j hj => absurd hj (by omega), fun j b hj => absurd hj (by omega), fun i j b hi => absurd hi (by omega)⟩, fun j _ hj => KD j hj, KC, B3, BQ3, hS3, HG, Nat.le_refl _⟩
 case round =>
   clear KD KC B3 BQ3 hS3 HG b5
   obtain ⟨k, oks, hk, rfl, HKS, KDk, KCk, B3k, BQk, hSk, HGk, hwk⟩ := hrel
   have HKS : Hid (KidS T x y hf lv gs w3.heap.size wr k oks) := HKS
   by_cases hk4 : k < 4
   · have hkI : (k : Int) < 4 := by omega
     have ck := KCk k hk4
     have q2 := BQk.c 2 rfl
     have hkg := KG.out k hk4
     have hsq := hq.kid hk4
     rw [HHF.out] at hsq
     have FL := fill_any Q (gs k) (kX x hf k) (kY y hf k) hf (lv + 1) _ _ io ic (List.range Q.m) hsq h6 (by rw [List.length_range]; exact hm) wr (KDk k (Nat.le_refl _) hk4) hSk
     rw [show (List.range Q.m).length = Q.m from List.length_range] at FL
     have HKD : Hid (∀ j, k ≤ j → j < 4 → BkB wr (gs j) (kX x hf j) (kY y hf j) hf (lv + 1) (.slice none 0 0) (.slice none 0 0)) := KDk
     have HKC : Hid (∀ j, j < 4 → wr.cell? ⟨kb, j, none⟩ = some (.pointer (some ⟨gs j, 0, none⟩))) := KCk
     clear KDk KCk
     go_wp2_with fail
     refine FL.mono ?_
     rintro r w5 ⟨rfl, v5, B5, _, HO5, HG5⟩
     have hkl : gs k < wr.heap.size := by omega
     have hln : STr (okB (gs k) wr.heap.size) w5 (T k) (kX x hf k) (kY y hf k) hf (lv + 1) (gs k) := by rw [← HT.out]; exact leaf_of B5 HO5 hkl
     have HKN : Hid (∃ oks', KidS T x y hf lv gs w3.heap.size w5 (k + 1) oks') := HKS.out.more HG5 hwk hln (by omega) (fun i hi => by have := (KG.out i (by omega)).2; omega) (fun i hi => KD2.out i k (by omega) hk4 (by omega))
     have KDN : Hid (∀ j, k + 1 ≤ j → j < 4 → BkB w5 (gs j) (kX x hf j) (kY y hf j) hf (lv + 1) (.slice none 0 0) (.slice none 0 0)) := fun j h1 h2 => (HKD.out j (by omega) h2).grown HG5 (fun e => KD2.out j k h2 hk4 (by omega) (Option.some.inj e))
     have KCN : Hid (∀ j, j < 4 → w5.cell? ⟨kb, j, none⟩ = some (.pointer (some ⟨gs j, 0, none⟩))) := fun j hj => (World.cell?_of_block (w := wr) (a := ⟨kb, j, none⟩) (HG5.block kb (by omega) (fun e => KN.out k hk4 (Option.some.inj e).symm))).trans (HKC.out j hj)
     have B3N := B3k.grown HG5 (fun e => by have := Option.some.inj e; omega)
     have BQN := BQk.grown HG5 (fun e => by have := Option.some.inj e; omega)
     have hSN := hSk.grown HG5 (fun A o sp e => by have := (hio A o sp e).2; omega)
     have HGN : w.grownBy w5 (some g) := grown_new HGk (by omega) HG5
     have hwN := Nat.le_trans hwk HG5.size
     clear FL HG5 HO5 B5 hln q2 ck HKD HKC B3k BQk hSk HGk hwk HKS
     go_wp2
     go_roundw
     case rel =>
       obtain ⟨oks', hks'⟩ := HKN.out
       exact ⟨k + 1, oks', by omega, by go_num, hks', KDN.out, KCN.out, B3N, BQN, hSN, HGN, hwN⟩
     case measure => simp [intOf]; omega
   · obtain rfl : k = 4 := by omega
     have HF : Hid (STr (okB g w.heap.size) wr (.node fun k => .leaf (canL Q (kX x (s / 2) k) (kY y (s / 2) k) (s / 2))) x y s lv g) := by
       obtain ⟨hk1, hk2, hk3⟩ := HKS.out
       rw [HHF.out]
       refine ⟨.inl rfl, kb, kc, gs, oks, B3k, by omega, .inr (by omega), by omega, fun j b hj hb => ?_, hk3, fun j hj => ⟨KCk j hj, ?_⟩⟩
       · have h8 := (KG.out j hj).1
         have h9 := KN.out j hj
         rcases hk2 j b hj hb with h | ⟨h, _⟩
         · subst h; exact ⟨.inr (by omega), by omega, h9⟩
         · exact ⟨.inr (by omega), by omega, by omega⟩
       · have h7 := hk1 j hj
         rw [← HT.out] at h7
         rw [HHF.out]
         exact h7
     clear HKS KDk KCk B3k BQk hSk
     go_wp2
     go_end0
     exact ⟨rfl, HF.out, HGk⟩
theorem lp_sq : ∀ {t : QT} {a : AT} {D : Nat} {x y s lv : Int}, Sq x y s → dpB D t → ∀ z ∈ lpT t a x y s lv, Sq z.2.x z.2.y z.2.s ∧ lv ≤ z.2.lv ∧ z.2.lv ≤ lv + (D : Int)
 | .leaf l, .leaf g, D, x, y, s, lv, hq, _, z, hz => by
   simp only [lpT, List.mem_singleton] at hz
   subst hz
   exact ⟨hq, Int.le_refl _, by show lv ≤ lv + (D : Int); omega⟩
 | .leaf _, .node .., _, _, _, _, _, _, _, z, hz => by simp [lpT] at hz
 | .node _, .leaf _, _, _, _, _, _, _, _, z, hz => by simp [lpT] at hz
 | .node K, .node g A kc Ka, 0, x, y, s, lv, hq, hd, z, hz => hd.elim
 | .node K, .node g A kc Ka, D + 1, x, y, s, lv, hq, hd, z, hz => by
   simp only [lpT] at hz
   obtain ⟨k, hk, hz⟩ := mem_catP.1 hz
   obtain ⟨h1, h2, h3⟩ := lp_sq (t := K k) (a := Ka k) (D := D) (hq.kid hk) (hd k hk) z hz
   exact ⟨h1, by omega, by omega⟩
structure Frm (ok : Nat → Prop) (w w' : World) : Prop where
 os : w'.os = w.os
 tape : w'.tape = w.tape
 output : w'.output = w.output
 size : w.heap.size ≤ w'.heap.size
 block : ∀ b, b < w.heap.size → ¬ ok b → w'.heap[b]? = w.heap[b]?
theorem Frm.refl (ok : Nat → Prop) (w : World) : Frm ok w w := ⟨rfl, rfl, rfl, Nat.le_refl _, fun _ _ _ => rfl⟩
theorem Frm.grown {ok : Nat → Prop} {w w1 w2 : World} {p : Nat} (h : Frm ok w w1) (hg : w1.grownBy w2 (some p)) (hp : ok p ∨ w.heap.size ≤ p) : Frm ok w w2 :=
 ⟨hg.os.trans h.os, hg.tape.trans h.tape, hg.output.trans h.output, Nat.le_trans h.size hg.size, fun b hb hn => (hg.block b (Nat.lt_of_lt_of_le hb h.size) (fun e => by
   have e2 := Option.some.inj e
   rcases hp with h1 | h1
   · exact hn (by rw [e2]; exact h1)
   · omega)).trans (h.block b hb hn)⟩
theorem Frm.below {ok : Nat → Prop} {w w' : World} (h : Frm ok w w') {B : Nat} (hB : B ≤ w.heap.size) (hok : ∀ b, ok b → B ≤ b) : Below B w w' :=
 ⟨h.os, h.tape, h.output, h.size, fun b hb => h.block b (by omega) (fun e => by have := hok b e; omega)⟩
def PutI (Q : QD) (j : Nat) (m d : Int) (t : QT) (a : AT) (x y s lv : Int) (ok : Nat → Prop) (w1 : World) (c : Nat) (wr : World) : Prop :=
 ∃ okf, ApT okf a ∧ (∀ p, LfIn a p → okf p p) ∧ SkT wr t a x y s lv ∧
   (∀ z ∈ (lpT t a x y s lv).take c, STr (okf z.1) wr (putT Q j m (.leaf z.2.l) (d - z.2.lv) z.2.x z.2.y z.2.s) z.2.x z.2.y z.2.s z.2.lv z.1) ∧
   (∀ z ∈ (lpT t a x y s lv).drop c, STr (okf z.1) wr (.leaf z.2.l) z.2.x z.2.y z.2.s z.2.lv z.1) ∧
   (∀ b, fpT okf a b → (ok b ∨ w1.heap.size ≤ b) ∧ b < wr.heap.size) ∧ Frm ok w1 wr
theorem take_next {L : List (Nat × LQ)} {c : Nat} {z z' : Nat × LQ} (hz : L[c]? = some z) (h : z' ∈ L.take (c + 1)) : z' ∈ L.take c ∨ z' = z := by
 rw [List.take_add_one, hz] at h
 rcases List.mem_append.1 h with h | h
 · exact .inl h
 · exact .inr (by simpa using h)
theorem drop_at {L : List (Nat × LQ)} {c : Nat} {z : Nat × LQ} (hz : L[c]? = some z) : L.drop c = z :: L.drop (c + 1) := by
 obtain ⟨h1, h2⟩ := List.getElem?_eq_some_iff.1 hz
 rw [← h2]
 exact List.drop_eq_getElem_cons h1
theorem others_ne {L : List (Nat × LQ)} {c : Nat} {z : Nat × LQ} (hn : (L.map Prod.fst).Nodup) (hz : L[c]? = some z) : (∀ z' ∈ L.take c, z'.1 ≠ z.1) ∧ ∀ z' ∈ L.drop (c + 1), z'.1 ≠ z.1 := by
 have hL : L = L.take c ++ z :: L.drop (c + 1) := by rw [← drop_at hz, List.take_append_drop]
 rw [hL, List.map_append, List.map_cons, List.nodup_append, List.nodup_cons] at hn
 obtain ⟨_, ⟨h2, _⟩, h3⟩ := hn
 refine ⟨fun z' hz' => h3 _ (List.mem_map.2 ⟨z', hz', rfl⟩) _ (by simp), fun z' hz' e => h2 (List.mem_map.2 ⟨z', hz', e⟩)⟩
theorem PutI.next {Q : QD} {j : Nat} {m d : Int} {t : QT} {a : AT} {x y s lv : Int} {ok : Nat → Prop} {w1 : World} {c : Nat} {wr w5 : World} {z : Nat × LQ} (h : PutI Q j m d t a x y s lv ok w1 c wr) (hz : (lpT t a x y s lv)[c]? = some z) (hg : wr.grownBy w5 (some z.1)) (hn : STr (okB z.1 wr.heap.size) w5 (putT Q j m (.leaf z.2.l) (d - z.2.lv) z.2.x z.2.y z.2.s) z.2.x z.2.y z.2.s z.2.lv z.1) : PutI Q j m d t a x y s lv ok w1 (c + 1) w5 := by
 obtain ⟨okf, h1, h2, h3, h4, h5, h6, h7⟩ := h
 have hmz : z ∈ lpT t a x y s lv := List.mem_of_getElem? hz
 have hlf := lp_lf hmz
 obtain ⟨o1, o2⟩ := others_ne (lp_nodup h1 h2) hz
 have hsz := hg.size
 have h16 := h7.size
 have hkeep : ∀ z' ∈ lpT t a x y s lv, z'.1 ≠ z.1 → ∀ b, okf z'.1 b → b < wr.heap.size → w5.heap[b]? = wr.heap[b]? := fun z' hz' hne b hb hl => hg.block b hl (fun e => by
   have e2 := Option.some.inj e
   subst e2
   exact h1.apart (lp_lf hz') hlf hne hb (h2 _ hlf))
 refine ⟨fun p b => okf p b ∨ (p = z.1 ∧ (wr.heap.size ≤ b ∧ b < w5.heap.size)), ApT.upd (h2 _ hlf) h1 (fun b hb hf => by have := (h6 b hf).2; omega), fun p hp => .inl (h2 p hp), ?_, fun z' hz' => ?_, fun z' hz' => ?_, fun b hb => ?_, h7.grown hg (h6 _ (fp_lf hlf (h2 _ hlf))).1⟩
 · exact SkT.keep hsz h3 (fun b hb => hg.block b (h3.lt b hb) (fun e => by
     have e2 := Option.some.inj e
     subst e2
     exact h1.inner hb hlf (h2 _ hlf)))
 · rcases take_next hz hz' with hz' | hz'
   · exact STr.keep hsz (hkeep z' (List.mem_of_mem_take hz') (o1 z' hz')) (fun b hb _ => .inl hb) (h4 z' hz')
   · subst hz'
     exact STr.keep (Nat.le_refl _) (fun _ _ _ => rfl) (fun b hb hl => by
       rcases hb with hb | hb
       · subst hb; exact .inl (h2 _ hlf)
       · exact .inr ⟨rfl, hb, hl⟩) hn
 · exact STr.keep hsz (hkeep z' (List.mem_of_mem_drop hz') (o2 z' hz')) (fun b hb _ => .inl hb) (h5 z' (by rw [drop_at hz]; exact List.mem_cons_of_mem _ hz'))
 · rcases fp_upd hb with h | ⟨_, h⟩
   · exact ⟨(h6 b h).1, by have := (h6 b h).2; omega⟩
   · exact ⟨.inr (by omega), h.2⟩
theorem PutI.step {Q : QD} {j : Nat} {m d : Int} {t : QT} {a : AT} {x y s lv : Int} {ok : Nat → Prop} {w1 : World} {c : Nat} {wr w5 : World} (h : PutI Q j m d t a x y s lv ok w1 c wr) (hB : Below wr.heap.size wr w5) : PutI Q j m d t a x y s lv ok w1 c w5 := by
 obtain ⟨okf, h1, h2, h3, h4, h5, h6, h7⟩ := h
 exact ⟨okf, h1, h2, h3.step hB, fun z hz => (h4 z hz).step hB, fun z hz => (h5 z hz).step hB, fun b hb => ⟨(h6 b hb).1, Nat.lt_of_lt_of_le (h6 b hb).2 hB.size⟩, ⟨hB.os.trans h7.os, hB.tape.trans h7.tape, hB.output.trans h7.output, Nat.le_trans h7.size hB.size, fun b hb hn => (hB.block b (Nat.lt_of_lt_of_le hb h7.size)).trans (h7.block b hb hn)⟩⟩
theorem PutI.start {Q : QD} {j : Nat} {m d : Int} {t : QT} {a : AT} {x y s lv : Int} {ok : Nat → Prop} {okf : Nat → Nat → Prop} {w1 : World} (h3 : SkT w1 t a x y s lv) (h1 : ApT okf a) (h0 : ∀ p, okf p p) (hb : ∀ b, fpT okf a b → ok b ∧ b < w1.heap.size) (hl : ∀ z ∈ lpT t a x y s lv, STr (okf z.1) w1 (.leaf z.2.l) z.2.x z.2.y z.2.s z.2.lv z.1) : PutI Q j m d t a x y s lv ok w1 0 w1 :=
 ⟨okf, h1, fun p _ => h0 p, h3, fun z hz => by simp at hz, fun z hz => hl z (by simpa using hz), fun b hf => ⟨.inl (hb b hf).1, (hb b hf).2⟩, Frm.refl _ _⟩
theorem PutI.done {Q : QD} {j : Nat} {m d : Int} {t : QT} {a : AT} {x y s : Int} {ok : Nat → Prop} {w1 wr : World} (hs : 0 ≤ s) (h : PutI Q j m d t a x y s 0 ok w1 (lpT t a x y s 0).length wr) : ∃ ok', STr ok' wr (putT Q j m t d x y s) x y s 0 (raT a) ∧ (∀ b, ok' b → ok b ∨ w1.heap.size ≤ b) ∧ Frm ok w1 wr := by
 obtain ⟨okf, h1, h2, h3, h4, h5, h6, h7⟩ := h
 refine ⟨fpT okf a, ?_, fun b hb => (h6 b hb).1, h7⟩
 have h := STr.put (D0 := d) hs h3 h1 (fun z hz => h4 z (by rw [List.take_length]; exact hz))
 rw [Int.sub_zero] at h
 exact h
theorem PutI.leaf {Q : QD} {j : Nat} {m d : Int} {t : QT} {a : AT} {x y s lv : Int} {ok : Nat → Prop} {w1 : World} {c : Nat} {wr : World} {z : Nat × LQ} (h : PutI Q j m d t a x y s lv ok w1 c wr) (hz : (lpT t a x y s lv)[c]? = some z) : ∃ iv, BkB wr z.1 z.2.x z.2.y z.2.s z.2.lv iv (.slice none 0 0) ∧ (ok z.1 ∨ w1.heap.size ≤ z.1) := by
 obtain ⟨okf, h1, h2, h3, h4, h5, h6, h7⟩ := h
 obtain ⟨_, iv, h8, _⟩ := h5 z (by rw [drop_at hz]; simp)
 have hlf := lp_lf (List.mem_of_getElem? hz)
 exact ⟨iv, h8, (h6 _ (fp_lf hlf (h2 _ hlf))).1⟩
theorem PutI.skip {Q : QD} {j : Nat} {m d : Int} {t : QT} {a : AT} {x y s lv : Int} {ok : Nat → Prop} {w1 : World} {c : Nat} {wr : World} {z : Nat × LQ} (h : PutI Q j m d t a x y s lv ok w1 c wr) (hz : (lpT t a x y s lv)[c]? = some z) (he : putT Q j m (.leaf z.2.l) (d - z.2.lv) z.2.x z.2.y z.2.s = .leaf z.2.l) : PutI Q j m d t a x y s lv ok w1 (c + 1) wr := by
 obtain ⟨okf, h1, h2, h3, h4, h5, h6, h7⟩ := h
 refine ⟨okf, h1, h2, h3, fun z' hz' => ?_, fun z' hz' => h5 z' (by rw [drop_at hz]; exact List.mem_cons_of_mem _ hz'), h6, h7⟩
 rcases take_next hz hz' with hz' | hz'
 · exact h4 z' hz'
 · subst hz'
   rw [he]
   exact h5 z' (by rw [drop_at hz]; simp)
theorem Frm.trans {ok : Nat → Prop} {w w1 w2 : World} (h : Frm ok w w1) (k : Frm ok w1 w2) : Frm ok w w2 :=
 ⟨k.os.trans h.os, k.tape.trans h.tape, k.output.trans h.output, Nat.le_trans h.size k.size, fun b hb hn => (k.block b (Nat.lt_of_lt_of_le hb h.size) hn).trans (h.block b hb hn)⟩
theorem PutI.frm {Q : QD} {j : Nat} {m d : Int} {t : QT} {a : AT} {x y s lv : Int} {ok : Nat → Prop} {w1 : World} {c : Nat} {wr : World} (h : PutI Q j m d t a x y s lv ok w1 c wr) : Frm ok w1 wr := by
 obtain ⟨okf, h1, h2, h3, h4, h5, h6, h7⟩ := h
 exact h7
theorem Frm.blk {ok : Nat → Prop} {w w' : World} {g : Nat} {vs : List Value} (h : Frm ok w w') (B : Blk w g vs) (hn : ¬ ok g) : Blk w' g vs := B.keep h.size (h.block g B.lt hn)
theorem Frm.items {Q : QD} {ok : Nat → Prop} {w w' : World} {ao : Option Addr} {l : List Nat} (h : Frm ok w w') (hS : ItIn Q w ao l) (hn : ∀ A o sp, ao = some ⟨A, o, sp⟩ → ¬ ok A) : ItIn Q w' ao l := fun j i hj => by
 obtain ⟨A, o, e, hA, c0, c1, c2, c3, c4⟩ := hS j i hj
 have hb : ∀ k, w'.cell? ⟨A, k, none⟩ = w.cell? ⟨A, k, none⟩ := fun k => World.cell?_of_block (w := w) (a := ⟨A, k, none⟩) (h.block A hA (hn A o none e))
 exact ⟨A, o, e, Nat.lt_of_lt_of_le hA h.size, (hb _).trans c0, (hb _).trans c1, (hb _).trans c2, (hb _).trans c3, (hb _).trans c4⟩
theorem putLeaf {Q : QD} {j : Nat} {mx D : Int} {l : List Int} {x y s : Int} : putT Q j mx (.leaf l) D x y s = if hitQ Q x y s j = true then (if ((canL Q x y s).length : Int) ≤ mx ∨ D < 1 then .leaf (canL Q x y s) else .node (fun k => .leaf (canL Q (kX x (s / 2) k) (kY y (s / 2) k) (s / 2)))) else .leaf l := rfl
theorem okB_grow {g w1 w2 b : Nat} (h : okB g w2 b) (hw : w1 ≤ w2) : okB g w1 b := by
 rcases h with h | h
 · exact .inl h
 · exact .inr (by omega)
def PutP (Q : QD) (j : Nat) (m d : Int) (t : QT) (gr : Nat) (ok : Nat → Prop) (w : World) (r : Ending) (w' : World) : Prop :=
 r = .returned (.tuple #[]) ∧ ∃ ok', STr ok' w' (putT Q j m t d (-1048576) (-1048576) 2097152) (-1048576) (-1048576) 2097152 0 gr ∧ (∀ b, ok' b → (ok b ∧ b < w.heap.size) ∨ w.heap.size ≤ b) ∧ Frm (fun b => ok b ∧ b < w.heap.size) w w'
set_option maxRecDepth 100000 in
set_option maxHeartbeats 16000000 in
theorem quadPut_any (Q : QD) (j D : Nat) (m d : Int) (t : QT) (gq gr : Nat) (io : Option Addr) (ic : Nat) (ok : Nat → Prop) (w : World) (hj : j < Q.m) (hd : (D : Int) = d) (hd8 : d ≤ 8) (hdp : dpB D t) (hn : nlT t ≤ 1048576) (h6 : Its6 Q (List.range Q.m)) (hm : Q.m ≤ 1048576) (hT : STr ok w t (-1048576) (-1048576) 2097152 0 gr) (BQ : Blk w gq [.int .i64 m, .int .i64 d, .slice io Q.m ic, .pointer (some ⟨gr, 0, none⟩)]) (hgq : ¬ ok gq) (hS : ItIn Q w io (List.range Q.m)) (hio : ∀ A o sp, io = some ⟨A, o, sp⟩ → ¬ ok A ∧ A < w.heap.size) : Calls Try.prog 39 #[.pointer (some ⟨gq, 0, none⟩), Sg (Q.S j).1 (Q.S j).2.1 (Q.S j).2.2.1 (Q.S j).2.2.2] w (PutP Q j m d t gr ok w) := by
 have HH : Hid (∀ x y s, hitB (Q.S j).1 (Q.S j).2.1 (Q.S j).2.2.1 (Q.S j).2.2.2 x y (x + s) (y + s) = hitQ Q x y s j) := fun _ _ _ => rfl
 obtain ⟨ia, ib, ic6, id⟩ := h6 j (List.mem_range.2 hj)
 have hT1 : STr (fun b => ok b ∧ b < w.heap.size) w t (-1048576) (-1048576) 2097152 0 gr := STr.keep (Nat.le_refl _) (fun _ _ _ => rfl) (fun b hb hl => ⟨hb, hl⟩) hT
 have hal : Below w.heap.size w (w.alloc (.cells #[.int .i64 (Q.S j).1, .int .i64 (Q.S j).2.1, .int .i64 (Q.S j).2.2.1, .int .i64 (Q.S j).2.2.2] 40)) := (Below.refl _ w).alloc (Nat.le_refl _) _
 have BP : Blk (w.alloc (.cells #[.int .i64 (Q.S j).1, .int .i64 (Q.S j).2.1, .int .i64 (Q.S j).2.2.1, .int .i64 (Q.S j).2.2.2] 40)) w.heap.size [.int .i64 (Q.S j).1, .int .i64 (Q.S j).2.1, .int .i64 (Q.S j).2.2.1, .int .i64 (Q.S j).2.2.2] := Blk.new w [.int .i64 (Q.S j).1, .int .i64 (Q.S j).2.1, .int .i64 (Q.S j).2.2.1, .int .i64 (Q.S j).2.2.2] 40 rfl
 replace hT1 := hT1.step hal
 replace BQ := BQ.step hal
 replace hS := hS.step hal
 have hgl := BQ.lt
 have HFw : Frm (fun b => ok b ∧ b < w.heap.size) w (w.alloc (.cells #[.int .i64 (Q.S j).1, .int .i64 (Q.S j).2.1, .int .i64 (Q.S j).2.2.1, .int .i64 (Q.S j).2.2.2] 40)) := ⟨hal.os, hal.tape, hal.output, hal.size, fun b hb _ => hal.block b hb⟩
 have HD : Hid ((D : Int) = d) := hd
 have hd0 : 0 ≤ d := by omega
 clear hT hal hd
 generalize (Q.S j).1 = sa at *
 generalize (Q.S j).2.1 = sb at *
 generalize (Q.S j).2.2.1 = sc at *
 generalize (Q.S j).2.2.2 = sd at *
 go_enter Try.func39, Try.ntmps39
 go_upto_region 1 with fail
 generalize (w.alloc (.cells #[.int .i64 sa, .int .i64 sb, .int .i64 sc, .int .i64 sd] 40)) = W1 at *
 obtain ⟨a, hra, hSk, hAp, hfp, hlv⟩ := hT1.apart
 subst hra
 have C := leavesS_any t a (-1048576) (-1048576) 2097152 0 W1 hn hSk (fun z hz => by
   obtain ⟨_, iv, h8, _⟩ := hlv z hz
   exact ⟨iv, h8⟩)
 have hpos : 0 < (lpT t a (-1048576) (-1048576) 2097152 0).length := by rw [lp_len hSk]; have := nl_pos t; omega
 have hll : (lpT t a (-1048576) (-1048576) 2097152 0).length ≤ 1048576 := by rw [lp_len hSk]; exact hn
 have q3 := BQ.c 3 rfl
 have HSQ : Hid (∀ z ∈ lpT t a (-1048576) (-1048576) 2097152 0, Sq z.2.x z.2.y z.2.s ∧ 0 ≤ z.2.lv ∧ z.2.lv ≤ d) := fun z hz => by
   obtain ⟨h1, h2, h3⟩ := lp_sq (show Sq (-1048576) (-1048576) 2097152 from ⟨by omega, by omega, by omega, by omega, by omega⟩) hdp z hz
   have := HD.out
   exact ⟨h1, h2, by omega⟩
 clear hdp hT1
 go_wp2_with fail
 refine C.mono ?_
 rintro r W2 ⟨v, rfl, HO, hB2⟩
 clear C q3
 have hpl := BP.lt
 have hW12 := hB2.size
 have HI0 : Hid (PutI Q j m d t a (-1048576) (-1048576) 2097152 0 (fun b => ok b ∧ b < w.heap.size) W2 0 W2) := PutI.start (okf := okW W1) (hSk.step hB2) hAp (fun p => .inl rfl) (fun b hb => ⟨hfp b hb, by have := (hfp b hb).2; omega⟩) (fun z hz => (hlv z hz).step hB2)
 replace BP := BP.step hB2
 replace BQ := BQ.step hB2
 replace hS := hS.step hB2
 have HFw2 : Hid (Frm (fun b => ok b ∧ b < w.heap.size) w W2) := ⟨hB2.os.trans HFw.os, hB2.tape.trans HFw.tape, hB2.output.trans HFw.output, Nat.le_trans HFw.size hB2.size, fun b hb hn => (hB2.block b (by omega)).trans (HFw.block b hb hn)⟩
 clear hB2 hSk hAp hfp hlv HFw
 obtain ⟨gv, cv, rfl, hgv1, hgv2, _, _⟩ := ownQ_form HO hpos
 have HCL : Hid (∀ c z, (lpT t a (-1048576) (-1048576) 2097152 0)[c]? = some z → W2.cell? ⟨gv, c, none⟩ = some (.pointer (some ⟨z.1, 0, none⟩))) := fun c z hz => by
   have h := HO.cells rfl c (.pointer (some ⟨z.1, 0, none⟩)) (by unfold ptL fsL; simp [hz])
   rw [Addr.add_lit, Nat.zero_add] at h
   exact h
 obtain ⟨L, hL⟩ : ∃ L, lpT t a (-1048576) (-1048576) 2097152 0 = L := ⟨_, rfl⟩
 rw [hL] at HSQ HCL hpos hll HO ⊢
 have HLL : Hid (lpT t a (-1048576) (-1048576) 2097152 0 = L) := hL
 clear hL HO
 obtain ⟨n, hnl⟩ : ∃ n, L.length = n := ⟨_, rfl⟩
 have HNL : Hid (L.length = n) := hnl
 rw [hnl] at hpos hll ⊢
 clear hnl hn
 have hnI : (n : Int) ≤ 1048576 := by omega
 have hgqw : ¬ (ok gq ∧ gq < w.heap.size) := fun h => hgq h.1
 have hPw : ¬ (ok w.heap.size ∧ w.heap.size < w.heap.size) := fun h => absurd h.2 (by omega)
 have hgvw : ¬ (ok gv ∧ gv < w.heap.size) := fun h => absurd h.2 (by omega)
 have hiow : ∀ A o sp, io = some ⟨A, o, sp⟩ → ¬ (ok A ∧ A < w.heap.size) ∧ A < w.heap.size := fun A o sp e => ⟨fun h => (hio A o sp e).1 h.1, (hio A o sp e).2⟩
 have hw12 : w.heap.size < W2.heap.size := by omega
 generalize hokd : (fun b => ok b ∧ b < w.heap.size) = okd at HI0 HFw2
 have hgqw : ¬ okd gq := by rw [← hokd]; exact hgqw
 have hPw : ¬ okd w.heap.size := by rw [← hokd]; exact hPw
 have hgvw : ¬ okd gv := by rw [← hokd]; exact hgvw
 have hiow : ∀ A o sp, io = some ⟨A, o, sp⟩ → ¬ okd A ∧ A < w.heap.size := by rw [← hokd]; exact hiow
 have HOK : Hid ((fun b => ok b ∧ b < w.heap.size) = okd) := hokd
 clear hokd hio hgq
 go_wp2_with fail
 go_loopw [12] (fun i wr => ∃ c : Nat, c ≤ n ∧ i = .int .i64 c ∧ PutI Q j m d t a (-1048576) (-1048576) 2097152 0 okd W2 c wr) (fun i _ => n - (intOf i).toNat)
 case atStart => exact ⟨0, by omega, rfl, HI0.out⟩
 case round =>
   obtain ⟨c, hc, rfl, hI⟩ := hrel
   have HI : Hid (PutI Q j m d t a (-1048576) (-1048576) 2097152 0 okd W2 c wr) := hI
   have hF := hI.frm
   clear hI HI0
   by_cases hcn : c < n
   · have hcI : (c : Int) < n := by omega
     obtain ⟨z, hz⟩ : ∃ z, L[c]? = some z := ⟨_, List.getElem?_eq_getElem (by have := HNL.out; omega)⟩
     have hzt : Hid ((lpT t a (-1048576) (-1048576) 2097152 0)[c]? = some z) := by show _ = _; rw [HLL.out]; exact hz
     have cp : wr.cell? ⟨gv, c, none⟩ = some (.pointer (some ⟨z.1, 0, none⟩)) := (World.cell?_of_block (w := W2) (a := ⟨gv, c, none⟩) (hF.block gv hgv2 hgvw)).trans (HCL.out c z hz)
     obtain ⟨iv, Bz, hokz⟩ := HI.out.leaf hzt.out
     obtain ⟨hqz, hl0, hl8⟩ := HSQ.out z (List.mem_of_getElem? hz)
     have BPr := hF.blk BP hPw
     have BQr := hF.blk BQ hgqw
     have hSr := hF.items hS (fun A o sp e => (hiow A o sp e).1)
     have hFs := hF.size
     have n0 := BPr.c 0 rfl; have n1 := BPr.c 1 rfl; have n2 := BPr.c 2 rfl; have n3 := BPr.c 3 rfl
     obtain ⟨p, q⟩ := z
     obtain ⟨x, y, s, lv, l⟩ := q
     simp only at cp Bz hokz hqz hl0 hl8
     have MT := meets_any p x y s lv iv (.slice none 0 0) sa sb sc sd hqz ia ib ic6 id wr Bz
     clear hz hF
     go_wp2_with fail
     refine MT.mono ?_
     rintro r w3 ⟨rfl, hB3⟩
     clear MT cp n0 n1 n2 n3
     have hs3 := hB3.size
     replace Bz := Bz.step hB3
     replace BQr := BQr.step hB3
     replace hSr := hSr.step hB3
     have HI3 : Hid (PutI Q j m d t a (-1048576) (-1048576) 2097152 0 okd W2 c w3) := HI.out.step hB3
     clear HI hB3 BPr
     rw [HH.out x y s]
     have hgpq : gq ≠ p := fun e => by
       subst e
       rcases hokz with h | h
       · exact hgqw h
       · omega
     have hiop : ∀ A o sp, io = some ⟨A, o, sp⟩ → A ≠ p ∧ A < w3.heap.size := fun A o sp e => by
       have h8 := hiow A o sp e
       refine ⟨fun e2 => ?_, by omega⟩
       subst e2
       rcases hokz with h | h
       · exact h8.1 h
       · omega
     cases hh : hitQ Q x y s j with
     | false =>
       have HN : Hid (PutI Q j m d t a (-1048576) (-1048576) 2097152 0 okd W2 (c + 1) w3) := HI3.out.skip hzt.out (putT_miss hh _)
       clear HI3 hzt hh Bz BQr hSr
       go_wp2
       go_roundw
       case rel => exact ⟨c + 1, by omega, by go_num, HN.out⟩
       case measure => simp [intOf]; omega
     | true =>
       have FL := fill_any Q p x y s lv _ _ io ic (List.range Q.m) hqz h6 (by rw [List.length_range]; exact hm) w3 Bz hSr
       rw [show (List.range Q.m).length = Q.m from List.length_range] at FL
       have hpl3 := Bz.lt
       have q2 := BQr.c 2 rfl
       clear Bz
       go_wp2_with fail
       refine FL.mono ?_
       rintro r w4 ⟨rfl, v4, B4, ⟨ao4, c4, rfl, _, _, _⟩, HO4, HG4⟩
       clear FL q2
       have hleaf := leaf_of B4 HO4 hpl3
       obtain ⟨n1, hn1⟩ : ∃ n1, (flQ Q (List.range Q.m) x y s).length = n1 := ⟨_, rfl⟩
       have HN1 : Hid ((canL Q x y s).length = n1) := by show _ = _; rw [← canF_len]; exact hn1
       have hn1l : n1 ≤ 1048576 := by
         rw [← hn1]
         exact Nat.le_trans (List.length_filter_le _ _) (by rw [List.length_range]; exact hm)
       rw [hn1] at B4
       clear hn1 HO4
       have BQ4 := BQr.grown HG4 (fun e => hgpq (Option.some.inj e))
       have hS4 := hSr.grown HG4 (fun A o sp e => (hiop A o sp e).1)
       have hs4 := HG4.size
       have hn1I : (n1 : Int) ≤ 1048576 := by omega
       clear BQr hSr
       have m4 := B4.c 4 rfl; have m3 := B4.c 3 rfl; have k0 := BQ4.c 0 rfl; have k1 := BQ4.c 1 rfl
       have Hleaf : Hid (STr (okB p w3.heap.size) w4 (.leaf (canL Q x y s)) x y s lv p) := hleaf
       have HHT : Hid (hitQ Q x y s j = true) := hh
       clear hleaf hh
       by_cases hc1 : m < (n1 : Int)
       · by_cases hc2 : lv < d
         · go_wp2_with fail
           refine wp_region_qw (by kernel_rfl) (by kernel_rfl) ?_
           intro W qN qS
           repeat (refine qS _ _ _ (fun K hK => ?_); go_simp; refine hK _ ?_; clear hK K)
           refine qN _ (fun nq => ?_)
           clear qN qS
           have hDN : Below w4.heap.size w4 (w4.drewN nq) := below_drewN (Below.refl _ _) nq
           have SP := split_any Q p gq x y s lv m d _ _ io ic hqz hl0 (by omega) h6 hm (w4.drewN nq) (B4.step hDN) (BQ4.step hDN) hgpq (hS4.step hDN) (fun A o sp e => ⟨(hiop A o sp e).1, by have := (hiop A o sp e).2; have := hDN.size; omega⟩)
           have hsd := hDN.size
           clear m4 m3 k0 k1
           go_wp2_with fail
           refine SP.mono ?_
           rintro r w5 ⟨rfl, hst, HG5⟩
           have HGA : w3.grownBy w5 (some p) := grown_trans (grown_trans HG4 (grown_of hDN _)) HG5
           have HN : Hid (PutI Q j m d t a (-1048576) (-1048576) 2097152 0 okd W2 (c + 1) w5) := HI3.out.next hzt.out HGA (by
             show STr _ _ (putT Q j m (.leaf l) (d - lv) x y s) _ _ _ _ _
             rw [putLeaf, if_pos HHT.out, if_neg (by rw [HN1.out]; omega)]
             exact STr.keep (Nat.le_refl _) (fun _ _ _ => rfl) (fun b hb _ => okB_grow hb (by omega)) hst)
           clear SP hst HG5 HGA HG4 hDN HI3 B4 BQ4 hS4 Hleaf HHT hzt
           go_wp2
           go_roundw
           case rel => exact ⟨c + 1, by omega, by go_num, HN.out⟩
           case measure => simp [intOf]; omega
         · go_wp2_with fail
           refine wp_region_qw (by kernel_rfl) (by kernel_rfl) ?_
           intro W qN qS
           repeat (refine qS _ _ _ (fun K hK => ?_); go_simp; refine hK _ ?_; clear hK K)
           refine qN _ (fun nq => ?_)
           clear qN qS
           have hDN : Below w4.heap.size w4 (w4.drewN nq) := below_drewN (Below.refl _ _) nq
           have HGA : w3.grownBy (w4.drewN nq) (some p) := grown_trans HG4 (grown_of hDN _)
           have HN : Hid (PutI Q j m d t a (-1048576) (-1048576) 2097152 0 okd W2 (c + 1) (w4.drewN nq)) := HI3.out.next hzt.out HGA (by
             show STr _ _ (putT Q j m (.leaf l) (d - lv) x y s) _ _ _ _ _
             rw [putLeaf, if_pos HHT.out, if_pos (by rw [HN1.out]; omega)]
             exact Hleaf.out.step hDN)
           clear HGA HG4 hDN HI3 B4 BQ4 hS4 Hleaf HHT hzt m4 m3 k0 k1
           go_wp2
           go_roundw
           case rel => exact ⟨c + 1, by omega, by go_num, HN.out⟩
           case measure => simp [intOf]; omega
       · have hc1d : decide (m < (n1 : Int)) = false := decide_eq_false hc1
         go_wp2_with fail
         refine wp_region_qw (by kernel_rfl) (by kernel_rfl) ?_
         intro W qN qS
         repeat (refine qS _ _ _ (fun K hK => ?_); go_simp; refine hK _ ?_; clear hK K)
         refine qN _ (fun nq => ?_)
         clear qN qS
         have hDN : Below w4.heap.size w4 (w4.drewN nq) := below_drewN (Below.refl _ _) nq
         have HGA : w3.grownBy (w4.drewN nq) (some p) := grown_trans HG4 (grown_of hDN _)
         have HN : Hid (PutI Q j m d t a (-1048576) (-1048576) 2097152 0 okd W2 (c + 1) (w4.drewN nq)) := HI3.out.next hzt.out HGA (by
           show STr _ _ (putT Q j m (.leaf l) (d - lv) x y s) _ _ _ _ _
           rw [putLeaf, if_pos HHT.out, if_pos (by rw [HN1.out]; omega)]
           exact Hleaf.out.step hDN)
         clear HGA HG4 hDN HI3 B4 BQ4 hS4 Hleaf HHT hzt m4 m3 k0 k1
         go_wp2
         go_roundw
         case rel => exact ⟨c + 1, by omega, by go_num, HN.out⟩
         case measure => simp [intOf]; omega
   · obtain rfl : c = n := by omega
     have HE : Hid (PutP Q j m d t (raT a) ok w (.returned (.tuple #[])) wr) := by
       have hlen : (lpT t a (-1048576) (-1048576) 2097152 0).length = c := by rw [HLL.out, HNL.out]
       have hI9 := HI.out
       rw [← hlen] at hI9
       obtain ⟨ok', hs1, hs2, hs3⟩ := PutI.done (by omega) hI9
       refine ⟨rfl, ok', hs1, fun b hb => ?_, ?_⟩
       · rcases hs2 b hb with h | h
         · rw [← HOK.out] at h; exact .inl h
         · exact .inr (by omega)
       · rw [HOK.out]
         exact HFw2.out.trans hs3
     go_wp2
     go_end0
     exact HE.out
def IsP (ok : Nat → Prop) (w : World) : List WB → List Value → Prop
 | [], [] => True
 | q :: L, iv :: I => IdS ok w iv q.l ∧ (∀ b, iv.ownBlock = some b → ∀ u ∈ I, u.ownBlock ≠ some b) ∧ IsP ok w L I
 | _, _ => False
theorem IdS.mono {ok ok' : Nat → Prop} {w : World} {v : Value} {l : List Int} (h : IdS ok w v l) (ho : ∀ b, ok b → ok' b) : IdS ok' w v l := ⟨h.1, fun b e => ho b (h.2 b e)⟩
theorem IsP.toI {ok : Nat → Prop} {w : World} : ∀ {L : List WB} {I : List Value}, IsP ok w L I → IvP ok w L I
 | [], [], _ => trivial
 | _ :: L, _ :: I, h => ⟨h.1.toV, IsP.toI (L := L) (I := I) h.2.2⟩
theorem IsP.own {ok : Nat → Prop} {w : World} : ∀ {L : List WB} {I : List Value}, IsP ok w L I → ∀ u ∈ I, ∀ b, u.ownBlock = some b → ok b ∧ b < w.heap.size
 | [], [], _, u, hu => by simp at hu
 | _ :: L, iv :: I, h, u, hu => by
   rcases List.mem_cons.1 hu with e | hu
   · subst e
     exact fun b e => ⟨h.1.2 b e, (World.ownsRow.lt h.1.1 b e).2⟩
   · exact IsP.own (L := L) (I := I) h.2.2 u hu
theorem IsP.keep {ok ok' : Nat → Prop} {w w' : World} (hk : ∀ b, ok b → b < w.heap.size → w'.heap[b]? = w.heap[b]?) (ho : ∀ b, ok b → b < w.heap.size → ok' b) : ∀ {L : List WB} {I : List Value}, IsP ok w L I → IsP ok' w' L I
 | [], [], _ => trivial
 | _ :: L, _ :: I, h => ⟨IdS.keep h.1 hk ho, h.2.1, IsP.keep hk ho (L := L) (I := I) h.2.2⟩
theorem IsP.app {ok1 ok2 : Nat → Prop} {w : World} (hd : ∀ b, ok1 b → ¬ ok2 b) : ∀ {L L' : List WB} {I I' : List Value}, IsP ok1 w L I → IsP ok2 w L' I' → IsP (fun b => ok1 b ∨ ok2 b) w (L ++ L') (I ++ I')
 | [], _, [], _, _, h => IsP.keep (fun _ _ _ => rfl) (fun b hb _ => .inr hb) h
 | _ :: L, _, iv :: I, _, h, h' => ⟨h.1.mono (fun b hb => .inl hb), fun b e u hu => by
     rcases List.mem_append.1 hu with hu | hu
     · exact h.2.1 b e u hu
     · exact fun e2 => hd b (h.1.2 b e) (h'.own u hu b e2).1, IsP.app hd (L := L) (I := I) h.2.2 h'⟩
def RowP (ok : Nat → Prop) (L : List WB) (w : World) (r : Ending) (w' : World) : Prop := ∃ v I, r = .returned v ∧ w'.ownsRow w.heap.size 55 5 v L.length (wbCs L I) ∧ IsP ok w L I ∧ Below w.heap.size w w'
set_option maxRecDepth 100000 in
set_option maxHeartbeats 8000000 in
theorem row_any (t : QT) : ∀ (ok : Nat → Prop) (x y s lv : Int) (g : Nat) (w : World), (wrT t x y s).length ≤ 1048576 → STr ok w t x y s lv g → Calls Try.prog 81 #[.pointer (some ⟨g, 0, none⟩)] w (RowP ok (wrT t x y s) w) := by
 obtain ⟨i0, hi0, hz0, hz1, hz2⟩ := info_blk
 have qn := fun (w : World) (a : Option Addr) (l c : Nat) => run_neq_slice_nil (P := Try.prog) w 96 _ a l c Try.underlying96
 induction t with
 | leaf l =>
   intro ok x y s lv g w _ hM
   obtain ⟨hog, iv, B, hI⟩ := hM
   obtain ⟨ao, cc, rfl⟩ := ownQ_slice hI.1
   have HI : Hid (IdS (fun b => ok b ∧ b ≠ g) w (.slice ao l.length cc) l) := hI
   obtain ⟨en, hen⟩ : ∃ en, l.length = en := ⟨_, rfl⟩
   have HEN : Hid (l.length = en) := hen
   rw [hen] at B
   clear hen hI
   have b0 := B.c 0 rfl; have b1 := B.c 1 rfl; have b2 := B.c 2 rfl; have b3 := B.c 3 rfl; have b4 := B.c 4 rfl; have b5 := B.c 5 rfl; have bl := B.lt
   have HK : ∀ W, Below w.heap.size w W → (fun w' : World => w'.cell? ⟨g, 0, none⟩ = some (.int .i64 x) ∧ w'.cell? ⟨g, 1, none⟩ = some (.int .i64 y) ∧ w'.cell? ⟨g, 2, none⟩ = some (.int .i64 s) ∧ w'.cell? ⟨g, 3, none⟩ = some (.int .i64 lv) ∧ w'.cell? ⟨g, 4, none⟩ = some (.slice ao en cc) ∧ w'.cell? ⟨g, 5, none⟩ = some (.slice none 0 0)) W := fun W h => ⟨(B.step h).c 0 rfl, (B.step h).c 1 rfl, (B.step h).c 2 rfl, (B.step h).c 3 rfl, (B.step h).c 4 rfl, (B.step h).c 5 rfl⟩
   have H0 : Below w.heap.size w w := Below.refl _ _
   go_enter Try.func81, Try.ntmps81
   go_upto_region 1 with fail
   go_region_held3 (fun w' : World => w'.cell? ⟨g, 0, none⟩ = some (.int .i64 x) ∧ w'.cell? ⟨g, 1, none⟩ = some (.int .i64 y) ∧ w'.cell? ⟨g, 2, none⟩ = some (.int .i64 s) ∧ w'.cell? ⟨g, 3, none⟩ = some (.int .i64 lv) ∧ w'.cell? ⟨g, 4, none⟩ = some (.slice ao en cc) ∧ w'.cell? ⟨g, 5, none⟩ = some (.slice none 0 0)) (refine HK _ ?_ <;> repeat (first | (with_reducible exact H0) | (with_reducible refine Below.drew ?_) | (with_reducible refine Below.alloc ?_ (by simp) _))) (fail)
   all_goals have B' := (B.alloc (.cells #[.int .i64 x, .int .i64 y, .int .i64 s, .bool false, .slice ao en cc] 55)).drew
   all_goals have HB : Below w.heap.size w (w.alloc (.cells #[.int .i64 x, .int .i64 y, .int .i64 s, .bool false, .slice ao en cc] 55)).drew := ((Below.refl _ w).alloc (Nat.le_refl _) _).drew
   all_goals have hnew : (w.alloc (.cells #[.int .i64 x, .int .i64 y, .int .i64 s, .bool false, .slice ao en cc] 55)).drew.heap[w.heap.size]? = some (.cells #[.int .i64 x, .int .i64 y, .int .i64 s, .bool false, .slice ao en cc] 55) := heap_alloc_new w _
   all_goals clear b0 b1 b2 b3 b4 b5 HK H0 B
   all_goals generalize (w.alloc (.cells #[.int .i64 x, .int .i64 y, .int .i64 s, .bool false, .slice ao en cc] 55)).drew = W at *
   all_goals have b5 := B'.c 5 rfl
   all_goals go_wp2_with fail
   all_goals go_loopw [3, 36] (fun o i wr => o = .slice (some ⟨w.heap.size, 0, none⟩) 1 1 ∧ i = .int .i64 0 ∧ wr = W) (fun _ _ _ => 0)
   case atStart => exact ⟨rfl, rfl, rfl⟩
   case round =>
     obtain ⟨rfl, rfl, rfl⟩ := hrel
     go_wp2
     go_ret
     exact ⟨_, [.slice ao en cc], rfl, ⟨rfl, .inr ⟨w.heap.size, 1, _, rfl, Nat.le_refl _, hnew, Nat.le_refl _, by unfold maxLen; omega, rfl, rfl⟩⟩, ⟨by rw [← HEN.out]; exact HI.out.mono (fun b h => h.1), fun b _ u hu => by simp at hu, trivial⟩, HB⟩
 | node K ih =>
   intro ok x y s lv g w hn hM
   obtain ⟨hog, A, kc, gs, oks, B, hA, hoA, hAg, hin, hap, hk⟩ := hM
   obtain ⟨hf, hhf⟩ : ∃ hf, s / 2 = hf := ⟨_, rfl⟩
   have HT : Hid (wrT (.node K) x y s = ((⟨x, y, s, true, []⟩ : WB) :: catW (fun k => wrT (K k) (kX x hf k) (kY y hf k) hf) 4)) := by show wrT (.node K) x y s = _; rw [← hhf]; rfl
   rw [HT.out] at hn
   have HLN : Hid ((catW (fun k => wrT (K k) (kX x hf k) (kY y hf k) hf) 4).length + 1 ≤ 1048576) := hn
   rw [hhf] at hk
   have HK2 : Hid (∀ k, k < 4 → w.cell? ⟨A, k, none⟩ = some (.pointer (some ⟨gs k, 0, none⟩)) ∧ STr (oks k) w (K k) (kX x hf k) (kY y hf k) hf (lv + 1) (gs k)) := hk
   have HIN : Hid (∀ k b, k < 4 → oks k b → ok b ∧ b ≠ g ∧ b ≠ A) := hin
   have HAP : Hid (∀ i j b, i < 4 → j < 4 → i ≠ j → oks i b → ¬ oks j b) := hap
   clear hk hn hhf hin hap
   have b0 := B.c 0 rfl; have b1 := B.c 1 rfl; have b2 := B.c 2 rfl; have b3 := B.c 3 rfl; have b4 := B.c 4 rfl; have b5 := B.c 5 rfl; have bl := B.lt
   have HK : ∀ W, Below w.heap.size w W → (fun w' : World => w'.cell? ⟨g, 0, none⟩ = some (.int .i64 x) ∧ w'.cell? ⟨g, 1, none⟩ = some (.int .i64 y) ∧ w'.cell? ⟨g, 2, none⟩ = some (.int .i64 s) ∧ w'.cell? ⟨g, 3, none⟩ = some (.int .i64 lv) ∧ w'.cell? ⟨g, 4, none⟩ = some (.slice none 0 0) ∧ w'.cell? ⟨g, 5, none⟩ = some (.slice (some ⟨A, 0, none⟩) 4 kc)) W := fun W h => ⟨(B.step h).c 0 rfl, (B.step h).c 1 rfl, (B.step h).c 2 rfl, (B.step h).c 3 rfl, (B.step h).c 4 rfl, (B.step h).c 5 rfl⟩
   have H0 : Below w.heap.size w w := Below.refl _ _
   go_enter Try.func81, Try.ntmps81
   go_upto_region 1 with fail
   go_region_held3 (fun w' : World => w'.cell? ⟨g, 0, none⟩ = some (.int .i64 x) ∧ w'.cell? ⟨g, 1, none⟩ = some (.int .i64 y) ∧ w'.cell? ⟨g, 2, none⟩ = some (.int .i64 s) ∧ w'.cell? ⟨g, 3, none⟩ = some (.int .i64 lv) ∧ w'.cell? ⟨g, 4, none⟩ = some (.slice none 0 0) ∧ w'.cell? ⟨g, 5, none⟩ = some (.slice (some ⟨A, 0, none⟩) 4 kc)) (refine HK _ ?_ <;> repeat (first | (with_reducible exact H0) | (with_reducible refine Below.drew ?_) | (with_reducible refine Below.alloc ?_ (by simp) _))) (fail)
   all_goals have B' := (B.alloc (.cells #[.int .i64 x, .int .i64 y, .int .i64 s, .bool true, .slice none 0 0] 55)).drew
   all_goals have HB : Below w.heap.size w (w.alloc (.cells #[.int .i64 x, .int .i64 y, .int .i64 s, .bool true, .slice none 0 0] 55)).drew := ((Below.refl _ w).alloc (Nat.le_refl _) _).drew
   all_goals have hnew : (w.alloc (.cells #[.int .i64 x, .int .i64 y, .int .i64 s, .bool true, .slice none 0 0] 55)).drew.heap[w.heap.size]? = some (.cells #[.int .i64 x, .int .i64 y, .int .i64 s, .bool true, .slice none 0 0] 55) := heap_alloc_new w _
   all_goals clear b0 b1 b2 b3 b4 b5 HK H0 B
   all_goals generalize (w.alloc (.cells #[.int .i64 x, .int .i64 y, .int .i64 s, .bool true, .slice none 0 0] 55)).drew = W at *
   all_goals have HO : W.ownsRow w.heap.size 55 5 (.slice (some ⟨w.heap.size, 0, none⟩) 1 1) 1 [.int .i64 x, .int .i64 y, .int .i64 s, .bool true, .slice none 0 0] := ⟨rfl, .inr ⟨w.heap.size, 1, _, rfl, Nat.le_refl _, hnew, Nat.le_refl _, by unfold maxLen; omega, rfl, rfl⟩⟩
   all_goals clear hnew
   all_goals have b5 := B'.c 5 rfl
   all_goals go_wp2_with fail
   all_goals go_loopw [3, 36] (fun out i wr => ∃ (c : Nat) (I : List Value), c ≤ 4 ∧ i = .int .i64 c ∧ wr.ownsRow w.heap.size 55 5 out ((⟨x, y, s, true, []⟩ : WB) :: catW (fun k => wrT (K k) (kX x hf k) (kY y hf k) hf) c).length (wbCs ((⟨x, y, s, true, []⟩ : WB) :: catW (fun k => wrT (K k) (kX x hf k) (kY y hf k) hf) c) I) ∧ IsP (fun b => ∃ j, j < c ∧ oks j b) w ((⟨x, y, s, true, []⟩ : WB) :: catW (fun k => wrT (K k) (kX x hf k) (kY y hf k) hf) c) I ∧ Below w.heap.size w wr) (fun _ i _ => 4 - (intOf i).toNat)
   case atStart => exact ⟨0, [.slice none 0 0], by omega, rfl, HO, ⟨⟨World.ownsRow_nil _ _ _ _, fun b e => (by cases e)⟩, ⟨fun b e => (by cases e), trivial⟩⟩, HB⟩
   case round =>
     clear HO HB b5 B'
     obtain ⟨c, I, hc, rfl, HO, hI, HBw⟩ := hrel
     have hIP : Hid (IsP (fun b => ∃ j, j < c ∧ oks j b) w ((⟨x, y, s, true, []⟩ : WB) :: catW (fun k => wrT (K k) (kX x hf k) (kY y hf k) hf) c) I) := hI
     clear hI
     by_cases hc4 : c < 4
     · have hcI : (c : Int) < 4 := by omega
       obtain ⟨ck, hM⟩ := HK2.out c hc4
       have hlc := catW_len (fun k => wrT (K k) (kX x hf k) (kY y hf k) hf) hc4
       have hl4 := HLN.out
       have hpl : ((⟨x, y, s, true, []⟩ : WB) :: catW (fun k => wrT (K k) (kX x hf k) (kY y hf k) hf) c).length = (catW (fun k => wrT (K k) (kX x hf k) (kY y hf k) hf) c).length + 1 := rfl
       have C := ih c (fun b => oks c b ∧ b < w.heap.size) (kX x hf c) (kY y hf c) hf (lv + 1) (gs c) wr (by omega) (STr.keep HBw.size (fun b _ hb => HBw.block b hb) (fun _ h h2 => ⟨h, h2⟩) hM)
       have cw := (HBw.cell (p := ⟨A, c, none⟩) hA).trans ck
       obtain ⟨Lk, hLk⟩ : ∃ Lk, wrT (K c) (kX x hf c) (kY y hf c) hf = Lk := ⟨_, rfl⟩
       have HLK : Hid (wrT (K c) (kX x hf c) (kY y hf c) hf = Lk) := hLk
       have hlk0 : 0 < Lk.length := by rw [← hLk]; exact wrT_pos _ _ _ _
       rw [hLk] at C
       have hlen : ((⟨x, y, s, true, []⟩ : WB) :: catW (fun k => wrT (K k) (kX x hf k) (kY y hf k) hf) c).length + Lk.length ≤ 1048576 := by rw [hpl, ← hLk]; omega
       obtain ⟨nc, hnc⟩ : ∃ nc, ((⟨x, y, s, true, []⟩ : WB) :: catW (fun k => wrT (K k) (kX x hf k) (kY y hf k) hf) c).length = nc := ⟨_, rfl⟩
       have HNC : Hid (((⟨x, y, s, true, []⟩ : WB) :: catW (fun k => wrT (K k) (kX x hf k) (kY y hf k) hf) c).length = nc) := hnc
       rw [hnc] at HO hlen
       clear hnc hpl hlc hl4 hLk hM ck
       go_wp2_with fail
       refine C.mono ?_
       rintro r w1 ⟨v2, I2, rfl, hO2, hI2', hB1⟩
       have hI2 : IsP (oks c) w Lk I2 := hI2'.keep (fun b hb _ => (HBw.block b hb.2).symm) (fun b hb _ => hb.1)
       have HV2 := hI2.toI
       obtain ⟨g2, c2, rfl, _, _, _, _⟩ := ownQ_form hO2 hlk0
       have HO1 := ownA_step HO hB1
       have HB1 := HBw.trans (hB1.mono HBw.size)
       clear HO C hB1 hI2' cw
       go_wp2_with (at_builtin; go_loud (refine wpList_append_own_at _ rfl _ _ 32 rfl w.heap.size 55 i0 (.agg #[.int .i64 0, .int .i64 0, .int .i64 0, .bool false, .slice none 0 0]) 5 56 Try.underlying32 hi0 hz0 hz1 hz2 rfl (by decide) _ _ _ rfl HO1 ⟨g2, 0, none⟩ Lk.length c2 (wbCs Lk I2) rfl (by rw [hO2.1]) (hO2.cells rfl) (wbCs_one HV2) (by unfold maxLen; omega) (by omega) HB1.size ?_))
       intro v3 Wz hO3 hgrow _ _
       have HON : Wz.ownsRow w.heap.size 55 5 v3 ((⟨x, y, s, true, []⟩ : WB) :: catW (fun k => wrT (K k) (kX x hf k) (kY y hf k) hf) (c + 1)).length (wbCs ((⟨x, y, s, true, []⟩ : WB) :: catW (fun k => wrT (K k) (kX x hf k) (kY y hf k) hf) (c + 1)) (I ++ I2)) := by
         show Wz.ownsRow _ _ _ _ (((((⟨x, y, s, true, []⟩ : WB) :: catW (fun k => wrT (K k) (kX x hf k) (kY y hf k) hf) c) : List WB) ++ wrT (K c) (kX x hf c) (kY y hf c) hf).length) (wbCs (((⟨x, y, s, true, []⟩ : WB) :: catW (fun k => wrT (K k) (kX x hf k) (kY y hf k) hf) c) ++ wrT (K c) (kX x hf c) (kY y hf c) hf) _)
         rw [HLK.out, wbCs_app hIP.out.toI, List.length_append, HNC.out]
         exact hO3
       have HINN : Hid (IsP (fun b => ∃ j, j < c + 1 ∧ oks j b) w ((⟨x, y, s, true, []⟩ : WB) :: catW (fun k => wrT (K k) (kX x hf k) (kY y hf k) hf) (c + 1)) (I ++ I2)) := by
         show IsP _ w (((⟨x, y, s, true, []⟩ : WB) :: catW (fun k => wrT (K k) (kX x hf k) (kY y hf k) hf) c) ++ wrT (K c) (kX x hf c) (kY y hf c) hf) _
         rw [HLK.out]
         refine IsP.keep (fun _ _ _ => rfl) (fun b hb _ => ?_) (IsP.app (fun b hb hb2 => ?_) hIP.out hI2)
         · rcases hb with ⟨j, hj, hb⟩ | hb
           · exact ⟨j, by omega, hb⟩
           · exact ⟨c, by omega, hb⟩
         · obtain ⟨j, hj, hb⟩ := hb
           exact HAP.out j c b (by omega) hc4 (by omega) hb hb2
       have HBN := HB1.grown hgrow HB1.size (fun k hk => (HO1.lt k hk).1)
       clear hgrow hO2 hO3 HO1 HBw HB1 hI2 HV2 hIP
       go_wp2
       go_roundw
       case rel => exact ⟨c + 1, I ++ I2, by omega, by go_num, HON, HINN.out, HBN⟩
       case measure => simp [intOf]; omega
     · obtain rfl : c = 4 := by omega
       have HF : Hid (IsP ok w ((⟨x, y, s, true, []⟩ : WB) :: catW (fun k => wrT (K k) (kX x hf k) (kY y hf k) hf) 4) I) := hIP.out.keep (fun _ _ _ => rfl) (fun b hb _ => by obtain ⟨j, hj, hb⟩ := hb; exact (HIN.out j b hj hb).1)
       clear hIP
       go_wp2
       go_ret
       exact ⟨_, I, rfl, by rw [HT.out]; exact HO, by rw [HT.out]; exact HF.out, HBw⟩
end Go.Proofs.Ytjhapeidafbncaa
