/- Part 11 of the walks that the proof leans on. -/
import Derived.Test.YtjhapeidafbncaaPart10
import Derived.Test.YtjhapeidafbncaaPart9
import Derived.Test.YtjhapeidafbncaaPart4
namespace Go.Proofs.Ytjhapeidafbncaa
open Go.RowKit
def okK (G : Nat) (v : Value) (b : Nat) : Prop := G < b ∧ some b ≠ v.ownBlock
theorem kp_le {Q : QD} {d at_ : Nat} {x y hf : Int} (hat : at_ ≤ Q.N) : ∀ k a, kp (fun a x y => mrd Q d a x y hf) at_ x y hf k = some a → at_ ≤ a ∧ a ≤ Q.N
 | 0, a, h => by cases h; omega
 | k + 1, a, h => by
   obtain ⟨b, h1, h2⟩ := Option.bind_eq_some_iff.1 h
   have := kp_le hat k b h1
   have := mrd_le h2
   omega
theorem kp_none {f : Nat → Int → Int → Option Nat} {at_ : Nat} {x y h : Int} {k : Nat} (h0 : kp f at_ x y h k = none) : ∀ j, kp f at_ x y h (k + j) = none
 | 0 => h0
 | j + 1 => by show (kp f at_ x y h (k + j)).bind _ = none; rw [kp_none h0 j]; rfl
theorem kid_wrap {x y s hf : Int} (hq : Sq x y s) (hh : s / 2 = hf) {k : Nat} (hk : k < 4) : wrap64 (s.tdiv 2) = hf ∧ wrap64 (x + wrap64 ((k : Int) % 2 * hf)) = kX x hf k ∧ wrap64 (y + wrap64 ((k : Int) / 2 * hf)) = kY y hf k := by
 have a1 := hq.x1; have a2 := hq.y1; have a3 := hq.s1; have a4 := hq.x2; have a5 := hq.y2
 have e : s.tdiv 2 = hf := by rw [← hh, Int.tdiv_eq_ediv_of_nonneg a3]
 rw [e]
 refine ⟨by unfold wrap64; omega, ?_⟩
 rcases (show k = 0 ∨ k = 1 ∨ k = 2 ∨ k = 3 by omega) with h | h | h | h <;> subst h <;> simp [kX, kY, wrap64] <;> omega
theorem Sq.kid {x y s : Int} (h : Sq x y s) {k : Nat} (hk : k < 4) : Sq (kX x (s / 2) k) (kY y (s / 2) k) (s / 2) := by
 obtain ⟨h1, h2, h3, h4⟩ := kid_in (x := x) (y := y) h.s1 hk
 have a1 := h.x1; have a2 := h.y1; have a3 := h.s1; have a4 := h.x2; have a5 := h.y2
 exact ⟨by omega, by omega, by omega, by omega, by omega⟩
set_option maxRecDepth 100000 in
set_option maxHeartbeats 16000000 in
theorem l13Read_node (Q : QD) (bo : Option Addr) (bcap A off : Nat) (so : Nat → Option Addr × Nat) (wb : World) (hN : Q.N ≤ 1048576) (hbo : 0 < Q.N → bo = some ⟨A, off, none⟩) (hso : ∀ i, i < Q.N → (so i).1 = none → (so i).2 = 0) (hBl : BlIn Q wb A off so) (d at_ : Nat) (x y s : Int) (w : World) (hd8 : d + 1 ≤ 8) (hb : baseB Q at_ x y s = true) (hT : Q.T at_ = true) (hL : Q.L at_ = 0) (hq : Sq x y s) (HB : Below wb.heap.size wb w)
   (ih : ∀ (at_ : Nat) (x y s : Int) (w : World), at_ ≤ Q.N → Sq x y s → Below wb.heap.size wb w → Calls Try.prog 58 #[.slice bo Q.N bcap, .int .i64 (at_ : Int), .int .i64 x, .int .i64 y, .int .i64 s, .int .i64 (d : Int)] w (RdM Q d at_ x y s w)) : Calls Try.prog 58 #[.slice bo Q.N bcap, .int .i64 (at_ : Int), .int .i64 x, .int .i64 y, .int .i64 s, .int .i64 ((d + 1 : Nat) : Int)] w (RdM Q (d + 1) at_ x y s w) := by
 obtain ⟨i0, hi, hz0, hz1, hz2⟩ := info_b13
 have hat : at_ < Q.N := (of_decide_eq_true hb).1
 have Hb : Hid (baseB Q at_ x y s = true) := hb
 have HT : Hid (Q.T at_ = true) := hT
 have HL : Hid (Q.L at_ = 0) := hL
 clear hb hT hL
 have hatI : (at_ : Int) ≤ 1048576 := by omega
 obtain ⟨D, hD⟩ : ∃ D : Int, ((d + 1 : Nat) : Int) = D := ⟨_, rfl⟩
 have hDd : D = (d : Int) + 1 := by omega
 rw [hD]
 have hD1 : ¬ (D < 1) := by omega
 have hD8 : D ≤ 8 := by omega
 have HD : Hid (D = (d : Int) + 1) := hDd
 clear hD hDd
 have HBl : Hid (BlIn Q wb A off so) := hBl
 obtain rfl := hbo (by omega)
 obtain ⟨hA, c0, c1, c2, c3, c4, hNo⟩ := hBl.below HB at_ hat
 have B0 : Blk (w.alloc (.cells #[.int .i64 0, .int .i64 0, .int .i64 0, .slice none 0 0, .slice none 0 0] 64)) w.heap.size [.int .i64 0, .int .i64 0, .int .i64 0, .slice none 0 0, .slice none 0 0] := Blk.new w [.int .i64 0, .int .i64 0, .int .i64 0, .slice none 0 0, .slice none 0 0] 64 rfl
 have HBA : Below w.heap.size w (w.alloc (.cells #[.int .i64 0, .int .i64 0, .int .i64 0, .slice none 0 0, .slice none 0 0] 64)) := (Below.refl _ w).alloc (Nat.le_refl _) _
 have hcI : (at_ : Int) < Q.N := by omega
 have HI : NoIn w (so at_).1 (blL Q at_).length (fun i => (blL Q at_).getD i 0) := (fun i hi => by rw [blL_len] at hi; obtain ⟨A1, o1, e1, h1, h2⟩ := hNo i hi; exact ⟨A1, o1, e1, h1, by show _ = some (Value.int _ ((blL Q at_).getD i 0)); rw [h2, blL_at hi]⟩)
 clear hNo
 go_enter Try.func58, Try.ntmps58
 go_upto_region 4 with fail
 replace B0 := B0.alloc (.cells #[.int .i64 (Q.X at_), .int .i64 (Q.Y at_), .int .i64 (Q.Z at_), .bool (Q.T at_), .slice (so at_).1 (Q.L at_) (so at_).2] 55)
 have B1 : Blk ((w.alloc (.cells #[.int .i64 0, .int .i64 0, .int .i64 0, .slice none 0 0, .slice none 0 0] 64)).alloc (.cells #[.int .i64 (Q.X at_), .int .i64 (Q.Y at_), .int .i64 (Q.Z at_), .bool (Q.T at_), .slice (so at_).1 (Q.L at_) (so at_).2] 55)) (w.heap.size + 1) [.int .i64 (Q.X at_), .int .i64 (Q.Y at_), .int .i64 (Q.Z at_), .bool (Q.T at_), .slice (so at_).1 (Q.L at_) (so at_).2] := Blk.new (w.alloc (.cells #[.int .i64 0, .int .i64 0, .int .i64 0, .slice none 0 0, .slice none 0 0] 64)) [.int .i64 (Q.X at_), .int .i64 (Q.Y at_), .int .i64 (Q.Z at_), .bool (Q.T at_), .slice (so at_).1 (Q.L at_) (so at_).2] 55 (by simp)
 replace HBA := HBA.alloc (by simp) (.cells #[.int .i64 (Q.X at_), .int .i64 (Q.Y at_), .int .i64 (Q.Z at_), .bool (Q.T at_), .slice (so at_).1 (Q.L at_) (so at_).2] 55)
 have hsz : Hid (((w.alloc (.cells #[.int .i64 0, .int .i64 0, .int .i64 0, .slice none 0 0, .slice none 0 0] 64)).alloc (.cells #[.int .i64 (Q.X at_), .int .i64 (Q.Y at_), .int .i64 (Q.Z at_), .bool (Q.T at_), .slice (so at_).1 (Q.L at_) (so at_).2] 55)).heap.size = w.heap.size + 2) := by show _ = _; simp
 replace HI := HI.step HBA
 clear c0 c1 c2 c3 c4
 generalize ((w.alloc (.cells #[.int .i64 0, .int .i64 0, .int .i64 0, .slice none 0 0, .slice none 0 0] 64)).alloc (.cells #[.int .i64 (Q.X at_), .int .i64 (Q.Y at_), .int .i64 (Q.Z at_), .bool (Q.T at_), .slice (so at_).1 (Q.L at_) (so at_).2] 55)) = W1 at *
 have HBB : Below wb.heap.size wb W1 := HB.trans (HBA.mono HB.size)
 obtain ⟨_, hX, hY, hZ⟩ := of_decide_eq_true Hb.out
 have hL := HL.out
 rw [HT.out, hL] at B1
 have z0 := B0.c 0 rfl; have y0 := B0.f 0 rfl; have z1 := B0.c 1 rfl; have y1 := B0.f 1 rfl; have z2 := B0.c 2 rfl; have y2 := B0.f 2 rfl; have z3 := B0.c 3 rfl; have y3 := B0.f 3 rfl; have z4 := B0.c 4 rfl; have y4 := B0.f 4 rfl; have m0 := B1.c 0 rfl; have m1 := B1.c 1 rfl; have m2 := B1.c 2 rfl; have m3 := B1.c 3 rfl; have m4 := B1.c 4 rfl
 rw [hX] at m0; rw [hY] at m1; rw [hZ] at m2
 have m9 := (B1.alloc (.cells #[] 2)).c 4 rfl
 have HBW := HBA
 have hbl : blL Q at_ = [] := by unfold blL; rw [hL]; rfl
 rw [hbl] at HI
 clear hX hY hZ hL hbl
 go_wp2_with (at_builtin; go_loud (refine wpList_append_ids rfl _ _ rfl W1.heap.size _ rfl (World.ownsRow_made W1 #[] 0 (Nat.le_refl _) (by decide) rfl) [] (so at_).1 (so at_).2 rfl (HI.step ((Below.refl _ _).alloc (Nat.le_refl _) _)) (hso at_ hat) (by simp) (by simp) ?_))
 intro v w2 r1 r2 r4
 obtain ⟨ao, c, rfl, hNi, hn0, hok⟩ := IdV.of (l := []) r1
 replace hNi : NoIn w2 ao 0 (fun i => ([] : List Int).getD i 0) := hNi
 change w2.ownsRow W1.heap.size 2 1 (.slice ao 0 c) 0 [] at r1
 have HB2 : Below W1.heap.size W1 w2 := ((Below.refl _ _).alloc (Nat.le_refl _) _).grown r2 (by simp) (fun k hk => by cases hk; exact Nat.le_refl _)
 replace B0 := (B0.step HB2).alloc (.cells #[.int .i64 x, .int .i64 y, .int .i64 s, .slice none 0 0, .slice ao 0 c] 64)
 replace B1 := (B1.step HB2).alloc (.cells #[.int .i64 x, .int .i64 y, .int .i64 s, .slice none 0 0, .slice ao 0 c] 64)
 have B2 : Blk (w2.alloc (.cells #[.int .i64 x, .int .i64 y, .int .i64 s, .slice none 0 0, .slice ao 0 c] 64)) w2.heap.size [.int .i64 x, .int .i64 y, .int .i64 s, .slice none 0 0, .slice ao 0 c] := Blk.new w2 [.int .i64 x, .int .i64 y, .int .i64 s, .slice none 0 0, .slice ao 0 c] 64 rfl
 replace HBA := (HBA.trans (HB2.mono HBA.size)).alloc (Nat.le_trans HBA.size HB2.size) (.cells #[.int .i64 x, .int .i64 y, .int .i64 s, .slice none 0 0, .slice ao 0 c] 64)
 have hI5 : IdV (fun b => W1.heap.size ≤ b ∧ b < w2.heap.size) (w2.alloc (.cells #[.int .i64 x, .int .i64 y, .int .i64 s, .slice none 0 0, .slice ao 0 c] 64)) (.slice ao 0 c) [] := IdV.step ⟨_, _, rfl, hNi, hn0, fun A o sp e => ⟨⟨(hok A o sp e).1, (hok A o sp e).2⟩, (hok A o sp e).2⟩⟩ ((Below.refl _ _).alloc (Nat.le_refl _) _)
 have hWsz : Hid (w.heap.size < W1.heap.size) := by show w.heap.size < W1.heap.size; have := hsz.out; omega
 have HSZ : Hid (w2.heap.size = W1.heap.size + 1 ∨ w.heap.size + 2 < w2.heap.size) := .inr (by have h := r2.size; have := hsz.out; simp at h; omega)
 clear r1 r2 r4 hNi m9 HB2 HI HBW
 clear z0 z1 z2 z3 z4 y0 y1 y2 y3 y4 m0 m1 m2 m3 m4
 go_upto_region 8 with fail
 generalize (w2.alloc (.cells #[.int .i64 x, .int .i64 y, .int .i64 s, .slice none 0 0, .slice ao 0 c] 64)) = W3 at *
 obtain ⟨G, hG⟩ : ∃ G, w2.heap.size = G := ⟨_, rfl⟩
 have hGw : w.heap.size + 2 < G := by rcases HSZ.out with h | h <;> have := hsz.out <;> omega
 rw [hG] at B2 hI5 ⊢
 clear hG HSZ hsz
 have hBBW : Below wb.heap.size wb W3 := HB.trans (HBA.mono HB.size)
 obtain ⟨hf, hhf⟩ : ∃ hf, s / 2 = hf := ⟨_, rfl⟩
 obtain ⟨TK, hTK⟩ : ∃ TK : Nat → QT, (fun k => trQ Q d ((kp (fun a x y => mrd Q d a x y hf) (at_ + 1) x y hf k).getD 0) (kX x hf k) (kY y hf k) hf) = TK := ⟨_, rfl⟩
 have HHF : Hid (s / 2 = hf) := hhf
 have HTK : Hid ((fun k => trQ Q d ((kp (fun a x y => mrd Q d a x y hf) (at_ + 1) x y hf k).getD 0) (kX x hf k) (kY y hf k) hf) = TK) := hTK
 clear hTK
 have m3 := B1.c 3 rfl
 go_wp2_with fail
 clear m3
 go_loopw [1, 17] (fun iat ik wr => ∃ (k a : Nat) (kv : Value) (kvf evf : Nat → Value), k ≤ 4 ∧ ik = .int .i64 k ∧ iat = .int .i64 a ∧ kp (fun a x y => mrd Q d a x y hf) (at_ + 1) x y hf k = some a ∧ Blk wr G [.int .i64 x, .int .i64 y, .int .i64 s, kv, .slice ao 0 c] ∧ wr.ownsRow (G + 1) 64 5 kv k (kdL x y hf kvf evf k) ∧ (∀ j, j < k → MTr (okK G kv) wr (TK j) (kX x hf j) (kY y hf j) hf (kvf j) (evf j)) ∧ Below G W3 wr ∧ G < wr.heap.size) (fun _ i _ => 4 - (intOf i).toNat)
 case atStart => exact ⟨0, at_ + 1, .slice none 0 0, fun _ => .slice none 0 0, fun _ => .slice none 0 0, by omega, rfl, by push_cast; rfl, rfl, B2, World.ownsRow_nil _ _ _ _, fun j hj => absurd hj (by omega), Below.refl _ _, B2.lt⟩
 case round =>
   obtain ⟨k, a, kv, kvf, evf, hk, rfl, rfl, hkp, BG, HO, HM, HBG, hGl⟩ := hrel
   by_cases hk4 : k < 4
   · have hkI : (k : Int) < 4 := by omega
     have hDm : D - 1 = (d : Int) := by have := HD.out; omega
     have hsq := hq.kid hk4
     rw [HHF.out] at hsq
     obtain ⟨m1, m2⟩ : at_ + 1 ≤ a ∧ a ≤ Q.N := kp_le (by omega) k a hkp
     have C := ih a (kX x hf k) (kY y hf k) hf wr m2 hsq (hBBW.trans (HBG.mono (by have := HB.size; omega)))
     obtain ⟨wv0, wv1, wv2⟩ := kid_wrap hq HHF.out hk4
     go_wp2_with fail
     rw [wv0, wv1, wv2]
     refine C.mono ?_
     rintro r w1 ⟨hB1, hC⟩
     rcases hC with ⟨hn, rfl⟩ | ⟨e, kv1, ev1, he, rfl, hM1⟩
     · have hkn : Hid (mrd Q (d + 1) at_ x y s = none) := by
         show _ = _
         rw [mrd_split Hb.out HT.out HL.out, HHF.out]
         have h1 : kp (fun a x y => mrd Q d a x y hf) (at_ + 1) x y hf (k + 1) = none := by show (kp (fun a x y => mrd Q d a x y hf) (at_ + 1) x y hf k).bind _ = none; rw [hkp]; exact hn
         have h2 := kp_none h1 (3 - k)
         rw [show k + 1 + (3 - k) = 4 by omega] at h2
         exact h2
       have B0w := ((B0.below HBG (by omega)).step hB1).alloc (.cells #[.int .i64 0, .int .i64 0, .int .i64 0, .slice none 0 0, .slice none 0 0] 64)
       replace HBA := (((HBA.trans (HBG.mono (by omega))).trans (hB1.mono (by omega)))).alloc (by have := hB1.size; omega) (.cells #[.int .i64 0, .int .i64 0, .int .i64 0, .slice none 0 0, .slice none 0 0] 64)
       have BF := z5_set B0w
       have z0 := B0w.c 0 rfl; have z1 := B0w.c 1 rfl; have z2 := B0w.c 2 rfl; have z3 := B0w.c 3 rfl; have z4 := B0w.c 4 rfl; have y0 := B0w.f 0 rfl; have y1 := B0w.f 1 rfl; have y2 := B0w.f 2 rfl; have y3 := B0w.f 3 rfl; have y4 := B0w.f 4 rfl
       clear B0w HM HO BG hkp hn C
       go_upto_region 15 with fail
       generalize (w1.alloc (.cells #[.int .i64 0, .int .i64 0, .int .i64 0, .slice none 0 0, .slice none 0 0] 64)) = W5 at *
       go_wp2
       have r0 := BF.out.c 0 rfl; have r1 := BF.out.c 1 rfl; have r2 := BF.out.c 2 rfl; have r3 := BF.out.c 3 rfl; have r4 := BF.out.c 4 rfl
       refine bodyPost_ret (v := .tuple #[.agg #[.int .i64 0, .int .i64 0, .int .i64 0, .slice none 0 0, .slice none 0 0], .int .i64 0, .bool false]) (by simp [results, Try.results58, go_sem, r0, r1, r2, r3, r4]) rfl ?_
       exact ⟨(((((Below.setCell HBA (Nat.le_refl _) _).setCell (Nat.le_refl _) _).setCell (Nat.le_refl _) _).setCell (Nat.le_refl _) _).setCell (Nat.le_refl _) _), .inl ⟨hkn.out, rfl⟩⟩
     · obtain ⟨ko, kn, kc, eo, en, ec, rfl, rfl⟩ := hM1.vals
       have B5 : Blk (w1.alloc (.cells #[.int .i64 (kX x hf k), .int .i64 (kY y hf k), .int .i64 hf, .slice ko kn kc, .slice eo en ec] 64)) w1.heap.size [.int .i64 (kX x hf k), .int .i64 (kY y hf k), .int .i64 hf, .slice ko kn kc, .slice eo en ec] := Blk.new w1 [.int .i64 (kX x hf k), .int .i64 (kY y hf k), .int .i64 hf, .slice ko kn kc, .slice eo en ec] 64 rfl
       have HB15 : Below wr.heap.size wr (w1.alloc (.cells #[.int .i64 (kX x hf k), .int .i64 (kY y hf k), .int .i64 hf, .slice ko kn kc, .slice eo en ec] 64)) := hB1.alloc hB1.size _
       have HM5 : Hid (∀ j, j < k → MTr (okK G kv) (w1.alloc (.cells #[.int .i64 (kX x hf k), .int .i64 (kY y hf k), .int .i64 hf, .slice ko kn kc, .slice eo en ec] 64)) (TK j) (kX x hf j) (kY y hf j) hf (kvf j) (evf j)) := fun j hj => (HM j hj).step HB15
       have hM5 : MTr (fun b => wr.heap.size ≤ b) (w1.alloc (.cells #[.int .i64 (kX x hf k), .int .i64 (kY y hf k), .int .i64 hf, .slice ko kn kc, .slice eo en ec] 64)) (trQ Q d a (kX x hf k) (kY y hf k) hf) (kX x hf k) (kY y hf k) hf (.slice ko kn kc) (.slice eo en ec) := hM1.step ((Below.refl _ _).alloc (Nat.le_refl _) _)
       have hkvb : ∀ b, kv.ownBlock = some b → b < wr.heap.size := fun b hb => (HO.lt b hb).2
       go_upto_region 16 with fail
       replace BG := BG.step HB15
       replace HO := ownA_step HO HB15
       replace HBG := HBG.trans (HB15.mono (Nat.le_of_lt hGl))
       have hwr5 := HB15.size
       have h15 : w1.heap.size < (w1.alloc (.cells #[.int .i64 (kX x hf k), .int .i64 (kY y hf k), .int .i64 hf, .slice ko kn kc, .slice eo en ec] 64)).heap.size := by simp
       clear HM hM1 HB15 hB1 C wv0 wv1 wv2
       generalize (w1.alloc (.cells #[.int .i64 (kX x hf k), .int .i64 (kY y hf k), .int .i64 hf, .slice ko kn kc, .slice eo en ec] 64)) = W5 at *
       have p0 := B5.c 0 rfl; have p1 := B5.c 1 rfl; have p2 := B5.c 2 rfl; have p3 := B5.c 3 rfl; have p4 := B5.c 4 rfl
       have g3 := BG.c 3 rfl
       have HO6 := ownA_step HO ((Below.refl _ _).alloc (Nat.le_refl _) (.cells #[.int .i64 (kX x hf k), .int .i64 (kY y hf k), .int .i64 hf, .slice ko kn kc, .slice eo en ec] 64))
       have BG6 := BG.alloc (.cells #[.int .i64 (kX x hf k), .int .i64 (kY y hf k), .int .i64 hf, .slice ko kn kc, .slice eo en ec] 64)
       have HBG6 := HBG.alloc (Nat.le_of_lt (Nat.lt_of_lt_of_le hGl hwr5)) (.cells #[.int .i64 (kX x hf k), .int .i64 (kY y hf k), .int .i64 hf, .slice ko kn kc, .slice eo en ec] 64)
       have hs6 : Hid ((W5.alloc (.cells #[.int .i64 (kX x hf k), .int .i64 (kY y hf k), .int .i64 hf, .slice ko kn kc, .slice eo en ec] 64)).heap.size = W5.heap.size + 1) := by show (W5.alloc _).heap.size = _; simp
       go_wp2_with (at_builtin; go_loud (refine wpList_append_own_at _ rfl _ _ 62 rfl (G + 1) 64 i0 (.agg #[.int .i64 0, .int .i64 0, .int .i64 0, .slice none 0 0, .slice none 0 0]) 5 72 Try.underlying62 hi hz0 hz1 hz2 rfl (by decide) _ _ _ rfl HO6 ⟨W5.heap.size, 0, none⟩ 1 1 [.int .i64 (kX x hf k), .int .i64 (kY y hf k), .int .i64 hf, .slice ko kn kc, .slice eo en ec] rfl rfl (new_cells _ _ _) (one5 _ _ _ _ _ _ _ _ _) (by unfold maxLen; omega) (by omega) (by have := hs6.out; omega) ?_))
       intro v' w' hown hgrow _ hob
       have hold : ∀ b, b < W5.heap.size → some b ≠ kv.ownBlock → w'.heap[b]? = W5.heap[b]? := fun b hb hne => (hgrow.block b (by have := hs6.out; omega) hne).trans (((Below.refl W5.heap.size W5).alloc (Nat.le_refl _) _).block b hb)
       have hsz5 : W5.heap.size ≤ w'.heap.size := by have h := hgrow.size; have := hs6.out; omega
       have HKN : Hid (∀ j, j < k + 1 → MTr (okK G v') w' (TK j) (kX x hf j) (kY y hf j) hf (setV kvf k (.slice ko kn kc) j) (setV evf k (.slice eo en ec) j)) := fun j hj => by
         by_cases e2 : j = k
         · subst e2
           rw [show setV kvf j (.slice ko kn kc) j = .slice ko kn kc from if_pos rfl, show setV evf j (.slice eo en ec) j = .slice eo en ec from if_pos rfl, ← HTK.out]
           simp only [hkp, Option.getD_some]
           refine MTr.keep hsz5 (fun b hb hb2 => hold b hb2 (fun e3 => by have := hkvb b e3.symm; omega)) (fun b hb hb2 => ⟨by omega, fun e3 => ?_⟩) hM5
           rcases hob with h | h
           · rw [h] at e3; have := hkvb b e3.symm; omega
           · rw [h] at e3; have := Option.some.inj e3; omega
         · rw [show setV kvf k (.slice ko kn kc) j = kvf j from if_neg e2, show setV evf k (.slice eo en ec) j = evf j from if_neg e2]
           refine MTr.keep hsz5 (fun b hb hb2 => hold b hb2 hb.2) (fun b hb hb2 => ⟨hb.1, fun e3 => ?_⟩) (HM5.out j (by omega))
           rcases hob with h | h
           · rw [h] at e3; exact hb.2 e3
           · rw [h] at e3; have := Option.some.inj e3; omega
       obtain ⟨ao', cap', rfl⟩ := ownQ_slice hown
       rw [← kdL_set] at hown
       have BG7 := BG6.grown hgrow (fun e3 => by have := (HO6.lt G e3.symm).1; omega)
       have HBG7 := HBG6.grown hgrow (by have := hs6.out; omega) (fun b hb => by have := (HO6.lt b hb).1; omega)
       have g3f := BG7.f 3 rfl; have g3c := BG7.c 3 rfl
       have BGN : Blk (w'.setCell ⟨G, 3, none⟩ (.slice ao' (k + 1) cap')) G [.int .i64 x, .int .i64 y, .int .i64 s, .slice ao' (k + 1) cap', .slice ao 0 c] := BG7.setI 3 (by simp) _
       have HON : (w'.setCell ⟨G, 3, none⟩ (.slice ao' (k + 1) cap')).ownsRow (G + 1) 64 5 (.slice ao' (k + 1) cap') (k + 1) (kdL x y hf (setV kvf k (.slice ko kn kc)) (setV evf k (.slice eo en ec)) (k + 1)) := ownQ_heap hown (fun b hb => Below.heap_setCell _ _ _ _ (by have := (hown.lt b hb).1; show b ≠ G; omega))
       have HMN : Hid (∀ j, j < k + 1 → MTr (okK G (.slice ao' (k + 1) cap')) (w'.setCell ⟨G, 3, none⟩ (.slice ao' (k + 1) cap')) (TK j) (kX x hf j) (kY y hf j) hf (setV kvf k (.slice ko kn kc) j) (setV evf k (.slice eo en ec) j)) := fun j hj => MTr.keep (by simp [World.setCell]) (fun b hb _ => Below.heap_setCell _ _ _ _ (by have := hb.1; show b ≠ G; omega)) (fun _ h _ => h) (HKN.out j hj)
       have HBN : Below G W3 (w'.setCell ⟨G, 3, none⟩ (.slice ao' (k + 1) cap')) := HBG7.setCell (Nat.le_refl _) _
       have hkpN : Hid (kp (fun a x y => mrd Q d a x y hf) (at_ + 1) x y hf (k + 1) = some e) := by show (kp (fun a x y => mrd Q d a x y hf) (at_ + 1) x y hf k).bind _ = some e; rw [hkp]; exact he
       have hGN := BGN.lt
       clear HKN BG7 HBG7 hown hgrow hob hold hsz5 HO6 BG6 HBG6 hs6 p0 p1 p2 p3 p4 g3 HO BG HBG hkp HM5 hM5 B5 hkvb
       go_wp2
       go_roundw
       case rel => exact ⟨k + 1, e, _, _, _, by omega, by go_num, rfl, hkpN.out, BGN, HON, HMN.out, HBN, hGN⟩
       case measure => simp [intOf]; omega
   · obtain rfl : k = 4 := by omega
     obtain ⟨gk, ck, rfl, hgk1, hgk2, _, _⟩ := ownQ_form HO (by omega)
     have B0w := B0.below HBG (by omega)
     have HBA2 := HBA.trans (HBG.mono (by omega))
     have hI6 := hI5.below HBG (fun b hb => hb.2)
     have MN : Hid (MTr (fun b => w.heap.size < b) wr (.node TK) x y s (.slice (some ⟨gk, 0, none⟩) 4 ck) (.slice ao 0 c)) := by
       refine MTr.node_of (kv' := kvf) (ev' := evf) (base := G + 1) (fun b hb => by omega) (hI6.keep (Nat.le_refl _) (fun _ _ _ => rfl) (fun b hb _ => by have := hWsz.out; have := hb.1; omega)) ?_ (fun k hk4 => ?_)
       · rw [HHF.out]; exact HO
       · rw [HHF.out]
         exact MTr.keep (Nat.le_refl _) (fun _ _ _ => rfl) (fun b hb _ => by have := hb.1; omega) (HM k hk4)
     have hmr : Hid (mrd Q (d + 1) at_ x y s = some a) := by show _ = _; rw [mrd_split Hb.out HT.out HL.out, HHF.out]; exact hkp
     have htr : Hid (trQ Q (d + 1) at_ x y s = .node TK) := by
       show _ = _
       rw [show trQ Q (d + 1) at_ x y s = if Q.T at_ = true then .node (fun k => trQ Q d ((kp (fun a x y => mrd Q d a x y (s / 2)) (at_ + 1) x y (s / 2) k).getD 0) (kX x (s / 2) k) (kY y (s / 2) k) (s / 2)) else .leaf (blL Q at_) from rfl, if_pos HT.out, HHF.out, HTK.out]
     have z0 := B0w.c 0 rfl; have z1 := B0w.c 1 rfl; have z2 := B0w.c 2 rfl; have z3 := B0w.c 3 rfl; have z4 := B0w.c 4 rfl; have y0 := B0w.f 0 rfl; have y1 := B0w.f 1 rfl; have y2 := B0w.f 2 rfl; have y3 := B0w.f 3 rfl; have y4 := B0w.f 4 rfl
     have n0 := BG.c 0 rfl; have n1 := BG.c 1 rfl; have n2 := BG.c 2 rfl; have n3 := BG.c 3 rfl; have n4 := BG.c 4 rfl
     have BF : Hid (Blk (((((wr.setCell ⟨w.heap.size, 0, none⟩ (.int .i64 x)).setCell ⟨w.heap.size, 1, none⟩ (.int .i64 y)).setCell ⟨w.heap.size, 2, none⟩ (.int .i64 s)).setCell ⟨w.heap.size, 3, none⟩ (.slice (some ⟨gk, 0, none⟩) 4 ck)).setCell ⟨w.heap.size, 4, none⟩ (.slice ao 0 c)) w.heap.size [.int .i64 x, .int .i64 y, .int .i64 s, .slice (some ⟨gk, 0, none⟩) 4 ck, .slice ao 0 c]) := ((((B0w.setI 0 (by decide) _).setI 1 (by simp) _).setI 2 (by simp) _).setI 3 (by simp) _).setI 4 (by simp) _
     clear HM HO BG HBG HBA hI6 hkp B0w
     go_wp2
     have r0 := BF.out.c 0 rfl; have r1 := BF.out.c 1 rfl; have r2 := BF.out.c 2 rfl; have r3 := BF.out.c 3 rfl; have r4 := BF.out.c 4 rfl
     refine bodyPost_ret (v := .tuple #[.agg #[.int .i64 x, .int .i64 y, .int .i64 s, .slice (some ⟨gk, 0, none⟩) 4 ck, .slice ao 0 c], .int .i64 (a : Int), .bool true]) (by simp [results, Try.results58, go_sem, r0, r1, r2, r3, r4]) rfl ?_
     refine ⟨(((((Below.setCell HBA2 (Nat.le_refl _) _).setCell (Nat.le_refl _) _).setCell (Nat.le_refl _) _).setCell (Nat.le_refl _) _).setCell (Nat.le_refl _) _), .inr ⟨a, _, _, hmr.out, rfl, ?_⟩⟩
     rw [htr.out]
     exact MTr.keep (by simp [World.setCell]) (fun b hb _ => z5_other (by omega)) (fun b hb _ => Nat.le_of_lt hb) MN.out
theorem l13Read_any (Q : QD) (bo : Option Addr) (bcap A off : Nat) (so : Nat → Option Addr × Nat) (wb : World) (hN : Q.N ≤ 1048576) (hLb : ∀ i, i < Q.N → Q.L i ≤ 1048576) (hbo : 0 < Q.N → bo = some ⟨A, off, none⟩) (hso : ∀ i, i < Q.N → (so i).1 = none → (so i).2 = 0) (hBl : BlIn Q wb A off so) : ∀ (d at_ : Nat) (x y s : Int) (w : World), d ≤ 8 → at_ ≤ Q.N → Sq x y s → Below wb.heap.size wb w → Calls Try.prog 58 #[.slice bo Q.N bcap, .int .i64 (at_ : Int), .int .i64 x, .int .i64 y, .int .i64 s, .int .i64 (d : Int)] w (RdM Q d at_ x y s w) := by
 intro d
 induction d with
 | zero =>
   intro at_ x y s w hd hat _ HB
   exact l13Read_base Q bo bcap A off so wb hN hLb hbo hso hBl 0 at_ x y s w hd hat (fun h => absurd h.2.2.1 (by omega)) HB
 | succ d ih =>
   intro at_ x y s w hd hat hq HB
   by_cases hc : baseB Q at_ x y s = true ∧ Q.T at_ = true ∧ Q.L at_ = 0
   · exact l13Read_node Q bo bcap A off so wb hN hbo hso hBl d at_ x y s w hd hc.1 hc.2.1 hc.2.2 hq HB (fun a x y s w ha hq hB => ih a x y s w (by omega) ha hq hB)
   · exact l13Read_base Q bo bcap A off so wb hN hLb hbo hso hBl (d + 1) at_ x y s w hd hat (fun h => hc ⟨h.1, h.2.1, h.2.2.2⟩) HB
set_option maxRecDepth 100000 in
set_option maxHeartbeats 8000000 in
theorem treeRight_any (Q : QD) (ao : Option Addr) (cap : Nat) (h6 : Its6 Q (List.range Q.m)) (hm : Q.m ≤ 1048576) (t : QT) : ∀ (x y s : Int) (ok : Nat → Prop) (kv ev : Value) (w : World), Sq x y s → lenT t → MTr ok w t x y s kv ev → ItIn Q w ao (List.range Q.m) → Calls Try.prog 59 #[.agg #[.int .i64 x, .int .i64 y, .int .i64 s, kv, ev], .slice ao Q.m cap] w (VP (.bool (rtT Q t x y s)) w) := by
 induction t with
 | leaf l =>
   intro x y s ok kv ev w hq hl hM hS
   obtain ⟨rfl, eo, ec, rfl, hN, _⟩ := hM
   exact treeRight_leaf Q ao cap h6 hm l x y s eo ec hq hl w hN hS
 | node K ih =>
   intro x y s ok kv ev w hq hl hM hS
   obtain ⟨eo, en, ec, rfl⟩ : ∃ eo en ec, ev = .slice eo en ec := by obtain ⟨⟨ao, c, h, _⟩, _⟩ := hM; exact ⟨_, _, _, h⟩
   obtain ⟨_, A, kc, rfl, hA, _, hk⟩ := hM
   have B0 : Blk (w.alloc (.cells #[.int .i64 x, .int .i64 y, .int .i64 s, .slice (some ⟨A, 0, none⟩) 4 kc, .slice eo en ec] 64)) w.heap.size [.int .i64 x, .int .i64 y, .int .i64 s, .slice (some ⟨A, 0, none⟩) 4 kc, .slice eo en ec] := Blk.new w [.int .i64 x, .int .i64 y, .int .i64 s, .slice (some ⟨A, 0, none⟩) 4 kc, .slice eo en ec] 64 rfl
   have HB : Below w.heap.size w (w.alloc (.cells #[.int .i64 x, .int .i64 y, .int .i64 s, .slice (some ⟨A, 0, none⟩) 4 kc, .slice eo en ec] 64)) := (Below.refl _ w).alloc (Nat.le_refl _) _
   obtain ⟨hf, hhf⟩ : ∃ hf, s / 2 = hf := ⟨_, rfl⟩
   have HHF : Hid (s / 2 = hf) := hhf
   rw [hhf] at hk
   clear hhf
   have HK : Hid (∀ k, k < 4 → ∃ kv' ev', w.cell? ⟨A, k * 5, none⟩ = some (.int .i64 (kX x hf k)) ∧ w.cell? ⟨A, k * 5 + 1, none⟩ = some (.int .i64 (kY y hf k)) ∧ w.cell? ⟨A, k * 5 + 2, none⟩ = some (.int .i64 hf) ∧ w.cell? ⟨A, k * 5 + 3, none⟩ = some kv' ∧ w.cell? ⟨A, k * 5 + 4, none⟩ = some ev' ∧ MTr ok w (K k) (kX x hf k) (kY y hf k) hf kv' ev') := hk
   have HS : Hid (ItIn Q w ao (List.range Q.m)) := hS
   clear hk hS
   go_enter Try.func59, Try.ntmps59
   go_upto_region 1 with fail
   generalize (w.alloc (.cells #[.int .i64 x, .int .i64 y, .int .i64 s, .slice (some ⟨A, 0, none⟩) 4 kc, .slice eo en ec] 64)) = W1 at *
   have m3 := B0.c 3 rfl
   go_wp2_with fail
   clear m3
   go_loopw [5] (fun i wr => ∃ c : Nat, c ≤ 4 ∧ i = .int .i64 c ∧ (∀ j, j < c → rtT Q (K j) (kX x hf j) (kY y hf j) hf = true) ∧ Blk wr w.heap.size [.int .i64 x, .int .i64 y, .int .i64 s, .slice (some ⟨A, 0, none⟩) 4 kc, .slice eo en ec] ∧ Below w.heap.size w wr) (fun i _ => 4 - (intOf i).toNat)
   case atStart => exact ⟨0, by omega, rfl, fun j hj => absurd hj (by omega), B0, HB⟩
   case round =>
     clear B0 HB
     obtain ⟨c, hc, rfl, hall, B0, HB⟩ := hrel
     have HALL : Hid (∀ j, j < c → rtT Q (K j) (kX x hf j) (kY y hf j) hf = true) := hall
     clear hall
     by_cases hc4 : c < 4
     · have hcI : (c : Int) < 4 := by omega
       obtain ⟨kv', ev', c0, c1, c2, c3, c4, hM⟩ := HK.out c hc4
       obtain ⟨ko, kn, kc', eo', en', ec', rfl, rfl⟩ := hM.vals
       have hsq := hq.kid hc4
       rw [HHF.out] at hsq
       have C := ih c (kX x hf c) (kY y hf c) hf ok _ _ wr hsq (hl c hc4) (MTr.keep HB.size (fun b _ hb => HB.block b hb) (fun _ h _ => h) hM) (HS.out.step HB)
       have hcc : ∀ j, wr.cell? ⟨A, j, none⟩ = w.cell? ⟨A, j, none⟩ := fun j => HB.cell (p := ⟨A, j, none⟩) hA
       have e0 := (hcc _).trans c0; have e1 := (hcc _).trans c1; have e2 := (hcc _).trans c2; have e3 := (hcc _).trans c3; have e4 := (hcc _).trans c4
       have m3 := B0.c 3 rfl
       clear hcc c0 c1 c2 c3 c4 hM ih
       obtain ⟨b, hb⟩ : ∃ b, rtT Q (K c) (kX x hf c) (kY y hf c) hf = b := ⟨_, rfl⟩
       rw [hb] at C
       have HBB : Hid (rtT Q (K c) (kX x hf c) (kY y hf c) hf = b) := hb
       clear hb
       go_wp2_with fail
       refine C.mono ?_
       rintro r w1 ⟨rfl, hB1⟩
       replace B0 := B0.step hB1
       replace HB := HB.trans (hB1.mono HB.size)
       clear C hB1 e0 e1 e2 e3 e4 m3
       cases b with
       | false =>
         go_wp2
         refine bodyPost_ret (v := .bool false) (by simp [results, Try.results59, go_sem]) rfl ?_
         refine ⟨?_, HB⟩
         rw [show rtT Q (.node K) x y s = false from ?_]
         show (List.range 4).all (fun k => rtT Q (K k) (kX x (s / 2) k) (kY y (s / 2) k) (s / 2)) = false
         rw [HHF.out, List.all_eq_false]
         exact ⟨c, List.mem_range.2 hc4, by rw [HBB.out]; decide⟩
       | true =>
         have HN : Hid (∀ j, j < c + 1 → rtT Q (K j) (kX x hf j) (kY y hf j) hf = true) := fun j hj => by
           by_cases e : j = c
           · subst e; exact HBB.out
           · exact HALL.out j (by omega)
         go_wp2
         go_roundw
         case rel => exact ⟨c + 1, by omega, by go_num, HN.out, B0, HB⟩
         case measure => simp [intOf]; omega
     · obtain rfl : c = 4 := by omega
       go_wp2
       refine bodyPost_ret (v := .bool true) (by simp [results, Try.results59, go_sem]) rfl ?_
       refine ⟨?_, HB⟩
       rw [show rtT Q (.node K) x y s = true from ?_]
       show (List.range 4).all (fun k => rtT Q (K k) (kX x (s / 2) k) (kY y (s / 2) k) (s / 2)) = true
       rw [HHF.out, List.all_eq_true]
       exact fun k hk => HALL.out k (List.mem_range.1 hk)
def putT (Q : QD) (j : Nat) (mx : Int) : QT → Int → Int → Int → Int → QT
 | .leaf l, D, x, y, s => if hitQ Q x y s j = true then (if ((canL Q x y s).length : Int) ≤ mx ∨ D < 1 then .leaf (canL Q x y s) else .node (fun k => .leaf (canL Q (kX x (s / 2) k) (kY y (s / 2) k) (s / 2)))) else .leaf l
 | .node K, D, x, y, s => if hitQ Q x y s j = true then .node (fun k => putT Q j mx (K k) (D - 1) (kX x (s / 2) k) (kY y (s / 2) k) (s / 2)) else .node K
theorem putT_miss {Q : QD} {j : Nat} {mx D x y s : Int} (h : hitQ Q x y s j = false) : ∀ t, putT Q j mx t D x y s = t
 | .leaf _ => by unfold putT; rw [if_neg (by rw [h]; decide)]
 | .node _ => by unfold putT; rw [if_neg (by rw [h]; decide)]
theorem set5_blk {W : World} {g : Nat} {u0 u1 u2 u3 u4 : Value} (B : Blk W g [u0, u1, u2, u3, u4]) (v0 v1 v2 v3 v4 : Value) : Hid (Blk (((((W.setCell ⟨g, 0, none⟩ v0).setCell ⟨g, 1, none⟩ v1).setCell ⟨g, 2, none⟩ v2).setCell ⟨g, 3, none⟩ v3).setCell ⟨g, 4, none⟩ v4) g [v0, v1, v2, v3, v4]) :=
 ((((B.setI 0 (by simp) _).setI 1 (by simp) _).setI 2 (by simp) _).setI 3 (by simp) _).setI 4 (by simp) _
theorem set5_below {w W : World} {B g : Nat} (h : Below B w W) (hg : B ≤ g) (v0 v1 v2 v3 v4 : Value) : Below B w (((((W.setCell ⟨g, 0, none⟩ v0).setCell ⟨g, 1, none⟩ v1).setCell ⟨g, 2, none⟩ v2).setCell ⟨g, 3, none⟩ v3).setCell ⟨g, 4, none⟩ v4) :=
 ((((h.setCell hg _).setCell hg _).setCell hg _).setCell hg _).setCell hg _
def PuM (ok : Nat → Prop) (t : QT) (x y s : Int) (w : World) (r : Ending) (w' : World) : Prop :=
 ∃ ko kn kc eo en ec, r = .returned (.agg #[.int .i64 x, .int .i64 y, .int .i64 s, .slice ko kn kc, .slice eo en ec]) ∧ MTr (fun b => ok b ∨ w.heap.size ≤ b) w' t x y s (.slice ko kn kc) (.slice eo en ec) ∧ Below w.heap.size w w'
set_option maxRecDepth 100000 in
set_option maxHeartbeats 8000000 in
theorem l13Put_miss (x y s mx D z a bb cc d : Int) (ao ko eo : Option Addr) (m cap kn kc en ec : Nat) (hq : Sq x y s) (ia : In6 a) (ib : In6 bb) (ic : In6 cc) (id : In6 d) (hh : hitB a bb cc d x y (x + s) (y + s) = false) (w : World) : Calls Try.prog 30 #[.agg #[.int .i64 x, .int .i64 y, .int .i64 s, .slice ko kn kc, .slice eo en ec], .slice ao m cap, .int .i64 z, Sg a bb cc d, .int .i64 mx, .int .i64 D] w (VP (.agg #[.int .i64 x, .int .i64 y, .int .i64 s, .slice ko kn kc, .slice eo en ec]) w) := by
 have HH : Hid (hitB a bb cc d x y (x + s) (y + s) = false) := hh
 have B0 : Blk (((w.alloc (.cells #[.int .i64 x, .int .i64 y, .int .i64 s, .slice ko kn kc, .slice eo en ec] 64)).alloc (.cells #[.int .i64 a, .int .i64 bb, .int .i64 cc, .int .i64 d] 40)).alloc (.cells #[.int .i64 0, .int .i64 0, .int .i64 0, .slice none 0 0, .slice none 0 0] 64)) w.heap.size [.int .i64 x, .int .i64 y, .int .i64 s, .slice ko kn kc, .slice eo en ec] := ((Blk.new w [.int .i64 x, .int .i64 y, .int .i64 s, .slice ko kn kc, .slice eo en ec] 64 rfl).alloc _).alloc _
 have B1 : Blk (((w.alloc (.cells #[.int .i64 x, .int .i64 y, .int .i64 s, .slice ko kn kc, .slice eo en ec] 64)).alloc (.cells #[.int .i64 a, .int .i64 bb, .int .i64 cc, .int .i64 d] 40)).alloc (.cells #[.int .i64 0, .int .i64 0, .int .i64 0, .slice none 0 0, .slice none 0 0] 64)) (w.heap.size + 1) [.int .i64 a, .int .i64 bb, .int .i64 cc, .int .i64 d] := (Blk.new (w.alloc (.cells #[.int .i64 x, .int .i64 y, .int .i64 s, .slice ko kn kc, .slice eo en ec] 64)) [.int .i64 a, .int .i64 bb, .int .i64 cc, .int .i64 d] 40 (by simp)).alloc _
 have B2 : Blk (((w.alloc (.cells #[.int .i64 x, .int .i64 y, .int .i64 s, .slice ko kn kc, .slice eo en ec] 64)).alloc (.cells #[.int .i64 a, .int .i64 bb, .int .i64 cc, .int .i64 d] 40)).alloc (.cells #[.int .i64 0, .int .i64 0, .int .i64 0, .slice none 0 0, .slice none 0 0] 64)) (w.heap.size + 2) [.int .i64 0, .int .i64 0, .int .i64 0, .slice none 0 0, .slice none 0 0] := Blk.new ((w.alloc (.cells #[.int .i64 x, .int .i64 y, .int .i64 s, .slice ko kn kc, .slice eo en ec] 64)).alloc (.cells #[.int .i64 a, .int .i64 bb, .int .i64 cc, .int .i64 d] 40)) [.int .i64 0, .int .i64 0, .int .i64 0, .slice none 0 0, .slice none 0 0] 64 (by simp)
 have HB : Below w.heap.size w (((w.alloc (.cells #[.int .i64 x, .int .i64 y, .int .i64 s, .slice ko kn kc, .slice eo en ec] 64)).alloc (.cells #[.int .i64 a, .int .i64 bb, .int .i64 cc, .int .i64 d] 40)).alloc (.cells #[.int .i64 0, .int .i64 0, .int .i64 0, .slice none 0 0, .slice none 0 0] 64)) := (((Below.refl _ w).alloc (Nat.le_refl _) _).alloc (by simp) _).alloc (by simp; omega) _
 clear hh
 go_enter Try.func30, Try.ntmps30
 go_upto_region 1 with fail
 generalize (((w.alloc (.cells #[.int .i64 x, .int .i64 y, .int .i64 s, .slice ko kn kc, .slice eo en ec] 64)).alloc (.cells #[.int .i64 a, .int .i64 bb, .int .i64 cc, .int .i64 d] 40)).alloc (.cells #[.int .i64 0, .int .i64 0, .int .i64 0, .slice none 0 0, .slice none 0 0] 64)) = W1 at *
 have m0 := B0.c 0 rfl; have m1 := B0.c 1 rfl; have m2 := B0.c 2 rfl; have m3 := B0.c 3 rfl; have m4 := B0.c 4 rfl; have n0 := B1.c 0 rfl; have n1 := B1.c 1 rfl; have n2 := B1.c 2 rfl; have n3 := B1.c 3 rfl
 go_wp2_with fail
 refine (l13Meets_any x y s ko eo kn kc en ec a bb cc d hq ia ib ic id W1).mono ?_
 rintro r w1 ⟨rfl, hB1⟩
 rw [HH.out]
 clear m0 m1 m2 m3 m4 n0 n1 n2 n3
 have hsz : w.heap.size + 2 < W1.heap.size := B2.lt
 replace B0 := B0.step hB1
 replace B2 := B2.step hB1
 replace HB := HB.trans (hB1.mono HB.size)
 have m0 := B0.c 0 rfl; have m1 := B0.c 1 rfl; have m2 := B0.c 2 rfl; have m3 := B0.c 3 rfl; have m4 := B0.c 4 rfl
 have y0 := B2.f 0 rfl; have y1 := B2.f 1 rfl; have y2 := B2.f 2 rfl; have y3 := B2.f 3 rfl; have y4 := B2.f 4 rfl; have z0 := B2.c 0 rfl; have z1 := B2.c 1 rfl; have z2 := B2.c 2 rfl; have z3 := B2.c 3 rfl; have z4 := B2.c 4 rfl
 have BF := set5_blk B2 (.int .i64 x) (.int .i64 y) (.int .i64 s) (.slice ko kn kc) (.slice eo en ec)
 have HF := set5_below HB (show w.heap.size ≤ w.heap.size + 2 by omega) (.int .i64 x) (.int .i64 y) (.int .i64 s) (.slice ko kn kc) (.slice eo en ec)
 go_wp2
 have r0 := BF.out.c 0 rfl; have r1 := BF.out.c 1 rfl; have r2 := BF.out.c 2 rfl; have r3 := BF.out.c 3 rfl; have r4 := BF.out.c 4 rfl
 refine bodyPost_ret (v := .agg #[.int .i64 x, .int .i64 y, .int .i64 s, .slice ko kn kc, .slice eo en ec]) (by simp [results, Try.results30, go_sem, r0, r1, r2, r3, r4]) rfl ?_
 exact ⟨rfl, HF⟩
theorem set5_heap {W : World} {g b : Nat} {v0 v1 v2 v3 v4 : Value} (h : b ≠ g) : (((((W.setCell ⟨g, 0, none⟩ v0).setCell ⟨g, 1, none⟩ v1).setCell ⟨g, 2, none⟩ v2).setCell ⟨g, 3, none⟩ v3).setCell ⟨g, 4, none⟩ v4).heap[b]? = W.heap[b]? :=
 (Below.heap_setCell _ _ _ _ h).trans ((Below.heap_setCell _ _ _ _ h).trans ((Below.heap_setCell _ _ _ _ h).trans ((Below.heap_setCell _ _ _ _ h).trans (Below.heap_setCell _ _ _ _ h))))
set_option maxRecDepth 100000 in
set_option maxHeartbeats 8000000 in
theorem l13Put_stay (x y s mx D z a bb cc d : Int) (ao eo : Option Addr) (m cap ec : Nat) (A B : List Int) (hq : Sq x y s) (ia : In6 a) (ib : In6 bb) (ic : In6 cc) (id : In6 d) (hh : hitB a bb cc d x y (x + s) (y + s) = true) (hm : (A ++ z :: B).length ≤ 1048576) (hA : ∀ u ∈ A, u < z) (hB0 : ∀ u ∈ B, z < u) (w : World) (hN : NoIn w eo (A ++ B).length (fun i => (A ++ B).getD i 0)) (hst : ((A ++ z :: B).length : Int) ≤ mx ∨ D < 1) : Calls Try.prog 30 #[.agg #[.int .i64 x, .int .i64 y, .int .i64 s, .slice none 0 0, .slice eo (A ++ B).length ec], .slice ao m cap, .int .i64 z, Sg a bb cc d, .int .i64 mx, .int .i64 D] w (fun r w2 => ∃ ev, r = .returned (.agg #[.int .i64 x, .int .i64 y, .int .i64 s, .slice none 0 0, ev]) ∧ IdV (fun b => w.heap.size ≤ b) w2 ev (A ++ z :: B) ∧ Below w.heap.size w w2) := by
 have HH : Hid (hitB a bb cc d x y (x + s) (y + s) = true) := hh
 have hl1 : (A ++ z :: B).length = (A ++ B).length + 1 := by simp; omega
 obtain ⟨en, hen⟩ : ∃ en, (A ++ B).length = en := ⟨_, rfl⟩
 obtain ⟨n1, hn1⟩ : ∃ n1, (A ++ z :: B).length = n1 := ⟨_, rfl⟩
 have C0 : ∀ W, Below w.heap.size w W → Calls Try.prog 63 #[.slice eo en ec, .int .i64 z] W (fun r w2 => ∃ v, r = .returned v ∧ w2.ownsRow W.heap.size 2 1 v n1 ((A ++ z :: B).map (Value.int .i64)) ∧ Below W.heap.size W w2) := fun W h => by
   have h2 := l7WithL_any eo ec A B z (by omega) hA hB0 W (hN.step h)
   rw [hen, hn1] at h2
   exact h2
 rw [hn1] at hm hst
 rw [hen, hn1] at hl1
 rw [hen]
 have HEN : Hid ((A ++ B).length = en) := hen
 have HN1 : Hid ((A ++ z :: B).length = n1) := hn1
 have HLX : Hid (n1 = en + 1) := hl1
 have hnI : (n1 : Int) ≤ 1048576 := by omega
 clear hen hn1 hl1 hN hA hB0 hh
 have B0 : Blk (((w.alloc (.cells #[.int .i64 x, .int .i64 y, .int .i64 s, .slice none 0 0, .slice eo en ec] 64)).alloc (.cells #[.int .i64 a, .int .i64 bb, .int .i64 cc, .int .i64 d] 40)).alloc (.cells #[.int .i64 0, .int .i64 0, .int .i64 0, .slice none 0 0, .slice none 0 0] 64)) w.heap.size [.int .i64 x, .int .i64 y, .int .i64 s, .slice none 0 0, .slice eo en ec] := ((Blk.new w [.int .i64 x, .int .i64 y, .int .i64 s, .slice none 0 0, .slice eo en ec] 64 rfl).alloc _).alloc _
 have B1 : Blk (((w.alloc (.cells #[.int .i64 x, .int .i64 y, .int .i64 s, .slice none 0 0, .slice eo en ec] 64)).alloc (.cells #[.int .i64 a, .int .i64 bb, .int .i64 cc, .int .i64 d] 40)).alloc (.cells #[.int .i64 0, .int .i64 0, .int .i64 0, .slice none 0 0, .slice none 0 0] 64)) (w.heap.size + 1) [.int .i64 a, .int .i64 bb, .int .i64 cc, .int .i64 d] := (Blk.new (w.alloc (.cells #[.int .i64 x, .int .i64 y, .int .i64 s, .slice none 0 0, .slice eo en ec] 64)) [.int .i64 a, .int .i64 bb, .int .i64 cc, .int .i64 d] 40 (by simp)).alloc _
 have B2 : Blk (((w.alloc (.cells #[.int .i64 x, .int .i64 y, .int .i64 s, .slice none 0 0, .slice eo en ec] 64)).alloc (.cells #[.int .i64 a, .int .i64 bb, .int .i64 cc, .int .i64 d] 40)).alloc (.cells #[.int .i64 0, .int .i64 0, .int .i64 0, .slice none 0 0, .slice none 0 0] 64)) (w.heap.size + 2) [.int .i64 0, .int .i64 0, .int .i64 0, .slice none 0 0, .slice none 0 0] := Blk.new ((w.alloc (.cells #[.int .i64 x, .int .i64 y, .int .i64 s, .slice none 0 0, .slice eo en ec] 64)).alloc (.cells #[.int .i64 a, .int .i64 bb, .int .i64 cc, .int .i64 d] 40)) [.int .i64 0, .int .i64 0, .int .i64 0, .slice none 0 0, .slice none 0 0] 64 (by simp)
 have HB : Below w.heap.size w (((w.alloc (.cells #[.int .i64 x, .int .i64 y, .int .i64 s, .slice none 0 0, .slice eo en ec] 64)).alloc (.cells #[.int .i64 a, .int .i64 bb, .int .i64 cc, .int .i64 d] 40)).alloc (.cells #[.int .i64 0, .int .i64 0, .int .i64 0, .slice none 0 0, .slice none 0 0] 64)) := (((Below.refl _ w).alloc (Nat.le_refl _) _).alloc (by simp) _).alloc (by simp; omega) _
 go_enter Try.func30, Try.ntmps30
 go_upto_region 1 with fail
 generalize (((w.alloc (.cells #[.int .i64 x, .int .i64 y, .int .i64 s, .slice none 0 0, .slice eo en ec] 64)).alloc (.cells #[.int .i64 a, .int .i64 bb, .int .i64 cc, .int .i64 d] 40)).alloc (.cells #[.int .i64 0, .int .i64 0, .int .i64 0, .slice none 0 0, .slice none 0 0] 64)) = W1 at *
 have m0 := B0.c 0 rfl; have m1 := B0.c 1 rfl; have m2 := B0.c 2 rfl; have m3 := B0.c 3 rfl; have m4 := B0.c 4 rfl; have n0 := B1.c 0 rfl; have n1_1 := B1.c 1 rfl; have n2 := B1.c 2 rfl; have n3 := B1.c 3 rfl
 go_wp2_with fail
 refine (l13Meets_any x y s none eo 0 0 en ec a bb cc d hq ia ib ic id W1).mono ?_
 rintro r w1 ⟨rfl, hB1⟩
 rw [HH.out]
 clear m0 m1 m2 m3 m4 n0 n1_1 n2 n3
 have hsz : w.heap.size + 2 < W1.heap.size := B2.lt
 replace B0 := B0.step hB1
 replace B1 := B1.step hB1
 replace B2 := B2.step hB1
 replace HB := HB.trans (hB1.mono HB.size)
 have hsz1 := hB1.size
 have C := C0 w1 HB
 clear C0
 have m0 := B0.c 0 rfl; have m1 := B0.c 1 rfl; have m2 := B0.c 2 rfl; have m3 := B0.c 3 rfl; have m4 := B0.c 4 rfl
 go_wp2_with fail
 refine C.mono ?_
 rintro r w2 ⟨v, rfl, hown, hB2⟩
 clear C m0 m1 m2 m3 m4
 obtain ⟨eo1, ec1, rfl⟩ := ownQ_slice hown
 replace B0 := B0.step hB2
 replace B1 := B1.step hB2
 replace B2 := B2.step hB2
 replace HB := HB.trans (hB2.mono HB.size)
 have hsz2 := hB2.size
 have hI : IdV (fun b => w1.heap.size ≤ b) w2 (.slice eo1 n1 ec1) (A ++ z :: B) := IdV.of (by rw [HN1.out]; exact hown)
 have HOW : Hid (∀ b, (Value.slice eo1 n1 ec1).ownBlock = some b → w1.heap.size ≤ b ∧ b < w2.heap.size) := fun b hb => hown.lt b hb
 clear hown
 have m0 := B0.c 0 rfl; have m1 := B0.c 1 rfl; have m2 := B0.c 2 rfl; have m3 := B0.c 3 rfl; have m4 := B0.c 4 rfl; have y0 := B0.f 0 rfl; have y1 := B0.f 1 rfl; have y2 := B0.f 2 rfl; have y3 := B0.f 3 rfl; have y4 := B0.f 4 rfl
 have B0N : Blk (w2.setCell ⟨w.heap.size, 4, none⟩ (.slice eo1 n1 ec1)) w.heap.size [.int .i64 x, .int .i64 y, .int .i64 s, .slice none 0 0, .slice eo1 n1 ec1] := B0.setI 4 (by simp) _
 have B1N : Blk (w2.setCell ⟨w.heap.size, 4, none⟩ (.slice eo1 n1 ec1)) (w.heap.size + 1) [.int .i64 a, .int .i64 bb, .int .i64 cc, .int .i64 d] := B1.keep (by simp [World.setCell]) (Below.heap_setCell _ _ _ _ (by show w.heap.size + 1 ≠ w.heap.size; omega))
 have B2N : Blk (w2.setCell ⟨w.heap.size, 4, none⟩ (.slice eo1 n1 ec1)) (w.heap.size + 2) [.int .i64 0, .int .i64 0, .int .i64 0, .slice none 0 0, .slice none 0 0] := B2.keep (by simp [World.setCell]) (Below.heap_setCell _ _ _ _ (by show w.heap.size + 2 ≠ w.heap.size; omega))
 have HBN : Below w.heap.size w (w2.setCell ⟨w.heap.size, 4, none⟩ (.slice eo1 n1 ec1)) := HB.setCell (Nat.le_refl _) _
 have hIN : IdV (fun b => w1.heap.size ≤ b) (w2.setCell ⟨w.heap.size, 4, none⟩ (.slice eo1 n1 ec1)) (.slice eo1 n1 ec1) (A ++ z :: B) := hI.keep (by simp [World.setCell]) (fun b hb _ => Below.heap_setCell _ _ _ _ (by show b ≠ w.heap.size; omega)) (fun _ h _ => h)
 clear B0 B1 B2 HB hI
 go_upto_region 12 with fail
 generalize (w2.setCell ⟨w.heap.size, 4, none⟩ (.slice eo1 n1 ec1)) = W4 at *
 clear m0 m1 m2 m3 m4 y0 y1 y2 y3 y4
 by_cases hle : (n1 : Int) ≤ mx
 · clear hst
   have m0 := B0N.c 0 rfl; have m1 := B0N.c 1 rfl; have m2 := B0N.c 2 rfl; have m3 := B0N.c 3 rfl; have m4 := B0N.c 4 rfl; have y0 := B2N.f 0 rfl; have y1 := B2N.f 1 rfl; have y2 := B2N.f 2 rfl; have y3 := B2N.f 3 rfl; have y4 := B2N.f 4 rfl; have z0 := B2N.c 0 rfl; have z1 := B2N.c 1 rfl; have z2 := B2N.c 2 rfl; have z3 := B2N.c 3 rfl; have z4 := B2N.c 4 rfl
   have BF := set5_blk B2N (.int .i64 x) (.int .i64 y) (.int .i64 s) (.slice none 0 0) (.slice eo1 n1 ec1)
   have HF := set5_below HBN (show w.heap.size ≤ w.heap.size + 2 by omega) (.int .i64 x) (.int .i64 y) (.int .i64 s) (.slice none 0 0) (.slice eo1 n1 ec1)
   have HI9 : Hid (IdV (fun b => w.heap.size ≤ b) (((((W4.setCell ⟨w.heap.size + 2, 0, none⟩ (.int .i64 x)).setCell ⟨w.heap.size + 2, 1, none⟩ (.int .i64 y)).setCell ⟨w.heap.size + 2, 2, none⟩ (.int .i64 s)).setCell ⟨w.heap.size + 2, 3, none⟩ (.slice none 0 0)).setCell ⟨w.heap.size + 2, 4, none⟩ (.slice eo1 n1 ec1)) (.slice eo1 n1 ec1) (A ++ z :: B)) := hIN.keep (by simp [World.setCell]) (fun b hb _ => set5_heap (by show b ≠ w.heap.size + 2; omega)) (fun b hb _ => by omega)
   clear hIN
   go_wp2
   have r0 := BF.out.c 0 rfl; have r1 := BF.out.c 1 rfl; have r2 := BF.out.c 2 rfl; have r3 := BF.out.c 3 rfl; have r4 := BF.out.c 4 rfl
   refine bodyPost_ret (v := .agg #[.int .i64 x, .int .i64 y, .int .i64 s, .slice none 0 0, .slice eo1 n1 ec1]) (by simp [results, Try.results30, go_sem, r0, r1, r2, r3, r4]) rfl ?_
   exact ⟨.slice eo1 n1 ec1, rfl, HI9.out, HF⟩
 · have hd1 : D < 1 := by omega
   clear hst
   have m0 := B0N.c 0 rfl; have m1 := B0N.c 1 rfl; have m2 := B0N.c 2 rfl; have m3 := B0N.c 3 rfl; have m4 := B0N.c 4 rfl; have y0 := B2N.f 0 rfl; have y1 := B2N.f 1 rfl; have y2 := B2N.f 2 rfl; have y3 := B2N.f 3 rfl; have y4 := B2N.f 4 rfl; have z0 := B2N.c 0 rfl; have z1 := B2N.c 1 rfl; have z2 := B2N.c 2 rfl; have z3 := B2N.c 3 rfl; have z4 := B2N.c 4 rfl
   have BF := set5_blk B2N (.int .i64 x) (.int .i64 y) (.int .i64 s) (.slice none 0 0) (.slice eo1 n1 ec1)
   have HF := set5_below HBN (show w.heap.size ≤ w.heap.size + 2 by omega) (.int .i64 x) (.int .i64 y) (.int .i64 s) (.slice none 0 0) (.slice eo1 n1 ec1)
   have HI9 : Hid (IdV (fun b => w.heap.size ≤ b) (((((W4.setCell ⟨w.heap.size + 2, 0, none⟩ (.int .i64 x)).setCell ⟨w.heap.size + 2, 1, none⟩ (.int .i64 y)).setCell ⟨w.heap.size + 2, 2, none⟩ (.int .i64 s)).setCell ⟨w.heap.size + 2, 3, none⟩ (.slice none 0 0)).setCell ⟨w.heap.size + 2, 4, none⟩ (.slice eo1 n1 ec1)) (.slice eo1 n1 ec1) (A ++ z :: B)) := hIN.keep (by simp [World.setCell]) (fun b hb _ => set5_heap (by show b ≠ w.heap.size + 2; omega)) (fun b hb _ => by omega)
   clear hIN
   go_wp2
   have r0 := BF.out.c 0 rfl; have r1 := BF.out.c 1 rfl; have r2 := BF.out.c 2 rfl; have r3 := BF.out.c 3 rfl; have r4 := BF.out.c 4 rfl
   refine bodyPost_ret (v := .agg #[.int .i64 x, .int .i64 y, .int .i64 s, .slice none 0 0, .slice eo1 n1 ec1]) (by simp [results, Try.results30, go_sem, r0, r1, r2, r3, r4]) rfl ?_
   exact ⟨.slice eo1 n1 ec1, rfl, HI9.out, HF⟩
theorem kL_more {Q : QD} {FL : List Nat} {x y s : Int} {c i : Nat} (h : FL[c]? = some i) : idL Q (flQ Q (FL.take (c + 1)) x y s) = idL Q (flQ Q (FL.take c) x y s) ++ (if hitQ Q x y s i = true then [Q.I i] else []) := by
 unfold flQ idL
 rw [List.take_add_one, h, List.filter_append, List.map_append]
 cases hh : hitQ Q x y s i <;> simp [hh]
theorem kL_len (Q : QD) (FL : List Nat) (x y s : Int) (c : Nat) : (idL Q (flQ Q (FL.take c) x y s)).length ≤ c := by
 unfold flQ idL
 rw [List.length_map]
 exact Nat.le_trans (List.length_filter_le _ _) (by rw [List.length_take]; omega)
theorem idL_get {Q : QD} {FL : List Nat} {c i : Nat} (h : FL[c]? = some i) : (idL Q FL).getD c 0 = Q.I i := by
 unfold idL
 rw [List.getD_eq_getElem?_getD, List.getElem?_map, h]
 rfl
theorem rise_ne {Q : QD} (h : riseI Q) {i : Nat} (hi : i < Q.m) : ∀ k, k < i → Q.I k ≠ Q.I i := fun k hk => by
 have h1 := rise_lt h (i - k - 1) k (by omega)
 rw [show k + (i - k - 1) + 1 = i by omega] at h1
 omega
theorem kL_end {Q : QD} {x y s : Int} (hs : 0 ≤ s) {k : Nat} (hk : k < 4) {FL : List Nat} (hF : flQ Q (List.range Q.m) x y s = FL) {n : Nat} (hn : FL.length = n) : idL Q (flQ Q (FL.take n) (kX x (s / 2) k) (kY y (s / 2) k) (s / 2)) = canL Q (kX x (s / 2) k) (kY y (s / 2) k) (s / 2) := by
 rw [← hn, List.take_length, ← hF, fl_kid hs hk]
 rfl
set_option maxRecDepth 100000 in
set_option maxHeartbeats 16000000 in
theorem l13Put_split (Q : QD) (x y s mx D z a bb cc d : Int) (ao eo : Option Addr) (cap ec : Nat) (A B : List Int) (hq : Sq x y s) (ia : In6 a) (ib : In6 bb) (ic : In6 cc) (id : In6 d) (hh : hitB a bb cc d x y (x + s) (y + s) = true) (hm : (A ++ z :: B).length ≤ 1048576) (hA : ∀ u ∈ A, u < z) (hB0 : ∀ u ∈ B, z < u) (w : World) (hN : NoIn w eo (A ++ B).length (fun i => (A ++ B).getD i 0)) (hC : A ++ z :: B = canL Q x y s) (hQm : Q.m ≤ 1048576) (h6 : Its6 Q (List.range Q.m)) (hri : riseI Q) (hS : ItIn Q w ao (List.range Q.m)) (hst : ¬ (((A ++ z :: B).length : Int) ≤ mx)) (hd1 : ¬ (D < 1)) : Calls Try.prog 30 #[.agg #[.int .i64 x, .int .i64 y, .int .i64 s, .slice none 0 0, .slice eo (A ++ B).length ec], .slice ao Q.m cap, .int .i64 z, Sg a bb cc d, .int .i64 mx, .int .i64 D] w (PuM (fun _ => False) (.node (fun k => .leaf (canL Q (kX x (s / 2) k) (kY y (s / 2) k) (s / 2)))) x y s w) := by
 obtain ⟨i0, hi0, hz0, hz1, hz2⟩ := info_b13
 obtain ⟨iN, hN0, hN1, hN2, hN3⟩ := info_parts Try.infoNo
 obtain ⟨FL, hFL⟩ : ∃ FL, flQ Q (List.range Q.m) x y s = FL := ⟨_, rfl⟩
 have HC : Hid (A ++ z :: B = idL Q FL) := by show _ = _; rw [hC, ← hFL]; rfl
 have HFM : Hid (∀ i ∈ FL, i < Q.m) := fun i hi => by rw [← hFL] at hi; exact List.mem_range.1 (List.mem_filter.1 hi).1
 have HFL : Hid (flQ Q (List.range Q.m) x y s = FL) := hFL
 have HS : Hid (ItIn Q w ao (List.range Q.m)) := hS
 have HRI : Hid (riseI Q) := hri
 have HQM : Hid (Q.m ≤ 1048576) := hQm
 clear hFL hC hS hri
 have HH : Hid (hitB a bb cc d x y (x + s) (y + s) = true) := hh
 have hl1 : (A ++ z :: B).length = (A ++ B).length + 1 := by simp; omega
 obtain ⟨en, hen⟩ : ∃ en, (A ++ B).length = en := ⟨_, rfl⟩
 obtain ⟨n1, hn1⟩ : ∃ n1, (A ++ z :: B).length = n1 := ⟨_, rfl⟩
 have C0 : ∀ W, Below w.heap.size w W → Calls Try.prog 63 #[.slice eo en ec, .int .i64 z] W (fun r w2 => ∃ v, r = .returned v ∧ w2.ownsRow W.heap.size 2 1 v n1 ((A ++ z :: B).map (Value.int .i64)) ∧ Below W.heap.size W w2) := fun W h => by
   have h2 := l7WithL_any eo ec A B z (by omega) hA hB0 W (hN.step h)
   rw [hen, hn1] at h2
   exact h2
 rw [hn1] at hm hst
 rw [hen, hn1] at hl1
 rw [hen]
 have HEN : Hid ((A ++ B).length = en) := hen
 have HN1 : Hid ((A ++ z :: B).length = n1) := hn1
 have HLX : Hid (n1 = en + 1) := hl1
 have hnI : (n1 : Int) ≤ 1048576 := by omega
 clear hen hn1 hl1 hN hA hB0 hh
 have B0 : Blk (((w.alloc (.cells #[.int .i64 x, .int .i64 y, .int .i64 s, .slice none 0 0, .slice eo en ec] 64)).alloc (.cells #[.int .i64 a, .int .i64 bb, .int .i64 cc, .int .i64 d] 40)).alloc (.cells #[.int .i64 0, .int .i64 0, .int .i64 0, .slice none 0 0, .slice none 0 0] 64)) w.heap.size [.int .i64 x, .int .i64 y, .int .i64 s, .slice none 0 0, .slice eo en ec] := ((Blk.new w [.int .i64 x, .int .i64 y, .int .i64 s, .slice none 0 0, .slice eo en ec] 64 rfl).alloc _).alloc _
 have B1 : Blk (((w.alloc (.cells #[.int .i64 x, .int .i64 y, .int .i64 s, .slice none 0 0, .slice eo en ec] 64)).alloc (.cells #[.int .i64 a, .int .i64 bb, .int .i64 cc, .int .i64 d] 40)).alloc (.cells #[.int .i64 0, .int .i64 0, .int .i64 0, .slice none 0 0, .slice none 0 0] 64)) (w.heap.size + 1) [.int .i64 a, .int .i64 bb, .int .i64 cc, .int .i64 d] := (Blk.new (w.alloc (.cells #[.int .i64 x, .int .i64 y, .int .i64 s, .slice none 0 0, .slice eo en ec] 64)) [.int .i64 a, .int .i64 bb, .int .i64 cc, .int .i64 d] 40 (by simp)).alloc _
 have B2 : Blk (((w.alloc (.cells #[.int .i64 x, .int .i64 y, .int .i64 s, .slice none 0 0, .slice eo en ec] 64)).alloc (.cells #[.int .i64 a, .int .i64 bb, .int .i64 cc, .int .i64 d] 40)).alloc (.cells #[.int .i64 0, .int .i64 0, .int .i64 0, .slice none 0 0, .slice none 0 0] 64)) (w.heap.size + 2) [.int .i64 0, .int .i64 0, .int .i64 0, .slice none 0 0, .slice none 0 0] := Blk.new ((w.alloc (.cells #[.int .i64 x, .int .i64 y, .int .i64 s, .slice none 0 0, .slice eo en ec] 64)).alloc (.cells #[.int .i64 a, .int .i64 bb, .int .i64 cc, .int .i64 d] 40)) [.int .i64 0, .int .i64 0, .int .i64 0, .slice none 0 0, .slice none 0 0] 64 (by simp)
 have HB : Below w.heap.size w (((w.alloc (.cells #[.int .i64 x, .int .i64 y, .int .i64 s, .slice none 0 0, .slice eo en ec] 64)).alloc (.cells #[.int .i64 a, .int .i64 bb, .int .i64 cc, .int .i64 d] 40)).alloc (.cells #[.int .i64 0, .int .i64 0, .int .i64 0, .slice none 0 0, .slice none 0 0] 64)) := (((Below.refl _ w).alloc (Nat.le_refl _) _).alloc (by simp) _).alloc (by simp; omega) _
 go_enter Try.func30, Try.ntmps30
 go_upto_region 1 with fail
 generalize (((w.alloc (.cells #[.int .i64 x, .int .i64 y, .int .i64 s, .slice none 0 0, .slice eo en ec] 64)).alloc (.cells #[.int .i64 a, .int .i64 bb, .int .i64 cc, .int .i64 d] 40)).alloc (.cells #[.int .i64 0, .int .i64 0, .int .i64 0, .slice none 0 0, .slice none 0 0] 64)) = W1 at *
 have m0 := B0.c 0 rfl; have m1 := B0.c 1 rfl; have m2 := B0.c 2 rfl; have m3 := B0.c 3 rfl; have m4 := B0.c 4 rfl; have n0 := B1.c 0 rfl; have n1_1 := B1.c 1 rfl; have n2 := B1.c 2 rfl; have n3 := B1.c 3 rfl
 go_wp2_with fail
 refine (l13Meets_any x y s none eo 0 0 en ec a bb cc d hq ia ib ic id W1).mono ?_
 rintro r w1 ⟨rfl, hB1⟩
 rw [HH.out]
 clear m0 m1 m2 m3 m4 n0 n1_1 n2 n3
 have hsz : w.heap.size + 2 < W1.heap.size := B2.lt
 replace B0 := B0.step hB1
 replace B1 := B1.step hB1
 replace B2 := B2.step hB1
 replace HB := HB.trans (hB1.mono HB.size)
 have hsz1 := hB1.size
 have C := C0 w1 HB
 clear C0
 have m0 := B0.c 0 rfl; have m1 := B0.c 1 rfl; have m2 := B0.c 2 rfl; have m3 := B0.c 3 rfl; have m4 := B0.c 4 rfl
 go_wp2_with fail
 refine C.mono ?_
 rintro r w2 ⟨v, rfl, hown, hB2⟩
 clear C m0 m1 m2 m3 m4
 obtain ⟨eo1, ec1, rfl⟩ := ownQ_slice hown
 replace B0 := B0.step hB2
 replace B1 := B1.step hB2
 replace B2 := B2.step hB2
 replace HB := HB.trans (hB2.mono HB.size)
 have hsz2 := hB2.size
 have hI : IdV (fun b => w1.heap.size ≤ b) w2 (.slice eo1 n1 ec1) (A ++ z :: B) := IdV.of (by rw [HN1.out]; exact hown)
 have HOW : Hid (∀ b, (Value.slice eo1 n1 ec1).ownBlock = some b → w1.heap.size ≤ b ∧ b < w2.heap.size) := fun b hb => hown.lt b hb
 clear hown
 have m0 := B0.c 0 rfl; have m1 := B0.c 1 rfl; have m2 := B0.c 2 rfl; have m3 := B0.c 3 rfl; have m4 := B0.c 4 rfl; have y0 := B0.f 0 rfl; have y1 := B0.f 1 rfl; have y2 := B0.f 2 rfl; have y3 := B0.f 3 rfl; have y4 := B0.f 4 rfl
 have B0N : Blk (w2.setCell ⟨w.heap.size, 4, none⟩ (.slice eo1 n1 ec1)) w.heap.size [.int .i64 x, .int .i64 y, .int .i64 s, .slice none 0 0, .slice eo1 n1 ec1] := B0.setI 4 (by simp) _
 have B1N : Blk (w2.setCell ⟨w.heap.size, 4, none⟩ (.slice eo1 n1 ec1)) (w.heap.size + 1) [.int .i64 a, .int .i64 bb, .int .i64 cc, .int .i64 d] := B1.keep (by simp [World.setCell]) (Below.heap_setCell _ _ _ _ (by show w.heap.size + 1 ≠ w.heap.size; omega))
 have B2N : Blk (w2.setCell ⟨w.heap.size, 4, none⟩ (.slice eo1 n1 ec1)) (w.heap.size + 2) [.int .i64 0, .int .i64 0, .int .i64 0, .slice none 0 0, .slice none 0 0] := B2.keep (by simp [World.setCell]) (Below.heap_setCell _ _ _ _ (by show w.heap.size + 2 ≠ w.heap.size; omega))
 have HBN : Below w.heap.size w (w2.setCell ⟨w.heap.size, 4, none⟩ (.slice eo1 n1 ec1)) := HB.setCell (Nat.le_refl _) _
 have hIN : IdV (fun b => w1.heap.size ≤ b) (w2.setCell ⟨w.heap.size, 4, none⟩ (.slice eo1 n1 ec1)) (.slice eo1 n1 ec1) (A ++ z :: B) := hI.keep (by simp [World.setCell]) (fun b hb _ => Below.heap_setCell _ _ _ _ (by show b ≠ w.heap.size; omega)) (fun _ h _ => h)
 clear B0 B1 B2 HB hI
 go_upto_region 12 with fail
 generalize (w2.setCell ⟨w.heap.size, 4, none⟩ (.slice eo1 n1 ec1)) = W4 at *
 clear m0 m1 m2 m3 m4 y0 y1 y2 y3 y4
 rw [HC.out] at hIN
 have hI2 : IdV (fun b => w.heap.size + 2 < b ∧ b < W4.heap.size) W4 (.slice eo1 n1 ec1) (idL Q FL) := hIN.keep (Nat.le_refl _) (fun _ _ _ => rfl) (fun b hb hl => ⟨by omega, hl⟩)
 have HFN : Hid (FL.length = n1) := by show _ = _; rw [← HN1.out, HC.out]; exact (List.length_map _).symm
 have hW4 : w.heap.size + 2 < W4.heap.size := B2N.lt
 have HIA : Hid (∀ A1 o1 sp, eo1 = some ⟨A1, o1, sp⟩ → w.heap.size + 2 < A1 ∧ A1 < W4.heap.size) := fun A1 o1 sp e => by
   obtain ⟨a1, c1, e1, _, _, h5⟩ := hI2
   simp only [Value.slice.injEq] at e1
   exact (h5 A1 o1 sp (e1.1 ▸ e)).1
 obtain ⟨hf, hhf⟩ : ∃ hf, s / 2 = hf := ⟨_, rfl⟩
 have HHF : Hid (s / 2 = hf) := hhf
 have m4 := B0N.c 4 rfl
 clear hIN HOW hB1 hB2 hsz1 hsz2 HLX HEN HN1 HC HH B1N hhf
 go_wp2_with fail
 clear m4
 go_loopw [15] (fun ik wr => ∃ (k : Nat) (kv : Value) (evf : Nat → Value), k ≤ 4 ∧ ik = .int .i64 k ∧ Blk wr w.heap.size [.int .i64 x, .int .i64 y, .int .i64 s, kv, .slice eo1 n1 ec1] ∧ Blk wr (w.heap.size + 2) [.int .i64 0, .int .i64 0, .int .i64 0, .slice none 0 0, .slice none 0 0] ∧ IdV (fun b => w.heap.size + 2 < b ∧ b < W4.heap.size) wr (.slice eo1 n1 ec1) (idL Q FL) ∧ wr.ownsRow W4.heap.size 64 5 kv k (kdL x y hf (fun _ => .slice none 0 0) evf k) ∧ (∀ j, j < k → IdV (okK (w.heap.size + 2) kv) wr (evf j) (canL Q (kX x hf j) (kY y hf j) hf)) ∧ Below w.heap.size w wr ∧ W4.heap.size ≤ wr.heap.size) (fun i _ => 4 - (intOf i).toNat)
 case atStart => exact ⟨0, .slice none 0 0, fun _ => .slice none 0 0, by omega, rfl, B0N, B2N, hI2, World.ownsRow_nil _ _ _ _, fun j hj => absurd hj (by omega), HBN, Nat.le_refl _⟩
 case round =>
   clear B0N B2N hI2 HBN
   obtain ⟨k, kv, evf, hk, rfl, BG, BR, HI, HO, HM, HB, h4s⟩ := hrel
   by_cases hk4 : k < 4
   · have hkI : (k : Int) < 4 := by omega
     obtain ⟨wv0, wv1, wv2⟩ := kid_wrap hq HHF.out hk4
     obtain ⟨wk, rfl⟩ : ∃ wk, wk = wr := ⟨wr, rfl⟩
     obtain ⟨ao9, cap9, rfl⟩ := ownQ_slice HO
     have m0 := BG.c 0 rfl; have m1 := BG.c 1 rfl; have m2 := BG.c 2 rfl; have m3 := BG.c 3 rfl; have m4 := BG.c 4 rfl
     go_upto_region 18 with fail
     rw [wv0, wv1, wv2]
     have BK : Blk (wk.alloc (.cells #[.int .i64 (kX x hf k), .int .i64 (kY y hf k), .int .i64 hf, .slice none 0 0, .slice none 0 0] 64)) wk.heap.size [.int .i64 (kX x hf k), .int .i64 (kY y hf k), .int .i64 hf, .slice none 0 0, .slice none 0 0] := Blk.new wk [.int .i64 (kX x hf k), .int .i64 (kY y hf k), .int .i64 hf, .slice none 0 0, .slice none 0 0] 64 rfl
     have HBK : Below wk.heap.size wk (wk.alloc (.cells #[.int .i64 (kX x hf k), .int .i64 (kY y hf k), .int .i64 hf, .slice none 0 0, .slice none 0 0] 64)) := (Below.refl _ wk).alloc (Nat.le_refl _) _
     have hsq := hq.kid hk4
     rw [HHF.out] at hsq
     have hPl : w.heap.size + 2 < wk.heap.size := BR.lt
     have hkvb : Hid (∀ b, (Value.slice ao9 k cap9).ownBlock = some b → W4.heap.size ≤ b ∧ b < wk.heap.size) := fun b hb => HO.lt b hb
     have HMr : Hid (∀ j, j < k → IdV (okK (w.heap.size + 2) (.slice ao9 k cap9)) wk (evf j) (canL Q (kX x hf j) (kY y hf j) hf)) := HM
     replace BG := BG.step HBK
     replace BR := BR.step HBK
     replace HI := HI.step HBK
     replace HO := ownA_step HO HBK
     replace HB := HB.trans (HBK.mono (by omega))
     have hK5 := HBK.size
     have hK6 : wk.heap.size < (wk.alloc (.cells #[.int .i64 (kX x hf k), .int .i64 (kY y hf k), .int .i64 hf, .slice none 0 0, .slice none 0 0] 64)).heap.size := BK.lt
     clear HM wv0 wv1 wv2 m0 m1 m2 m3 m4
     generalize (wk.alloc (.cells #[.int .i64 (kX x hf k), .int .i64 (kY y hf k), .int .i64 hf, .slice none 0 0, .slice none 0 0] 64)) = W5 at *
     have m4 := BG.c 4 rfl
     go_wp2_with fail
     clear m4
     go_loopw [17] (fun ic wr => ∃ (c : Nat) (ev : Value), c ≤ n1 ∧ ic = .int .i64 c ∧ Blk wr wk.heap.size [.int .i64 (kX x hf k), .int .i64 (kY y hf k), .int .i64 hf, .slice none 0 0, ev] ∧ wr.ownsRow W5.heap.size 2 1 ev (idL Q (flQ Q (FL.take c) (kX x hf k) (kY y hf k) hf)).length ((idL Q (flQ Q (FL.take c) (kX x hf k) (kY y hf k) hf)).map (Value.int .i64)) ∧ Below wk.heap.size W5 wr) (fun i _ => n1 + 1 - (intOf i).toNat)
     case atStart => exact ⟨0, .slice none 0 0, Nat.zero_le _, rfl, BK, World.ownsRow_nil _ _ _ _, Below.refl _ _⟩
     case round =>
       clear BK
       obtain ⟨c, ev, hc, rfl, BK, HOK, HBz⟩ := hrel
       obtain ⟨go9, gc9, rfl⟩ := ownQ_slice HOK
       replace BG := BG.below HBz (by omega)
       replace BR := BR.below HBz (by omega)
       replace HI := HI.below HBz (fun b hb => by omega)
       have hKl : wk.heap.size < wr.heap.size := BK.lt
       have hW5 := HBz.size
       have m4 := BG.c 4 rfl
       by_cases hcn : c < n1
       · have hcI : (c : Int) < n1 := by omega
         obtain ⟨iq, hiq⟩ : ∃ iq, FL[c]? = some iq := ⟨_, List.getElem?_eq_getElem (by rw [HFN.out]; exact hcn)⟩
         have HIQ : Hid (FL[c]? = some iq) := hiq
         have hiqm : iq < Q.m := HFM.out iq (List.mem_of_getElem? hiq)
         obtain ⟨s1, s2, s3, s4⟩ := h6 iq (List.mem_range.2 hiqm)
         obtain ⟨eoI, ecI, he, hN, _, _⟩ := HI
         simp only [Value.slice.injEq] at he
         obtain ⟨rfl, hln, rfl⟩ := he
         obtain ⟨A1, o1, rfl, hA1, hcell⟩ := hN c (by rw [← hln]; exact hcn)
         dsimp only at hcell
         rw [idL_get hiq] at hcell
         have hSg : ∀ W, Below wr.heap.size wr W → Calls Try.prog 64 #[.slice ao Q.m cap, .int .i64 (Q.I iq)] W (VP (Sg (Q.S iq).1 (Q.S iq).2.1 (Q.S iq).2.2.1 (Q.S iq).2.2.2) W) := fun W h => l13Seg_any Q ao cap iq HQM.out hiqm (rise_ne HRI.out hiqm) W (HS.out.step (HB.trans ((HBz.mono (by omega)).trans (h.mono (by omega)))))
         have hlen : (idL Q (flQ Q (FL.take c) (kX x hf k) (kY y hf k) hf)).length ≤ n1 := Nat.le_trans (kL_len _ _ _ _ _ _) hc
         clear hiq hN hln
         go_upto_region 21 with fail
         refine qpA (K := wk.heap.size) (P := w.heap.size) (E0 := A1) (eoff := o1) (en := n1) (ec := ec1) (c := c) (m := Q.m) (cap := cap) (gn := (idL Q (flQ Q (FL.take c) (kX x hf k) (kY y hf k) hf)).length) (gc := gc9) (ao := ao) (go := go9) (x := kX x hf k) (y := kY y hf k) (sz := hf) (z := Q.I iq) (a := (Q.S iq).1) (bb := (Q.S iq).2.1) (cc := (Q.S iq).2.2.1) (d := (Q.S iq).2.2.2) hcn (by omega) hsq s1 s2 s3 s4 hSg rfl rfl rfl rfl (BK.c 0 rfl) hKl (BK.c 1 rfl) hKl (BK.c 2 rfl) hKl (BK.c 3 rfl) hKl (BK.c 4 rfl) hKl (BG.c 4 rfl) (by show w.heap.size < wr.heap.size; omega) hcell hA1 rfl ?_
         rintro ⟨tm, df⟩ Wz hz hdf hoff h106 hBz
         simp only at hz hdf hoff h106
         change tm.getD 106 undef = .bool (hitQ Q (kX x hf k) (kY y hf k) hf iq) at h106
         subst hdf
         have htm := tmps_fold [98, 99, 100, 101, 102, 103, 104, 105, 106] tm _ hz hoff
         simp only [List.foldl, List.setIfInBounds_toArray, List.set_cons_zero, List.set_cons_succ, h106] at htm
         clear hz hoff
         generalize tm.getD 98 undef = pa0, tm.getD 99 undef = pa1, tm.getD 100 undef = pa2, tm.getD 101 undef = pa3, tm.getD 102 undef = pa4, tm.getD 103 undef = pa5, tm.getD 104 undef = pa6, tm.getD 105 undef = pa7 at htm
         clear h106
         subst htm
         replace BG := BG.step hBz
         replace BR := BR.step hBz
         replace BK := BK.step hBz
         have HOK2 := ownA_step HOK hBz
         have HBz2 := HBz.trans (hBz.mono (by omega))
         have hcell2 := (hBz.cell (p := ⟨A1, o1 + c, none⟩) hA1).trans hcell
         have hWzs := hBz.size
         have hKL : w.heap.size + 2 < A1 ∧ A1 < wk.heap.size := by
           have := HIA.out A1 o1 none rfl
           omega
         clear m4 hcell HOK HBz hSg s1 s2 s3 s4 hBz
         cases hh : hitQ Q (kX x hf k) (kY y hf k) hf iq with
         | false =>
           have HKL : Hid ((idL Q (flQ Q (FL.take c) (kX x hf k) (kY y hf k) hf)) = (idL Q (flQ Q (FL.take (c + 1)) (kX x hf k) (kY y hf k) hf))) := by show _ = _; rw [kL_more HIQ.out, hh]; simp
           clear hh
           go_wp2
           go_roundw
           case rel => exact ⟨c + 1, .slice go9 _ gc9, by omega, by go_num, BK, by rw [← HKL.out]; exact HOK2, HBz2⟩
           case measure => simp [intOf]; omega
         | true =>
           have HKL : Hid ((idL Q (flQ Q (FL.take (c + 1)) (kX x hf k) (kY y hf k) hf)) = (idL Q (flQ Q (FL.take c) (kX x hf k) (kY y hf k) hf)) ++ [Q.I iq]) := by show _ = _; rw [kL_more HIQ.out, hh]; simp
           clear hh
           go_upto_region 22 with fail
           refine qpB (i0 := iN) (Kb := wk.heap.size) (P := w.heap.size) (E0 := A1) (eoff := o1) (en := n1) (ec := ec1) (c := c) (n := (idL Q (flQ Q (FL.take c) (kX x hf k) (kY y hf k) hf)).length) (base := W5.heap.size) (z := Q.I iq) (o := .slice go9 (idL Q (flQ Q (FL.take c) (kX x hf k) (kY y hf k) hf)).length gc9) (Lz := (idL Q (flQ Q (FL.take c) (kX x hf k) (kY y hf k) hf)).map (Value.int .i64)) (kd := [.int .i64 (kX x hf k), .int .i64 (kY y hf k), .int .i64 hf, .slice none 0 0, .slice go9 (idL Q (flQ Q (FL.take c) (kX x hf k) (kY y hf k) hf)).length gc9]) (Wd := Wz.drew) hN0 hN1 hN2 hN3 hcn (by omega) (by omega) (by omega) (by omega) (ownA_step HOK2 ((Below.refl _ Wz).drew)) (BK.step ((Below.refl _ Wz).drew)) rfl rfl rfl rfl rfl rfl (BG.c 4 rfl) (by show w.heap.size < wk.heap.size; omega) hcell2 hKL.2 rfl ?_
           rintro ⟨tm, df⟩ Wy hz hdf hoff _ hBy ⟨aoN, capN, hKN, hON⟩
           simp only at hz hdf hoff
           subst hdf
           have htm := tmps_fold [107, 108, 109, 110, 111, 112, 113, 114, 115, 116] tm _ hz hoff
           simp only [List.foldl, List.setIfInBounds_toArray, List.set_cons_zero, List.set_cons_succ] at htm
           clear hz hoff
           generalize tm.getD 107 undef = pb0, tm.getD 108 undef = pb1, tm.getD 109 undef = pb2, tm.getD 110 undef = pb3, tm.getD 111 undef = pb4, tm.getD 112 undef = pb5, tm.getD 113 undef = pb6, tm.getD 114 undef = pb7, tm.getD 115 undef = pb8, tm.getD 116 undef = pb9 at htm
           subst htm
           have HBy := HBz2.trans hBy
           clear HOK2 HBz2 BK hcell2
           go_wp2
           go_roundw
           case rel => exact ⟨c + 1, .slice aoN _ capN, by omega, by go_num, hKN, by rw [HKL.out, List.length_append, List.map_append]; exact hON, HBy⟩
           case measure => simp [intOf]; omega
       · obtain rfl : n1 = c := by omega
         have hke := kL_end hq.s1 hk4 HFL.out HFN.out
         rw [HHF.out] at hke
         rw [hke] at HOK BK
         have hIe : IdV (fun b => W5.heap.size ≤ b) wr (.slice go9 (canL Q (kX x hf k) (kY y hf k) hf).length gc9) (canL Q (kX x hf k) (kY y hf k) hf) := IdV.of HOK
         obtain ⟨q, hq9⟩ : ∃ q, (canL Q (kX x hf k) (kY y hf k) hf).length = q := ⟨_, rfl⟩
         rw [hq9] at hIe BK
         have HO6 := ownA_step (ownQ_heap HO (fun b hb => HBz.block b (hkvb.out b hb).2)) ((Below.refl _ _).alloc (Nat.le_refl _) (.cells #[.int .i64 (kX x hf k), .int .i64 (kY y hf k), .int .i64 hf, .slice none 0 0, .slice go9 q gc9] 64))
         have BG6 := BG.alloc (.cells #[.int .i64 (kX x hf k), .int .i64 (kY y hf k), .int .i64 hf, .slice none 0 0, .slice go9 q gc9] 64)
         have BR6 := BR.alloc (.cells #[.int .i64 (kX x hf k), .int .i64 (kY y hf k), .int .i64 hf, .slice none 0 0, .slice go9 q gc9] 64)
         have HB6 := (HB.trans (HBz.mono (by omega))).alloc (show w.heap.size ≤ wr.heap.size by omega) (.cells #[.int .i64 (kX x hf k), .int .i64 (kY y hf k), .int .i64 hf, .slice none 0 0, .slice go9 q gc9] 64)
         have hs6 : Hid ((wr.alloc (.cells #[.int .i64 (kX x hf k), .int .i64 (kY y hf k), .int .i64 hf, .slice none 0 0, .slice go9 q gc9] 64)).heap.size = wr.heap.size + 1) := by show (wr.alloc _).heap.size = _; simp
         have p0 := BK.c 0 rfl; have p1 := BK.c 1 rfl; have p2 := BK.c 2 rfl; have p3 := BK.c 3 rfl; have p4 := BK.c 4 rfl
         have g3 := BG.c 3 rfl
         clear hke HOK hq9
         go_upto_region 23 with fail
         go_wp2_with (at_builtin; go_loud (refine wpList_append_own_at _ rfl _ _ 62 rfl W4.heap.size 64 i0 (.agg #[.int .i64 0, .int .i64 0, .int .i64 0, .slice none 0 0, .slice none 0 0]) 5 72 Try.underlying62 hi0 hz0 hz1 hz2 rfl (by decide) _ _ _ rfl HO6 ⟨wr.heap.size, 0, none⟩ 1 1 [.int .i64 (kX x hf k), .int .i64 (kY y hf k), .int .i64 hf, .slice none 0 0, .slice go9 q gc9] rfl rfl (new_cells _ _ _) (one5 _ _ _ _ _ _ _ _ _) (by unfold maxLen; omega) (by omega) (by have := hs6.out; omega) ?_))
         clear m4
         intro v' w' hown hgrow _ hob
         have hold : ∀ b, b < wr.heap.size → some b ≠ (Value.slice ao9 k cap9).ownBlock → w'.heap[b]? = wr.heap[b]? := fun b hb hne => (hgrow.block b (by have := hs6.out; omega) hne).trans (((Below.refl wr.heap.size wr).alloc (Nat.le_refl _) _).block b hb)
         have hsz5 : wr.heap.size ≤ w'.heap.size := by have h := hgrow.size; have := hs6.out; omega
         have HKN : Hid (∀ j, j < k + 1 → IdV (okK (w.heap.size + 2) v') w' (setV evf k (.slice go9 q gc9) j) (canL Q (kX x hf j) (kY y hf j) hf)) := fun j hj => by
           by_cases e2 : j = k
           · subst e2
             rw [show setV evf j (.slice go9 q gc9) j = .slice go9 q gc9 from if_pos rfl]
             refine hIe.keep hsz5 (fun b hb hb2 => hold b hb2 (fun e3 => by have := hkvb.out b e3.symm; omega)) (fun b hb hb2 => ⟨by omega, fun e3 => ?_⟩)
             rcases hob with h | h
             · rw [h] at e3; have := hkvb.out b e3.symm; omega
             · rw [h] at e3; have := Option.some.inj e3; have := hs6.out; omega
           · rw [show setV evf k (.slice go9 q gc9) j = evf j from if_neg e2]
             refine IdV.keep (HMr.out j (by omega)) (by omega) (fun b hb hb2 => ((hold b (by omega) hb.2).trans (HBz.block b hb2)).trans (HBK.block b hb2)) (fun b hb hb2 => ⟨hb.1, fun e3 => ?_⟩)
             rcases hob with h | h
             · rw [h] at e3; exact hb.2 e3
             · rw [h] at e3; have := Option.some.inj e3; have := hs6.out; omega
         obtain ⟨ao', cap', rfl⟩ := ownQ_slice hown
         have hnil : (setV (fun _ => .slice none 0 0) k (.slice none 0 0) : Nat → Value) = (fun _ => .slice none 0 0) := by funext j; unfold setV; split <;> rfl
         rw [← kdL_set, hnil] at hown
         have BG7 := BG6.grown hgrow (fun e3 => by have := hkvb.out w.heap.size e3.symm; omega)
         have BR7 := BR6.grown hgrow (fun e3 => by have := hkvb.out (w.heap.size + 2) e3.symm; omega)
         have HI7 := HI.keep (ok' := (fun b => w.heap.size + 2 < b ∧ b < W4.heap.size)) hsz5 (fun b hb hb2 => hold b hb2 (fun e3 => by have := hkvb.out b e3.symm; omega)) (fun _ h _ => h)
         have HB7 := HB6.grown hgrow (by have := hs6.out; omega) (fun b hb => by have := hkvb.out b hb; omega)
         have g3f := BG7.f 3 rfl; have g3c := BG7.c 3 rfl
         have hne0 : ∀ b, w.heap.size < b → (w'.setCell ⟨w.heap.size, 3, none⟩ (.slice ao' (k + 1) cap')).heap[b]? = w'.heap[b]? := fun b hb => Below.heap_setCell _ _ _ _ (by show b ≠ w.heap.size; omega)
         have hsS : w'.heap.size ≤ (w'.setCell ⟨w.heap.size, 3, none⟩ (.slice ao' (k + 1) cap')).heap.size := by simp [World.setCell]
         have BGN : Blk (w'.setCell ⟨w.heap.size, 3, none⟩ (.slice ao' (k + 1) cap')) w.heap.size [.int .i64 x, .int .i64 y, .int .i64 s, .slice ao' (k + 1) cap', .slice eo1 n1 ec1] := BG7.setI 3 (by simp) _
         have BRN : Blk (w'.setCell ⟨w.heap.size, 3, none⟩ (.slice ao' (k + 1) cap')) (w.heap.size + 2) [.int .i64 0, .int .i64 0, .int .i64 0, .slice none 0 0, .slice none 0 0] := BR7.keep hsS (hne0 _ (by omega))
         have HIN : IdV (fun b => w.heap.size + 2 < b ∧ b < W4.heap.size) (w'.setCell ⟨w.heap.size, 3, none⟩ (.slice ao' (k + 1) cap')) (.slice eo1 n1 ec1) (idL Q FL) := HI7.keep hsS (fun b hb _ => hne0 b (by omega)) (fun _ h _ => h)
         have HON : (w'.setCell ⟨w.heap.size, 3, none⟩ (.slice ao' (k + 1) cap')).ownsRow W4.heap.size 64 5 (.slice ao' (k + 1) cap') (k + 1) (kdL x y hf (fun _ => .slice none 0 0) (setV evf k (.slice go9 q gc9)) (k + 1)) := ownQ_heap hown (fun b hb => hne0 b (by have := (hown.lt b hb).1; omega))
         have HMN : Hid (∀ j, j < k + 1 → IdV (okK (w.heap.size + 2) (.slice ao' (k + 1) cap')) (w'.setCell ⟨w.heap.size, 3, none⟩ (.slice ao' (k + 1) cap')) (setV evf k (.slice go9 q gc9) j) (canL Q (kX x hf j) (kY y hf j) hf)) := fun j hj => (HKN.out j hj).keep hsS (fun b hb _ => hne0 b (by have := hb.1; omega)) (fun _ h _ => h)
         have HBN : Below w.heap.size w (w'.setCell ⟨w.heap.size, 3, none⟩ (.slice ao' (k + 1) cap')) := HB7.setCell (Nat.le_refl _) _
         have hsN : W4.heap.size ≤ (w'.setCell ⟨w.heap.size, 3, none⟩ (.slice ao' (k + 1) cap')).heap.size := by omega
         clear HKN BG7 BR7 HI7 HB7 hown hgrow hob hold hsz5 HO6 BG6 BR6 HB6 hs6 p0 p1 p2 p3 p4 g3 hIe hne0 hsS hnil BG BR HI BK
         go_wp2
         go_roundw
         case rel => exact ⟨k + 1, .slice ao' (k + 1) cap', setV evf k (.slice go9 q gc9), by omega, by go_num, BGN, BRN, HIN, HON, HMN.out, HBN, hsN⟩
         case measure => simp [intOf]; omega
   · obtain rfl : k = 4 := by omega
     obtain ⟨gk, ck, rfl, hgk1, hgk2, _, _⟩ := ownQ_form HO (by omega)
     have hPl : w.heap.size + 2 < wr.heap.size := BR.lt
     have m0 := BG.c 0 rfl; have m1 := BG.c 1 rfl; have m2 := BG.c 2 rfl; have m3 := BG.c 3 rfl; have m4 := BG.c 4 rfl; have y0 := BG.f 0 rfl; have y1 := BG.f 1 rfl; have y2 := BG.f 2 rfl; have y3 := BG.f 3 rfl; have y4 := BG.f 4 rfl
     have B0N : Blk (wr.setCell ⟨w.heap.size, 4, none⟩ (.slice none 0 0)) w.heap.size [.int .i64 x, .int .i64 y, .int .i64 s, .slice (some ⟨gk, 0, none⟩) 4 ck, .slice none 0 0] := BG.setI 4 (by simp) _
     have B2N : Blk (wr.setCell ⟨w.heap.size, 4, none⟩ (.slice none 0 0)) (w.heap.size + 2) [.int .i64 0, .int .i64 0, .int .i64 0, .slice none 0 0, .slice none 0 0] := BR.keep (by simp [World.setCell]) (Below.heap_setCell _ _ _ _ (by show w.heap.size + 2 ≠ w.heap.size; omega))
     have HBN : Below w.heap.size w (wr.setCell ⟨w.heap.size, 4, none⟩ (.slice none 0 0)) := HB.setCell (Nat.le_refl _) _
     have hne0 : ∀ b, w.heap.size + 2 < b → (wr.setCell ⟨w.heap.size, 4, none⟩ (.slice none 0 0)).heap[b]? = wr.heap[b]? := fun b hb => Below.heap_setCell _ _ _ _ (by show b ≠ w.heap.size; omega)
     have hsS : wr.heap.size ≤ (wr.setCell ⟨w.heap.size, 4, none⟩ (.slice none 0 0)).heap.size := by simp [World.setCell]
     have MN : Hid (MTr (fun b => w.heap.size + 2 < b) (wr.setCell ⟨w.heap.size, 4, none⟩ (.slice none 0 0)) (.node (fun k => .leaf (canL Q (kX x (s / 2) k) (kY y (s / 2) k) (s / 2)))) x y s (.slice (some ⟨gk, 0, none⟩) 4 ck) (.slice none 0 0)) := by
       refine MTr.node_of (kv' := (fun _ => .slice none 0 0)) (ev' := evf) (base := W4.heap.size) (fun b hb => by omega) ⟨none, 0, rfl, fun i hi => absurd hi (by simp), fun _ => rfl, fun _ _ _ e => by cases e⟩ ?_ (fun k hk4 => ?_)
       · rw [HHF.out]; exact ownQ_heap HO (fun b hb => hne0 b (by have := (HO.lt b hb).1; omega))
       · rw [HHF.out]
         exact ⟨rfl, (HM k hk4).keep hsS (fun b hb _ => hne0 b (by have := hb.1; omega)) (fun b hb _ => hb.1)⟩
     go_upto_region 25 with fail
     clear m0 m1 m2 m3 m4 y0 y1 y2 y3 y4 BG BR HO HM HB HI hsS hne0
     generalize (wr.setCell ⟨w.heap.size, 4, none⟩ (.slice none 0 0)) = W9 at *
     have m0 := B0N.c 0 rfl; have m1 := B0N.c 1 rfl; have m2 := B0N.c 2 rfl; have m3 := B0N.c 3 rfl; have m4 := B0N.c 4 rfl; have y0 := B2N.f 0 rfl; have y1 := B2N.f 1 rfl; have y2 := B2N.f 2 rfl; have y3 := B2N.f 3 rfl; have y4 := B2N.f 4 rfl; have z0 := B2N.c 0 rfl; have z1 := B2N.c 1 rfl; have z2 := B2N.c 2 rfl; have z3 := B2N.c 3 rfl; have z4 := B2N.c 4 rfl
     have BF := set5_blk B2N (.int .i64 x) (.int .i64 y) (.int .i64 s) (.slice (some ⟨gk, 0, none⟩) 4 ck) (.slice none 0 0)
     have HF := set5_below HBN (show w.heap.size ≤ w.heap.size + 2 by omega) (.int .i64 x) (.int .i64 y) (.int .i64 s) (.slice (some ⟨gk, 0, none⟩) 4 ck) (.slice none 0 0)
     have MF : Hid (MTr (fun b => False ∨ w.heap.size ≤ b) (((((W9.setCell ⟨w.heap.size + 2, 0, none⟩ (.int .i64 x)).setCell ⟨w.heap.size + 2, 1, none⟩ (.int .i64 y)).setCell ⟨w.heap.size + 2, 2, none⟩ (.int .i64 s)).setCell ⟨w.heap.size + 2, 3, none⟩ (.slice (some ⟨gk, 0, none⟩) 4 ck)).setCell ⟨w.heap.size + 2, 4, none⟩ (.slice none 0 0)) (.node (fun k => .leaf (canL Q (kX x (s / 2) k) (kY y (s / 2) k) (s / 2)))) x y s (.slice (some ⟨gk, 0, none⟩) 4 ck) (.slice none 0 0)) := MTr.keep (by simp [World.setCell]) (fun b hb _ => set5_heap (by show b ≠ w.heap.size + 2; omega)) (fun b hb _ => .inr (by omega)) MN.out
     clear MN
     go_wp2
     have r0 := BF.out.c 0 rfl; have r1 := BF.out.c 1 rfl; have r2 := BF.out.c 2 rfl; have r3 := BF.out.c 3 rfl; have r4 := BF.out.c 4 rfl
     refine bodyPost_ret (v := .agg #[.int .i64 x, .int .i64 y, .int .i64 s, .slice (some ⟨gk, 0, none⟩) 4 ck, .slice none 0 0]) (by simp [results, Try.results30, go_sem, r0, r1, r2, r3, r4]) rfl ?_
     exact ⟨_, _, _, _, _, _, rfl, MF.out, HF⟩
end Go.Proofs.Ytjhapeidafbncaa
