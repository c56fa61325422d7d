/- Part 10 of the walks that the proof leans on. -/
import Derived.Test.YtaagmdhbfbikfaaPart9
/- The model reads a block with its kids. -/
namespace Go.Proofs.Ytaagmdhbfbikfaa
open Go.RowKit
/-- Blocks behind one, and not the one that a slice lies in. -/
def okK (G : Nat) (v : Value) (b : Nat) : Prop := G < b ∧ some b ≠ v.ownBlock
theorem kp_le {Q : QD} {d at_ : Nat} {x y hf : Int} (hat : at_ ≤ Q.N) : ∀ k a, kp (fun a x y => mrd Q d a x y hf) at_ x y hf k = some a → at_ ≤ a ∧ a ≤ Q.N
  | 0, a, h => by cases h; omega
  | k + 1, a, h => by
    obtain ⟨b, h1, h2⟩ := Option.bind_eq_some_iff.1 h
    have := kp_le hat k b h1
    have := mrd_le h2
    omega
theorem kp_none {f : Nat → Int → Int → Option Nat} {at_ : Nat} {x y h : Int} {k : Nat} (h0 : kp f at_ x y h k = none) : ∀ j, kp f at_ x y h (k + j) = none
  | 0 => h0
  | j + 1 => by show (kp f at_ x y h (k + j)).bind _ = none; rw [kp_none h0 j]; rfl
theorem kid_wrap {x y s hf : Int} (hq : Sq x y s) (hh : s / 2 = hf) {k : Nat} (hk : k < 4) : wrap64 (s.tdiv 2) = hf ∧ wrap64 (x + wrap64 ((k : Int) % 2 * hf)) = kX x hf k ∧ wrap64 (y + wrap64 ((k : Int) / 2 * hf)) = kY y hf k := by
  have a1 := hq.x1; have a2 := hq.y1; have a3 := hq.s1; have a4 := hq.x2; have a5 := hq.y2
  have e : s.tdiv 2 = hf := by rw [← hh, Int.tdiv_eq_ediv_of_nonneg a3]
  rw [e]
  refine ⟨by unfold wrap64; omega, ?_⟩
  rcases (show k = 0 ∨ k = 1 ∨ k = 2 ∨ k = 3 by omega) with h | h | h | h <;> subst h <;> simp [kX, kY, wrap64] <;> omega
theorem Sq.kid {x y s : Int} (h : Sq x y s) {k : Nat} (hk : k < 4) : Sq (kX x (s / 2) k) (kY y (s / 2) k) (s / 2) := by
  obtain ⟨h1, h2, h3, h4⟩ := kid_in (x := x) (y := y) h.s1 hk
  have a1 := h.x1; have a2 := h.y1; have a3 := h.s1; have a4 := h.x2; have a5 := h.y2
  exact ⟨by omega, by omega, by omega, by omega, by omega⟩
set_option maxRecDepth 100000 in
set_option maxHeartbeats 16000000 in
theorem l13Read_node (Q : QD) (bo : Option Addr) (bcap A off : Nat) (so : Nat → Option Addr × Nat) (wb : World) (hN : Q.N ≤ 1048576) (hbo : 0 < Q.N → bo = some ⟨A, off, none⟩) (hso : ∀ i, i < Q.N → (so i).1 = none → (so i).2 = 0) (hBl : BlIn Q wb A off so) (d at_ : Nat) (x y s : Int) (w : World) (hd8 : d + 1 ≤ 8) (hb : baseB Q at_ x y s = true) (hT : Q.T at_ = true) (hL : Q.L at_ = 0) (hq : Sq x y s) (HB : Below wb.heap.size wb w)
    (ih : ∀ (at_ : Nat) (x y s : Int) (w : World), at_ ≤ Q.N → Sq x y s → Below wb.heap.size wb w → Calls Try.prog 42 #[.slice bo Q.N bcap, .int .i64 (at_ : Int), .int .i64 x, .int .i64 y, .int .i64 s, .int .i64 (d : Int)] w (RdM Q d at_ x y s w)) : Calls Try.prog 42 #[.slice bo Q.N bcap, .int .i64 (at_ : Int), .int .i64 x, .int .i64 y, .int .i64 s, .int .i64 ((d + 1 : Nat) : Int)] w (RdM Q (d + 1) at_ x y s w) := by
  obtain ⟨i0, hi, hz0, hz1, hz2⟩ := info_b13
  have hat : at_ < Q.N := (of_decide_eq_true hb).1
  have Hb : Hid (baseB Q at_ x y s = true) := hb
  have HT : Hid (Q.T at_ = true) := hT
  have HL : Hid (Q.L at_ = 0) := hL
  clear hb hT hL
  have hatI : (at_ : Int) ≤ 1048576 := by omega
  obtain ⟨D, hD⟩ : ∃ D : Int, ((d + 1 : Nat) : Int) = D := ⟨_, rfl⟩
  have hDd : D = (d : Int) + 1 := by omega
  rw [hD]
  have hD1 : ¬ (D < 1) := by omega
  have hD8 : D ≤ 8 := by omega
  have HD : Hid (D = (d : Int) + 1) := hDd
  clear hD hDd
  have HBl : Hid (BlIn Q wb A off so) := hBl
  obtain rfl := hbo (by omega)
  obtain ⟨hA, c0, c1, c2, c3, c4, hNo⟩ := hBl.below HB at_ hat
  have B0 : Blk (w.alloc (.cells #[.int .i64 0, .int .i64 0, .int .i64 0, .slice none 0 0, .slice none 0 0] 52)) w.heap.size [.int .i64 0, .int .i64 0, .int .i64 0, .slice none 0 0, .slice none 0 0] := Blk.new w [.int .i64 0, .int .i64 0, .int .i64 0, .slice none 0 0, .slice none 0 0] 52 rfl
  have HBA : Below w.heap.size w (w.alloc (.cells #[.int .i64 0, .int .i64 0, .int .i64 0, .slice none 0 0, .slice none 0 0] 52)) := (Below.refl _ w).alloc (Nat.le_refl _) _
  have hcI : (at_ : Int) < Q.N := by omega
  have HI : NoIn w (so at_).1 (blL Q at_).length (fun i => (blL Q at_).getD i 0) := (fun i hi => by rw [blL_len] at hi; obtain ⟨A1, o1, e1, h1, h2⟩ := hNo i hi; exact ⟨A1, o1, e1, h1, by show _ = some (Value.int _ ((blL Q at_).getD i 0)); rw [h2, blL_at hi]⟩)
  clear hNo
  go_enter Try.func42, Try.ntmps42
  go_upto_region 4 with fail
  replace B0 := B0.alloc (.cells #[.int .i64 (Q.X at_), .int .i64 (Q.Y at_), .int .i64 (Q.Z at_), .bool (Q.T at_), .slice (so at_).1 (Q.L at_) (so at_).2] 95)
  have B1 : Blk ((w.alloc (.cells #[.int .i64 0, .int .i64 0, .int .i64 0, .slice none 0 0, .slice none 0 0] 52)).alloc (.cells #[.int .i64 (Q.X at_), .int .i64 (Q.Y at_), .int .i64 (Q.Z at_), .bool (Q.T at_), .slice (so at_).1 (Q.L at_) (so at_).2] 95)) (w.heap.size + 1) [.int .i64 (Q.X at_), .int .i64 (Q.Y at_), .int .i64 (Q.Z at_), .bool (Q.T at_), .slice (so at_).1 (Q.L at_) (so at_).2] := Blk.new (w.alloc (.cells #[.int .i64 0, .int .i64 0, .int .i64 0, .slice none 0 0, .slice none 0 0] 52)) [.int .i64 (Q.X at_), .int .i64 (Q.Y at_), .int .i64 (Q.Z at_), .bool (Q.T at_), .slice (so at_).1 (Q.L at_) (so at_).2] 95 (by simp)
  replace HBA := HBA.alloc (by simp) (.cells #[.int .i64 (Q.X at_), .int .i64 (Q.Y at_), .int .i64 (Q.Z at_), .bool (Q.T at_), .slice (so at_).1 (Q.L at_) (so at_).2] 95)
  have hsz : Hid (((w.alloc (.cells #[.int .i64 0, .int .i64 0, .int .i64 0, .slice none 0 0, .slice none 0 0] 52)).alloc (.cells #[.int .i64 (Q.X at_), .int .i64 (Q.Y at_), .int .i64 (Q.Z at_), .bool (Q.T at_), .slice (so at_).1 (Q.L at_) (so at_).2] 95)).heap.size = w.heap.size + 2) := by show _ = _; simp
  replace HI := HI.step HBA
  clear c0 c1 c2 c3 c4
  generalize ((w.alloc (.cells #[.int .i64 0, .int .i64 0, .int .i64 0, .slice none 0 0, .slice none 0 0] 52)).alloc (.cells #[.int .i64 (Q.X at_), .int .i64 (Q.Y at_), .int .i64 (Q.Z at_), .bool (Q.T at_), .slice (so at_).1 (Q.L at_) (so at_).2] 95)) = W1 at *
  have HBB : Below wb.heap.size wb W1 := HB.trans (HBA.mono HB.size)
  obtain ⟨_, hX, hY, hZ⟩ := of_decide_eq_true Hb.out
  have hL := HL.out
  rw [HT.out, hL] at B1
  have z0 := B0.c 0 rfl; have y0 := B0.f 0 rfl; have z1 := B0.c 1 rfl; have y1 := B0.f 1 rfl; have z2 := B0.c 2 rfl; have y2 := B0.f 2 rfl; have z3 := B0.c 3 rfl; have y3 := B0.f 3 rfl; have z4 := B0.c 4 rfl; have y4 := B0.f 4 rfl; have m0 := B1.c 0 rfl; have m1 := B1.c 1 rfl; have m2 := B1.c 2 rfl; have m3 := B1.c 3 rfl; have m4 := B1.c 4 rfl
  rw [hX] at m0; rw [hY] at m1; rw [hZ] at m2
  have m9 := (B1.alloc (.cells #[] 2)).c 4 rfl
  have HBW := HBA
  have hbl : blL Q at_ = [] := by unfold blL; rw [hL]; rfl
  rw [hbl] at HI
  clear hX hY hZ hL hbl
  go_wp2_with (at_builtin; go_loud (refine wpList_append_ids rfl _ _ rfl W1.heap.size _ rfl (World.ownsRow_made W1 #[] 0 (Nat.le_refl _) (by decide) rfl) [] (so at_).1 (so at_).2 rfl (HI.step ((Below.refl _ _).alloc (Nat.le_refl _) _)) (hso at_ hat) (by simp) (by simp) ?_))
  intro v w2 r1 r2 r4
  obtain ⟨ao, c, rfl, hNi, hn0, hok⟩ := IdV.of (l := []) r1
  replace hNi : NoIn w2 ao 0 (fun i => ([] : List Int).getD i 0) := hNi
  change w2.ownsRow W1.heap.size 2 1 (.slice ao 0 c) 0 [] at r1
  have HB2 : Below W1.heap.size W1 w2 := ((Below.refl _ _).alloc (Nat.le_refl _) _).grown r2 (by simp) (fun k hk => by cases hk; exact Nat.le_refl _)
  replace B0 := (B0.step HB2).alloc (.cells #[.int .i64 x, .int .i64 y, .int .i64 s, .slice none 0 0, .slice ao 0 c] 52)
  replace B1 := (B1.step HB2).alloc (.cells #[.int .i64 x, .int .i64 y, .int .i64 s, .slice none 0 0, .slice ao 0 c] 52)
  have B2 : Blk (w2.alloc (.cells #[.int .i64 x, .int .i64 y, .int .i64 s, .slice none 0 0, .slice ao 0 c] 52)) w2.heap.size [.int .i64 x, .int .i64 y, .int .i64 s, .slice none 0 0, .slice ao 0 c] := Blk.new w2 [.int .i64 x, .int .i64 y, .int .i64 s, .slice none 0 0, .slice ao 0 c] 52 rfl
  replace HBA := (HBA.trans (HB2.mono HBA.size)).alloc (Nat.le_trans HBA.size HB2.size) (.cells #[.int .i64 x, .int .i64 y, .int .i64 s, .slice none 0 0, .slice ao 0 c] 52)
  have hI5 : IdV (fun b => W1.heap.size ≤ b ∧ b < w2.heap.size) (w2.alloc (.cells #[.int .i64 x, .int .i64 y, .int .i64 s, .slice none 0 0, .slice ao 0 c] 52)) (.slice ao 0 c) [] := IdV.step ⟨_, _, rfl, hNi, hn0, fun A o sp e => ⟨⟨(hok A o sp e).1, (hok A o sp e).2⟩, (hok A o sp e).2⟩⟩ ((Below.refl _ _).alloc (Nat.le_refl _) _)
  have hWsz : Hid (w.heap.size < W1.heap.size) := by show w.heap.size < W1.heap.size; have := hsz.out; omega
  have HSZ : Hid (w2.heap.size = W1.heap.size + 1 ∨ w.heap.size + 2 < w2.heap.size) := .inr (by have h := r2.size; have := hsz.out; simp at h; omega)
  clear r1 r2 r4 hNi m9 HB2 HI HBW
  clear z0 z1 z2 z3 z4 y0 y1 y2 y3 y4 m0 m1 m2 m3 m4
  go_upto_region 8 with fail
  generalize (w2.alloc (.cells #[.int .i64 x, .int .i64 y, .int .i64 s, .slice none 0 0, .slice ao 0 c] 52)) = W3 at *
  obtain ⟨G, hG⟩ : ∃ G, w2.heap.size = G := ⟨_, rfl⟩
  have hGw : w.heap.size + 2 < G := by rcases HSZ.out with h | h <;> have := hsz.out <;> omega
  rw [hG] at B2 hI5 ⊢
  clear hG HSZ hsz
  have hBBW : Below wb.heap.size wb W3 := HB.trans (HBA.mono HB.size)
  obtain ⟨hf, hhf⟩ : ∃ hf, s / 2 = hf := ⟨_, rfl⟩
  obtain ⟨TK, hTK⟩ : ∃ TK : Nat → QT, (fun k => trQ Q d ((kp (fun a x y => mrd Q d a x y hf) (at_ + 1) x y hf k).getD 0) (kX x hf k) (kY y hf k) hf) = TK := ⟨_, rfl⟩
  have HHF : Hid (s / 2 = hf) := hhf
  have HTK : Hid ((fun k => trQ Q d ((kp (fun a x y => mrd Q d a x y hf) (at_ + 1) x y hf k).getD 0) (kX x hf k) (kY y hf k) hf) = TK) := hTK
  clear hTK
  have m3 := B1.c 3 rfl
  go_wp2_with fail
  clear m3
  go_loopw [1, 17] (fun iat ik wr => ∃ (k a : Nat) (kv : Value) (kvf evf : Nat → Value), k ≤ 4 ∧ ik = .int .i64 k ∧ iat = .int .i64 a ∧ kp (fun a x y => mrd Q d a x y hf) (at_ + 1) x y hf k = some a ∧ Blk wr G [.int .i64 x, .int .i64 y, .int .i64 s, kv, .slice ao 0 c] ∧ wr.ownsRow (G + 1) 52 5 kv k (kdL x y hf kvf evf k) ∧ (∀ j, j < k → MTr (okK G kv) wr (TK j) (kX x hf j) (kY y hf j) hf (kvf j) (evf j)) ∧ Below G W3 wr ∧ G < wr.heap.size) (fun _ i _ => 4 - (intOf i).toNat)
  case atStart => exact ⟨0, at_ + 1, .slice none 0 0, fun _ => .slice none 0 0, fun _ => .slice none 0 0, by omega, rfl, by push_cast; rfl, rfl, B2, World.ownsRow_nil _ _ _ _, fun j hj => absurd hj (by omega), Below.refl _ _, B2.lt⟩
  case round =>
    obtain ⟨k, a, kv, kvf, evf, hk, rfl, rfl, hkp, BG, HO, HM, HBG, hGl⟩ := hrel
    by_cases hk4 : k < 4
    · have hkI : (k : Int) < 4 := by omega
      have hDm : D - 1 = (d : Int) := by have := HD.out; omega
      have hsq := hq.kid hk4
      rw [HHF.out] at hsq
      obtain ⟨m1, m2⟩ : at_ + 1 ≤ a ∧ a ≤ Q.N := kp_le (by omega) k a hkp
      have C := ih a (kX x hf k) (kY y hf k) hf wr m2 hsq (hBBW.trans (HBG.mono (by have := HB.size; omega)))
      obtain ⟨wv0, wv1, wv2⟩ := kid_wrap hq HHF.out hk4
      go_wp2_with fail
      rw [wv0, wv1, wv2]
      refine C.mono ?_
      rintro r w1 ⟨hB1, hC⟩
      rcases hC with ⟨hn, rfl⟩ | ⟨e, kv1, ev1, he, rfl, hM1⟩
      · have hkn : Hid (mrd Q (d + 1) at_ x y s = none) := by
          show _ = _
          rw [mrd_split Hb.out HT.out HL.out, HHF.out]
          have h1 : kp (fun a x y => mrd Q d a x y hf) (at_ + 1) x y hf (k + 1) = none := by show (kp (fun a x y => mrd Q d a x y hf) (at_ + 1) x y hf k).bind _ = none; rw [hkp]; exact hn
          have h2 := kp_none h1 (3 - k)
          rw [show k + 1 + (3 - k) = 4 by omega] at h2
          exact h2
        have B0w := ((B0.below HBG (by omega)).step hB1).alloc (.cells #[.int .i64 0, .int .i64 0, .int .i64 0, .slice none 0 0, .slice none 0 0] 52)
        replace HBA := (((HBA.trans (HBG.mono (by omega))).trans (hB1.mono (by omega)))).alloc (by have := hB1.size; omega) (.cells #[.int .i64 0, .int .i64 0, .int .i64 0, .slice none 0 0, .slice none 0 0] 52)
        have BF := z5_set B0w
        have z0 := B0w.c 0 rfl; have z1 := B0w.c 1 rfl; have z2 := B0w.c 2 rfl; have z3 := B0w.c 3 rfl; have z4 := B0w.c 4 rfl; have y0 := B0w.f 0 rfl; have y1 := B0w.f 1 rfl; have y2 := B0w.f 2 rfl; have y3 := B0w.f 3 rfl; have y4 := B0w.f 4 rfl
        clear B0w HM HO BG hkp hn C
        go_upto_region 15 with fail
        generalize (w1.alloc (.cells #[.int .i64 0, .int .i64 0, .int .i64 0, .slice none 0 0, .slice none 0 0] 52)) = W5 at *
        go_wp2
        have r0 := BF.out.c 0 rfl; have r1 := BF.out.c 1 rfl; have r2 := BF.out.c 2 rfl; have r3 := BF.out.c 3 rfl; have r4 := BF.out.c 4 rfl
        refine bodyPost_ret (v := .tuple #[.agg #[.int .i64 0, .int .i64 0, .int .i64 0, .slice none 0 0, .slice none 0 0], .int .i64 0, .bool false]) (by simp [results, Try.results42, go_sem, r0, r1, r2, r3, r4]) rfl ?_
        exact ⟨(((((Below.setCell HBA (Nat.le_refl _) _).setCell (Nat.le_refl _) _).setCell (Nat.le_refl _) _).setCell (Nat.le_refl _) _).setCell (Nat.le_refl _) _), .inl ⟨hkn.out, rfl⟩⟩
      · obtain ⟨ko, kn, kc, eo, en, ec, rfl, rfl⟩ := hM1.vals
        have B5 : Blk (w1.alloc (.cells #[.int .i64 (kX x hf k), .int .i64 (kY y hf k), .int .i64 hf, .slice ko kn kc, .slice eo en ec] 52)) w1.heap.size [.int .i64 (kX x hf k), .int .i64 (kY y hf k), .int .i64 hf, .slice ko kn kc, .slice eo en ec] := Blk.new w1 [.int .i64 (kX x hf k), .int .i64 (kY y hf k), .int .i64 hf, .slice ko kn kc, .slice eo en ec] 52 rfl
        have HB15 : Below wr.heap.size wr (w1.alloc (.cells #[.int .i64 (kX x hf k), .int .i64 (kY y hf k), .int .i64 hf, .slice ko kn kc, .slice eo en ec] 52)) := hB1.alloc hB1.size _
        have HM5 : Hid (∀ j, j < k → MTr (okK G kv) (w1.alloc (.cells #[.int .i64 (kX x hf k), .int .i64 (kY y hf k), .int .i64 hf, .slice ko kn kc, .slice eo en ec] 52)) (TK j) (kX x hf j) (kY y hf j) hf (kvf j) (evf j)) := fun j hj => (HM j hj).step HB15
        have hM5 : MTr (fun b => wr.heap.size ≤ b) (w1.alloc (.cells #[.int .i64 (kX x hf k), .int .i64 (kY y hf k), .int .i64 hf, .slice ko kn kc, .slice eo en ec] 52)) (trQ Q d a (kX x hf k) (kY y hf k) hf) (kX x hf k) (kY y hf k) hf (.slice ko kn kc) (.slice eo en ec) := hM1.step ((Below.refl _ _).alloc (Nat.le_refl _) _)
        have hkvb : ∀ b, kv.ownBlock = some b → b < wr.heap.size := fun b hb => (HO.lt b hb).2
        go_upto_region 16 with fail
        replace BG := BG.step HB15
        replace HO := ownA_step HO HB15
        replace HBG := HBG.trans (HB15.mono (Nat.le_of_lt hGl))
        have hwr5 := HB15.size
        have h15 : w1.heap.size < (w1.alloc (.cells #[.int .i64 (kX x hf k), .int .i64 (kY y hf k), .int .i64 hf, .slice ko kn kc, .slice eo en ec] 52)).heap.size := by simp
        clear HM hM1 HB15 hB1 C wv0 wv1 wv2
        generalize (w1.alloc (.cells #[.int .i64 (kX x hf k), .int .i64 (kY y hf k), .int .i64 hf, .slice ko kn kc, .slice eo en ec] 52)) = W5 at *
        have p0 := B5.c 0 rfl; have p1 := B5.c 1 rfl; have p2 := B5.c 2 rfl; have p3 := B5.c 3 rfl; have p4 := B5.c 4 rfl
        have g3 := BG.c 3 rfl
        have HO6 := ownA_step HO ((Below.refl _ _).alloc (Nat.le_refl _) (.cells #[.int .i64 (kX x hf k), .int .i64 (kY y hf k), .int .i64 hf, .slice ko kn kc, .slice eo en ec] 52))
        have BG6 := BG.alloc (.cells #[.int .i64 (kX x hf k), .int .i64 (kY y hf k), .int .i64 hf, .slice ko kn kc, .slice eo en ec] 52)
        have HBG6 := HBG.alloc (Nat.le_of_lt (Nat.lt_of_lt_of_le hGl hwr5)) (.cells #[.int .i64 (kX x hf k), .int .i64 (kY y hf k), .int .i64 hf, .slice ko kn kc, .slice eo en ec] 52)
        have hs6 : Hid ((W5.alloc (.cells #[.int .i64 (kX x hf k), .int .i64 (kY y hf k), .int .i64 hf, .slice ko kn kc, .slice eo en ec] 52)).heap.size = W5.heap.size + 1) := by show (W5.alloc _).heap.size = _; simp
        go_wp2_with (at_builtin; go_loud (refine wpList_append_own_at _ rfl _ _ 50 rfl (G + 1) 52 i0 (.agg #[.int .i64 0, .int .i64 0, .int .i64 0, .slice none 0 0, .slice none 0 0]) 5 72 Try.underlying50 hi hz0 hz1 hz2 rfl (by decide) _ _ _ rfl HO6 ⟨W5.heap.size, 0, none⟩ 1 1 [.int .i64 (kX x hf k), .int .i64 (kY y hf k), .int .i64 hf, .slice ko kn kc, .slice eo en ec] rfl rfl (new_cells _ _ _) (one5 _ _ _ _ _ _ _ _ _) (by unfold maxLen; omega) (by omega) (by have := hs6.out; omega) ?_))
        intro v' w' hown hgrow _ hob
        have hold : ∀ b, b < W5.heap.size → some b ≠ kv.ownBlock → w'.heap[b]? = W5.heap[b]? := fun b hb hne => (hgrow.block b (by have := hs6.out; omega) hne).trans (((Below.refl W5.heap.size W5).alloc (Nat.le_refl _) _).block b hb)
        have hsz5 : W5.heap.size ≤ w'.heap.size := by have h := hgrow.size; have := hs6.out; omega
        have HKN : Hid (∀ j, j < k + 1 → MTr (okK G v') w' (TK j) (kX x hf j) (kY y hf j) hf (setV kvf k (.slice ko kn kc) j) (setV evf k (.slice eo en ec) j)) := fun j hj => by
          by_cases e2 : j = k
          · subst e2
            rw [show setV kvf j (.slice ko kn kc) j = .slice ko kn kc from if_pos rfl, show setV evf j (.slice eo en ec) j = .slice eo en ec from if_pos rfl, ← HTK.out]
            simp only [hkp, Option.getD_some]
            refine MTr.keep hsz5 (fun b hb hb2 => hold b hb2 (fun e3 => by have := hkvb b e3.symm; omega)) (fun b hb hb2 => ⟨by omega, fun e3 => ?_⟩) hM5
            rcases hob with h | h
            · rw [h] at e3; have := hkvb b e3.symm; omega
            · rw [h] at e3; have := Option.some.inj e3; omega
          · rw [show setV kvf k (.slice ko kn kc) j = kvf j from if_neg e2, show setV evf k (.slice eo en ec) j = evf j from if_neg e2]
            refine MTr.keep hsz5 (fun b hb hb2 => hold b hb2 hb.2) (fun b hb hb2 => ⟨hb.1, fun e3 => ?_⟩) (HM5.out j (by omega))
            rcases hob with h | h
            · rw [h] at e3; exact hb.2 e3
            · rw [h] at e3; have := Option.some.inj e3; omega
        obtain ⟨ao', cap', rfl⟩ := ownQ_slice hown
        rw [← kdL_set] at hown
        have BG7 := BG6.grown hgrow (fun e3 => by have := (HO6.lt G e3.symm).1; omega)
        have HBG7 := HBG6.grown hgrow (by have := hs6.out; omega) (fun b hb => by have := (HO6.lt b hb).1; omega)
        have g3f := BG7.f 3 rfl; have g3c := BG7.c 3 rfl
        have BGN : Blk (w'.setCell ⟨G, 3, none⟩ (.slice ao' (k + 1) cap')) G [.int .i64 x, .int .i64 y, .int .i64 s, .slice ao' (k + 1) cap', .slice ao 0 c] := BG7.setI 3 (by simp) _
        have HON : (w'.setCell ⟨G, 3, none⟩ (.slice ao' (k + 1) cap')).ownsRow (G + 1) 52 5 (.slice ao' (k + 1) cap') (k + 1) (kdL x y hf (setV kvf k (.slice ko kn kc)) (setV evf k (.slice eo en ec)) (k + 1)) := ownQ_heap hown (fun b hb => Below.heap_setCell _ _ _ _ (by have := (hown.lt b hb).1; show b ≠ G; omega))
        have HMN : Hid (∀ j, j < k + 1 → MTr (okK G (.slice ao' (k + 1) cap')) (w'.setCell ⟨G, 3, none⟩ (.slice ao' (k + 1) cap')) (TK j) (kX x hf j) (kY y hf j) hf (setV kvf k (.slice ko kn kc) j) (setV evf k (.slice eo en ec) j)) := fun j hj => MTr.keep (by simp [World.setCell]) (fun b hb _ => Below.heap_setCell _ _ _ _ (by have := hb.1; show b ≠ G; omega)) (fun _ h _ => h) (HKN.out j hj)
        have HBN : Below G W3 (w'.setCell ⟨G, 3, none⟩ (.slice ao' (k + 1) cap')) := HBG7.setCell (Nat.le_refl _) _
        have hkpN : Hid (kp (fun a x y => mrd Q d a x y hf) (at_ + 1) x y hf (k + 1) = some e) := by show (kp (fun a x y => mrd Q d a x y hf) (at_ + 1) x y hf k).bind _ = some e; rw [hkp]; exact he
        have hGN := BGN.lt
        clear HKN BG7 HBG7 hown hgrow hob hold hsz5 HO6 BG6 HBG6 hs6 p0 p1 p2 p3 p4 g3 HO BG HBG hkp HM5 hM5 B5 hkvb
        go_wp2
        go_roundw
        case rel => exact ⟨k + 1, e, _, _, _, by omega, by go_num, rfl, hkpN.out, BGN, HON, HMN.out, HBN, hGN⟩
        case measure => simp [intOf]; omega
    · obtain rfl : k = 4 := by omega
      obtain ⟨gk, ck, rfl, hgk1, hgk2, _, _⟩ := ownQ_form HO (by omega)
      have B0w := B0.below HBG (by omega)
      have HBA2 := HBA.trans (HBG.mono (by omega))
      have hI6 := hI5.below HBG (fun b hb => hb.2)
      have MN : Hid (MTr (fun b => w.heap.size < b) wr (.node TK) x y s (.slice (some ⟨gk, 0, none⟩) 4 ck) (.slice ao 0 c)) := by
        refine MTr.node_of (kv' := kvf) (ev' := evf) (base := G + 1) (fun b hb => by omega) (hI6.keep (Nat.le_refl _) (fun _ _ _ => rfl) (fun b hb _ => by have := hWsz.out; have := hb.1; omega)) ?_ (fun k hk4 => ?_)
        · rw [HHF.out]; exact HO
        · rw [HHF.out]
          exact MTr.keep (Nat.le_refl _) (fun _ _ _ => rfl) (fun b hb _ => by have := hb.1; omega) (HM k hk4)
      have hmr : Hid (mrd Q (d + 1) at_ x y s = some a) := by show _ = _; rw [mrd_split Hb.out HT.out HL.out, HHF.out]; exact hkp
      have htr : Hid (trQ Q (d + 1) at_ x y s = .node TK) := by
        show _ = _
        rw [show trQ Q (d + 1) at_ x y s = if Q.T at_ = true then .node (fun k => trQ Q d ((kp (fun a x y => mrd Q d a x y (s / 2)) (at_ + 1) x y (s / 2) k).getD 0) (kX x (s / 2) k) (kY y (s / 2) k) (s / 2)) else .leaf (blL Q at_) from rfl, if_pos HT.out, HHF.out, HTK.out]
      have z0 := B0w.c 0 rfl; have z1 := B0w.c 1 rfl; have z2 := B0w.c 2 rfl; have z3 := B0w.c 3 rfl; have z4 := B0w.c 4 rfl; have y0 := B0w.f 0 rfl; have y1 := B0w.f 1 rfl; have y2 := B0w.f 2 rfl; have y3 := B0w.f 3 rfl; have y4 := B0w.f 4 rfl
      have n0 := BG.c 0 rfl; have n1 := BG.c 1 rfl; have n2 := BG.c 2 rfl; have n3 := BG.c 3 rfl; have n4 := BG.c 4 rfl
      have BF : Hid (Blk (((((wr.setCell ⟨w.heap.size, 0, none⟩ (.int .i64 x)).setCell ⟨w.heap.size, 1, none⟩ (.int .i64 y)).setCell ⟨w.heap.size, 2, none⟩ (.int .i64 s)).setCell ⟨w.heap.size, 3, none⟩ (.slice (some ⟨gk, 0, none⟩) 4 ck)).setCell ⟨w.heap.size, 4, none⟩ (.slice ao 0 c)) w.heap.size [.int .i64 x, .int .i64 y, .int .i64 s, .slice (some ⟨gk, 0, none⟩) 4 ck, .slice ao 0 c]) := ((((B0w.setI 0 (by decide) _).setI 1 (by simp) _).setI 2 (by simp) _).setI 3 (by simp) _).setI 4 (by simp) _
      clear HM HO BG HBG HBA hI6 hkp B0w
      go_wp2
      have r0 := BF.out.c 0 rfl; have r1 := BF.out.c 1 rfl; have r2 := BF.out.c 2 rfl; have r3 := BF.out.c 3 rfl; have r4 := BF.out.c 4 rfl
      refine bodyPost_ret (v := .tuple #[.agg #[.int .i64 x, .int .i64 y, .int .i64 s, .slice (some ⟨gk, 0, none⟩) 4 ck, .slice ao 0 c], .int .i64 (a : Int), .bool true]) (by simp [results, Try.results42, go_sem, r0, r1, r2, r3, r4]) rfl ?_
      refine ⟨(((((Below.setCell HBA2 (Nat.le_refl _) _).setCell (Nat.le_refl _) _).setCell (Nat.le_refl _) _).setCell (Nat.le_refl _) _).setCell (Nat.le_refl _) _), .inr ⟨a, _, _, hmr.out, rfl, ?_⟩⟩
      rw [htr.out]
      exact MTr.keep (by simp [World.setCell]) (fun b hb _ => z5_other (by omega)) (fun b hb _ => Nat.le_of_lt hb) MN.out
theorem l13Read_any (Q : QD) (bo : Option Addr) (bcap A off : Nat) (so : Nat → Option Addr × Nat) (wb : World) (hN : Q.N ≤ 1048576) (hLb : ∀ i, i < Q.N → Q.L i ≤ 1048576) (hbo : 0 < Q.N → bo = some ⟨A, off, none⟩) (hso : ∀ i, i < Q.N → (so i).1 = none → (so i).2 = 0) (hBl : BlIn Q wb A off so) : ∀ (d at_ : Nat) (x y s : Int) (w : World), d ≤ 8 → at_ ≤ Q.N → Sq x y s → Below wb.heap.size wb w → Calls Try.prog 42 #[.slice bo Q.N bcap, .int .i64 (at_ : Int), .int .i64 x, .int .i64 y, .int .i64 s, .int .i64 (d : Int)] w (RdM Q d at_ x y s w) := by
  intro d
  induction d with
  | zero =>
    intro at_ x y s w hd hat _ HB
    exact l13Read_base Q bo bcap A off so wb hN hLb hbo hso hBl 0 at_ x y s w hd hat (fun h => absurd h.2.2.1 (by omega)) HB
  | succ d ih =>
    intro at_ x y s w hd hat hq HB
    by_cases hc : baseB Q at_ x y s = true ∧ Q.T at_ = true ∧ Q.L at_ = 0
    · exact l13Read_node Q bo bcap A off so wb hN hbo hso hBl d at_ x y s w hd hc.1 hc.2.1 hc.2.2 hq HB (fun a x y s w ha hq hB => ih a x y s w (by omega) ha hq hB)
    · exact l13Read_base Q bo bcap A off so wb hN hLb hbo hso hBl (d + 1) at_ x y s w hd hat (fun h => hc ⟨h.1, h.2.1, h.2.2.2⟩) HB
end Go.Proofs.Ytaagmdhbfbikfaa

/- Whether a tree's leaves are right: the model, over kids. -/
namespace Go.Proofs.Ytaagmdhbfbikfaa
open Go.RowKit
set_option maxRecDepth 100000 in
set_option maxHeartbeats 8000000 in
theorem treeRight_any (Q : QD) (ao : Option Addr) (cap : Nat) (h6 : Its6 Q (List.range Q.m)) (hm : Q.m ≤ 1048576) (t : QT) : ∀ (x y s : Int) (ok : Nat → Prop) (kv ev : Value) (w : World), Sq x y s → lenT t → MTr ok w t x y s kv ev → ItIn Q w ao (List.range Q.m) → Calls Try.prog 43 #[.agg #[.int .i64 x, .int .i64 y, .int .i64 s, kv, ev], .slice ao Q.m cap] w (VP (.bool (rtT Q t x y s)) w) := by
  induction t with
  | leaf l =>
    intro x y s ok kv ev w hq hl hM hS
    obtain ⟨rfl, eo, ec, rfl, hN, _⟩ := hM
    exact treeRight_leaf Q ao cap h6 hm l x y s eo ec hq hl w hN hS
  | node K ih =>
    intro x y s ok kv ev w hq hl hM hS
    obtain ⟨eo, en, ec, rfl⟩ : ∃ eo en ec, ev = .slice eo en ec := by obtain ⟨⟨ao, c, h, _⟩, _⟩ := hM; exact ⟨_, _, _, h⟩
    obtain ⟨_, A, kc, rfl, hA, _, hk⟩ := hM
    have B0 : Blk (w.alloc (.cells #[.int .i64 x, .int .i64 y, .int .i64 s, .slice (some ⟨A, 0, none⟩) 4 kc, .slice eo en ec] 52)) w.heap.size [.int .i64 x, .int .i64 y, .int .i64 s, .slice (some ⟨A, 0, none⟩) 4 kc, .slice eo en ec] := Blk.new w [.int .i64 x, .int .i64 y, .int .i64 s, .slice (some ⟨A, 0, none⟩) 4 kc, .slice eo en ec] 52 rfl
    have HB : Below w.heap.size w (w.alloc (.cells #[.int .i64 x, .int .i64 y, .int .i64 s, .slice (some ⟨A, 0, none⟩) 4 kc, .slice eo en ec] 52)) := (Below.refl _ w).alloc (Nat.le_refl _) _
    obtain ⟨hf, hhf⟩ : ∃ hf, s / 2 = hf := ⟨_, rfl⟩
    have HHF : Hid (s / 2 = hf) := hhf
    rw [hhf] at hk
    clear hhf
    have HK : Hid (∀ k, k < 4 → ∃ kv' ev', w.cell? ⟨A, k * 5, none⟩ = some (.int .i64 (kX x hf k)) ∧ w.cell? ⟨A, k * 5 + 1, none⟩ = some (.int .i64 (kY y hf k)) ∧ w.cell? ⟨A, k * 5 + 2, none⟩ = some (.int .i64 hf) ∧ w.cell? ⟨A, k * 5 + 3, none⟩ = some kv' ∧ w.cell? ⟨A, k * 5 + 4, none⟩ = some ev' ∧ MTr ok w (K k) (kX x hf k) (kY y hf k) hf kv' ev') := hk
    have HS : Hid (ItIn Q w ao (List.range Q.m)) := hS
    clear hk hS
    go_enter Try.func43, Try.ntmps43
    go_upto_region 1 with fail
    generalize (w.alloc (.cells #[.int .i64 x, .int .i64 y, .int .i64 s, .slice (some ⟨A, 0, none⟩) 4 kc, .slice eo en ec] 52)) = W1 at *
    have m3 := B0.c 3 rfl
    go_wp2_with fail
    clear m3
    go_loopw [5] (fun i wr => ∃ c : Nat, c ≤ 4 ∧ i = .int .i64 c ∧ (∀ j, j < c → rtT Q (K j) (kX x hf j) (kY y hf j) hf = true) ∧ Blk wr w.heap.size [.int .i64 x, .int .i64 y, .int .i64 s, .slice (some ⟨A, 0, none⟩) 4 kc, .slice eo en ec] ∧ Below w.heap.size w wr) (fun i _ => 4 - (intOf i).toNat)
    case atStart => exact ⟨0, by omega, rfl, fun j hj => absurd hj (by omega), B0, HB⟩
    case round =>
      clear B0 HB
      obtain ⟨c, hc, rfl, hall, B0, HB⟩ := hrel
      have HALL : Hid (∀ j, j < c → rtT Q (K j) (kX x hf j) (kY y hf j) hf = true) := hall
      clear hall
      by_cases hc4 : c < 4
      · have hcI : (c : Int) < 4 := by omega
        obtain ⟨kv', ev', c0, c1, c2, c3, c4, hM⟩ := HK.out c hc4
        obtain ⟨ko, kn, kc', eo', en', ec', rfl, rfl⟩ := hM.vals
        have hsq := hq.kid hc4
        rw [HHF.out] at hsq
        have C := ih c (kX x hf c) (kY y hf c) hf ok _ _ wr hsq (hl c hc4) (MTr.keep HB.size (fun b _ hb => HB.block b hb) (fun _ h _ => h) hM) (HS.out.step HB)
        have hcc : ∀ j, wr.cell? ⟨A, j, none⟩ = w.cell? ⟨A, j, none⟩ := fun j => HB.cell (p := ⟨A, j, none⟩) hA
        have e0 := (hcc _).trans c0; have e1 := (hcc _).trans c1; have e2 := (hcc _).trans c2; have e3 := (hcc _).trans c3; have e4 := (hcc _).trans c4
        have m3 := B0.c 3 rfl
        clear hcc c0 c1 c2 c3 c4 hM ih
        obtain ⟨b, hb⟩ : ∃ b, rtT Q (K c) (kX x hf c) (kY y hf c) hf = b := ⟨_, rfl⟩
        rw [hb] at C
        have HBB : Hid (rtT Q (K c) (kX x hf c) (kY y hf c) hf = b) := hb
        clear hb
        go_wp2_with fail
        refine C.mono ?_
        rintro r w1 ⟨rfl, hB1⟩
        replace B0 := B0.step hB1
        replace HB := HB.trans (hB1.mono HB.size)
        clear C hB1 e0 e1 e2 e3 e4 m3
        cases b with
        | false =>
          go_wp2
          refine bodyPost_ret (v := .bool false) (by simp [results, Try.results43, go_sem]) rfl ?_
          refine ⟨?_, HB⟩
          rw [show rtT Q (.node K) x y s = false from ?_]
          show (List.range 4).all (fun k => rtT Q (K k) (kX x (s / 2) k) (kY y (s / 2) k) (s / 2)) = false
          rw [HHF.out, List.all_eq_false]
          exact ⟨c, List.mem_range.2 hc4, by rw [HBB.out]; decide⟩
        | true =>
          have HN : Hid (∀ j, j < c + 1 → rtT Q (K j) (kX x hf j) (kY y hf j) hf = true) := fun j hj => by
            by_cases e : j = c
            · subst e; exact HBB.out
            · exact HALL.out j (by omega)
          go_wp2
          go_roundw
          case rel => exact ⟨c + 1, by omega, by go_num, HN.out, B0, HB⟩
          case measure => simp [intOf]; omega
      · obtain rfl : c = 4 := by omega
        go_wp2
        refine bodyPost_ret (v := .bool true) (by simp [results, Try.results43, go_sem]) rfl ?_
        refine ⟨?_, HB⟩
        rw [show rtT Q (.node K) x y s = true from ?_]
        show (List.range 4).all (fun k => rtT Q (K k) (kX x (s / 2) k) (kY y (s / 2) k) (s / 2)) = true
        rw [HHF.out, List.all_eq_true]
        exact fun k hk => HALL.out k (List.mem_range.1 hk)
end Go.Proofs.Ytaagmdhbfbikfaa
