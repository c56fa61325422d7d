/- Part 4 of the walks that the proof leans on. -/
import Derived.Test.YthelolpogdcmhaaPart3
namespace Go.Proofs.Ythelolpogdcmhaa
open Go.RowKit
def gpL (gs : Nat → Nat) (c : Nat) : List Value := (List.range c).map fun k => Value.pointer (some ⟨gs k, 0, none⟩)
structure KdS (base : Nat) (x y hf lv : Int) (w : World) (o : Value) (c : Nat) (gs : Nat → Nat) : Prop where
 own : w.ownsRow base 63 1 o c (gpL gs c)
 kid : ∀ k, k < c → base ≤ gs k ∧ BkB w (gs k) (kX x hf k) (kY y hf k) hf (lv + 1) (.slice none 0 0) (.slice none 0 0)
 d1 : ∀ k, k < c → o.ownBlock ≠ some (gs k)
 d2 : ∀ i j, i < c → j < c → i ≠ j → gs i ≠ gs j
theorem KdS.nil (base : Nat) (x y hf lv : Int) (w : World) (gs : Nat → Nat) : KdS base x y hf lv w (.slice none 0 0) 0 gs := ⟨World.ownsRow_nil _ _ _ _, fun _ h => absurd h (by omega), fun _ h => absurd h (by omega), fun _ _ h => absurd h (by omega)⟩
theorem KdS.step {base : Nat} {x y hf lv : Int} {w w' : World} {o : Value} {c : Nat} {gs : Nat → Nat} (h : KdS base x y hf lv w o c gs) (hB : Below w.heap.size w w') : KdS base x y hf lv w' o c gs :=
 ⟨ownA_step h.own hB, fun k hk => ⟨(h.kid k hk).1, (h.kid k hk).2.step hB⟩, h.d1, h.d2⟩
def setG (gs : Nat → Nat) (c N k : Nat) : Nat := if k = c then N else gs k
theorem gpL_more (gs : Nat → Nat) (c N : Nat) : gpL (setG gs c N) (c + 1) = gpL gs c ++ [.pointer (some ⟨N, 0, none⟩)] := by
 unfold gpL
 rw [List.range_succ, List.map_append]
 congr 1
 · refine List.map_congr_left fun k hk => ?_
   have := List.mem_range.1 hk
   unfold setG
   rw [if_neg (by omega)]
 · simp [setG]
theorem KdS.more {base : Nat} {x y hf lv : Int} {w w' : World} {o o' : Value} {c N : Nat} {gs : Nat → Nat} (h : KdS base x y hf lv w o c gs) (hN : base ≤ N) (hB : BkB w N (kX x hf c) (kY y hf c) hf (lv + 1) (.slice none 0 0) (.slice none 0 0)) (hoN : o.ownBlock ≠ some N) (hgN : ∀ k, k < c → gs k ≠ N)
   (hg : w.grownBy w' o.ownBlock) (hn : w'.ownsRow base 63 1 o' (c + 1) (gpL gs c ++ [.pointer (some ⟨N, 0, none⟩)])) (ho : o'.ownBlock = o.ownBlock ∨ o'.ownBlock = some w.heap.size) : KdS base x y hf lv w' o' (c + 1) (setG gs c N) := by
 have hs : ∀ k, k < c → setG gs c N k = gs k := fun k hk => if_neg (by omega)
 have hc : setG gs c N c = N := if_pos rfl
 refine ⟨by rw [gpL_more]; exact hn, fun k hk => ?_, fun k hk e => ?_, fun i j hi hj hne => ?_⟩
 · rcases Nat.lt_or_ge k c with e | e
   · rw [hs k e]; exact ⟨(h.kid k e).1, (h.kid k e).2.grown hg (fun e2 => h.d1 k e e2.symm)⟩
   · obtain rfl : k = c := by omega
     rw [hc]; exact ⟨hN, hB.grown hg (fun e2 => hoN e2.symm)⟩
 · rcases Nat.lt_or_ge k c with e1 | e1
   · rw [hs k e1] at e
     rcases ho with h1 | h1
     · rw [h1] at e; exact h.d1 k e1 e
     · rw [h1] at e; have := Option.some.inj e; have := (h.kid k e1).2.lt; omega
   · obtain rfl : k = c := by omega
     rw [hc] at e
     rcases ho with h1 | h1
     · rw [h1] at e; exact hoN e
     · rw [h1] at e; have := Option.some.inj e; have := hB.lt; omega
 · rcases Nat.lt_or_ge i c with e1 | e1 <;> rcases Nat.lt_or_ge j c with e2 | e2
   · rw [hs i e1, hs j e2]; exact h.d2 i j e1 e2 hne
   · obtain rfl : j = c := by omega
     rw [hs i e1, hc]; exact hgN i e1
   · obtain rfl : i = c := by omega
     rw [hs j e2, hc]; exact Ne.symm (hgN j e2)
   · omega
theorem Try.infoPB : (Try.prog.info? 63).map (fun i => (i.zero, i.size, i.bytes)) = some (some (.pointer none), 1, 8) := by kernel_rfl
theorem info_pb : ∃ i0, Try.prog.info? 63 = some i0 ∧ i0.zero = some (.pointer none) ∧ i0.size = 1 ∧ i0.bytes = 8 := by
 obtain ⟨i, hi, hz⟩ := Option.map_eq_some_iff.1 Try.infoPB
 simp only [Prod.mk.injEq] at hz
 exact ⟨i, hi, hz.1, hz.2.1, hz.2.2⟩
theorem half_cell {w : World} {g : Nat} {hf : Int} (h : Blk w g [.int .i64 0, .int .i64 hf]) {a : Nat} (ha : a < 2) : w.cell? ⟨g, a, none⟩ = some (.int .i64 ((a : Int) * hf)) := by
 rcases (show a = 0 ∨ a = 1 by omega) with e | e <;> subst e
 · simpa using h.c 0 rfl
 · simpa using h.c 1 rfl
theorem half_in {hf : Int} (h : 0 ≤ hf) {a : Nat} (ha : a < 2) : 0 ≤ (a : Int) * hf ∧ (a : Int) * hf ≤ hf := by
 rcases (show a = 0 ∨ a = 1 by omega) with e | e <;> subst e <;> simp <;> omega
set_option maxRecDepth 100000 in
set_option maxHeartbeats 4000000 in
theorem quarters_any (g : Nat) (x y s lv : Int) (ids kids : Value) (hq : Sq x y s) (hlv1 : 0 ≤ lv) (hlv2 : lv ≤ 1000) (w : World) (B0 : BkB w g x y s lv ids kids) : Calls Try.prog 62 #[.pointer (some ⟨g, 0, none⟩)] w (fun r w' => ∃ v gs, r = .returned v ∧ KdS w.heap.size x y (s / 2) lv w' v 4 gs ∧ Below w.heap.size w w') := by
 obtain ⟨i0, hi0, hz0, hz1, hz2⟩ := info_pb
 have hg := B0.lt
 have q1 := hq.x1; have q2 := hq.y1; have q3 := hq.s1; have q4 := hq.x2; have q5 := hq.y2
 obtain ⟨hf, hhf⟩ : ∃ hf, s / 2 = hf := ⟨_, rfl⟩
 have hf1 : 0 ≤ hf := by omega
 have hf2 : hf ≤ 1048576 := by omega
 rw [hhf]
 have htd : s.tdiv 2 = hf := by rw [Int.tdiv_eq_ediv_of_nonneg q3, hhf]
 have m2 := B0.c 2 rfl
 have E0 : Blk (w.alloc (.cells #[.int .i64 0, .int .i64 hf] 2)) w.heap.size [.int .i64 0, .int .i64 hf] := Blk.new w [.int .i64 0, .int .i64 hf] 2 rfl
 have HB0 : Below w.heap.size w (w.alloc (.cells #[.int .i64 0, .int .i64 hf] 2)) := (Below.refl _ w).alloc (Nat.le_refl _) _
 go_enter Try.func62, Try.ntmps62
 go_wp2_with fail
 go_loopw [4, 18] (fun o i wr => ∃ (a : Nat) (gs : Nat → Nat), a ≤ 2 ∧ i = .int .i64 a ∧ KdS w.heap.size x y hf lv wr o (2 * a) gs ∧ Blk wr w.heap.size [.int .i64 0, .int .i64 hf] ∧ o.ownBlock ≠ some w.heap.size ∧ Below w.heap.size w wr) (fun _ i _ => 2 - (intOf i).toNat)
 case atStart => exact ⟨0, fun _ => 0, by omega, rfl, KdS.nil _ _ _ _ _ _ _, E0, (fun e => by cases e), HB0⟩
 case round =>
   clear E0 HB0 m2
   obtain ⟨a, gs, ha, rfl, HK, HE, hoE, HB⟩ := hrel
   by_cases ha2 : a < 2
   · have haI : (a : Int) < 2 := by omega
     have ca := half_cell HE ha2
     have ua := half_in hf1 ha2
     obtain ⟨U, hU⟩ : ∃ U, (a : Int) * hf = U := ⟨_, rfl⟩
     rw [hU] at ca ua
     have HU : Hid ((a : Int) * hf = U) := hU
     clear hU
     obtain ⟨u1, u2⟩ := ua
     have F0 : Blk (wr.alloc (.cells #[.int .i64 0, .int .i64 hf] 2)) wr.heap.size [.int .i64 0, .int .i64 hf] := Blk.new wr [.int .i64 0, .int .i64 hf] 2 rfl
     have HF0 : Below wr.heap.size wr (wr.alloc (.cells #[.int .i64 0, .int .i64 hf] 2)) := (Below.refl _ wr).alloc (Nat.le_refl _) _
     have hoF : u4.ownBlock ≠ some wr.heap.size := fun e => by have := (HK.own.lt _ e).2; omega
     replace HK := HK.step HF0
     replace HE := HE.step HF0
     replace HB := HB.trans (HF0.mono HB.size)
     clear HF0
     go_wp2_with fail
     clear ca
     go_loopw [4, 25] (fun o i wi => ∃ (b : Nat) (gs : Nat → Nat), b ≤ 2 ∧ i = .int .i64 b ∧ KdS w.heap.size x y hf lv wi o (2 * a + b) gs ∧ Blk wi w.heap.size [.int .i64 0, .int .i64 hf] ∧ o.ownBlock ≠ some w.heap.size ∧ Blk wi wr.heap.size [.int .i64 0, .int .i64 hf] ∧ o.ownBlock ≠ some wr.heap.size ∧ Below w.heap.size w wi) (fun _ i _ => 2 - (intOf i).toNat)
     case atStart => exact ⟨0, gs, by omega, rfl, HK, HE, hoE, F0, hoF, HB⟩
     case round =>
       clear HK HE HB F0 hoE hoF
       rename_i hrel
       obtain ⟨b, gs, hb, rfl, HK, HE, hoE, HF, hoF, HB⟩ := hrel
       by_cases hb2 : b < 2
       · have hbI : (b : Int) < 2 := by omega
         have cb := half_cell HF hb2
         have ub := half_in hf1 hb2
         obtain ⟨R, hR⟩ : ∃ R, (b : Int) * hf = R := ⟨_, rfl⟩
         rw [hR] at cb ub
         have HR : Hid ((b : Int) * hf = R) := hR
         clear hR
         obtain ⟨r1, r2⟩ := ub
         have BG := B0.step HB
         rename World => wi
         go_upto_region 9 with fail
         have gl : g < wi.heap.size := Nat.lt_of_lt_of_le hg HB.size
         have ekx : Hid (kX x hf (2 * a + b) = x + R) := by show _ = _; unfold kX; rw [show (2 * a + b) % 2 = b by omega, HR.out]
         have eky : Hid (kY y hf (2 * a + b) = y + U) := by show _ = _; unfold kY; rw [show (2 * a + b) / 2 = a by omega, HU.out]
         refine qdN (g := g) (x := x) (y := y) (u := U) (r := R) (Wd := wi.drew) q1 (by omega) q2 (by omega) r1 (by omega) u1 (by omega) (Nat.le_refl _) rfl rfl rfl rfl (BG.c 0 rfl) gl (BG.c 1 rfl) gl rfl ?_
         rintro ⟨tm, df⟩ Wz hz hdf hoff h9 _ hBz hWz
         simp only at hz hdf hoff h9
         change tm.getD 9 undef = .pointer (some ⟨wi.heap.size, 0, none⟩) at h9
         subst hdf
         have htm := tmps_fold [29, 30, 31, 32, 33, 34, 35, 36, 37, 38, 39, 40, 41, 42, 43, 9] tm _ hz hoff
         simp only [List.foldl, List.setIfInBounds_toArray, List.set_cons_zero, List.set_cons_succ, h9] at htm
         clear hz hoff
         generalize tm.getD 29 undef = pz0, tm.getD 30 undef = pz1, tm.getD 31 undef = pz2, tm.getD 32 undef = pz3, tm.getD 33 undef = pz4, tm.getD 34 undef = pz5, tm.getD 35 undef = pz6, tm.getD 36 undef = pz7, tm.getD 37 undef = pz8, tm.getD 38 undef = pz9, tm.getD 39 undef = pz10, tm.getD 40 undef = pz11, tm.getD 41 undef = pz12, tm.getD 42 undef = pz13, tm.getD 43 undef = pz14 at htm
         clear h9
         subst htm
         have C0 : Blk Wz wi.heap.size [.int .i64 (x + R), .int .i64 (y + U)] := by
           rw [hWz]
           exact ((Blk.new wi.drew [.int .i64 0, .int .i64 0] 37 rfl).setI 0 (by decide) (.int .i64 (x + R))).setI 1 (by simp) (.int .i64 (y + U))
         have hsz : Wz.heap.size = wi.heap.size + 1 := by rw [hWz]; simp [World.setCell]
         clear hWz cb
         replace HK := HK.step hBz
         replace HE := HE.step hBz
         replace HF := HF.step hBz
         replace BG := BG.step hBz
         replace HB := HB.trans (hBz.mono HB.size)
         clear hBz
         go_upto_region 10 with fail
         refine qdO (i0 := i0) (g := g) (C := wi.heap.size) (cx := x + R) (cy := y + U) (hf := hf) (lv := lv) (o := u4) (c := 2 * a + b) (base := w.heap.size) (Lz := gpL gs (2 * a + b)) (Wd := Wz.drew) hi0 hz0 hz1 hz2 hlv1 hlv2 (by omega) HB.size HK.own rfl (C0.c 0 rfl) (C0.c 1 rfl) rfl rfl rfl rfl (BG.c 3 rfl) hg rfl ?_
         rintro ⟨tm, df⟩ Wy hz hdf hoff _ _ ⟨r3, r4, r5⟩
         simp only at hz hdf hoff
         change Wy.ownsRow w.heap.size 63 1 (tm.getD 4 undef) (2 * a + b + 1) _ at r3
         change (tm.getD 4 undef).ownBlock = _ ∨ (tm.getD 4 undef).ownBlock = _ at r5
         subst hdf
         generalize h4 : tm.getD 4 undef = o4 at r3 r5
         have htm := tmps_fold [44, 45, 46, 47, 48, 49, 50, 51, 52, 53, 54, 55, 4] tm _ hz hoff
         simp only [List.foldl, List.setIfInBounds_toArray, List.set_cons_zero, List.set_cons_succ, h4] at htm
         clear hz hoff
         generalize tm.getD 44 undef = py0, tm.getD 45 undef = py1, tm.getD 46 undef = py2, tm.getD 47 undef = py3, tm.getD 48 undef = py4, tm.getD 49 undef = py5, tm.getD 50 undef = py6, tm.getD 51 undef = py7, tm.getD 52 undef = py8, tm.getD 53 undef = py9, tm.getD 54 undef = py10, tm.getD 55 undef = py11 at htm
         clear h4
         subst htm
         have HW2 : Below Wz.heap.size Wz ((Wz.drew.alloc (.cells #[.int .i64 (x + R), .int .i64 (y + U), .int .i64 hf, .int .i64 (lv + 1), .slice none 0 0, .slice none 0 0] 99)).alloc (.cells #[.pointer (some ⟨Wz.drew.heap.size, 0, none⟩)] 63)) := ((Below.refl Wz.heap.size Wz).drew.alloc (Nat.le_refl _) _).alloc (by simp) _
         have hs2 : ((Wz.drew.alloc (.cells #[.int .i64 (x + R), .int .i64 (y + U), .int .i64 hf, .int .i64 (lv + 1), .slice none 0 0, .slice none 0 0] 99)).alloc (.cells #[.pointer (some ⟨Wz.drew.heap.size, 0, none⟩)] 63)).heap.size = Wz.heap.size + 2 := by simp
         have hwl := HB.size
         have hu4 : ∀ k, u4.ownBlock = some k → w.heap.size ≤ k ∧ k < Wz.heap.size := fun k hk => HK.own.lt k hk
         have BN : BkB ((Wz.drew.alloc (.cells #[.int .i64 (x + R), .int .i64 (y + U), .int .i64 hf, .int .i64 (lv + 1), .slice none 0 0, .slice none 0 0] 99)).alloc (.cells #[.pointer (some ⟨Wz.drew.heap.size, 0, none⟩)] 63)) Wz.heap.size (kX x hf (2 * a + b)) (kY y hf (2 * a + b)) hf (lv + 1) (.slice none 0 0) (.slice none 0 0) := by
           rw [ekx.out, eky.out]
           exact (Blk.new Wz.drew [.int .i64 (x + R), .int .i64 (y + U), .int .i64 hf, .int .i64 (lv + 1), .slice none 0 0, .slice none 0 0] 99 rfl).alloc _
         have HKN := (HK.step HW2).more hwl BN (fun e => by have := hu4 _ e; omega) (fun k hk e => by have := (HK.kid k hk).2.lt; omega) r4 r3 r5
         have HEN := (HE.step HW2).grown r4 (Ne.symm hoE)
         have HFN := (HF.step HW2).grown r4 (Ne.symm hoF)
         have hfl := HF.lt
         have hoE2 : o4.ownBlock ≠ some w.heap.size := fun e => by
           rcases r5 with h | h
           · rw [h] at e; exact hoE e
           · rw [h, hs2] at e; have := Option.some.inj e; omega
         have hoF2 : o4.ownBlock ≠ some wr.heap.size := fun e => by
           rcases r5 with h | h
           · rw [h] at e; exact hoF e
           · rw [h, hs2] at e; have := Option.some.inj e; omega
         have HBN := (HB.trans (HW2.mono hwl)).grown r4 (by rw [hs2]; omega) (fun k hk => (hu4 k hk).1)
         clear HK HE HF HB BG C0 r3 r4 r5 HW2 BN
         go_wp2
         go_roundw
         case rel => exact ⟨b + 1, _, by omega, by go_num, HKN, HEN, hoE2, HFN, hoF2, HBN⟩
         case measure => simp [intOf]; omega
       · obtain rfl : b = 2 := by omega
         go_wp2
         go_roundw
         case rel => exact ⟨a + 1, gs, by omega, by go_num, by rw [show 2 * (a + 1) = 2 * a + 2 by omega]; exact HK, HE, hoE, HB⟩
         case measure => simp [intOf]; omega
   · obtain rfl : a = 2 := by omega
     go_wp2
     go_ret
     exact ⟨_, gs, rfl, HK, HB⟩
def RestV (A ra n ca : Nat) (v : Value) : Prop := ∃ ad, v = .slice ad (n - 1) (ca - 1) ∧ (1 < n → ad = some ⟨A, ra + 5, none⟩)
def VqrA (A ra n ca : Nat) (bx by_ bz : Int) (bt : Bool) (bo : Option Addr) (bl bc : Nat) (Wd : World) (_B : Nat) : Nat → Value → World → Prop
 | 0, v, _ => v = .slice (some ⟨A, ra, none⟩) n ca
 | 1, v, _ => v = .pointer (some ⟨A, ra, none⟩)
 | 2, v, _ => v = .agg #[.int .i64 bx, .int .i64 by_, .int .i64 bz, .bool bt, .slice bo bl bc]
 | 3, v, _ => v = .slice (some ⟨A, ra, none⟩) n ca
 | 4, v, _ => RestV A ra n ca v
 | 5, v, _ => v = .pointer (some ⟨Wd.heap.size, 0, none⟩)
 | 7, v, _ => RestV A ra n ca v
 | _, _, _ => True
theorem VqrA.same {A ra n ca : Nat} {bx by_ bz : Int} {bt : Bool} {bo : Option Addr} {bl bc : Nat} {Wd : World} {B j : Nat} {v : Value} {W W2 : World} (h : VqrA A ra n ca bx by_ bz bt bo bl bc Wd B j v W) : VqrA A ra n ca bx by_ bz bt bo bl bc Wd B j v W2 := by
 unfold VqrA at *
 split <;> simp only at h <;> first | exact h | trivial
def SqrA (_A _ra _n _ca : Nat) (bx by_ bz : Int) (bt : Bool) (bo : Option Addr) (bl bc : Nat) (Wd : World) (lz : Array Bool) (_az : Act) (W : World) : Prop := (lz.getD 5 false = false → W = Wd) ∧ (lz.getD 5 false = true → lz.getD 6 false = false → W = (Wd.alloc (.cells #[.int .i64 0, .int .i64 0, .int .i64 0, .bool false, .slice none 0 0] 89))) ∧ (lz.getD 6 false = true → W = ((((((Wd.alloc (.cells #[.int .i64 0, .int .i64 0, .int .i64 0, .bool false, .slice none 0 0] 89)).setCell ⟨Wd.heap.size, 0, none⟩ (.int .i64 bx)).setCell ⟨Wd.heap.size, 1, none⟩ (.int .i64 by_)).setCell ⟨Wd.heap.size, 2, none⟩ (.int .i64 bz)).setCell ⟨Wd.heap.size, 3, none⟩ (.bool bt)).setCell ⟨Wd.heap.size, 4, none⟩ (.slice bo bl bc))) ∧ (lz.getD 6 false = true → lz.getD 5 false = true)
def JqrA (A ra n ca : Nat) (bx by_ bz : Int) (bt : Bool) (bo : Option Addr) (bl bc : Nat) (Wd : World) (w0 : World) (a0 : Act) (lz : Array Bool) (az : Act) (W : World) : Prop := InvQ (w0.heap.size) [some 27, some 28, some 29, some 30, some 31, some 10, none, some 11] (VqrA A ra n ca bx by_ bz bt bo bl bc Wd (w0.heap.size)) w0 a0 lz az W ∧ SqrA A ra n ca bx by_ bz bt bo bl bc Wd lz az W
set_option maxRecDepth 100000 in
set_option maxHeartbeats 4000000 in
theorem qrA {Q : Exit → Act → World → Prop} {A ra n ca : Nat} {bx by_ bz : Int} {bt : Bool} {bo : Option Addr} {bl bc : Nat} {Wd : World}  {w0 : World} {a0 : Act} {idq : Nat} {t0 t1 t2 t3 t4 t5 t6 t7 : TypeId} {q0 q1 q2 q3 q4 q5 q6 q7 : String}
   (hn : 0 < n) (hnc : n ≤ ca) (hnb : n ≤ 1048576) (hWd : w0.heap.size ≤ Wd.heap.size) (hWe : Wd = w0.drew) (h1 : a0.tmps[1]? = some (.slice (some ⟨A, ra, none⟩) n ca)) (k0 : w0.cell? ⟨A, ra, none⟩ = some (.int .i64 bx)) (l0 : (⟨A, ra, none⟩ : Addr).block < w0.heap.size) (k1 : w0.cell? ⟨A, ra + 1, none⟩ = some (.int .i64 by_)) (l1 : (⟨A, ra + 1, none⟩ : Addr).block < w0.heap.size) (k2 : w0.cell? ⟨A, ra + 2, none⟩ = some (.int .i64 bz)) (l2 : (⟨A, ra + 2, none⟩ : Addr).block < w0.heap.size) (k3 : w0.cell? ⟨A, ra + 3, none⟩ = some (.bool bt)) (l3 : (⟨A, ra + 3, none⟩ : Addr).block < w0.heap.size) (k4 : w0.cell? ⟨A, ra + 4, none⟩ = some (.slice bo bl bc)) (l4 : (⟨A, ra + 4, none⟩ : Addr).block < w0.heap.size) (hz : a0.tmps.size = 98)
   (hQ : ∀ aq W, aq.tmps.size = a0.tmps.size → aq.defers = a0.defers → (∀ e, e ∉ ([27, 28, 29, 30, 31, 10, 11] : List Nat) → aq.tmps[e]? = a0.tmps[e]?) → VqrA A ra n ca bx by_ bz bt bo bl bc Wd (w0.heap.size) 5 (aq.tmps.getD 10 undef) W → VqrA A ra n ca bx by_ bz bt bo bl bc Wd (w0.heap.size) 7 (aq.tmps.getD 11 undef) W → Below (w0.heap.size) w0 W → (W = ((((((Wd.alloc (.cells #[.int .i64 0, .int .i64 0, .int .i64 0, .bool false, .slice none 0 0] 89)).setCell ⟨Wd.heap.size, 0, none⟩ (.int .i64 bx)).setCell ⟨Wd.heap.size, 1, none⟩ (.int .i64 by_)).setCell ⟨Wd.heap.size, 2, none⟩ (.int .i64 bz)).setCell ⟨Wd.heap.size, 3, none⟩ (.bool bt)).setCell ⟨Wd.heap.size, 4, none⟩ (.slice bo bl bc))) → Q .normal aq W) :
   (Code.region idq #[{ dst := some 27, op := Op.move (Operand.tmp 1), type := t0, pos := q0, after := #[], guard := none },
   { dst := some 28, op := Op.indexAddr 33 (Operand.tmp 27) (Operand.const (Value.int IntKind.i64 0)), type := t1, pos := q1, after := #[{ on := 0, ground := Ground.data }], guard := none },
   { dst := some 29, op := Op.load 89 (Operand.tmp 28), type := t2, pos := q2, after := #[{ on := 1, ground := Ground.data }], guard := none },
   { dst := some 30, op := Op.move (Operand.tmp 1), type := t3, pos := q3, after := #[], guard := none },
   { dst := some 31, op := Op.slice 33 (Operand.tmp 30) (some (Operand.const (Value.int IntKind.i64 1))) none none, type := t4, pos := q4, after := #[{ on := 3, ground := Ground.data }], guard := none },
   { dst := some 10, op := Op.alloc 89, type := t5, pos := q5, after := #[], guard := none },
   { dst := none, op := Op.store 89 (Operand.tmp 10) (Operand.tmp 29), type := t6, pos := q6, after := #[{ on := 5, ground := Ground.data }, { on := 2, ground := Ground.data }, { on := 0, ground := Ground.phase }, { on := 1, ground := Ground.phase }, { on := 2, ground := Ground.phase }, { on := 3, ground := Ground.textOnly Departure.lateStores }, { on := 4, ground := Ground.textOnly Departure.lateStoresUnsure }, { on := 5, ground := Ground.phase }], guard := none },
   { dst := some 11, op := Op.assign (Operand.tmp 31), type := t7, pos := q7, after := #[{ on := 4, ground := Ground.data }, { on := 6, ground := Ground.chain }, { on := 0, ground := Ground.phase }, { on := 1, ground := Ground.phase }, { on := 2, ground := Ground.phase }, { on := 3, ground := Ground.phase }, { on := 4, ground := Ground.phase }, { on := 5, ground := Ground.phase }, { on := 6, ground := Ground.phase }], guard := none }] true).wp Try.prog Q a0 w0 := by
 have hS : distS [some 27, some 28, some 29, some 30, some 31, some 10, none, some 11] = true := rfl
 refine wp_region_inv (by kernel_rfl) (JqrA A ra n ca bx by_ bz bt bo bl bc Wd w0 a0) ⟨⟨rfl, rfl, rfl, fun _ _ => rfl, (Below.refl _ w0).drew, fun j d hj => ?_, fun j hj => ?_⟩, ⟨fun _ => hWe.symm, (fun h => by rw [replD] at h; cases h), (fun h => by rw [replD] at h; cases h), (fun h => by rw [replD] at h; cases h)⟩⟩ ?_ ?_
 · exfalso
   rw [Array.getD_eq_getD_getElem?, Array.getElem?_replicate] at hj
   split at hj <;> simp at hj
 · exfalso
   rw [Array.getD_eq_getD_getElem?, Array.getElem?_replicate] at hj
   split at hj <;> simp at hj
 · intro lq aq W iq oq ⟨hJ, hs⟩ hl ho hall
   have hJ2 := hJ
   obtain ⟨z1, z2, z3, z4, z5, z6, z7⟩ := hJ
   have g1 : aq.tmps.getD 1 undef = .slice (some ⟨A, ra, none⟩) n ca := by rw [Array.getD_eq_getD_getElem?, z4 1 (by decide), h1]; rfl
   have c0 : W.cell? ⟨A, ra, none⟩ = some (.int .i64 bx) := (z5.cell l0).trans k0
   have c1 : W.cell? ⟨A, ra + 1, none⟩ = some (.int .i64 by_) := (z5.cell l1).trans k1
   have c2 : W.cell? ⟨A, ra + 2, none⟩ = some (.int .i64 bz) := (z5.cell l2).trans k2
   have c3 : W.cell? ⟨A, ra + 3, none⟩ = some (.bool bt) := (z5.cell l3).trans k3
   have c4 : W.cell? ⟨A, ra + 4, none⟩ = some (.slice bo bl bc) := (z5.cell l4).trans k4
   match iq, ho with
   | 0, ho =>
     cases ho
     refine wpOp_of rfl rfl ?_
     have hq : ∀ v : Value, SqrA A ra n ca bx by_ bz bt bo bl bc Wd (lq.setIfInBounds 0 true) (aq.put (some 27) v) W := fun v => ⟨by rw [getD_set_neq (i := 0) (j := 5) (by decide)]; exact hs.1, by rw [getD_set_neq (i := 0) (j := 5) (by decide), getD_set_neq (i := 0) (j := 6) (by decide)]; exact hs.2.1, by rw [getD_set_neq (i := 0) (j := 6) (by decide)]; exact hs.2.2.1, by rw [getD_set_neq (i := 0) (j := 5) (by decide), getD_set_neq (i := 0) (j := 6) (by decide)]; exact hs.2.2.2⟩
     clear hWe
     have hK := fun (v : Value) (W2 : World) hW hT hv (hs : SqrA A ra n ca bx by_ bz bt bo bl bc Wd (lq.setIfInBounds 0 true) (aq.put (some 27) v) W2) => show (JqrA A ra n ca bx by_ bz bt bo bl bc Wd w0 a0) (lq.setIfInBounds 0 true) (aq.put (some 27) v) W2 from ⟨hJ2.put hS 0 27 rfl (by omega) (W' := W2) hW hT v hv, hs⟩
     clear ho hall hl hQ
     generalize (JqrA A ra n ca bx by_ bz bt bo bl bc Wd w0 a0) (lq.setIfInBounds 0 true) = K at hK ⊢
     clear hJ2 hS z1 z2 z3 z4 z6 z7
     go_simp
     exact hK _ _ z5 (fun _ _ h => h) rfl (hq _)
   | 1, ho =>
     cases ho
     refine wpOp_of rfl rfl ?_
     have f0 : (aq.tmps.getD 27 undef) = .slice (some ⟨A, ra, none⟩) n ca := z6 0 27 (hall { on := 0, ground := Ground.data } (by simp) rfl) rfl
     have hq : ∀ v : Value, SqrA A ra n ca bx by_ bz bt bo bl bc Wd (lq.setIfInBounds 1 true) (aq.put (some 28) v) W := fun v => ⟨by rw [getD_set_neq (i := 1) (j := 5) (by decide)]; exact hs.1, by rw [getD_set_neq (i := 1) (j := 5) (by decide), getD_set_neq (i := 1) (j := 6) (by decide)]; exact hs.2.1, by rw [getD_set_neq (i := 1) (j := 6) (by decide)]; exact hs.2.2.1, by rw [getD_set_neq (i := 1) (j := 5) (by decide), getD_set_neq (i := 1) (j := 6) (by decide)]; exact hs.2.2.2⟩
     clear hWe
     have hnI : (0 : Int) < n := by omega
     have hK := fun (v : Value) (W2 : World) hW hT hv (hs : SqrA A ra n ca bx by_ bz bt bo bl bc Wd (lq.setIfInBounds 1 true) (aq.put (some 28) v) W2) => show (JqrA A ra n ca bx by_ bz bt bo bl bc Wd w0 a0) (lq.setIfInBounds 1 true) (aq.put (some 28) v) W2 from ⟨hJ2.put hS 1 28 rfl (by omega) (W' := W2) hW hT v hv, hs⟩
     clear ho hall hl hQ
     generalize (JqrA A ra n ca bx by_ bz bt bo bl bc Wd w0 a0) (lq.setIfInBounds 1 true) = K at hK ⊢
     clear hJ2 hS z1 z2 z3 z4 z6 z7
     go_simp
     exact hK _ _ z5 (fun _ _ h => h) rfl (hq _)
   | 2, ho =>
     cases ho
     refine wpOp_of rfl rfl ?_
     have f1 : (aq.tmps.getD 28 undef) = .pointer (some ⟨A, ra, none⟩) := z6 1 28 (hall { on := 1, ground := Ground.data } (by simp) rfl) rfl
     have hq : ∀ v : Value, SqrA A ra n ca bx by_ bz bt bo bl bc Wd (lq.setIfInBounds 2 true) (aq.put (some 29) v) W := fun v => ⟨by rw [getD_set_neq (i := 2) (j := 5) (by decide)]; exact hs.1, by rw [getD_set_neq (i := 2) (j := 5) (by decide), getD_set_neq (i := 2) (j := 6) (by decide)]; exact hs.2.1, by rw [getD_set_neq (i := 2) (j := 6) (by decide)]; exact hs.2.2.1, by rw [getD_set_neq (i := 2) (j := 5) (by decide), getD_set_neq (i := 2) (j := 6) (by decide)]; exact hs.2.2.2⟩
     clear hWe
     have hK := fun (v : Value) (W2 : World) hW hT hv (hs : SqrA A ra n ca bx by_ bz bt bo bl bc Wd (lq.setIfInBounds 2 true) (aq.put (some 29) v) W2) => show (JqrA A ra n ca bx by_ bz bt bo bl bc Wd w0 a0) (lq.setIfInBounds 2 true) (aq.put (some 29) v) W2 from ⟨hJ2.put hS 2 29 rfl (by omega) (W' := W2) hW hT v hv, hs⟩
     clear ho hall hl hQ
     generalize (JqrA A ra n ca bx by_ bz bt bo bl bc Wd w0 a0) (lq.setIfInBounds 2 true) = K at hK ⊢
     clear hJ2 hS z1 z2 z3 z4 z6 z7
     go_simp
     exact hK _ _ z5 (fun _ _ h => h) rfl (hq _)
   | 3, ho =>
     cases ho
     refine wpOp_of rfl rfl ?_
     have hq : ∀ v : Value, SqrA A ra n ca bx by_ bz bt bo bl bc Wd (lq.setIfInBounds 3 true) (aq.put (some 30) v) W := fun v => ⟨by rw [getD_set_neq (i := 3) (j := 5) (by decide)]; exact hs.1, by rw [getD_set_neq (i := 3) (j := 5) (by decide), getD_set_neq (i := 3) (j := 6) (by decide)]; exact hs.2.1, by rw [getD_set_neq (i := 3) (j := 6) (by decide)]; exact hs.2.2.1, by rw [getD_set_neq (i := 3) (j := 5) (by decide), getD_set_neq (i := 3) (j := 6) (by decide)]; exact hs.2.2.2⟩
     clear hWe
     have hK := fun (v : Value) (W2 : World) hW hT hv (hs : SqrA A ra n ca bx by_ bz bt bo bl bc Wd (lq.setIfInBounds 3 true) (aq.put (some 30) v) W2) => show (JqrA A ra n ca bx by_ bz bt bo bl bc Wd w0 a0) (lq.setIfInBounds 3 true) (aq.put (some 30) v) W2 from ⟨hJ2.put hS 3 30 rfl (by omega) (W' := W2) hW hT v hv, hs⟩
     clear ho hall hl hQ
     generalize (JqrA A ra n ca bx by_ bz bt bo bl bc Wd w0 a0) (lq.setIfInBounds 3 true) = K at hK ⊢
     clear hJ2 hS z1 z2 z3 z4 z6 z7
     go_simp
     exact hK _ _ z5 (fun _ _ h => h) rfl (hq _)
   | 4, ho =>
     cases ho
     refine wpOp_of rfl rfl ?_
     have f3 : (aq.tmps.getD 30 undef) = .slice (some ⟨A, ra, none⟩) n ca := z6 3 30 (hall { on := 3, ground := Ground.data } (by simp) rfl) rfl
     have hq : ∀ v : Value, SqrA A ra n ca bx by_ bz bt bo bl bc Wd (lq.setIfInBounds 4 true) (aq.put (some 31) v) W := fun v => ⟨by rw [getD_set_neq (i := 4) (j := 5) (by decide)]; exact hs.1, by rw [getD_set_neq (i := 4) (j := 5) (by decide), getD_set_neq (i := 4) (j := 6) (by decide)]; exact hs.2.1, by rw [getD_set_neq (i := 4) (j := 6) (by decide)]; exact hs.2.2.1, by rw [getD_set_neq (i := 4) (j := 5) (by decide), getD_set_neq (i := 4) (j := 6) (by decide)]; exact hs.2.2.2⟩
     clear hWe
     have hK := fun (v : Value) (W2 : World) hW hT hv (hs : SqrA A ra n ca bx by_ bz bt bo bl bc Wd (lq.setIfInBounds 4 true) (aq.put (some 31) v) W2) => show (JqrA A ra n ca bx by_ bz bt bo bl bc Wd w0 a0) (lq.setIfInBounds 4 true) (aq.put (some 31) v) W2 from ⟨hJ2.put hS 4 31 rfl (by omega) (W' := W2) hW hT v hv, hs⟩
     clear ho hall hl hQ
     generalize (JqrA A ra n ca bx by_ bz bt bo bl bc Wd w0 a0) (lq.setIfInBounds 4 true) = K at hK ⊢
     clear hJ2 hS z1 z2 z3 z4 z6 z7
     have hnI : (1 : Int) ≤ n := by omega
     go_simp
     by_cases e1 : ca = 1
     · rw [if_pos e1]
       exact hK _ _ z5 (fun _ _ h => h) ⟨_, rfl, fun h => absurd h (by omega)⟩ (hq _)
     · rw [if_neg e1]
       exact hK _ _ z5 (fun _ _ h => h) ⟨_, rfl, fun _ => rfl⟩ (hq _)
   | 5, ho =>
     cases ho
     refine wpOp_of rfl rfl ?_
     have h5 := getD_tf hl
     have eW : W = Wd := hs.1 h5
     have hq : ∀ v : Value, SqrA A ra n ca bx by_ bz bt bo bl bc Wd (lq.setIfInBounds 5 true) (aq.put (some 10) v) (W.alloc (.cells #[.int .i64 0, .int .i64 0, .int .i64 0, .bool false, .slice none 0 0] 89)) := fun v => ⟨(fun h => by rw [getD_set_eq hl] at h; cases h), fun _ _ => by rw [eW], (fun h => by rw [getD_set_neq (i := 5) (j := 6) (by decide)] at h; rw [hs.2.2.2 h] at h5; cases h5), fun _ => getD_set_eq hl⟩
     have hp : Hid (W.heap.size = Wd.heap.size) := congrArg (fun w : World => w.heap.size) eW
     clear eW hWe hs
     have hK := fun (v : Value) (W2 : World) hW hT hv (hs : SqrA A ra n ca bx by_ bz bt bo bl bc Wd (lq.setIfInBounds 5 true) (aq.put (some 10) v) W2) => show (JqrA A ra n ca bx by_ bz bt bo bl bc Wd w0 a0) (lq.setIfInBounds 5 true) (aq.put (some 10) v) W2 from ⟨hJ2.put hS 5 10 rfl (by omega) (W' := W2) hW hT v hv, hs⟩
     clear ho hall hl hQ
     generalize (JqrA A ra n ca bx by_ bz bt bo bl bc Wd w0 a0) (lq.setIfInBounds 5 true) = K at hK ⊢
     clear hJ2 hS z1 z2 z3 z4 z6 z7
     go_simp
     exact hK _ _ (z5.alloc z5.size _) (fun _ _ h => h.same) (by show Value.pointer _ = _; rw [hp.out]) (hq _)
   | 6, ho =>
     cases ho
     refine wpOp_of rfl rfl ?_
     have f5 : (aq.tmps.getD 10 undef) = .pointer (some ⟨Wd.heap.size, 0, none⟩) := z6 5 10 (hall { on := 5, ground := Ground.data } (by simp) rfl) rfl
     have f2 : (aq.tmps.getD 29 undef) = .agg #[.int .i64 bx, .int .i64 by_, .int .i64 bz, .bool bt, .slice bo bl bc] := z6 2 29 (hall { on := 2, ground := Ground.data } (by simp) rfl) rfl
     have l5 := hall { on := 5, ground := Ground.data } (by simp) rfl
     have h6 := getD_tf hl
     have eW : W = (Wd.alloc (.cells #[.int .i64 0, .int .i64 0, .int .i64 0, .bool false, .slice none 0 0] 89)) := hs.2.1 l5 h6
     have xR : Blk W Wd.heap.size [.int .i64 0, .int .i64 0, .int .i64 0, .bool false, .slice none 0 0] := by rw [eW]; exact Blk.new Wd [.int .i64 0, .int .i64 0, .int .i64 0, .bool false, .slice none 0 0] 89 rfl
     have y0 := xR.c 0 rfl; have y1 := xR.c 1 rfl; have y2 := xR.c 2 rfl; have y3 := xR.c 3 rfl; have y4 := xR.c 4 rfl; have g0z := xR.f 0 rfl; have g1z := xR.f 1 rfl; have g2z := xR.f 2 rfl; have g3z := xR.f 3 rfl; have g4z := xR.f 4 rfl
     have hq : SqrA A ra n ca bx by_ bz bt bo bl bc Wd (lq.setIfInBounds 6 true) aq (((((W.setCell ⟨Wd.heap.size, 0, none⟩ (.int .i64 bx)).setCell ⟨Wd.heap.size, 1, none⟩ (.int .i64 by_)).setCell ⟨Wd.heap.size, 2, none⟩ (.int .i64 bz)).setCell ⟨Wd.heap.size, 3, none⟩ (.bool bt)).setCell ⟨Wd.heap.size, 4, none⟩ (.slice bo bl bc)) := ⟨(fun h => by rw [getD_set_neq (i := 6) (j := 5) (by decide), l5] at h; cases h), (fun _ h => by rw [getD_set_eq hl] at h; cases h), fun _ => by rw [eW], fun _ => by rw [getD_set_neq (i := 6) (j := 5) (by decide)]; exact l5⟩
     clear eW hWe hs
     have hK := fun (W2 : World) hW hT hv (hs : SqrA A ra n ca bx by_ bz bt bo bl bc Wd (lq.setIfInBounds 6 true) aq W2) => show (JqrA A ra n ca bx by_ bz bt bo bl bc Wd w0 a0) (lq.setIfInBounds 6 true) aq W2 from ⟨hJ2.world 6 rfl (W' := W2) hW hT hv, hs⟩
     clear ho hall hl hQ
     generalize (JqrA A ra n ca bx by_ bz bt bo bl bc Wd w0 a0) (lq.setIfInBounds 6 true) = K at hK ⊢
     clear hJ2 hS z1 z2 z3 z4 z6 z7
     go_simp
     exact hK _ (((((z5.setCell (p := ⟨Wd.heap.size, 0, none⟩) hWd _).setCell (p := ⟨Wd.heap.size, 1, none⟩) hWd _).setCell (p := ⟨Wd.heap.size, 2, none⟩) hWd _).setCell (p := ⟨Wd.heap.size, 3, none⟩) hWd _).setCell (p := ⟨Wd.heap.size, 4, none⟩) hWd _) (fun _ _ h => h.same) trivial hq
   | 7, ho =>
     cases ho
     refine wpOp_of rfl rfl ?_
     have f4 : RestV A ra n ca (aq.tmps.getD 31 undef) := z6 4 31 (hall { on := 4, ground := Ground.data } (by simp) rfl) rfl
     have hq : ∀ v : Value, SqrA A ra n ca bx by_ bz bt bo bl bc Wd (lq.setIfInBounds 7 true) (aq.put (some 11) v) W := fun v => ⟨by rw [getD_set_neq (i := 7) (j := 5) (by decide)]; exact hs.1, by rw [getD_set_neq (i := 7) (j := 5) (by decide), getD_set_neq (i := 7) (j := 6) (by decide)]; exact hs.2.1, by rw [getD_set_neq (i := 7) (j := 6) (by decide)]; exact hs.2.2.1, by rw [getD_set_neq (i := 7) (j := 5) (by decide), getD_set_neq (i := 7) (j := 6) (by decide)]; exact hs.2.2.2⟩
     clear hWe
     rw [Array.getD_eq_getD_getElem?] at f4
     have hK := fun (v : Value) (W2 : World) hW hT hv (hs : SqrA A ra n ca bx by_ bz bt bo bl bc Wd (lq.setIfInBounds 7 true) (aq.put (some 11) v) W2) => show (JqrA A ra n ca bx by_ bz bt bo bl bc Wd w0 a0) (lq.setIfInBounds 7 true) (aq.put (some 11) v) W2 from ⟨hJ2.put hS 7 11 rfl (by omega) (W' := W2) hW hT v hv, hs⟩
     clear ho hall hl hQ
     generalize (JqrA A ra n ca bx by_ bz bt bo bl bc Wd w0 a0) (lq.setIfInBounds 7 true) = K at hK ⊢
     clear hJ2 hS z1 z2 z3 z4 z6 z7
     go_simp
     exact hK _ _ z5 (fun _ _ h => h) f4 (hq _)
   | iq + 8, ho => simp at ho
 · intro lq aq W ⟨hJ, hs⟩ hr
   obtain ⟨z1, z2, z3, z4, z5, z6, z7⟩ := hJ
   have hl := listed_of hr [5, 3, 4, 0, 1, 2, 6, 7] [] (by simp) (by kernel_rfl) (by rw [z1]; decide)
   exact hQ aq W z2 z3 (fun e he => z4 e (by simpa using he)) (z6 5 10 (hl 5 (by simp)) rfl) (z6 7 11 (hl 7 (by simp)) rfl) z5 (hs.2.2.1 (hl 6 (by simp)))
def VqrB (F g : Nat) (bx by_ x y : Int) (_B : Nat) : Nat → Value → World → Prop
 | 0, v, _ => v = .pointer (some ⟨F, 0, none⟩)
 | 1, v, _ => v = .int .i64 bx
 | 2, v, _ => v = .pointer (some ⟨F, 1, none⟩)
 | 3, v, _ => v = .int .i64 by_
 | 4, v, _ => v = Sp bx by_
 | 5, v, _ => v = .pointer (some ⟨g, 0, none⟩)
 | 6, v, _ => v = .pointer (some ⟨g, 0, none⟩)
 | 7, v, _ => v = .pointer (some ⟨g, 0, none⟩)
 | 8, v, _ => v = Sp x y
 | 9, v, _ => v = .bool true
 | 10, v, _ => v = .bool true
 | 11, v, _ => v = undef
 | 12, v, _ => v = undef
 | 13, v, _ => v = undef
 | 14, v, _ => v = undef
 | 15, v, _ => v = undef
 | 16, v, _ => v = undef
 | 17, v, _ => v = undef
 | 18, v, _ => v = .bool true
 | _, _, _ => True
set_option maxRecDepth 100000 in
set_option maxHeartbeats 4000000 in
theorem qrB {Q : Exit → Act → World → Prop} {F g : Nat} {bx by_ x y : Int}  {w0 : World} {a0 : Act} {idq : Nat} {t0 t1 t2 t3 t4 t5 t6 t7 t8 t9 t10 t11 t12 t13 t14 t15 t16 t17 t18 : TypeId} {q0 q1 q2 q3 q4 q5 q6 q7 q8 q9 q10 q11 q12 q13 q14 q15 q16 q17 q18 : String}
   (hE : ∀ w, (Op.equalIn 10000 37 (.agg #[.int .i64 bx, .int .i64 by_]) (.agg #[.int .i64 x, .int .i64 y])).run Try.prog w = .ok false w) (h0 : a0.tmps[0]? = some (.pointer (some ⟨g, 0, none⟩))) (h10 : a0.tmps[10]? = some (.pointer (some ⟨F, 0, none⟩))) (k0 : w0.cell? ⟨F, 0, none⟩ = some (.int .i64 bx)) (l0 : (⟨F, 0, none⟩ : Addr).block < w0.heap.size) (k1 : w0.cell? ⟨F, 1, none⟩ = some (.int .i64 by_)) (l1 : (⟨F, 1, none⟩ : Addr).block < w0.heap.size) (k2 : w0.cell? ⟨g, 0, none⟩ = some (.int .i64 x)) (l2 : (⟨g, 0, none⟩ : Addr).block < w0.heap.size) (k3 : w0.cell? ⟨g, 1, none⟩ = some (.int .i64 y)) (l3 : (⟨g, 1, none⟩ : Addr).block < w0.heap.size) (hz : a0.tmps.size = 98)
   (hQ : ∀ aq W, aq.tmps.size = a0.tmps.size → aq.defers = a0.defers → (∀ e, e ∉ ([32, 33, 34, 35, 36, 37, 38, 39, 40, 41, 42, 43, 44, 45, 46, 47, 48, 49, 50] : List Nat) → aq.tmps[e]? = a0.tmps[e]?) → VqrB F g bx by_ x y w0.heap.size 18 (aq.tmps.getD 50 undef) W → Below w0.heap.size w0 W → Q .normal aq W) :
   (Code.region idq #[{ dst := some 32, op := Op.fieldAddr 89 (Operand.tmp 10) 0, type := t0, pos := q0, after := #[], guard := none },
   { dst := some 33, op := Op.load 2 (Operand.tmp 32), type := t1, pos := q1, after := #[{ on := 0, ground := Ground.data }], guard := none },
   { dst := some 34, op := Op.fieldAddr 89 (Operand.tmp 10) 1, type := t2, pos := q2, after := #[], guard := none },
   { dst := some 35, op := Op.load 2 (Operand.tmp 34), type := t3, pos := q3, after := #[{ on := 2, ground := Ground.data }], guard := none },
   { dst := some 36, op := Op.build 37 #[(0, Operand.tmp 33), (1, Operand.tmp 35)], type := t4, pos := q4, after := #[{ on := 1, ground := Ground.data }, { on := 3, ground := Ground.data }], guard := none },
   { dst := some 37, op := Op.move (Operand.tmp 0), type := t5, pos := q5, after := #[], guard := none },
   { dst := some 38, op := Op.nilCheck (Operand.tmp 37), type := t6, pos := q6, after := #[{ on := 5, ground := Ground.data }], guard := none },
   { dst := some 39, op := Op.fieldAddr 99 (Operand.tmp 38) 0, type := t7, pos := q7, after := #[{ on := 6, ground := Ground.data }], guard := none },
   { dst := some 40, op := Op.load 37 (Operand.tmp 39), type := t8, pos := q8, after := #[{ on := 7, ground := Ground.data }], guard := none },
   { dst := some 41, op := Op.binOp BinOp.neq 37 (Operand.tmp 36) (Operand.tmp 40) 37, type := t9, pos := q9, after := #[{ on := 4, ground := Ground.data }, { on := 8, ground := Ground.data }], guard := none },
   { dst := some 42, op := Op.move (Operand.tmp 41), type := t10, pos := q10, after := #[{ on := 9, ground := Ground.data }], guard := none },
   { dst := some 43, op := Op.fieldAddr 89 (Operand.tmp 10) 2, type := t11, pos := q11, after := #[{ on := 10, ground := Ground.guard }], guard := some (10, false) },
   { dst := some 44, op := Op.load 2 (Operand.tmp 43), type := t12, pos := q12, after := #[{ on := 11, ground := Ground.data }, { on := 10, ground := Ground.guard }], guard := some (10, false) },
   { dst := some 45, op := Op.move (Operand.tmp 0), type := t13, pos := q13, after := #[{ on := 10, ground := Ground.guard }], guard := some (10, false) },
   { dst := some 46, op := Op.nilCheck (Operand.tmp 45), type := t14, pos := q14, after := #[{ on := 13, ground := Ground.data }, { on := 10, ground := Ground.guard }], guard := some (10, false) },
   { dst := some 47, op := Op.fieldAddr 99 (Operand.tmp 46) 1, type := t15, pos := q15, after := #[{ on := 14, ground := Ground.data }, { on := 10, ground := Ground.guard }], guard := some (10, false) },
   { dst := some 48, op := Op.load 2 (Operand.tmp 47), type := t16, pos := q16, after := #[{ on := 15, ground := Ground.data }, { on := 10, ground := Ground.guard }], guard := some (10, false) },
   { dst := some 49, op := Op.binOp BinOp.neq 2 (Operand.tmp 44) (Operand.tmp 48) 2, type := t17, pos := q17, after := #[{ on := 12, ground := Ground.data }, { on := 16, ground := Ground.data }, { on := 10, ground := Ground.guard }], guard := some (10, false) },
   { dst := some 50, op := Op.pick (Operand.tmp 42) (Operand.const (Value.bool true)) (Operand.tmp 49), type := t18, pos := q18, after := #[{ on := 10, ground := Ground.data }, { on := 17, ground := Ground.data }], guard := none }] true).wp Try.prog Q a0 w0 := by
 have hS : distS [some 32, some 33, some 34, some 35, some 36, some 37, some 38, some 39, some 40, some 41, some 42, some 43, some 44, some 45, some 46, some 47, some 48, some 49, some 50] = true := rfl
 refine wp_region_q (by kernel_rfl) w0.heap.size [some 32, some 33, some 34, some 35, some 36, some 37, some 38, some 39, some 40, some 41, some 42, some 43, some 44, some 45, some 46, some 47, some 48, some 49, some 50] (VqrB F g bx by_ x y w0.heap.size) rfl ?_ ?_
 · intro Q lq aq W iq oq hJ hl ho hall
   have hJ2 := hJ
   obtain ⟨z1, z2, z3, z4, z5, z6, z7⟩ := hJ
   have g0 : aq.tmps.getD 0 undef = .pointer (some ⟨g, 0, none⟩) := by rw [Array.getD_eq_getD_getElem?, z4 0 (by decide), h0]; rfl
   have g10 : aq.tmps.getD 10 undef = .pointer (some ⟨F, 0, none⟩) := by rw [Array.getD_eq_getD_getElem?, z4 10 (by decide), h10]; rfl
   have c0 : W.cell? ⟨F, 0, none⟩ = some (.int .i64 bx) := (z5.cell l0).trans k0
   have c1 : W.cell? ⟨F, 1, none⟩ = some (.int .i64 by_) := (z5.cell l1).trans k1
   have c2 : W.cell? ⟨g, 0, none⟩ = some (.int .i64 x) := (z5.cell l2).trans k2
   have c3 : W.cell? ⟨g, 1, none⟩ = some (.int .i64 y) := (z5.cell l3).trans k3
   match iq, ho with
   | 0, ho =>
     cases ho
     refine wpOp_of rfl rfl ?_
     have hK := fun (v : Value) (W2 : World) hW hT hv => hJ2.put hS 0 32 rfl (by omega) (W' := W2) hW hT v hv
     clear ho hall hl hQ
     generalize InvQ _ _ _ w0 a0 (lq.setIfInBounds 0 true) = K at hK ⊢
     clear hJ2 hS z1 z2 z3 z4 z6 z7
     go_simp
     exact hK _ _ z5 (fun _ _ h => h) rfl
   | 1, ho =>
     cases ho
     refine wpOp_of rfl rfl ?_
     have f0 : (aq.tmps.getD 32 undef) = .pointer (some ⟨F, 0, none⟩) := z6 0 32 (hall { on := 0, ground := Ground.data } (by simp) rfl) rfl
     have hK := fun (v : Value) (W2 : World) hW hT hv => hJ2.put hS 1 33 rfl (by omega) (W' := W2) hW hT v hv
     clear ho hall hl hQ
     generalize InvQ _ _ _ w0 a0 (lq.setIfInBounds 1 true) = K at hK ⊢
     clear hJ2 hS z1 z2 z3 z4 z6 z7
     go_simp
     exact hK _ _ z5 (fun _ _ h => h) rfl
   | 2, ho =>
     cases ho
     refine wpOp_of rfl rfl ?_
     have hK := fun (v : Value) (W2 : World) hW hT hv => hJ2.put hS 2 34 rfl (by omega) (W' := W2) hW hT v hv
     clear ho hall hl hQ
     generalize InvQ _ _ _ w0 a0 (lq.setIfInBounds 2 true) = K at hK ⊢
     clear hJ2 hS z1 z2 z3 z4 z6 z7
     go_simp
     exact hK _ _ z5 (fun _ _ h => h) rfl
   | 3, ho =>
     cases ho
     refine wpOp_of rfl rfl ?_
     have f2 : (aq.tmps.getD 34 undef) = .pointer (some ⟨F, 1, none⟩) := z6 2 34 (hall { on := 2, ground := Ground.data } (by simp) rfl) rfl
     have hK := fun (v : Value) (W2 : World) hW hT hv => hJ2.put hS 3 35 rfl (by omega) (W' := W2) hW hT v hv
     clear ho hall hl hQ
     generalize InvQ _ _ _ w0 a0 (lq.setIfInBounds 3 true) = K at hK ⊢
     clear hJ2 hS z1 z2 z3 z4 z6 z7
     go_simp
     exact hK _ _ z5 (fun _ _ h => h) rfl
   | 4, ho =>
     cases ho
     refine wpOp_of rfl rfl ?_
     have f1 : (aq.tmps.getD 33 undef) = .int .i64 bx := z6 1 33 (hall { on := 1, ground := Ground.data } (by simp) rfl) rfl
     have f3 : (aq.tmps.getD 35 undef) = .int .i64 by_ := z6 3 35 (hall { on := 3, ground := Ground.data } (by simp) rfl) rfl
     rw [Array.getD_eq_getD_getElem?] at f1 f3
     have hK := fun (v : Value) (W2 : World) hW hT hv => hJ2.put hS 4 36 rfl (by omega) (W' := W2) hW hT v hv
     clear ho hall hl hQ
     generalize InvQ _ _ _ w0 a0 (lq.setIfInBounds 4 true) = K at hK ⊢
     clear hJ2 hS z1 z2 z3 z4 z6 z7
     go_simp
     exact hK _ _ z5 (fun _ _ h => h) rfl
   | 5, ho =>
     cases ho
     refine wpOp_of rfl rfl ?_
     have hK := fun (v : Value) (W2 : World) hW hT hv => hJ2.put hS 5 37 rfl (by omega) (W' := W2) hW hT v hv
     clear ho hall hl hQ
     generalize InvQ _ _ _ w0 a0 (lq.setIfInBounds 5 true) = K at hK ⊢
     clear hJ2 hS z1 z2 z3 z4 z6 z7
     go_simp
     exact hK _ _ z5 (fun _ _ h => h) rfl
   | 6, ho =>
     cases ho
     refine wpOp_of rfl rfl ?_
     have f5 : (aq.tmps.getD 37 undef) = .pointer (some ⟨g, 0, none⟩) := z6 5 37 (hall { on := 5, ground := Ground.data } (by simp) rfl) rfl
     have hK := fun (v : Value) (W2 : World) hW hT hv => hJ2.put hS 6 38 rfl (by omega) (W' := W2) hW hT v hv
     clear ho hall hl hQ
     generalize InvQ _ _ _ w0 a0 (lq.setIfInBounds 6 true) = K at hK ⊢
     clear hJ2 hS z1 z2 z3 z4 z6 z7
     go_simp
     exact hK _ _ z5 (fun _ _ h => h) rfl
   | 7, ho =>
     cases ho
     refine wpOp_of rfl rfl ?_
     have f6 : (aq.tmps.getD 38 undef) = .pointer (some ⟨g, 0, none⟩) := z6 6 38 (hall { on := 6, ground := Ground.data } (by simp) rfl) rfl
     have hK := fun (v : Value) (W2 : World) hW hT hv => hJ2.put hS 7 39 rfl (by omega) (W' := W2) hW hT v hv
     clear ho hall hl hQ
     generalize InvQ _ _ _ w0 a0 (lq.setIfInBounds 7 true) = K at hK ⊢
     clear hJ2 hS z1 z2 z3 z4 z6 z7
     go_simp
     exact hK _ _ z5 (fun _ _ h => h) rfl
   | 8, ho =>
     cases ho
     refine wpOp_of rfl rfl ?_
     have f7 : (aq.tmps.getD 39 undef) = .pointer (some ⟨g, 0, none⟩) := z6 7 39 (hall { on := 7, ground := Ground.data } (by simp) rfl) rfl
     have hK := fun (v : Value) (W2 : World) hW hT hv => hJ2.put hS 8 40 rfl (by omega) (W' := W2) hW hT v hv
     clear ho hall hl hQ
     generalize InvQ _ _ _ w0 a0 (lq.setIfInBounds 8 true) = K at hK ⊢
     clear hJ2 hS z1 z2 z3 z4 z6 z7
     go_simp
     exact hK _ _ z5 (fun _ _ h => h) rfl
   | 9, ho =>
     cases ho
     refine wpOp_of rfl rfl ?_
     have f4 : (aq.tmps.getD 36 undef) = Sp bx by_ := z6 4 36 (hall { on := 4, ground := Ground.data } (by simp) rfl) rfl
     have f8 : (aq.tmps.getD 40 undef) = Sp x y := z6 8 40 (hall { on := 8, ground := Ground.data } (by simp) rfl) rfl
     have hK := fun (v : Value) (W2 : World) hW hT hv => hJ2.put hS 9 41 rfl (by omega) (W' := W2) hW hT v hv
     clear ho hall hl hQ
     generalize InvQ _ _ _ w0 a0 (lq.setIfInBounds 9 true) = K at hK ⊢
     clear hJ2 hS z1 z2 z3 z4 z6 z7
     go_simp
     exact hK _ _ z5 (fun _ _ h => h) rfl
   | 10, ho =>
     cases ho
     refine wpOp_of rfl rfl ?_
     have f9 : (aq.tmps.getD 41 undef) = .bool true := z6 9 41 (hall { on := 9, ground := Ground.data } (by simp) rfl) rfl
     have hK := fun (v : Value) (W2 : World) hW hT hv => hJ2.put hS 10 42 rfl (by omega) (W' := W2) hW hT v hv
     clear ho hall hl hQ
     generalize InvQ _ _ _ w0 a0 (lq.setIfInBounds 10 true) = K at hK ⊢
     clear hJ2 hS z1 z2 z3 z4 z6 z7
     go_simp
     exact hK _ _ z5 (fun _ _ h => h) rfl
   | 11, ho =>
     cases ho
     have fg : aq.tmps.getD 42 undef = .bool true := z6 10 42 (hall { on := 10, ground := Ground.guard } (by simp) rfl) rfl
     refine wpOp_off rfl rfl rfl rfl fg ?_
     exact hJ2.put hS 11 43 rfl (by omega) z5 (fun _ _ h => h) undef rfl
   | 12, ho =>
     cases ho
     have fg : aq.tmps.getD 42 undef = .bool true := z6 10 42 (hall { on := 10, ground := Ground.guard } (by simp) rfl) rfl
     refine wpOp_off rfl rfl rfl rfl fg ?_
     exact hJ2.put hS 12 44 rfl (by omega) z5 (fun _ _ h => h) undef rfl
   | 13, ho =>
     cases ho
     have fg : aq.tmps.getD 42 undef = .bool true := z6 10 42 (hall { on := 10, ground := Ground.guard } (by simp) rfl) rfl
     refine wpOp_off rfl rfl rfl rfl fg ?_
     exact hJ2.put hS 13 45 rfl (by omega) z5 (fun _ _ h => h) undef rfl
   | 14, ho =>
     cases ho
     have fg : aq.tmps.getD 42 undef = .bool true := z6 10 42 (hall { on := 10, ground := Ground.guard } (by simp) rfl) rfl
     refine wpOp_off rfl rfl rfl rfl fg ?_
     exact hJ2.put hS 14 46 rfl (by omega) z5 (fun _ _ h => h) undef rfl
   | 15, ho =>
     cases ho
     have fg : aq.tmps.getD 42 undef = .bool true := z6 10 42 (hall { on := 10, ground := Ground.guard } (by simp) rfl) rfl
     refine wpOp_off rfl rfl rfl rfl fg ?_
     exact hJ2.put hS 15 47 rfl (by omega) z5 (fun _ _ h => h) undef rfl
   | 16, ho =>
     cases ho
     have fg : aq.tmps.getD 42 undef = .bool true := z6 10 42 (hall { on := 10, ground := Ground.guard } (by simp) rfl) rfl
     refine wpOp_off rfl rfl rfl rfl fg ?_
     exact hJ2.put hS 16 48 rfl (by omega) z5 (fun _ _ h => h) undef rfl
   | 17, ho =>
     cases ho
     have fg : aq.tmps.getD 42 undef = .bool true := z6 10 42 (hall { on := 10, ground := Ground.guard } (by simp) rfl) rfl
     refine wpOp_off rfl rfl rfl rfl fg ?_
     exact hJ2.put hS 17 49 rfl (by omega) z5 (fun _ _ h => h) undef rfl
   | 18, ho =>
     cases ho
     refine wpOp_of rfl rfl ?_
     have f10 : (aq.tmps.getD 42 undef) = .bool true := z6 10 42 (hall { on := 10, ground := Ground.data } (by simp) rfl) rfl
     have f17 : (aq.tmps.getD 49 undef) = undef := z6 17 49 (hall { on := 17, ground := Ground.data } (by simp) rfl) rfl
     have hK := fun (v : Value) (W2 : World) hW hT hv => hJ2.put hS 18 50 rfl (by omega) (W' := W2) hW hT v hv
     clear ho hall hl hQ
     generalize InvQ _ _ _ w0 a0 (lq.setIfInBounds 18 true) = K at hK ⊢
     clear hJ2 hS z1 z2 z3 z4 z6 z7
     go_simp
     exact hK _ _ z5 (fun _ _ h => h) rfl
   | iq + 19, ho => simp at ho
 · intro lq aq W hJ hr
   obtain ⟨z1, z2, z3, z4, z5, z6, z7⟩ := hJ
   have hl := listed_of hr [0, 1, 2, 3, 4, 5, 6, 7, 8, 9, 10, 11, 12, 13, 14, 15, 16, 17, 18] [] (by simp) (by kernel_rfl) (by rw [z1]; decide)
   exact hQ aq W z2 z3 (fun e he => z4 e (by simpa using he)) (z6 18 50 (hl 18 (by simp)) rfl) z5
def VqrC (F g : Nat) (bx by_ bz x y s : Int) (_B : Nat) : Nat → Value → World → Prop
 | 0, v, _ => v = .pointer (some ⟨F, 0, none⟩)
 | 1, v, _ => v = .int .i64 bx
 | 2, v, _ => v = .pointer (some ⟨F, 1, none⟩)
 | 3, v, _ => v = .int .i64 by_
 | 4, v, _ => v = Sp bx by_
 | 5, v, _ => v = .pointer (some ⟨g, 0, none⟩)
 | 6, v, _ => v = .pointer (some ⟨g, 0, none⟩)
 | 7, v, _ => v = .pointer (some ⟨g, 0, none⟩)
 | 8, v, _ => v = Sp x y
 | 9, v, _ => v = .bool false
 | 10, v, _ => v = .bool false
 | 11, v, _ => v = .pointer (some ⟨F, 2, none⟩)
 | 12, v, _ => v = .int .i64 bz
 | 13, v, _ => v = .pointer (some ⟨g, 0, none⟩)
 | 14, v, _ => v = .pointer (some ⟨g, 0, none⟩)
 | 15, v, _ => v = .pointer (some ⟨g, 2, none⟩)
 | 16, v, _ => v = .int .i64 s
 | 17, v, _ => v = .bool (decide (¬ (bz = s)))
 | 18, v, _ => v = .bool (decide (¬ (bz = s)))
 | _, _, _ => True
set_option maxRecDepth 100000 in
set_option maxHeartbeats 4000000 in
theorem qrC {Q : Exit → Act → World → Prop} {F g : Nat} {bx by_ bz x y s : Int}  {w0 : World} {a0 : Act} {idq : Nat} {t0 t1 t2 t3 t4 t5 t6 t7 t8 t9 t10 t11 t12 t13 t14 t15 t16 t17 t18 : TypeId} {q0 q1 q2 q3 q4 q5 q6 q7 q8 q9 q10 q11 q12 q13 q14 q15 q16 q17 q18 : String}
   (hE : ∀ w, (Op.equalIn 10000 37 (.agg #[.int .i64 bx, .int .i64 by_]) (.agg #[.int .i64 x, .int .i64 y])).run Try.prog w = .ok true w) (h0 : a0.tmps[0]? = some (.pointer (some ⟨g, 0, none⟩))) (h10 : a0.tmps[10]? = some (.pointer (some ⟨F, 0, none⟩))) (k0 : w0.cell? ⟨F, 0, none⟩ = some (.int .i64 bx)) (l0 : (⟨F, 0, none⟩ : Addr).block < w0.heap.size) (k1 : w0.cell? ⟨F, 1, none⟩ = some (.int .i64 by_)) (l1 : (⟨F, 1, none⟩ : Addr).block < w0.heap.size) (k2 : w0.cell? ⟨g, 0, none⟩ = some (.int .i64 x)) (l2 : (⟨g, 0, none⟩ : Addr).block < w0.heap.size) (k3 : w0.cell? ⟨g, 1, none⟩ = some (.int .i64 y)) (l3 : (⟨g, 1, none⟩ : Addr).block < w0.heap.size) (k4 : w0.cell? ⟨F, 2, none⟩ = some (.int .i64 bz)) (l4 : (⟨F, 2, none⟩ : Addr).block < w0.heap.size) (k5 : w0.cell? ⟨g, 2, none⟩ = some (.int .i64 s)) (l5 : (⟨g, 2, none⟩ : Addr).block < w0.heap.size) (hz : a0.tmps.size = 98)
   (hQ : ∀ aq W, aq.tmps.size = a0.tmps.size → aq.defers = a0.defers → (∀ e, e ∉ ([32, 33, 34, 35, 36, 37, 38, 39, 40, 41, 42, 43, 44, 45, 46, 47, 48, 49, 50] : List Nat) → aq.tmps[e]? = a0.tmps[e]?) → VqrC F g bx by_ bz x y s w0.heap.size 18 (aq.tmps.getD 50 undef) W → Below w0.heap.size w0 W → Q .normal aq W) :
   (Code.region idq #[{ dst := some 32, op := Op.fieldAddr 89 (Operand.tmp 10) 0, type := t0, pos := q0, after := #[], guard := none },
   { dst := some 33, op := Op.load 2 (Operand.tmp 32), type := t1, pos := q1, after := #[{ on := 0, ground := Ground.data }], guard := none },
   { dst := some 34, op := Op.fieldAddr 89 (Operand.tmp 10) 1, type := t2, pos := q2, after := #[], guard := none },
   { dst := some 35, op := Op.load 2 (Operand.tmp 34), type := t3, pos := q3, after := #[{ on := 2, ground := Ground.data }], guard := none },
   { dst := some 36, op := Op.build 37 #[(0, Operand.tmp 33), (1, Operand.tmp 35)], type := t4, pos := q4, after := #[{ on := 1, ground := Ground.data }, { on := 3, ground := Ground.data }], guard := none },
   { dst := some 37, op := Op.move (Operand.tmp 0), type := t5, pos := q5, after := #[], guard := none },
   { dst := some 38, op := Op.nilCheck (Operand.tmp 37), type := t6, pos := q6, after := #[{ on := 5, ground := Ground.data }], guard := none },
   { dst := some 39, op := Op.fieldAddr 99 (Operand.tmp 38) 0, type := t7, pos := q7, after := #[{ on := 6, ground := Ground.data }], guard := none },
   { dst := some 40, op := Op.load 37 (Operand.tmp 39), type := t8, pos := q8, after := #[{ on := 7, ground := Ground.data }], guard := none },
   { dst := some 41, op := Op.binOp BinOp.neq 37 (Operand.tmp 36) (Operand.tmp 40) 37, type := t9, pos := q9, after := #[{ on := 4, ground := Ground.data }, { on := 8, ground := Ground.data }], guard := none },
   { dst := some 42, op := Op.move (Operand.tmp 41), type := t10, pos := q10, after := #[{ on := 9, ground := Ground.data }], guard := none },
   { dst := some 43, op := Op.fieldAddr 89 (Operand.tmp 10) 2, type := t11, pos := q11, after := #[{ on := 10, ground := Ground.guard }], guard := some (10, false) },
   { dst := some 44, op := Op.load 2 (Operand.tmp 43), type := t12, pos := q12, after := #[{ on := 11, ground := Ground.data }, { on := 10, ground := Ground.guard }], guard := some (10, false) },
   { dst := some 45, op := Op.move (Operand.tmp 0), type := t13, pos := q13, after := #[{ on := 10, ground := Ground.guard }], guard := some (10, false) },
   { dst := some 46, op := Op.nilCheck (Operand.tmp 45), type := t14, pos := q14, after := #[{ on := 13, ground := Ground.data }, { on := 10, ground := Ground.guard }], guard := some (10, false) },
   { dst := some 47, op := Op.fieldAddr 99 (Operand.tmp 46) 1, type := t15, pos := q15, after := #[{ on := 14, ground := Ground.data }, { on := 10, ground := Ground.guard }], guard := some (10, false) },
   { dst := some 48, op := Op.load 2 (Operand.tmp 47), type := t16, pos := q16, after := #[{ on := 15, ground := Ground.data }, { on := 10, ground := Ground.guard }], guard := some (10, false) },
   { dst := some 49, op := Op.binOp BinOp.neq 2 (Operand.tmp 44) (Operand.tmp 48) 2, type := t17, pos := q17, after := #[{ on := 12, ground := Ground.data }, { on := 16, ground := Ground.data }, { on := 10, ground := Ground.guard }], guard := some (10, false) },
   { dst := some 50, op := Op.pick (Operand.tmp 42) (Operand.const (Value.bool true)) (Operand.tmp 49), type := t18, pos := q18, after := #[{ on := 10, ground := Ground.data }, { on := 17, ground := Ground.data }], guard := none }] true).wp Try.prog Q a0 w0 := by
 have hS : distS [some 32, some 33, some 34, some 35, some 36, some 37, some 38, some 39, some 40, some 41, some 42, some 43, some 44, some 45, some 46, some 47, some 48, some 49, some 50] = true := rfl
 refine wp_region_q (by kernel_rfl) w0.heap.size [some 32, some 33, some 34, some 35, some 36, some 37, some 38, some 39, some 40, some 41, some 42, some 43, some 44, some 45, some 46, some 47, some 48, some 49, some 50] (VqrC F g bx by_ bz x y s w0.heap.size) rfl ?_ ?_
 · intro Q lq aq W iq oq hJ hl ho hall
   have hJ2 := hJ
   obtain ⟨z1, z2, z3, z4, z5, z6, z7⟩ := hJ
   have g0 : aq.tmps.getD 0 undef = .pointer (some ⟨g, 0, none⟩) := by rw [Array.getD_eq_getD_getElem?, z4 0 (by decide), h0]; rfl
   have g10 : aq.tmps.getD 10 undef = .pointer (some ⟨F, 0, none⟩) := by rw [Array.getD_eq_getD_getElem?, z4 10 (by decide), h10]; rfl
   have c0 : W.cell? ⟨F, 0, none⟩ = some (.int .i64 bx) := (z5.cell l0).trans k0
   have c1 : W.cell? ⟨F, 1, none⟩ = some (.int .i64 by_) := (z5.cell l1).trans k1
   have c2 : W.cell? ⟨g, 0, none⟩ = some (.int .i64 x) := (z5.cell l2).trans k2
   have c3 : W.cell? ⟨g, 1, none⟩ = some (.int .i64 y) := (z5.cell l3).trans k3
   have c4 : W.cell? ⟨F, 2, none⟩ = some (.int .i64 bz) := (z5.cell l4).trans k4
   have c5 : W.cell? ⟨g, 2, none⟩ = some (.int .i64 s) := (z5.cell l5).trans k5
   match iq, ho with
   | 0, ho =>
     cases ho
     refine wpOp_of rfl rfl ?_
     have hK := fun (v : Value) (W2 : World) hW hT hv => hJ2.put hS 0 32 rfl (by omega) (W' := W2) hW hT v hv
     clear ho hall hl hQ
     generalize InvQ _ _ _ w0 a0 (lq.setIfInBounds 0 true) = K at hK ⊢
     clear hJ2 hS z1 z2 z3 z4 z6 z7
     go_simp
     exact hK _ _ z5 (fun _ _ h => h) rfl
   | 1, ho =>
     cases ho
     refine wpOp_of rfl rfl ?_
     have f0 : (aq.tmps.getD 32 undef) = .pointer (some ⟨F, 0, none⟩) := z6 0 32 (hall { on := 0, ground := Ground.data } (by simp) rfl) rfl
     have hK := fun (v : Value) (W2 : World) hW hT hv => hJ2.put hS 1 33 rfl (by omega) (W' := W2) hW hT v hv
     clear ho hall hl hQ
     generalize InvQ _ _ _ w0 a0 (lq.setIfInBounds 1 true) = K at hK ⊢
     clear hJ2 hS z1 z2 z3 z4 z6 z7
     go_simp
     exact hK _ _ z5 (fun _ _ h => h) rfl
   | 2, ho =>
     cases ho
     refine wpOp_of rfl rfl ?_
     have hK := fun (v : Value) (W2 : World) hW hT hv => hJ2.put hS 2 34 rfl (by omega) (W' := W2) hW hT v hv
     clear ho hall hl hQ
     generalize InvQ _ _ _ w0 a0 (lq.setIfInBounds 2 true) = K at hK ⊢
     clear hJ2 hS z1 z2 z3 z4 z6 z7
     go_simp
     exact hK _ _ z5 (fun _ _ h => h) rfl
   | 3, ho =>
     cases ho
     refine wpOp_of rfl rfl ?_
     have f2 : (aq.tmps.getD 34 undef) = .pointer (some ⟨F, 1, none⟩) := z6 2 34 (hall { on := 2, ground := Ground.data } (by simp) rfl) rfl
     have hK := fun (v : Value) (W2 : World) hW hT hv => hJ2.put hS 3 35 rfl (by omega) (W' := W2) hW hT v hv
     clear ho hall hl hQ
     generalize InvQ _ _ _ w0 a0 (lq.setIfInBounds 3 true) = K at hK ⊢
     clear hJ2 hS z1 z2 z3 z4 z6 z7
     go_simp
     exact hK _ _ z5 (fun _ _ h => h) rfl
   | 4, ho =>
     cases ho
     refine wpOp_of rfl rfl ?_
     have f1 : (aq.tmps.getD 33 undef) = .int .i64 bx := z6 1 33 (hall { on := 1, ground := Ground.data } (by simp) rfl) rfl
     have f3 : (aq.tmps.getD 35 undef) = .int .i64 by_ := z6 3 35 (hall { on := 3, ground := Ground.data } (by simp) rfl) rfl
     rw [Array.getD_eq_getD_getElem?] at f1 f3
     have hK := fun (v : Value) (W2 : World) hW hT hv => hJ2.put hS 4 36 rfl (by omega) (W' := W2) hW hT v hv
     clear ho hall hl hQ
     generalize InvQ _ _ _ w0 a0 (lq.setIfInBounds 4 true) = K at hK ⊢
     clear hJ2 hS z1 z2 z3 z4 z6 z7
     go_simp
     exact hK _ _ z5 (fun _ _ h => h) rfl
   | 5, ho =>
     cases ho
     refine wpOp_of rfl rfl ?_
     have hK := fun (v : Value) (W2 : World) hW hT hv => hJ2.put hS 5 37 rfl (by omega) (W' := W2) hW hT v hv
     clear ho hall hl hQ
     generalize InvQ _ _ _ w0 a0 (lq.setIfInBounds 5 true) = K at hK ⊢
     clear hJ2 hS z1 z2 z3 z4 z6 z7
     go_simp
     exact hK _ _ z5 (fun _ _ h => h) rfl
   | 6, ho =>
     cases ho
     refine wpOp_of rfl rfl ?_
     have f5 : (aq.tmps.getD 37 undef) = .pointer (some ⟨g, 0, none⟩) := z6 5 37 (hall { on := 5, ground := Ground.data } (by simp) rfl) rfl
     have hK := fun (v : Value) (W2 : World) hW hT hv => hJ2.put hS 6 38 rfl (by omega) (W' := W2) hW hT v hv
     clear ho hall hl hQ
     generalize InvQ _ _ _ w0 a0 (lq.setIfInBounds 6 true) = K at hK ⊢
     clear hJ2 hS z1 z2 z3 z4 z6 z7
     go_simp
     exact hK _ _ z5 (fun _ _ h => h) rfl
   | 7, ho =>
     cases ho
     refine wpOp_of rfl rfl ?_
     have f6 : (aq.tmps.getD 38 undef) = .pointer (some ⟨g, 0, none⟩) := z6 6 38 (hall { on := 6, ground := Ground.data } (by simp) rfl) rfl
     have hK := fun (v : Value) (W2 : World) hW hT hv => hJ2.put hS 7 39 rfl (by omega) (W' := W2) hW hT v hv
     clear ho hall hl hQ
     generalize InvQ _ _ _ w0 a0 (lq.setIfInBounds 7 true) = K at hK ⊢
     clear hJ2 hS z1 z2 z3 z4 z6 z7
     go_simp
     exact hK _ _ z5 (fun _ _ h => h) rfl
   | 8, ho =>
     cases ho
     refine wpOp_of rfl rfl ?_
     have f7 : (aq.tmps.getD 39 undef) = .pointer (some ⟨g, 0, none⟩) := z6 7 39 (hall { on := 7, ground := Ground.data } (by simp) rfl) rfl
     have hK := fun (v : Value) (W2 : World) hW hT hv => hJ2.put hS 8 40 rfl (by omega) (W' := W2) hW hT v hv
     clear ho hall hl hQ
     generalize InvQ _ _ _ w0 a0 (lq.setIfInBounds 8 true) = K at hK ⊢
     clear hJ2 hS z1 z2 z3 z4 z6 z7
     go_simp
     exact hK _ _ z5 (fun _ _ h => h) rfl
   | 9, ho =>
     cases ho
     refine wpOp_of rfl rfl ?_
     have f4 : (aq.tmps.getD 36 undef) = Sp bx by_ := z6 4 36 (hall { on := 4, ground := Ground.data } (by simp) rfl) rfl
     have f8 : (aq.tmps.getD 40 undef) = Sp x y := z6 8 40 (hall { on := 8, ground := Ground.data } (by simp) rfl) rfl
     have hK := fun (v : Value) (W2 : World) hW hT hv => hJ2.put hS 9 41 rfl (by omega) (W' := W2) hW hT v hv
     clear ho hall hl hQ
     generalize InvQ _ _ _ w0 a0 (lq.setIfInBounds 9 true) = K at hK ⊢
     clear hJ2 hS z1 z2 z3 z4 z6 z7
     go_simp
     exact hK _ _ z5 (fun _ _ h => h) rfl
   | 10, ho =>
     cases ho
     refine wpOp_of rfl rfl ?_
     have f9 : (aq.tmps.getD 41 undef) = .bool false := z6 9 41 (hall { on := 9, ground := Ground.data } (by simp) rfl) rfl
     have hK := fun (v : Value) (W2 : World) hW hT hv => hJ2.put hS 10 42 rfl (by omega) (W' := W2) hW hT v hv
     clear ho hall hl hQ
     generalize InvQ _ _ _ w0 a0 (lq.setIfInBounds 10 true) = K at hK ⊢
     clear hJ2 hS z1 z2 z3 z4 z6 z7
     go_simp
     exact hK _ _ z5 (fun _ _ h => h) rfl
   | 11, ho =>
     cases ho
     have fg : aq.tmps.getD 42 undef = .bool false := z6 10 42 (hall { on := 10, ground := Ground.guard } (by simp) rfl) rfl
     refine wpOp_on rfl rfl rfl rfl fg ?_
     have hK := fun (v : Value) (W2 : World) hW hT hv => hJ2.put hS 11 43 rfl (by omega) (W' := W2) hW hT v hv
     clear ho hall hl hQ
     generalize InvQ _ _ _ w0 a0 (lq.setIfInBounds 11 true) = K at hK ⊢
     clear hJ2 hS z1 z2 z3 z4 z6 z7
     go_simp
     exact hK _ _ z5 (fun _ _ h => h) rfl
   | 12, ho =>
     cases ho
     have fg : aq.tmps.getD 42 undef = .bool false := z6 10 42 (hall { on := 10, ground := Ground.guard } (by simp) rfl) rfl
     refine wpOp_on rfl rfl rfl rfl fg ?_
     have f11 : (aq.tmps.getD 43 undef) = .pointer (some ⟨F, 2, none⟩) := z6 11 43 (hall { on := 11, ground := Ground.data } (by simp) rfl) rfl
     have hK := fun (v : Value) (W2 : World) hW hT hv => hJ2.put hS 12 44 rfl (by omega) (W' := W2) hW hT v hv
     clear ho hall hl hQ
     generalize InvQ _ _ _ w0 a0 (lq.setIfInBounds 12 true) = K at hK ⊢
     clear hJ2 hS z1 z2 z3 z4 z6 z7
     go_simp
     exact hK _ _ z5 (fun _ _ h => h) rfl
   | 13, ho =>
     cases ho
     have fg : aq.tmps.getD 42 undef = .bool false := z6 10 42 (hall { on := 10, ground := Ground.guard } (by simp) rfl) rfl
     refine wpOp_on rfl rfl rfl rfl fg ?_
     have hK := fun (v : Value) (W2 : World) hW hT hv => hJ2.put hS 13 45 rfl (by omega) (W' := W2) hW hT v hv
     clear ho hall hl hQ
     generalize InvQ _ _ _ w0 a0 (lq.setIfInBounds 13 true) = K at hK ⊢
     clear hJ2 hS z1 z2 z3 z4 z6 z7
     go_simp
     exact hK _ _ z5 (fun _ _ h => h) rfl
   | 14, ho =>
     cases ho
     have fg : aq.tmps.getD 42 undef = .bool false := z6 10 42 (hall { on := 10, ground := Ground.guard } (by simp) rfl) rfl
     refine wpOp_on rfl rfl rfl rfl fg ?_
     have f13 : (aq.tmps.getD 45 undef) = .pointer (some ⟨g, 0, none⟩) := z6 13 45 (hall { on := 13, ground := Ground.data } (by simp) rfl) rfl
     have hK := fun (v : Value) (W2 : World) hW hT hv => hJ2.put hS 14 46 rfl (by omega) (W' := W2) hW hT v hv
     clear ho hall hl hQ
     generalize InvQ _ _ _ w0 a0 (lq.setIfInBounds 14 true) = K at hK ⊢
     clear hJ2 hS z1 z2 z3 z4 z6 z7
     go_simp
     exact hK _ _ z5 (fun _ _ h => h) rfl
   | 15, ho =>
     cases ho
     have fg : aq.tmps.getD 42 undef = .bool false := z6 10 42 (hall { on := 10, ground := Ground.guard } (by simp) rfl) rfl
     refine wpOp_on rfl rfl rfl rfl fg ?_
     have f14 : (aq.tmps.getD 46 undef) = .pointer (some ⟨g, 0, none⟩) := z6 14 46 (hall { on := 14, ground := Ground.data } (by simp) rfl) rfl
     have hK := fun (v : Value) (W2 : World) hW hT hv => hJ2.put hS 15 47 rfl (by omega) (W' := W2) hW hT v hv
     clear ho hall hl hQ
     generalize InvQ _ _ _ w0 a0 (lq.setIfInBounds 15 true) = K at hK ⊢
     clear hJ2 hS z1 z2 z3 z4 z6 z7
     go_simp
     exact hK _ _ z5 (fun _ _ h => h) rfl
   | 16, ho =>
     cases ho
     have fg : aq.tmps.getD 42 undef = .bool false := z6 10 42 (hall { on := 10, ground := Ground.guard } (by simp) rfl) rfl
     refine wpOp_on rfl rfl rfl rfl fg ?_
     have f15 : (aq.tmps.getD 47 undef) = .pointer (some ⟨g, 2, none⟩) := z6 15 47 (hall { on := 15, ground := Ground.data } (by simp) rfl) rfl
     have hK := fun (v : Value) (W2 : World) hW hT hv => hJ2.put hS 16 48 rfl (by omega) (W' := W2) hW hT v hv
     clear ho hall hl hQ
     generalize InvQ _ _ _ w0 a0 (lq.setIfInBounds 16 true) = K at hK ⊢
     clear hJ2 hS z1 z2 z3 z4 z6 z7
     go_simp
     exact hK _ _ z5 (fun _ _ h => h) rfl
   | 17, ho =>
     cases ho
     have fg : aq.tmps.getD 42 undef = .bool false := z6 10 42 (hall { on := 10, ground := Ground.guard } (by simp) rfl) rfl
     refine wpOp_on rfl rfl rfl rfl fg ?_
     have f12 : (aq.tmps.getD 44 undef) = .int .i64 bz := z6 12 44 (hall { on := 12, ground := Ground.data } (by simp) rfl) rfl
     have f16 : (aq.tmps.getD 48 undef) = .int .i64 s := z6 16 48 (hall { on := 16, ground := Ground.data } (by simp) rfl) rfl
     have hK := fun (v : Value) (W2 : World) hW hT hv => hJ2.put hS 17 49 rfl (by omega) (W' := W2) hW hT v hv
     clear ho hall hl hQ
     generalize InvQ _ _ _ w0 a0 (lq.setIfInBounds 17 true) = K at hK ⊢
     clear hJ2 hS z1 z2 z3 z4 z6 z7
     go_simp
     exact hK _ _ z5 (fun _ _ h => h) (by show Value.bool _ = Value.bool _; congr 1; rw [Bool.eq_iff_iff]; simp)
   | 18, ho =>
     cases ho
     refine wpOp_of rfl rfl ?_
     have f10 : (aq.tmps.getD 42 undef) = .bool false := z6 10 42 (hall { on := 10, ground := Ground.data } (by simp) rfl) rfl
     have f17 : (aq.tmps.getD 49 undef) = .bool (decide (¬ (bz = s))) := z6 17 49 (hall { on := 17, ground := Ground.data } (by simp) rfl) rfl
     have hK := fun (v : Value) (W2 : World) hW hT hv => hJ2.put hS 18 50 rfl (by omega) (W' := W2) hW hT v hv
     clear ho hall hl hQ
     generalize InvQ _ _ _ w0 a0 (lq.setIfInBounds 18 true) = K at hK ⊢
     clear hJ2 hS z1 z2 z3 z4 z6 z7
     go_simp
     exact hK _ _ z5 (fun _ _ h => h) (by show Value.bool _ = Value.bool _; congr 1; rw [Bool.eq_iff_iff]; simp)
   | iq + 19, ho => simp at ho
 · intro lq aq W hJ hr
   obtain ⟨z1, z2, z3, z4, z5, z6, z7⟩ := hJ
   have hl := listed_of hr [0, 1, 2, 3, 4, 5, 6, 7, 8, 9, 10, 11, 12, 13, 14, 15, 16, 17, 18] [] (by simp) (by kernel_rfl) (by rw [z1]; decide)
   exact hQ aq W z2 z3 (fun e he => z4 e (by simpa using he)) (z6 18 50 (hl 18 (by simp)) rfl) z5
def VqrD (F g n ca m cb : Nat) (ao co : Option Addr) (ef ff : Nat → Int) (rv : Value) (_B : Nat) : Nat → Value → World → Prop
 | 0, v, _ => v = rv
 | 1, v, _ => v = .pointer (some ⟨F, 4, none⟩)
 | 2, v, _ => v = .slice ao n ca
 | 3, v, _ => v = .pointer (some ⟨g, 0, none⟩)
 | 4, v, _ => v = .pointer (some ⟨g, 0, none⟩)
 | 5, v, _ => v = .pointer (some ⟨g, 4, none⟩)
 | 6, v, _ => v = .slice co m cb
 | 7, v, _ => v = .bool (decide (n = m ∧ ∀ i, i < n → ef i = ff i))
 | 8, v, _ => v = rv
 | 9, v, _ => v = .bool (decide (n = m ∧ ∀ i, i < n → ef i = ff i))
 | _, _, _ => True
theorem VqrD.mono {F g n ca m cb : Nat} {ao co : Option Addr} {ef ff : Nat → Int} {rv : Value} {B j : Nat} {v : Value} {W W2 : World} (_hB : Below W.heap.size W W2) (h : VqrD F g n ca m cb ao co ef ff rv B j v W) : VqrD F g n ca m cb ao co ef ff rv B j v W2 := by
 unfold VqrD at *
 split <;> simp only at h <;> first | exact h | trivial
set_option maxRecDepth 100000 in
set_option maxHeartbeats 4000000 in
theorem qrD {Q : Exit → Act → World → Prop} {F g n ca m cb : Nat} {ao co : Option Addr} {ef ff : Nat → Int} {rv : Value}  {w0 : World} {a0 : Act} {idq : Nat} {t0 t1 t2 t3 t4 t5 t6 t7 t8 t9 : TypeId} {q0 q1 q2 q3 q4 q5 q6 q7 q8 q9 : String}
   (hn : n ≤ 1048576) (hA : NoIn w0 ao n ef) (hC : NoIn w0 co m ff) (h0 : a0.tmps[0]? = some (.pointer (some ⟨g, 0, none⟩))) (h10 : a0.tmps[10]? = some (.pointer (some ⟨F, 0, none⟩))) (h11 : a0.tmps[11]? = some (rv)) (k0 : w0.cell? ⟨F, 4, none⟩ = some (.slice ao n ca)) (l0 : (⟨F, 4, none⟩ : Addr).block < w0.heap.size) (k1 : w0.cell? ⟨g, 4, none⟩ = some (.slice co m cb)) (l1 : (⟨g, 4, none⟩ : Addr).block < w0.heap.size) (hz : a0.tmps.size = 98)
   (hQ : ∀ aq W, aq.tmps.size = a0.tmps.size → aq.defers = a0.defers → (∀ e, e ∉ ([57, 58, 59, 60, 61, 62, 63, 64, 8, 9] : List Nat) → aq.tmps[e]? = a0.tmps[e]?) → VqrD F g n ca m cb ao co ef ff rv w0.heap.size 8 (aq.tmps.getD 8 undef) W → VqrD F g n ca m cb ao co ef ff rv w0.heap.size 9 (aq.tmps.getD 9 undef) W → Below w0.heap.size w0 W → Q .normal aq W) :
   (Code.region idq #[{ dst := some 57, op := Op.move (Operand.tmp 11), type := t0, pos := q0, after := #[], guard := none },
   { dst := some 58, op := Op.fieldAddr 89 (Operand.tmp 10) 4, type := t1, pos := q1, after := #[], guard := none },
   { dst := some 59, op := Op.load 29 (Operand.tmp 58), type := t2, pos := q2, after := #[{ on := 1, ground := Ground.data }], guard := none },
   { dst := some 60, op := Op.move (Operand.tmp 0), type := t3, pos := q3, after := #[], guard := none },
   { dst := some 61, op := Op.nilCheck (Operand.tmp 60), type := t4, pos := q4, after := #[{ on := 3, ground := Ground.data }], guard := none },
   { dst := some 62, op := Op.fieldAddr 99 (Operand.tmp 61) 3, type := t5, pos := q5, after := #[{ on := 4, ground := Ground.data }], guard := none },
   { dst := some 63, op := Op.load 29 (Operand.tmp 62), type := t6, pos := q6, after := #[{ on := 5, ground := Ground.data }], guard := none },
   { dst := some 64, op := Op.call { callee := Callee.value (Operand.func 61), args := #[Operand.tmp 59, Operand.tmp 63], argTypes := #[29, 29] }, type := t7, pos := q7, after := #[{ on := 2, ground := Ground.data }, { on := 6, ground := Ground.data }], guard := none },
   { dst := some 8, op := Op.assign (Operand.tmp 57), type := t8, pos := q8, after := #[{ on := 0, ground := Ground.data }, { on := 7, ground := Ground.chain }, { on := 0, ground := Ground.phase }, { on := 1, ground := Ground.textOnly Departure.lateStores }, { on := 2, ground := Ground.textOnly Departure.lateStores }, { on := 3, ground := Ground.textOnly Departure.lateStores }, { on := 4, ground := Ground.textOnly Departure.lateStores }, { on := 5, ground := Ground.textOnly Departure.lateStores }, { on := 6, ground := Ground.textOnly Departure.lateStores }, { on := 7, ground := Ground.textOnly Departure.lateStoresUnsure }], guard := none },
   { dst := some 9, op := Op.assign (Operand.tmp 64), type := t9, pos := q9, after := #[{ on := 7, ground := Ground.data }, { on := 8, ground := Ground.chain }, { on := 0, ground := Ground.phase }, { on := 1, ground := Ground.phase }, { on := 2, ground := Ground.phase }, { on := 3, ground := Ground.phase }, { on := 4, ground := Ground.phase }, { on := 5, ground := Ground.phase }, { on := 6, ground := Ground.phase }, { on := 7, ground := Ground.phase }, { on := 8, ground := Ground.phase }], guard := none }] true).wp Try.prog Q a0 w0 := by
 have hS : distS [some 57, some 58, some 59, some 60, some 61, some 62, some 63, some 64, some 8, some 9] = true := rfl
 refine wp_region_q (by kernel_rfl) w0.heap.size [some 57, some 58, some 59, some 60, some 61, some 62, some 63, some 64, some 8, some 9] (VqrD F g n ca m cb ao co ef ff rv w0.heap.size) rfl ?_ ?_
 · intro Q lq aq W iq oq hJ hl ho hall
   have hJ2 := hJ
   obtain ⟨z1, z2, z3, z4, z5, z6, z7⟩ := hJ
   have g0 : aq.tmps.getD 0 undef = .pointer (some ⟨g, 0, none⟩) := by rw [Array.getD_eq_getD_getElem?, z4 0 (by decide), h0]; rfl
   have g10 : aq.tmps.getD 10 undef = .pointer (some ⟨F, 0, none⟩) := by rw [Array.getD_eq_getD_getElem?, z4 10 (by decide), h10]; rfl
   have g11 : aq.tmps.getD 11 undef = rv := by rw [Array.getD_eq_getD_getElem?, z4 11 (by decide), h11]; rfl
   have c0 : W.cell? ⟨F, 4, none⟩ = some (.slice ao n ca) := (z5.cell l0).trans k0
   have c1 : W.cell? ⟨g, 4, none⟩ = some (.slice co m cb) := (z5.cell l1).trans k1
   match iq, ho with
   | 0, ho =>
     cases ho
     refine wpOp_of rfl rfl ?_
     have hK := fun (v : Value) (W2 : World) hW hT hv => hJ2.put hS 0 57 rfl (by omega) (W' := W2) hW hT v hv
     clear ho hall hl hQ
     generalize InvQ _ _ _ w0 a0 (lq.setIfInBounds 0 true) = K at hK ⊢
     clear hJ2 hS z1 z2 z3 z4 z6 z7
     go_simp
     exact hK _ _ z5 (fun _ _ h => h) rfl
   | 1, ho =>
     cases ho
     refine wpOp_of rfl rfl ?_
     have hK := fun (v : Value) (W2 : World) hW hT hv => hJ2.put hS 1 58 rfl (by omega) (W' := W2) hW hT v hv
     clear ho hall hl hQ
     generalize InvQ _ _ _ w0 a0 (lq.setIfInBounds 1 true) = K at hK ⊢
     clear hJ2 hS z1 z2 z3 z4 z6 z7
     go_simp
     exact hK _ _ z5 (fun _ _ h => h) rfl
   | 2, ho =>
     cases ho
     refine wpOp_of rfl rfl ?_
     have f1 : (aq.tmps.getD 58 undef) = .pointer (some ⟨F, 4, none⟩) := z6 1 58 (hall { on := 1, ground := Ground.data } (by simp) rfl) rfl
     have hK := fun (v : Value) (W2 : World) hW hT hv => hJ2.put hS 2 59 rfl (by omega) (W' := W2) hW hT v hv
     clear ho hall hl hQ
     generalize InvQ _ _ _ w0 a0 (lq.setIfInBounds 2 true) = K at hK ⊢
     clear hJ2 hS z1 z2 z3 z4 z6 z7
     go_simp
     exact hK _ _ z5 (fun _ _ h => h) rfl
   | 3, ho =>
     cases ho
     refine wpOp_of rfl rfl ?_
     have hK := fun (v : Value) (W2 : World) hW hT hv => hJ2.put hS 3 60 rfl (by omega) (W' := W2) hW hT v hv
     clear ho hall hl hQ
     generalize InvQ _ _ _ w0 a0 (lq.setIfInBounds 3 true) = K at hK ⊢
     clear hJ2 hS z1 z2 z3 z4 z6 z7
     go_simp
     exact hK _ _ z5 (fun _ _ h => h) rfl
   | 4, ho =>
     cases ho
     refine wpOp_of rfl rfl ?_
     have f3 : (aq.tmps.getD 60 undef) = .pointer (some ⟨g, 0, none⟩) := z6 3 60 (hall { on := 3, ground := Ground.data } (by simp) rfl) rfl
     have hK := fun (v : Value) (W2 : World) hW hT hv => hJ2.put hS 4 61 rfl (by omega) (W' := W2) hW hT v hv
     clear ho hall hl hQ
     generalize InvQ _ _ _ w0 a0 (lq.setIfInBounds 4 true) = K at hK ⊢
     clear hJ2 hS z1 z2 z3 z4 z6 z7
     go_simp
     exact hK _ _ z5 (fun _ _ h => h) rfl
   | 5, ho =>
     cases ho
     refine wpOp_of rfl rfl ?_
     have f4 : (aq.tmps.getD 61 undef) = .pointer (some ⟨g, 0, none⟩) := z6 4 61 (hall { on := 4, ground := Ground.data } (by simp) rfl) rfl
     have hK := fun (v : Value) (W2 : World) hW hT hv => hJ2.put hS 5 62 rfl (by omega) (W' := W2) hW hT v hv
     clear ho hall hl hQ
     generalize InvQ _ _ _ w0 a0 (lq.setIfInBounds 5 true) = K at hK ⊢
     clear hJ2 hS z1 z2 z3 z4 z6 z7
     go_simp
     exact hK _ _ z5 (fun _ _ h => h) rfl
   | 6, ho =>
     cases ho
     refine wpOp_of rfl rfl ?_
     have f5 : (aq.tmps.getD 62 undef) = .pointer (some ⟨g, 4, none⟩) := z6 5 62 (hall { on := 5, ground := Ground.data } (by simp) rfl) rfl
     have hK := fun (v : Value) (W2 : World) hW hT hv => hJ2.put hS 6 63 rfl (by omega) (W' := W2) hW hT v hv
     clear ho hall hl hQ
     generalize InvQ _ _ _ w0 a0 (lq.setIfInBounds 6 true) = K at hK ⊢
     clear hJ2 hS z1 z2 z3 z4 z6 z7
     go_simp
     exact hK _ _ z5 (fun _ _ h => h) rfl
   | 7, ho =>
     cases ho
     refine wpOp_of rfl rfl ?_
     have f2 : (aq.tmps.getD 59 undef) = .slice ao n ca := z6 2 59 (hall { on := 2, ground := Ground.data } (by simp) rfl) rfl
     have f6 : (aq.tmps.getD 63 undef) = .slice co m cb := z6 6 63 (hall { on := 6, ground := Ground.data } (by simp) rfl) rfl
     have hK := fun (v : Value) (W2 : World) hW hT hv => hJ2.put hS 7 64 rfl (by omega) (W' := W2) hW hT v hv
     clear ho hall hl hQ
     generalize InvQ _ _ _ w0 a0 (lq.setIfInBounds 7 true) = K at hK ⊢
     clear hJ2 hS z1 z2 z3 z4 z6 z7
     go_simp
     refine (equalNo_any ao co n ca m cb ef ff hn W (hA.step z5) (hC.step z5)).mono ?_
     rintro e v1 ⟨rfl, hBv⟩
     exact hK _ _ (z5.trans (hBv.mono z5.size)) (fun j v h => h.mono hBv) rfl
   | 8, ho =>
     cases ho
     refine wpOp_of rfl rfl ?_
     have f0 : (aq.tmps.getD 57 undef) = rv := z6 0 57 (hall { on := 0, ground := Ground.data } (by simp) rfl) rfl
     have hK := fun (v : Value) (W2 : World) hW hT hv => hJ2.put hS 8 8 rfl (by omega) (W' := W2) hW hT v hv
     clear ho hall hl hQ
     generalize InvQ _ _ _ w0 a0 (lq.setIfInBounds 8 true) = K at hK ⊢
     clear hJ2 hS z1 z2 z3 z4 z6 z7
     go_simp
     exact hK _ _ z5 (fun _ _ h => h) rfl
   | 9, ho =>
     cases ho
     refine wpOp_of rfl rfl ?_
     have f7 : (aq.tmps.getD 64 undef) = .bool (decide (n = m ∧ ∀ i, i < n → ef i = ff i)) := z6 7 64 (hall { on := 7, ground := Ground.data } (by simp) rfl) rfl
     have hK := fun (v : Value) (W2 : World) hW hT hv => hJ2.put hS 9 9 rfl (by omega) (W' := W2) hW hT v hv
     clear ho hall hl hQ
     generalize InvQ _ _ _ w0 a0 (lq.setIfInBounds 9 true) = K at hK ⊢
     clear hJ2 hS z1 z2 z3 z4 z6 z7
     go_simp
     exact hK _ _ z5 (fun _ _ h => h) (by show Value.bool _ = Value.bool _; congr 1; rw [Bool.eq_iff_iff]; simp)
   | iq + 10, ho => simp at ho
 · intro lq aq W hJ hr
   obtain ⟨z1, z2, z3, z4, z5, z6, z7⟩ := hJ
   have hl := listed_of hr [0, 1, 2, 3, 4, 5, 6, 7, 8, 9] [] (by simp) (by kernel_rfl) (by rw [z1]; decide)
   exact hQ aq W z2 z3 (fun e he => z4 e (by simpa using he)) (z6 8 8 (hl 8 (by simp)) rfl) (z6 9 9 (hl 9 (by simp)) rfl) z5
theorem ownQ_heap {w w' : World} {base n : Nat} {e : TypeId} {size : Nat} {v : Value} {xs : List Value} (h : w.ownsRow base e size v n xs) (hh : ∀ k, v.ownBlock = some k → w'.heap[k]? = w.heap[k]?) : w'.ownsRow base e size v n xs := by
 rcases h with ⟨h0, h1 | ⟨g, cap, cur, h1, h2, h3, h4⟩⟩
 · exact ⟨h0, .inl h1⟩
 · refine ⟨h0, .inr ⟨g, cap, cur, h1, h2, ?_, h4⟩⟩
   rw [hh g (by subst h1; rfl)]
   exact h3
theorem ownQ_form {w : World} {base n : Nat} {e : TypeId} {size : Nat} {v : Value} {xs : List Value} (h : w.ownsRow base e size v n xs) (hn : 0 < n) : ∃ g cap, v = .slice (some ⟨g, 0, none⟩) n cap ∧ base ≤ g ∧ g < w.heap.size ∧ n ≤ cap ∧ cap ≤ maxLen := by
 rcases h.2 with ⟨h1, h0⟩ | ⟨g, cap, cur, h1, h2, h3, h4, h5, _⟩
 · omega
 · exact ⟨g, cap, h1, h2, (Array.getElem?_eq_some_iff.1 h3).1, h4, h5⟩
theorem ownQ_slice {w : World} {base n : Nat} {e : TypeId} {size : Nat} {v : Value} {xs : List Value} (h : w.ownsRow base e size v n xs) : ∃ ao cap, v = .slice ao n cap := by
 rcases h.2 with ⟨h1, h0⟩ | ⟨g, cap, cur, h1, _⟩
 · subst h0; exact ⟨none, 0, h1⟩
 · exact ⟨_, cap, h1⟩
theorem ownQ_cell {w : World} {base g n cap : Nat} {e : TypeId} {size : Nat} {xs : List Value} (h : w.ownsRow base e size (.slice (some ⟨g, 0, none⟩) n cap) n xs) {i : Nat} {v : Value} (hi : xs[i]? = some v) : w.cell? ⟨g, i, none⟩ = some v ∧ w.frozen? ⟨g, i, none⟩ = false := by
 refine ⟨?_, ?_⟩
 · have h1 := h.cells rfl i v hi
   rw [Addr.add_lit, Nat.zero_add] at h1
   exact h1
 · rcases h.2 with ⟨h', _⟩ | ⟨g', cap', cur, h', _, hg, _⟩
   · cases h'
   · cases h'
     simp [World.frozen?, hg]
inductive QT where
 | leaf (l : List Int)
 | node (k : Nat → QT)
def trQ (Q : QD) : Nat → Nat → Int → Int → Int → QT
 | 0, at_, _, _, _ => .leaf (blL Q at_)
 | d + 1, at_, x, y, s => if Q.T at_ = true then .node (fun k => trQ Q d ((kp (fun a x y => mrd Q d a x y (s / 2)) (at_ + 1) x y (s / 2) k).getD 0) (kX x (s / 2) k) (kY y (s / 2) k) (s / 2)) else .leaf (blL Q at_)
def IdV (ok : Nat → Prop) (w : World) (v : Value) (l : List Int) : Prop := ∃ ao c, v = .slice ao l.length c ∧ NoIn w ao l.length (fun i => l.getD i 0) ∧ (ao = none → c = 0) ∧ ∀ A o sp, ao = some ⟨A, o, sp⟩ → ok A ∧ A < w.heap.size
theorem IdV.keep {ok ok' : Nat → Prop} {w w' : World} {v : Value} {l : List Int} (h : IdV ok w v l) (hs : w.heap.size ≤ w'.heap.size) (hk : ∀ b, ok b → b < w.heap.size → w'.heap[b]? = w.heap[b]?) (ho : ∀ b, ok b → b < w.heap.size → ok' b) : IdV ok' w' v l := by
 obtain ⟨ao, c, h1, h2, h3, h4⟩ := h
 refine ⟨ao, c, h1, fun i hi => ?_, h3, fun A o sp e => ⟨ho A (h4 A o sp e).1 (h4 A o sp e).2, Nat.lt_of_lt_of_le (h4 A o sp e).2 hs⟩⟩
 obtain ⟨A, o, e, hA, hc⟩ := h2 i hi
 exact ⟨A, o, e, Nat.lt_of_lt_of_le hA hs, (World.cell?_of_block (w := w) (a := ⟨A, o + i, none⟩) (hk A (h4 A o none e).1 hA)).trans hc⟩
theorem IdV.step {ok : Nat → Prop} {w w' : World} {v : Value} {l : List Int} (h : IdV ok w v l) (hB : Below w.heap.size w w') : IdV ok w' v l := h.keep hB.size (fun b _ hb => hB.block b hb) (fun _ h _ => h)
theorem IdV.below {ok : Nat → Prop} {w w' : World} {B : Nat} {v : Value} {l : List Int} (h : IdV ok w v l) (hB : Below B w w') (hb : ∀ b, ok b → b < B) : IdV ok w' v l := h.keep hB.size (fun b h1 _ => hB.block b (hb b h1)) (fun _ h _ => h)
theorem IdV.of {w : World} {base : Nat} {v : Value} {l : List Int} (h : w.ownsRow base 2 1 v l.length (l.map (Value.int .i64))) : IdV (fun b => base ≤ b) w v l := by
 rcases h.2 with ⟨h1, h2⟩ | ⟨g, cap, cur, h1, h2, h3, h4⟩
 · have hl : l = [] := List.eq_nil_of_length_eq_zero h2
   subst hl
   exact ⟨none, 0, h1, fun i hi => absurd hi (by simp), fun _ => rfl, fun A o sp e => by cases e⟩
 · subst h1
   refine ⟨_, cap, rfl, fun i hi => ⟨g, 0, rfl, (Array.getElem?_eq_some_iff.1 h3).1, ?_⟩, (fun e => by cases e), (fun A o sp e => by cases e; exact ⟨h2, (Array.getElem?_eq_some_iff.1 h3).1⟩)⟩
   rw [Nat.zero_add]
   refine (ownQ_cell h ?_).1
   rw [List.getElem?_map, List.getElem?_eq_getElem hi]
   simp [List.getD_eq_getElem?_getD, hi]
def PTr (ok : Nat → Prop) (w : World) : QT → Int → Int → Int → Int → Nat → Prop
 | .leaf l, x, y, s, lv, g => ok g ∧ ∃ iv, BkB w g x y s lv iv (.slice none 0 0) ∧ IdV ok w iv l
 | .node K, x, y, s, lv, g => ok g ∧ ∃ (A kc : Nat) (gs : Nat → Nat), BkB w g x y s lv (.slice none 0 0) (.slice (some ⟨A, 0, none⟩) 4 kc) ∧ A < w.heap.size ∧ ok A ∧ ∀ k, k < 4 → w.cell? ⟨A, k, none⟩ = some (.pointer (some ⟨gs k, 0, none⟩)) ∧ PTr ok w (K k) (kX x (s / 2) k) (kY y (s / 2) k) (s / 2) (lv + 1) (gs k)
def IdS (ok : Nat → Prop) (w : World) (v : Value) (l : List Int) : Prop := w.ownsRow 0 2 1 v l.length (l.map (Value.int .i64)) ∧ ∀ b, v.ownBlock = some b → ok b
theorem IdS.keep {ok ok' : Nat → Prop} {w w' : World} {v : Value} {l : List Int} (h : IdS ok w v l) (hk : ∀ b, ok b → b < w.heap.size → w'.heap[b]? = w.heap[b]?) (ho : ∀ b, ok b → b < w.heap.size → ok' b) : IdS ok' w' v l :=
 ⟨ownQ_heap h.1 (fun k e => hk k (h.2 k e) (h.1.lt k e).2), fun b e => ho b (h.2 b e) (h.1.lt b e).2⟩
theorem IdS.toV {ok : Nat → Prop} {w : World} {v : Value} {l : List Int} (h : IdS ok w v l) : IdV ok w v l := by
 obtain ⟨ao, c, h1, h2, h3, h4⟩ := IdV.of h.1
 exact ⟨ao, c, h1, h2, h3, fun A o sp e => ⟨h.2 A (by subst e; rw [h1]; rfl), (h4 A o sp e).2⟩⟩
def STr (ok : Nat → Prop) (w : World) : QT → Int → Int → Int → Int → Nat → Prop
 | .leaf l, x, y, s, lv, g => ok g ∧ ∃ iv, BkB w g x y s lv iv (.slice none 0 0) ∧ IdS (fun b => ok b ∧ b ≠ g) w iv l
 | .node K, x, y, s, lv, g => ok g ∧ ∃ (A kc : Nat) (gs : Nat → Nat) (oks : Nat → Nat → Prop), BkB w g x y s lv (.slice none 0 0) (.slice (some ⟨A, 0, none⟩) 4 kc) ∧ A < w.heap.size ∧ ok A ∧ A ≠ g ∧ (∀ k b, k < 4 → oks k b → ok b ∧ b ≠ g ∧ b ≠ A) ∧ (∀ i j b, i < 4 → j < 4 → i ≠ j → oks i b → ¬ oks j b) ∧ ∀ k, k < 4 → w.cell? ⟨A, k, none⟩ = some (.pointer (some ⟨gs k, 0, none⟩)) ∧ STr (oks k) w (K k) (kX x (s / 2) k) (kY y (s / 2) k) (s / 2) (lv + 1) (gs k)
def okB (g c b : Nat) : Prop := b = g ∨ c ≤ b
theorem Blk.keep {w w' : World} {g : Nat} {vs : List Value} (h : Blk w g vs) (hs : w.heap.size ≤ w'.heap.size) (hk : w'.heap[g]? = w.heap[g]?) : Blk w' g vs :=
 ⟨Nat.lt_of_lt_of_le h.lt hs, fun i _ hi => ⟨(World.cell?_of_block (w := w) (a := ⟨g, i, none⟩) hk).trans (h.c i hi), (World.frozen?_of_block (w := w) (a := ⟨g, i, none⟩) hk).trans (h.f i hi)⟩⟩
theorem PTr.keep {ok ok' : Nat → Prop} {w w' : World} (hs : w.heap.size ≤ w'.heap.size) (hk : ∀ b, ok b → b < w.heap.size → w'.heap[b]? = w.heap[b]?) (ho : ∀ b, ok b → b < w.heap.size → ok' b) : ∀ {t : QT} {x y s lv : Int} {g : Nat}, PTr ok w t x y s lv g → PTr ok' w' t x y s lv g
 | .leaf _, _, _, _, _, _, h => by
   obtain ⟨h1, iv, h2, h3⟩ := h
   exact ⟨ho _ h1 h2.lt, iv, h2.keep hs (hk _ h1 h2.lt), h3.keep hs hk ho⟩
 | .node K, _, _, _, _, _, h => by
   obtain ⟨h1, A, kc, gs, h2, hA, hoA, h3⟩ := h
   refine ⟨ho _ h1 h2.lt, A, kc, gs, h2.keep hs (hk _ h1 h2.lt), Nat.lt_of_lt_of_le hA hs, ho A hoA hA, fun k hk4 => ?_⟩
   obtain ⟨c0, h4⟩ := h3 k hk4
   exact ⟨(World.cell?_of_block (w := w) (a := ⟨A, k, none⟩) (hk A hoA hA)).trans c0, PTr.keep hs hk ho (t := K k) h4⟩
theorem PTr.step {ok : Nat → Prop} {w w' : World} (hB : Below w.heap.size w w') {t : QT} {x y s lv : Int} {g : Nat} (h : PTr ok w t x y s lv g) : PTr ok w' t x y s lv g := PTr.keep hB.size (fun b _ hb => hB.block b hb) (fun _ h _ => h) h
theorem STr.keep {ok ok' : Nat → Prop} {w w' : World} (hs : w.heap.size ≤ w'.heap.size) (hk : ∀ b, ok b → b < w.heap.size → w'.heap[b]? = w.heap[b]?) (ho : ∀ b, ok b → b < w.heap.size → ok' b) : ∀ {t : QT} {x y s lv : Int} {g : Nat}, STr ok w t x y s lv g → STr ok' w' t x y s lv g
 | .leaf _, _, _, _, _, _, h => by
   obtain ⟨h1, iv, h2, h3⟩ := h
   exact ⟨ho _ h1 h2.lt, iv, h2.keep hs (hk _ h1 h2.lt), h3.keep (fun b hb => hk b hb.1) (fun b hb hl => ⟨ho b hb.1 hl, hb.2⟩)⟩
 | .node K, _, _, _, _, _, h => by
   obtain ⟨h1, A, kc, gs, oks, h2, hA, hoA, hAg, hin, hap, h3⟩ := h
   refine ⟨ho _ h1 h2.lt, A, kc, gs, fun k b => oks k b ∧ b < w.heap.size, h2.keep hs (hk _ h1 h2.lt), Nat.lt_of_lt_of_le hA hs, ho A hoA hA, hAg, fun k b hk4 hb => ?_, fun i j b hi hj hne hb hb2 => hap i j b hi hj hne hb.1 hb2.1, fun k hk4 => ?_⟩
   · obtain ⟨a1, a2⟩ := hin k b hk4 hb.1
     exact ⟨ho b a1 hb.2, a2⟩
   · obtain ⟨c0, h4⟩ := h3 k hk4
     exact ⟨(World.cell?_of_block (w := w) (a := ⟨A, k, none⟩) (hk A hoA hA)).trans c0, STr.keep hs (fun b hb hl => hk b (hin k b hk4 hb).1 hl) (fun b hb hl => ⟨hb, hl⟩) (t := K k) h4⟩
theorem STr.step {ok : Nat → Prop} {w w' : World} (hB : Below w.heap.size w w') {t : QT} {x y s lv : Int} {g : Nat} (h : STr ok w t x y s lv g) : STr ok w' t x y s lv g := STr.keep hB.size (fun b _ hb => hB.block b hb) (fun _ h _ => h) h
theorem STr.toP {w : World} : ∀ {t : QT} {ok : Nat → Prop} {x y s lv : Int} {g : Nat}, STr ok w t x y s lv g → PTr ok w t x y s lv g
 | .leaf _, _, _, _, _, _, _, h => by
   obtain ⟨h1, iv, h2, h3⟩ := h
   exact ⟨h1, iv, h2, (IdS.toV h3).keep (Nat.le_refl _) (fun _ _ _ => rfl) (fun b hb _ => hb.1)⟩
 | .node K, _, _, _, _, _, _, h => by
   obtain ⟨h1, A, kc, gs, oks, h2, hA, hoA, hAg, hin, hap, h3⟩ := h
   refine ⟨h1, A, kc, gs, h2, hA, hoA, fun k hk4 => ?_⟩
   obtain ⟨c0, h4⟩ := h3 k hk4
   exact ⟨c0, PTr.keep (Nat.le_refl _) (fun _ _ _ => rfl) (fun b hb _ => (hin k b hk4 hb).1) (STr.toP (t := K k) h4)⟩
end Go.Proofs.Ythelolpogdcmhaa
