/- Part 9 of the walks that the proof leans on. -/
import Derived.Test.YthelolpogdcmhaaPart7
import Derived.Test.YthelolpogdcmhaaPart8
import Derived.Test.YthelolpogdcmhaaPart4
namespace Go.Proofs.Ythelolpogdcmhaa
open Go.RowKit
def RdM (Q : QD) (d at_ : Nat) (x y s : Int) (w : World) (r : Ending) (w' : World) : Prop :=
 Below w.heap.size w w' ∧ ((mrd Q d at_ x y s = none ∧ r = .returned (.tuple #[.agg #[.int .i64 0, .int .i64 0, .int .i64 0, .slice none 0 0, .slice none 0 0], .int .i64 0, .bool false])) ∨ ∃ e kv ev, mrd Q d at_ x y s = some e ∧ r = .returned (.tuple #[.agg #[.int .i64 x, .int .i64 y, .int .i64 s, kv, ev], .int .i64 (e : Int), .bool true]) ∧ MTr (fun b => w.heap.size ≤ b) w' (trQ Q d at_ x y s) x y s kv ev)
theorem mrd_no {Q : QD} {d at_ : Nat} {x y s : Int} (h : baseB Q at_ x y s = false) : mrd Q d at_ x y s = none := by
 cases d with
 | zero => unfold mrd; rw [if_neg (fun e => by rw [h] at e; cases e.1)]
 | succ d => unfold mrd; rw [if_neg (by rw [h]; decide)]
theorem mrd_leaf {Q : QD} {d at_ : Nat} {x y s : Int} (h : baseB Q at_ x y s = true) (hT : Q.T at_ = false) : mrd Q d at_ x y s = some (at_ + 1) := by
 cases d with
 | zero => unfold mrd; rw [if_pos ⟨h, hT⟩]
 | succ d => unfold mrd; rw [if_pos h, if_neg (by rw [hT]; decide)]
theorem trQ_leaf {Q : QD} {d at_ : Nat} {x y s : Int} (hT : Q.T at_ = false) : trQ Q d at_ x y s = .leaf (blL Q at_) := by
 cases d with
 | zero => rfl
 | succ d => unfold trQ; rw [if_neg (by rw [hT]; decide)]
theorem mrd_zero {Q : QD} {at_ : Nat} {x y s : Int} (hT : Q.T at_ = true) : mrd Q 0 at_ x y s = none := by
 unfold mrd; rw [if_neg (fun e => by rw [hT] at e; cases e.2)]
theorem mrd_full {Q : QD} {d at_ : Nat} {x y s : Int} (hT : Q.T at_ = true) (hL : Q.L at_ ≠ 0) : mrd Q d at_ x y s = none := by
 cases d with
 | zero => exact mrd_zero hT
 | succ d =>
   rw [show mrd Q (d + 1) at_ x y s = if baseB Q at_ x y s = true then (if Q.T at_ = true then (if Q.L at_ = 0 then kp (fun a x y => mrd Q d a x y (s / 2)) (at_ + 1) x y (s / 2) 4 else none) else some (at_ + 1)) else none from rfl, if_pos hT, if_neg hL]
   split <;> rfl
theorem mrd_split {Q : QD} {d at_ : Nat} {x y s : Int} (h : baseB Q at_ x y s = true) (hT : Q.T at_ = true) (hL : Q.L at_ = 0) : mrd Q (d + 1) at_ x y s = kp (fun a x y => mrd Q d a x y (s / 2)) (at_ + 1) x y (s / 2) 4 := by
 rw [show mrd Q (d + 1) at_ x y s = if baseB Q at_ x y s = true then (if Q.T at_ = true then (if Q.L at_ = 0 then kp (fun a x y => mrd Q d a x y (s / 2)) (at_ + 1) x y (s / 2) 4 else none) else some (at_ + 1)) else none from rfl, if_pos h, if_pos hT, if_pos hL]
theorem blL_len (Q : QD) (at_ : Nat) : (blL Q at_).length = Q.L at_ := by simp [blL]
theorem blL_at {Q : QD} {at_ i : Nat} (h : i < Q.L at_) : (blL Q at_).getD i 0 = Q.E at_ i := by simp [blL, List.getD_eq_getElem?_getD, h]
theorem mrd_le {Q : QD} : ∀ {d at_ : Nat} {x y s : Int} {e : Nat}, mrd Q d at_ x y s = some e → at_ < e ∧ e ≤ Q.N
 | d, at_, x, y, s, e, h => by
   have hb : baseB Q at_ x y s = true := by
     cases hb : baseB Q at_ x y s with
     | true => rfl
     | false => rw [mrd_no hb] at h; cases h
   have hat : at_ < Q.N := (of_decide_eq_true hb).1
   cases hT : Q.T at_ with
   | false => rw [mrd_leaf hb hT] at h; cases h; omega
   | true =>
     cases d with
     | zero => rw [mrd_zero hT] at h; cases h
     | succ d =>
       by_cases hL : Q.L at_ = 0
       · rw [mrd_split hb hT hL] at h
         have hk : ∀ k a, kp (fun a x y => mrd Q d a x y (s / 2)) (at_ + 1) x y (s / 2) k = some a → at_ < a ∧ a ≤ Q.N := by
           intro k
           induction k with
           | zero => intro a h0; cases h0; omega
           | succ k ih =>
             intro a h0
             obtain ⟨b, h1, h2⟩ := Option.bind_eq_some_iff.1 h0
             have := ih b h1
             have := mrd_le h2
             omega
         exact hk 4 e h
       · rw [mrd_full hT hL] at h; cases h
theorem z5_other {w : World} {v0 v1 v2 v3 v4 : Value} {g b : Nat} (hb : b ≠ g) : (((((w.setCell ⟨g, 0, none⟩ (v0)).setCell ⟨g, 1, none⟩ (v1)).setCell ⟨g, 2, none⟩ (v2)).setCell ⟨g, 3, none⟩ (v3)).setCell ⟨g, 4, none⟩ (v4)).heap[b]? = w.heap[b]? :=
 (Below.heap_setCell _ _ _ _ hb).trans ((Below.heap_setCell _ _ _ _ hb).trans ((Below.heap_setCell _ _ _ _ hb).trans ((Below.heap_setCell _ _ _ _ hb).trans (Below.heap_setCell _ _ _ _ hb))))
theorem z5_set {W : World} {g : Nat} (B : Blk W g [.int .i64 0, .int .i64 0, .int .i64 0, .slice none 0 0, .slice none 0 0]) : Hid (Blk (((((W.setCell ⟨g, 0, none⟩ (.int .i64 0)).setCell ⟨g, 1, none⟩ (.int .i64 0)).setCell ⟨g, 2, none⟩ (.int .i64 0)).setCell ⟨g, 3, none⟩ (.slice none 0 0)).setCell ⟨g, 4, none⟩ (.slice none 0 0)) g [.int .i64 0, .int .i64 0, .int .i64 0, .slice none 0 0, .slice none 0 0]) :=
 ((((B.setI 0 (by decide) _).setI 1 (by simp) _).setI 2 (by simp) _).setI 3 (by simp) _).setI 4 (by simp) _
theorem Try.infoB13 : (Try.prog.info? 48).map (fun i => (i.zero, i.size, i.bytes)) = some (some (.agg #[.int .i64 0, .int .i64 0, .int .i64 0, .slice none 0 0, .slice none 0 0]), 5, 72) := by kernel_rfl
theorem info_b13 : ∃ i0, Try.prog.info? 48 = some i0 ∧ i0.zero = some (.agg #[.int .i64 0, .int .i64 0, .int .i64 0, .slice none 0 0, .slice none 0 0]) ∧ i0.size = 5 ∧ i0.bytes = 72 := by
 obtain ⟨i, hi, hz⟩ := Option.map_eq_some_iff.1 Try.infoB13
 simp only [Prod.mk.injEq] at hz
 exact ⟨i, hi, hz.1, hz.2.1, hz.2.2⟩
set_option maxRecDepth 100000 in
set_option maxHeartbeats 16000000 in
theorem l13Read_base (Q : QD) (bo : Option Addr) (bcap A off : Nat) (so : Nat → Option Addr × Nat) (wb : World) (hN : Q.N ≤ 1048576) (hLb : ∀ i, i < Q.N → Q.L i ≤ 1048576) (hbo : 0 < Q.N → bo = some ⟨A, off, none⟩) (hso : ∀ i, i < Q.N → (so i).1 = none → (so i).2 = 0) (hBl : BlIn Q wb A off so) (d at_ : Nat) (x y s : Int) (w : World) (hd8 : d ≤ 8) (hatN : at_ ≤ Q.N) (hcase : ¬ (baseB Q at_ x y s = true ∧ Q.T at_ = true ∧ 0 < d ∧ Q.L at_ = 0)) (HB : Below wb.heap.size wb w) : Calls Try.prog 34 #[.slice bo Q.N bcap, .int .i64 (at_ : Int), .int .i64 x, .int .i64 y, .int .i64 s, .int .i64 (d : Int)] w (RdM Q d at_ x y s w) := by
 have hatI : (at_ : Int) ≤ 1048576 := by omega
 have hdI : (d : Int) ≤ 8 := by omega
 by_cases hat : at_ < Q.N
 rotate_left
 · have h1 : (Q.N : Int) ≤ at_ := by omega
   have HBA : Below w.heap.size w (w.alloc (.cells #[.int .i64 0, .int .i64 0, .int .i64 0, .slice none 0 0, .slice none 0 0] 48)) := (Below.refl _ w).alloc (Nat.le_refl _) _
   clear hBl
   go_enter Try.func34, Try.ntmps34
   go_wp2
   refine bodyPost_ret (v := .tuple #[.agg #[.int .i64 0, .int .i64 0, .int .i64 0, .slice none 0 0, .slice none 0 0], .int .i64 0, .bool false]) (by simp [results, Try.results34, go_sem]) rfl ?_
   exact ⟨HBA, .inl ⟨mrd_no (decide_eq_false (fun h => hat h.1)), rfl⟩⟩
 have HBl : Hid (BlIn Q wb A off so) := hBl
 obtain rfl := hbo (by omega)
 obtain ⟨hA, c0, c1, c2, c3, c4, hNo⟩ := hBl.below HB at_ hat
 have B0 : Blk (w.alloc (.cells #[.int .i64 0, .int .i64 0, .int .i64 0, .slice none 0 0, .slice none 0 0] 48)) w.heap.size [.int .i64 0, .int .i64 0, .int .i64 0, .slice none 0 0, .slice none 0 0] := Blk.new w [.int .i64 0, .int .i64 0, .int .i64 0, .slice none 0 0, .slice none 0 0] 48 rfl
 have HBA : Below w.heap.size w (w.alloc (.cells #[.int .i64 0, .int .i64 0, .int .i64 0, .slice none 0 0, .slice none 0 0] 48)) := (Below.refl _ w).alloc (Nat.le_refl _) _
 have hcI : (at_ : Int) < Q.N := by omega
 have HI : NoIn w (so at_).1 (blL Q at_).length (fun i => (blL Q at_).getD i 0) := (fun i hi => by rw [blL_len] at hi; obtain ⟨A1, o1, e1, h1, h2⟩ := hNo i hi; exact ⟨A1, o1, e1, h1, by show _ = some (Value.int _ ((blL Q at_).getD i 0)); rw [h2, blL_at hi]⟩)
 clear hNo
 go_enter Try.func34, Try.ntmps34
 go_upto_region 4 with fail
 replace B0 := B0.alloc (.cells #[.int .i64 (Q.X at_), .int .i64 (Q.Y at_), .int .i64 (Q.Z at_), .bool (Q.T at_), .slice (so at_).1 (Q.L at_) (so at_).2] 89)
 have B1 : Blk ((w.alloc (.cells #[.int .i64 0, .int .i64 0, .int .i64 0, .slice none 0 0, .slice none 0 0] 48)).alloc (.cells #[.int .i64 (Q.X at_), .int .i64 (Q.Y at_), .int .i64 (Q.Z at_), .bool (Q.T at_), .slice (so at_).1 (Q.L at_) (so at_).2] 89)) (w.heap.size + 1) [.int .i64 (Q.X at_), .int .i64 (Q.Y at_), .int .i64 (Q.Z at_), .bool (Q.T at_), .slice (so at_).1 (Q.L at_) (so at_).2] := Blk.new (w.alloc (.cells #[.int .i64 0, .int .i64 0, .int .i64 0, .slice none 0 0, .slice none 0 0] 48)) [.int .i64 (Q.X at_), .int .i64 (Q.Y at_), .int .i64 (Q.Z at_), .bool (Q.T at_), .slice (so at_).1 (Q.L at_) (so at_).2] 89 (by simp)
 replace HBA := HBA.alloc (by simp) (.cells #[.int .i64 (Q.X at_), .int .i64 (Q.Y at_), .int .i64 (Q.Z at_), .bool (Q.T at_), .slice (so at_).1 (Q.L at_) (so at_).2] 89)
 have hsz : Hid (((w.alloc (.cells #[.int .i64 0, .int .i64 0, .int .i64 0, .slice none 0 0, .slice none 0 0] 48)).alloc (.cells #[.int .i64 (Q.X at_), .int .i64 (Q.Y at_), .int .i64 (Q.Z at_), .bool (Q.T at_), .slice (so at_).1 (Q.L at_) (so at_).2] 89)).heap.size = w.heap.size + 2) := by show _ = _; simp
 replace HI := HI.step HBA
 clear c0 c1 c2 c3 c4
 generalize ((w.alloc (.cells #[.int .i64 0, .int .i64 0, .int .i64 0, .slice none 0 0, .slice none 0 0] 48)).alloc (.cells #[.int .i64 (Q.X at_), .int .i64 (Q.Y at_), .int .i64 (Q.Z at_), .bool (Q.T at_), .slice (so at_).1 (Q.L at_) (so at_).2] 89)) = W1 at *
 have hL8 := hLb at_ hat
 by_cases hX : Q.X at_ = x
 rotate_left
 · have hXe : (Q.X at_ == x) = false := by simpa using hX
   have z0 := B0.c 0 rfl; have y0 := B0.f 0 rfl; have z1 := B0.c 1 rfl; have y1 := B0.f 1 rfl; have z2 := B0.c 2 rfl; have y2 := B0.f 2 rfl; have z3 := B0.c 3 rfl; have y3 := B0.f 3 rfl; have z4 := B0.c 4 rfl; have y4 := B0.f 4 rfl; have m0 := B1.c 0 rfl; have m1 := B1.c 1 rfl; have m2 := B1.c 2 rfl; have m3 := B1.c 3 rfl; have m4 := B1.c 4 rfl
   have BF := z5_set B0
   clear B0 B1 HI HBl
   go_wp2
   have r0 := BF.out.c 0 rfl; have r1 := BF.out.c 1 rfl; have r2 := BF.out.c 2 rfl; have r3 := BF.out.c 3 rfl; have r4 := BF.out.c 4 rfl
   refine bodyPost_ret (v := .tuple #[.agg #[.int .i64 0, .int .i64 0, .int .i64 0, .slice none 0 0, .slice none 0 0], .int .i64 0, .bool false]) (by simp [results, Try.results34, go_sem, r0, r1, r2, r3, r4]) rfl ?_
   exact ⟨(((((Below.setCell HBA (Nat.le_refl _) _).setCell (Nat.le_refl _) _).setCell (Nat.le_refl _) _).setCell (Nat.le_refl _) _).setCell (Nat.le_refl _) _), .inl ⟨mrd_no (decide_eq_false (fun h => hX h.2.1)), rfl⟩⟩
 by_cases hY : Q.Y at_ = y
 rotate_left
 · have hYe : (Q.Y at_ == y) = false := by simpa using hY
   have z0 := B0.c 0 rfl; have y0 := B0.f 0 rfl; have z1 := B0.c 1 rfl; have y1 := B0.f 1 rfl; have z2 := B0.c 2 rfl; have y2 := B0.f 2 rfl; have z3 := B0.c 3 rfl; have y3 := B0.f 3 rfl; have z4 := B0.c 4 rfl; have y4 := B0.f 4 rfl; have m0 := B1.c 0 rfl; have m1 := B1.c 1 rfl; have m2 := B1.c 2 rfl; have m3 := B1.c 3 rfl; have m4 := B1.c 4 rfl
   rw [hX] at m0
   have BF := z5_set B0
   clear B0 B1 HI HBl
   go_wp2
   have r0 := BF.out.c 0 rfl; have r1 := BF.out.c 1 rfl; have r2 := BF.out.c 2 rfl; have r3 := BF.out.c 3 rfl; have r4 := BF.out.c 4 rfl
   refine bodyPost_ret (v := .tuple #[.agg #[.int .i64 0, .int .i64 0, .int .i64 0, .slice none 0 0, .slice none 0 0], .int .i64 0, .bool false]) (by simp [results, Try.results34, go_sem, r0, r1, r2, r3, r4]) rfl ?_
   exact ⟨(((((Below.setCell HBA (Nat.le_refl _) _).setCell (Nat.le_refl _) _).setCell (Nat.le_refl _) _).setCell (Nat.le_refl _) _).setCell (Nat.le_refl _) _), .inl ⟨mrd_no (decide_eq_false (fun h => hY h.2.2.1)), rfl⟩⟩
 by_cases hZ : Q.Z at_ = s
 rotate_left
 · have hZe : (Q.Z at_ == s) = false := by simpa using hZ
   have z0 := B0.c 0 rfl; have y0 := B0.f 0 rfl; have z1 := B0.c 1 rfl; have y1 := B0.f 1 rfl; have z2 := B0.c 2 rfl; have y2 := B0.f 2 rfl; have z3 := B0.c 3 rfl; have y3 := B0.f 3 rfl; have z4 := B0.c 4 rfl; have y4 := B0.f 4 rfl; have m0 := B1.c 0 rfl; have m1 := B1.c 1 rfl; have m2 := B1.c 2 rfl; have m3 := B1.c 3 rfl; have m4 := B1.c 4 rfl
   rw [hX] at m0; rw [hY] at m1
   have BF := z5_set B0
   clear B0 B1 HI HBl
   go_wp2
   have r0 := BF.out.c 0 rfl; have r1 := BF.out.c 1 rfl; have r2 := BF.out.c 2 rfl; have r3 := BF.out.c 3 rfl; have r4 := BF.out.c 4 rfl
   refine bodyPost_ret (v := .tuple #[.agg #[.int .i64 0, .int .i64 0, .int .i64 0, .slice none 0 0, .slice none 0 0], .int .i64 0, .bool false]) (by simp [results, Try.results34, go_sem, r0, r1, r2, r3, r4]) rfl ?_
   exact ⟨(((((Below.setCell HBA (Nat.le_refl _) _).setCell (Nat.le_refl _) _).setCell (Nat.le_refl _) _).setCell (Nat.le_refl _) _).setCell (Nat.le_refl _) _), .inl ⟨mrd_no (decide_eq_false (fun h => hZ h.2.2.2)), rfl⟩⟩
 have hb : baseB Q at_ x y s = true := decide_eq_true ⟨hat, hX, hY, hZ⟩
 cases hT : Q.T at_ with
 | true =>
   rw [hT] at B1
   by_cases hL : Q.L at_ = 0
   · have hd0 : d = 0 := by
       rcases Nat.eq_zero_or_pos d with h | h
       · exact h
       · exact absurd ⟨hb, hT, h, hL⟩ hcase
     subst hd0
     have z0 := B0.c 0 rfl; have y0 := B0.f 0 rfl; have z1 := B0.c 1 rfl; have y1 := B0.f 1 rfl; have z2 := B0.c 2 rfl; have y2 := B0.f 2 rfl; have z3 := B0.c 3 rfl; have y3 := B0.f 3 rfl; have z4 := B0.c 4 rfl; have y4 := B0.f 4 rfl; have m0 := B1.c 0 rfl; have m1 := B1.c 1 rfl; have m2 := B1.c 2 rfl; have m3 := B1.c 3 rfl; have m4 := B1.c 4 rfl
     rw [hX] at m0; rw [hY] at m1; rw [hZ] at m2
     have BF := z5_set B0
     clear B0 B1 HI HBl
     go_wp2
     have r0 := BF.out.c 0 rfl; have r1 := BF.out.c 1 rfl; have r2 := BF.out.c 2 rfl; have r3 := BF.out.c 3 rfl; have r4 := BF.out.c 4 rfl
     refine bodyPost_ret (v := .tuple #[.agg #[.int .i64 0, .int .i64 0, .int .i64 0, .slice none 0 0, .slice none 0 0], .int .i64 0, .bool false]) (by simp [results, Try.results34, go_sem, r0, r1, r2, r3, r4]) rfl ?_
     exact ⟨(((((Below.setCell HBA (Nat.le_refl _) _).setCell (Nat.le_refl _) _).setCell (Nat.le_refl _) _).setCell (Nat.le_refl _) _).setCell (Nat.le_refl _) _), .inl ⟨mrd_zero hT, rfl⟩⟩
   · have hLI : (0 : Int) < Q.L at_ := by omega
     rcases Nat.eq_zero_or_pos d with hd0 | hd0
     · subst hd0
       have z0 := B0.c 0 rfl; have y0 := B0.f 0 rfl; have z1 := B0.c 1 rfl; have y1 := B0.f 1 rfl; have z2 := B0.c 2 rfl; have y2 := B0.f 2 rfl; have z3 := B0.c 3 rfl; have y3 := B0.f 3 rfl; have z4 := B0.c 4 rfl; have y4 := B0.f 4 rfl; have m0 := B1.c 0 rfl; have m1 := B1.c 1 rfl; have m2 := B1.c 2 rfl; have m3 := B1.c 3 rfl; have m4 := B1.c 4 rfl
       rw [hX] at m0; rw [hY] at m1; rw [hZ] at m2
       have BF := z5_set B0
       clear B0 B1 HI HBl
       go_wp2
       have r0 := BF.out.c 0 rfl; have r1 := BF.out.c 1 rfl; have r2 := BF.out.c 2 rfl; have r3 := BF.out.c 3 rfl; have r4 := BF.out.c 4 rfl
       refine bodyPost_ret (v := .tuple #[.agg #[.int .i64 0, .int .i64 0, .int .i64 0, .slice none 0 0, .slice none 0 0], .int .i64 0, .bool false]) (by simp [results, Try.results34, go_sem, r0, r1, r2, r3, r4]) rfl ?_
       exact ⟨(((((Below.setCell HBA (Nat.le_refl _) _).setCell (Nat.le_refl _) _).setCell (Nat.le_refl _) _).setCell (Nat.le_refl _) _).setCell (Nat.le_refl _) _), .inl ⟨mrd_zero hT, rfl⟩⟩
     · have hdI2 : ¬ ((d : Int) < 1) := by omega
       have z0 := B0.c 0 rfl; have y0 := B0.f 0 rfl; have z1 := B0.c 1 rfl; have y1 := B0.f 1 rfl; have z2 := B0.c 2 rfl; have y2 := B0.f 2 rfl; have z3 := B0.c 3 rfl; have y3 := B0.f 3 rfl; have z4 := B0.c 4 rfl; have y4 := B0.f 4 rfl; have m0 := B1.c 0 rfl; have m1 := B1.c 1 rfl; have m2 := B1.c 2 rfl; have m3 := B1.c 3 rfl; have m4 := B1.c 4 rfl
       rw [hX] at m0; rw [hY] at m1; rw [hZ] at m2
       have BF := z5_set B0
       clear B0 B1 HI HBl
       go_wp2
       have r0 := BF.out.c 0 rfl; have r1 := BF.out.c 1 rfl; have r2 := BF.out.c 2 rfl; have r3 := BF.out.c 3 rfl; have r4 := BF.out.c 4 rfl
       refine bodyPost_ret (v := .tuple #[.agg #[.int .i64 0, .int .i64 0, .int .i64 0, .slice none 0 0, .slice none 0 0], .int .i64 0, .bool false]) (by simp [results, Try.results34, go_sem, r0, r1, r2, r3, r4]) rfl ?_
       exact ⟨(((((Below.setCell HBA (Nat.le_refl _) _).setCell (Nat.le_refl _) _).setCell (Nat.le_refl _) _).setCell (Nat.le_refl _) _).setCell (Nat.le_refl _) _), .inl ⟨mrd_full hT hL, rfl⟩⟩
 | false =>
   rw [hT] at B1
   have z0 := B0.c 0 rfl; have y0 := B0.f 0 rfl; have z1 := B0.c 1 rfl; have y1 := B0.f 1 rfl; have z2 := B0.c 2 rfl; have y2 := B0.f 2 rfl; have z3 := B0.c 3 rfl; have y3 := B0.f 3 rfl; have z4 := B0.c 4 rfl; have y4 := B0.f 4 rfl; have m0 := B1.c 0 rfl; have m1 := B1.c 1 rfl; have m2 := B1.c 2 rfl; have m3 := B1.c 3 rfl; have m4 := B1.c 4 rfl
   rw [hX] at m0; rw [hY] at m1; rw [hZ] at m2
   have HBW := HBA
   have m9 := (B1.alloc (.cells #[] 2)).c 4 rfl
   go_wp2_with (at_builtin; go_loud (refine wpList_append_ids rfl _ _ rfl W1.heap.size _ rfl (World.ownsRow_made W1 #[] 0 (Nat.le_refl _) (by decide) rfl) (blL Q at_) (so at_).1 (so at_).2 (by rw [blL_len]; rfl) (HI.step ((Below.refl _ _).alloc (Nat.le_refl _) _)) (hso at_ hat) (by rw [blL_len]; exact hL8) (by simp) ?_))
   intro v w2 r1 r2 r4
   obtain ⟨ao, c, rfl, hNi, hn0, hok⟩ := IdV.of r1
   have HB2 : Below W1.heap.size W1 w2 := ((Below.refl _ _).alloc (Nat.le_refl _) _).grown r2 (by simp) (fun k hk => by cases hk; exact Nat.le_refl _)
   replace B0 := (B0.step HB2).alloc (.cells #[.int .i64 x, .int .i64 y, .int .i64 s, .slice none 0 0, .slice ao (blL Q at_).length c] 48)
   replace B1 := (B1.step HB2).alloc (.cells #[.int .i64 x, .int .i64 y, .int .i64 s, .slice none 0 0, .slice ao (blL Q at_).length c] 48)
   have B2 : Blk (w2.alloc (.cells #[.int .i64 x, .int .i64 y, .int .i64 s, .slice none 0 0, .slice ao (blL Q at_).length c] 48)) w2.heap.size [.int .i64 x, .int .i64 y, .int .i64 s, .slice none 0 0, .slice ao (blL Q at_).length c] := Blk.new w2 [.int .i64 x, .int .i64 y, .int .i64 s, .slice none 0 0, .slice ao (blL Q at_).length c] 48 rfl
   replace HBA := (HBA.trans (HB2.mono HBA.size)).alloc (Nat.le_trans HBA.size HB2.size) (.cells #[.int .i64 x, .int .i64 y, .int .i64 s, .slice none 0 0, .slice ao (blL Q at_).length c] 48)
   have hI5 : IdV (fun b => W1.heap.size ≤ b ∧ b < w2.heap.size) (w2.alloc (.cells #[.int .i64 x, .int .i64 y, .int .i64 s, .slice none 0 0, .slice ao (blL Q at_).length c] 48)) (.slice ao (blL Q at_).length c) (blL Q at_) := IdV.step ⟨_, _, rfl, hNi, hn0, fun A o sp e => ⟨⟨(hok A o sp e).1, (hok A o sp e).2⟩, (hok A o sp e).2⟩⟩ ((Below.refl _ _).alloc (Nat.le_refl _) _)
   have hWsz : Hid (w.heap.size < W1.heap.size) := by show w.heap.size < W1.heap.size; have := hsz.out; omega
   have HSZ : Hid (w2.heap.size = W1.heap.size + 1 ∨ w.heap.size + 2 < w2.heap.size) := .inr (by have h := r2.size; have := hsz.out; simp at h; omega)
   clear r1 r2 r4 hNi m9 HB2 HI HBW
   clear z0 z1 z2 z3 z4 y0 y1 y2 y3 y4 m0 m1 m2 m3 m4
   go_upto_region 8 with fail
   generalize (w2.alloc (.cells #[.int .i64 x, .int .i64 y, .int .i64 s, .slice none 0 0, .slice ao (blL Q at_).length c] 48)) = W3 at *
   have z0 := B0.c 0 rfl; have z1 := B0.c 1 rfl; have z2 := B0.c 2 rfl; have z3 := B0.c 3 rfl; have z4 := B0.c 4 rfl; have y0 := B0.f 0 rfl; have y1 := B0.f 1 rfl; have y2 := B0.f 2 rfl; have y3 := B0.f 3 rfl; have y4 := B0.f 4 rfl
   have n0 := B2.c 0 rfl; have n1 := B2.c 1 rfl; have n2 := B2.c 2 rfl; have n3 := B2.c 3 rfl; have n4 := B2.c 4 rfl
   have m3 := B1.c 3 rfl
   have BF : Hid (Blk (((((W3.setCell ⟨w.heap.size, 0, none⟩ (.int .i64 x)).setCell ⟨w.heap.size, 1, none⟩ (.int .i64 y)).setCell ⟨w.heap.size, 2, none⟩ (.int .i64 s)).setCell ⟨w.heap.size, 3, none⟩ (.slice none 0 0)).setCell ⟨w.heap.size, 4, none⟩ (.slice ao (blL Q at_).length c)) w.heap.size [.int .i64 x, .int .i64 y, .int .i64 s, .slice none 0 0, .slice ao (blL Q at_).length c]) := ((((B0.setI 0 (by decide) _).setI 1 (by simp) _).setI 2 (by simp) _).setI 3 (by simp) _).setI 4 (by simp) _
   have hWl : w.heap.size < W3.heap.size := B0.lt
   clear B0 B1 B2
   go_wp2
   have r0 := BF.out.c 0 rfl; have r1 := BF.out.c 1 rfl; have r2 := BF.out.c 2 rfl; have r3 := BF.out.c 3 rfl; have r4 := BF.out.c 4 rfl
   refine bodyPost_ret (v := .tuple #[.agg #[.int .i64 x, .int .i64 y, .int .i64 s, .slice none 0 0, .slice ao (blL Q at_).length c], .int .i64 ((at_ : Int) + 1), .bool true]) (by simp [results, Try.results34, go_sem, r0, r1, r2, r3, r4]) rfl ?_
   refine ⟨(((((Below.setCell HBA (Nat.le_refl _) _).setCell (Nat.le_refl _) _).setCell (Nat.le_refl _) _).setCell (Nat.le_refl _) _).setCell (Nat.le_refl _) _), .inr ⟨at_ + 1, _, _, mrd_leaf hb hT, by rw [Int.natCast_add]; rfl, ?_⟩⟩
   rw [trQ_leaf hT]
   exact ⟨rfl, hI5.keep (by simp [World.setCell]) (fun b hb _ => z5_other (by have := hWsz.out; have := hb.1; omega)) (fun b hb _ => by have := hWsz.out; have := hb.1; omega)⟩
def rtT (Q : QD) : QT → Int → Int → Int → Bool
 | .leaf l, x, y, s => decide (l = idL Q (flQ Q (List.range Q.m) x y s))
 | .node K, x, y, s => (List.range 4).all fun k => rtT Q (K k) (kX x (s / 2) k) (kY y (s / 2) k) (s / 2)
def lenT : QT → Prop
 | .leaf l => l.length ≤ 1048576
 | .node K => ∀ k, k < 4 → lenT (K k)
theorem rt_tr (Q : QD) : ∀ d at_ x y s, (mrd Q d at_ x y s).isSome → rtB Q d at_ x y s = rtT Q (trQ Q d at_ x y s) x y s
 | 0, _, _, _, _, _ => rfl
 | d + 1, at_, x, y, s, h => by
   unfold rtB trQ
   by_cases hT : Q.T at_ = true
   · rw [if_pos hT, if_pos hT]
     have hb : baseB Q at_ x y s = true := by
       cases hb : baseB Q at_ x y s with
       | true => rfl
       | false => rw [mrd_no hb] at h; cases h
     have hL : Q.L at_ = 0 := by
       apply Classical.byContradiction
       intro hL
       rw [show mrd Q (d + 1) at_ x y s = if baseB Q at_ x y s = true then (if Q.T at_ = true then (if Q.L at_ = 0 then kp (fun a x y => mrd Q d a x y (s / 2)) (at_ + 1) x y (s / 2) 4 else none) else some (at_ + 1)) else none from rfl, if_pos hb, if_pos hT, if_neg hL] at h
       cases h
     rw [show mrd Q (d + 1) at_ x y s = if baseB Q at_ x y s = true then (if Q.T at_ = true then (if Q.L at_ = 0 then kp (fun a x y => mrd Q d a x y (s / 2)) (at_ + 1) x y (s / 2) 4 else none) else some (at_ + 1)) else none from rfl, if_pos hb, if_pos hT, if_pos hL] at h
     have hk : ∀ k, k < 4 → ∃ a, kp (fun a x y => mrd Q d a x y (s / 2)) (at_ + 1) x y (s / 2) k = some a ∧ (mrd Q d a (kX x (s / 2) k) (kY y (s / 2) k) (s / 2)).isSome := by
       have step : ∀ k, (kp (fun a x y => mrd Q d a x y (s / 2)) (at_ + 1) x y (s / 2) (k + 1)).isSome → ∃ a, kp (fun a x y => mrd Q d a x y (s / 2)) (at_ + 1) x y (s / 2) k = some a ∧ (mrd Q d a (kX x (s / 2) k) (kY y (s / 2) k) (s / 2)).isSome := by
         intro k hk
         have e : kp (fun a x y => mrd Q d a x y (s / 2)) (at_ + 1) x y (s / 2) (k + 1) = (kp (fun a x y => mrd Q d a x y (s / 2)) (at_ + 1) x y (s / 2) k).bind fun a => mrd Q d a (kX x (s / 2) k) (kY y (s / 2) k) (s / 2) := rfl
         rw [e] at hk
         cases h : kp (fun a x y => mrd Q d a x y (s / 2)) (at_ + 1) x y (s / 2) k with
         | none => rw [h] at hk; cases hk
         | some a => rw [h] at hk; exact ⟨a, rfl, hk⟩
       have down : ∀ j k, j + k = 3 → ∃ a, kp (fun a x y => mrd Q d a x y (s / 2)) (at_ + 1) x y (s / 2) k = some a ∧ (mrd Q d a (kX x (s / 2) k) (kY y (s / 2) k) (s / 2)).isSome := by
         intro j
         induction j with
         | zero => intro k hk; obtain rfl : k = 3 := by omega
                   exact step 3 h
         | succ j ih => intro k hk; obtain ⟨a, h1, _⟩ := ih (k + 1) (by omega)
                        exact step k (by rw [h1]; rfl)
       intro k hk4
       exact down (3 - k) k (by omega)
     unfold rtT
     rw [Bool.eq_iff_iff, List.all_eq_true, List.all_eq_true]
     constructor
     · intro h1 k hj
       obtain ⟨a, h2, h3⟩ := hk _ (List.mem_range.1 hj)
       have h4 := h1 k hj
       try dsimp only at h4
       try dsimp only
       rw [h2] at h4 ⊢
       simp only [Option.getD_some]
       rw [← rt_tr Q d a _ _ _ h3]
       exact h4
     · intro h1 k hj
       obtain ⟨a, h2, h3⟩ := hk _ (List.mem_range.1 hj)
       have h4 := h1 k hj
       try dsimp only at h4
       try dsimp only
       rw [h2] at h4 ⊢
       simp only [Option.getD_some] at h4
       rw [← rt_tr Q d a _ _ _ h3] at h4
       exact h4
   · rw [if_neg hT, if_neg hT]
     rfl
theorem fl_hit {Q : QD} {x y s : Int} {c : Nat} (h : hitQ Q x y s c = true) : idL Q (flQ Q (List.range (c + 1)) x y s) = (idL Q (flQ Q (List.range c) x y s)) ++ [Q.I c] := by
 unfold flQ idL
 rw [List.range_succ, List.filter_append, List.map_append]
 simp [h]
theorem fl_miss {Q : QD} {x y s : Int} {c : Nat} (h : hitQ Q x y s c = false) : idL Q (flQ Q (List.range (c + 1)) x y s) = (idL Q (flQ Q (List.range c) x y s)) := by
 unfold flQ idL
 rw [List.range_succ, List.filter_append, List.map_append]
 simp [h]
theorem fl_pre {Q : QD} {x y s : Int} {c m : Nat} (h : c ≤ m) : (idL Q (flQ Q (List.range c) x y s)) <+: idL Q (flQ Q (List.range m) x y s) := by
 have h1 : List.range c <+: List.range m := by
   have := List.take_prefix c (List.range m)
   rwa [List.take_range, Nat.min_eq_left h] at this
 exact (h1.filter _).map _
theorem leaf_short {Q : QD} {x y s : Int} {c m : Nat} {l : List Int} (hc : c < m) (h : hitQ Q x y s c = true) (hl : l.length ≤ (idL Q (flQ Q (List.range c) x y s)).length) : l ≠ idL Q (flQ Q (List.range m) x y s) := by
 intro e
 have h1 := (fl_pre (Q := Q) (x := x) (y := y) (s := s) (show c + 1 ≤ m from hc)).length_le
 rw [fl_hit h, ← e, List.length_append] at h1
 simp at h1
 omega
theorem leaf_other {Q : QD} {x y s : Int} {c m n : Nat} {l : List Int} (hc : c < m) (h : hitQ Q x y s c = true) (hn : n = (idL Q (flQ Q (List.range c) x y s)).length) (hne : l.getD n 0 ≠ Q.I c) : l ≠ idL Q (flQ Q (List.range m) x y s) := by
 intro e
 obtain ⟨r, h1⟩ := fl_pre (Q := Q) (x := x) (y := y) (s := s) (show c + 1 ≤ m from hc)
 rw [fl_hit h, ← e] at h1
 apply hne
 rw [← h1, hn, List.getD_eq_getElem?_getD, List.append_assoc, List.getElem?_append_right (Nat.le_refl _)]
 simp
theorem leaf_next {Q : QD} {x y s : Int} {c n : Nat} {l : List Int} (h : hitQ Q x y s c = true) (ht : l.take n = (idL Q (flQ Q (List.range c) x y s))) (hl : n < l.length) (he : l.getD n 0 = Q.I c) : l.take (n + 1) = idL Q (flQ Q (List.range (c + 1)) x y s) := by
 rw [fl_hit h, List.take_add_one, ht, ← he, List.getD_eq_getElem?_getD, List.getElem?_eq_getElem hl]
 rfl
theorem leaf_end {Q : QD} {x y s : Int} {n : Nat} {l : List Int} (hn : n ≤ l.length) (ht : l.take n = idL Q (flQ Q (List.range Q.m) x y s)) : rtT Q (.leaf l) x y s = decide ((n : Int) = l.length) := by
 unfold rtT
 apply decide_eq_decide.2
 constructor
 · intro e
   have h1 := congrArg List.length ht
   rw [← e, List.length_take, Nat.min_eq_left hn] at h1
   omega
 · intro e
   obtain rfl : n = l.length := by omega
   rw [← ht, List.take_length]
set_option maxRecDepth 100000 in
set_option maxHeartbeats 8000000 in
theorem treeRight_leaf (Q : QD) (ao : Option Addr) (cap : Nat) (h6 : Its6 Q (List.range Q.m)) (hm : Q.m ≤ 1048576) (l : List Int) (x y s : Int) (eo : Option Addr) (ec : Nat) (hq : Sq x y s) (hl : l.length ≤ 1048576) (w : World) (hN : NoIn w eo l.length (fun i => l.getD i 0)) (hS : ItIn Q w ao (List.range Q.m)) : Calls Try.prog 35 #[.agg #[.int .i64 x, .int .i64 y, .int .i64 s, .slice none 0 0, .slice eo l.length ec], .slice ao Q.m cap] w (VP (.bool (rtT Q (.leaf l) x y s)) w) := by
 have B0 : Blk (w.alloc (.cells #[.int .i64 x, .int .i64 y, .int .i64 s, .slice none 0 0, .slice eo l.length ec] 48)) w.heap.size [.int .i64 x, .int .i64 y, .int .i64 s, .slice none 0 0, .slice eo l.length ec] := Blk.new w [.int .i64 x, .int .i64 y, .int .i64 s, .slice none 0 0, .slice eo l.length ec] 48 rfl
 have HB : Below w.heap.size w (w.alloc (.cells #[.int .i64 x, .int .i64 y, .int .i64 s, .slice none 0 0, .slice eo l.length ec] 48)) := (Below.refl _ w).alloc (Nat.le_refl _) _
 have hmI : (Q.m : Int) ≤ 1048576 := by omega
 have hlI : (l.length : Int) ≤ 1048576 := by omega
 have HS : Hid (ItIn Q (w.alloc (.cells #[.int .i64 x, .int .i64 y, .int .i64 s, .slice none 0 0, .slice eo l.length ec] 48)) ao (List.range Q.m)) := hS.step HB
 have HN : Hid (NoIn (w.alloc (.cells #[.int .i64 x, .int .i64 y, .int .i64 s, .slice none 0 0, .slice eo l.length ec] 48)) eo l.length (fun i => l.getD i 0)) := hN.step HB
 clear hN hS
 go_enter Try.func35, Try.ntmps35
 go_upto_region 1 with fail
 generalize (w.alloc (.cells #[.int .i64 x, .int .i64 y, .int .i64 s, .slice none 0 0, .slice eo l.length ec] 48)) = W1 at *
 have m3 := B0.c 3 rfl
 go_wp2_with fail
 clear m3
 go_loopw [6, 7] (fun n i wr => ∃ c : Nat, c ≤ Q.m ∧ i = .int .i64 c ∧ n = .int .i64 ((idL Q (flQ Q (List.range c) x y s)).length : Int) ∧ (idL Q (flQ Q (List.range c) x y s)).length ≤ l.length ∧ l.take (idL Q (flQ Q (List.range c) x y s)).length = (idL Q (flQ Q (List.range c) x y s)) ∧ Blk wr w.heap.size [.int .i64 x, .int .i64 y, .int .i64 s, .slice none 0 0, .slice eo l.length ec] ∧ ItIn Q wr ao (List.range Q.m) ∧ NoIn wr eo l.length (fun i => l.getD i 0) ∧ Below w.heap.size w wr) (fun _ i _ => Q.m - (intOf i).toNat)
 case atStart => exact ⟨0, by omega, rfl, rfl, Nat.zero_le _, rfl, B0, HS.out, HN.out, HB⟩
 case round =>
   clear B0 HS HN HB
   obtain ⟨c, hc, rfl, rfl, hle, htk, B0, hS, hN, HB⟩ := hrel
   obtain ⟨n, hn⟩ : ∃ n, (idL Q (flQ Q (List.range c) x y s)).length = n := ⟨_, rfl⟩
   have HNL : Hid ((idL Q (flQ Q (List.range c) x y s)).length = n) := hn
   have HTK : Hid (l.take n = (idL Q (flQ Q (List.range c) x y s))) := by show _ = _; rw [← hn]; exact htk
   rw [hn] at hle ⊢
   clear hn htk
   have hfl := B0.lt
   by_cases hcm : c < Q.m
   · have hcI : (c : Int) < Q.m := by omega
     obtain ⟨A, off, rfl, hA, c0, c1, c2, c3, c4⟩ := hS c c (by simp [hcm])
     obtain ⟨s1, s2, s3, s4⟩ := h6 c (List.mem_range.2 hcm)
     have HS : Hid (ItIn Q wr (some ⟨A, off, none⟩) (List.range Q.m)) := hS
     have HN : Hid (NoIn wr eo l.length (fun i => l.getD i 0)) := hN
     clear hS hN
     go_upto_region 12 with fail
     refine qlA (A := A) (off := off) (n := Q.m) (cap := cap) (c := c) (x := x) (y := y) (s := s) (ko := none) (eo := eo) (kn := 0) (kc := 0) (en := l.length) (ec := ec) (a := (Q.S c).1) (bb := (Q.S c).2.1) (cc := (Q.S c).2.2.1) (d := (Q.S c).2.2.2) (F := w.heap.size) hcm hm hq s1 s2 s3 s4 rfl rfl rfl (B0.c 0 rfl) hfl (B0.c 1 rfl) hfl (B0.c 2 rfl) hfl (B0.c 3 rfl) hfl (B0.c 4 rfl) hfl c1 hA c2 hA c3 hA c4 hA rfl ?_
     rintro ⟨tm, df⟩ Wz hz hdf hoff h37 hBz
     simp only at hz hdf hoff h37
     change tm.getD 37 undef = .bool (!hitQ Q x y s c) at h37
     subst hdf
     have htm := tmps_fold [30, 31, 32, 33, 34, 35, 36, 37] tm _ hz hoff
     simp only [List.foldl, List.setIfInBounds_toArray, List.set_cons_zero, List.set_cons_succ, h37] at htm
     clear hz hoff
     generalize tm.getD 30 undef = pz0, tm.getD 31 undef = pz1, tm.getD 32 undef = pz2, tm.getD 33 undef = pz3, tm.getD 34 undef = pz4, tm.getD 35 undef = pz5, tm.getD 36 undef = pz6 at htm
     clear h37
     subst htm
     replace B0 := B0.step hBz
     replace HB := HB.trans (hBz.mono HB.size)
     replace HS : Hid (ItIn Q Wz (some ⟨A, off, none⟩) (List.range Q.m)) := HS.out.step hBz
     replace HN : Hid (NoIn Wz eo l.length (fun i => l.getD i 0)) := HN.out.step hBz
     clear hBz c0 c1 c2 c3 c4 s1 s2 s3 s4
     have hfz := B0.lt
     cases hh : hitQ Q x y s c with
     | false =>
       have hlen : Hid (n = (idL Q (flQ Q (List.range (c + 1)) x y s)).length) := by show _ = _; rw [fl_miss hh, HNL.out]
       have HTM : Hid (l.take n = idL Q (flQ Q (List.range (c + 1)) x y s)) := by show _ = _; rw [fl_miss hh]; exact HTK.out
       clear hh
       go_wp2
       go_roundw
       case rel => exact ⟨c + 1, by omega, by go_num, by rw [← hlen.out], by rw [← hlen.out]; exact hle, by rw [← hlen.out]; exact HTM.out, B0, HS.out, HN.out, HB⟩
       case measure => simp [intOf]; omega
     | true =>
       have HH : Hid (hitQ Q x y s c = true) := hh
       clear hh
       go_upto_region 13 with fail
       by_cases hnl : n < l.length
       · obtain ⟨E0, eoff, rfl, hE, hec⟩ := HN.out n hnl
         obtain ⟨A2, o2, e2, hA2, d0, _⟩ := HS.out c c (by simp [hcm])
         cases e2
         refine qlC (F := w.heap.size) (A := A) (off := off) (n := Q.m) (cap := cap) (c := c) (k_ := n) (E0 := E0) (eoff := eoff) (en := l.length) (ec := ec) (ev := l.getD n 0) (iv := Q.I c) hnl hl hcm hm rfl rfl rfl rfl (B0.c 4 rfl) hfz hec hE d0 hA2 rfl ?_
         rintro ⟨tm, df⟩ Wy hz hdf hoff h55 hBy
         simp only at hz hdf hoff h55
         change tm.getD 55 undef = .bool (decide (¬ (l.getD n 0 = Q.I c))) at h55
         subst hdf
         have htm := tmps_fold [38, 39, 40, 41, 42, 43, 44, 45, 46, 47, 48, 49, 50, 51, 52, 53, 54, 55] tm _ hz hoff
         simp only [List.foldl, List.setIfInBounds_toArray, List.set_cons_zero, List.set_cons_succ, h55] at htm
         clear hz hoff
         generalize tm.getD 38 undef = py0, tm.getD 39 undef = py1, tm.getD 40 undef = py2, tm.getD 41 undef = py3, tm.getD 42 undef = py4, tm.getD 43 undef = py5, tm.getD 44 undef = py6, tm.getD 45 undef = py7, tm.getD 46 undef = py8, tm.getD 47 undef = py9, tm.getD 48 undef = py10, tm.getD 49 undef = py11, tm.getD 50 undef = py12, tm.getD 51 undef = py13, tm.getD 52 undef = py14, tm.getD 53 undef = py15, tm.getD 54 undef = py16 at htm
         clear h55
         subst htm
         replace B0 := B0.step hBy
         replace HB := HB.trans (hBy.mono HB.size)
         replace HS : Hid (ItIn Q Wy (some ⟨A, off, none⟩) (List.range Q.m)) := HS.out.step hBy
         replace HN : Hid (NoIn Wy (some ⟨E0, eoff, none⟩) l.length (fun i => l.getD i 0)) := HN.out.step hBy
         clear hBy hec d0
         by_cases hev : l.getD n 0 = Q.I c
         · rw [decide_eq_false (fun h => h hev)]
           have HTN : Hid (l.take (n + 1) = idL Q (flQ Q (List.range (c + 1)) x y s)) := leaf_next HH.out HTK.out hnl hev
           have hlen : Hid (n + 1 = (idL Q (flQ Q (List.range (c + 1)) x y s)).length) := by show _ = _; rw [fl_hit HH.out, List.length_append, HNL.out]; rfl
           have hnI : (n : Int) < l.length := by omega
           clear hev
           go_wp2
           go_roundw
           case rel => exact ⟨c + 1, by omega, by go_num, by rw [← hlen.out]; push_cast; rfl, by rw [← hlen.out]; omega, by rw [← hlen.out]; exact HTN.out, B0, HS.out, HN.out, HB⟩
           case measure => simp [intOf]; omega
         · rw [decide_eq_true hev]
           have hno := leaf_other hcm HH.out HNL.out.symm hev
           clear hev
           go_wp2
           refine bodyPost_ret (v := .bool false) (by simp [results, Try.results35, go_sem]) rfl ?_
           exact ⟨by rw [show rtT Q (.leaf l) x y s = false from decide_eq_false hno], HB⟩
       · refine qlB (F := w.heap.size) (k_ := n) (eo := eo) (en := l.length) (ec := ec) (by omega) rfl rfl (B0.c 4 rfl) hfz rfl ?_
         rintro ⟨tm, df⟩ Wy hz hdf hoff h55 hBy
         simp only at hz hdf hoff h55
         change tm.getD 55 undef = .bool true at h55
         subst hdf
         have htm := tmps_fold [38, 39, 40, 41, 42, 43, 44, 45, 46, 47, 48, 49, 50, 51, 52, 53, 54, 55] tm _ hz hoff
         simp only [List.foldl, List.setIfInBounds_toArray, List.set_cons_zero, List.set_cons_succ, h55] at htm
         clear hz hoff
         generalize tm.getD 38 undef = py0, tm.getD 39 undef = py1, tm.getD 40 undef = py2, tm.getD 41 undef = py3, tm.getD 42 undef = py4, tm.getD 43 undef = py5, tm.getD 44 undef = py6, tm.getD 45 undef = py7, tm.getD 46 undef = py8, tm.getD 47 undef = py9, tm.getD 48 undef = py10, tm.getD 49 undef = py11, tm.getD 50 undef = py12, tm.getD 51 undef = py13, tm.getD 52 undef = py14, tm.getD 53 undef = py15, tm.getD 54 undef = py16 at htm
         clear h55
         subst htm
         replace HB := HB.trans (hBy.mono HB.size)
         have hno := leaf_short (l := l) hcm HH.out (by rw [HNL.out]; omega)
         clear hBy
         go_wp2
         refine bodyPost_ret (v := .bool false) (by simp [results, Try.results35, go_sem]) rfl ?_
         exact ⟨by rw [show rtT Q (.leaf l) x y s = false from decide_eq_false hno], HB⟩
   · obtain rfl : c = Q.m := by omega
     have HE := leaf_end hle HTK.out
     have m4 := B0.c 4 rfl
     clear B0 hS hN HTK
     go_wp2
     go_ret
     exact ⟨by show Ending.returned (Value.bool _) = _; rw [HE]; rfl, HB⟩
def okK (G : Nat) (v : Value) (b : Nat) : Prop := G < b ∧ some b ≠ v.ownBlock
theorem kp_le {Q : QD} {d at_ : Nat} {x y hf : Int} (hat : at_ ≤ Q.N) : ∀ k a, kp (fun a x y => mrd Q d a x y hf) at_ x y hf k = some a → at_ ≤ a ∧ a ≤ Q.N
 | 0, a, h => by cases h; omega
 | k + 1, a, h => by
   obtain ⟨b, h1, h2⟩ := Option.bind_eq_some_iff.1 h
   have := kp_le hat k b h1
   have := mrd_le h2
   omega
theorem kp_none {f : Nat → Int → Int → Option Nat} {at_ : Nat} {x y h : Int} {k : Nat} (h0 : kp f at_ x y h k = none) : ∀ j, kp f at_ x y h (k + j) = none
 | 0 => h0
 | j + 1 => by show (kp f at_ x y h (k + j)).bind _ = none; rw [kp_none h0 j]; rfl
theorem kid_wrap {x y s hf : Int} (hq : Sq x y s) (hh : s / 2 = hf) {k : Nat} (hk : k < 4) : wrap64 (s.tdiv 2) = hf ∧ wrap64 (x + wrap64 ((k : Int) % 2 * hf)) = kX x hf k ∧ wrap64 (y + wrap64 ((k : Int) / 2 * hf)) = kY y hf k := by
 have a1 := hq.x1; have a2 := hq.y1; have a3 := hq.s1; have a4 := hq.x2; have a5 := hq.y2
 have e : s.tdiv 2 = hf := by rw [← hh, Int.tdiv_eq_ediv_of_nonneg a3]
 rw [e]
 refine ⟨by unfold wrap64; omega, ?_⟩
 rcases (show k = 0 ∨ k = 1 ∨ k = 2 ∨ k = 3 by omega) with h | h | h | h <;> subst h <;> simp [kX, kY, wrap64] <;> omega
theorem Sq.kid {x y s : Int} (h : Sq x y s) {k : Nat} (hk : k < 4) : Sq (kX x (s / 2) k) (kY y (s / 2) k) (s / 2) := by
 obtain ⟨h1, h2, h3, h4⟩ := kid_in (x := x) (y := y) h.s1 hk
 have a1 := h.x1; have a2 := h.y1; have a3 := h.s1; have a4 := h.x2; have a5 := h.y2
 exact ⟨by omega, by omega, by omega, by omega, by omega⟩
set_option maxRecDepth 100000 in
set_option maxHeartbeats 16000000 in
theorem l13Read_node (Q : QD) (bo : Option Addr) (bcap A off : Nat) (so : Nat → Option Addr × Nat) (wb : World) (hN : Q.N ≤ 1048576) (hbo : 0 < Q.N → bo = some ⟨A, off, none⟩) (hso : ∀ i, i < Q.N → (so i).1 = none → (so i).2 = 0) (hBl : BlIn Q wb A off so) (d at_ : Nat) (x y s : Int) (w : World) (hd8 : d + 1 ≤ 8) (hb : baseB Q at_ x y s = true) (hT : Q.T at_ = true) (hL : Q.L at_ = 0) (hq : Sq x y s) (HB : Below wb.heap.size wb w)
   (ih : ∀ (at_ : Nat) (x y s : Int) (w : World), at_ ≤ Q.N → Sq x y s → Below wb.heap.size wb w → Calls Try.prog 34 #[.slice bo Q.N bcap, .int .i64 (at_ : Int), .int .i64 x, .int .i64 y, .int .i64 s, .int .i64 (d : Int)] w (RdM Q d at_ x y s w)) : Calls Try.prog 34 #[.slice bo Q.N bcap, .int .i64 (at_ : Int), .int .i64 x, .int .i64 y, .int .i64 s, .int .i64 ((d + 1 : Nat) : Int)] w (RdM Q (d + 1) at_ x y s w) := by
 obtain ⟨i0, hi, hz0, hz1, hz2⟩ := info_b13
 have hat : at_ < Q.N := (of_decide_eq_true hb).1
 have Hb : Hid (baseB Q at_ x y s = true) := hb
 have HT : Hid (Q.T at_ = true) := hT
 have HL : Hid (Q.L at_ = 0) := hL
 clear hb hT hL
 have hatI : (at_ : Int) ≤ 1048576 := by omega
 obtain ⟨D, hD⟩ : ∃ D : Int, ((d + 1 : Nat) : Int) = D := ⟨_, rfl⟩
 have hDd : D = (d : Int) + 1 := by omega
 rw [hD]
 have hD1 : ¬ (D < 1) := by omega
 have hD8 : D ≤ 8 := by omega
 have HD : Hid (D = (d : Int) + 1) := hDd
 clear hD hDd
 have HBl : Hid (BlIn Q wb A off so) := hBl
 obtain rfl := hbo (by omega)
 obtain ⟨hA, c0, c1, c2, c3, c4, hNo⟩ := hBl.below HB at_ hat
 have B0 : Blk (w.alloc (.cells #[.int .i64 0, .int .i64 0, .int .i64 0, .slice none 0 0, .slice none 0 0] 48)) w.heap.size [.int .i64 0, .int .i64 0, .int .i64 0, .slice none 0 0, .slice none 0 0] := Blk.new w [.int .i64 0, .int .i64 0, .int .i64 0, .slice none 0 0, .slice none 0 0] 48 rfl
 have HBA : Below w.heap.size w (w.alloc (.cells #[.int .i64 0, .int .i64 0, .int .i64 0, .slice none 0 0, .slice none 0 0] 48)) := (Below.refl _ w).alloc (Nat.le_refl _) _
 have hcI : (at_ : Int) < Q.N := by omega
 have HI : NoIn w (so at_).1 (blL Q at_).length (fun i => (blL Q at_).getD i 0) := (fun i hi => by rw [blL_len] at hi; obtain ⟨A1, o1, e1, h1, h2⟩ := hNo i hi; exact ⟨A1, o1, e1, h1, by show _ = some (Value.int _ ((blL Q at_).getD i 0)); rw [h2, blL_at hi]⟩)
 clear hNo
 go_enter Try.func34, Try.ntmps34
 go_upto_region 4 with fail
 replace B0 := B0.alloc (.cells #[.int .i64 (Q.X at_), .int .i64 (Q.Y at_), .int .i64 (Q.Z at_), .bool (Q.T at_), .slice (so at_).1 (Q.L at_) (so at_).2] 89)
 have B1 : Blk ((w.alloc (.cells #[.int .i64 0, .int .i64 0, .int .i64 0, .slice none 0 0, .slice none 0 0] 48)).alloc (.cells #[.int .i64 (Q.X at_), .int .i64 (Q.Y at_), .int .i64 (Q.Z at_), .bool (Q.T at_), .slice (so at_).1 (Q.L at_) (so at_).2] 89)) (w.heap.size + 1) [.int .i64 (Q.X at_), .int .i64 (Q.Y at_), .int .i64 (Q.Z at_), .bool (Q.T at_), .slice (so at_).1 (Q.L at_) (so at_).2] := Blk.new (w.alloc (.cells #[.int .i64 0, .int .i64 0, .int .i64 0, .slice none 0 0, .slice none 0 0] 48)) [.int .i64 (Q.X at_), .int .i64 (Q.Y at_), .int .i64 (Q.Z at_), .bool (Q.T at_), .slice (so at_).1 (Q.L at_) (so at_).2] 89 (by simp)
 replace HBA := HBA.alloc (by simp) (.cells #[.int .i64 (Q.X at_), .int .i64 (Q.Y at_), .int .i64 (Q.Z at_), .bool (Q.T at_), .slice (so at_).1 (Q.L at_) (so at_).2] 89)
 have hsz : Hid (((w.alloc (.cells #[.int .i64 0, .int .i64 0, .int .i64 0, .slice none 0 0, .slice none 0 0] 48)).alloc (.cells #[.int .i64 (Q.X at_), .int .i64 (Q.Y at_), .int .i64 (Q.Z at_), .bool (Q.T at_), .slice (so at_).1 (Q.L at_) (so at_).2] 89)).heap.size = w.heap.size + 2) := by show _ = _; simp
 replace HI := HI.step HBA
 clear c0 c1 c2 c3 c4
 generalize ((w.alloc (.cells #[.int .i64 0, .int .i64 0, .int .i64 0, .slice none 0 0, .slice none 0 0] 48)).alloc (.cells #[.int .i64 (Q.X at_), .int .i64 (Q.Y at_), .int .i64 (Q.Z at_), .bool (Q.T at_), .slice (so at_).1 (Q.L at_) (so at_).2] 89)) = W1 at *
 have HBB : Below wb.heap.size wb W1 := HB.trans (HBA.mono HB.size)
 obtain ⟨_, hX, hY, hZ⟩ := of_decide_eq_true Hb.out
 have hL := HL.out
 rw [HT.out, hL] at B1
 have z0 := B0.c 0 rfl; have y0 := B0.f 0 rfl; have z1 := B0.c 1 rfl; have y1 := B0.f 1 rfl; have z2 := B0.c 2 rfl; have y2 := B0.f 2 rfl; have z3 := B0.c 3 rfl; have y3 := B0.f 3 rfl; have z4 := B0.c 4 rfl; have y4 := B0.f 4 rfl; have m0 := B1.c 0 rfl; have m1 := B1.c 1 rfl; have m2 := B1.c 2 rfl; have m3 := B1.c 3 rfl; have m4 := B1.c 4 rfl
 rw [hX] at m0; rw [hY] at m1; rw [hZ] at m2
 have m9 := (B1.alloc (.cells #[] 2)).c 4 rfl
 have HBW := HBA
 have hbl : blL Q at_ = [] := by unfold blL; rw [hL]; rfl
 rw [hbl] at HI
 clear hX hY hZ hL hbl
 go_wp2_with (at_builtin; go_loud (refine wpList_append_ids rfl _ _ rfl W1.heap.size _ rfl (World.ownsRow_made W1 #[] 0 (Nat.le_refl _) (by decide) rfl) [] (so at_).1 (so at_).2 rfl (HI.step ((Below.refl _ _).alloc (Nat.le_refl _) _)) (hso at_ hat) (by simp) (by simp) ?_))
 intro v w2 r1 r2 r4
 obtain ⟨ao, c, rfl, hNi, hn0, hok⟩ := IdV.of (l := []) r1
 replace hNi : NoIn w2 ao 0 (fun i => ([] : List Int).getD i 0) := hNi
 change w2.ownsRow W1.heap.size 2 1 (.slice ao 0 c) 0 [] at r1
 have HB2 : Below W1.heap.size W1 w2 := ((Below.refl _ _).alloc (Nat.le_refl _) _).grown r2 (by simp) (fun k hk => by cases hk; exact Nat.le_refl _)
 replace B0 := (B0.step HB2).alloc (.cells #[.int .i64 x, .int .i64 y, .int .i64 s, .slice none 0 0, .slice ao 0 c] 48)
 replace B1 := (B1.step HB2).alloc (.cells #[.int .i64 x, .int .i64 y, .int .i64 s, .slice none 0 0, .slice ao 0 c] 48)
 have B2 : Blk (w2.alloc (.cells #[.int .i64 x, .int .i64 y, .int .i64 s, .slice none 0 0, .slice ao 0 c] 48)) w2.heap.size [.int .i64 x, .int .i64 y, .int .i64 s, .slice none 0 0, .slice ao 0 c] := Blk.new w2 [.int .i64 x, .int .i64 y, .int .i64 s, .slice none 0 0, .slice ao 0 c] 48 rfl
 replace HBA := (HBA.trans (HB2.mono HBA.size)).alloc (Nat.le_trans HBA.size HB2.size) (.cells #[.int .i64 x, .int .i64 y, .int .i64 s, .slice none 0 0, .slice ao 0 c] 48)
 have hI5 : IdV (fun b => W1.heap.size ≤ b ∧ b < w2.heap.size) (w2.alloc (.cells #[.int .i64 x, .int .i64 y, .int .i64 s, .slice none 0 0, .slice ao 0 c] 48)) (.slice ao 0 c) [] := IdV.step ⟨_, _, rfl, hNi, hn0, fun A o sp e => ⟨⟨(hok A o sp e).1, (hok A o sp e).2⟩, (hok A o sp e).2⟩⟩ ((Below.refl _ _).alloc (Nat.le_refl _) _)
 have hWsz : Hid (w.heap.size < W1.heap.size) := by show w.heap.size < W1.heap.size; have := hsz.out; omega
 have HSZ : Hid (w2.heap.size = W1.heap.size + 1 ∨ w.heap.size + 2 < w2.heap.size) := .inr (by have h := r2.size; have := hsz.out; simp at h; omega)
 clear r1 r2 r4 hNi m9 HB2 HI HBW
 clear z0 z1 z2 z3 z4 y0 y1 y2 y3 y4 m0 m1 m2 m3 m4
 go_upto_region 8 with fail
 generalize (w2.alloc (.cells #[.int .i64 x, .int .i64 y, .int .i64 s, .slice none 0 0, .slice ao 0 c] 48)) = W3 at *
 obtain ⟨G, hG⟩ : ∃ G, w2.heap.size = G := ⟨_, rfl⟩
 have hGw : w.heap.size + 2 < G := by rcases HSZ.out with h | h <;> have := hsz.out <;> omega
 rw [hG] at B2 hI5 ⊢
 clear hG HSZ hsz
 have hBBW : Below wb.heap.size wb W3 := HB.trans (HBA.mono HB.size)
 obtain ⟨hf, hhf⟩ : ∃ hf, s / 2 = hf := ⟨_, rfl⟩
 obtain ⟨TK, hTK⟩ : ∃ TK : Nat → QT, (fun k => trQ Q d ((kp (fun a x y => mrd Q d a x y hf) (at_ + 1) x y hf k).getD 0) (kX x hf k) (kY y hf k) hf) = TK := ⟨_, rfl⟩
 have HHF : Hid (s / 2 = hf) := hhf
 have HTK : Hid ((fun k => trQ Q d ((kp (fun a x y => mrd Q d a x y hf) (at_ + 1) x y hf k).getD 0) (kX x hf k) (kY y hf k) hf) = TK) := hTK
 clear hTK
 have m3 := B1.c 3 rfl
 go_wp2_with fail
 clear m3
 go_loopw [1, 17] (fun iat ik wr => ∃ (k a : Nat) (kv : Value) (kvf evf : Nat → Value), k ≤ 4 ∧ ik = .int .i64 k ∧ iat = .int .i64 a ∧ kp (fun a x y => mrd Q d a x y hf) (at_ + 1) x y hf k = some a ∧ Blk wr G [.int .i64 x, .int .i64 y, .int .i64 s, kv, .slice ao 0 c] ∧ wr.ownsRow (G + 1) 48 5 kv k (kdL x y hf kvf evf k) ∧ (∀ j, j < k → MTr (okK G kv) wr (TK j) (kX x hf j) (kY y hf j) hf (kvf j) (evf j)) ∧ Below G W3 wr ∧ G < wr.heap.size) (fun _ i _ => 4 - (intOf i).toNat)
 case atStart => exact ⟨0, at_ + 1, .slice none 0 0, fun _ => .slice none 0 0, fun _ => .slice none 0 0, by omega, rfl, by push_cast; rfl, rfl, B2, World.ownsRow_nil _ _ _ _, fun j hj => absurd hj (by omega), Below.refl _ _, B2.lt⟩
 case round =>
   obtain ⟨k, a, kv, kvf, evf, hk, rfl, rfl, hkp, BG, HO, HM, HBG, hGl⟩ := hrel
   by_cases hk4 : k < 4
   · have hkI : (k : Int) < 4 := by omega
     have hDm : D - 1 = (d : Int) := by have := HD.out; omega
     have hsq := hq.kid hk4
     rw [HHF.out] at hsq
     obtain ⟨m1, m2⟩ : at_ + 1 ≤ a ∧ a ≤ Q.N := kp_le (by omega) k a hkp
     have C := ih a (kX x hf k) (kY y hf k) hf wr m2 hsq (hBBW.trans (HBG.mono (by have := HB.size; omega)))
     obtain ⟨wv0, wv1, wv2⟩ := kid_wrap hq HHF.out hk4
     go_wp2_with fail
     rw [wv0, wv1, wv2]
     refine C.mono ?_
     rintro r w1 ⟨hB1, hC⟩
     rcases hC with ⟨hn, rfl⟩ | ⟨e, kv1, ev1, he, rfl, hM1⟩
     · have hkn : Hid (mrd Q (d + 1) at_ x y s = none) := by
         show _ = _
         rw [mrd_split Hb.out HT.out HL.out, HHF.out]
         have h1 : kp (fun a x y => mrd Q d a x y hf) (at_ + 1) x y hf (k + 1) = none := by show (kp (fun a x y => mrd Q d a x y hf) (at_ + 1) x y hf k).bind _ = none; rw [hkp]; exact hn
         have h2 := kp_none h1 (3 - k)
         rw [show k + 1 + (3 - k) = 4 by omega] at h2
         exact h2
       have B0w := ((B0.below HBG (by omega)).step hB1).alloc (.cells #[.int .i64 0, .int .i64 0, .int .i64 0, .slice none 0 0, .slice none 0 0] 48)
       replace HBA := (((HBA.trans (HBG.mono (by omega))).trans (hB1.mono (by omega)))).alloc (by have := hB1.size; omega) (.cells #[.int .i64 0, .int .i64 0, .int .i64 0, .slice none 0 0, .slice none 0 0] 48)
       have BF := z5_set B0w
       have z0 := B0w.c 0 rfl; have z1 := B0w.c 1 rfl; have z2 := B0w.c 2 rfl; have z3 := B0w.c 3 rfl; have z4 := B0w.c 4 rfl; have y0 := B0w.f 0 rfl; have y1 := B0w.f 1 rfl; have y2 := B0w.f 2 rfl; have y3 := B0w.f 3 rfl; have y4 := B0w.f 4 rfl
       clear B0w HM HO BG hkp hn C
       go_upto_region 15 with fail
       generalize (w1.alloc (.cells #[.int .i64 0, .int .i64 0, .int .i64 0, .slice none 0 0, .slice none 0 0] 48)) = W5 at *
       go_wp2
       have r0 := BF.out.c 0 rfl; have r1 := BF.out.c 1 rfl; have r2 := BF.out.c 2 rfl; have r3 := BF.out.c 3 rfl; have r4 := BF.out.c 4 rfl
       refine bodyPost_ret (v := .tuple #[.agg #[.int .i64 0, .int .i64 0, .int .i64 0, .slice none 0 0, .slice none 0 0], .int .i64 0, .bool false]) (by simp [results, Try.results34, go_sem, r0, r1, r2, r3, r4]) rfl ?_
       exact ⟨(((((Below.setCell HBA (Nat.le_refl _) _).setCell (Nat.le_refl _) _).setCell (Nat.le_refl _) _).setCell (Nat.le_refl _) _).setCell (Nat.le_refl _) _), .inl ⟨hkn.out, rfl⟩⟩
     · obtain ⟨ko, kn, kc, eo, en, ec, rfl, rfl⟩ := hM1.vals
       have B5 : Blk (w1.alloc (.cells #[.int .i64 (kX x hf k), .int .i64 (kY y hf k), .int .i64 hf, .slice ko kn kc, .slice eo en ec] 48)) w1.heap.size [.int .i64 (kX x hf k), .int .i64 (kY y hf k), .int .i64 hf, .slice ko kn kc, .slice eo en ec] := Blk.new w1 [.int .i64 (kX x hf k), .int .i64 (kY y hf k), .int .i64 hf, .slice ko kn kc, .slice eo en ec] 48 rfl
       have HB15 : Below wr.heap.size wr (w1.alloc (.cells #[.int .i64 (kX x hf k), .int .i64 (kY y hf k), .int .i64 hf, .slice ko kn kc, .slice eo en ec] 48)) := hB1.alloc hB1.size _
       have HM5 : Hid (∀ j, j < k → MTr (okK G kv) (w1.alloc (.cells #[.int .i64 (kX x hf k), .int .i64 (kY y hf k), .int .i64 hf, .slice ko kn kc, .slice eo en ec] 48)) (TK j) (kX x hf j) (kY y hf j) hf (kvf j) (evf j)) := fun j hj => (HM j hj).step HB15
       have hM5 : MTr (fun b => wr.heap.size ≤ b) (w1.alloc (.cells #[.int .i64 (kX x hf k), .int .i64 (kY y hf k), .int .i64 hf, .slice ko kn kc, .slice eo en ec] 48)) (trQ Q d a (kX x hf k) (kY y hf k) hf) (kX x hf k) (kY y hf k) hf (.slice ko kn kc) (.slice eo en ec) := hM1.step ((Below.refl _ _).alloc (Nat.le_refl _) _)
       have hkvb : ∀ b, kv.ownBlock = some b → b < wr.heap.size := fun b hb => (HO.lt b hb).2
       go_upto_region 16 with fail
       replace BG := BG.step HB15
       replace HO := ownA_step HO HB15
       replace HBG := HBG.trans (HB15.mono (Nat.le_of_lt hGl))
       have hwr5 := HB15.size
       have h15 : w1.heap.size < (w1.alloc (.cells #[.int .i64 (kX x hf k), .int .i64 (kY y hf k), .int .i64 hf, .slice ko kn kc, .slice eo en ec] 48)).heap.size := by simp
       clear HM hM1 HB15 hB1 C wv0 wv1 wv2
       generalize (w1.alloc (.cells #[.int .i64 (kX x hf k), .int .i64 (kY y hf k), .int .i64 hf, .slice ko kn kc, .slice eo en ec] 48)) = W5 at *
       have p0 := B5.c 0 rfl; have p1 := B5.c 1 rfl; have p2 := B5.c 2 rfl; have p3 := B5.c 3 rfl; have p4 := B5.c 4 rfl
       have g3 := BG.c 3 rfl
       have HO6 := ownA_step HO ((Below.refl _ _).alloc (Nat.le_refl _) (.cells #[.int .i64 (kX x hf k), .int .i64 (kY y hf k), .int .i64 hf, .slice ko kn kc, .slice eo en ec] 48))
       have BG6 := BG.alloc (.cells #[.int .i64 (kX x hf k), .int .i64 (kY y hf k), .int .i64 hf, .slice ko kn kc, .slice eo en ec] 48)
       have HBG6 := HBG.alloc (Nat.le_of_lt (Nat.lt_of_lt_of_le hGl hwr5)) (.cells #[.int .i64 (kX x hf k), .int .i64 (kY y hf k), .int .i64 hf, .slice ko kn kc, .slice eo en ec] 48)
       have hs6 : Hid ((W5.alloc (.cells #[.int .i64 (kX x hf k), .int .i64 (kY y hf k), .int .i64 hf, .slice ko kn kc, .slice eo en ec] 48)).heap.size = W5.heap.size + 1) := by show (W5.alloc _).heap.size = _; simp
       go_wp2_with (at_builtin; go_loud (refine wpList_append_own_at _ rfl _ _ 46 rfl (G + 1) 48 i0 (.agg #[.int .i64 0, .int .i64 0, .int .i64 0, .slice none 0 0, .slice none 0 0]) 5 72 Try.underlying46 hi hz0 hz1 hz2 rfl (by decide) _ _ _ rfl HO6 ⟨W5.heap.size, 0, none⟩ 1 1 [.int .i64 (kX x hf k), .int .i64 (kY y hf k), .int .i64 hf, .slice ko kn kc, .slice eo en ec] rfl rfl (new_cells _ _ _) (one5 _ _ _ _ _ _ _ _ _) (by unfold maxLen; omega) (by omega) (by have := hs6.out; omega) ?_))
       intro v' w' hown hgrow _ hob
       have hold : ∀ b, b < W5.heap.size → some b ≠ kv.ownBlock → w'.heap[b]? = W5.heap[b]? := fun b hb hne => (hgrow.block b (by have := hs6.out; omega) hne).trans (((Below.refl W5.heap.size W5).alloc (Nat.le_refl _) _).block b hb)
       have hsz5 : W5.heap.size ≤ w'.heap.size := by have h := hgrow.size; have := hs6.out; omega
       have HKN : Hid (∀ j, j < k + 1 → MTr (okK G v') w' (TK j) (kX x hf j) (kY y hf j) hf (setV kvf k (.slice ko kn kc) j) (setV evf k (.slice eo en ec) j)) := fun j hj => by
         by_cases e2 : j = k
         · subst e2
           rw [show setV kvf j (.slice ko kn kc) j = .slice ko kn kc from if_pos rfl, show setV evf j (.slice eo en ec) j = .slice eo en ec from if_pos rfl, ← HTK.out]
           simp only [hkp, Option.getD_some]
           refine MTr.keep hsz5 (fun b hb hb2 => hold b hb2 (fun e3 => by have := hkvb b e3.symm; omega)) (fun b hb hb2 => ⟨by omega, fun e3 => ?_⟩) hM5
           rcases hob with h | h
           · rw [h] at e3; have := hkvb b e3.symm; omega
           · rw [h] at e3; have := Option.some.inj e3; omega
         · rw [show setV kvf k (.slice ko kn kc) j = kvf j from if_neg e2, show setV evf k (.slice eo en ec) j = evf j from if_neg e2]
           refine MTr.keep hsz5 (fun b hb hb2 => hold b hb2 hb.2) (fun b hb hb2 => ⟨hb.1, fun e3 => ?_⟩) (HM5.out j (by omega))
           rcases hob with h | h
           · rw [h] at e3; exact hb.2 e3
           · rw [h] at e3; have := Option.some.inj e3; omega
       obtain ⟨ao', cap', rfl⟩ := ownQ_slice hown
       rw [← kdL_set] at hown
       have BG7 := BG6.grown hgrow (fun e3 => by have := (HO6.lt G e3.symm).1; omega)
       have HBG7 := HBG6.grown hgrow (by have := hs6.out; omega) (fun b hb => by have := (HO6.lt b hb).1; omega)
       have g3f := BG7.f 3 rfl; have g3c := BG7.c 3 rfl
       have BGN : Blk (w'.setCell ⟨G, 3, none⟩ (.slice ao' (k + 1) cap')) G [.int .i64 x, .int .i64 y, .int .i64 s, .slice ao' (k + 1) cap', .slice ao 0 c] := BG7.setI 3 (by simp) _
       have HON : (w'.setCell ⟨G, 3, none⟩ (.slice ao' (k + 1) cap')).ownsRow (G + 1) 48 5 (.slice ao' (k + 1) cap') (k + 1) (kdL x y hf (setV kvf k (.slice ko kn kc)) (setV evf k (.slice eo en ec)) (k + 1)) := ownQ_heap hown (fun b hb => Below.heap_setCell _ _ _ _ (by have := (hown.lt b hb).1; show b ≠ G; omega))
       have HMN : Hid (∀ j, j < k + 1 → MTr (okK G (.slice ao' (k + 1) cap')) (w'.setCell ⟨G, 3, none⟩ (.slice ao' (k + 1) cap')) (TK j) (kX x hf j) (kY y hf j) hf (setV kvf k (.slice ko kn kc) j) (setV evf k (.slice eo en ec) j)) := fun j hj => MTr.keep (by simp [World.setCell]) (fun b hb _ => Below.heap_setCell _ _ _ _ (by have := hb.1; show b ≠ G; omega)) (fun _ h _ => h) (HKN.out j hj)
       have HBN : Below G W3 (w'.setCell ⟨G, 3, none⟩ (.slice ao' (k + 1) cap')) := HBG7.setCell (Nat.le_refl _) _
       have hkpN : Hid (kp (fun a x y => mrd Q d a x y hf) (at_ + 1) x y hf (k + 1) = some e) := by show (kp (fun a x y => mrd Q d a x y hf) (at_ + 1) x y hf k).bind _ = some e; rw [hkp]; exact he
       have hGN := BGN.lt
       clear HKN BG7 HBG7 hown hgrow hob hold hsz5 HO6 BG6 HBG6 hs6 p0 p1 p2 p3 p4 g3 HO BG HBG hkp HM5 hM5 B5 hkvb
       go_wp2
       go_roundw
       case rel => exact ⟨k + 1, e, _, _, _, by omega, by go_num, rfl, hkpN.out, BGN, HON, HMN.out, HBN, hGN⟩
       case measure => simp [intOf]; omega
   · obtain rfl : k = 4 := by omega
     obtain ⟨gk, ck, rfl, hgk1, hgk2, _, _⟩ := ownQ_form HO (by omega)
     have B0w := B0.below HBG (by omega)
     have HBA2 := HBA.trans (HBG.mono (by omega))
     have hI6 := hI5.below HBG (fun b hb => hb.2)
     have MN : Hid (MTr (fun b => w.heap.size < b) wr (.node TK) x y s (.slice (some ⟨gk, 0, none⟩) 4 ck) (.slice ao 0 c)) := by
       refine MTr.node_of (kv' := kvf) (ev' := evf) (base := G + 1) (fun b hb => by omega) (hI6.keep (Nat.le_refl _) (fun _ _ _ => rfl) (fun b hb _ => by have := hWsz.out; have := hb.1; omega)) ?_ (fun k hk4 => ?_)
       · rw [HHF.out]; exact HO
       · rw [HHF.out]
         exact MTr.keep (Nat.le_refl _) (fun _ _ _ => rfl) (fun b hb _ => by have := hb.1; omega) (HM k hk4)
     have hmr : Hid (mrd Q (d + 1) at_ x y s = some a) := by show _ = _; rw [mrd_split Hb.out HT.out HL.out, HHF.out]; exact hkp
     have htr : Hid (trQ Q (d + 1) at_ x y s = .node TK) := by
       show _ = _
       rw [show trQ Q (d + 1) at_ x y s = if Q.T at_ = true then .node (fun k => trQ Q d ((kp (fun a x y => mrd Q d a x y (s / 2)) (at_ + 1) x y (s / 2) k).getD 0) (kX x (s / 2) k) (kY y (s / 2) k) (s / 2)) else .leaf (blL Q at_) from rfl, if_pos HT.out, HHF.out, HTK.out]
     have z0 := B0w.c 0 rfl; have z1 := B0w.c 1 rfl; have z2 := B0w.c 2 rfl; have z3 := B0w.c 3 rfl; have z4 := B0w.c 4 rfl; have y0 := B0w.f 0 rfl; have y1 := B0w.f 1 rfl; have y2 := B0w.f 2 rfl; have y3 := B0w.f 3 rfl; have y4 := B0w.f 4 rfl
     have n0 := BG.c 0 rfl; have n1 := BG.c 1 rfl; have n2 := BG.c 2 rfl; have n3 := BG.c 3 rfl; have n4 := BG.c 4 rfl
     have BF : Hid (Blk (((((wr.setCell ⟨w.heap.size, 0, none⟩ (.int .i64 x)).setCell ⟨w.heap.size, 1, none⟩ (.int .i64 y)).setCell ⟨w.heap.size, 2, none⟩ (.int .i64 s)).setCell ⟨w.heap.size, 3, none⟩ (.slice (some ⟨gk, 0, none⟩) 4 ck)).setCell ⟨w.heap.size, 4, none⟩ (.slice ao 0 c)) w.heap.size [.int .i64 x, .int .i64 y, .int .i64 s, .slice (some ⟨gk, 0, none⟩) 4 ck, .slice ao 0 c]) := ((((B0w.setI 0 (by decide) _).setI 1 (by simp) _).setI 2 (by simp) _).setI 3 (by simp) _).setI 4 (by simp) _
     clear HM HO BG HBG HBA hI6 hkp B0w
     go_wp2
     have r0 := BF.out.c 0 rfl; have r1 := BF.out.c 1 rfl; have r2 := BF.out.c 2 rfl; have r3 := BF.out.c 3 rfl; have r4 := BF.out.c 4 rfl
     refine bodyPost_ret (v := .tuple #[.agg #[.int .i64 x, .int .i64 y, .int .i64 s, .slice (some ⟨gk, 0, none⟩) 4 ck, .slice ao 0 c], .int .i64 (a : Int), .bool true]) (by simp [results, Try.results34, go_sem, r0, r1, r2, r3, r4]) rfl ?_
     refine ⟨(((((Below.setCell HBA2 (Nat.le_refl _) _).setCell (Nat.le_refl _) _).setCell (Nat.le_refl _) _).setCell (Nat.le_refl _) _).setCell (Nat.le_refl _) _), .inr ⟨a, _, _, hmr.out, rfl, ?_⟩⟩
     rw [htr.out]
     exact MTr.keep (by simp [World.setCell]) (fun b hb _ => z5_other (by omega)) (fun b hb _ => Nat.le_of_lt hb) MN.out
theorem l13Read_any (Q : QD) (bo : Option Addr) (bcap A off : Nat) (so : Nat → Option Addr × Nat) (wb : World) (hN : Q.N ≤ 1048576) (hLb : ∀ i, i < Q.N → Q.L i ≤ 1048576) (hbo : 0 < Q.N → bo = some ⟨A, off, none⟩) (hso : ∀ i, i < Q.N → (so i).1 = none → (so i).2 = 0) (hBl : BlIn Q wb A off so) : ∀ (d at_ : Nat) (x y s : Int) (w : World), d ≤ 8 → at_ ≤ Q.N → Sq x y s → Below wb.heap.size wb w → Calls Try.prog 34 #[.slice bo Q.N bcap, .int .i64 (at_ : Int), .int .i64 x, .int .i64 y, .int .i64 s, .int .i64 (d : Int)] w (RdM Q d at_ x y s w) := by
 intro d
 induction d with
 | zero =>
   intro at_ x y s w hd hat _ HB
   exact l13Read_base Q bo bcap A off so wb hN hLb hbo hso hBl 0 at_ x y s w hd hat (fun h => absurd h.2.2.1 (by omega)) HB
 | succ d ih =>
   intro at_ x y s w hd hat hq HB
   by_cases hc : baseB Q at_ x y s = true ∧ Q.T at_ = true ∧ Q.L at_ = 0
   · exact l13Read_node Q bo bcap A off so wb hN hbo hso hBl d at_ x y s w hd hc.1 hc.2.1 hc.2.2 hq HB (fun a x y s w ha hq hB => ih a x y s w (by omega) ha hq hB)
   · exact l13Read_base Q bo bcap A off so wb hN hLb hbo hso hBl (d + 1) at_ x y s w hd hat (fun h => hc ⟨h.1, h.2.1, h.2.2.2⟩) HB
set_option maxRecDepth 100000 in
set_option maxHeartbeats 8000000 in
theorem treeRight_any (Q : QD) (ao : Option Addr) (cap : Nat) (h6 : Its6 Q (List.range Q.m)) (hm : Q.m ≤ 1048576) (t : QT) : ∀ (x y s : Int) (ok : Nat → Prop) (kv ev : Value) (w : World), Sq x y s → lenT t → MTr ok w t x y s kv ev → ItIn Q w ao (List.range Q.m) → Calls Try.prog 35 #[.agg #[.int .i64 x, .int .i64 y, .int .i64 s, kv, ev], .slice ao Q.m cap] w (VP (.bool (rtT Q t x y s)) w) := by
 induction t with
 | leaf l =>
   intro x y s ok kv ev w hq hl hM hS
   obtain ⟨rfl, eo, ec, rfl, hN, _⟩ := hM
   exact treeRight_leaf Q ao cap h6 hm l x y s eo ec hq hl w hN hS
 | node K ih =>
   intro x y s ok kv ev w hq hl hM hS
   obtain ⟨eo, en, ec, rfl⟩ : ∃ eo en ec, ev = .slice eo en ec := by obtain ⟨⟨ao, c, h, _⟩, _⟩ := hM; exact ⟨_, _, _, h⟩
   obtain ⟨_, A, kc, rfl, hA, _, hk⟩ := hM
   have B0 : Blk (w.alloc (.cells #[.int .i64 x, .int .i64 y, .int .i64 s, .slice (some ⟨A, 0, none⟩) 4 kc, .slice eo en ec] 48)) w.heap.size [.int .i64 x, .int .i64 y, .int .i64 s, .slice (some ⟨A, 0, none⟩) 4 kc, .slice eo en ec] := Blk.new w [.int .i64 x, .int .i64 y, .int .i64 s, .slice (some ⟨A, 0, none⟩) 4 kc, .slice eo en ec] 48 rfl
   have HB : Below w.heap.size w (w.alloc (.cells #[.int .i64 x, .int .i64 y, .int .i64 s, .slice (some ⟨A, 0, none⟩) 4 kc, .slice eo en ec] 48)) := (Below.refl _ w).alloc (Nat.le_refl _) _
   obtain ⟨hf, hhf⟩ : ∃ hf, s / 2 = hf := ⟨_, rfl⟩
   have HHF : Hid (s / 2 = hf) := hhf
   rw [hhf] at hk
   clear hhf
   have HK : Hid (∀ k, k < 4 → ∃ kv' ev', w.cell? ⟨A, k * 5, none⟩ = some (.int .i64 (kX x hf k)) ∧ w.cell? ⟨A, k * 5 + 1, none⟩ = some (.int .i64 (kY y hf k)) ∧ w.cell? ⟨A, k * 5 + 2, none⟩ = some (.int .i64 hf) ∧ w.cell? ⟨A, k * 5 + 3, none⟩ = some kv' ∧ w.cell? ⟨A, k * 5 + 4, none⟩ = some ev' ∧ MTr ok w (K k) (kX x hf k) (kY y hf k) hf kv' ev') := hk
   have HS : Hid (ItIn Q w ao (List.range Q.m)) := hS
   clear hk hS
   go_enter Try.func35, Try.ntmps35
   go_upto_region 1 with fail
   generalize (w.alloc (.cells #[.int .i64 x, .int .i64 y, .int .i64 s, .slice (some ⟨A, 0, none⟩) 4 kc, .slice eo en ec] 48)) = W1 at *
   have m3 := B0.c 3 rfl
   go_wp2_with fail
   clear m3
   go_loopw [5] (fun i wr => ∃ c : Nat, c ≤ 4 ∧ i = .int .i64 c ∧ (∀ j, j < c → rtT Q (K j) (kX x hf j) (kY y hf j) hf = true) ∧ Blk wr w.heap.size [.int .i64 x, .int .i64 y, .int .i64 s, .slice (some ⟨A, 0, none⟩) 4 kc, .slice eo en ec] ∧ Below w.heap.size w wr) (fun i _ => 4 - (intOf i).toNat)
   case atStart => exact ⟨0, by omega, rfl, fun j hj => absurd hj (by omega), B0, HB⟩
   case round =>
     clear B0 HB
     obtain ⟨c, hc, rfl, hall, B0, HB⟩ := hrel
     have HALL : Hid (∀ j, j < c → rtT Q (K j) (kX x hf j) (kY y hf j) hf = true) := hall
     clear hall
     by_cases hc4 : c < 4
     · have hcI : (c : Int) < 4 := by omega
       obtain ⟨kv', ev', c0, c1, c2, c3, c4, hM⟩ := HK.out c hc4
       obtain ⟨ko, kn, kc', eo', en', ec', rfl, rfl⟩ := hM.vals
       have hsq := hq.kid hc4
       rw [HHF.out] at hsq
       have C := ih c (kX x hf c) (kY y hf c) hf ok _ _ wr hsq (hl c hc4) (MTr.keep HB.size (fun b _ hb => HB.block b hb) (fun _ h _ => h) hM) (HS.out.step HB)
       have hcc : ∀ j, wr.cell? ⟨A, j, none⟩ = w.cell? ⟨A, j, none⟩ := fun j => HB.cell (p := ⟨A, j, none⟩) hA
       have e0 := (hcc _).trans c0; have e1 := (hcc _).trans c1; have e2 := (hcc _).trans c2; have e3 := (hcc _).trans c3; have e4 := (hcc _).trans c4
       have m3 := B0.c 3 rfl
       clear hcc c0 c1 c2 c3 c4 hM ih
       obtain ⟨b, hb⟩ : ∃ b, rtT Q (K c) (kX x hf c) (kY y hf c) hf = b := ⟨_, rfl⟩
       rw [hb] at C
       have HBB : Hid (rtT Q (K c) (kX x hf c) (kY y hf c) hf = b) := hb
       clear hb
       go_wp2_with fail
       refine C.mono ?_
       rintro r w1 ⟨rfl, hB1⟩
       replace B0 := B0.step hB1
       replace HB := HB.trans (hB1.mono HB.size)
       clear C hB1 e0 e1 e2 e3 e4 m3
       cases b with
       | false =>
         go_wp2
         refine bodyPost_ret (v := .bool false) (by simp [results, Try.results35, go_sem]) rfl ?_
         refine ⟨?_, HB⟩
         rw [show rtT Q (.node K) x y s = false from ?_]
         show (List.range 4).all (fun k => rtT Q (K k) (kX x (s / 2) k) (kY y (s / 2) k) (s / 2)) = false
         rw [HHF.out, List.all_eq_false]
         exact ⟨c, List.mem_range.2 hc4, by rw [HBB.out]; decide⟩
       | true =>
         have HN : Hid (∀ j, j < c + 1 → rtT Q (K j) (kX x hf j) (kY y hf j) hf = true) := fun j hj => by
           by_cases e : j = c
           · subst e; exact HBB.out
           · exact HALL.out j (by omega)
         go_wp2
         go_roundw
         case rel => exact ⟨c + 1, by omega, by go_num, HN.out, B0, HB⟩
         case measure => simp [intOf]; omega
     · obtain rfl : c = 4 := by omega
       go_wp2
       refine bodyPost_ret (v := .bool true) (by simp [results, Try.results35, go_sem]) rfl ?_
       refine ⟨?_, HB⟩
       rw [show rtT Q (.node K) x y s = true from ?_]
       show (List.range 4).all (fun k => rtT Q (K k) (kX x (s / 2) k) (kY y (s / 2) k) (s / 2)) = true
       rw [HHF.out, List.all_eq_true]
       exact fun k hk => HALL.out k (List.mem_range.1 hk)
def nlT : QT → Nat
 | .leaf _ => 1
 | .node K => nlT (K 0) + nlT (K 1) + nlT (K 2) + nlT (K 3)
def dpT : QT → Nat
 | .leaf _ => 0
 | .node K => max (max (max (dpT (K 0) + 1) (dpT (K 1) + 1)) (dpT (K 2) + 1)) (dpT (K 3) + 1)
def dpB : Nat → QT → Prop
 | _, .leaf _ => True
 | 0, .node _ => False
 | d + 1, .node K => ∀ k, k < 4 → dpB d (K k)
theorem dp_tr (Q : QD) : ∀ (d at_ : Nat) (x y s : Int), dpB d (trQ Q d at_ x y s)
 | 0, _, _, _, _ => trivial
 | d + 1, at_, x, y, s => by
   unfold trQ
   split
   · exact fun k _ => dp_tr Q d _ _ _ _
   · trivial
theorem nl_le : ∀ (d : Nat) (t : QT), dpB d t → nlT t ≤ 4 ^ d
 | d, .leaf _, _ => Nat.one_le_pow _ _ (by omega)
 | 0, .node _, h => by cases h
 | d + 1, .node K, h => by
   have h0 := nl_le d _ (h 0 (by omega)); have h1 := nl_le d _ (h 1 (by omega)); have h2 := nl_le d _ (h 2 (by omega)); have h3 := nl_le d _ (h 3 (by omega))
   simp only [nlT]
   rw [Nat.pow_succ]
   omega
theorem dp_le : ∀ (d : Nat) (t : QT), dpB d t → dpT t ≤ d
 | d, .leaf _, _ => Nat.zero_le _
 | 0, .node _, h => by cases h
 | d + 1, .node K, h => by
   have h0 := dp_le d _ (h 0 (by omega)); have h1 := dp_le d _ (h 1 (by omega)); have h2 := dp_le d _ (h 2 (by omega)); have h3 := dp_le d _ (h 3 (by omega))
   simp only [dpT]
   omega
theorem nl_small {d : Nat} {t : QT} (hd : d ≤ 8) (h : dpB d t) : nlT t ≤ 65536 :=
 Nat.le_trans (nl_le d t h) (Nat.le_trans (Nat.pow_le_pow_right (by omega) hd) (by decide))
set_option maxRecDepth 100000 in
set_option maxHeartbeats 2000000 in
theorem eqBlock_same (x y z : Int) (t : Bool) (ao co : Option Addr) (m mc md : Nat) (e : Nat → Int) (hm : m ≤ 1048576) (w : World) (hA : NoIn w ao m e) (hC : NoIn w co m e) : Calls Try.prog 52 #[.agg #[.int .i64 x, .int .i64 y, .int .i64 z, .bool t, .slice ao m mc], .agg #[.int .i64 x, .int .i64 y, .int .i64 z, .bool t, .slice co m md]] w (VP (.bool true) w) := by
 have B0 := (Blk.new w [.int .i64 x, .int .i64 y, .int .i64 z, .bool t, .slice ao m mc] 89 rfl).alloc (.cells #[.int .i64 x, .int .i64 y, .int .i64 z, .bool t, .slice co m md] 89)
 have B1 := Blk.new (w.alloc (.cells #[.int .i64 x, .int .i64 y, .int .i64 z, .bool t, .slice ao m mc] 89)) [.int .i64 x, .int .i64 y, .int .i64 z, .bool t, .slice co m md] 89 (g := w.heap.size + 1) (by simp)
 have HB := ((Below.refl _ w).alloc (Nat.le_refl _) (.cells #[.int .i64 x, .int .i64 y, .int .i64 z, .bool t, .slice ao m mc] 89)).alloc (by simp) (.cells #[.int .i64 x, .int .i64 y, .int .i64 z, .bool t, .slice co m md] 89)
 have HA := hA.step HB
 have HC := hC.step HB
 have EP := fun w h h' => eqNoS_any ao co m mc md e hm w h h'
 clear hA hC
 go_enter Try.func52, Try.ntmps52
 go_upto_region 1 with fail
 generalize ((w.alloc (.cells #[.int .i64 x, .int .i64 y, .int .i64 z, .bool t, .slice ao m mc] 89)).alloc (.cells #[.int .i64 x, .int .i64 y, .int .i64 z, .bool t, .slice co m md] 89)) = W1 at *
 have p0 := B0.c 0 rfl; have p1 := B0.c 1 rfl; have p2 := B0.c 2 rfl; have p3 := B0.c 3 rfl; have p4 := B0.c 4 rfl
 have q0 := B1.c 0 rfl; have q1 := B1.c 1 rfl; have q2 := B1.c 2 rfl; have q3 := B1.c 3 rfl; have q4 := B1.c 4 rfl
 clear B0 B1
 go_wp2_with fail
 refine (EP _ HA HC).mono ?_
 rintro r w1 ⟨rfl, hB⟩
 have HB2 := HB.trans (hB.mono HB.size)
 clear hB HB p0 p1 p2 p3 p4 q0 q1 q2 q3 q4 EP HA HC
 go_wp2
 go_ret
 exact ⟨rfl, HB2⟩
def VqeJ (A off D od n ca cb c m mc md : Nat) (ao co : Option Addr) (x y z : Int) (t : Bool) (_B : Nat) : Nat → Value → World → Prop
 | 0, v, _ => v = .slice (some ⟨A, off, none⟩) n ca
 | 1, v, _ => v = .int .i64 (c : Int)
 | 2, v, _ => v = .pointer (some ⟨A, off + c * 5, none⟩)
 | 3, v, _ => v = .agg #[.int .i64 x, .int .i64 y, .int .i64 z, .bool t, .slice ao m mc]
 | 4, v, _ => v = .slice (some ⟨D, od, none⟩) n cb
 | 5, v, _ => v = .int .i64 (c : Int)
 | 6, v, _ => v = .pointer (some ⟨D, od + c * 5, none⟩)
 | 7, v, _ => v = .agg #[.int .i64 x, .int .i64 y, .int .i64 z, .bool t, .slice co m md]
 | 8, v, _ => v = .bool true
 | 9, v, _ => v = .bool false
 | _, _, _ => True
theorem VqeJ.mono {A off D od n ca cb c m mc md : Nat} {ao co : Option Addr} {x y z : Int} {t : Bool} {B j : Nat} {v : Value} {W W2 : World} (_hB : Below W.heap.size W W2) (h : VqeJ A off D od n ca cb c m mc md ao co x y z t B j v W) : VqeJ A off D od n ca cb c m mc md ao co x y z t B j v W2 := by
 unfold VqeJ at *
 split <;> simp only at h <;> first | exact h | trivial
set_option maxRecDepth 100000 in
set_option maxHeartbeats 4000000 in
theorem qeJ {Q : Exit → Act → World → Prop} {A off D od n ca cb c m mc md : Nat} {ao co : Option Addr} {x y z : Int} {t : Bool} {e : Nat → Int} {w0 : World} {a0 : Act} {idq : Nat} {t0 t1 t2 t3 t4 t5 t6 t7 t8 t9 : TypeId} {q0 q1 q2 q3 q4 q5 q6 q7 q8 q9 : String}
   (hcn : c < n) (hn : n ≤ 1048576) (hm : m ≤ 1048576) (hNA : NoIn w0 ao m e) (hNB : NoIn w0 co m e) (h0 : a0.tmps[0]? = some (.slice (some ⟨A, off, none⟩) n ca)) (h1 : a0.tmps[1]? = some (.slice (some ⟨D, od, none⟩) n cb)) (h5 : a0.tmps[5]? = some (.int .i64 (c : Int))) (k0 : w0.cell? ⟨A, off + c * 5, none⟩ = some (.int .i64 x)) (l0 : (⟨A, off + c * 5, none⟩ : Addr).block < w0.heap.size) (k1 : w0.cell? ⟨A, off + c * 5 + 1, none⟩ = some (.int .i64 y)) (l1 : (⟨A, off + c * 5 + 1, none⟩ : Addr).block < w0.heap.size) (k2 : w0.cell? ⟨A, off + c * 5 + 2, none⟩ = some (.int .i64 z)) (l2 : (⟨A, off + c * 5 + 2, none⟩ : Addr).block < w0.heap.size) (k3 : w0.cell? ⟨A, off + c * 5 + 3, none⟩ = some (.bool t)) (l3 : (⟨A, off + c * 5 + 3, none⟩ : Addr).block < w0.heap.size) (k4 : w0.cell? ⟨A, off + c * 5 + 4, none⟩ = some (.slice ao m mc)) (l4 : (⟨A, off + c * 5 + 4, none⟩ : Addr).block < w0.heap.size) (k5 : w0.cell? ⟨D, od + c * 5, none⟩ = some (.int .i64 x)) (l5 : (⟨D, od + c * 5, none⟩ : Addr).block < w0.heap.size) (k6 : w0.cell? ⟨D, od + c * 5 + 1, none⟩ = some (.int .i64 y)) (l6 : (⟨D, od + c * 5 + 1, none⟩ : Addr).block < w0.heap.size) (k7 : w0.cell? ⟨D, od + c * 5 + 2, none⟩ = some (.int .i64 z)) (l7 : (⟨D, od + c * 5 + 2, none⟩ : Addr).block < w0.heap.size) (k8 : w0.cell? ⟨D, od + c * 5 + 3, none⟩ = some (.bool t)) (l8 : (⟨D, od + c * 5 + 3, none⟩ : Addr).block < w0.heap.size) (k9 : w0.cell? ⟨D, od + c * 5 + 4, none⟩ = some (.slice co m md)) (l9 : (⟨D, od + c * 5 + 4, none⟩ : Addr).block < w0.heap.size) (hz : a0.tmps.size = 27)
   (hQ : ∀ aq W, aq.tmps.size = a0.tmps.size → aq.defers = a0.defers → (∀ e, e ∉ ([17, 18, 19, 20, 21, 22, 23, 24, 25, 26] : List Nat) → aq.tmps[e]? = a0.tmps[e]?) → VqeJ A off D od n ca cb c m mc md ao co x y z t w0.heap.size 9 (aq.tmps.getD 26 undef) W → Below w0.heap.size w0 W → Q .normal aq W) :
   (Code.region idq #[{ dst := some 17, op := Op.move (Operand.tmp 0), type := t0, pos := q0, after := #[], guard := none },
   { dst := some 18, op := Op.move (Operand.tmp 5), type := t1, pos := q1, after := #[], guard := none },
   { dst := some 19, op := Op.indexAddr 33 (Operand.tmp 17) (Operand.tmp 18), type := t2, pos := q2, after := #[{ on := 0, ground := Ground.data }, { on := 1, ground := Ground.data }], guard := none },
   { dst := some 20, op := Op.load 89 (Operand.tmp 19), type := t3, pos := q3, after := #[{ on := 2, ground := Ground.data }], guard := none },
   { dst := some 21, op := Op.move (Operand.tmp 1), type := t4, pos := q4, after := #[], guard := none },
   { dst := some 22, op := Op.move (Operand.tmp 5), type := t5, pos := q5, after := #[], guard := none },
   { dst := some 23, op := Op.indexAddr 33 (Operand.tmp 21) (Operand.tmp 22), type := t6, pos := q6, after := #[{ on := 4, ground := Ground.data }, { on := 5, ground := Ground.data }], guard := none },
   { dst := some 24, op := Op.load 89 (Operand.tmp 23), type := t7, pos := q7, after := #[{ on := 6, ground := Ground.data }], guard := none },
   { dst := some 25, op := Op.call { callee := Callee.value (Operand.func 52), args := #[Operand.tmp 20, Operand.tmp 24], argTypes := #[89, 89] }, type := t8, pos := q8, after := #[{ on := 3, ground := Ground.data }, { on := 7, ground := Ground.data }], guard := none },
   { dst := some 26, op := Op.unOp UnOp.not 4 (Operand.tmp 25), type := t9, pos := q9, after := #[{ on := 8, ground := Ground.data }], guard := none }] true).wp Try.prog Q a0 w0 := by
 have hS : distS [some 17, some 18, some 19, some 20, some 21, some 22, some 23, some 24, some 25, some 26] = true := rfl
 refine wp_region_q (by kernel_rfl) w0.heap.size [some 17, some 18, some 19, some 20, some 21, some 22, some 23, some 24, some 25, some 26] (VqeJ A off D od n ca cb c m mc md ao co x y z t w0.heap.size) rfl ?_ ?_
 · intro Q lq aq W iq oq hJ hl ho hall
   have hJ2 := hJ
   obtain ⟨z1, z2, z3, z4, z5, z6, z7⟩ := hJ
   have g0 : aq.tmps.getD 0 undef = .slice (some ⟨A, off, none⟩) n ca := by rw [Array.getD_eq_getD_getElem?, z4 0 (by decide), h0]; rfl
   have g1 : aq.tmps.getD 1 undef = .slice (some ⟨D, od, none⟩) n cb := by rw [Array.getD_eq_getD_getElem?, z4 1 (by decide), h1]; rfl
   have g5 : aq.tmps.getD 5 undef = .int .i64 (c : Int) := by rw [Array.getD_eq_getD_getElem?, z4 5 (by decide), h5]; rfl
   have c0 : W.cell? ⟨A, off + c * 5, none⟩ = some (.int .i64 x) := (z5.cell l0).trans k0
   have c1 : W.cell? ⟨A, off + c * 5 + 1, none⟩ = some (.int .i64 y) := (z5.cell l1).trans k1
   have c2 : W.cell? ⟨A, off + c * 5 + 2, none⟩ = some (.int .i64 z) := (z5.cell l2).trans k2
   have c3 : W.cell? ⟨A, off + c * 5 + 3, none⟩ = some (.bool t) := (z5.cell l3).trans k3
   have c4 : W.cell? ⟨A, off + c * 5 + 4, none⟩ = some (.slice ao m mc) := (z5.cell l4).trans k4
   have c5 : W.cell? ⟨D, od + c * 5, none⟩ = some (.int .i64 x) := (z5.cell l5).trans k5
   have c6 : W.cell? ⟨D, od + c * 5 + 1, none⟩ = some (.int .i64 y) := (z5.cell l6).trans k6
   have c7 : W.cell? ⟨D, od + c * 5 + 2, none⟩ = some (.int .i64 z) := (z5.cell l7).trans k7
   have c8 : W.cell? ⟨D, od + c * 5 + 3, none⟩ = some (.bool t) := (z5.cell l8).trans k8
   have c9 : W.cell? ⟨D, od + c * 5 + 4, none⟩ = some (.slice co m md) := (z5.cell l9).trans k9
   match iq, ho with
   | 0, ho =>
     cases ho
     refine wpOp_of rfl rfl ?_
     have hK := fun (v : Value) (W2 : World) hW hT hv => hJ2.put hS 0 17 rfl (by omega) (W' := W2) hW hT v hv
     clear ho hall hl hQ
     generalize InvQ _ _ _ w0 a0 (lq.setIfInBounds 0 true) = K at hK ⊢
     clear hJ2 hS z1 z2 z3 z4 z6 z7
     go_simp
     exact hK _ _ z5 (fun _ _ h => h) rfl
   | 1, ho =>
     cases ho
     refine wpOp_of rfl rfl ?_
     have hK := fun (v : Value) (W2 : World) hW hT hv => hJ2.put hS 1 18 rfl (by omega) (W' := W2) hW hT v hv
     clear ho hall hl hQ
     generalize InvQ _ _ _ w0 a0 (lq.setIfInBounds 1 true) = K at hK ⊢
     clear hJ2 hS z1 z2 z3 z4 z6 z7
     go_simp
     exact hK _ _ z5 (fun _ _ h => h) rfl
   | 2, ho =>
     cases ho
     refine wpOp_of rfl rfl ?_
     have f0 : (aq.tmps.getD 17 undef) = .slice (some ⟨A, off, none⟩) n ca := z6 0 17 (hall { on := 0, ground := Ground.data } (by simp) rfl) rfl
     have f1 : (aq.tmps.getD 18 undef) = .int .i64 (c : Int) := z6 1 18 (hall { on := 1, ground := Ground.data } (by simp) rfl) rfl
     have hcI : (c : Int) < n := by omega
     have hnI : (n : Int) ≤ 1048576 := by omega
     have hK := fun (v : Value) (W2 : World) hW hT hv => hJ2.put hS 2 19 rfl (by omega) (W' := W2) hW hT v hv
     clear ho hall hl hQ
     generalize InvQ _ _ _ w0 a0 (lq.setIfInBounds 2 true) = K at hK ⊢
     clear hJ2 hS z1 z2 z3 z4 z6 z7
     go_simp
     exact hK _ _ z5 (fun _ _ h => h) rfl
   | 3, ho =>
     cases ho
     refine wpOp_of rfl rfl ?_
     have f2 : (aq.tmps.getD 19 undef) = .pointer (some ⟨A, off + c * 5, none⟩) := z6 2 19 (hall { on := 2, ground := Ground.data } (by simp) rfl) rfl
     have hK := fun (v : Value) (W2 : World) hW hT hv => hJ2.put hS 3 20 rfl (by omega) (W' := W2) hW hT v hv
     clear ho hall hl hQ
     generalize InvQ _ _ _ w0 a0 (lq.setIfInBounds 3 true) = K at hK ⊢
     clear hJ2 hS z1 z2 z3 z4 z6 z7
     go_simp
     exact hK _ _ z5 (fun _ _ h => h) rfl
   | 4, ho =>
     cases ho
     refine wpOp_of rfl rfl ?_
     have hK := fun (v : Value) (W2 : World) hW hT hv => hJ2.put hS 4 21 rfl (by omega) (W' := W2) hW hT v hv
     clear ho hall hl hQ
     generalize InvQ _ _ _ w0 a0 (lq.setIfInBounds 4 true) = K at hK ⊢
     clear hJ2 hS z1 z2 z3 z4 z6 z7
     go_simp
     exact hK _ _ z5 (fun _ _ h => h) rfl
   | 5, ho =>
     cases ho
     refine wpOp_of rfl rfl ?_
     have hK := fun (v : Value) (W2 : World) hW hT hv => hJ2.put hS 5 22 rfl (by omega) (W' := W2) hW hT v hv
     clear ho hall hl hQ
     generalize InvQ _ _ _ w0 a0 (lq.setIfInBounds 5 true) = K at hK ⊢
     clear hJ2 hS z1 z2 z3 z4 z6 z7
     go_simp
     exact hK _ _ z5 (fun _ _ h => h) rfl
   | 6, ho =>
     cases ho
     refine wpOp_of rfl rfl ?_
     have f4 : (aq.tmps.getD 21 undef) = .slice (some ⟨D, od, none⟩) n cb := z6 4 21 (hall { on := 4, ground := Ground.data } (by simp) rfl) rfl
     have f5 : (aq.tmps.getD 22 undef) = .int .i64 (c : Int) := z6 5 22 (hall { on := 5, ground := Ground.data } (by simp) rfl) rfl
     have hcI : (c : Int) < n := by omega
     have hnI : (n : Int) ≤ 1048576 := by omega
     have hK := fun (v : Value) (W2 : World) hW hT hv => hJ2.put hS 6 23 rfl (by omega) (W' := W2) hW hT v hv
     clear ho hall hl hQ
     generalize InvQ _ _ _ w0 a0 (lq.setIfInBounds 6 true) = K at hK ⊢
     clear hJ2 hS z1 z2 z3 z4 z6 z7
     go_simp
     exact hK _ _ z5 (fun _ _ h => h) rfl
   | 7, ho =>
     cases ho
     refine wpOp_of rfl rfl ?_
     have f6 : (aq.tmps.getD 23 undef) = .pointer (some ⟨D, od + c * 5, none⟩) := z6 6 23 (hall { on := 6, ground := Ground.data } (by simp) rfl) rfl
     have hK := fun (v : Value) (W2 : World) hW hT hv => hJ2.put hS 7 24 rfl (by omega) (W' := W2) hW hT v hv
     clear ho hall hl hQ
     generalize InvQ _ _ _ w0 a0 (lq.setIfInBounds 7 true) = K at hK ⊢
     clear hJ2 hS z1 z2 z3 z4 z6 z7
     go_simp
     exact hK _ _ z5 (fun _ _ h => h) rfl
   | 8, ho =>
     cases ho
     refine wpOp_of rfl rfl ?_
     have f3 : (aq.tmps.getD 20 undef) = .agg #[.int .i64 x, .int .i64 y, .int .i64 z, .bool t, .slice ao m mc] := z6 3 20 (hall { on := 3, ground := Ground.data } (by simp) rfl) rfl
     have f7 : (aq.tmps.getD 24 undef) = .agg #[.int .i64 x, .int .i64 y, .int .i64 z, .bool t, .slice co m md] := z6 7 24 (hall { on := 7, ground := Ground.data } (by simp) rfl) rfl
     have hK := fun (v : Value) (W2 : World) hW hT hv => hJ2.put hS 8 25 rfl (by omega) (W' := W2) hW hT v hv
     clear ho hall hl hQ
     generalize InvQ _ _ _ w0 a0 (lq.setIfInBounds 8 true) = K at hK ⊢
     clear hJ2 hS z1 z2 z3 z4 z6 z7
     go_simp
     refine (eqBlock_same x y z t ao co m mc md e hm W (hNA.step z5) (hNB.step z5)).mono ?_
     rintro e v1 ⟨rfl, hBv⟩
     exact hK _ _ (z5.trans (hBv.mono z5.size)) (fun j v h => h.mono hBv) rfl
   | 9, ho =>
     cases ho
     refine wpOp_of rfl rfl ?_
     have f8 : (aq.tmps.getD 25 undef) = .bool true := z6 8 25 (hall { on := 8, ground := Ground.data } (by simp) rfl) rfl
     have hK := fun (v : Value) (W2 : World) hW hT hv => hJ2.put hS 9 26 rfl (by omega) (W' := W2) hW hT v hv
     clear ho hall hl hQ
     generalize InvQ _ _ _ w0 a0 (lq.setIfInBounds 9 true) = K at hK ⊢
     clear hJ2 hS z1 z2 z3 z4 z6 z7
     go_simp
     exact hK _ _ z5 (fun _ _ h => h) rfl
   | iq + 10, ho => simp at ho
 · intro lq aq W hJ hr
   obtain ⟨z1, z2, z3, z4, z5, z6, z7⟩ := hJ
   have hl := listed_of hr [0, 1, 2, 3, 4, 5, 6, 7, 8, 9] [] (by simp) (by kernel_rfl) (by rw [z1]; decide)
   exact hQ aq W z2 z3 (fun e he => z4 e (by simpa using he)) (z6 9 26 (hl 9 (by simp)) rfl) z5
set_option maxRecDepth 100000 in
set_option maxHeartbeats 2000000 in
theorem eqBlockS_any (Q : QD) (ao bo : Option Addr) (ca cb A off D od : Nat) (so ro : Nat → Option Addr × Nat) (hN : Q.N ≤ 1048576) (hL : ∀ i, i < Q.N → Q.L i ≤ 1048576) (w : World) (hao : 0 < Q.N → ao = some ⟨A, off, none⟩) (hbo : 0 < Q.N → bo = some ⟨D, od, none⟩) (hA : BlIn Q w A off so) (hC : BlIn Q w D od ro) : Calls Try.prog 27 #[.slice ao Q.N ca, .slice bo Q.N cb] w (VP (.bool true) w) := by
 obtain ⟨n, hn⟩ : ∃ n, Q.N = n := ⟨_, rfl⟩
 have HN : Hid (Q.N = n) := hn
 have HL : Hid (∀ i, i < n → Q.L i ≤ 1048576) := by rw [← hn]; exact hL
 have HAO : Hid (0 < n → ao = some ⟨A, off, none⟩) := by rw [← hn]; exact hao
 have HBO : Hid (0 < n → bo = some ⟨D, od, none⟩) := by rw [← hn]; exact hbo
 have HA : Hid (BlIn Q w A off so) := hA
 have HC : Hid (BlIn Q w D od ro) := hC
 have hnI : (n : Int) ≤ 1048576 := by omega
 have hn2 : n ≤ 1048576 := by omega
 rw [hn]
 clear hA hC hn hL hao hbo hN
 go_enter Try.func27, Try.ntmps27
 go_wp2_with fail
 go_loopw [5] (fun i wr => ∃ c : Nat, c ≤ n ∧ i = .int .i64 c ∧ Below w.heap.size w wr) (fun i _ => n - (intOf i).toNat)
 case atStart => exact ⟨0, by omega, rfl, Below.refl _ _⟩
 case round =>
   obtain ⟨c, hc, rfl, HB⟩ := hrel
   by_cases hcn : c < n
   · obtain rfl := HAO.out (by omega)
     obtain rfl := HBO.out (by omega)
     obtain ⟨hA, q0, q1, q2, q3, q4, hNA⟩ := HA.out.below HB c (by rw [HN.out]; exact hcn)
     obtain ⟨hD, r0, r1, r2, r3, r4, hNB⟩ := HC.out.below HB c (by rw [HN.out]; exact hcn)
     have hcI : (c : Int) < n := by omega
     go_upto_region 6 with fail
     refine qeJ (A := A) (off := off) (D := D) (od := od) (n := n) (ca := ca) (cb := cb) (c := c) (m := Q.L c) (mc := (so c).2) (md := (ro c).2) (ao := (so c).1) (co := (ro c).1) (x := Q.X c) (y := Q.Y c) (z := Q.Z c) (t := Q.T c) (e := Q.E c) hcn hn2 (HL.out c hcn) hNA hNB rfl rfl rfl q0 hA q1 hA q2 hA q3 hA q4 hA r0 hD r1 hD r2 hD r3 hD r4 hD rfl ?_
     rintro ⟨tm, df⟩ Wz hz hdf hoff hx hBz
     simp only at hz hdf hoff hx
     change tm.getD 26 undef = .bool false at hx
     subst hdf
     have htm := tmps_fold [17, 18, 19, 20, 21, 22, 23, 24, 25, 26] tm _ hz hoff
     simp only [List.foldl, List.setIfInBounds_toArray, List.set_cons_zero, List.set_cons_succ, hx] at htm
     clear hz hoff
     generalize tm.getD 17 undef = pz0, tm.getD 18 undef = pz1, tm.getD 19 undef = pz2, tm.getD 20 undef = pz3, tm.getD 21 undef = pz4, tm.getD 22 undef = pz5, tm.getD 23 undef = pz6, tm.getD 24 undef = pz7, tm.getD 25 undef = pz8 at htm
     clear hx
     subst htm
     have HB2 := HB.trans (hBz.mono HB.size)
     clear HB hBz q0 q1 q2 q3 q4 r0 r1 r2 r3 r4 hNA hNB
     go_wp2
     go_roundw
     case rel => exact ⟨c + 1, by omega, by go_num, HB2⟩
     case measure => simp [intOf]; omega
   · obtain rfl : c = n := by omega
     clear HA HC
     go_wp2
     go_ret
     exact ⟨rfl, HB⟩
structure QuRow (Q : QD) (w : World) (b gi gb : Nat) (S : Nat → Nat) : Prop where
 its : w.rowIs gi 56 (Q.m * 5) (fun i => .int .i64 (xI Q i))
 lt : b ≤ gi
 bls : BlRow Q w b gb S
 d1 : gi ≠ gb
 d2 : ∀ j, j < Q.N → S j ≠ gi
theorem QuRow.step {Q : QD} {w w' : World} {b gi gb : Nat} {S : Nat → Nat} (h : QuRow Q w b gi gb S) (hB : Below w.heap.size w w') : QuRow Q w' b gi gb S :=
 ⟨rowI_step h.its hB, h.lt, h.bls.step hB, h.d1, h.d2⟩
theorem QuRow.setOther {Q : QD} {w : World} {b gi gb g : Nat} {S : Nat → Nat} (h : QuRow Q w b gi gb S) (hg : g < b) (k : Nat) (v : Value) : QuRow Q (w.setCell ⟨g, k, none⟩ v) b gi gb S :=
 ⟨h.its.setOther (by show gi ≠ g; have := h.lt; omega) v, h.lt, ⟨h.bls.row.setOther (by show gb ≠ g; have := h.bls.lt; omega) v, h.bls.lt, fun j hj => ⟨(h.bls.ids j hj).1, (h.bls.ids j hj).2.1, (h.bls.ids j hj).2.2.setOther (by show S j ≠ g; have := (h.bls.ids j hj).1; omega) v⟩, h.bls.up⟩, h.d1, h.d2⟩
set_option maxRecDepth 100000 in
set_option maxHeartbeats 4000000 in
theorem toQuad_any (Q : QD) (ao bo : Option Addr) (cap bcap A off : Nat) (so : Nat → Option Addr × Nat) (m d : Int) (hm : Q.m ≤ 1048576) (hN : Q.N ≤ 1048576) (hL : ∀ i, i < Q.N → Q.L i ≤ 1048576) (hbo : 0 < Q.N → bo = some ⟨A, off, none⟩) (w : World) (hS : ItIn Q w ao (List.range Q.m)) (hBl : BlIn Q w A off so) : Calls Try.prog 6 #[.agg #[.int .i64 m, .int .i64 d, .slice ao Q.m cap, .slice bo Q.N bcap]] w (fun r w' => ∃ gi gb S, r = .returned (.agg #[.int .i64 m, .int .i64 d, .slice (some ⟨gi, 0, none⟩) Q.m Q.m, .slice (some ⟨gb, 0, none⟩) Q.N Q.N]) ∧ QuRow Q w' w.heap.size gi gb S ∧ Below w.heap.size w w') := by
 have B0 : Blk ((w.alloc (.cells #[.int .i64 m, .int .i64 d, .slice ao Q.m cap, .slice bo Q.N bcap] 25)).alloc (.cells #[.int .i64 0, .int .i64 0, .slice none 0 0, .slice none 0 0] 35)) w.heap.size [.int .i64 m, .int .i64 d, .slice ao Q.m cap, .slice bo Q.N bcap] := (Blk.new w [.int .i64 m, .int .i64 d, .slice ao Q.m cap, .slice bo Q.N bcap] 25 rfl).alloc _
 have B1 : Blk ((w.alloc (.cells #[.int .i64 m, .int .i64 d, .slice ao Q.m cap, .slice bo Q.N bcap] 25)).alloc (.cells #[.int .i64 0, .int .i64 0, .slice none 0 0, .slice none 0 0] 35)) (w.heap.size + 1) [.int .i64 0, .int .i64 0, .slice none 0 0, .slice none 0 0] := Blk.new (w.alloc (.cells #[.int .i64 m, .int .i64 d, .slice ao Q.m cap, .slice bo Q.N bcap] 25)) [.int .i64 0, .int .i64 0, .slice none 0 0, .slice none 0 0] 35 (by simp)
 have HB : Below w.heap.size w ((w.alloc (.cells #[.int .i64 m, .int .i64 d, .slice ao Q.m cap, .slice bo Q.N bcap] 25)).alloc (.cells #[.int .i64 0, .int .i64 0, .slice none 0 0, .slice none 0 0] 35)) := ((Below.refl _ w).alloc (Nat.le_refl _) _).alloc (by simp) _
 have T1 := fun w h => toItemS_any Q ao cap hm w h
 have T2 := fun w h => toBlockS_any Q bo bcap A off so hN hL hbo w h
 have HS : Hid (ItIn Q w ao (List.range Q.m)) := hS
 have HBL : Hid (BlIn Q w A off so) := hBl
 clear hS hBl
 go_enter Try.func6, Try.ntmps6
 go_upto_region 1 with fail
 have hs : ((w.alloc (.cells #[.int .i64 m, .int .i64 d, .slice ao Q.m cap, .slice bo Q.N bcap] 25)).alloc (.cells #[.int .i64 0, .int .i64 0, .slice none 0 0, .slice none 0 0] 35)).heap.size = w.heap.size + 2 := by simp
 generalize ((w.alloc (.cells #[.int .i64 m, .int .i64 d, .slice ao Q.m cap, .slice bo Q.N bcap] 25)).alloc (.cells #[.int .i64 0, .int .i64 0, .slice none 0 0, .slice none 0 0] 35)) = W1 at *
 have e0 := (B0.alloc (.cells #[.int .i64 0, .int .i64 0, .slice none 0 0, .slice none 0 0] 35)).c 0 rfl; have e1 := (B0.alloc (.cells #[.int .i64 m, .int .i64 0, .slice none 0 0, .slice none 0 0] 35)).c 1 rfl
 replace B0 := B0.alloc (.cells #[.int .i64 m, .int .i64 d, .slice none 0 0, .slice none 0 0] 35)
 replace B1 := B1.alloc (.cells #[.int .i64 m, .int .i64 d, .slice none 0 0, .slice none 0 0] 35)
 have B2 := Blk.new W1 [.int .i64 m, .int .i64 d, .slice none 0 0, .slice none 0 0] 35 (g := w.heap.size + 2) hs.symm
 replace HB := HB.alloc HB.size (.cells #[.int .i64 m, .int .i64 d, .slice none 0 0, .slice none 0 0] 35)
 go_upto_region 4 with fail
 clear e0 e1
 generalize (W1.alloc (.cells #[.int .i64 m, .int .i64 d, .slice none 0 0, .slice none 0 0] 35)) = W2 at *
 clear hs
 have hl2 := B2.lt
 have e2 := B0.c 2 rfl
 go_wp2_with fail
 refine (T1 _ (HS.out.step HB)).mono ?_
 rintro r w1 ⟨gi, rfl, hgi, R1, hB⟩
 replace B0 := B0.step hB; replace B1 := B1.step hB; replace B2 := B2.step hB
 replace HB := HB.trans (hB.mono HB.size)
 clear hB T1 e2
 have d2 := B2.c 2 rfl; have f2 := B2.f 2 rfl
 have hr1 := R1.lt
 replace B0 := B0.setO (p := ⟨w.heap.size + 2, 2, none⟩) (by show w.heap.size ≠ w.heap.size + 2; omega) (.slice (some ⟨gi, 0, none⟩) Q.m Q.m)
 replace B1 := B1.setO (p := ⟨w.heap.size + 2, 2, none⟩) (by show w.heap.size + 1 ≠ w.heap.size + 2; omega) (.slice (some ⟨gi, 0, none⟩) Q.m Q.m)
 replace B2 := B2.setI 2 (by simp) (.slice (some ⟨gi, 0, none⟩) Q.m Q.m)
 replace R1 := R1.setOther (a := ⟨w.heap.size + 2, 2, none⟩) (by show gi ≠ w.heap.size + 2; omega) (.slice (some ⟨gi, 0, none⟩) Q.m Q.m)
 replace HB := HB.setCell (p := ⟨w.heap.size + 2, 2, none⟩) (by show w.heap.size ≤ w.heap.size + 2; omega) (.slice (some ⟨gi, 0, none⟩) Q.m Q.m)
 simp only [List.set_cons_zero, List.set_cons_succ] at B2
 go_upto_region 5 with fail
 clear d2 f2
 have hsz : (w1.setCell ⟨w.heap.size + 2, 2, none⟩ (.slice (some ⟨gi, 0, none⟩) Q.m Q.m)).heap.size = w1.heap.size := by simp [World.setCell]
 have hgi1 : gi < (w1.setCell ⟨w.heap.size + 2, 2, none⟩ (.slice (some ⟨gi, 0, none⟩) Q.m Q.m)).heap.size := by rw [hsz]; exact hr1
 clear hsz hr1
 generalize (w1.setCell ⟨w.heap.size + 2, 2, none⟩ (.slice (some ⟨gi, 0, none⟩) Q.m Q.m)) = W3 at *
 have hl3 := B2.lt
 have e3 := B0.c 3 rfl
 go_wp2_with fail
 refine (T2 _ (HBL.out.below HB)).mono ?_
 rintro r w4 ⟨gb, S, rfl, R2, hB⟩
 replace B1 := B1.step hB; replace B2 := B2.step hB
 replace HB := HB.trans (hB.mono HB.size)
 replace R1 := rowI_step R1 hB
 have hgb := R2.lt
 have RQ : QuRow Q w4 (w.heap.size + 3) gi gb S := ⟨R1, by omega, ⟨R2.row, by omega, fun j hj => ⟨by have := (R2.ids j hj).1; omega, (R2.ids j hj).2⟩, R2.up⟩, by omega, fun j hj => by have := (R2.ids j hj).1; omega⟩
 clear hB T2 e3 B0 R1 R2
 have d3 := B2.c 3 rfl; have f3 := B2.f 3 rfl
 have BN := B2.setI 3 (by simp) (.slice (some ⟨gb, 0, none⟩) Q.N Q.N)
 have BM := B1.setO (p := ⟨w.heap.size + 2, 3, none⟩) (by show w.heap.size + 1 ≠ w.heap.size + 2; omega) (.slice (some ⟨gb, 0, none⟩) Q.N Q.N)
 have HN := HB.setCell (p := ⟨w.heap.size + 2, 3, none⟩) (by show w.heap.size ≤ w.heap.size + 2; omega) (.slice (some ⟨gb, 0, none⟩) Q.N Q.N)
 have RQ2 : QuRow Q (w4.setCell ⟨w.heap.size + 2, 3, none⟩ (.slice (some ⟨gb, 0, none⟩) Q.N Q.N)) (w.heap.size + 3) gi gb S := RQ.setOther (by omega) 3 _
 simp only [List.set_cons_zero, List.set_cons_succ] at BN
 clear B1 B2 HB RQ
 go_upto_region 6 with fail
 clear d3 f3
 generalize (w4.setCell ⟨w.heap.size + 2, 3, none⟩ (.slice (some ⟨gb, 0, none⟩) Q.N Q.N)) = W5 at *
 have e0 := BN.c 0 rfl; have e1 := BN.c 1 rfl; have e2 := BN.c 2 rfl; have e3 := BN.c 3 rfl
 have g0 := BM.c 0 rfl; have g1 := BM.c 1 rfl; have g2 := BM.c 2 rfl; have g3 := BM.c 3 rfl; have h0 := BM.f 0 rfl; have h1 := BM.f 1 rfl; have h2 := BM.f 2 rfl; have h3 := BM.f 3 rfl
 have BF : Hid (Blk ((((W5.setCell ⟨(w.heap.size + 1), 0, none⟩ (.int .i64 m)).setCell ⟨(w.heap.size + 1), 1, none⟩ (.int .i64 d)).setCell ⟨(w.heap.size + 1), 2, none⟩ (.slice (some ⟨gi, 0, none⟩) Q.m Q.m)).setCell ⟨(w.heap.size + 1), 3, none⟩ (.slice (some ⟨gb, 0, none⟩) Q.N Q.N)) (w.heap.size + 1) [.int .i64 m, .int .i64 d, .slice (some ⟨gi, 0, none⟩) Q.m Q.m, .slice (some ⟨gb, 0, none⟩) Q.N Q.N]) := (((BM.setI 0 (by decide) _).setI 1 (by simp) _).setI 2 (by simp) _).setI 3 (by simp) _
 have RF : Hid (QuRow Q ((((W5.setCell ⟨(w.heap.size + 1), 0, none⟩ (.int .i64 m)).setCell ⟨(w.heap.size + 1), 1, none⟩ (.int .i64 d)).setCell ⟨(w.heap.size + 1), 2, none⟩ (.slice (some ⟨gi, 0, none⟩) Q.m Q.m)).setCell ⟨(w.heap.size + 1), 3, none⟩ (.slice (some ⟨gb, 0, none⟩) Q.N Q.N)) (w.heap.size + 3) gi gb S) := (((RQ2.setOther (by omega) 0 _).setOther (by omega) 1 _).setOther (by omega) 2 _).setOther (by omega) 3 _
 clear BM BN RQ2
 go_wp2
 have r0 := BF.out.c 0 rfl; have r1 := BF.out.c 1 rfl; have r2 := BF.out.c 2 rfl; have r3 := BF.out.c 3 rfl
 refine bodyPost_ret (v := .agg #[.int .i64 m, .int .i64 d, .slice (some ⟨gi, 0, none⟩) Q.m Q.m, .slice (some ⟨gb, 0, none⟩) Q.N Q.N]) (by simp [results, Try.results6, go_sem, r0, r1, r2, r3]) rfl ?_
 refine ⟨gi, gb, S, rfl, ?_, (((HN.setCell (Nat.le_succ _) _).setCell (Nat.le_succ _) _).setCell (Nat.le_succ _) _).setCell (Nat.le_succ _) _⟩
 exact ⟨RF.out.its, by have := RF.out.lt; omega, ⟨RF.out.bls.row, by have := RF.out.bls.lt; omega, fun j hj => ⟨by have := (RF.out.bls.ids j hj).1; omega, (RF.out.bls.ids j hj).2⟩, RF.out.bls.up⟩, RF.out.d1, RF.out.d2⟩
end Go.Proofs.Ythelolpogdcmhaa
