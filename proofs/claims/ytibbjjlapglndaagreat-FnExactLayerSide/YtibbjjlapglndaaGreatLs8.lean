/- Part 8 of the walks that the proof leans on. -/
import Derived.Test.YtibbjjlapglndaaGreatLs6
import Derived.Deep.RegionHeld3
import Derived.Deep.RegionWith
import Derived.Test.YtibbjjlapglndaaGreatLs7
import Derived.Test.YtibbjjlapglndaaGreatLs5
import Derived.Test.YtibbjjlapglndaaGreatLs4
namespace Go.Proofs.YtibbjjlapglndaaGreat
open Go.RowKit
def Div2P (k : Nat) (x y : Int) (w : World) (e : Ending) (w' : World) : Prop :=
 ∃ (s2 : Bool) (o2 : Option Addr) (n2 c2 : Nat) (d2 : List Int) (s3 : Bool) (o3 : Option Addr) (n3 c3 : Nat) (d3 : List Int), e = .returned (.tuple #[.agg #[.bool s2, .slice o2 n2 c2], .agg #[.bool s3, .slice o3 n3 c3]]) ∧ IsNum w' s2 o2 n2 c2 d2 (x / y) (k + 3) ∧ IsNum w' s3 o3 n3 c3 d3 (x % y) (k + 3) ∧ Below w.heap.size w w'
theorem num_put {w : World} {s : Bool} {ao : Option Addr} {n cap : Nat} {ds : List Int} {z : Int} {k R : Nat} {p : Bool} {q : Option Addr} {q1 q2 : Nat} (h : IsNum w s ao n cap ds z k) (B : Blk w R [.bool p, .slice q q1 q2]) (u0 u1 : Value) : IsNum ((w.setCell ⟨R, 0, none⟩ u0).setCell ⟨R, 1, none⟩ u1) s ao n cap ds z k := by
 have h1 := h.rd.set u0 (B.c 0 rfl) (by intro x e; cases e)
 have B1 := B.setI 0 (by simp) u0
 have h2 := h1.set u1 (B1.c 1 rfl) (by intro x e; cases e)
 exact ⟨h.neg, h.len, h.cap, h2, h.nrm, h.val, h.le⟩
theorem num_more {w : World} {s : Bool} {ao : Option Addr} {n cap : Nat} {ds : List Int} {z : Int} {k k' : Nat} (h : IsNum w s ao n cap ds z k) (hk : k ≤ k') : IsNum w s ao n cap ds z k' := ⟨h.neg, h.len, h.cap, h.rd, h.nrm, h.val, Nat.le_trans h.le hk⟩
theorem num_drawn {w : World} {s : Bool} {ao : Option Addr} {n cap : Nat} {ds : List Int} {z : Int} {k : Nat} (h : IsNum w s ao n cap ds z k) : IsNum w.drew s ao n cap ds z k := ⟨h.neg, h.len, h.cap, h.rd, h.nrm, h.val, h.le⟩
theorem div_done {w W : World} {s2 s3 : Bool} {o2 o3 : Option Addr} {n2 c2 n3 c3 : Nat} {d2 d3 : List Int} {x y : Int} {k : Nat} (HB : Below w.heap.size w W) (NU : IsNum W s2 o2 n2 c2 d2 (x / y) (k + 3)) (NV : IsNum W s3 o3 n3 c3 d3 (x % y) (k + 3)) (C : Blk W (w.heap.size + 1 + 1) [.bool false, .slice none 0 0]) (D : Blk W (w.heap.size + 1 + 1 + 1) [.bool false, .slice none 0 0]) :
   Div2P k x y w (.returned (.tuple #[.agg #[.bool s2, .slice o2 n2 c2], .agg #[.bool s3, .slice o3 n3 c3]])) ((((W.setCell ⟨w.heap.size + 1 + 1, 0, none⟩ (.bool s2)).setCell ⟨w.heap.size + 1 + 1, 1, none⟩ (.slice o2 n2 c2)).setCell ⟨w.heap.size + 1 + 1 + 1, 0, none⟩ (.bool s3)).setCell ⟨w.heap.size + 1 + 1 + 1, 1, none⟩ (.slice o3 n3 c3)) := by
 have D' := (D.setO (p := ⟨w.heap.size + 1 + 1, 0, none⟩) (by simp) (.bool s2)).setO (p := ⟨w.heap.size + 1 + 1, 1, none⟩) (by simp) (.slice o2 n2 c2)
 refine ⟨s2, o2, n2, c2, d2, s3, o3, n3, c3, d3, rfl, num_put (num_put NU C _ _) D' _ _, num_put (num_put NV C _ _) D' _ _, ?_⟩
 exact (((HB.setCell (p := ⟨w.heap.size + 1 + 1, 0, none⟩) (by simp; omega) _).setCell (p := ⟨w.heap.size + 1 + 1, 1, none⟩) (by simp; omega) _).setCell (p := ⟨w.heap.size + 1 + 1 + 1, 0, none⟩) (by simp; omega) _).setCell (p := ⟨w.heap.size + 1 + 1 + 1, 1, none⟩) (by simp; omega) _
theorem div_drawn {w W : World} {k : Nat} {x y : Int} {e : Ending} (h : Div2P k x y w e W) : Div2P k x y w e W.drew := by
 obtain ⟨s2, o2, n2, c2, d2, s3, o3, n3, c3, d3, e, h1, h2, hB⟩ := h
 exact ⟨s2, o2, n2, c2, d2, s3, o3, n3, c3, d3, e, num_drawn h1, num_drawn h2, hB.drew⟩
theorem div_alloc {w W : World} {k : Nat} {x y : Int} {e : Ending} (h : Div2P k x y w e W) (o : Obj) : Div2P k x y w e (W.alloc o) := by
 obtain ⟨s2, o2, n2, c2, d2, s3, o3, n3, c3, d3, e, h1, h2, hB⟩ := h
 exact ⟨s2, o2, n2, c2, d2, s3, o3, n3, c3, d3, e, h1.below ((Below.refl _ _).alloc (Nat.le_refl _) o), h2.below ((Below.refl _ _).alloc (Nat.le_refl _) o), hB.alloc hB.size o⟩
set_option maxRecDepth 100000 in
set_option maxHeartbeats 4000000 in
theorem div_any (s t : Bool) (ao bo : Option Addr) (n m ca cb k : Nat) (xs ys : List Int) (x y : Int) (w : World) (hx : IsNum w s ao n ca xs x k) (hy : IsNum w t bo m cb ys y k) (hk : k ≤ 9000) (hy0 : y ≠ 0) :
   Calls Tryz.prog 135 #[.agg #[.bool s, .slice ao n ca], .agg #[.bool t, .slice bo m cb]] w (Div2P k x y w) := by
 obtain ⟨Q, R, eQ, eR, hQ0, hR0, hR1, hqr⟩ := div_parts x y hy0
 have DS := div_signs hy0 hR0 hR1 hqr
 have hs : Hid (s = decide (x < 0)) := hx.neg
 have ht : Hid (t = decide (y < 0)) := hy.neg
 have A := (((Blk.new w [.bool s, .slice ao n ca] 60 rfl).alloc (.cells #[.bool t, .slice bo m cb] 60)).alloc (.cells #[.bool false, .slice none 0 0] 60)).alloc (.cells #[.bool false, .slice none 0 0] 60)
 have B := ((Blk.new (w.alloc (.cells #[.bool s, .slice ao n ca] 60)) [.bool t, .slice bo m cb] 60 (g := w.heap.size + 1) (by simp)).alloc (.cells #[.bool false, .slice none 0 0] 60)).alloc (.cells #[.bool false, .slice none 0 0] 60)
 have C := (Blk.new ((w.alloc (.cells #[.bool s, .slice ao n ca] 60)).alloc (.cells #[.bool t, .slice bo m cb] 60)) [.bool false, .slice none 0 0] 60 (g := w.heap.size + 1 + 1) (by simp)).alloc (.cells #[.bool false, .slice none 0 0] 60)
 have D := Blk.new (((w.alloc (.cells #[.bool s, .slice ao n ca] 60)).alloc (.cells #[.bool t, .slice bo m cb] 60)).alloc (.cells #[.bool false, .slice none 0 0] 60)) [.bool false, .slice none 0 0] 60 (g := w.heap.size + 1 + 1 + 1) (by simp)
 have HB0 : Below w.heap.size w ((((w.alloc (.cells #[.bool s, .slice ao n ca] 60)).alloc (.cells #[.bool t, .slice bo m cb] 60)).alloc (.cells #[.bool false, .slice none 0 0] 60)).alloc (.cells #[.bool false, .slice none 0 0] 60)) := ((((Below.refl _ _).alloc (Nat.le_refl _) _).alloc (by simp) _).alloc (by simp; omega) _).alloc (by simp; omega) _
 replace hx := hx.below HB0
 replace hy := hy.below HB0
 have hyp : 0 < val ys := by rw [hy.val]; omega
 go_enter Tryz.func135, Tryz.ntmps135
 go_wp2_with fail
 refine (divAbs_any ao bo n m ca cb xs ys _ hx.len hy.len hx.nrm hy.nrm hx.rd hy.rd hx.cap (by have := hx.le; omega) (by have := hy.le; omega) hyp).mono ?_
 rintro e w1 ⟨qo, qn, qc, qs, ro, rn, rc, rs, rfl, ⟨a1, a2, a3, a4, a5, a6⟩, ⟨b1, b2, b3, b4, b5, b6⟩, hB⟩
 rw [hx.val, hy.val] at a5 b5
 rw [eQ] at a5
 rw [eR] at b5
 have hnk := hx.le
 replace hy := hy.below hB
 replace A := A.step hB; replace B := B.step hB; replace C := C.step hB; replace D := D.step hB
 have HB1 : Below w.heap.size w w1 := HB0.trans (hB.mono HB0.size)
 clear hB HB0 hx hyp
 obtain ⟨p0, p1⟩ := A.cs2; have pl := A.lt; obtain ⟨q0, q1⟩ := B.cs2; have ql := B.lt
 go_wp2_with fail
 refine (trim_any _ qo qn qc qs _ a1 a2 a4.1 a6 (by omega)).mono ?_
 rintro e w2 ⟨s2, o2, n2, c2, d2, rfl, t1, t2, t3, t4, t5, t6, t7, hB⟩
 have NU : IsNum w2 s2 o2 n2 c2 d2 (if s = t then Q else -Q) (k + 1) := num_of t1 t2 (by omega) t4 (t5.trans a5) (by rw [t6, a5]) t7 (by split <;> omega) (by intro hz; cases s <;> cases t <;> simp at hz ⊢ <;> omega)
 replace b6 := b6.below hB (Nat.le_refl _)
 replace hy := hy.below hB
 replace A := A.step hB; replace B := B.step hB; replace C := C.step hB; replace D := D.step hB
 have HB2 : Below w.heap.size w w2 := HB1.trans (hB.mono HB1.size)
 clear hB HB1 t1 t2 t3 t4 t5 t6 t7 a1 a2 a3 a4 a5 a6 p0 p1 pl q0 q1 ql
 obtain ⟨p0, p1⟩ := A.cs2; have pl := A.lt; obtain ⟨q0, q1⟩ := B.cs2; have ql := B.lt
 have hDU := D.lt
 have U := Blk.new w2 [.bool s2, .slice o2 n2 c2] 60 rfl
 have hal : Below w2.heap.size w2 (w2.alloc (.cells #[.bool s2, .slice o2 n2 c2] 60)) := (Below.refl _ _).alloc (Nat.le_refl _) _
 replace A := A.step hal; replace B := B.step hal; replace C := C.step hal; replace D := D.step hal
 replace NU := NU.below hal
 replace hy := hy.below hal
 replace b6 := b6.below hal (Nat.le_refl _)
 replace HB2 := HB2.alloc HB2.size (.cells #[.bool s2, .slice o2 n2 c2] 60)
 clear hal
 go_wp2_with fail
 refine (trim_any s ro rn rc rs _ b1 b2 b4.1 b6 (by omega)).mono ?_
 rintro e w3 ⟨s3, o3, n3, c3, d3, rfl, t1, t2, t3, t4, t5, t6, t7, hB⟩
 have NV : IsNum w3 s3 o3 n3 c3 d3 (if s then -R else R) (k + 1) := num_of t1 t2 (by omega) t4 (t5.trans b5) (by rw [t6, b5]) t7 (by split <;> omega) (by intro hz; cases s <;> simp at hz ⊢ <;> omega)
 replace hy := hy.below hB
 replace NU := NU.below hB
 replace A := A.step hB; replace B := B.step hB; replace C := C.step hB; replace D := D.step hB; replace U := U.step hB
 have HB3 : Below w.heap.size w w3 := HB2.trans (hB.mono HB2.size)
 have hUl := U.lt; have hBl := B.lt; have hCl := C.lt; have hDl := D.lt
 have nBU : w.heap.size + 1 + 1 + 1 < w2.heap.size := hDU
 clear hB HB2 t1 t2 t3 t4 t5 t6 t7 b1 b2 b3 b4 b5 b6 p0 p1 pl q0 q1 ql
 obtain ⟨q0, q1⟩ := B.cs2; have ql := B.lt; obtain ⟨u0, uf0, u1, uf1⟩ := U.cf2; have ul := U.lt; obtain ⟨c0, cf0, c1, cf1⟩ := C.cf2; have cl := C.lt; obtain ⟨d0, df0, d1, df1⟩ := D.cf2; have dl := D.lt
 have NU3 := NU; have NV3 := NV; have C3 := C; have D3 := D; have HB3' := HB3
 have V := Blk.new w3 [.bool s3, .slice o3 n3 c3] 60 rfl
 have hal : Below w3.heap.size w3 (w3.alloc (.cells #[.bool s3, .slice o3 n3 c3] 60)) := (Below.refl _ _).alloc (Nat.le_refl _) _
 replace B := B.step hal; replace C := C.step hal; replace D := D.step hal; replace U := U.step hal
 replace NU := NU.below hal
 replace NV := NV.below hal
 replace hy := hy.below hal
 have HB4 := HB3.alloc HB3.size (.cells #[.bool s3, .slice o3 n3 c3] 60)
 have nUV : w2.heap.size < w3.heap.size := hUl
 clear hal HB3
 have hneg := NV.neg
 by_cases hv : s3 = true
 · subst hv
   have es : s = true := by
     apply Decidable.byContradiction
     intro h
     rw [Bool.eq_false_iff.2 h] at hneg
     simp at hneg
     omega
   have hRp : 0 < R := by rw [es] at hneg; simp at hneg; exact hneg
   have hx0 : x < 0 := by have := hs.out; rw [es] at this; simpa using this.symm
   subst es
   obtain ⟨-, -, -, -, D5, D6⟩ := DS
   have J : ∀ W, Below (w3.alloc (.cells #[.bool true, .slice o3 n3 c3] 60)).heap.size (w3.alloc (.cells #[.bool true, .slice o3 n3 c3] 60)) W → (Blk W (w.heap.size + 1) [.bool t, .slice bo m cb] ∧ Blk W (w.heap.size + 1 + 1) [.bool false, .slice none 0 0] ∧ Blk W (w.heap.size + 1 + 1 + 1) [.bool false, .slice none 0 0] ∧ Blk W w2.heap.size [.bool s2, .slice o2 n2 c2] ∧ Blk W w3.heap.size [.bool true, .slice o3 n3 c3]) ∧ IsNum W s2 o2 n2 c2 d2 (if true = t then Q else -Q) (k + 1) ∧ IsNum W true o3 n3 c3 d3 (-R) (k + 1) ∧ IsNum W t bo m cb ys y k ∧ Below w.heap.size w W :=
     fun W h => ⟨⟨B.step h, C.step h, D.step h, U.step h, V.step h⟩, NU.below h, by simpa using NV.below h, hy.below h, HB4.trans (h.mono HB4.size)⟩
   clear NU NV NU3 NV3 C3 D3 HB3' A B C D U V HB4 hy hneg hs
   cases t
   · have hyp : 0 < y := by have := ht.out; simp at this; omega
     go_upto_region 8 with fail
     generalize w3.alloc (.cells #[.bool true, .slice o3 n3 c3] 60) = W0 at *
     obtain ⟨⟨jb, jc, jd, ju, jv⟩, jn, jr, jy, jB⟩ := J W0 (Below.refl _ _)
     clear u0 u1 uf0 uf1 ul q0 q1 ql c0 c1 cf0 cf1 cl d0 d1 df0 df1 dl
     obtain ⟨u0, uf0, u1, uf1⟩ := ju.cf2; have ul := ju.lt
     go_region_with ((first
       | (go_at_call 54; refine (int_any 1 _ (by decide) (by decide)).mono ?_; rintro e w5 ⟨s5, o5, n5, c5, d5, rfl, N5, hB⟩; have K5 : Below W0.heap.size W0 w5 := ((Below.refl _ _).drew).trans hB; obtain ⟨⟨ib, ic, id', iu, iv⟩, jn5, ir, iy, iB⟩ := J w5 K5; obtain ⟨h0, hf0, h1, hf1⟩ := iu.cf2; have hl := iu.lt; clear hB)
       | (go_at_call 79; refine (sub_any s2 s5 o2 o5 n2 n5 c2 c5 (k + 2) d2 d5 _ _ _ (num_more jn5 (by omega)) (num_more N5 (by omega)) (by omega)).mono ?_; rintro e w6 ⟨s6, o6, n6, c6, d6, rfl, N6, hB⟩; have K6 : Below W0.heap.size W0 w6 := K5.trans (hB.mono K5.size); obtain ⟨⟨lb, lc, ld, lu, lv⟩, ln, lr, ly, lB⟩ := J w6 K6; obtain ⟨i0, if0, i1, if1⟩ := lu.cf2; have il := lu.lt; clear hB)))
     all_goals have g1 : w.heap.size + 1 ≠ w2.heap.size := by omega
     all_goals have g2 : w.heap.size + 1 + 1 ≠ w2.heap.size := by omega
     all_goals have g3 : w.heap.size + 1 + 1 + 1 ≠ w2.heap.size := by omega
     all_goals have g4 : w3.heap.size ≠ w2.heap.size := by omega
     all_goals have B6 := ((lb.setO (p := ⟨w2.heap.size, 0, none⟩) (by exact g1) (.bool s6)).setO (p := ⟨w2.heap.size, 1, none⟩) (by exact g1) (.slice o6 n6 c6))
     all_goals have C6 := ((lc.setO (p := ⟨w2.heap.size, 0, none⟩) (by exact g2) (.bool s6)).setO (p := ⟨w2.heap.size, 1, none⟩) (by exact g2) (.slice o6 n6 c6))
     all_goals have D6' := ((ld.setO (p := ⟨w2.heap.size, 0, none⟩) (by exact g3) (.bool s6)).setO (p := ⟨w2.heap.size, 1, none⟩) (by exact g3) (.slice o6 n6 c6))
     all_goals have V6 := ((lv.setO (p := ⟨w2.heap.size, 0, none⟩) (by exact g4) (.bool s6)).setO (p := ⟨w2.heap.size, 1, none⟩) (by exact g4) (.slice o6 n6 c6))
     all_goals have M6 := num_put N6 lu (.bool s6) (.slice o6 n6 c6)
     all_goals have R6 := num_put lr lu (.bool s6) (.slice o6 n6 c6)
     all_goals have Y6 := num_put ly lu (.bool s6) (.slice o6 n6 c6)
     all_goals have U6 := (lu.setI 0 (by simp) (.bool s6)).setI 1 (by simp) (.slice o6 n6 c6)
     all_goals have L6 := (lB.setCell (p := ⟨w2.heap.size, 0, none⟩) (by simp; omega) (.bool s6)).setCell (p := ⟨w2.heap.size, 1, none⟩) (by simp; omega) (.slice o6 n6 c6)
     all_goals clear u0 u1 uf0 uf1 ul h0 h1 hf0 hf1 hl i0 i1 if0 if1 il jb jc jd ju jv jn jr jy jB ib ic id' iu iv jn5 ir iy iB lb lc ld lu lv ln lr ly lB N5 N6 K5 K6 J
     all_goals generalize ((w6.setCell ⟨w2.heap.size, 0, none⟩ (.bool s6)).setCell ⟨w2.heap.size, 1, none⟩ (.slice o6 n6 c6)) = W6 at *
     all_goals (obtain ⟨v0, v1⟩ := V6.cs2; have vl := V6.lt; obtain ⟨x0, x1⟩ := B6.cs2; have xl := B6.lt)
     all_goals go_wp2_with fail
     all_goals refine (add_any true false o3 bo n3 m c3 cb (k + 1) d3 ys _ _ _ R6 (num_more Y6 (by omega)) (by omega)).mono ?_
     all_goals rintro e w7 ⟨s7, o7, n7, c7, d7, rfl, N7, hB⟩
     all_goals (replace C6 := C6.step hB; replace D6' := D6'.step hB; replace V6 := V6.step hB; replace U6 := U6.step hB; replace M6 := M6.below hB; replace L6 := L6.trans (hB.mono L6.size))
     all_goals clear hB v0 v1 vl x0 x1 xl
     all_goals have g5 : w.heap.size + 1 + 1 ≠ w3.heap.size := by omega
     all_goals have g6 : w.heap.size + 1 + 1 + 1 ≠ w3.heap.size := by omega
     all_goals have g7 : w2.heap.size ≠ w3.heap.size := by omega
     all_goals (obtain ⟨v0, vf0, v1, vf1⟩ := V6.cf2; have vl := V6.lt)
     all_goals have C7 := ((C6.setO (p := ⟨w3.heap.size, 0, none⟩) (by exact g5) (.bool s7)).setO (p := ⟨w3.heap.size, 1, none⟩) (by exact g5) (.slice o7 n7 c7))
     all_goals have D7 := ((D6'.setO (p := ⟨w3.heap.size, 0, none⟩) (by exact g6) (.bool s7)).setO (p := ⟨w3.heap.size, 1, none⟩) (by exact g6) (.slice o7 n7 c7))
     all_goals have U7 := ((U6.setO (p := ⟨w3.heap.size, 0, none⟩) (by exact g7) (.bool s7)).setO (p := ⟨w3.heap.size, 1, none⟩) (by exact g7) (.slice o7 n7 c7))
     all_goals have M7 := num_put M6 V6 (.bool s7) (.slice o7 n7 c7)
     all_goals have P7 := num_put N7 V6 (.bool s7) (.slice o7 n7 c7)
     all_goals have L7 := (L6.setCell (p := ⟨w3.heap.size, 0, none⟩) (by simp; omega) (.bool s7)).setCell (p := ⟨w3.heap.size, 1, none⟩) (by simp; omega) (.slice o7 n7 c7)
     all_goals obtain ⟨E1, E2⟩ := D5 hx0 hRp hyp
     all_goals rw [show (if true = false then Q else -Q) - 1 = x / y by rw [E1]; simp] at M7
     all_goals rw [show -R + y = x % y by rw [E2]] at P7
     all_goals have F := div_done (k := k) L7 M7 (num_more P7 (Nat.le_succ _)) C7 D7
     all_goals (obtain ⟨c0, cf0, c1, cf1⟩ := C7.cf2; have cl := C7.lt; obtain ⟨d0, df0, d1, df1⟩ := D7.cf2; have dl := D7.lt; obtain ⟨u0, u1⟩ := U7.cs2; have ul := U7.lt)
     all_goals clear C6 D6' V6 U6 M6 L6 C7 D7 U7 M7 P7 L7 N7 g1 g2 g3 g4 g5 g6 g7
     all_goals go_wp2
     all_goals go_region
     all_goals go_wp2
     all_goals refine bodyPost_ret (v := .tuple #[.agg #[.bool s6, .slice o6 n6 c6], .agg #[.bool s7, .slice o7 n7 c7]]) (by simp [results, Tryz.results135, go_sem, c0, c1, d0, d1]) rfl ?_
     all_goals exact div_drawn F
   · have hyp : y < 0 := by have := ht.out; simpa using this.symm
     go_upto_region 6 with fail
     generalize w3.alloc (.cells #[.bool true, .slice o3 n3 c3] 60) = W0 at *
     obtain ⟨⟨jb, jc, jd, ju, jv⟩, jn, jr, jy, jB⟩ := J W0 (Below.refl _ _)
     clear u0 u1 uf0 uf1 ul q0 q1 ql c0 c1 cf0 cf1 cl d0 d1 df0 df1 dl
     obtain ⟨u0, uf0, u1, uf1⟩ := ju.cf2; have ul := ju.lt
     go_region_with ((first
       | (go_at_call 54; refine (int_any 1 _ (by decide) (by decide)).mono ?_; rintro e w5 ⟨s5, o5, n5, c5, d5, rfl, N5, hB⟩; have K5 : Below W0.heap.size W0 w5 := ((Below.refl _ _).drew).trans hB; obtain ⟨⟨ib, ic, id', iu, iv⟩, jn5, ir, iy, iB⟩ := J w5 K5; obtain ⟨h0, hf0, h1, hf1⟩ := iu.cf2; have hl := iu.lt; clear hB)
       | (go_at_call 104; refine (add_any s2 s5 o2 o5 n2 n5 c2 c5 (k + 2) d2 d5 _ _ _ (num_more jn5 (by omega)) (num_more N5 (by omega)) (by omega)).mono ?_; rintro e w6 ⟨s6, o6, n6, c6, d6, rfl, N6, hB⟩; have K6 : Below W0.heap.size W0 w6 := K5.trans (hB.mono K5.size); obtain ⟨⟨lb, lc, ld, lu, lv⟩, ln, lr, ly, lB⟩ := J w6 K6; obtain ⟨i0, if0, i1, if1⟩ := lu.cf2; have il := lu.lt; clear hB)))
     all_goals have g1 : w.heap.size + 1 ≠ w2.heap.size := by omega
     all_goals have g2 : w.heap.size + 1 + 1 ≠ w2.heap.size := by omega
     all_goals have g3 : w.heap.size + 1 + 1 + 1 ≠ w2.heap.size := by omega
     all_goals have g4 : w3.heap.size ≠ w2.heap.size := by omega
     all_goals have B6 := ((lb.setO (p := ⟨w2.heap.size, 0, none⟩) (by exact g1) (.bool s6)).setO (p := ⟨w2.heap.size, 1, none⟩) (by exact g1) (.slice o6 n6 c6))
     all_goals have C6 := ((lc.setO (p := ⟨w2.heap.size, 0, none⟩) (by exact g2) (.bool s6)).setO (p := ⟨w2.heap.size, 1, none⟩) (by exact g2) (.slice o6 n6 c6))
     all_goals have D6' := ((ld.setO (p := ⟨w2.heap.size, 0, none⟩) (by exact g3) (.bool s6)).setO (p := ⟨w2.heap.size, 1, none⟩) (by exact g3) (.slice o6 n6 c6))
     all_goals have V6 := ((lv.setO (p := ⟨w2.heap.size, 0, none⟩) (by exact g4) (.bool s6)).setO (p := ⟨w2.heap.size, 1, none⟩) (by exact g4) (.slice o6 n6 c6))
     all_goals have M6 := num_put N6 lu (.bool s6) (.slice o6 n6 c6)
     all_goals have R6 := num_put lr lu (.bool s6) (.slice o6 n6 c6)
     all_goals have Y6 := num_put ly lu (.bool s6) (.slice o6 n6 c6)
     all_goals have U6 := (lu.setI 0 (by simp) (.bool s6)).setI 1 (by simp) (.slice o6 n6 c6)
     all_goals have L6 := (lB.setCell (p := ⟨w2.heap.size, 0, none⟩) (by simp; omega) (.bool s6)).setCell (p := ⟨w2.heap.size, 1, none⟩) (by simp; omega) (.slice o6 n6 c6)
     all_goals clear u0 u1 uf0 uf1 ul h0 h1 hf0 hf1 hl i0 i1 if0 if1 il jb jc jd ju jv jn jr jy jB ib ic id' iu iv jn5 ir iy iB lb lc ld lu lv ln lr ly lB N5 N6 K5 K6 J
     all_goals generalize ((w6.setCell ⟨w2.heap.size, 0, none⟩ (.bool s6)).setCell ⟨w2.heap.size, 1, none⟩ (.slice o6 n6 c6)) = W6 at *
     all_goals (obtain ⟨v0, v1⟩ := V6.cs2; have vl := V6.lt; obtain ⟨x0, x1⟩ := B6.cs2; have xl := B6.lt)
     all_goals go_wp2_with fail
     all_goals refine (sub_any true true o3 bo n3 m c3 cb (k + 1) d3 ys _ _ _ R6 (num_more Y6 (by omega)) (by omega)).mono ?_
     all_goals rintro e w7 ⟨s7, o7, n7, c7, d7, rfl, N7, hB⟩
     all_goals (replace C6 := C6.step hB; replace D6' := D6'.step hB; replace V6 := V6.step hB; replace U6 := U6.step hB; replace M6 := M6.below hB; replace L6 := L6.trans (hB.mono L6.size))
     all_goals clear hB v0 v1 vl x0 x1 xl
     all_goals have g5 : w.heap.size + 1 + 1 ≠ w3.heap.size := by omega
     all_goals have g6 : w.heap.size + 1 + 1 + 1 ≠ w3.heap.size := by omega
     all_goals have g7 : w2.heap.size ≠ w3.heap.size := by omega
     all_goals (obtain ⟨v0, vf0, v1, vf1⟩ := V6.cf2; have vl := V6.lt)
     all_goals have C7 := ((C6.setO (p := ⟨w3.heap.size, 0, none⟩) (by exact g5) (.bool s7)).setO (p := ⟨w3.heap.size, 1, none⟩) (by exact g5) (.slice o7 n7 c7))
     all_goals have D7 := ((D6'.setO (p := ⟨w3.heap.size, 0, none⟩) (by exact g6) (.bool s7)).setO (p := ⟨w3.heap.size, 1, none⟩) (by exact g6) (.slice o7 n7 c7))
     all_goals have U7 := ((U6.setO (p := ⟨w3.heap.size, 0, none⟩) (by exact g7) (.bool s7)).setO (p := ⟨w3.heap.size, 1, none⟩) (by exact g7) (.slice o7 n7 c7))
     all_goals have M7 := num_put M6 V6 (.bool s7) (.slice o7 n7 c7)
     all_goals have P7 := num_put N7 V6 (.bool s7) (.slice o7 n7 c7)
     all_goals have L7 := (L6.setCell (p := ⟨w3.heap.size, 0, none⟩) (by simp; omega) (.bool s7)).setCell (p := ⟨w3.heap.size, 1, none⟩) (by simp; omega) (.slice o7 n7 c7)
     all_goals obtain ⟨E1, E2⟩ := D6 hx0 hRp hyp
     all_goals rw [show (if True then Q else -Q) + 1 = x / y by rw [E1]; simp] at M7
     all_goals rw [show -R - y = x % y by rw [E2]] at P7
     all_goals have F := div_done (k := k) L7 M7 (num_more P7 (Nat.le_succ _)) C7 D7
     all_goals (obtain ⟨c0, cf0, c1, cf1⟩ := C7.cf2; have cl := C7.lt; obtain ⟨d0, df0, d1, df1⟩ := D7.cf2; have dl := D7.lt; obtain ⟨u0, u1⟩ := U7.cs2; have ul := U7.lt)
     all_goals clear C6 D6' V6 U6 M6 L6 C7 D7 U7 M7 P7 L7 N7 g1 g2 g3 g4 g5 g6 g7
     all_goals go_wp2
     all_goals go_region
     all_goals go_wp2
     all_goals refine bodyPost_ret (v := .tuple #[.agg #[.bool s6, .slice o6 n6 c6], .agg #[.bool s7, .slice o7 n7 c7]]) (by simp [results, Tryz.results135, go_sem, c0, c1, d0, d1]) rfl ?_
     all_goals exact div_drawn F
 · have hv := Bool.eq_false_iff.2 hv
   subst hv
   have hres : (if s = t then Q else -Q) = x / y ∧ (if s then -R else R) = x % y := by
     have hs := hs.out
     have ht := ht.out
     obtain ⟨D1, D2, D3, D4, -, -⟩ := DS
     by_cases hx0 : x < 0
     · have es : s = true := by rw [hs]; simp [hx0]
       have hR : R = 0 := by rw [es] at hneg; simp at hneg; omega
       by_cases hy1 : y < 0
       · have et : t = true := by rw [ht]; simp [hy1]
         obtain ⟨e1, e2⟩ := D4 hx0 hR hy1
         rw [e1, e2, es, et, hR]; simp
       · have et : t = false := by rw [ht]; simp [hy1]
         obtain ⟨e1, e2⟩ := D3 hx0 hR (by omega)
         rw [e1, e2, es, et, hR]; simp
     · have es : s = false := by rw [hs]; simp [hx0]
       by_cases hy1 : y < 0
       · have et : t = true := by rw [ht]; simp [hy1]
         obtain ⟨e1, e2⟩ := D2 (by omega) hy1
         rw [e1, e2, es, et]; simp
       · have et : t = false := by rw [ht]; simp [hy1]
         obtain ⟨e1, e2⟩ := D1 (by omega) (by omega)
         rw [e1, e2, es, et]; simp
   rw [hres.1] at NU3
   rw [hres.2] at NV3
   have F := div_alloc (div_done HB3' (num_more NU3 (Nat.add_le_add_left (by decide) k)) (num_more NV3 (Nat.add_le_add_left (by decide) k)) C3 D3) (.cells #[.bool false, .slice o3 n3 c3] 60)
   clear hres hneg DS NU NV NU3 NV3 C3 D3 HB3' A B C D U V HB4
   go_wp2
   go_region
   all_goals go_wp2
   all_goals refine bodyPost_ret (v := .tuple #[.agg #[.bool s2, .slice o2 n2 c2], .agg #[.bool false, .slice o3 n3 c3]]) (by simp [results, Tryz.results135, go_sem, World.cell?_alloc_past, c0, c1, d0, d1, cl, dl]) rfl ?_
   all_goals exact div_drawn F
theorem from_det (x : Int) (hx : told x = true) (w : World) : Calls Tryz.prog 59 #[W4 x] w (NumP 8 x w) := by
 obtain ⟨p3, p2, p1, p0⟩ := ww_words x
 have h := from_any (ww3 x) (ww2 x) (ww1 x) (ww0 x) p3 p2 p1 p0 w
 rw [ww_sw hx] at h
 exact h
theorem ArgsB.set6g {w W : World} {vss : List (List Value)} (h : ArgsB w W vss) {g : Nat} (hg : w.heap.size + vss.length ≤ g) (v0 v1 v2 v3 v4 v5 : Value) : ArgsB w ((((((W.setCell ⟨g, 0, none⟩ v0).setCell ⟨g, 1, none⟩ v1).setCell ⟨g, 2, none⟩ v2).setCell ⟨g, 3, none⟩ v3).setCell ⟨g, 4, none⟩ v4).setCell ⟨g, 5, none⟩ v5) vss := (((((h.set (by exact hg) _).set (by exact hg) _).set (by exact hg) _).set (by exact hg) _).set (by exact hg) _).set (by exact hg) _
theorem l3o_cells {x y z : Int} {w W : World} (T0 : ArgsB w W [[.int .u64 (ww3 x), .int .u64 (ww2 x), .int .u64 (ww1 x), .int .u64 (ww0 x), .int .u64 (ww3 y), .int .u64 (ww2 y), .int .u64 (ww1 y), .int .u64 (ww0 y), .int .u64 (ww3 z), .int .u64 (ww2 z), .int .u64 (ww1 z), .int .u64 (ww0 z)]]) : (fun w' => w'.cell? ⟨w.heap.size, 0, none⟩ = some (.int .u64 (ww3 x)) ∧ w'.cell? ⟨w.heap.size, 1, none⟩ = some (.int .u64 (ww2 x)) ∧ w'.cell? ⟨w.heap.size, 2, none⟩ = some (.int .u64 (ww1 x)) ∧ w'.cell? ⟨w.heap.size, 3, none⟩ = some (.int .u64 (ww0 x)) ∧ w'.cell? ⟨w.heap.size, 4, none⟩ = some (.int .u64 (ww3 y)) ∧ w'.cell? ⟨w.heap.size, 5, none⟩ = some (.int .u64 (ww2 y)) ∧ w'.cell? ⟨w.heap.size, 6, none⟩ = some (.int .u64 (ww1 y)) ∧ w'.cell? ⟨w.heap.size, 7, none⟩ = some (.int .u64 (ww0 y)) ∧ w'.cell? ⟨w.heap.size, 8, none⟩ = some (.int .u64 (ww3 z)) ∧ w'.cell? ⟨w.heap.size, 9, none⟩ = some (.int .u64 (ww2 z)) ∧ w'.cell? ⟨w.heap.size, 10, none⟩ = some (.int .u64 (ww1 z)) ∧ w'.cell? ⟨w.heap.size, 11, none⟩ = some (.int .u64 (ww0 z))) W := ⟨(T0.b 0 rfl).c 0 rfl, (T0.b 0 rfl).c 1 rfl, (T0.b 0 rfl).c 2 rfl, (T0.b 0 rfl).c 3 rfl, (T0.b 0 rfl).c 4 rfl, (T0.b 0 rfl).c 5 rfl, (T0.b 0 rfl).c 6 rfl, (T0.b 0 rfl).c 7 rfl, (T0.b 0 rfl).c 8 rfl, (T0.b 0 rfl).c 9 rfl, (T0.b 0 rfl).c 10 rfl, (T0.b 0 rfl).c 11 rfl⟩
set_option maxRecDepth 100000 in
set_option maxHeartbeats 2000000 in
theorem l3Of_det (x y z : Int) (hx : told x = true) (hy : told y = true) (hz : told z = true) (w : World) : Calls Tryz.prog 29 #[PV x y z] w (L3P 8 x y z w) := by
 have T5 : ArgsB w ((w.alloc (.cells #[.int .u64 (ww3 x), .int .u64 (ww2 x), .int .u64 (ww1 x), .int .u64 (ww0 x), .int .u64 (ww3 y), .int .u64 (ww2 y), .int .u64 (ww1 y), .int .u64 (ww0 y), .int .u64 (ww3 z), .int .u64 (ww2 z), .int .u64 (ww1 z), .int .u64 (ww0 z)] 38)).alloc (.cells #[.bool false, .slice none 0 0, .bool false, .slice none 0 0, .bool false, .slice none 0 0] 62)) [[.int .u64 (ww3 x), .int .u64 (ww2 x), .int .u64 (ww1 x), .int .u64 (ww0 x), .int .u64 (ww3 y), .int .u64 (ww2 y), .int .u64 (ww1 y), .int .u64 (ww0 y), .int .u64 (ww3 z), .int .u64 (ww2 z), .int .u64 (ww1 z), .int .u64 (ww0 z)], [.bool false, .slice none 0 0, .bool false, .slice none 0 0, .bool false, .slice none 0 0]] := ar2 _ _ _ _ w
 have R0 := T5.b 1 rfl
 have T0 : ArgsB w _ [[.int .u64 (ww3 x), .int .u64 (ww2 x), .int .u64 (ww1 x), .int .u64 (ww0 x), .int .u64 (ww3 y), .int .u64 (ww2 y), .int .u64 (ww1 y), .int .u64 (ww0 y), .int .u64 (ww3 z), .int .u64 (ww2 z), .int .u64 (ww1 z), .int .u64 (ww0 z)]] := T5.left (vs := [[.bool false, .slice none 0 0, .bool false, .slice none 0 0, .bool false, .slice none 0 0]])
 clear T5
 have F1 := from_det x hx
 have F2 := from_det y hy
 have F3 := from_det z hz
 clear hx hy hz
 have tok1 : True := trivial
 have tok2 : True := trivial
 go_enter Tryz.func29, Tryz.ntmps29
 go_upto_region 1 with fail
 generalize ((w.alloc (.cells #[.int .u64 (ww3 x), .int .u64 (ww2 x), .int .u64 (ww1 x), .int .u64 (ww0 x), .int .u64 (ww3 y), .int .u64 (ww2 y), .int .u64 (ww1 y), .int .u64 (ww0 y), .int .u64 (ww3 z), .int .u64 (ww2 z), .int .u64 (ww1 z), .int .u64 (ww0 z)] 38)).alloc (.cells #[.bool false, .slice none 0 0, .bool false, .slice none 0 0, .bool false, .slice none 0 0] 62)) = W at *
 go_region_held3 (fun w' => w'.cell? ⟨w.heap.size, 0, none⟩ = some (.int .u64 (ww3 x)) ∧ w'.cell? ⟨w.heap.size, 1, none⟩ = some (.int .u64 (ww2 x)) ∧ w'.cell? ⟨w.heap.size, 2, none⟩ = some (.int .u64 (ww1 x)) ∧ w'.cell? ⟨w.heap.size, 3, none⟩ = some (.int .u64 (ww0 x)) ∧ w'.cell? ⟨w.heap.size, 4, none⟩ = some (.int .u64 (ww3 y)) ∧ w'.cell? ⟨w.heap.size, 5, none⟩ = some (.int .u64 (ww2 y)) ∧ w'.cell? ⟨w.heap.size, 6, none⟩ = some (.int .u64 (ww1 y)) ∧ w'.cell? ⟨w.heap.size, 7, none⟩ = some (.int .u64 (ww0 y)) ∧ w'.cell? ⟨w.heap.size, 8, none⟩ = some (.int .u64 (ww3 z)) ∧ w'.cell? ⟨w.heap.size, 9, none⟩ = some (.int .u64 (ww2 z)) ∧ w'.cell? ⟨w.heap.size, 10, none⟩ = some (.int .u64 (ww1 z)) ∧ w'.cell? ⟨w.heap.size, 11, none⟩ = some (.int .u64 (ww0 z))) ((refine l3o_cells ?_ <;> repeat (first | (with_reducible exact T0) | (with_reducible refine ArgsB.drew ?_) | (with_reducible refine ArgsB.set6g ?_ (by simp; try omega) _ _ _ _ _ _))))
   (first
     | (go_at_call 59; have _t := tok1; refine (F1 _).mono ?_; rintro e w1 ⟨s1, o1, n1, c1, d1, rfl, N1, hB⟩; (first | (have T1 : ArgsB w w1 [[.int .u64 (ww3 x), .int .u64 (ww2 x), .int .u64 (ww1 x), .int .u64 (ww0 x), .int .u64 (ww3 y), .int .u64 (ww2 y), .int .u64 (ww1 y), .int .u64 (ww0 y), .int .u64 (ww3 z), .int .u64 (ww2 z), .int .u64 (ww1 z), .int .u64 (ww0 z)]] := (by with_reducible exact T0.step hB); have tltw1 := (T0.b 0 rfl).lt; have lR0w1 := R0.lt; replace R0 := R0.step hB; skip) | (have T1 : ArgsB w w1 [[.int .u64 (ww3 x), .int .u64 (ww2 x), .int .u64 (ww1 x), .int .u64 (ww0 x), .int .u64 (ww3 y), .int .u64 (ww2 y), .int .u64 (ww1 y), .int .u64 (ww0 y), .int .u64 (ww3 z), .int .u64 (ww2 z), .int .u64 (ww1 z), .int .u64 (ww0 z)]] := (by with_reducible exact T0.drew.step hB); have tltw1 := (T0.b 0 rfl).lt; have lR0w1 := R0.lt; replace R0 := R0.drew.step hB; skip)); clear T0; have T0 := T1; clear T1; clear hB tok1 _t)
     | (go_at_call 59; have _t := tok2; refine (F2 _).mono ?_; rintro e w2 ⟨s2, o2, n2, c2, d2, rfl, N2, hB⟩; (first | (replace N1 := N1.below hB; skip) | (replace N1 := N1.drew.below hB; skip)); (first | (have T1 : ArgsB w w2 [[.int .u64 (ww3 x), .int .u64 (ww2 x), .int .u64 (ww1 x), .int .u64 (ww0 x), .int .u64 (ww3 y), .int .u64 (ww2 y), .int .u64 (ww1 y), .int .u64 (ww0 y), .int .u64 (ww3 z), .int .u64 (ww2 z), .int .u64 (ww1 z), .int .u64 (ww0 z)]] := (by with_reducible exact T0.step hB); have tltw2 := (T0.b 0 rfl).lt; have lR0w2 := R0.lt; replace R0 := R0.step hB; skip) | (have T1 : ArgsB w w2 [[.int .u64 (ww3 x), .int .u64 (ww2 x), .int .u64 (ww1 x), .int .u64 (ww0 x), .int .u64 (ww3 y), .int .u64 (ww2 y), .int .u64 (ww1 y), .int .u64 (ww0 y), .int .u64 (ww3 z), .int .u64 (ww2 z), .int .u64 (ww1 z), .int .u64 (ww0 z)]] := (by with_reducible exact T0.drew.step hB); have tltw2 := (T0.b 0 rfl).lt; have lR0w2 := R0.lt; replace R0 := R0.drew.step hB; skip)); clear T0; have T0 := T1; clear T1; clear hB tok2 _t)
     | (go_at_call 59; refine (F3 _).mono ?_; rintro e w3 ⟨s3, o3, n3, c3, d3, rfl, N3, hB⟩; (first | (replace N1 := N1.below hB; replace N2 := N2.below hB; skip) | (replace N1 := N1.drew.below hB; replace N2 := N2.drew.below hB; skip)); (first | (have T1 : ArgsB w w3 [[.int .u64 (ww3 x), .int .u64 (ww2 x), .int .u64 (ww1 x), .int .u64 (ww0 x), .int .u64 (ww3 y), .int .u64 (ww2 y), .int .u64 (ww1 y), .int .u64 (ww0 y), .int .u64 (ww3 z), .int .u64 (ww2 z), .int .u64 (ww1 z), .int .u64 (ww0 z)]] := (by with_reducible exact T0.step hB); have tltw3 := (T0.b 0 rfl).lt; have lR0w3 := R0.lt; replace R0 := R0.step hB; skip) | (have T1 : ArgsB w w3 [[.int .u64 (ww3 x), .int .u64 (ww2 x), .int .u64 (ww1 x), .int .u64 (ww0 x), .int .u64 (ww3 y), .int .u64 (ww2 y), .int .u64 (ww1 y), .int .u64 (ww0 y), .int .u64 (ww3 z), .int .u64 (ww2 z), .int .u64 (ww1 z), .int .u64 (ww0 z)]] := (by with_reducible exact T0.drew.step hB); have tltw3 := (T0.b 0 rfl).lt; have lR0w3 := R0.lt; replace R0 := R0.drew.step hB; skip)); clear T0; have T0 := T1; clear T1; clear hB; have rc0 := R0.c 0 rfl; have rf0 := R0.f 0 rfl; have rc1 := R0.c 1 rfl; have rf1 := R0.f 1 rfl; have rc2 := R0.c 2 rfl; have rf2 := R0.f 2 rfl; have rc3 := R0.c 3 rfl; have rf3 := R0.f 3 rfl; have rc4 := R0.c 4 rfl; have rf4 := R0.f 4 rfl; have rc5 := R0.c 5 rfl; have rf5 := R0.f 5 rfl; have rl := R0.lt))
 all_goals have HB := T0.below
 all_goals have M1 := num_set6 N1 R0 (.bool s1) (.slice o1 n1 c1) (.bool s2) (.slice o2 n2 c2) (.bool s3) (.slice o3 n3 c3)
 all_goals have M2 := num_set6 N2 R0 (.bool s1) (.slice o1 n1 c1) (.bool s2) (.slice o2 n2 c2) (.bool s3) (.slice o3 n3 c3)
 all_goals have M3 := num_set6 N3 R0 (.bool s1) (.slice o1 n1 c1) (.bool s2) (.slice o2 n2 c2) (.bool s3) (.slice o3 n3 c3)
 all_goals clear T0 R0 N1 N2 N3 F1 F2 F3
 all_goals go_wp2
 all_goals refine bodyPost_ret (v := .agg #[.bool s1, .slice o1 n1 c1, .bool s2, .slice o2 n2 c2, .bool s3, .slice o3 n3 c3]) (by simp [results, Tryz.results29, go_sem, rc0, rc1, rc2, rc3, rc4, rc5]) rfl ?_
 all_goals refine ⟨s1, o1, n1, c1, d1, s2, o2, n2, c2, d2, s3, o3, n3, c3, d3, rfl, by first | exact M1 | exact M1.drew, by first | exact M2 | exact M2.drew, by first | exact M3 | exact M3.drew, ?_⟩
 all_goals repeat' (refine Below.setCell ?_ (by simp; try omega) _)
 all_goals first | exact HB | exact HB.drew
theorem l3_cells0 {s1 s2 s3 : Bool} {o1 o2 o3 : Option Addr} {n1 n2 n3 c1 c2 c3 : Nat} {W : World} {gx : Nat} (X0 : Blk W gx [.bool s1, .slice o1 n1 c1, .bool s2, .slice o2 n2 c2, .bool s3, .slice o3 n3 c3]) : (fun w' => w'.cell? ⟨gx, 0, none⟩ = some (.bool s1) ∧ w'.cell? ⟨gx, 1, none⟩ = some (.slice o1 n1 c1) ∧ w'.cell? ⟨gx, 2, none⟩ = some (.bool s2) ∧ w'.cell? ⟨gx, 3, none⟩ = some (.slice o2 n2 c2) ∧ w'.cell? ⟨gx, 4, none⟩ = some (.bool s3) ∧ w'.cell? ⟨gx, 5, none⟩ = some (.slice o3 n3 c3)) W := ⟨X0.c 0 rfl, X0.c 1 rfl, X0.c 2 rfl, X0.c 3 rfl, X0.c 4 rfl, X0.c 5 rfl⟩
set_option maxRecDepth 100000 in
set_option maxHeartbeats 8000000 in
theorem specPointOk_det (x y z : Int) (hx : told x = true) (hy : told y = true) (hz : told z = true) (w : World) : Calls Tryz.prog 27 #[PV x y z] w (VP (.bool (ptB x y z)) w) := by
 have HB := (Below.refl _ w).alloc (Nat.le_refl _) (.cells #[.int .u64 (ww3 x), .int .u64 (ww2 x), .int .u64 (ww1 x), .int .u64 (ww0 x), .int .u64 (ww3 y), .int .u64 (ww2 y), .int .u64 (ww1 y), .int .u64 (ww0 y), .int .u64 (ww3 z), .int .u64 (ww2 z), .int .u64 (ww1 z), .int .u64 (ww0 z)] 38)
 have OF := l3Of_det x y z hx hy hz
 clear hx hy hz
 go_enter Tryz.func27, Tryz.ntmps27
 go_wp2_with fail
 refine (OF _).mono ?_
 rintro e w1 ⟨s1, o1, n1, c1, d1, s2, o2, n2, c2, d2, s3, o3, n3, c3, d3, rfl, N1, N2, N3, hB⟩
 replace HB := HB.trans (hB.mono HB.size)
 clear hB OF
 go_upto_region 2 with fail
 have X0 : Blk (w1.alloc (.cells #[.bool s1, .slice o1 n1 c1, .bool s2, .slice o2 n2 c2, .bool s3, .slice o3 n3 c3] 62)) w1.heap.size [.bool s1, .slice o1 n1 c1, .bool s2, .slice o2 n2 c2, .bool s3, .slice o3 n3 c3] := Blk.new w1 _ _ rfl
 have hb0 := (Below.refl w1.heap.size w1).alloc (Nat.le_refl _) (.cells #[.bool s1, .slice o1 n1 c1, .bool s2, .slice o2 n2 c2, .bool s3, .slice o3 n3 c3] 62)
 replace N1 := N1.below hb0
 replace N2 := N2.below hb0
 replace N3 := N3.below hb0
 replace HB := HB.alloc HB.size (.cells #[.bool s1, .slice o1 n1 c1, .bool s2, .slice o2 n2 c2, .bool s3, .slice o3 n3 c3] 62)
 clear hb0
 generalize w1.alloc (.cells #[.bool s1, .slice o1 n1 c1, .bool s2, .slice o2 n2 c2, .bool s3, .slice o3 n3 c3] 62) = W at *
 generalize w1.heap.size = gx at *
 replace N1 := N1.drew
 replace N2 := N2.drew
 replace N3 := N3.drew
 by_cases hs : 0 < z
 · by_cases h1 : (small x && small y && small z) = true
   · have HR : Hid (ptB x y z = (cmpI (Int.gcd (Int.gcd x y) z : Int) 1 == 0)) := by
       show _ = _
       unfold ptB
       rw [h1, Bool.eq_iff_iff]
       simp only [hs, decide_true, Bool.true_and, decide_eq_true_eq, beq_iff_eq]
       unfold cmpI
       split
       · constructor
         · intro h; omega
         · intro h; exact absurd h (by decide)
       · split
         · constructor
           · intro h; omega
           · intro h; exact absurd h (by decide)
         · exact ⟨fun _ => rfl, fun _ => by omega⟩
     obtain ⟨q, hq⟩ : ∃ q, cmpI (Int.gcd (Int.gcd x y) z : Int) 1 = q := ⟨_, rfl⟩
     rw [hq] at HR
     have tok1 : True := trivial
     go_region_held3 (fun w' => w'.cell? ⟨gx, 0, none⟩ = some (.bool s1) ∧ w'.cell? ⟨gx, 1, none⟩ = some (.slice o1 n1 c1) ∧ w'.cell? ⟨gx, 2, none⟩ = some (.bool s2) ∧ w'.cell? ⟨gx, 3, none⟩ = some (.slice o2 n2 c2) ∧ w'.cell? ⟨gx, 4, none⟩ = some (.bool s3) ∧ w'.cell? ⟨gx, 5, none⟩ = some (.slice o3 n3 c3)) (first | (with_reducible exact l3_cells0 X0) | (with_reducible exact l3_cells0 X0.drew))
       (first
         | (go_at_call 50; refine (sign_any s3 o3 n3 c3 d3 _ 8 _ N3).mono ?_; rintro e w2 ⟨rfl, hB⟩; rw [cmpI_gt hs]; (first | (replace X0 := X0.step hB; replace HB := HB.trans (hB.mono HB.size)) | (replace X0 := X0.drew.step hB; replace HB := HB.drew.trans (hB.mono HB.size))); replace N1 := N1.below hB; replace N2 := N2.below hB; replace N3 := N3.below hB; clear hB)
         | (go_at_call 51; refine (l3Small_any s1 o1 n1 c1 d1 s2 o2 n2 c2 d2 s3 o3 n3 c3 d3 x y z 8 (by omega) _ N1 N2 N3).mono ?_; rintro e w3 ⟨rfl, hB⟩; rw [h1]; (first | (replace X0 := X0.step hB; replace HB := HB.trans (hB.mono HB.size)) | (replace X0 := X0.drew.step hB; replace HB := HB.drew.trans (hB.mono HB.size))); replace N1 := N1.below hB; replace N2 := N2.below hB; replace N3 := N3.below hB; clear hB)
         | (go_at_call 53; have _t := tok1; refine (gcd_any s1 s2 o1 o2 n1 n2 c1 c2 8 d1 d2 _ _ _ N1 N2 (by omega)).mono ?_; rintro e w4 ⟨s4, o4, n4, c4, d4, rfl, N4, hB⟩; (first | (replace X0 := X0.step hB; replace HB := HB.trans (hB.mono HB.size)) | (replace X0 := X0.drew.step hB; replace HB := HB.drew.trans (hB.mono HB.size))); replace N3 := N3.below hB; clear hB; clear tok1 _t N1 N2)
         | (go_at_call 53; refine (gcd_any s4 s3 o4 o3 n4 n3 c4 c3 8 d4 d3 _ _ _ N4 N3 (by omega)).mono ?_; rintro e w5 ⟨s5, o5, n5, c5, d5, rfl, N5, hB⟩; (first | (replace X0 := X0.step hB; replace HB := HB.trans (hB.mono HB.size)) | (replace X0 := X0.drew.step hB; replace HB := HB.drew.trans (hB.mono HB.size))); clear hB; clear N3 N4)
         | (go_at_call 54; refine (int_any 1 _ (by decide) (by decide)).mono ?_; rintro e w6 ⟨s6, o6, n6, c6, d6, rfl, N6, hB⟩; (first | (replace X0 := X0.step hB; replace HB := HB.trans (hB.mono HB.size)) | (replace X0 := X0.drew.step hB; replace HB := HB.drew.trans (hB.mono HB.size))); replace N5 := N5.below hB; clear hB)
         | (go_at_call 52; refine (cmp_any s5 s6 o5 o6 n5 n6 c5 c6 8 d5 d6 _ _ _ N5 (num_more N6 (by decide)) (by omega)).mono ?_; rintro e w7 ⟨rfl, hB⟩; rw [hq]; (first | (replace X0 := X0.step hB; replace HB := HB.trans (hB.mono HB.size)) | (replace X0 := X0.drew.step hB; replace HB := HB.drew.trans (hB.mono HB.size))); clear hB))
     all_goals clear hq hs h1 X0
     all_goals go_wp2
     all_goals go_ret
     all_goals exact ⟨by rw [HR.out]; simp, by first | exact HB | exact HB.drew⟩
   · replace h1 := Bool.eq_false_iff.2 h1
     have HR : Hid (ptB x y z = false) := by show _ = _; unfold ptB; rw [h1]; simp
     have q0 := X0.c 0 rfl; have q1 := X0.c 1 rfl; have q2 := X0.c 2 rfl; have q3 := X0.c 3 rfl; have q4 := X0.c 4 rfl; have q5 := X0.c 5 rfl
     refine wp_region_any (by kernel_rfl) ?_
     try (change wpAny _ _ _ _ _ _ _ (World.drew _))
     refine wpAny_ready (rs := [0]) (by kernel_rfl) (by simp) ?_
     refine AllReady.cons rfl (fun K hK => ?_) AllReady.nil
     go_simp
     refine hK _ _ ?_
     clear hK K
     refine wpAny_ready (rs := [1]) (by kernel_rfl) (by simp) ?_
     refine AllReady.cons rfl (fun K hK => ?_) AllReady.nil
     go_simp
     refine hK _ _ ?_
     clear hK K
     refine wpAny_ready (rs := [2]) (by kernel_rfl) (by simp) ?_
     refine AllReady.cons rfl (fun K hK => ?_) AllReady.nil
     go_simp
     go_wp2_with (go_at_call 50; refine (sign_any s3 o3 n3 c3 d3 _ 8 _ N3).mono ?_; rintro e w2 ⟨rfl, hB⟩; rw [cmpI_gt hs]; (first | (replace X0 := X0.step hB; replace HB := HB.trans (hB.mono HB.size)) | (replace X0 := X0.drew.step hB; replace HB := HB.drew.trans (hB.mono HB.size))); replace N1 := N1.below hB; replace N2 := N2.below hB; replace N3 := N3.below hB; clear hB; clear q0 q1 q2 q3 q4 q5; have q0 := X0.c 0 rfl; have q1 := X0.c 1 rfl; have q2 := X0.c 2 rfl; have q3 := X0.c 3 rfl; have q4 := X0.c 4 rfl; have q5 := X0.c 5 rfl)
     (try (refine hK _ _ ?_; clear hK K))
     refine wpAny_ready (rs := [3]) (by kernel_rfl) (by simp) ?_
     refine AllReady.cons rfl (fun K hK => ?_) AllReady.nil
     go_simp
     refine hK _ _ ?_
     clear hK K
     refine wpAny_ready (rs := [4]) (by kernel_rfl) (by simp) ?_
     refine AllReady.cons rfl (fun K hK => ?_) AllReady.nil
     go_simp
     refine hK _ _ ?_
     clear hK K
     refine wpAny_ready (rs := [5]) (by kernel_rfl) (by simp) ?_
     refine AllReady.cons rfl (fun K hK => ?_) AllReady.nil
     go_simp
     refine hK _ _ ?_
     clear hK K
     refine wpAny_ready (rs := [6]) (by kernel_rfl) (by simp) ?_
     refine AllReady.cons rfl (fun K hK => ?_) AllReady.nil
     go_simp
     go_wp2_with (go_at_call 51; refine (l3Small_any s1 o1 n1 c1 d1 s2 o2 n2 c2 d2 s3 o3 n3 c3 d3 x y z 8 (by omega) _ N1 N2 N3).mono ?_; rintro e w3 ⟨rfl, hB⟩; rw [h1]; (first | (replace X0 := X0.step hB; replace HB := HB.trans (hB.mono HB.size)) | (replace X0 := X0.drew.step hB; replace HB := HB.drew.trans (hB.mono HB.size))); clear hB; clear q0 q1 q2 q3 q4 q5 X0 N1 N2 N3)
     (try (refine hK _ _ ?_; clear hK K))
     refine wpAny_ready (rs := [7]) (by kernel_rfl) (by simp) ?_
     refine AllReady.cons rfl (fun K hK => ?_) AllReady.nil
     go_simp
     refine hK _ _ ?_
     clear hK K
     refine wpAny_ready (rs := [8]) (by kernel_rfl) (by simp) ?_
     refine AllReady.cons rfl (fun K hK => ?_) AllReady.nil
     go_simp
     refine hK _ _ ?_
     clear hK K
     refine wpAny_take (i := 9) (v := undef) rfl (by kernel_rfl) (by kernel_rfl) (by kernel_rfl) (fun _ _ _ h => h) (Or.inr ⟨by kernel_rfl, rfl⟩) ?_
     refine wpAny_take (i := 10) (v := undef) rfl (by kernel_rfl) (by kernel_rfl) (by kernel_rfl) (fun _ _ _ h => h) (Or.inr ⟨by kernel_rfl, rfl⟩) ?_
     refine wpAny_take (i := 11) (v := undef) rfl (by kernel_rfl) (by kernel_rfl) (by kernel_rfl) (fun _ _ _ h => h) (Or.inr ⟨by kernel_rfl, rfl⟩) ?_
     refine wpAny_take (i := 12) (v := undef) rfl (by kernel_rfl) (by kernel_rfl) (by kernel_rfl) (fun _ _ _ h => h) (Or.inr ⟨by kernel_rfl, rfl⟩) ?_
     refine wpAny_take (i := 13) (v := undef) rfl (by kernel_rfl) (by kernel_rfl) (by kernel_rfl) (fun _ _ _ h => h) (Or.inr ⟨by kernel_rfl, rfl⟩) ?_
     refine wpAny_take (i := 14) (v := undef) rfl (by kernel_rfl) (by kernel_rfl) (by kernel_rfl) (fun _ _ _ h => h) (Or.inr ⟨by kernel_rfl, rfl⟩) ?_
     refine wpAny_take (i := 15) (v := undef) rfl (by kernel_rfl) (by kernel_rfl) (by kernel_rfl) (fun _ _ _ h => h) (Or.inr ⟨by kernel_rfl, rfl⟩) ?_
     refine wpAny_take (i := 16) (v := undef) rfl (by kernel_rfl) (by kernel_rfl) (by kernel_rfl) (fun _ _ _ h => h) (Or.inr ⟨by kernel_rfl, rfl⟩) ?_
     refine wpAny_take (i := 17) (v := undef) rfl (by kernel_rfl) (by kernel_rfl) (by kernel_rfl) (fun _ _ _ h => h) (Or.inr ⟨by kernel_rfl, rfl⟩) ?_
     refine wpAny_take (i := 18) (v := undef) rfl (by kernel_rfl) (by kernel_rfl) (by kernel_rfl) (fun _ _ _ h => h) (Or.inr ⟨by kernel_rfl, rfl⟩) ?_
     refine wpAny_take (i := 19) (v := undef) rfl (by kernel_rfl) (by kernel_rfl) (by kernel_rfl) (fun _ _ _ h => h) (Or.inr ⟨by kernel_rfl, rfl⟩) ?_
     refine wpAny_ready (rs := [20]) (by kernel_rfl) (by simp) ?_
     refine AllReady.cons rfl (fun K hK => ?_) AllReady.nil
     go_simp
     refine hK _ _ ?_
     clear hK K
     refine wpAny_ready (rs := [21]) (by kernel_rfl) (by simp) ?_
     refine AllReady.cons rfl (fun K hK => ?_) AllReady.nil
     go_simp
     refine hK _ _ ?_
     clear hK K
     refine wpAny_done (by kernel_rfl) ?_ _
     go_wp2
     go_ret
     exact ⟨by rw [HR.out]; rfl, by first | exact HB | exact HB.drew⟩
 · have HR : Hid (ptB x y z = false) := by show _ = _; unfold ptB; simp [hs]
   have hcs : cmpI z 0 = -1 ∨ cmpI z 0 = 0 := by
     rcases Int.lt_trichotomy z 0 with h | h | h
     · exact Or.inl (cmpI_lt h)
     · exact Or.inr (cmpI_eq h)
     · exact absurd h hs
   have q0 := X0.c 0 rfl; have q1 := X0.c 1 rfl; have q2 := X0.c 2 rfl; have q3 := X0.c 3 rfl; have q4 := X0.c 4 rfl; have q5 := X0.c 5 rfl
   obtain ⟨q, hq⟩ : ∃ q, cmpI z 0 = q := ⟨_, rfl⟩
   rw [hq] at hcs
   have hd1 : decide (0 < q) = false := by rcases hcs with rfl | rfl <;> rfl
   clear hcs hs
   refine wp_region_any (by kernel_rfl) ?_
   try (change wpAny _ _ _ _ _ _ _ (World.drew _))
   refine wpAny_ready (rs := [0]) (by kernel_rfl) (by simp) ?_
   refine AllReady.cons rfl (fun K hK => ?_) AllReady.nil
   go_simp
   refine hK _ _ ?_
   clear hK K
   refine wpAny_ready (rs := [1]) (by kernel_rfl) (by simp) ?_
   refine AllReady.cons rfl (fun K hK => ?_) AllReady.nil
   go_simp
   refine hK _ _ ?_
   clear hK K
   refine wpAny_ready (rs := [2]) (by kernel_rfl) (by simp) ?_
   refine AllReady.cons rfl (fun K hK => ?_) AllReady.nil
   go_simp
   go_wp2_with (go_at_call 50; refine (sign_any s3 o3 n3 c3 d3 _ 8 _ N3).mono ?_; rintro e w2 ⟨rfl, hB⟩; rw [hq]; (first | (replace X0 := X0.step hB; replace HB := HB.trans (hB.mono HB.size)) | (replace X0 := X0.drew.step hB; replace HB := HB.drew.trans (hB.mono HB.size))); clear hB; clear q0 q1 q2 q3 q4 q5 X0 N1 N2 N3)
   (try (refine hK _ _ ?_; clear hK K))
   refine wpAny_ready (rs := [3]) (by kernel_rfl) (by simp) ?_
   refine AllReady.cons rfl (fun K hK => ?_) AllReady.nil
   go_simp
   refine hK _ _ ?_
   clear hK K
   refine wpAny_ready (rs := [4]) (by kernel_rfl) (by simp) ?_
   refine AllReady.cons rfl (fun K hK => ?_) AllReady.nil
   go_simp
   refine hK _ _ ?_
   clear hK K
   refine wpAny_take (i := 5) (v := undef) rfl (by kernel_rfl) (by kernel_rfl) (by kernel_rfl) (fun _ _ _ h => h) (Or.inr ⟨by kernel_rfl, rfl⟩) ?_
   refine wpAny_take (i := 6) (v := undef) rfl (by kernel_rfl) (by kernel_rfl) (by kernel_rfl) (fun _ _ _ h => h) (Or.inr ⟨by kernel_rfl, rfl⟩) ?_
   refine wpAny_ready (rs := [7]) (by kernel_rfl) (by simp) ?_
   refine AllReady.cons rfl (fun K hK => ?_) AllReady.nil
   go_simp
   refine hK _ _ ?_
   clear hK K
   refine wpAny_ready (rs := [8]) (by kernel_rfl) (by simp) ?_
   refine AllReady.cons rfl (fun K hK => ?_) AllReady.nil
   go_simp
   refine hK _ _ ?_
   clear hK K
   refine wpAny_take (i := 9) (v := undef) rfl (by kernel_rfl) (by kernel_rfl) (by kernel_rfl) (fun _ _ _ h => h) (Or.inr ⟨by kernel_rfl, rfl⟩) ?_
   refine wpAny_take (i := 10) (v := undef) rfl (by kernel_rfl) (by kernel_rfl) (by kernel_rfl) (fun _ _ _ h => h) (Or.inr ⟨by kernel_rfl, rfl⟩) ?_
   refine wpAny_take (i := 11) (v := undef) rfl (by kernel_rfl) (by kernel_rfl) (by kernel_rfl) (fun _ _ _ h => h) (Or.inr ⟨by kernel_rfl, rfl⟩) ?_
   refine wpAny_take (i := 12) (v := undef) rfl (by kernel_rfl) (by kernel_rfl) (by kernel_rfl) (fun _ _ _ h => h) (Or.inr ⟨by kernel_rfl, rfl⟩) ?_
   refine wpAny_take (i := 13) (v := undef) rfl (by kernel_rfl) (by kernel_rfl) (by kernel_rfl) (fun _ _ _ h => h) (Or.inr ⟨by kernel_rfl, rfl⟩) ?_
   refine wpAny_take (i := 14) (v := undef) rfl (by kernel_rfl) (by kernel_rfl) (by kernel_rfl) (fun _ _ _ h => h) (Or.inr ⟨by kernel_rfl, rfl⟩) ?_
   refine wpAny_take (i := 15) (v := undef) rfl (by kernel_rfl) (by kernel_rfl) (by kernel_rfl) (fun _ _ _ h => h) (Or.inr ⟨by kernel_rfl, rfl⟩) ?_
   refine wpAny_take (i := 16) (v := undef) rfl (by kernel_rfl) (by kernel_rfl) (by kernel_rfl) (fun _ _ _ h => h) (Or.inr ⟨by kernel_rfl, rfl⟩) ?_
   refine wpAny_take (i := 17) (v := undef) rfl (by kernel_rfl) (by kernel_rfl) (by kernel_rfl) (fun _ _ _ h => h) (Or.inr ⟨by kernel_rfl, rfl⟩) ?_
   refine wpAny_take (i := 18) (v := undef) rfl (by kernel_rfl) (by kernel_rfl) (by kernel_rfl) (fun _ _ _ h => h) (Or.inr ⟨by kernel_rfl, rfl⟩) ?_
   refine wpAny_take (i := 19) (v := undef) rfl (by kernel_rfl) (by kernel_rfl) (by kernel_rfl) (fun _ _ _ h => h) (Or.inr ⟨by kernel_rfl, rfl⟩) ?_
   refine wpAny_ready (rs := [20]) (by kernel_rfl) (by simp) ?_
   refine AllReady.cons rfl (fun K hK => ?_) AllReady.nil
   go_simp
   refine hK _ _ ?_
   clear hK K
   refine wpAny_ready (rs := [21]) (by kernel_rfl) (by simp) ?_
   refine AllReady.cons rfl (fun K hK => ?_) AllReady.nil
   go_simp
   refine hK _ _ ?_
   clear hK K
   refine wpAny_done (by kernel_rfl) ?_ _
   go_wp2
   go_ret
   exact ⟨by rw [HR.out]; rfl, by first | exact HB | exact HB.drew⟩
theorem sm_lt {a : Int} (h : small a = true) : (a.natAbs : Int) ≤ 1208925819614629174706176 := by
 unfold small at h
 rw [decide_eq_true_iff] at h
 omega
theorem abs_mul {a b : Int} {m n : Nat} (ha : a.natAbs ≤ m) (hb : b.natAbs ≤ n) : (a * b).natAbs ≤ m * n := by
 rw [Int.natAbs_mul]
 exact Nat.mul_le_mul ha hb
theorem sm_prod {a b : Int} (ha : small a = true) (hb : small b = true) : (a * b).natAbs ≤ 1461501637330902918203684832716283019655932542976 := by
 have := abs_mul (show a.natAbs ≤ 1208925819614629174706176 by have := sm_lt ha; omega) (show b.natAbs ≤ 1208925819614629174706176 by have := sm_lt hb; omega)
 omega
theorem lr_abs {a : Int} (h : a.natAbs ≤ 3273390607896141870013189696827599152216642046043064789483291368096133796404674554883270092325904157150886684127560071009217256545885393053328527589376) : LR a := by
 unfold LR
 omega
theorem told_of {a : Int} (h : a.natAbs ≤ 1809251394333065553493296640760748560207343510400633813116524750123642650624) : told a = true := by
 unfold told
 apply decide_eq_true
 omega
theorem cmp_sub (a b : Int) : cmpI (a - b) 0 = cmpI a b := by
 rcases Int.lt_trichotomy a b with h | h | h
 · rw [cmpI_lt h, cmpI_lt (by omega)]
 · rw [cmpI_eq h, cmpI_eq (by omega)]
 · rw [cmpI_gt h, cmpI_gt (by omega)]
theorem minor_sm (a b c d : Int) (ha : small a = true) (hb : small b = true) (hc : small c = true) (hd : small d = true) (w : World) : Calls Tryz.prog 101 #[W4 a, W4 b, W4 c, W4 d] w (VP (W4 (a * d - b * c)) w) := by
 have h1 := sm_prod ha hd
 have h2 := sm_prod hb hc
 exact minor_det a b c d (told_small ha) (told_small hb) (told_small hc) (told_small hd) (lr_abs (by omega)) (lr_abs (by omega)) (told_of (by omega)) w
theorem minor_abs {a b c d : Int} (ha : small a = true) (hb : small b = true) (hc : small c = true) (hd : small d = true) : (a * d - b * c).natAbs ≤ 2923003274661805836407369665432566039311865085952 := by
 have h1 := sm_prod ha hd
 have h2 := sm_prod hb hc
 omega
set_option maxRecDepth 100000 in
set_option maxHeartbeats 2000000 in
theorem byX_det (x y z u v t : Int) (sx : small x = true) (sz : small z = true) (su : small u = true) (st : small t = true) (w : World) : Calls Tryz.prog 67 #[PV x y z, PV u v t] w (VP (.int .i64 (cmpI (x * t) (u * z))) w) := by
 have T0 : ArgsB w ((w.alloc (.cells #[.int .u64 (ww3 x), .int .u64 (ww2 x), .int .u64 (ww1 x), .int .u64 (ww0 x), .int .u64 (ww3 y), .int .u64 (ww2 y), .int .u64 (ww1 y), .int .u64 (ww0 y), .int .u64 (ww3 z), .int .u64 (ww2 z), .int .u64 (ww1 z), .int .u64 (ww0 z)] 38)).alloc (.cells #[.int .u64 (ww3 u), .int .u64 (ww2 u), .int .u64 (ww1 u), .int .u64 (ww0 u), .int .u64 (ww3 v), .int .u64 (ww2 v), .int .u64 (ww1 v), .int .u64 (ww0 v), .int .u64 (ww3 t), .int .u64 (ww2 t), .int .u64 (ww1 t), .int .u64 (ww0 t)] 38)) [[.int .u64 (ww3 x), .int .u64 (ww2 x), .int .u64 (ww1 x), .int .u64 (ww0 x), .int .u64 (ww3 y), .int .u64 (ww2 y), .int .u64 (ww1 y), .int .u64 (ww0 y), .int .u64 (ww3 z), .int .u64 (ww2 z), .int .u64 (ww1 z), .int .u64 (ww0 z)], [.int .u64 (ww3 u), .int .u64 (ww2 u), .int .u64 (ww1 u), .int .u64 (ww0 u), .int .u64 (ww3 v), .int .u64 (ww2 v), .int .u64 (ww1 v), .int .u64 (ww0 v), .int .u64 (ww3 t), .int .u64 (ww2 t), .int .u64 (ww1 t), .int .u64 (ww0 t)]] := ar2 _ _ _ _ w
 have C1 := minor_sm x z u t sx sz su st
 have C2 := sign_det (x * t - z * u) (told_of (by have := minor_abs sx sz su st; omega))
 rw [cmp_sub, Int.mul_comm z u] at C2
 rw [Int.mul_comm z u] at C1
 clear sx su sz st
 go_enter Tryz.func67, Tryz.ntmps67
 go_wp2_with fail
 refine (C1 _).mono ?_
 rintro e w1 ⟨rfl, hB⟩
 replace T0 := T0.step hB
 clear hB
 go_wp2_with fail
 refine (C2 _).mono ?_
 rintro e w2 ⟨rfl, hB⟩
 have HB := (T0.step hB).below
 clear hB T0 C1 C2
 go_wp2
 go_ret
 exact ⟨rfl, HB⟩
set_option maxRecDepth 100000 in
set_option maxHeartbeats 2000000 in
theorem byY_det (x y z u v t : Int) (sy : small y = true) (sz : small z = true) (sv : small v = true) (st : small t = true) (w : World) : Calls Tryz.prog 100 #[PV x y z, PV u v t] w (VP (.int .i64 (cmpI (y * t) (v * z))) w) := by
 have T0 : ArgsB w ((w.alloc (.cells #[.int .u64 (ww3 x), .int .u64 (ww2 x), .int .u64 (ww1 x), .int .u64 (ww0 x), .int .u64 (ww3 y), .int .u64 (ww2 y), .int .u64 (ww1 y), .int .u64 (ww0 y), .int .u64 (ww3 z), .int .u64 (ww2 z), .int .u64 (ww1 z), .int .u64 (ww0 z)] 38)).alloc (.cells #[.int .u64 (ww3 u), .int .u64 (ww2 u), .int .u64 (ww1 u), .int .u64 (ww0 u), .int .u64 (ww3 v), .int .u64 (ww2 v), .int .u64 (ww1 v), .int .u64 (ww0 v), .int .u64 (ww3 t), .int .u64 (ww2 t), .int .u64 (ww1 t), .int .u64 (ww0 t)] 38)) [[.int .u64 (ww3 x), .int .u64 (ww2 x), .int .u64 (ww1 x), .int .u64 (ww0 x), .int .u64 (ww3 y), .int .u64 (ww2 y), .int .u64 (ww1 y), .int .u64 (ww0 y), .int .u64 (ww3 z), .int .u64 (ww2 z), .int .u64 (ww1 z), .int .u64 (ww0 z)], [.int .u64 (ww3 u), .int .u64 (ww2 u), .int .u64 (ww1 u), .int .u64 (ww0 u), .int .u64 (ww3 v), .int .u64 (ww2 v), .int .u64 (ww1 v), .int .u64 (ww0 v), .int .u64 (ww3 t), .int .u64 (ww2 t), .int .u64 (ww1 t), .int .u64 (ww0 t)]] := ar2 _ _ _ _ w
 have C1 := minor_sm y z v t sy sz sv st
 have C2 := sign_det (y * t - z * v) (told_of (by have := minor_abs sy sz sv st; omega))
 rw [cmp_sub, Int.mul_comm z v] at C2
 rw [Int.mul_comm z v] at C1
 clear sy sv sz st
 go_enter Tryz.func100, Tryz.ntmps100
 go_wp2_with fail
 refine (C1 _).mono ?_
 rintro e w1 ⟨rfl, hB⟩
 replace T0 := T0.step hB
 clear hB
 go_wp2_with fail
 refine (C2 _).mono ?_
 rintro e w2 ⟨rfl, hB⟩
 have HB := (T0.step hB).below
 clear hB T0 C1 C2
 go_wp2
 go_ret
 exact ⟨rfl, HB⟩
def ordI (x y z u v t : Int) : Int := if cmpI (x * t) (u * z) = 0 then cmpI (y * t) (v * z) else cmpI (x * t) (u * z)
theorem ptB_small {x y z : Int} (h : ptB x y z = true) : 0 < z ∧ small x = true ∧ small y = true ∧ small z = true := by
 unfold ptB at h
 simp only [Bool.and_eq_true, decide_eq_true_eq] at h
 exact ⟨h.1.1, h.1.2.1.1, h.1.2.1.2, h.1.2.2⟩
theorem m2_cells {ps1 ps2 ps3 : Bool} {po1 po2 po3 : Option Addr} {pn1 pc1 pn2 pc2 pn3 pc3 : Nat} {qs1 qs2 qs3 : Bool} {qo1 qo2 qo3 : Option Addr} {qn1 qc1 qn2 qc2 qn3 qc3 : Nat} {w W : World} (T0 : ArgsB w W [[.bool ps1, .slice po1 pn1 pc1, .bool ps2, .slice po2 pn2 pc2, .bool ps3, .slice po3 pn3 pc3], [.bool qs1, .slice qo1 qn1 qc1, .bool qs2, .slice qo2 qn2 qc2, .bool qs3, .slice qo3 qn3 qc3]]) : (fun w' => w'.cell? ⟨w.heap.size, 0, none⟩ = some (.bool ps1) ∧ w'.cell? ⟨w.heap.size, 1, none⟩ = some (.slice po1 pn1 pc1) ∧ w'.cell? ⟨w.heap.size, 2, none⟩ = some (.bool ps2) ∧ w'.cell? ⟨w.heap.size, 3, none⟩ = some (.slice po2 pn2 pc2) ∧ w'.cell? ⟨w.heap.size, 4, none⟩ = some (.bool ps3) ∧ w'.cell? ⟨w.heap.size, 5, none⟩ = some (.slice po3 pn3 pc3) ∧ w'.cell? ⟨w.heap.size + 1, 0, none⟩ = some (.bool qs1) ∧ w'.cell? ⟨w.heap.size + 1, 1, none⟩ = some (.slice qo1 qn1 qc1) ∧ w'.cell? ⟨w.heap.size + 1, 2, none⟩ = some (.bool qs2) ∧ w'.cell? ⟨w.heap.size + 1, 3, none⟩ = some (.slice qo2 qn2 qc2) ∧ w'.cell? ⟨w.heap.size + 1, 4, none⟩ = some (.bool qs3) ∧ w'.cell? ⟨w.heap.size + 1, 5, none⟩ = some (.slice qo3 qn3 qc3)) W := ⟨(T0.b 0 rfl).c 0 rfl, (T0.b 0 rfl).c 1 rfl, (T0.b 0 rfl).c 2 rfl, (T0.b 0 rfl).c 3 rfl, (T0.b 0 rfl).c 4 rfl, (T0.b 0 rfl).c 5 rfl, (T0.b 1 rfl).c 0 rfl, (T0.b 1 rfl).c 1 rfl, (T0.b 1 rfl).c 2 rfl, (T0.b 1 rfl).c 3 rfl, (T0.b 1 rfl).c 4 rfl, (T0.b 1 rfl).c 5 rfl⟩
set_option maxRecDepth 100000 in
set_option maxHeartbeats 2000000 in
theorem l3CmpX_any (ps1 ps2 ps3 : Bool) (po1 po2 po3 : Option Addr) (pn1 pc1 pn2 pc2 pn3 pc3 : Nat) (qs1 qs2 qs3 : Bool) (qo1 qo2 qo3 : Option Addr) (qn1 qc1 qn2 qc2 qn3 qc3 : Nat) (pd1 pd3 qd1 qd3 : List Int) (x z u t : Int) (k : Nat) (hk : k ≤ 1000) (w : World) (Np1 : IsNum w ps1 po1 pn1 pc1 pd1 x k) (Np3 : IsNum w ps3 po3 pn3 pc3 pd3 z k) (Nq1 : IsNum w qs1 qo1 qn1 qc1 qd1 u k) (Nq3 : IsNum w qs3 qo3 qn3 qc3 qd3 t k) : Calls Tryz.prog 138 #[.agg #[.bool ps1, .slice po1 pn1 pc1, .bool ps2, .slice po2 pn2 pc2, .bool ps3, .slice po3 pn3 pc3], .agg #[.bool qs1, .slice qo1 qn1 qc1, .bool qs2, .slice qo2 qn2 qc2, .bool qs3, .slice qo3 qn3 qc3]] w (VP (.int .i64 (cmpI (x * t) (u * z))) w) := by
 have T0 : ArgsB w ((w.alloc (.cells #[.bool ps1, .slice po1 pn1 pc1, .bool ps2, .slice po2 pn2 pc2, .bool ps3, .slice po3 pn3 pc3] 62)).alloc (.cells #[.bool qs1, .slice qo1 qn1 qc1, .bool qs2, .slice qo2 qn2 qc2, .bool qs3, .slice qo3 qn3 qc3] 62)) [[.bool ps1, .slice po1 pn1 pc1, .bool ps2, .slice po2 pn2 pc2, .bool ps3, .slice po3 pn3 pc3], [.bool qs1, .slice qo1 qn1 qc1, .bool qs2, .slice qo2 qn2 qc2, .bool qs3, .slice qo3 qn3 qc3]] := ar2 _ _ _ _ w
 replace Np1 := (Np1.below T0.below).drew
 replace Np3 := (Np3.below T0.below).drew
 replace Nq1 := (Nq1.below T0.below).drew
 replace Nq3 := (Nq3.below T0.below).drew
 have tok1 : True := trivial
 go_enter Tryz.func138, Tryz.ntmps138
 go_upto_region 1 with fail
 generalize ((w.alloc (.cells #[.bool ps1, .slice po1 pn1 pc1, .bool ps2, .slice po2 pn2 pc2, .bool ps3, .slice po3 pn3 pc3] 62)).alloc (.cells #[.bool qs1, .slice qo1 qn1 qc1, .bool qs2, .slice qo2 qn2 qc2, .bool qs3, .slice qo3 qn3 qc3] 62)) = W at *
 go_region_held3 (fun w' => w'.cell? ⟨w.heap.size, 0, none⟩ = some (.bool ps1) ∧ w'.cell? ⟨w.heap.size, 1, none⟩ = some (.slice po1 pn1 pc1) ∧ w'.cell? ⟨w.heap.size, 2, none⟩ = some (.bool ps2) ∧ w'.cell? ⟨w.heap.size, 3, none⟩ = some (.slice po2 pn2 pc2) ∧ w'.cell? ⟨w.heap.size, 4, none⟩ = some (.bool ps3) ∧ w'.cell? ⟨w.heap.size, 5, none⟩ = some (.slice po3 pn3 pc3) ∧ w'.cell? ⟨w.heap.size + 1, 0, none⟩ = some (.bool qs1) ∧ w'.cell? ⟨w.heap.size + 1, 1, none⟩ = some (.slice qo1 qn1 qc1) ∧ w'.cell? ⟨w.heap.size + 1, 2, none⟩ = some (.bool qs2) ∧ w'.cell? ⟨w.heap.size + 1, 3, none⟩ = some (.slice qo2 qn2 qc2) ∧ w'.cell? ⟨w.heap.size + 1, 4, none⟩ = some (.bool qs3) ∧ w'.cell? ⟨w.heap.size + 1, 5, none⟩ = some (.slice qo3 qn3 qc3)) (first | (with_reducible exact m2_cells T0) | (with_reducible exact m2_cells T0.drew))
   (first
     | (go_at_call 105; have _t := tok1; refine (mul_any ps1 qs3 po1 qo3 pn1 qn3 pc1 qc3 (k) pd1 qd3 _ _ _ Np1 Nq3 (by omega)).mono ?_; rintro e w1 ⟨fs, fo, fn, fc, fd, rfl, Nf, hB⟩; (first | (have T1 := T0.step hB) | (have T1 := T0.drew.step hB)); clear T0; have T0 := T1; clear T1; replace Np3 := Np3.below hB; replace Nq1 := Nq1.below hB; clear hB tok1 _t)
     | (go_at_call 105; refine (mul_any qs1 ps3 qo1 po3 qn1 pn3 qc1 pc3 (k) qd1 pd3 _ _ _ Nq1 Np3 (by omega)).mono ?_; rintro e w2 ⟨gs, go, gn, gc, gd, rfl, Ng, hB⟩; (first | (have T1 := T0.step hB) | (have T1 := T0.drew.step hB)); clear T0; have T0 := T1; clear T1; replace Nf := Nf.below hB; clear hB)
     | (go_at_call 52; refine (cmp_any fs gs fo go fn gn fc gc (k + k) fd gd _ _ _ Nf Ng (by omega)).mono ?_; rintro e w3 ⟨rfl, hB⟩; (first | (have T1 := T0.step hB) | (have T1 := T0.drew.step hB)); clear T0; have T0 := T1; clear T1; clear hB))
 all_goals have HB := T0.below
 all_goals clear T0
 all_goals go_wp2
 all_goals go_ret
 all_goals exact ⟨rfl, by first | exact HB | exact HB.drew⟩
set_option maxRecDepth 100000 in
set_option maxHeartbeats 2000000 in
theorem l3CmpY_any (ps1 ps2 ps3 : Bool) (po1 po2 po3 : Option Addr) (pn1 pc1 pn2 pc2 pn3 pc3 : Nat) (qs1 qs2 qs3 : Bool) (qo1 qo2 qo3 : Option Addr) (qn1 qc1 qn2 qc2 qn3 qc3 : Nat) (pd2 pd3 qd2 qd3 : List Int) (y z v t : Int) (k : Nat) (hk : k ≤ 1000) (w : World) (Np2 : IsNum w ps2 po2 pn2 pc2 pd2 y k) (Np3 : IsNum w ps3 po3 pn3 pc3 pd3 z k) (Nq2 : IsNum w qs2 qo2 qn2 qc2 qd2 v k) (Nq3 : IsNum w qs3 qo3 qn3 qc3 qd3 t k) : Calls Tryz.prog 84 #[.agg #[.bool ps1, .slice po1 pn1 pc1, .bool ps2, .slice po2 pn2 pc2, .bool ps3, .slice po3 pn3 pc3], .agg #[.bool qs1, .slice qo1 qn1 qc1, .bool qs2, .slice qo2 qn2 qc2, .bool qs3, .slice qo3 qn3 qc3]] w (VP (.int .i64 (cmpI (y * t) (v * z))) w) := by
 have T0 : ArgsB w ((w.alloc (.cells #[.bool ps1, .slice po1 pn1 pc1, .bool ps2, .slice po2 pn2 pc2, .bool ps3, .slice po3 pn3 pc3] 62)).alloc (.cells #[.bool qs1, .slice qo1 qn1 qc1, .bool qs2, .slice qo2 qn2 qc2, .bool qs3, .slice qo3 qn3 qc3] 62)) [[.bool ps1, .slice po1 pn1 pc1, .bool ps2, .slice po2 pn2 pc2, .bool ps3, .slice po3 pn3 pc3], [.bool qs1, .slice qo1 qn1 qc1, .bool qs2, .slice qo2 qn2 qc2, .bool qs3, .slice qo3 qn3 qc3]] := ar2 _ _ _ _ w
 replace Np2 := (Np2.below T0.below).drew
 replace Np3 := (Np3.below T0.below).drew
 replace Nq2 := (Nq2.below T0.below).drew
 replace Nq3 := (Nq3.below T0.below).drew
 have tok1 : True := trivial
 go_enter Tryz.func84, Tryz.ntmps84
 go_upto_region 1 with fail
 generalize ((w.alloc (.cells #[.bool ps1, .slice po1 pn1 pc1, .bool ps2, .slice po2 pn2 pc2, .bool ps3, .slice po3 pn3 pc3] 62)).alloc (.cells #[.bool qs1, .slice qo1 qn1 qc1, .bool qs2, .slice qo2 qn2 qc2, .bool qs3, .slice qo3 qn3 qc3] 62)) = W at *
 go_region_held3 (fun w' => w'.cell? ⟨w.heap.size, 0, none⟩ = some (.bool ps1) ∧ w'.cell? ⟨w.heap.size, 1, none⟩ = some (.slice po1 pn1 pc1) ∧ w'.cell? ⟨w.heap.size, 2, none⟩ = some (.bool ps2) ∧ w'.cell? ⟨w.heap.size, 3, none⟩ = some (.slice po2 pn2 pc2) ∧ w'.cell? ⟨w.heap.size, 4, none⟩ = some (.bool ps3) ∧ w'.cell? ⟨w.heap.size, 5, none⟩ = some (.slice po3 pn3 pc3) ∧ w'.cell? ⟨w.heap.size + 1, 0, none⟩ = some (.bool qs1) ∧ w'.cell? ⟨w.heap.size + 1, 1, none⟩ = some (.slice qo1 qn1 qc1) ∧ w'.cell? ⟨w.heap.size + 1, 2, none⟩ = some (.bool qs2) ∧ w'.cell? ⟨w.heap.size + 1, 3, none⟩ = some (.slice qo2 qn2 qc2) ∧ w'.cell? ⟨w.heap.size + 1, 4, none⟩ = some (.bool qs3) ∧ w'.cell? ⟨w.heap.size + 1, 5, none⟩ = some (.slice qo3 qn3 qc3)) (first | (with_reducible exact m2_cells T0) | (with_reducible exact m2_cells T0.drew))
   (first
     | (go_at_call 105; have _t := tok1; refine (mul_any ps2 qs3 po2 qo3 pn2 qn3 pc2 qc3 (k) pd2 qd3 _ _ _ Np2 Nq3 (by omega)).mono ?_; rintro e w1 ⟨fs, fo, fn, fc, fd, rfl, Nf, hB⟩; (first | (have T1 := T0.step hB) | (have T1 := T0.drew.step hB)); clear T0; have T0 := T1; clear T1; replace Np3 := Np3.below hB; replace Nq2 := Nq2.below hB; clear hB tok1 _t)
     | (go_at_call 105; refine (mul_any qs2 ps3 qo2 po3 qn2 pn3 qc2 pc3 (k) qd2 pd3 _ _ _ Nq2 Np3 (by omega)).mono ?_; rintro e w2 ⟨gs, go, gn, gc, gd, rfl, Ng, hB⟩; (first | (have T1 := T0.step hB) | (have T1 := T0.drew.step hB)); clear T0; have T0 := T1; clear T1; replace Nf := Nf.below hB; clear hB)
     | (go_at_call 52; refine (cmp_any fs gs fo go fn gn fc gc (k + k) fd gd _ _ _ Nf Ng (by omega)).mono ?_; rintro e w3 ⟨rfl, hB⟩; (first | (have T1 := T0.step hB) | (have T1 := T0.drew.step hB)); clear T0; have T0 := T1; clear T1; clear hB))
 all_goals have HB := T0.below
 all_goals clear T0
 all_goals go_wp2
 all_goals go_ret
 all_goals exact ⟨rfl, by first | exact HB | exact HB.drew⟩
set_option maxRecDepth 100000 in
set_option maxHeartbeats 2000000 in
theorem l3Cmp_any (ps1 ps2 ps3 : Bool) (po1 po2 po3 : Option Addr) (pn1 pc1 pn2 pc2 pn3 pc3 : Nat) (qs1 qs2 qs3 : Bool) (qo1 qo2 qo3 : Option Addr) (qn1 qc1 qn2 qc2 qn3 qc3 : Nat) (pd1 pd2 pd3 qd1 qd2 qd3 : List Int) (x y z u v t : Int) (k : Nat) (hk : k ≤ 1000) (w : World) (Np1 : IsNum w ps1 po1 pn1 pc1 pd1 x k) (Np2 : IsNum w ps2 po2 pn2 pc2 pd2 y k) (Np3 : IsNum w ps3 po3 pn3 pc3 pd3 z k) (Nq1 : IsNum w qs1 qo1 qn1 qc1 qd1 u k) (Nq2 : IsNum w qs2 qo2 qn2 qc2 qd2 v k) (Nq3 : IsNum w qs3 qo3 qn3 qc3 qd3 t k) : Calls Tryz.prog 116 #[.agg #[.bool ps1, .slice po1 pn1 pc1, .bool ps2, .slice po2 pn2 pc2, .bool ps3, .slice po3 pn3 pc3], .agg #[.bool qs1, .slice qo1 qn1 qc1, .bool qs2, .slice qo2 qn2 qc2, .bool qs3, .slice qo3 qn3 qc3]] w (VP (.int .i64 (ordI x y z u v t)) w) := by
 have T0 : ArgsB w ((w.alloc (.cells #[.bool ps1, .slice po1 pn1 pc1, .bool ps2, .slice po2 pn2 pc2, .bool ps3, .slice po3 pn3 pc3] 62)).alloc (.cells #[.bool qs1, .slice qo1 qn1 qc1, .bool qs2, .slice qo2 qn2 qc2, .bool qs3, .slice qo3 qn3 qc3] 62)) [[.bool ps1, .slice po1 pn1 pc1, .bool ps2, .slice po2 pn2 pc2, .bool ps3, .slice po3 pn3 pc3], [.bool qs1, .slice qo1 qn1 qc1, .bool qs2, .slice qo2 qn2 qc2, .bool qs3, .slice qo3 qn3 qc3]] := ar2 _ _ _ _ w
 replace Np1 := Np1.below T0.below
 replace Np2 := Np2.below T0.below
 replace Np3 := Np3.below T0.below
 replace Nq1 := Nq1.below T0.below
 replace Nq2 := Nq2.below T0.below
 replace Nq3 := Nq3.below T0.below
 have HO : Hid (ordI x y z u v t = if cmpI (x * t) (u * z) = 0 then cmpI (y * t) (v * z) else cmpI (x * t) (u * z)) := rfl
 go_enter Tryz.func116, Tryz.ntmps116
 go_wp2_with fail
 generalize ((w.alloc (.cells #[.bool ps1, .slice po1 pn1 pc1, .bool ps2, .slice po2 pn2 pc2, .bool ps3, .slice po3 pn3 pc3] 62)).alloc (.cells #[.bool qs1, .slice qo1 qn1 qc1, .bool qs2, .slice qo2 qn2 qc2, .bool qs3, .slice qo3 qn3 qc3] 62)) = W at *
 refine (l3CmpX_any ps1 ps2 ps3 po1 po2 po3 pn1 pc1 pn2 pc2 pn3 pc3 qs1 qs2 qs3 qo1 qo2 qo3 qn1 qc1 qn2 qc2 qn3 qc3 pd1 pd3 qd1 qd3 x z u t k hk _ Np1 Np3 Nq1 Nq3).mono ?_
 rintro e w1 ⟨rfl, hB⟩
 replace T0 := T0.step hB
 replace Np1 := Np1.below hB
 replace Np2 := Np2.below hB
 replace Np3 := Np3.below hB
 replace Nq1 := Nq1.below hB
 replace Nq2 := Nq2.below hB
 replace Nq3 := Nq3.below hB
 clear hB
 generalize cmpI (x * t) (u * z) = a at *
 by_cases ha : a = 0
 · subst ha
   have X0 : Blk _ w.heap.size _ := T0.b 0 rfl; have Y0 : Blk _ (w.heap.size + 1) _ := T0.b 1 rfl; obtain ⟨p0, p1, p2, p3, p4, p5⟩ := X0.cs6; obtain ⟨q0, q1, q2, q3, q4, q5⟩ := Y0.cs6; clear X0 Y0
   go_wp2_with fail
   refine (l3CmpY_any ps1 ps2 ps3 po1 po2 po3 pn1 pc1 pn2 pc2 pn3 pc3 qs1 qs2 qs3 qo1 qo2 qo3 qn1 qc1 qn2 qc2 qn3 qc3 pd2 pd3 qd2 qd3 y z v t k hk _ Np2 Np3 Nq2 Nq3).mono ?_
   rintro e w2 ⟨rfl, hB⟩
   have HB := (T0.step hB).below
   clear hB T0 p0 q0 p1 q1 p2 q2 p3 q3 p4 q4 p5 q5 Np1 Np2 Np3 Nq1 Nq2 Nq3
   go_wp2
   go_ret
   exact ⟨by rw [HO.out]; rfl, HB⟩
 · have ha' : (a == 0) = false := beq_eq_false_iff_ne.2 ha
   have HB := T0.below
   clear T0 Np1 Np2 Np3 Nq1 Nq2 Nq3
   go_wp2
   go_ret
   exact ⟨by rw [HO.out, if_neg ha]; rfl, HB⟩
theorem IsNum.step {w w' : World} {s : Bool} {ao : Option Addr} {n cap : Nat} {ds : List Int} {z : Int} {k : Nat} (h : IsNum w s ao n cap ds z k) (hb : Below w.heap.size w w') : IsNum w' s ao n cap ds z k := h.below hb
theorem IsNum.alloc {w : World} {s : Bool} {ao : Option Addr} {n cap : Nat} {ds : List Int} {z : Int} {k : Nat} (h : IsNum w s ao n cap ds z k) (o : Obj) : IsNum (w.alloc o) s ao n cap ds z k := h.below ((Below.refl _ _).alloc (Nat.le_refl _) o)
theorem Blk.set2 {W : World} {vs : List Value} {v0 v1 : Value} {g g' : Nat} (G : Blk W g' vs) (hg : g' ≠ g) : Blk ((W.setCell ⟨g, 0, none⟩ v0).setCell ⟨g, 1, none⟩ v1) g' vs := (G.setO (by exact hg) _).setO (by exact hg) _
theorem Blk.stored2 {W : World} {g : Nat} {z0 z1 : Value} (G : Blk W g [z0, z1]) (v0 v1 : Value) : Blk ((W.setCell ⟨g, 0, none⟩ v0).setCell ⟨g, 1, none⟩ v1) g [v0, v1] := (G.setI 0 (by simp) v0).setI 1 (by simp) v1
end Go.Proofs.YtibbjjlapglndaaGreat
