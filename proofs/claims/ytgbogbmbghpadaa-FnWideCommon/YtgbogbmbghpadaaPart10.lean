/- Part 10 of the walks that the proof leans on. -/
import Derived.Test.YtgbogbmbghpadaaPart8
import Derived.Deep.RegionHeld3
import Derived.Deep.RegionWith
import Derived.Test.YtgbogbmbghpadaaPart9
import Derived.Test.YtgbogbmbghpadaaPart3
/- The walk of the model's quotient and rest of numbers with signs. -/
namespace Go.Proofs.Ytgbogbmbghpadaa
open Go.RowKit
def Div2P (k : Nat) (x y : Int) (w : World) (e : Ending) (w' : World) : Prop :=
  ∃ (s2 : Bool) (o2 : Option Addr) (n2 c2 : Nat) (d2 : List Int) (s3 : Bool) (o3 : Option Addr) (n3 c3 : Nat) (d3 : List Int), e = .returned (.tuple #[.agg #[.bool s2, .slice o2 n2 c2], .agg #[.bool s3, .slice o3 n3 c3]]) ∧ IsNum w' s2 o2 n2 c2 d2 (x / y) (k + 3) ∧ IsNum w' s3 o3 n3 c3 d3 (x % y) (k + 3) ∧ Below w.heap.size w w'
theorem num_put {w : World} {s : Bool} {ao : Option Addr} {n cap : Nat} {ds : List Int} {z : Int} {k R : Nat} {p : Bool} {q : Option Addr} {q1 q2 : Nat} (h : IsNum w s ao n cap ds z k) (B : Blk w R [.bool p, .slice q q1 q2]) (u0 u1 : Value) : IsNum ((w.setCell ⟨R, 0, none⟩ u0).setCell ⟨R, 1, none⟩ u1) s ao n cap ds z k := by
  have h1 := h.rd.set u0 (B.c 0 rfl) (by intro x e; cases e)
  have B1 := B.setI 0 (by simp) u0
  have h2 := h1.set u1 (B1.c 1 rfl) (by intro x e; cases e)
  exact ⟨h.neg, h.len, h.cap, h2, h.nrm, h.val, h.le⟩
theorem num_more {w : World} {s : Bool} {ao : Option Addr} {n cap : Nat} {ds : List Int} {z : Int} {k k' : Nat} (h : IsNum w s ao n cap ds z k) (hk : k ≤ k') : IsNum w s ao n cap ds z k' := ⟨h.neg, h.len, h.cap, h.rd, h.nrm, h.val, Nat.le_trans h.le hk⟩
theorem num_drawn {w : World} {s : Bool} {ao : Option Addr} {n cap : Nat} {ds : List Int} {z : Int} {k : Nat} (h : IsNum w s ao n cap ds z k) : IsNum w.drew s ao n cap ds z k := ⟨h.neg, h.len, h.cap, h.rd, h.nrm, h.val, h.le⟩
theorem div_done {w W : World} {s2 s3 : Bool} {o2 o3 : Option Addr} {n2 c2 n3 c3 : Nat} {d2 d3 : List Int} {x y : Int} {k : Nat} (HB : Below w.heap.size w W) (NU : IsNum W s2 o2 n2 c2 d2 (x / y) (k + 3)) (NV : IsNum W s3 o3 n3 c3 d3 (x % y) (k + 3)) (C : Blk W (w.heap.size + 1 + 1) [.bool false, .slice none 0 0]) (D : Blk W (w.heap.size + 1 + 1 + 1) [.bool false, .slice none 0 0]) :
    Div2P k x y w (.returned (.tuple #[.agg #[.bool s2, .slice o2 n2 c2], .agg #[.bool s3, .slice o3 n3 c3]])) ((((W.setCell ⟨w.heap.size + 1 + 1, 0, none⟩ (.bool s2)).setCell ⟨w.heap.size + 1 + 1, 1, none⟩ (.slice o2 n2 c2)).setCell ⟨w.heap.size + 1 + 1 + 1, 0, none⟩ (.bool s3)).setCell ⟨w.heap.size + 1 + 1 + 1, 1, none⟩ (.slice o3 n3 c3)) := by
  have D' := (D.setO (p := ⟨w.heap.size + 1 + 1, 0, none⟩) (by simp) (.bool s2)).setO (p := ⟨w.heap.size + 1 + 1, 1, none⟩) (by simp) (.slice o2 n2 c2)
  refine ⟨s2, o2, n2, c2, d2, s3, o3, n3, c3, d3, rfl, num_put (num_put NU C _ _) D' _ _, num_put (num_put NV C _ _) D' _ _, ?_⟩
  exact (((HB.setCell (p := ⟨w.heap.size + 1 + 1, 0, none⟩) (by simp; omega) _).setCell (p := ⟨w.heap.size + 1 + 1, 1, none⟩) (by simp; omega) _).setCell (p := ⟨w.heap.size + 1 + 1 + 1, 0, none⟩) (by simp; omega) _).setCell (p := ⟨w.heap.size + 1 + 1 + 1, 1, none⟩) (by simp; omega) _
theorem div_drawn {w W : World} {k : Nat} {x y : Int} {e : Ending} (h : Div2P k x y w e W) : Div2P k x y w e W.drew := by
  obtain ⟨s2, o2, n2, c2, d2, s3, o3, n3, c3, d3, e, h1, h2, hB⟩ := h
  exact ⟨s2, o2, n2, c2, d2, s3, o3, n3, c3, d3, e, num_drawn h1, num_drawn h2, hB.drew⟩
theorem div_alloc {w W : World} {k : Nat} {x y : Int} {e : Ending} (h : Div2P k x y w e W) (o : Obj) : Div2P k x y w e (W.alloc o) := by
  obtain ⟨s2, o2, n2, c2, d2, s3, o3, n3, c3, d3, e, h1, h2, hB⟩ := h
  exact ⟨s2, o2, n2, c2, d2, s3, o3, n3, c3, d3, e, h1.below ((Below.refl _ _).alloc (Nat.le_refl _) o), h2.below ((Below.refl _ _).alloc (Nat.le_refl _) o), hB.alloc hB.size o⟩
set_option maxRecDepth 100000 in
set_option maxHeartbeats 4000000 in
theorem div_any (s t : Bool) (ao bo : Option Addr) (n m ca cb k : Nat) (xs ys : List Int) (x y : Int) (w : World) (hx : IsNum w s ao n ca xs x k) (hy : IsNum w t bo m cb ys y k) (hk : k ≤ 9000) (hy0 : y ≠ 0) :
    Calls Try.prog 40 #[.agg #[.bool s, .slice ao n ca], .agg #[.bool t, .slice bo m cb]] w (Div2P k x y w) := by
  obtain ⟨Q, R, eQ, eR, hQ0, hR0, hR1, hqr⟩ := div_parts x y hy0
  have DS := div_signs hy0 hR0 hR1 hqr
  have hs : Hid (s = decide (x < 0)) := hx.neg
  have ht : Hid (t = decide (y < 0)) := hy.neg
  have A := (((Blk.new w [.bool s, .slice ao n ca] 48 rfl).alloc (.cells #[.bool t, .slice bo m cb] 48)).alloc (.cells #[.bool false, .slice none 0 0] 48)).alloc (.cells #[.bool false, .slice none 0 0] 48)
  have B := ((Blk.new (w.alloc (.cells #[.bool s, .slice ao n ca] 48)) [.bool t, .slice bo m cb] 48 (g := w.heap.size + 1) (by simp)).alloc (.cells #[.bool false, .slice none 0 0] 48)).alloc (.cells #[.bool false, .slice none 0 0] 48)
  have C := (Blk.new ((w.alloc (.cells #[.bool s, .slice ao n ca] 48)).alloc (.cells #[.bool t, .slice bo m cb] 48)) [.bool false, .slice none 0 0] 48 (g := w.heap.size + 1 + 1) (by simp)).alloc (.cells #[.bool false, .slice none 0 0] 48)
  have D := Blk.new (((w.alloc (.cells #[.bool s, .slice ao n ca] 48)).alloc (.cells #[.bool t, .slice bo m cb] 48)).alloc (.cells #[.bool false, .slice none 0 0] 48)) [.bool false, .slice none 0 0] 48 (g := w.heap.size + 1 + 1 + 1) (by simp)
  have HB0 : Below w.heap.size w ((((w.alloc (.cells #[.bool s, .slice ao n ca] 48)).alloc (.cells #[.bool t, .slice bo m cb] 48)).alloc (.cells #[.bool false, .slice none 0 0] 48)).alloc (.cells #[.bool false, .slice none 0 0] 48)) := ((((Below.refl _ _).alloc (Nat.le_refl _) _).alloc (by simp) _).alloc (by simp; omega) _).alloc (by simp; omega) _
  replace hx := hx.below HB0
  replace hy := hy.below HB0
  have hyp : 0 < val ys := by rw [hy.val]; omega
  go_enter Try.func40, Try.ntmps40
  go_wp2_with fail
  refine (divAbs_any ao bo n m ca cb xs ys _ hx.len hy.len hx.nrm hy.nrm hx.rd hy.rd hx.cap (by have := hx.le; omega) (by have := hy.le; omega) hyp).mono ?_
  rintro e w1 ⟨qo, qn, qc, qs, ro, rn, rc, rs, rfl, ⟨a1, a2, a3, a4, a5, a6⟩, ⟨b1, b2, b3, b4, b5, b6⟩, hB⟩
  rw [hx.val, hy.val] at a5 b5
  rw [eQ] at a5
  rw [eR] at b5
  have hnk := hx.le
  replace hy := hy.below hB
  replace A := A.step hB; replace B := B.step hB; replace C := C.step hB; replace D := D.step hB
  have HB1 : Below w.heap.size w w1 := HB0.trans (hB.mono HB0.size)
  clear hB HB0 hx hyp
  have p0 := A.c 0 rfl; have p1 := A.c 1 rfl; have pl := A.lt; have q0 := B.c 0 rfl; have q1 := B.c 1 rfl; have ql := B.lt
  go_wp2_with fail
  refine (trim_any _ qo qn qc qs _ a1 a2 a4.1 a6 (by omega)).mono ?_
  rintro e w2 ⟨s2, o2, n2, c2, d2, rfl, t1, t2, t3, t4, t5, t6, t7, hB⟩
  have NU : IsNum w2 s2 o2 n2 c2 d2 (if s = t then Q else -Q) (k + 1) := num_of t1 t2 (by omega) t4 (t5.trans a5) (by rw [t6, a5]) t7 (by split <;> omega) (by intro hz; cases s <;> cases t <;> simp at hz ⊢ <;> omega)
  replace b6 := b6.below hB (Nat.le_refl _)
  replace hy := hy.below hB
  replace A := A.step hB; replace B := B.step hB; replace C := C.step hB; replace D := D.step hB
  have HB2 : Below w.heap.size w w2 := HB1.trans (hB.mono HB1.size)
  clear hB HB1 t1 t2 t3 t4 t5 t6 t7 a1 a2 a3 a4 a5 a6 p0 p1 pl q0 q1 ql
  have p0 := A.c 0 rfl; have p1 := A.c 1 rfl; have pl := A.lt; have q0 := B.c 0 rfl; have q1 := B.c 1 rfl; have ql := B.lt
  have hDU := D.lt
  have U := Blk.new w2 [.bool s2, .slice o2 n2 c2] 48 rfl
  have hal : Below w2.heap.size w2 (w2.alloc (.cells #[.bool s2, .slice o2 n2 c2] 48)) := (Below.refl _ _).alloc (Nat.le_refl _) _
  replace A := A.step hal; replace B := B.step hal; replace C := C.step hal; replace D := D.step hal
  replace NU := NU.below hal
  replace hy := hy.below hal
  replace b6 := b6.below hal (Nat.le_refl _)
  replace HB2 := HB2.alloc HB2.size (.cells #[.bool s2, .slice o2 n2 c2] 48)
  clear hal
  go_wp2_with fail
  refine (trim_any s ro rn rc rs _ b1 b2 b4.1 b6 (by omega)).mono ?_
  rintro e w3 ⟨s3, o3, n3, c3, d3, rfl, t1, t2, t3, t4, t5, t6, t7, hB⟩
  have NV : IsNum w3 s3 o3 n3 c3 d3 (if s then -R else R) (k + 1) := num_of t1 t2 (by omega) t4 (t5.trans b5) (by rw [t6, b5]) t7 (by split <;> omega) (by intro hz; cases s <;> simp at hz ⊢ <;> omega)
  replace hy := hy.below hB
  replace NU := NU.below hB
  replace A := A.step hB; replace B := B.step hB; replace C := C.step hB; replace D := D.step hB; replace U := U.step hB
  have HB3 : Below w.heap.size w w3 := HB2.trans (hB.mono HB2.size)
  have hUl := U.lt; have hBl := B.lt; have hCl := C.lt; have hDl := D.lt
  have nBU : w.heap.size + 1 + 1 + 1 < w2.heap.size := hDU
  clear hB HB2 t1 t2 t3 t4 t5 t6 t7 b1 b2 b3 b4 b5 b6 p0 p1 pl q0 q1 ql
  have q0 := B.c 0 rfl; have q1 := B.c 1 rfl; have ql := B.lt; have u0 := U.c 0 rfl; have uf0 := U.f 0 rfl; have u1 := U.c 1 rfl; have uf1 := U.f 1 rfl; have ul := U.lt; have c0 := C.c 0 rfl; have cf0 := C.f 0 rfl; have c1 := C.c 1 rfl; have cf1 := C.f 1 rfl; have cl := C.lt; have d0 := D.c 0 rfl; have df0 := D.f 0 rfl; have d1 := D.c 1 rfl; have df1 := D.f 1 rfl; have dl := D.lt
  have NU3 := NU; have NV3 := NV; have C3 := C; have D3 := D; have HB3' := HB3
  have V := Blk.new w3 [.bool s3, .slice o3 n3 c3] 48 rfl
  have hal : Below w3.heap.size w3 (w3.alloc (.cells #[.bool s3, .slice o3 n3 c3] 48)) := (Below.refl _ _).alloc (Nat.le_refl _) _
  replace B := B.step hal; replace C := C.step hal; replace D := D.step hal; replace U := U.step hal
  replace NU := NU.below hal
  replace NV := NV.below hal
  replace hy := hy.below hal
  have HB4 := HB3.alloc HB3.size (.cells #[.bool s3, .slice o3 n3 c3] 48)
  have nUV : w2.heap.size < w3.heap.size := hUl
  clear hal HB3
  have hneg := NV.neg
  by_cases hv : s3 = true
  · subst hv
    have es : s = true := by
      apply Decidable.byContradiction
      intro h
      rw [Bool.eq_false_iff.2 h] at hneg
      simp at hneg
      omega
    have hRp : 0 < R := by rw [es] at hneg; simp at hneg; exact hneg
    have hx0 : x < 0 := by have := hs.out; rw [es] at this; simpa using this.symm
    subst es
    obtain ⟨-, -, -, -, D5, D6⟩ := DS
    have J : ∀ W, Below (w3.alloc (.cells #[.bool true, .slice o3 n3 c3] 48)).heap.size (w3.alloc (.cells #[.bool true, .slice o3 n3 c3] 48)) W → (Blk W (w.heap.size + 1) [.bool t, .slice bo m cb] ∧ Blk W (w.heap.size + 1 + 1) [.bool false, .slice none 0 0] ∧ Blk W (w.heap.size + 1 + 1 + 1) [.bool false, .slice none 0 0] ∧ Blk W w2.heap.size [.bool s2, .slice o2 n2 c2] ∧ Blk W w3.heap.size [.bool true, .slice o3 n3 c3]) ∧ IsNum W s2 o2 n2 c2 d2 (if true = t then Q else -Q) (k + 1) ∧ IsNum W true o3 n3 c3 d3 (-R) (k + 1) ∧ IsNum W t bo m cb ys y k ∧ Below w.heap.size w W :=
      fun W h => ⟨⟨B.step h, C.step h, D.step h, U.step h, V.step h⟩, NU.below h, by simpa using NV.below h, hy.below h, HB4.trans (h.mono HB4.size)⟩
    clear NU NV NU3 NV3 C3 D3 HB3' A B C D U V HB4 hy hneg hs
    cases t
    · have hyp : 0 < y := by have := ht.out; simp at this; omega
      go_upto_region 8 with fail
      generalize w3.alloc (.cells #[.bool true, .slice o3 n3 c3] 48) = W0 at *
      obtain ⟨⟨jb, jc, jd, ju, jv⟩, jn, jr, jy, jB⟩ := J W0 (Below.refl _ _)
      clear u0 u1 uf0 uf1 ul q0 q1 ql c0 c1 cf0 cf1 cl d0 d1 df0 df1 dl
      have u0 := ju.c 0 rfl; have uf0 := ju.f 0 rfl; have u1 := ju.c 1 rfl; have uf1 := ju.f 1 rfl; have ul := ju.lt
      go_region_with ((first
        | (go_at_call 54; refine (int_any 1 _ (by decide) (by decide)).mono ?_; rintro e w5 ⟨s5, o5, n5, c5, d5, rfl, N5, hB⟩; have K5 : Below W0.heap.size W0 w5 := ((Below.refl _ _).drew).trans hB; obtain ⟨⟨ib, ic, id', iu, iv⟩, jn5, ir, iy, iB⟩ := J w5 K5; have h0 := iu.c 0 rfl; have hf0 := iu.f 0 rfl; have h1 := iu.c 1 rfl; have hf1 := iu.f 1 rfl; have hl := iu.lt; clear hB)
        | (go_at_call 70; refine (sub_any s2 s5 o2 o5 n2 n5 c2 c5 (k + 2) d2 d5 _ _ _ (num_more jn5 (by omega)) (num_more N5 (by omega)) (by omega)).mono ?_; rintro e w6 ⟨s6, o6, n6, c6, d6, rfl, N6, hB⟩; have K6 : Below W0.heap.size W0 w6 := K5.trans (hB.mono K5.size); obtain ⟨⟨lb, lc, ld, lu, lv⟩, ln, lr, ly, lB⟩ := J w6 K6; have i0 := lu.c 0 rfl; have if0 := lu.f 0 rfl; have i1 := lu.c 1 rfl; have if1 := lu.f 1 rfl; have il := lu.lt; clear hB)))
      all_goals have g1 : w.heap.size + 1 ≠ w2.heap.size := by omega
      all_goals have g2 : w.heap.size + 1 + 1 ≠ w2.heap.size := by omega
      all_goals have g3 : w.heap.size + 1 + 1 + 1 ≠ w2.heap.size := by omega
      all_goals have g4 : w3.heap.size ≠ w2.heap.size := by omega
      all_goals have B6 := ((lb.setO (p := ⟨w2.heap.size, 0, none⟩) (by exact g1) (.bool s6)).setO (p := ⟨w2.heap.size, 1, none⟩) (by exact g1) (.slice o6 n6 c6))
      all_goals have C6 := ((lc.setO (p := ⟨w2.heap.size, 0, none⟩) (by exact g2) (.bool s6)).setO (p := ⟨w2.heap.size, 1, none⟩) (by exact g2) (.slice o6 n6 c6))
      all_goals have D6' := ((ld.setO (p := ⟨w2.heap.size, 0, none⟩) (by exact g3) (.bool s6)).setO (p := ⟨w2.heap.size, 1, none⟩) (by exact g3) (.slice o6 n6 c6))
      all_goals have V6 := ((lv.setO (p := ⟨w2.heap.size, 0, none⟩) (by exact g4) (.bool s6)).setO (p := ⟨w2.heap.size, 1, none⟩) (by exact g4) (.slice o6 n6 c6))
      all_goals have M6 := num_put N6 lu (.bool s6) (.slice o6 n6 c6)
      all_goals have R6 := num_put lr lu (.bool s6) (.slice o6 n6 c6)
      all_goals have Y6 := num_put ly lu (.bool s6) (.slice o6 n6 c6)
      all_goals have U6 := (lu.setI 0 (by simp) (.bool s6)).setI 1 (by simp) (.slice o6 n6 c6)
      all_goals have L6 := (lB.setCell (p := ⟨w2.heap.size, 0, none⟩) (by simp; omega) (.bool s6)).setCell (p := ⟨w2.heap.size, 1, none⟩) (by simp; omega) (.slice o6 n6 c6)
      all_goals clear u0 u1 uf0 uf1 ul h0 h1 hf0 hf1 hl i0 i1 if0 if1 il jb jc jd ju jv jn jr jy jB ib ic id' iu iv jn5 ir iy iB lb lc ld lu lv ln lr ly lB N5 N6 K5 K6 J
      all_goals generalize ((w6.setCell ⟨w2.heap.size, 0, none⟩ (.bool s6)).setCell ⟨w2.heap.size, 1, none⟩ (.slice o6 n6 c6)) = W6 at *
      all_goals (have v0 := V6.c 0 rfl; have v1 := V6.c 1 rfl; have vl := V6.lt; have x0 := B6.c 0 rfl; have x1 := B6.c 1 rfl; have xl := B6.lt)
      all_goals go_wp2_with fail
      all_goals refine (add_any true false o3 bo n3 m c3 cb (k + 1) d3 ys _ _ _ R6 (num_more Y6 (by omega)) (by omega)).mono ?_
      all_goals rintro e w7 ⟨s7, o7, n7, c7, d7, rfl, N7, hB⟩
      all_goals (replace C6 := C6.step hB; replace D6' := D6'.step hB; replace V6 := V6.step hB; replace U6 := U6.step hB; replace M6 := M6.below hB; replace L6 := L6.trans (hB.mono L6.size))
      all_goals clear hB v0 v1 vl x0 x1 xl
      all_goals have g5 : w.heap.size + 1 + 1 ≠ w3.heap.size := by omega
      all_goals have g6 : w.heap.size + 1 + 1 + 1 ≠ w3.heap.size := by omega
      all_goals have g7 : w2.heap.size ≠ w3.heap.size := by omega
      all_goals (have v0 := V6.c 0 rfl; have vf0 := V6.f 0 rfl; have v1 := V6.c 1 rfl; have vf1 := V6.f 1 rfl; have vl := V6.lt)
      all_goals have C7 := ((C6.setO (p := ⟨w3.heap.size, 0, none⟩) (by exact g5) (.bool s7)).setO (p := ⟨w3.heap.size, 1, none⟩) (by exact g5) (.slice o7 n7 c7))
      all_goals have D7 := ((D6'.setO (p := ⟨w3.heap.size, 0, none⟩) (by exact g6) (.bool s7)).setO (p := ⟨w3.heap.size, 1, none⟩) (by exact g6) (.slice o7 n7 c7))
      all_goals have U7 := ((U6.setO (p := ⟨w3.heap.size, 0, none⟩) (by exact g7) (.bool s7)).setO (p := ⟨w3.heap.size, 1, none⟩) (by exact g7) (.slice o7 n7 c7))
      all_goals have M7 := num_put M6 V6 (.bool s7) (.slice o7 n7 c7)
      all_goals have P7 := num_put N7 V6 (.bool s7) (.slice o7 n7 c7)
      all_goals have L7 := (L6.setCell (p := ⟨w3.heap.size, 0, none⟩) (by simp; omega) (.bool s7)).setCell (p := ⟨w3.heap.size, 1, none⟩) (by simp; omega) (.slice o7 n7 c7)
      all_goals obtain ⟨E1, E2⟩ := D5 hx0 hRp hyp
      all_goals rw [show (if true = false then Q else -Q) - 1 = x / y by rw [E1]; simp] at M7
      all_goals rw [show -R + y = x % y by rw [E2]] at P7
      all_goals have F := div_done (k := k) L7 M7 (num_more P7 (Nat.le_succ _)) C7 D7
      all_goals (have c0 := C7.c 0 rfl; have cf0 := C7.f 0 rfl; have c1 := C7.c 1 rfl; have cf1 := C7.f 1 rfl; have cl := C7.lt; have d0 := D7.c 0 rfl; have df0 := D7.f 0 rfl; have d1 := D7.c 1 rfl; have df1 := D7.f 1 rfl; have dl := D7.lt; have u0 := U7.c 0 rfl; have u1 := U7.c 1 rfl; have ul := U7.lt)
      all_goals clear C6 D6' V6 U6 M6 L6 C7 D7 U7 M7 P7 L7 N7 g1 g2 g3 g4 g5 g6 g7
      all_goals go_wp2
      all_goals go_region
      all_goals go_wp2
      all_goals refine bodyPost_ret (v := .tuple #[.agg #[.bool s6, .slice o6 n6 c6], .agg #[.bool s7, .slice o7 n7 c7]]) (by simp [results, Try.results40, go_sem, c0, c1, d0, d1]) rfl ?_
      all_goals exact div_drawn F
    · have hyp : y < 0 := by have := ht.out; simpa using this.symm
      go_upto_region 6 with fail
      generalize w3.alloc (.cells #[.bool true, .slice o3 n3 c3] 48) = W0 at *
      obtain ⟨⟨jb, jc, jd, ju, jv⟩, jn, jr, jy, jB⟩ := J W0 (Below.refl _ _)
      clear u0 u1 uf0 uf1 ul q0 q1 ql c0 c1 cf0 cf1 cl d0 d1 df0 df1 dl
      have u0 := ju.c 0 rfl; have uf0 := ju.f 0 rfl; have u1 := ju.c 1 rfl; have uf1 := ju.f 1 rfl; have ul := ju.lt
      go_region_with ((first
        | (go_at_call 54; refine (int_any 1 _ (by decide) (by decide)).mono ?_; rintro e w5 ⟨s5, o5, n5, c5, d5, rfl, N5, hB⟩; have K5 : Below W0.heap.size W0 w5 := ((Below.refl _ _).drew).trans hB; obtain ⟨⟨ib, ic, id', iu, iv⟩, jn5, ir, iy, iB⟩ := J w5 K5; have h0 := iu.c 0 rfl; have hf0 := iu.f 0 rfl; have h1 := iu.c 1 rfl; have hf1 := iu.f 1 rfl; have hl := iu.lt; clear hB)
        | (go_at_call 29; refine (add_any s2 s5 o2 o5 n2 n5 c2 c5 (k + 2) d2 d5 _ _ _ (num_more jn5 (by omega)) (num_more N5 (by omega)) (by omega)).mono ?_; rintro e w6 ⟨s6, o6, n6, c6, d6, rfl, N6, hB⟩; have K6 : Below W0.heap.size W0 w6 := K5.trans (hB.mono K5.size); obtain ⟨⟨lb, lc, ld, lu, lv⟩, ln, lr, ly, lB⟩ := J w6 K6; have i0 := lu.c 0 rfl; have if0 := lu.f 0 rfl; have i1 := lu.c 1 rfl; have if1 := lu.f 1 rfl; have il := lu.lt; clear hB)))
      all_goals have g1 : w.heap.size + 1 ≠ w2.heap.size := by omega
      all_goals have g2 : w.heap.size + 1 + 1 ≠ w2.heap.size := by omega
      all_goals have g3 : w.heap.size + 1 + 1 + 1 ≠ w2.heap.size := by omega
      all_goals have g4 : w3.heap.size ≠ w2.heap.size := by omega
      all_goals have B6 := ((lb.setO (p := ⟨w2.heap.size, 0, none⟩) (by exact g1) (.bool s6)).setO (p := ⟨w2.heap.size, 1, none⟩) (by exact g1) (.slice o6 n6 c6))
      all_goals have C6 := ((lc.setO (p := ⟨w2.heap.size, 0, none⟩) (by exact g2) (.bool s6)).setO (p := ⟨w2.heap.size, 1, none⟩) (by exact g2) (.slice o6 n6 c6))
      all_goals have D6' := ((ld.setO (p := ⟨w2.heap.size, 0, none⟩) (by exact g3) (.bool s6)).setO (p := ⟨w2.heap.size, 1, none⟩) (by exact g3) (.slice o6 n6 c6))
      all_goals have V6 := ((lv.setO (p := ⟨w2.heap.size, 0, none⟩) (by exact g4) (.bool s6)).setO (p := ⟨w2.heap.size, 1, none⟩) (by exact g4) (.slice o6 n6 c6))
      all_goals have M6 := num_put N6 lu (.bool s6) (.slice o6 n6 c6)
      all_goals have R6 := num_put lr lu (.bool s6) (.slice o6 n6 c6)
      all_goals have Y6 := num_put ly lu (.bool s6) (.slice o6 n6 c6)
      all_goals have U6 := (lu.setI 0 (by simp) (.bool s6)).setI 1 (by simp) (.slice o6 n6 c6)
      all_goals have L6 := (lB.setCell (p := ⟨w2.heap.size, 0, none⟩) (by simp; omega) (.bool s6)).setCell (p := ⟨w2.heap.size, 1, none⟩) (by simp; omega) (.slice o6 n6 c6)
      all_goals clear u0 u1 uf0 uf1 ul h0 h1 hf0 hf1 hl i0 i1 if0 if1 il jb jc jd ju jv jn jr jy jB ib ic id' iu iv jn5 ir iy iB lb lc ld lu lv ln lr ly lB N5 N6 K5 K6 J
      all_goals generalize ((w6.setCell ⟨w2.heap.size, 0, none⟩ (.bool s6)).setCell ⟨w2.heap.size, 1, none⟩ (.slice o6 n6 c6)) = W6 at *
      all_goals (have v0 := V6.c 0 rfl; have v1 := V6.c 1 rfl; have vl := V6.lt; have x0 := B6.c 0 rfl; have x1 := B6.c 1 rfl; have xl := B6.lt)
      all_goals go_wp2_with fail
      all_goals refine (sub_any true true o3 bo n3 m c3 cb (k + 1) d3 ys _ _ _ R6 (num_more Y6 (by omega)) (by omega)).mono ?_
      all_goals rintro e w7 ⟨s7, o7, n7, c7, d7, rfl, N7, hB⟩
      all_goals (replace C6 := C6.step hB; replace D6' := D6'.step hB; replace V6 := V6.step hB; replace U6 := U6.step hB; replace M6 := M6.below hB; replace L6 := L6.trans (hB.mono L6.size))
      all_goals clear hB v0 v1 vl x0 x1 xl
      all_goals have g5 : w.heap.size + 1 + 1 ≠ w3.heap.size := by omega
      all_goals have g6 : w.heap.size + 1 + 1 + 1 ≠ w3.heap.size := by omega
      all_goals have g7 : w2.heap.size ≠ w3.heap.size := by omega
      all_goals (have v0 := V6.c 0 rfl; have vf0 := V6.f 0 rfl; have v1 := V6.c 1 rfl; have vf1 := V6.f 1 rfl; have vl := V6.lt)
      all_goals have C7 := ((C6.setO (p := ⟨w3.heap.size, 0, none⟩) (by exact g5) (.bool s7)).setO (p := ⟨w3.heap.size, 1, none⟩) (by exact g5) (.slice o7 n7 c7))
      all_goals have D7 := ((D6'.setO (p := ⟨w3.heap.size, 0, none⟩) (by exact g6) (.bool s7)).setO (p := ⟨w3.heap.size, 1, none⟩) (by exact g6) (.slice o7 n7 c7))
      all_goals have U7 := ((U6.setO (p := ⟨w3.heap.size, 0, none⟩) (by exact g7) (.bool s7)).setO (p := ⟨w3.heap.size, 1, none⟩) (by exact g7) (.slice o7 n7 c7))
      all_goals have M7 := num_put M6 V6 (.bool s7) (.slice o7 n7 c7)
      all_goals have P7 := num_put N7 V6 (.bool s7) (.slice o7 n7 c7)
      all_goals have L7 := (L6.setCell (p := ⟨w3.heap.size, 0, none⟩) (by simp; omega) (.bool s7)).setCell (p := ⟨w3.heap.size, 1, none⟩) (by simp; omega) (.slice o7 n7 c7)
      all_goals obtain ⟨E1, E2⟩ := D6 hx0 hRp hyp
      all_goals rw [show (if True then Q else -Q) + 1 = x / y by rw [E1]; simp] at M7
      all_goals rw [show -R - y = x % y by rw [E2]] at P7
      all_goals have F := div_done (k := k) L7 M7 (num_more P7 (Nat.le_succ _)) C7 D7
      all_goals (have c0 := C7.c 0 rfl; have cf0 := C7.f 0 rfl; have c1 := C7.c 1 rfl; have cf1 := C7.f 1 rfl; have cl := C7.lt; have d0 := D7.c 0 rfl; have df0 := D7.f 0 rfl; have d1 := D7.c 1 rfl; have df1 := D7.f 1 rfl; have dl := D7.lt; have u0 := U7.c 0 rfl; have u1 := U7.c 1 rfl; have ul := U7.lt)
      all_goals clear C6 D6' V6 U6 M6 L6 C7 D7 U7 M7 P7 L7 N7 g1 g2 g3 g4 g5 g6 g7
      all_goals go_wp2
      all_goals go_region
      all_goals go_wp2
      all_goals refine bodyPost_ret (v := .tuple #[.agg #[.bool s6, .slice o6 n6 c6], .agg #[.bool s7, .slice o7 n7 c7]]) (by simp [results, Try.results40, go_sem, c0, c1, d0, d1]) rfl ?_
      all_goals exact div_drawn F
  · have hv := Bool.eq_false_iff.2 hv
    subst hv
    have hres : (if s = t then Q else -Q) = x / y ∧ (if s then -R else R) = x % y := by
      have hs := hs.out
      have ht := ht.out
      obtain ⟨D1, D2, D3, D4, -, -⟩ := DS
      by_cases hx0 : x < 0
      · have es : s = true := by rw [hs]; simp [hx0]
        have hR : R = 0 := by rw [es] at hneg; simp at hneg; omega
        by_cases hy1 : y < 0
        · have et : t = true := by rw [ht]; simp [hy1]
          obtain ⟨e1, e2⟩ := D4 hx0 hR hy1
          rw [e1, e2, es, et, hR]; simp
        · have et : t = false := by rw [ht]; simp [hy1]
          obtain ⟨e1, e2⟩ := D3 hx0 hR (by omega)
          rw [e1, e2, es, et, hR]; simp
      · have es : s = false := by rw [hs]; simp [hx0]
        by_cases hy1 : y < 0
        · have et : t = true := by rw [ht]; simp [hy1]
          obtain ⟨e1, e2⟩ := D2 (by omega) hy1
          rw [e1, e2, es, et]; simp
        · have et : t = false := by rw [ht]; simp [hy1]
          obtain ⟨e1, e2⟩ := D1 (by omega) (by omega)
          rw [e1, e2, es, et]; simp
    rw [hres.1] at NU3
    rw [hres.2] at NV3
    have F := div_alloc (div_done HB3' (num_more NU3 (Nat.add_le_add_left (by decide) k)) (num_more NV3 (Nat.add_le_add_left (by decide) k)) C3 D3) (.cells #[.bool false, .slice o3 n3 c3] 48)
    clear hres hneg DS NU NV NU3 NV3 C3 D3 HB3' A B C D U V HB4
    go_wp2
    go_region
    all_goals go_wp2
    all_goals refine bodyPost_ret (v := .tuple #[.agg #[.bool s2, .slice o2 n2 c2], .agg #[.bool false, .slice o3 n3 c3]]) (by simp [results, Try.results40, go_sem, World.cell?_alloc_past, c0, c1, d0, d1, cl, dl]) rfl ?_
    all_goals exact div_drawn F
end Go.Proofs.Ytgbogbmbghpadaa

/- Two numbers of digits laid behind the arguments; the model's tell of a number, its value known. -/
namespace Go.Proofs.Ytgbogbmbghpadaa
open Go.RowKit
theorem IsNum.step {w w' : World} {s : Bool} {ao : Option Addr} {n cap : Nat} {ds : List Int} {z : Int} {k : Nat} (h : IsNum w s ao n cap ds z k) (hb : Below w.heap.size w w') : IsNum w' s ao n cap ds z k := h.below hb
theorem IsNum.alloc {w : World} {s : Bool} {ao : Option Addr} {n cap : Nat} {ds : List Int} {z : Int} {k : Nat} (h : IsNum w s ao n cap ds z k) (o : Obj) : IsNum (w.alloc o) s ao n cap ds z k := h.below ((Below.refl _ _).alloc (Nat.le_refl _) o)
theorem ArgsB.set2 {w W : World} {vss : List (List Value)} (h : ArgsB w W vss) {g : Nat} (hg : w.heap.size + vss.length ≤ g) (v0 v1 : Value) : ArgsB w ((W.setCell ⟨g, 0, none⟩ v0).setCell ⟨g, 1, none⟩ v1) vss := (h.set (by exact hg) _).set (by exact hg) _
theorem Blk.set2 {W : World} {vs : List Value} {v0 v1 : Value} {g g' : Nat} (G : Blk W g' vs) (hg : g' ≠ g) : Blk ((W.setCell ⟨g, 0, none⟩ v0).setCell ⟨g, 1, none⟩ v1) g' vs := (G.setO (by exact hg) _).setO (by exact hg) _
theorem Blk.stored2 {W : World} {g : Nat} {z0 z1 : Value} (G : Blk W g [z0, z1]) (v0 v1 : Value) : Blk ((W.setCell ⟨g, 0, none⟩ v0).setCell ⟨g, 1, none⟩ v1) g [v0, v1] := (G.setI 0 (by simp) v0).setI 1 (by simp) v1
/-- Two numbers of digits, each in a block of its own. -/
def CutQ (w wx : World) (vss : List (List Value)) (z z' : Int) (k : Nat) (p q : Value) : Prop :=
  ∃ (g g' : Nat) (s : Bool) (o : Option Addr) (n c : Nat) (ds : List Int) (s' : Bool) (o' : Option Addr) (n' c' : Nat) (ds' : List Int), p = .pointer (some ⟨g, 0, none⟩) ∧ q = .pointer (some ⟨g', 0, none⟩) ∧ g ≠ g' ∧ w.heap.size + vss.length ≤ g ∧ w.heap.size + vss.length ≤ g' ∧ ArgsB w wx vss ∧ Blk wx g [.bool s, .slice o n c] ∧ Blk wx g' [.bool s', .slice o' n' c'] ∧ IsNum wx s o n c ds z k ∧ IsNum wx s' o' n' c' ds' z' k
theorem cutQ_nn {w X : World} {vss : List (List Value)} {z z' : Int} {k : Nat} {s : Bool} {o : Option Addr} {n c : Nat} {ds : List Int} {s' : Bool} {o' : Option Addr} {n' c' : Nat} {ds' : List Int} {T T' : TypeId} (h : ArgsB w X vss) (hl : w.heap.size + vss.length ≤ X.heap.size) (N : IsNum X s o n c ds z k) (N' : IsNum X s' o' n' c' ds' z' k) : CutQ w ((X.alloc (.cells #[.bool s, .slice o n c] T)).alloc (.cells #[.bool s', .slice o' n' c'] T')) vss z z' k (.pointer (some ⟨X.heap.size, 0, none⟩)) (.pointer (some ⟨X.heap.size + 1, 0, none⟩)) :=
  ⟨_, _, s, o, n, c, ds, s', o', n', c', ds', rfl, rfl, by omega, hl, by omega, (h.alloc _).alloc _, (Blk.new X [.bool s, .slice o n c] _ rfl).alloc _, Blk.new _ [.bool s', .slice o' n' c'] _ (by simp), (N.alloc _).alloc _, (N'.alloc _).alloc _⟩
theorem cutQ_nn' {w X : World} {vss : List (List Value)} {z z' : Int} {k : Nat} {s : Bool} {o : Option Addr} {n c : Nat} {ds : List Int} {s' : Bool} {o' : Option Addr} {n' c' : Nat} {ds' : List Int} {T T' : TypeId} (h : ArgsB w X vss) (hl : w.heap.size + vss.length ≤ X.heap.size) (N : IsNum X s o n c ds z k) (N' : IsNum X s' o' n' c' ds' z' k) : CutQ w ((X.alloc (.cells #[.bool s', .slice o' n' c'] T')).alloc (.cells #[.bool s, .slice o n c] T)) vss z z' k (.pointer (some ⟨X.heap.size + 1, 0, none⟩)) (.pointer (some ⟨X.heap.size, 0, none⟩)) :=
  ⟨_, _, s, o, n, c, ds, s', o', n', c', ds', rfl, rfl, by omega, by omega, hl, (h.alloc _).alloc _, Blk.new _ [.bool s, .slice o n c] _ (by simp), (Blk.new X [.bool s', .slice o' n' c'] _ rfl).alloc _, (N.alloc _).alloc _, (N'.alloc _).alloc _⟩
theorem cutQ_sn {w X : World} {vss : List (List Value)} {z z' : Int} {k : Nat} {s : Bool} {o : Option Addr} {n c : Nat} {ds : List Int} {s' : Bool} {o' : Option Addr} {n' c' : Nat} {ds' : List Int} {T' : TypeId} {g : Nat} {p : Bool} {r : Option Addr} {r1 r2 : Nat} (h : ArgsB w X vss) (hl : w.heap.size + vss.length ≤ X.heap.size) (N : IsNum X s o n c ds z k) (N' : IsNum X s' o' n' c' ds' z' k) (G : Blk X g [.bool p, .slice r r1 r2]) (hg : w.heap.size + vss.length ≤ g) : CutQ w (((X.setCell ⟨g, 0, none⟩ (.bool s)).setCell ⟨g, 1, none⟩ (.slice o n c)).alloc (.cells #[.bool s', .slice o' n' c'] T')) vss z z' k (.pointer (some ⟨g, 0, none⟩)) (.pointer (some ⟨X.heap.size, 0, none⟩)) :=
  ⟨_, _, s, o, n, c, ds, s', o', n', c', ds', rfl, rfl, by have := G.lt; omega, hg, hl, (h.set2 hg _ _).alloc _, (G.stored2 _ _).alloc _, Blk.new _ [.bool s', .slice o' n' c'] _ (by simp), (num_put N G _ _).alloc _, (num_put N' G _ _).alloc _⟩
theorem cutQ_sn' {w X : World} {vss : List (List Value)} {z z' : Int} {k : Nat} {s : Bool} {o : Option Addr} {n c : Nat} {ds : List Int} {s' : Bool} {o' : Option Addr} {n' c' : Nat} {ds' : List Int} {T : TypeId} {g : Nat} {p : Bool} {r : Option Addr} {r1 r2 : Nat} (h : ArgsB w X vss) (hl : w.heap.size + vss.length ≤ X.heap.size) (N : IsNum X s o n c ds z k) (N' : IsNum X s' o' n' c' ds' z' k) (G : Blk X g [.bool p, .slice r r1 r2]) (hg : w.heap.size + vss.length ≤ g) : CutQ w (((X.setCell ⟨g, 0, none⟩ (.bool s')).setCell ⟨g, 1, none⟩ (.slice o' n' c')).alloc (.cells #[.bool s, .slice o n c] T)) vss z z' k (.pointer (some ⟨X.heap.size, 0, none⟩)) (.pointer (some ⟨g, 0, none⟩)) :=
  ⟨_, _, s, o, n, c, ds, s', o', n', c', ds', rfl, rfl, by have := G.lt; omega, hl, hg, (h.set2 hg _ _).alloc _, Blk.new _ [.bool s, .slice o n c] _ (by simp), (G.stored2 _ _).alloc _, (num_put N G _ _).alloc _, (num_put N' G _ _).alloc _⟩
theorem cutQ_ss {w X : World} {vss : List (List Value)} {z z' : Int} {k : Nat} {s : Bool} {o : Option Addr} {n c : Nat} {ds : List Int} {s' : Bool} {o' : Option Addr} {n' c' : Nat} {ds' : List Int} {g g' : Nat} {p p' : Bool} {r r' : Option Addr} {r1 r2 r1' r2' : Nat} (h : ArgsB w X vss) (N : IsNum X s o n c ds z k) (N' : IsNum X s' o' n' c' ds' z' k) (G : Blk X g [.bool p, .slice r r1 r2]) (G' : Blk X g' [.bool p', .slice r' r1' r2']) (hg : w.heap.size + vss.length ≤ g) (hg' : w.heap.size + vss.length ≤ g') (hne : g ≠ g') : CutQ w ((((X.setCell ⟨g, 0, none⟩ (.bool s)).setCell ⟨g, 1, none⟩ (.slice o n c)).setCell ⟨g', 0, none⟩ (.bool s')).setCell ⟨g', 1, none⟩ (.slice o' n' c')) vss z z' k (.pointer (some ⟨g, 0, none⟩)) (.pointer (some ⟨g', 0, none⟩)) :=
  ⟨_, _, s, o, n, c, ds, s', o', n', c', ds', rfl, rfl, hne, hg, hg', (h.set2 hg _ _).set2 hg' _ _, (G.stored2 _ _).set2 hne, (G'.set2 (fun e => hne e.symm)).stored2 _ _, num_put (num_put N G _ _) (G'.set2 (fun e => hne e.symm)) _ _, num_put (num_put N' G _ _) (G'.set2 (fun e => hne e.symm)) _ _⟩
theorem tellP_VP {z : Int} {w w' : World} {e : Ending} (h : TellP z w e w') : VP (tellV z) w e w' := by
  rcases h.2 with ⟨t, a3, a2, a1, a0, rfl, h3, h2, h1, h0, hz⟩ | ⟨t, rfl⟩
  · obtain ⟨rfl, rfl, rfl, rfl⟩ := wd_of h3 h2 h1 h0 hz
    exact ⟨by unfold tellV; rw [if_pos t], h.1⟩
  · exact ⟨by unfold tellV; rw [if_neg (by simp [t]), W40], h.1⟩
theorem toW_det (s : Bool) (ao : Option Addr) (n cap : Nat) (ds : List Int) (z : Int) (k : Nat) (w : World) (h : IsNum w s ao n cap ds z k) (hk : k ≤ 1000000) :
    Calls Try.prog 28 #[.agg #[.bool s, .slice ao n cap]] w (VP (tellV z) w) := (toW_any s ao n cap ds z k w h hk).mono fun _ _ => tellP_VP
theorem sd_cells {a3 a2 a1 a0 b3 b2 b1 b0 : Int} {w W : World} {cs : List (List Value)} (h : ArgsB w W ([.int .u64 a3, .int .u64 a2, .int .u64 a1, .int .u64 a0] :: [.int .u64 b3, .int .u64 b2, .int .u64 b1, .int .u64 b0] :: cs)) : (fun w' => w'.cell? ⟨w.heap.size, 0, none⟩ = some (.int .u64 a3) ∧ w'.cell? ⟨w.heap.size, 1, none⟩ = some (.int .u64 a2) ∧ w'.cell? ⟨w.heap.size, 2, none⟩ = some (.int .u64 a1) ∧ w'.cell? ⟨w.heap.size, 3, none⟩ = some (.int .u64 a0) ∧ w'.cell? ⟨w.heap.size + 1, 0, none⟩ = some (.int .u64 b3) ∧ w'.cell? ⟨w.heap.size + 1, 1, none⟩ = some (.int .u64 b2) ∧ w'.cell? ⟨w.heap.size + 1, 2, none⟩ = some (.int .u64 b1) ∧ w'.cell? ⟨w.heap.size + 1, 3, none⟩ = some (.int .u64 b0)) W :=
  ⟨(h.b 0 rfl).c 0 rfl, (h.b 0 rfl).c 1 rfl, (h.b 0 rfl).c 2 rfl, (h.b 0 rfl).c 3 rfl, (h.b 1 rfl).c 0 rfl, (h.b 1 rfl).c 1 rfl, (h.b 1 rfl).c 2 rfl, (h.b 1 rfl).c 3 rfl⟩
end Go.Proofs.Ytgbogbmbghpadaa

/- The walk of the model's quotient and rest of two numbers of four words. -/
namespace Go.Proofs.Ytgbogbmbghpadaa
open Go.RowKit
set_option maxRecDepth 100000 in
set_option maxHeartbeats 4000000 in
theorem specDiv_any (a3 a2 a1 a0 b3 b2 b1 b0 : Int) (ha3 : Word a3) (ha2 : Word a2) (ha1 : Word a1) (ha0 : Word a0) (hb3 : Word b3) (hb2 : Word b2) (hb1 : Word b1) (hb0 : Word b0) (w : World) : Calls Try.prog 15 #[.agg #[.int .u64 a3, .int .u64 a2, .int .u64 a1, .int .u64 a0], .agg #[.int .u64 b3, .int .u64 b2, .int .u64 b1, .int .u64 b0]] w (VP (divV (sw a3 a2 a1 a0) (sw b3 b2 b1 b0)) w) := by
  have T0 := id_args a3 a2 a1 a0 b3 b2 b1 b0 w
  have EZ := eqZ4 b3 b2 b1 b0
  rw [zero4 hb3 hb2 hb1 hb0] at EZ
  have zb := sw_size hb3 hb2 hb1 hb0
  by_cases hb : sw b3 b2 b1 b0 = 0
  · have HV : Hid (divV (sw a3 a2 a1 a0) (sw b3 b2 b1 b0) = .tuple #[W4 0, W4 0, .bool false]) := by show _ = _; unfold divV; rw [if_pos hb]
    simp only [hb, decide_true] at EZ
    go_enter Try.func15, Try.ntmps15
    go_upto_region 2 with fail
    generalize ((((w.alloc (.cells #[.int .u64 a3, .int .u64 a2, .int .u64 a1, .int .u64 a0] 26)).alloc (.cells #[.int .u64 b3, .int .u64 b2, .int .u64 b1, .int .u64 b0] 26)).alloc (.cells #[.int .u64 0, .int .u64 0, .int .u64 0, .int .u64 0] 26)).alloc (.cells #[.int .u64 0, .int .u64 0, .int .u64 0, .int .u64 0] 26)) = W at *
    have o0 := (T0.b 2 rfl).c 0 rfl; have p0 := (T0.b 2 rfl).f 0 rfl; have r0 := (T0.b 3 rfl).c 0 rfl; have s0 := (T0.b 3 rfl).f 0 rfl; have o1 := (T0.b 2 rfl).c 1 rfl; have p1 := (T0.b 2 rfl).f 1 rfl; have r1 := (T0.b 3 rfl).c 1 rfl; have s1 := (T0.b 3 rfl).f 1 rfl; have o2 := (T0.b 2 rfl).c 2 rfl; have p2 := (T0.b 2 rfl).f 2 rfl; have r2 := (T0.b 3 rfl).c 2 rfl; have s2 := (T0.b 3 rfl).f 2 rfl; have o3 := (T0.b 2 rfl).c 3 rfl; have p3 := (T0.b 2 rfl).f 3 rfl; have r3 := (T0.b 3 rfl).c 3 rfl; have s3 := (T0.b 3 rfl).f 3 rfl
    have HB := T0.below
    go_wp2
    refine bodyPost_ret (v := .tuple #[.agg #[.int .u64 0, .int .u64 0, .int .u64 0, .int .u64 0], .agg #[.int .u64 0, .int .u64 0, .int .u64 0, .int .u64 0], .bool false]) (by simp [results, Try.results15, go_sem, o0, o1, o2, o3, r0, r1, r2, r3]) rfl ?_
    refine ⟨by rw [HV.out, W40], ?_⟩
    repeat' (refine Below.setCell ?_ (by simp; try omega) _)
    exact HB
  · simp only [hb, decide_false] at EZ
    have FA := from_any a3 a2 a1 a0 ha3 ha2 ha1 ha0
    have FB := from_any b3 b2 b1 b0 hb3 hb2 hb1 hb0
    have tok1 : True := trivial
    go_enter Try.func15, Try.ntmps15
    go_upto_region 3 with fail
    generalize ((((w.alloc (.cells #[.int .u64 a3, .int .u64 a2, .int .u64 a1, .int .u64 a0] 26)).alloc (.cells #[.int .u64 b3, .int .u64 b2, .int .u64 b1, .int .u64 b0] 26)).alloc (.cells #[.int .u64 0, .int .u64 0, .int .u64 0, .int .u64 0] 26)).alloc (.cells #[.int .u64 0, .int .u64 0, .int .u64 0, .int .u64 0] 26)) = W at *
    have hw4 := T0.lt4
    go_cut [7, 8] (fun p q wx => CutQ w wx [[.int .u64 a3, .int .u64 a2, .int .u64 a1, .int .u64 a0], [.int .u64 b3, .int .u64 b2, .int .u64 b1, .int .u64 b0], [.int .u64 0, .int .u64 0, .int .u64 0, .int .u64 0], [.int .u64 0, .int .u64 0, .int .u64 0, .int .u64 0]] (sw a3 a2 a1 a0 / sw b3 b2 b1 b0) (sw a3 a2 a1 a0 % sw b3 b2 b1 b0) (8 + 3) p q)
    case first =>
      go_region_held3 (fun w' => w'.cell? ⟨w.heap.size, 0, none⟩ = some (.int .u64 a3) ∧ w'.cell? ⟨w.heap.size, 1, none⟩ = some (.int .u64 a2) ∧ w'.cell? ⟨w.heap.size, 2, none⟩ = some (.int .u64 a1) ∧ w'.cell? ⟨w.heap.size, 3, none⟩ = some (.int .u64 a0) ∧ w'.cell? ⟨w.heap.size + 1, 0, none⟩ = some (.int .u64 b3) ∧ w'.cell? ⟨w.heap.size + 1, 1, none⟩ = some (.int .u64 b2) ∧ w'.cell? ⟨w.heap.size + 1, 2, none⟩ = some (.int .u64 b1) ∧ w'.cell? ⟨w.heap.size + 1, 3, none⟩ = some (.int .u64 b0)) ((refine sd_cells (cs := [[.int .u64 0, .int .u64 0, .int .u64 0, .int .u64 0], [.int .u64 0, .int .u64 0, .int .u64 0, .int .u64 0]]) ?_ <;> repeat (first | (with_reducible exact T0) | (with_reducible refine ArgsB.drew ?_) | (with_reducible refine ArgsB.alloc ?_ _) | (with_reducible refine ArgsB.set2 ?_ (by simp; omega) _ _))))
        (first
          | (go_at_call 30; have _t := tok1; refine (FA _).mono ?_; rintro e w1 ⟨s1, ao1, n1, c1, ds1, rfl, N1, hB⟩; (first | (have T1 : ArgsB w w1 [[.int .u64 a3, .int .u64 a2, .int .u64 a1, .int .u64 a0], [.int .u64 b3, .int .u64 b2, .int .u64 b1, .int .u64 b0], [.int .u64 0, .int .u64 0, .int .u64 0, .int .u64 0], [.int .u64 0, .int .u64 0, .int .u64 0, .int .u64 0]] := (by with_reducible exact T0.step hB); have tltw1 := T0.lt4; (try (replace N2 := N2.step hB)); (try (replace G0 := G0.step hB; have j0c := G0.c 0 rfl; have j0f := G0.f 0 rfl; have j1c := G0.c 1 rfl; have j1f := G0.f 1 rfl; have jlt := G0.lt)); (try (replace G1 := G1.step hB; have k0c := G1.c 0 rfl; have k0f := G1.f 0 rfl; have k1c := G1.c 1 rfl; have k1f := G1.f 1 rfl; have klt := G1.lt))) | (have T1 : ArgsB w w1 [[.int .u64 a3, .int .u64 a2, .int .u64 a1, .int .u64 a0], [.int .u64 b3, .int .u64 b2, .int .u64 b1, .int .u64 b0], [.int .u64 0, .int .u64 0, .int .u64 0, .int .u64 0], [.int .u64 0, .int .u64 0, .int .u64 0, .int .u64 0]] := (by with_reducible exact T0.drew.step hB); have tltw1 := T0.lt4; (try (replace N2 := N2.drew.step hB)); (try (replace G0 := G0.drew.step hB; have j0c := G0.c 0 rfl; have j0f := G0.f 0 rfl; have j1c := G0.c 1 rfl; have j1f := G0.f 1 rfl; have jlt := G0.lt)); (try (replace G1 := G1.drew.step hB; have k0c := G1.c 0 rfl; have k0f := G1.f 0 rfl; have k1c := G1.c 1 rfl; have k1f := G1.f 1 rfl; have klt := G1.lt))) | (have T1 : ArgsB w w1 [[.int .u64 a3, .int .u64 a2, .int .u64 a1, .int .u64 a0], [.int .u64 b3, .int .u64 b2, .int .u64 b1, .int .u64 b0], [.int .u64 0, .int .u64 0, .int .u64 0, .int .u64 0], [.int .u64 0, .int .u64 0, .int .u64 0, .int .u64 0]] := (by with_reducible exact (T0.alloc _).step hB); have tltw1 := T0.lt4; (try (replace N2 := (N2.alloc _).step hB)); (first | (have G1 := (Blk.new _ [.bool false, .slice none 0 0] _ rfl).step hB; have hgg := G0.lt; replace G0 := (G0.alloc _).step hB; have j0c := G0.c 0 rfl; have j0f := G0.f 0 rfl; have j1c := G0.c 1 rfl; have j1f := G0.f 1 rfl; have jlt := G0.lt; have k0c := G1.c 0 rfl; have k0f := G1.f 0 rfl; have k1c := G1.c 1 rfl; have k1f := G1.f 1 rfl; have klt := G1.lt) | (have G0 := (Blk.new _ [.bool false, .slice none 0 0] _ rfl).step hB; have j0c := G0.c 0 rfl; have j0f := G0.f 0 rfl; have j1c := G0.c 1 rfl; have j1f := G0.f 1 rfl; have jlt := G0.lt))) | (have T1 : ArgsB w w1 [[.int .u64 a3, .int .u64 a2, .int .u64 a1, .int .u64 a0], [.int .u64 b3, .int .u64 b2, .int .u64 b1, .int .u64 b0], [.int .u64 0, .int .u64 0, .int .u64 0, .int .u64 0], [.int .u64 0, .int .u64 0, .int .u64 0, .int .u64 0]] := (by with_reducible exact (T0.alloc _).drew.step hB); have tltw1 := T0.lt4; (try (replace N2 := (N2.alloc _).drew.step hB)); (first | (have G1 := (Blk.new _ [.bool false, .slice none 0 0] _ rfl).drew.step hB; have hgg := G0.lt; replace G0 := (G0.alloc _).drew.step hB; have j0c := G0.c 0 rfl; have j0f := G0.f 0 rfl; have j1c := G0.c 1 rfl; have j1f := G0.f 1 rfl; have jlt := G0.lt; have k0c := G1.c 0 rfl; have k0f := G1.f 0 rfl; have k1c := G1.c 1 rfl; have k1f := G1.f 1 rfl; have klt := G1.lt) | (have G0 := (Blk.new _ [.bool false, .slice none 0 0] _ rfl).drew.step hB; have j0c := G0.c 0 rfl; have j0f := G0.f 0 rfl; have j1c := G0.c 1 rfl; have j1f := G0.f 1 rfl; have jlt := G0.lt))) | (have T1 : ArgsB w w1 [[.int .u64 a3, .int .u64 a2, .int .u64 a1, .int .u64 a0], [.int .u64 b3, .int .u64 b2, .int .u64 b1, .int .u64 b0], [.int .u64 0, .int .u64 0, .int .u64 0, .int .u64 0], [.int .u64 0, .int .u64 0, .int .u64 0, .int .u64 0]] := (by with_reducible exact ((T0.alloc _).alloc _).step hB); have tltw1 := T0.lt4; (try (replace N2 := ((N2.alloc _).alloc _).step hB)); have G0 := ((Blk.new _ [.bool false, .slice none 0 0] _ rfl).alloc _).step hB; have G1 := (Blk.newS _ _ [.bool false, .slice none 0 0] _).step hB; have j0c := G0.c 0 rfl; have j0f := G0.f 0 rfl; have j1c := G0.c 1 rfl; have j1f := G0.f 1 rfl; have jlt := G0.lt; have k0c := G1.c 0 rfl; have k0f := G1.f 0 rfl; have k1c := G1.c 1 rfl; have k1f := G1.f 1 rfl; have klt := G1.lt) | (have T1 : ArgsB w w1 [[.int .u64 a3, .int .u64 a2, .int .u64 a1, .int .u64 a0], [.int .u64 b3, .int .u64 b2, .int .u64 b1, .int .u64 b0], [.int .u64 0, .int .u64 0, .int .u64 0, .int .u64 0], [.int .u64 0, .int .u64 0, .int .u64 0, .int .u64 0]] := (by with_reducible exact ((T0.alloc _).alloc _).drew.step hB); have tltw1 := T0.lt4; (try (replace N2 := ((N2.alloc _).alloc _).drew.step hB)); have G0 := ((Blk.new _ [.bool false, .slice none 0 0] _ rfl).alloc _).drew.step hB; have G1 := (Blk.newS _ _ [.bool false, .slice none 0 0] _).drew.step hB; have j0c := G0.c 0 rfl; have j0f := G0.f 0 rfl; have j1c := G0.c 1 rfl; have j1f := G0.f 1 rfl; have jlt := G0.lt; have k0c := G1.c 0 rfl; have k0f := G1.f 0 rfl; have k1c := G1.c 1 rfl; have k1f := G1.f 1 rfl; have klt := G1.lt)); clear T0; have T0 := T1; clear T1; clear hB tok1 _t)
          | (go_at_call 30; refine (FB _).mono ?_; rintro e w2 ⟨s2, ao2, n2, c2, ds2, rfl, N2, hB⟩; (first | (have T1 : ArgsB w w2 [[.int .u64 a3, .int .u64 a2, .int .u64 a1, .int .u64 a0], [.int .u64 b3, .int .u64 b2, .int .u64 b1, .int .u64 b0], [.int .u64 0, .int .u64 0, .int .u64 0, .int .u64 0], [.int .u64 0, .int .u64 0, .int .u64 0, .int .u64 0]] := (by with_reducible exact T0.step hB); have tltw2 := T0.lt4; (try (replace N1 := N1.step hB)); (try (replace G0 := G0.step hB; have j0c := G0.c 0 rfl; have j0f := G0.f 0 rfl; have j1c := G0.c 1 rfl; have j1f := G0.f 1 rfl; have jlt := G0.lt)); (try (replace G1 := G1.step hB; have k0c := G1.c 0 rfl; have k0f := G1.f 0 rfl; have k1c := G1.c 1 rfl; have k1f := G1.f 1 rfl; have klt := G1.lt))) | (have T1 : ArgsB w w2 [[.int .u64 a3, .int .u64 a2, .int .u64 a1, .int .u64 a0], [.int .u64 b3, .int .u64 b2, .int .u64 b1, .int .u64 b0], [.int .u64 0, .int .u64 0, .int .u64 0, .int .u64 0], [.int .u64 0, .int .u64 0, .int .u64 0, .int .u64 0]] := (by with_reducible exact T0.drew.step hB); have tltw2 := T0.lt4; (try (replace N1 := N1.drew.step hB)); (try (replace G0 := G0.drew.step hB; have j0c := G0.c 0 rfl; have j0f := G0.f 0 rfl; have j1c := G0.c 1 rfl; have j1f := G0.f 1 rfl; have jlt := G0.lt)); (try (replace G1 := G1.drew.step hB; have k0c := G1.c 0 rfl; have k0f := G1.f 0 rfl; have k1c := G1.c 1 rfl; have k1f := G1.f 1 rfl; have klt := G1.lt))) | (have T1 : ArgsB w w2 [[.int .u64 a3, .int .u64 a2, .int .u64 a1, .int .u64 a0], [.int .u64 b3, .int .u64 b2, .int .u64 b1, .int .u64 b0], [.int .u64 0, .int .u64 0, .int .u64 0, .int .u64 0], [.int .u64 0, .int .u64 0, .int .u64 0, .int .u64 0]] := (by with_reducible exact (T0.alloc _).step hB); have tltw2 := T0.lt4; (try (replace N1 := (N1.alloc _).step hB)); (first | (have G1 := (Blk.new _ [.bool false, .slice none 0 0] _ rfl).step hB; have hgg := G0.lt; replace G0 := (G0.alloc _).step hB; have j0c := G0.c 0 rfl; have j0f := G0.f 0 rfl; have j1c := G0.c 1 rfl; have j1f := G0.f 1 rfl; have jlt := G0.lt; have k0c := G1.c 0 rfl; have k0f := G1.f 0 rfl; have k1c := G1.c 1 rfl; have k1f := G1.f 1 rfl; have klt := G1.lt) | (have G0 := (Blk.new _ [.bool false, .slice none 0 0] _ rfl).step hB; have j0c := G0.c 0 rfl; have j0f := G0.f 0 rfl; have j1c := G0.c 1 rfl; have j1f := G0.f 1 rfl; have jlt := G0.lt))) | (have T1 : ArgsB w w2 [[.int .u64 a3, .int .u64 a2, .int .u64 a1, .int .u64 a0], [.int .u64 b3, .int .u64 b2, .int .u64 b1, .int .u64 b0], [.int .u64 0, .int .u64 0, .int .u64 0, .int .u64 0], [.int .u64 0, .int .u64 0, .int .u64 0, .int .u64 0]] := (by with_reducible exact (T0.alloc _).drew.step hB); have tltw2 := T0.lt4; (try (replace N1 := (N1.alloc _).drew.step hB)); (first | (have G1 := (Blk.new _ [.bool false, .slice none 0 0] _ rfl).drew.step hB; have hgg := G0.lt; replace G0 := (G0.alloc _).drew.step hB; have j0c := G0.c 0 rfl; have j0f := G0.f 0 rfl; have j1c := G0.c 1 rfl; have j1f := G0.f 1 rfl; have jlt := G0.lt; have k0c := G1.c 0 rfl; have k0f := G1.f 0 rfl; have k1c := G1.c 1 rfl; have k1f := G1.f 1 rfl; have klt := G1.lt) | (have G0 := (Blk.new _ [.bool false, .slice none 0 0] _ rfl).drew.step hB; have j0c := G0.c 0 rfl; have j0f := G0.f 0 rfl; have j1c := G0.c 1 rfl; have j1f := G0.f 1 rfl; have jlt := G0.lt))) | (have T1 : ArgsB w w2 [[.int .u64 a3, .int .u64 a2, .int .u64 a1, .int .u64 a0], [.int .u64 b3, .int .u64 b2, .int .u64 b1, .int .u64 b0], [.int .u64 0, .int .u64 0, .int .u64 0, .int .u64 0], [.int .u64 0, .int .u64 0, .int .u64 0, .int .u64 0]] := (by with_reducible exact ((T0.alloc _).alloc _).step hB); have tltw2 := T0.lt4; (try (replace N1 := ((N1.alloc _).alloc _).step hB)); have G0 := ((Blk.new _ [.bool false, .slice none 0 0] _ rfl).alloc _).step hB; have G1 := (Blk.newS _ _ [.bool false, .slice none 0 0] _).step hB; have j0c := G0.c 0 rfl; have j0f := G0.f 0 rfl; have j1c := G0.c 1 rfl; have j1f := G0.f 1 rfl; have jlt := G0.lt; have k0c := G1.c 0 rfl; have k0f := G1.f 0 rfl; have k1c := G1.c 1 rfl; have k1f := G1.f 1 rfl; have klt := G1.lt) | (have T1 : ArgsB w w2 [[.int .u64 a3, .int .u64 a2, .int .u64 a1, .int .u64 a0], [.int .u64 b3, .int .u64 b2, .int .u64 b1, .int .u64 b0], [.int .u64 0, .int .u64 0, .int .u64 0, .int .u64 0], [.int .u64 0, .int .u64 0, .int .u64 0, .int .u64 0]] := (by with_reducible exact ((T0.alloc _).alloc _).drew.step hB); have tltw2 := T0.lt4; (try (replace N1 := ((N1.alloc _).alloc _).drew.step hB)); have G0 := ((Blk.new _ [.bool false, .slice none 0 0] _ rfl).alloc _).drew.step hB; have G1 := (Blk.newS _ _ [.bool false, .slice none 0 0] _).drew.step hB; have j0c := G0.c 0 rfl; have j0f := G0.f 0 rfl; have j1c := G0.c 1 rfl; have j1f := G0.f 1 rfl; have jlt := G0.lt; have k0c := G1.c 0 rfl; have k0f := G1.f 0 rfl; have k1c := G1.c 1 rfl; have k1f := G1.f 1 rfl; have klt := G1.lt)); clear T0; have T0 := T1; clear T1; clear hB)
          | (go_at_call 40; (first | (with_reducible refine (div_any s1 s2 ao1 ao2 n1 n2 c1 c2 8 ds1 ds2 _ _ _ N1 N2 (by omega) hb).mono ?_) | (with_reducible refine (div_any s1 s2 ao1 ao2 n1 n2 c1 c2 8 ds1 ds2 _ _ _ (N1.alloc _) (N2.alloc _) (by omega) hb).mono ?_) | (with_reducible refine (div_any s1 s2 ao1 ao2 n1 n2 c1 c2 8 ds1 ds2 _ _ _ ((N1.alloc _).alloc _) ((N2.alloc _).alloc _) (by omega) hb).mono ?_)); rintro e w3 ⟨s3, o3, n3, c3, d3, s4, o4, n4, c4, d4, rfl, M1, M2, hB⟩; (first | (have T1 : ArgsB w w3 [[.int .u64 a3, .int .u64 a2, .int .u64 a1, .int .u64 a0], [.int .u64 b3, .int .u64 b2, .int .u64 b1, .int .u64 b0], [.int .u64 0, .int .u64 0, .int .u64 0, .int .u64 0], [.int .u64 0, .int .u64 0, .int .u64 0, .int .u64 0]] := (by with_reducible exact T0.step hB); have tltw3 := T0.lt4; (try (replace G0 := G0.step hB; have j0c := G0.c 0 rfl; have j0f := G0.f 0 rfl; have j1c := G0.c 1 rfl; have j1f := G0.f 1 rfl; have jlt := G0.lt)); (try (replace G1 := G1.step hB; have k0c := G1.c 0 rfl; have k0f := G1.f 0 rfl; have k1c := G1.c 1 rfl; have k1f := G1.f 1 rfl; have klt := G1.lt))) | (have T1 : ArgsB w w3 [[.int .u64 a3, .int .u64 a2, .int .u64 a1, .int .u64 a0], [.int .u64 b3, .int .u64 b2, .int .u64 b1, .int .u64 b0], [.int .u64 0, .int .u64 0, .int .u64 0, .int .u64 0], [.int .u64 0, .int .u64 0, .int .u64 0, .int .u64 0]] := (by with_reducible exact T0.drew.step hB); have tltw3 := T0.lt4; (try (replace G0 := G0.drew.step hB; have j0c := G0.c 0 rfl; have j0f := G0.f 0 rfl; have j1c := G0.c 1 rfl; have j1f := G0.f 1 rfl; have jlt := G0.lt)); (try (replace G1 := G1.drew.step hB; have k0c := G1.c 0 rfl; have k0f := G1.f 0 rfl; have k1c := G1.c 1 rfl; have k1f := G1.f 1 rfl; have klt := G1.lt))) | (have T1 : ArgsB w w3 [[.int .u64 a3, .int .u64 a2, .int .u64 a1, .int .u64 a0], [.int .u64 b3, .int .u64 b2, .int .u64 b1, .int .u64 b0], [.int .u64 0, .int .u64 0, .int .u64 0, .int .u64 0], [.int .u64 0, .int .u64 0, .int .u64 0, .int .u64 0]] := (by with_reducible exact (T0.alloc _).step hB); have tltw3 := T0.lt4; (first | (have G1 := (Blk.new _ [.bool false, .slice none 0 0] _ rfl).step hB; have hgg := G0.lt; replace G0 := (G0.alloc _).step hB; have j0c := G0.c 0 rfl; have j0f := G0.f 0 rfl; have j1c := G0.c 1 rfl; have j1f := G0.f 1 rfl; have jlt := G0.lt; have k0c := G1.c 0 rfl; have k0f := G1.f 0 rfl; have k1c := G1.c 1 rfl; have k1f := G1.f 1 rfl; have klt := G1.lt) | (have G0 := (Blk.new _ [.bool false, .slice none 0 0] _ rfl).step hB; have j0c := G0.c 0 rfl; have j0f := G0.f 0 rfl; have j1c := G0.c 1 rfl; have j1f := G0.f 1 rfl; have jlt := G0.lt))) | (have T1 : ArgsB w w3 [[.int .u64 a3, .int .u64 a2, .int .u64 a1, .int .u64 a0], [.int .u64 b3, .int .u64 b2, .int .u64 b1, .int .u64 b0], [.int .u64 0, .int .u64 0, .int .u64 0, .int .u64 0], [.int .u64 0, .int .u64 0, .int .u64 0, .int .u64 0]] := (by with_reducible exact (T0.alloc _).drew.step hB); have tltw3 := T0.lt4; (first | (have G1 := (Blk.new _ [.bool false, .slice none 0 0] _ rfl).drew.step hB; have hgg := G0.lt; replace G0 := (G0.alloc _).drew.step hB; have j0c := G0.c 0 rfl; have j0f := G0.f 0 rfl; have j1c := G0.c 1 rfl; have j1f := G0.f 1 rfl; have jlt := G0.lt; have k0c := G1.c 0 rfl; have k0f := G1.f 0 rfl; have k1c := G1.c 1 rfl; have k1f := G1.f 1 rfl; have klt := G1.lt) | (have G0 := (Blk.new _ [.bool false, .slice none 0 0] _ rfl).drew.step hB; have j0c := G0.c 0 rfl; have j0f := G0.f 0 rfl; have j1c := G0.c 1 rfl; have j1f := G0.f 1 rfl; have jlt := G0.lt))) | (have T1 : ArgsB w w3 [[.int .u64 a3, .int .u64 a2, .int .u64 a1, .int .u64 a0], [.int .u64 b3, .int .u64 b2, .int .u64 b1, .int .u64 b0], [.int .u64 0, .int .u64 0, .int .u64 0, .int .u64 0], [.int .u64 0, .int .u64 0, .int .u64 0, .int .u64 0]] := (by with_reducible exact ((T0.alloc _).alloc _).step hB); have tltw3 := T0.lt4; have G0 := ((Blk.new _ [.bool false, .slice none 0 0] _ rfl).alloc _).step hB; have G1 := (Blk.newS _ _ [.bool false, .slice none 0 0] _).step hB; have j0c := G0.c 0 rfl; have j0f := G0.f 0 rfl; have j1c := G0.c 1 rfl; have j1f := G0.f 1 rfl; have jlt := G0.lt; have k0c := G1.c 0 rfl; have k0f := G1.f 0 rfl; have k1c := G1.c 1 rfl; have k1f := G1.f 1 rfl; have klt := G1.lt) | (have T1 : ArgsB w w3 [[.int .u64 a3, .int .u64 a2, .int .u64 a1, .int .u64 a0], [.int .u64 b3, .int .u64 b2, .int .u64 b1, .int .u64 b0], [.int .u64 0, .int .u64 0, .int .u64 0, .int .u64 0], [.int .u64 0, .int .u64 0, .int .u64 0, .int .u64 0]] := (by with_reducible exact ((T0.alloc _).alloc _).drew.step hB); have tltw3 := T0.lt4; have G0 := ((Blk.new _ [.bool false, .slice none 0 0] _ rfl).alloc _).drew.step hB; have G1 := (Blk.newS _ _ [.bool false, .slice none 0 0] _).drew.step hB; have j0c := G0.c 0 rfl; have j0f := G0.f 0 rfl; have j1c := G0.c 1 rfl; have j1f := G0.f 1 rfl; have jlt := G0.lt; have k0c := G1.c 0 rfl; have k0f := G1.f 0 rfl; have k1c := G1.c 1 rfl; have k1f := G1.f 1 rfl; have klt := G1.lt)); clear T0; have T0 := T1; clear T1; clear hB N1 N2))
      all_goals go_wp2_with fail
      all_goals go_meet
      all_goals have hl4 : w.heap.size + ([[.int .u64 a3, .int .u64 a2, .int .u64 a1, .int .u64 a0], [.int .u64 b3, .int .u64 b2, .int .u64 b1, .int .u64 b0], [.int .u64 0, .int .u64 0, .int .u64 0, .int .u64 0], [.int .u64 0, .int .u64 0, .int .u64 0, .int .u64 0]] : List (List Value)).length ≤ w3.heap.size := T0.lt4
      all_goals first | (with_reducible exact cutQ_nn T0 hl4 M1 M2) | (with_reducible exact cutQ_nn' T0 hl4 M1 M2) | (with_reducible exact cutQ_sn T0 hl4 M1 M2 G0 (by simp; omega)) | (with_reducible exact cutQ_sn' T0 hl4 M1 M2 G0 (by simp; omega)) | (with_reducible exact cutQ_ss T0 M1 M2 G0 G1 (by simp; omega) (by simp; omega) (by omega)) | (with_reducible exact cutQ_ss T0 M1 M2 G1 G0 (by simp; omega) (by simp; omega) (by omega))
    case rest =>
      clear T0 FA FB tok1 hw4
      obtain ⟨g, g', s1, o1, n1, c1, d1, s2, o2, n2, c2, d2, hp, hq, hne, hg, hg', T0, B1, B2, N1, N2⟩ := hcut
      subst hp; subst hq
      have em0 := Int.emod_nonneg (sw a3 a2 a1 a0) hb
      have em1 := Int.emod_lt (sw a3 a2 a1 a0) hb
      generalize sw a3 a2 a1 a0 = x at *
      generalize sw b3 b2 b1 b0 = y at *
      obtain ⟨c3', c2', c1', c0', HT, HC⟩ := tellV_ex (x / y)
      obtain ⟨e3', e2', e1', e0', HT2, HC2⟩ := tellV_ex (x % y)
      have htm : told (x % y) = true := by unfold told; simp; omega
      rw [htm] at HT2
      have b10 := B1.c 0 rfl; have b11 := B1.c 1 rfl; have b1l := B1.lt
      go_wp2_with fail
      refine (toW_det s1 o1 n1 c1 d1 _ _ _ N1 (by omega)).mono ?_
      rw [HT]
      rintro e w1 ⟨rfl, hB⟩
      replace T0 := T0.step hB; replace B1 := B1.step hB; replace B2 := B2.step hB; replace N2 := N2.step hB
      clear hB b10 b11 b1l N1 HT
      have hw1 := T0.lt4
      have b1l := B1.lt
      have b2l := B2.lt
      go_upto_region 5 with fail
      have X1 := Blk.new w1 [.int .u64 c3', .int .u64 c2', .int .u64 c1', .int .u64 c0'] 26 rfl
      replace T0 := T0.alloc (.cells #[.int .u64 c3', .int .u64 c2', .int .u64 c1', .int .u64 c0'] 26)
      replace B2 := B2.alloc (.cells #[.int .u64 c3', .int .u64 c2', .int .u64 c1', .int .u64 c0'] 26)
      replace N2 := N2.alloc (.cells #[.int .u64 c3', .int .u64 c2', .int .u64 c1', .int .u64 c0'] 26)
      generalize w1.alloc (.cells #[.int .u64 c3', .int .u64 c2', .int .u64 c1', .int .u64 c0'] 26) = W2 at *
      generalize w1.heap.size = g1 at *
      have b20 := B2.c 0 rfl; have b21 := B2.c 1 rfl
      go_wp2_with fail
      refine (toW_det s2 o2 n2 c2 d2 _ _ _ N2 (by omega)).mono ?_
      rw [HT2]
      rintro e w3 ⟨rfl, hB⟩
      replace T0 := T0.step hB; replace X1 := X1.step hB
      clear hB b20 b21 N2 HT2 B1 B2
      have hw3 := T0.lt4
      have x1l := X1.lt
      have HB := (T0.alloc (.cells #[.int .u64 e3', .int .u64 e2', .int .u64 e1', .int .u64 e0'] 26)).below
      go_upto_region 6 with fail
      have N := Blk.new w3 [.int .u64 e3', .int .u64 e2', .int .u64 e1', .int .u64 e0'] 26 rfl
      replace T0 := T0.alloc (.cells #[.int .u64 e3', .int .u64 e2', .int .u64 e1', .int .u64 e0'] 26)
      replace X1 := X1.alloc (.cells #[.int .u64 e3', .int .u64 e2', .int .u64 e1', .int .u64 e0'] 26)
      generalize w3.alloc (.cells #[.int .u64 e3', .int .u64 e2', .int .u64 e1', .int .u64 e0'] 26) = W9 at *
      generalize w3.heap.size = gn at *
      by_cases htd : told (x / y) = true
      · have HV : Hid (divV x y = .tuple #[.agg #[.int .u64 c3', .int .u64 c2', .int .u64 c1', .int .u64 c0'], .agg #[.int .u64 e3', .int .u64 e2', .int .u64 e1', .int .u64 e0'], .bool true]) := by show _ = _; unfold divV; rw [if_neg hb, if_pos htd, HC htd, HC2 htm]
        rw [htd]
        go_upto_region 8 with fail
        have g0c := X1.c 0 rfl; have n0c := N.c 0 rfl; have o0 := (T0.b 2 rfl).c 0 rfl; have p0 := (T0.b 2 rfl).f 0 rfl; have r0c := (T0.b 3 rfl).c 0 rfl; have s0f := (T0.b 3 rfl).f 0 rfl; have g1c := X1.c 1 rfl; have n1c := N.c 1 rfl; have o1 := (T0.b 2 rfl).c 1 rfl; have p1 := (T0.b 2 rfl).f 1 rfl; have r1c := (T0.b 3 rfl).c 1 rfl; have s1f := (T0.b 3 rfl).f 1 rfl; have g2c := X1.c 2 rfl; have n2c := N.c 2 rfl; have o2 := (T0.b 2 rfl).c 2 rfl; have p2 := (T0.b 2 rfl).f 2 rfl; have r2c := (T0.b 3 rfl).c 2 rfl; have s2f := (T0.b 3 rfl).f 2 rfl; have g3c := X1.c 3 rfl; have n3c := N.c 3 rfl; have o3 := (T0.b 2 rfl).c 3 rfl; have p3 := (T0.b 2 rfl).f 3 rfl; have r3c := (T0.b 3 rfl).c 3 rfl; have s3f := (T0.b 3 rfl).f 3 rfl
        go_region_held3 (fun w' => w'.cell? ⟨g1, 0, none⟩ = some (.int .u64 c3') ∧ w'.cell? ⟨g1, 1, none⟩ = some (.int .u64 c2') ∧ w'.cell? ⟨g1, 2, none⟩ = some (.int .u64 c1') ∧ w'.cell? ⟨g1, 3, none⟩ = some (.int .u64 c0') ∧ w'.cell? ⟨gn, 0, none⟩ = some (.int .u64 e3') ∧ w'.cell? ⟨gn, 1, none⟩ = some (.int .u64 e2') ∧ w'.cell? ⟨gn, 2, none⟩ = some (.int .u64 e1') ∧ w'.cell? ⟨gn, 3, none⟩ = some (.int .u64 e0')) ((refine id_cells4 ?_ ?_ <;> repeat (first | (with_reducible exact X1) | (with_reducible exact N) | (with_reducible refine Blk.drew ?_) | (with_reducible refine Blk.set4 ?_ (by omega))))) (fail)
        go_wp2_with fail
        clear g0c n0c o0 p0 r0c s0f g1c n1c o1 p1 r1c s1f g2c n2c o2 p2 r2c s2f g3c n3c o3 p3 r3c s3f
        obtain ⟨HB', B2, B3⟩ : Below w.heap.size w ((((((((W9.setCell ⟨w.heap.size + 1 + 1, 0, none⟩ (.int .u64 c3')).setCell ⟨w.heap.size + 1 + 1, 1, none⟩ (.int .u64 c2')).setCell ⟨w.heap.size + 1 + 1, 2, none⟩ (.int .u64 c1')).setCell ⟨w.heap.size + 1 + 1, 3, none⟩ (.int .u64 c0')).setCell ⟨w.heap.size + 1 + 1 + 1, 0, none⟩ (.int .u64 e3')).setCell ⟨w.heap.size + 1 + 1 + 1, 1, none⟩ (.int .u64 e2')).setCell ⟨w.heap.size + 1 + 1 + 1, 2, none⟩ (.int .u64 e1')).setCell ⟨w.heap.size + 1 + 1 + 1, 3, none⟩ (.int .u64 e0')).drew ∧ Blk ((((((((W9.setCell ⟨w.heap.size + 1 + 1, 0, none⟩ (.int .u64 c3')).setCell ⟨w.heap.size + 1 + 1, 1, none⟩ (.int .u64 c2')).setCell ⟨w.heap.size + 1 + 1, 2, none⟩ (.int .u64 c1')).setCell ⟨w.heap.size + 1 + 1, 3, none⟩ (.int .u64 c0')).setCell ⟨w.heap.size + 1 + 1 + 1, 0, none⟩ (.int .u64 e3')).setCell ⟨w.heap.size + 1 + 1 + 1, 1, none⟩ (.int .u64 e2')).setCell ⟨w.heap.size + 1 + 1 + 1, 2, none⟩ (.int .u64 e1')).setCell ⟨w.heap.size + 1 + 1 + 1, 3, none⟩ (.int .u64 e0')).drew (w.heap.size + 1 + 1) [.int .u64 c3', .int .u64 c2', .int .u64 c1', .int .u64 c0'] ∧ Blk ((((((((W9.setCell ⟨w.heap.size + 1 + 1, 0, none⟩ (.int .u64 c3')).setCell ⟨w.heap.size + 1 + 1, 1, none⟩ (.int .u64 c2')).setCell ⟨w.heap.size + 1 + 1, 2, none⟩ (.int .u64 c1')).setCell ⟨w.heap.size + 1 + 1, 3, none⟩ (.int .u64 c0')).setCell ⟨w.heap.size + 1 + 1 + 1, 0, none⟩ (.int .u64 e3')).setCell ⟨w.heap.size + 1 + 1 + 1, 1, none⟩ (.int .u64 e2')).setCell ⟨w.heap.size + 1 + 1 + 1, 2, none⟩ (.int .u64 e1')).setCell ⟨w.heap.size + 1 + 1 + 1, 3, none⟩ (.int .u64 e0')).drew (w.heap.size + 1 + 1 + 1) [.int .u64 e3', .int .u64 e2', .int .u64 e1', .int .u64 e0'] := id_out T0
        generalize ((((((((W9.setCell ⟨w.heap.size + 1 + 1, 0, none⟩ (.int .u64 c3')).setCell ⟨w.heap.size + 1 + 1, 1, none⟩ (.int .u64 c2')).setCell ⟨w.heap.size + 1 + 1, 2, none⟩ (.int .u64 c1')).setCell ⟨w.heap.size + 1 + 1, 3, none⟩ (.int .u64 c0')).setCell ⟨w.heap.size + 1 + 1 + 1, 0, none⟩ (.int .u64 e3')).setCell ⟨w.heap.size + 1 + 1 + 1, 1, none⟩ (.int .u64 e2')).setCell ⟨w.heap.size + 1 + 1 + 1, 2, none⟩ (.int .u64 e1')).setCell ⟨w.heap.size + 1 + 1 + 1, 3, none⟩ (.int .u64 e0')).drew = W10 at *
        have o0 := B2.c 0 rfl; have r0c := B3.c 0 rfl; have o1 := B2.c 1 rfl; have r1c := B3.c 1 rfl; have o2 := B2.c 2 rfl; have r2c := B3.c 2 rfl; have o3 := B2.c 3 rfl; have r3c := B3.c 3 rfl
        refine bodyPost_ret (v := .tuple #[.agg #[.int .u64 c3', .int .u64 c2', .int .u64 c1', .int .u64 c0'], .agg #[.int .u64 e3', .int .u64 e2', .int .u64 e1', .int .u64 e0'], .bool true]) (by simp [results, Try.results15, go_sem, o0, o1, o2, o3, r0c, r1c, r2c, r3c]) rfl ?_
        exact ⟨by rw [HV.out], HB'⟩
      · have HV : Hid (divV x y = .tuple #[W4 0, W4 0, .bool false]) := by show _ = _; unfold divV; rw [if_neg hb, if_neg htd]
        rw [Bool.eq_false_iff.2 htd]
        have o0 := (T0.b 2 rfl).c 0 rfl; have p0 := (T0.b 2 rfl).f 0 rfl; have r0c := (T0.b 3 rfl).c 0 rfl; have s0f := (T0.b 3 rfl).f 0 rfl; have o1 := (T0.b 2 rfl).c 1 rfl; have p1 := (T0.b 2 rfl).f 1 rfl; have r1c := (T0.b 3 rfl).c 1 rfl; have s1f := (T0.b 3 rfl).f 1 rfl; have o2 := (T0.b 2 rfl).c 2 rfl; have p2 := (T0.b 2 rfl).f 2 rfl; have r2c := (T0.b 3 rfl).c 2 rfl; have s2f := (T0.b 3 rfl).f 2 rfl; have o3 := (T0.b 2 rfl).c 3 rfl; have p3 := (T0.b 2 rfl).f 3 rfl; have r3c := (T0.b 3 rfl).c 3 rfl; have s3f := (T0.b 3 rfl).f 3 rfl
        go_wp2
        refine bodyPost_ret (v := .tuple #[.agg #[.int .u64 0, .int .u64 0, .int .u64 0, .int .u64 0], .agg #[.int .u64 0, .int .u64 0, .int .u64 0, .int .u64 0], .bool false]) (by simp [results, Try.results15, go_sem, o0, o1, o2, o3, r0c, r1c, r2c, r3c]) rfl ?_
        refine ⟨by rw [HV.out, W40], ?_⟩
        repeat' (refine Below.setCell ?_ (by simp; try omega) _)
        exact HB
end Go.Proofs.Ytgbogbmbghpadaa
