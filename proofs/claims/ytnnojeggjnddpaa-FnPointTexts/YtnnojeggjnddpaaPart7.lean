/- Part 7 of the walks that the proof leans on. -/
import Derived.Test.YtnnojeggjnddpaaPart6
import Derived.Deep.RegionHeld3
import Derived.Deep.RegionWith
import Derived.Test.YtnnojeggjnddpaaPart2
import Derived.Test.YtnnojeggjnddpaaPart4
import Derived.Deep.DeepCutAuto
import Derived.Test.YtnnojeggjnddpaaPart5
/- The walk of the model's quotient and rest of numbers with signs. -/
namespace Go.Proofs.Ytnnojeggjnddpaa
open Go.RowKit
def Div2P (k : Nat) (x y : Int) (w : World) (e : Ending) (w' : World) : Prop :=
  ∃ (s2 : Bool) (o2 : Option Addr) (n2 c2 : Nat) (d2 : List Int) (s3 : Bool) (o3 : Option Addr) (n3 c3 : Nat) (d3 : List Int), e = .returned (.tuple #[.agg #[.bool s2, .slice o2 n2 c2], .agg #[.bool s3, .slice o3 n3 c3]]) ∧ IsNum w' s2 o2 n2 c2 d2 (x / y) (k + 3) ∧ IsNum w' s3 o3 n3 c3 d3 (x % y) (k + 3) ∧ Below w.heap.size w w'
theorem num_put {w : World} {s : Bool} {ao : Option Addr} {n cap : Nat} {ds : List Int} {z : Int} {k R : Nat} {p : Bool} {q : Option Addr} {q1 q2 : Nat} (h : IsNum w s ao n cap ds z k) (B : Blk w R [.bool p, .slice q q1 q2]) (u0 u1 : Value) : IsNum ((w.setCell ⟨R, 0, none⟩ u0).setCell ⟨R, 1, none⟩ u1) s ao n cap ds z k := by
  have h1 := h.rd.set u0 (B.c 0 rfl) (by intro x e; cases e)
  have B1 := B.setI 0 (by simp) u0
  have h2 := h1.set u1 (B1.c 1 rfl) (by intro x e; cases e)
  exact ⟨h.neg, h.len, h.cap, h2, h.nrm, h.val, h.le⟩
theorem num_more {w : World} {s : Bool} {ao : Option Addr} {n cap : Nat} {ds : List Int} {z : Int} {k k' : Nat} (h : IsNum w s ao n cap ds z k) (hk : k ≤ k') : IsNum w s ao n cap ds z k' := ⟨h.neg, h.len, h.cap, h.rd, h.nrm, h.val, Nat.le_trans h.le hk⟩
theorem num_drawn {w : World} {s : Bool} {ao : Option Addr} {n cap : Nat} {ds : List Int} {z : Int} {k : Nat} (h : IsNum w s ao n cap ds z k) : IsNum w.drew s ao n cap ds z k := ⟨h.neg, h.len, h.cap, h.rd, h.nrm, h.val, h.le⟩
theorem div_done {w W : World} {s2 s3 : Bool} {o2 o3 : Option Addr} {n2 c2 n3 c3 : Nat} {d2 d3 : List Int} {x y : Int} {k : Nat} (HB : Below w.heap.size w W) (NU : IsNum W s2 o2 n2 c2 d2 (x / y) (k + 3)) (NV : IsNum W s3 o3 n3 c3 d3 (x % y) (k + 3)) (C : Blk W (w.heap.size + 1 + 1) [.bool false, .slice none 0 0]) (D : Blk W (w.heap.size + 1 + 1 + 1) [.bool false, .slice none 0 0]) :
    Div2P k x y w (.returned (.tuple #[.agg #[.bool s2, .slice o2 n2 c2], .agg #[.bool s3, .slice o3 n3 c3]])) ((((W.setCell ⟨w.heap.size + 1 + 1, 0, none⟩ (.bool s2)).setCell ⟨w.heap.size + 1 + 1, 1, none⟩ (.slice o2 n2 c2)).setCell ⟨w.heap.size + 1 + 1 + 1, 0, none⟩ (.bool s3)).setCell ⟨w.heap.size + 1 + 1 + 1, 1, none⟩ (.slice o3 n3 c3)) := by
  have D' := (D.setO (p := ⟨w.heap.size + 1 + 1, 0, none⟩) (by simp) (.bool s2)).setO (p := ⟨w.heap.size + 1 + 1, 1, none⟩) (by simp) (.slice o2 n2 c2)
  refine ⟨s2, o2, n2, c2, d2, s3, o3, n3, c3, d3, rfl, num_put (num_put NU C _ _) D' _ _, num_put (num_put NV C _ _) D' _ _, ?_⟩
  exact (((HB.setCell (p := ⟨w.heap.size + 1 + 1, 0, none⟩) (by simp; omega) _).setCell (p := ⟨w.heap.size + 1 + 1, 1, none⟩) (by simp; omega) _).setCell (p := ⟨w.heap.size + 1 + 1 + 1, 0, none⟩) (by simp; omega) _).setCell (p := ⟨w.heap.size + 1 + 1 + 1, 1, none⟩) (by simp; omega) _
theorem div_drawn {w W : World} {k : Nat} {x y : Int} {e : Ending} (h : Div2P k x y w e W) : Div2P k x y w e W.drew := by
  obtain ⟨s2, o2, n2, c2, d2, s3, o3, n3, c3, d3, e, h1, h2, hB⟩ := h
  exact ⟨s2, o2, n2, c2, d2, s3, o3, n3, c3, d3, e, num_drawn h1, num_drawn h2, hB.drew⟩
theorem div_alloc {w W : World} {k : Nat} {x y : Int} {e : Ending} (h : Div2P k x y w e W) (o : Obj) : Div2P k x y w e (W.alloc o) := by
  obtain ⟨s2, o2, n2, c2, d2, s3, o3, n3, c3, d3, e, h1, h2, hB⟩ := h
  exact ⟨s2, o2, n2, c2, d2, s3, o3, n3, c3, d3, e, h1.below ((Below.refl _ _).alloc (Nat.le_refl _) o), h2.below ((Below.refl _ _).alloc (Nat.le_refl _) o), hB.alloc hB.size o⟩
set_option maxRecDepth 100000 in
set_option maxHeartbeats 4000000 in
theorem div_any (s t : Bool) (ao bo : Option Addr) (n m ca cb k : Nat) (xs ys : List Int) (x y : Int) (w : World) (hx : IsNum w s ao n ca xs x k) (hy : IsNum w t bo m cb ys y k) (hk : k ≤ 9000) (hy0 : y ≠ 0) :
    Calls Try.prog 130 #[.agg #[.bool s, .slice ao n ca], .agg #[.bool t, .slice bo m cb]] w (Div2P k x y w) := by
  obtain ⟨Q, R, eQ, eR, hQ0, hR0, hR1, hqr⟩ := div_parts x y hy0
  have DS := div_signs hy0 hR0 hR1 hqr
  have hs : Hid (s = decide (x < 0)) := hx.neg
  have ht : Hid (t = decide (y < 0)) := hy.neg
  have A := (((Blk.new w [.bool s, .slice ao n ca] 66 rfl).alloc (.cells #[.bool t, .slice bo m cb] 66)).alloc (.cells #[.bool false, .slice none 0 0] 66)).alloc (.cells #[.bool false, .slice none 0 0] 66)
  have B := ((Blk.new (w.alloc (.cells #[.bool s, .slice ao n ca] 66)) [.bool t, .slice bo m cb] 66 (g := w.heap.size + 1) (by simp)).alloc (.cells #[.bool false, .slice none 0 0] 66)).alloc (.cells #[.bool false, .slice none 0 0] 66)
  have C := (Blk.new ((w.alloc (.cells #[.bool s, .slice ao n ca] 66)).alloc (.cells #[.bool t, .slice bo m cb] 66)) [.bool false, .slice none 0 0] 66 (g := w.heap.size + 1 + 1) (by simp)).alloc (.cells #[.bool false, .slice none 0 0] 66)
  have D := Blk.new (((w.alloc (.cells #[.bool s, .slice ao n ca] 66)).alloc (.cells #[.bool t, .slice bo m cb] 66)).alloc (.cells #[.bool false, .slice none 0 0] 66)) [.bool false, .slice none 0 0] 66 (g := w.heap.size + 1 + 1 + 1) (by simp)
  have HB0 : Below w.heap.size w ((((w.alloc (.cells #[.bool s, .slice ao n ca] 66)).alloc (.cells #[.bool t, .slice bo m cb] 66)).alloc (.cells #[.bool false, .slice none 0 0] 66)).alloc (.cells #[.bool false, .slice none 0 0] 66)) := ((((Below.refl _ _).alloc (Nat.le_refl _) _).alloc (by simp) _).alloc (by simp; omega) _).alloc (by simp; omega) _
  replace hx := hx.below HB0
  replace hy := hy.below HB0
  have hyp : 0 < val ys := by rw [hy.val]; omega
  go_enter Try.func130, Try.ntmps130
  go_wp2_with fail
  refine (divAbs_any ao bo n m ca cb xs ys _ hx.len hy.len hx.nrm hy.nrm hx.rd hy.rd hx.cap (by have := hx.le; omega) (by have := hy.le; omega) hyp).mono ?_
  rintro e w1 ⟨qo, qn, qc, qs, ro, rn, rc, rs, rfl, ⟨a1, a2, a3, a4, a5, a6⟩, ⟨b1, b2, b3, b4, b5, b6⟩, hB⟩
  rw [hx.val, hy.val] at a5 b5
  rw [eQ] at a5
  rw [eR] at b5
  have hnk := hx.le
  replace hy := hy.below hB
  replace A := A.step hB; replace B := B.step hB; replace C := C.step hB; replace D := D.step hB
  have HB1 : Below w.heap.size w w1 := HB0.trans (hB.mono HB0.size)
  clear hB HB0 hx hyp
  have p0 := A.c 0 rfl; have p1 := A.c 1 rfl; have pl := A.lt; have q0 := B.c 0 rfl; have q1 := B.c 1 rfl; have ql := B.lt
  go_wp2_with fail
  refine (trim_any _ qo qn qc qs _ a1 a2 a4.1 a6 (by omega)).mono ?_
  rintro e w2 ⟨s2, o2, n2, c2, d2, rfl, t1, t2, t3, t4, t5, t6, t7, hB⟩
  have NU : IsNum w2 s2 o2 n2 c2 d2 (if s = t then Q else -Q) (k + 1) := num_of t1 t2 (by omega) t4 (t5.trans a5) (by rw [t6, a5]) t7 (by split <;> omega) (by intro hz; cases s <;> cases t <;> simp at hz ⊢ <;> omega)
  replace b6 := b6.below hB (Nat.le_refl _)
  replace hy := hy.below hB
  replace A := A.step hB; replace B := B.step hB; replace C := C.step hB; replace D := D.step hB
  have HB2 : Below w.heap.size w w2 := HB1.trans (hB.mono HB1.size)
  clear hB HB1 t1 t2 t3 t4 t5 t6 t7 a1 a2 a3 a4 a5 a6 p0 p1 pl q0 q1 ql
  have p0 := A.c 0 rfl; have p1 := A.c 1 rfl; have pl := A.lt; have q0 := B.c 0 rfl; have q1 := B.c 1 rfl; have ql := B.lt
  have hDU := D.lt
  have U := Blk.new w2 [.bool s2, .slice o2 n2 c2] 66 rfl
  have hal : Below w2.heap.size w2 (w2.alloc (.cells #[.bool s2, .slice o2 n2 c2] 66)) := (Below.refl _ _).alloc (Nat.le_refl _) _
  replace A := A.step hal; replace B := B.step hal; replace C := C.step hal; replace D := D.step hal
  replace NU := NU.below hal
  replace hy := hy.below hal
  replace b6 := b6.below hal (Nat.le_refl _)
  replace HB2 := HB2.alloc HB2.size (.cells #[.bool s2, .slice o2 n2 c2] 66)
  clear hal
  go_wp2_with fail
  refine (trim_any s ro rn rc rs _ b1 b2 b4.1 b6 (by omega)).mono ?_
  rintro e w3 ⟨s3, o3, n3, c3, d3, rfl, t1, t2, t3, t4, t5, t6, t7, hB⟩
  have NV : IsNum w3 s3 o3 n3 c3 d3 (if s then -R else R) (k + 1) := num_of t1 t2 (by omega) t4 (t5.trans b5) (by rw [t6, b5]) t7 (by split <;> omega) (by intro hz; cases s <;> simp at hz ⊢ <;> omega)
  replace hy := hy.below hB
  replace NU := NU.below hB
  replace A := A.step hB; replace B := B.step hB; replace C := C.step hB; replace D := D.step hB; replace U := U.step hB
  have HB3 : Below w.heap.size w w3 := HB2.trans (hB.mono HB2.size)
  have hUl := U.lt; have hBl := B.lt; have hCl := C.lt; have hDl := D.lt
  have nBU : w.heap.size + 1 + 1 + 1 < w2.heap.size := hDU
  clear hB HB2 t1 t2 t3 t4 t5 t6 t7 b1 b2 b3 b4 b5 b6 p0 p1 pl q0 q1 ql
  have q0 := B.c 0 rfl; have q1 := B.c 1 rfl; have ql := B.lt; have u0 := U.c 0 rfl; have uf0 := U.f 0 rfl; have u1 := U.c 1 rfl; have uf1 := U.f 1 rfl; have ul := U.lt; have c0 := C.c 0 rfl; have cf0 := C.f 0 rfl; have c1 := C.c 1 rfl; have cf1 := C.f 1 rfl; have cl := C.lt; have d0 := D.c 0 rfl; have df0 := D.f 0 rfl; have d1 := D.c 1 rfl; have df1 := D.f 1 rfl; have dl := D.lt
  have NU3 := NU; have NV3 := NV; have C3 := C; have D3 := D; have HB3' := HB3
  have V := Blk.new w3 [.bool s3, .slice o3 n3 c3] 66 rfl
  have hal : Below w3.heap.size w3 (w3.alloc (.cells #[.bool s3, .slice o3 n3 c3] 66)) := (Below.refl _ _).alloc (Nat.le_refl _) _
  replace B := B.step hal; replace C := C.step hal; replace D := D.step hal; replace U := U.step hal
  replace NU := NU.below hal
  replace NV := NV.below hal
  replace hy := hy.below hal
  have HB4 := HB3.alloc HB3.size (.cells #[.bool s3, .slice o3 n3 c3] 66)
  have nUV : w2.heap.size < w3.heap.size := hUl
  clear hal HB3
  have hneg := NV.neg
  by_cases hv : s3 = true
  · subst hv
    have es : s = true := by
      apply Decidable.byContradiction
      intro h
      rw [Bool.eq_false_iff.2 h] at hneg
      simp at hneg
      omega
    have hRp : 0 < R := by rw [es] at hneg; simp at hneg; exact hneg
    have hx0 : x < 0 := by have := hs.out; rw [es] at this; simpa using this.symm
    subst es
    obtain ⟨-, -, -, -, D5, D6⟩ := DS
    have J : ∀ W, Below (w3.alloc (.cells #[.bool true, .slice o3 n3 c3] 66)).heap.size (w3.alloc (.cells #[.bool true, .slice o3 n3 c3] 66)) W → (Blk W (w.heap.size + 1) [.bool t, .slice bo m cb] ∧ Blk W (w.heap.size + 1 + 1) [.bool false, .slice none 0 0] ∧ Blk W (w.heap.size + 1 + 1 + 1) [.bool false, .slice none 0 0] ∧ Blk W w2.heap.size [.bool s2, .slice o2 n2 c2] ∧ Blk W w3.heap.size [.bool true, .slice o3 n3 c3]) ∧ IsNum W s2 o2 n2 c2 d2 (if true = t then Q else -Q) (k + 1) ∧ IsNum W true o3 n3 c3 d3 (-R) (k + 1) ∧ IsNum W t bo m cb ys y k ∧ Below w.heap.size w W :=
      fun W h => ⟨⟨B.step h, C.step h, D.step h, U.step h, V.step h⟩, NU.below h, by simpa using NV.below h, hy.below h, HB4.trans (h.mono HB4.size)⟩
    clear NU NV NU3 NV3 C3 D3 HB3' A B C D U V HB4 hy hneg hs
    cases t
    · have hyp : 0 < y := by have := ht.out; simp at this; omega
      go_upto_region 8 with fail
      generalize w3.alloc (.cells #[.bool true, .slice o3 n3 c3] 66) = W0 at *
      obtain ⟨⟨jb, jc, jd, ju, jv⟩, jn, jr, jy, jB⟩ := J W0 (Below.refl _ _)
      clear u0 u1 uf0 uf1 ul q0 q1 ql c0 c1 cf0 cf1 cl d0 d1 df0 df1 dl
      have u0 := ju.c 0 rfl; have uf0 := ju.f 0 rfl; have u1 := ju.c 1 rfl; have uf1 := ju.f 1 rfl; have ul := ju.lt
      go_region_with ((first
        | (go_at_call 57; refine (int_any 1 _ (by decide) (by decide)).mono ?_; rintro e w5 ⟨s5, o5, n5, c5, d5, rfl, N5, hB⟩; have K5 : Below W0.heap.size W0 w5 := ((Below.refl _ _).drew).trans hB; obtain ⟨⟨ib, ic, id', iu, iv⟩, jn5, ir, iy, iB⟩ := J w5 K5; have h0 := iu.c 0 rfl; have hf0 := iu.f 0 rfl; have h1 := iu.c 1 rfl; have hf1 := iu.f 1 rfl; have hl := iu.lt; clear hB)
        | (go_at_call 93; refine (sub_any s2 s5 o2 o5 n2 n5 c2 c5 (k + 2) d2 d5 _ _ _ (num_more jn5 (by omega)) (num_more N5 (by omega)) (by omega)).mono ?_; rintro e w6 ⟨s6, o6, n6, c6, d6, rfl, N6, hB⟩; have K6 : Below W0.heap.size W0 w6 := K5.trans (hB.mono K5.size); obtain ⟨⟨lb, lc, ld, lu, lv⟩, ln, lr, ly, lB⟩ := J w6 K6; have i0 := lu.c 0 rfl; have if0 := lu.f 0 rfl; have i1 := lu.c 1 rfl; have if1 := lu.f 1 rfl; have il := lu.lt; clear hB)))
      all_goals have g1 : w.heap.size + 1 ≠ w2.heap.size := by omega
      all_goals have g2 : w.heap.size + 1 + 1 ≠ w2.heap.size := by omega
      all_goals have g3 : w.heap.size + 1 + 1 + 1 ≠ w2.heap.size := by omega
      all_goals have g4 : w3.heap.size ≠ w2.heap.size := by omega
      all_goals have B6 := ((lb.setO (p := ⟨w2.heap.size, 0, none⟩) (by exact g1) (.bool s6)).setO (p := ⟨w2.heap.size, 1, none⟩) (by exact g1) (.slice o6 n6 c6))
      all_goals have C6 := ((lc.setO (p := ⟨w2.heap.size, 0, none⟩) (by exact g2) (.bool s6)).setO (p := ⟨w2.heap.size, 1, none⟩) (by exact g2) (.slice o6 n6 c6))
      all_goals have D6' := ((ld.setO (p := ⟨w2.heap.size, 0, none⟩) (by exact g3) (.bool s6)).setO (p := ⟨w2.heap.size, 1, none⟩) (by exact g3) (.slice o6 n6 c6))
      all_goals have V6 := ((lv.setO (p := ⟨w2.heap.size, 0, none⟩) (by exact g4) (.bool s6)).setO (p := ⟨w2.heap.size, 1, none⟩) (by exact g4) (.slice o6 n6 c6))
      all_goals have M6 := num_put N6 lu (.bool s6) (.slice o6 n6 c6)
      all_goals have R6 := num_put lr lu (.bool s6) (.slice o6 n6 c6)
      all_goals have Y6 := num_put ly lu (.bool s6) (.slice o6 n6 c6)
      all_goals have U6 := (lu.setI 0 (by simp) (.bool s6)).setI 1 (by simp) (.slice o6 n6 c6)
      all_goals have L6 := (lB.setCell (p := ⟨w2.heap.size, 0, none⟩) (by simp; omega) (.bool s6)).setCell (p := ⟨w2.heap.size, 1, none⟩) (by simp; omega) (.slice o6 n6 c6)
      all_goals clear u0 u1 uf0 uf1 ul h0 h1 hf0 hf1 hl i0 i1 if0 if1 il jb jc jd ju jv jn jr jy jB ib ic id' iu iv jn5 ir iy iB lb lc ld lu lv ln lr ly lB N5 N6 K5 K6 J
      all_goals generalize ((w6.setCell ⟨w2.heap.size, 0, none⟩ (.bool s6)).setCell ⟨w2.heap.size, 1, none⟩ (.slice o6 n6 c6)) = W6 at *
      all_goals (have v0 := V6.c 0 rfl; have v1 := V6.c 1 rfl; have vl := V6.lt; have x0 := B6.c 0 rfl; have x1 := B6.c 1 rfl; have xl := B6.lt)
      all_goals go_wp2_with fail
      all_goals refine (add_any true false o3 bo n3 m c3 cb (k + 1) d3 ys _ _ _ R6 (num_more Y6 (by omega)) (by omega)).mono ?_
      all_goals rintro e w7 ⟨s7, o7, n7, c7, d7, rfl, N7, hB⟩
      all_goals (replace C6 := C6.step hB; replace D6' := D6'.step hB; replace V6 := V6.step hB; replace U6 := U6.step hB; replace M6 := M6.below hB; replace L6 := L6.trans (hB.mono L6.size))
      all_goals clear hB v0 v1 vl x0 x1 xl
      all_goals have g5 : w.heap.size + 1 + 1 ≠ w3.heap.size := by omega
      all_goals have g6 : w.heap.size + 1 + 1 + 1 ≠ w3.heap.size := by omega
      all_goals have g7 : w2.heap.size ≠ w3.heap.size := by omega
      all_goals (have v0 := V6.c 0 rfl; have vf0 := V6.f 0 rfl; have v1 := V6.c 1 rfl; have vf1 := V6.f 1 rfl; have vl := V6.lt)
      all_goals have C7 := ((C6.setO (p := ⟨w3.heap.size, 0, none⟩) (by exact g5) (.bool s7)).setO (p := ⟨w3.heap.size, 1, none⟩) (by exact g5) (.slice o7 n7 c7))
      all_goals have D7 := ((D6'.setO (p := ⟨w3.heap.size, 0, none⟩) (by exact g6) (.bool s7)).setO (p := ⟨w3.heap.size, 1, none⟩) (by exact g6) (.slice o7 n7 c7))
      all_goals have U7 := ((U6.setO (p := ⟨w3.heap.size, 0, none⟩) (by exact g7) (.bool s7)).setO (p := ⟨w3.heap.size, 1, none⟩) (by exact g7) (.slice o7 n7 c7))
      all_goals have M7 := num_put M6 V6 (.bool s7) (.slice o7 n7 c7)
      all_goals have P7 := num_put N7 V6 (.bool s7) (.slice o7 n7 c7)
      all_goals have L7 := (L6.setCell (p := ⟨w3.heap.size, 0, none⟩) (by simp; omega) (.bool s7)).setCell (p := ⟨w3.heap.size, 1, none⟩) (by simp; omega) (.slice o7 n7 c7)
      all_goals obtain ⟨E1, E2⟩ := D5 hx0 hRp hyp
      all_goals rw [show (if true = false then Q else -Q) - 1 = x / y by rw [E1]; simp] at M7
      all_goals rw [show -R + y = x % y by rw [E2]] at P7
      all_goals have F := div_done (k := k) L7 M7 (num_more P7 (Nat.le_succ _)) C7 D7
      all_goals (have c0 := C7.c 0 rfl; have cf0 := C7.f 0 rfl; have c1 := C7.c 1 rfl; have cf1 := C7.f 1 rfl; have cl := C7.lt; have d0 := D7.c 0 rfl; have df0 := D7.f 0 rfl; have d1 := D7.c 1 rfl; have df1 := D7.f 1 rfl; have dl := D7.lt; have u0 := U7.c 0 rfl; have u1 := U7.c 1 rfl; have ul := U7.lt)
      all_goals clear C6 D6' V6 U6 M6 L6 C7 D7 U7 M7 P7 L7 N7 g1 g2 g3 g4 g5 g6 g7
      all_goals go_wp2
      all_goals go_region
      all_goals go_wp2
      all_goals refine bodyPost_ret (v := .tuple #[.agg #[.bool s6, .slice o6 n6 c6], .agg #[.bool s7, .slice o7 n7 c7]]) (by simp [results, Try.results130, go_sem, c0, c1, d0, d1]) rfl ?_
      all_goals exact div_drawn F
    · have hyp : y < 0 := by have := ht.out; simpa using this.symm
      go_upto_region 6 with fail
      generalize w3.alloc (.cells #[.bool true, .slice o3 n3 c3] 66) = W0 at *
      obtain ⟨⟨jb, jc, jd, ju, jv⟩, jn, jr, jy, jB⟩ := J W0 (Below.refl _ _)
      clear u0 u1 uf0 uf1 ul q0 q1 ql c0 c1 cf0 cf1 cl d0 d1 df0 df1 dl
      have u0 := ju.c 0 rfl; have uf0 := ju.f 0 rfl; have u1 := ju.c 1 rfl; have uf1 := ju.f 1 rfl; have ul := ju.lt
      go_region_with ((first
        | (go_at_call 57; refine (int_any 1 _ (by decide) (by decide)).mono ?_; rintro e w5 ⟨s5, o5, n5, c5, d5, rfl, N5, hB⟩; have K5 : Below W0.heap.size W0 w5 := ((Below.refl _ _).drew).trans hB; obtain ⟨⟨ib, ic, id', iu, iv⟩, jn5, ir, iy, iB⟩ := J w5 K5; have h0 := iu.c 0 rfl; have hf0 := iu.f 0 rfl; have h1 := iu.c 1 rfl; have hf1 := iu.f 1 rfl; have hl := iu.lt; clear hB)
        | (go_at_call 81; refine (add_any s2 s5 o2 o5 n2 n5 c2 c5 (k + 2) d2 d5 _ _ _ (num_more jn5 (by omega)) (num_more N5 (by omega)) (by omega)).mono ?_; rintro e w6 ⟨s6, o6, n6, c6, d6, rfl, N6, hB⟩; have K6 : Below W0.heap.size W0 w6 := K5.trans (hB.mono K5.size); obtain ⟨⟨lb, lc, ld, lu, lv⟩, ln, lr, ly, lB⟩ := J w6 K6; have i0 := lu.c 0 rfl; have if0 := lu.f 0 rfl; have i1 := lu.c 1 rfl; have if1 := lu.f 1 rfl; have il := lu.lt; clear hB)))
      all_goals have g1 : w.heap.size + 1 ≠ w2.heap.size := by omega
      all_goals have g2 : w.heap.size + 1 + 1 ≠ w2.heap.size := by omega
      all_goals have g3 : w.heap.size + 1 + 1 + 1 ≠ w2.heap.size := by omega
      all_goals have g4 : w3.heap.size ≠ w2.heap.size := by omega
      all_goals have B6 := ((lb.setO (p := ⟨w2.heap.size, 0, none⟩) (by exact g1) (.bool s6)).setO (p := ⟨w2.heap.size, 1, none⟩) (by exact g1) (.slice o6 n6 c6))
      all_goals have C6 := ((lc.setO (p := ⟨w2.heap.size, 0, none⟩) (by exact g2) (.bool s6)).setO (p := ⟨w2.heap.size, 1, none⟩) (by exact g2) (.slice o6 n6 c6))
      all_goals have D6' := ((ld.setO (p := ⟨w2.heap.size, 0, none⟩) (by exact g3) (.bool s6)).setO (p := ⟨w2.heap.size, 1, none⟩) (by exact g3) (.slice o6 n6 c6))
      all_goals have V6 := ((lv.setO (p := ⟨w2.heap.size, 0, none⟩) (by exact g4) (.bool s6)).setO (p := ⟨w2.heap.size, 1, none⟩) (by exact g4) (.slice o6 n6 c6))
      all_goals have M6 := num_put N6 lu (.bool s6) (.slice o6 n6 c6)
      all_goals have R6 := num_put lr lu (.bool s6) (.slice o6 n6 c6)
      all_goals have Y6 := num_put ly lu (.bool s6) (.slice o6 n6 c6)
      all_goals have U6 := (lu.setI 0 (by simp) (.bool s6)).setI 1 (by simp) (.slice o6 n6 c6)
      all_goals have L6 := (lB.setCell (p := ⟨w2.heap.size, 0, none⟩) (by simp; omega) (.bool s6)).setCell (p := ⟨w2.heap.size, 1, none⟩) (by simp; omega) (.slice o6 n6 c6)
      all_goals clear u0 u1 uf0 uf1 ul h0 h1 hf0 hf1 hl i0 i1 if0 if1 il jb jc jd ju jv jn jr jy jB ib ic id' iu iv jn5 ir iy iB lb lc ld lu lv ln lr ly lB N5 N6 K5 K6 J
      all_goals generalize ((w6.setCell ⟨w2.heap.size, 0, none⟩ (.bool s6)).setCell ⟨w2.heap.size, 1, none⟩ (.slice o6 n6 c6)) = W6 at *
      all_goals (have v0 := V6.c 0 rfl; have v1 := V6.c 1 rfl; have vl := V6.lt; have x0 := B6.c 0 rfl; have x1 := B6.c 1 rfl; have xl := B6.lt)
      all_goals go_wp2_with fail
      all_goals refine (sub_any true true o3 bo n3 m c3 cb (k + 1) d3 ys _ _ _ R6 (num_more Y6 (by omega)) (by omega)).mono ?_
      all_goals rintro e w7 ⟨s7, o7, n7, c7, d7, rfl, N7, hB⟩
      all_goals (replace C6 := C6.step hB; replace D6' := D6'.step hB; replace V6 := V6.step hB; replace U6 := U6.step hB; replace M6 := M6.below hB; replace L6 := L6.trans (hB.mono L6.size))
      all_goals clear hB v0 v1 vl x0 x1 xl
      all_goals have g5 : w.heap.size + 1 + 1 ≠ w3.heap.size := by omega
      all_goals have g6 : w.heap.size + 1 + 1 + 1 ≠ w3.heap.size := by omega
      all_goals have g7 : w2.heap.size ≠ w3.heap.size := by omega
      all_goals (have v0 := V6.c 0 rfl; have vf0 := V6.f 0 rfl; have v1 := V6.c 1 rfl; have vf1 := V6.f 1 rfl; have vl := V6.lt)
      all_goals have C7 := ((C6.setO (p := ⟨w3.heap.size, 0, none⟩) (by exact g5) (.bool s7)).setO (p := ⟨w3.heap.size, 1, none⟩) (by exact g5) (.slice o7 n7 c7))
      all_goals have D7 := ((D6'.setO (p := ⟨w3.heap.size, 0, none⟩) (by exact g6) (.bool s7)).setO (p := ⟨w3.heap.size, 1, none⟩) (by exact g6) (.slice o7 n7 c7))
      all_goals have U7 := ((U6.setO (p := ⟨w3.heap.size, 0, none⟩) (by exact g7) (.bool s7)).setO (p := ⟨w3.heap.size, 1, none⟩) (by exact g7) (.slice o7 n7 c7))
      all_goals have M7 := num_put M6 V6 (.bool s7) (.slice o7 n7 c7)
      all_goals have P7 := num_put N7 V6 (.bool s7) (.slice o7 n7 c7)
      all_goals have L7 := (L6.setCell (p := ⟨w3.heap.size, 0, none⟩) (by simp; omega) (.bool s7)).setCell (p := ⟨w3.heap.size, 1, none⟩) (by simp; omega) (.slice o7 n7 c7)
      all_goals obtain ⟨E1, E2⟩ := D6 hx0 hRp hyp
      all_goals rw [show (if True then Q else -Q) + 1 = x / y by rw [E1]; simp] at M7
      all_goals rw [show -R - y = x % y by rw [E2]] at P7
      all_goals have F := div_done (k := k) L7 M7 (num_more P7 (Nat.le_succ _)) C7 D7
      all_goals (have c0 := C7.c 0 rfl; have cf0 := C7.f 0 rfl; have c1 := C7.c 1 rfl; have cf1 := C7.f 1 rfl; have cl := C7.lt; have d0 := D7.c 0 rfl; have df0 := D7.f 0 rfl; have d1 := D7.c 1 rfl; have df1 := D7.f 1 rfl; have dl := D7.lt; have u0 := U7.c 0 rfl; have u1 := U7.c 1 rfl; have ul := U7.lt)
      all_goals clear C6 D6' V6 U6 M6 L6 C7 D7 U7 M7 P7 L7 N7 g1 g2 g3 g4 g5 g6 g7
      all_goals go_wp2
      all_goals go_region
      all_goals go_wp2
      all_goals refine bodyPost_ret (v := .tuple #[.agg #[.bool s6, .slice o6 n6 c6], .agg #[.bool s7, .slice o7 n7 c7]]) (by simp [results, Try.results130, go_sem, c0, c1, d0, d1]) rfl ?_
      all_goals exact div_drawn F
  · have hv := Bool.eq_false_iff.2 hv
    subst hv
    have hres : (if s = t then Q else -Q) = x / y ∧ (if s then -R else R) = x % y := by
      have hs := hs.out
      have ht := ht.out
      obtain ⟨D1, D2, D3, D4, -, -⟩ := DS
      by_cases hx0 : x < 0
      · have es : s = true := by rw [hs]; simp [hx0]
        have hR : R = 0 := by rw [es] at hneg; simp at hneg; omega
        by_cases hy1 : y < 0
        · have et : t = true := by rw [ht]; simp [hy1]
          obtain ⟨e1, e2⟩ := D4 hx0 hR hy1
          rw [e1, e2, es, et, hR]; simp
        · have et : t = false := by rw [ht]; simp [hy1]
          obtain ⟨e1, e2⟩ := D3 hx0 hR (by omega)
          rw [e1, e2, es, et, hR]; simp
      · have es : s = false := by rw [hs]; simp [hx0]
        by_cases hy1 : y < 0
        · have et : t = true := by rw [ht]; simp [hy1]
          obtain ⟨e1, e2⟩ := D2 (by omega) hy1
          rw [e1, e2, es, et]; simp
        · have et : t = false := by rw [ht]; simp [hy1]
          obtain ⟨e1, e2⟩ := D1 (by omega) (by omega)
          rw [e1, e2, es, et]; simp
    rw [hres.1] at NU3
    rw [hres.2] at NV3
    have F := div_alloc (div_done HB3' (num_more NU3 (Nat.add_le_add_left (by decide) k)) (num_more NV3 (Nat.add_le_add_left (by decide) k)) C3 D3) (.cells #[.bool false, .slice o3 n3 c3] 66)
    clear hres hneg DS NU NV NU3 NV3 C3 D3 HB3' A B C D U V HB4
    go_wp2
    go_region
    all_goals go_wp2
    all_goals refine bodyPost_ret (v := .tuple #[.agg #[.bool s2, .slice o2 n2 c2], .agg #[.bool false, .slice o3 n3 c3]]) (by simp [results, Try.results130, go_sem, World.cell?_alloc_past, c0, c1, d0, d1, cl, dl]) rfl ?_
    all_goals exact div_drawn F
end Go.Proofs.Ytnnojeggjnddpaa

/- Fractions: the model's word on whether one is right, and the law over both. -/
namespace Go.Proofs.Ytnnojeggjnddpaa
open Go.RowKit
end Go.Proofs.Ytnnojeggjnddpaa

/- Fractions in their order: the program's and the model's answer, and the law over both. -/
namespace Go.Proofs.Ytnnojeggjnddpaa
open Go.RowKit
end Go.Proofs.Ytnnojeggjnddpaa

/- The walk of a fraction in its lowest terms. -/
namespace Go.Proofs.Ytnnojeggjnddpaa
open Go.RowKit
end Go.Proofs.Ytnnojeggjnddpaa

/- Two numbers of digits laid behind the arguments; the model's tell of a number, its value known. -/
namespace Go.Proofs.Ytnnojeggjnddpaa
open Go.RowKit
theorem IsNum.step {w w' : World} {s : Bool} {ao : Option Addr} {n cap : Nat} {ds : List Int} {z : Int} {k : Nat} (h : IsNum w s ao n cap ds z k) (hb : Below w.heap.size w w') : IsNum w' s ao n cap ds z k := h.below hb
theorem IsNum.alloc {w : World} {s : Bool} {ao : Option Addr} {n cap : Nat} {ds : List Int} {z : Int} {k : Nat} (h : IsNum w s ao n cap ds z k) (o : Obj) : IsNum (w.alloc o) s ao n cap ds z k := h.below ((Below.refl _ _).alloc (Nat.le_refl _) o)
theorem ArgsB.set2 {w W : World} {vss : List (List Value)} (h : ArgsB w W vss) {g : Nat} (hg : w.heap.size + vss.length ≤ g) (v0 v1 : Value) : ArgsB w ((W.setCell ⟨g, 0, none⟩ v0).setCell ⟨g, 1, none⟩ v1) vss := (h.set (by exact hg) _).set (by exact hg) _
theorem Blk.set2 {W : World} {vs : List Value} {v0 v1 : Value} {g g' : Nat} (G : Blk W g' vs) (hg : g' ≠ g) : Blk ((W.setCell ⟨g, 0, none⟩ v0).setCell ⟨g, 1, none⟩ v1) g' vs := (G.setO (by exact hg) _).setO (by exact hg) _
theorem Blk.stored2 {W : World} {g : Nat} {z0 z1 : Value} (G : Blk W g [z0, z1]) (v0 v1 : Value) : Blk ((W.setCell ⟨g, 0, none⟩ v0).setCell ⟨g, 1, none⟩ v1) g [v0, v1] := (G.setI 0 (by simp) v0).setI 1 (by simp) v1
end Go.Proofs.Ytnnojeggjnddpaa

/- The walk of the model's quotient and rest of two numbers of four words. -/
namespace Go.Proofs.Ytnnojeggjnddpaa
open Go.RowKit
end Go.Proofs.Ytnnojeggjnddpaa

/- The walk of the model's fraction in lowest terms. -/
namespace Go.Proofs.Ytnnojeggjnddpaa
open Go.RowKit
/-- Two numbers of digits in one answer. -/
def NumsP (k : Nat) (x y : Int) (w : World) (e : Ending) (w' : World) : Prop :=
  ∃ (s1 : Bool) (o1 : Option Addr) (n1 c1 : Nat) (d1 : List Int) (s2 : Bool) (o2 : Option Addr) (n2 c2 : Nat) (d2 : List Int), e = .returned (.agg #[.bool s1, .slice o1 n1 c1, .bool s2, .slice o2 n2 c2]) ∧ IsNum w' s1 o1 n1 c1 d1 x k ∧ IsNum w' s2 o2 n2 c2 d2 y k ∧ Below w.heap.size w w'
theorem NumsP.drew {k : Nat} {x y : Int} {w w' : World} {e : Ending} (h : NumsP k x y w e w') : NumsP k x y w e w'.drew := by
  obtain ⟨s1, o1, n1, c1, d1, s2, o2, n2, c2, d2, e, N1, N2, hB⟩ := h
  exact ⟨s1, o1, n1, c1, d1, s2, o2, n2, c2, d2, e, N1.drew, N2.drew, hB.drew⟩
/-- The two numbers as they lie in the arguments' places. -/
def CutM (w wx : World) (x y : Int) (k : Nat) : Prop :=
  ∃ (s1 : Bool) (o1 : Option Addr) (n1 c1 : Nat) (d1 : List Int) (s2 : Bool) (o2 : Option Addr) (n2 c2 : Nat) (d2 : List Int), ArgsB w wx [[.bool s1, .slice o1 n1 c1], [.bool s2, .slice o2 n2 c2], [.bool false, .slice none 0 0, .bool false, .slice none 0 0]] ∧ IsNum wx s1 o1 n1 c1 d1 x k ∧ IsNum wx s2 o2 n2 c2 d2 y k
theorem CutM.drew {w W : World} {x y : Int} {k : Nat} (h : CutM w W x y k) : CutM w W.drew x y k := by
  obtain ⟨s1, o1, n1, c1, d1, s2, o2, n2, c2, d2, A, N1, N2⟩ := h
  exact ⟨s1, o1, n1, c1, d1, s2, o2, n2, c2, d2, A.drew, N1.drew, N2.drew⟩
theorem mk_cells {s : Bool} {o : Option Addr} {n c : Nat} {W : World} {g : Nat} (G : Blk W g [.bool s, .slice o n c]) : (fun w' => w'.cell? ⟨g, 0, none⟩ = some (.bool s) ∧ w'.cell? ⟨g, 1, none⟩ = some (.slice o n c)) W := ⟨G.c 0 rfl, G.c 1 rfl⟩
end Go.Proofs.Ytnnojeggjnddpaa

/- Sums of numbers of eight words, and that words tell a number. -/
namespace Go.Proofs.Ytnnojeggjnddpaa
open Go.RowKit
theorem sl_inj {x0 x1 x2 x3 x4 x5 x6 x7 y0 y1 y2 y3 y4 y5 y6 y7 : Int} (wx : Words [x0, x1, x2, x3, x4, x5, x6, x7]) (wy : Words [y0, y1, y2, y3, y4, y5, y6, y7]) (h : sl x0 x1 x2 x3 x4 x5 x6 x7 = sl y0 y1 y2 y3 y4 y5 y6 y7) : [x0, x1, x2, x3, x4, x5, x6, x7] = [y0, y1, y2, y3, y4, y5, y6, y7] := by
  refine val64_inj wx wy rfl ?_
  obtain ⟨u1, u2, u3⟩ := sl_top wx
  obtain ⟨v1, v2, v3⟩ := sl_top wy
  revert h
  unfold sl
  split <;> split <;> intro h <;> omega
end Go.Proofs.Ytnnojeggjnddpaa

/- A spot as a point: the walks of the model's numbers. -/
namespace Go.Proofs.Ytnnojeggjnddpaa
open Go.RowKit
theorem toWp_det (s : Bool) (ao : Option Addr) (n cap : Nat) (ds : List Int) (z : Int) (k : Nat) (w : World) (h : IsNum w s ao n cap ds z k) (hk : k ≤ 1000000) (ht : told z = true) :
    Calls Try.prog 48 #[.agg #[.bool s, .slice ao n cap]] w (VP (.tuple #[W4 z, .bool true]) w) := by
  refine (toW_any s ao n cap ds z k w h hk).mono ?_
  rintro e w' ⟨hB, ⟨_, a3, a2, a1, a0, rfl, g3, g2, g1, g0, hs⟩ | ⟨hf, _⟩⟩
  · obtain ⟨rfl, rfl, rfl, rfl⟩ := wd_of g3 g2 g1 g0 hs
    exact ⟨rfl, hB⟩
  · rw [ht] at hf; cases hf
/-- Three numbers, side by side. -/
def L3P (k : Nat) (x y z : Int) (w : World) (e : Ending) (w' : World) : Prop :=
  ∃ (s1 : Bool) (o1 : Option Addr) (n1 c1 : Nat) (d1 : List Int) (s2 : Bool) (o2 : Option Addr) (n2 c2 : Nat) (d2 : List Int) (s3 : Bool) (o3 : Option Addr) (n3 c3 : Nat) (d3 : List Int), e = .returned (.agg #[.bool s1, .slice o1 n1 c1, .bool s2, .slice o2 n2 c2, .bool s3, .slice o3 n3 c3]) ∧ IsNum w' s1 o1 n1 c1 d1 x k ∧ IsNum w' s2 o2 n2 c2 d2 y k ∧ IsNum w' s3 o3 n3 c3 d3 z k ∧ Below w.heap.size w w'
theorem IsNum.setp {w : World} {s : Bool} {ao : Option Addr} {n cap : Nat} {ds : List Int} {z : Int} {k : Nat} (h : IsNum w s ao n cap ds z k) {p : Addr} {v : Value} (u : Value) (hp : w.cell? p = some v) (hv : ∀ x, v ≠ .int .u32 x) : IsNum (w.setCell p u) s ao n cap ds z k :=
  h.set hp hv u
theorem num_set6 {w : World} {s : Bool} {ao : Option Addr} {n cap : Nat} {ds : List Int} {z : Int} {k R : Nat} (h : IsNum w s ao n cap ds z k) (B : Blk w R [.bool false, .slice none 0 0, .bool false, .slice none 0 0, .bool false, .slice none 0 0]) (v0 v1 v2 v3 v4 v5 : Value) : IsNum ((((((w.setCell ⟨R, 0, none⟩ v0).setCell ⟨R, 1, none⟩ v1).setCell ⟨R, 2, none⟩ v2).setCell ⟨R, 3, none⟩ v3).setCell ⟨R, 4, none⟩ v4).setCell ⟨R, 5, none⟩ v5) s ao n cap ds z k := by
  have h1 := h.setp v0 (B.c 0 rfl) (by intro x e; cases e)
  have B1 := B.setI 0 (by simp) v0
  have h2 := h1.setp v1 (B1.c 1 rfl) (by intro x e; cases e)
  have B2 := B1.setI 1 (by simp) v1
  have h3 := h2.setp v2 (B2.c 2 rfl) (by intro x e; cases e)
  have B3 := B2.setI 2 (by simp) v2
  have h4 := h3.setp v3 (B3.c 3 rfl) (by intro x e; cases e)
  have B4 := B3.setI 3 (by simp) v3
  have h5 := h4.setp v4 (B4.c 4 rfl) (by intro x e; cases e)
  have B5 := B4.setI 4 (by simp) v4
  have h6 := h5.setp v5 (B5.c 5 rfl) (by intro x e; cases e)
  have B6 := B5.setI 5 (by simp) v5
  exact h6
theorem l3_cells {x y : Int} {w W : World} (h : ArgsB w W [[.int .i64 x, .int .i64 y], [.bool false, .slice none 0 0, .bool false, .slice none 0 0, .bool false, .slice none 0 0]]) : (fun w' => w'.cell? ⟨w.heap.size, 0, none⟩ = some (.int .i64 x) ∧ w'.cell? ⟨w.heap.size, 1, none⟩ = some (.int .i64 y)) W := ⟨(h.b 0 rfl).c 0 rfl, (h.b 0 rfl).c 1 rfl⟩
theorem l3_cells6 {x y : Int} {w W : World} {v0 v1 v2 v3 v4 v5 : Value} (h : ArgsB w W [[.int .i64 x, .int .i64 y], [.bool false, .slice none 0 0, .bool false, .slice none 0 0, .bool false, .slice none 0 0]]) : (fun w' => w'.cell? ⟨w.heap.size, 0, none⟩ = some (.int .i64 x) ∧ w'.cell? ⟨w.heap.size, 1, none⟩ = some (.int .i64 y)) ((((((W.setCell ⟨w.heap.size + 1, 0, none⟩ v0).setCell ⟨w.heap.size + 1, 1, none⟩ v1).setCell ⟨w.heap.size + 1, 2, none⟩ v2).setCell ⟨w.heap.size + 1, 3, none⟩ v3).setCell ⟨w.heap.size + 1, 4, none⟩ v4).setCell ⟨w.heap.size + 1, 5, none⟩ v5) := by
  have a : Blk _ (w.heap.size + 0) _ := (((((((h.b 0 rfl).setO (p := ⟨w.heap.size + 1, 0, none⟩) (by show w.heap.size + 0 ≠ w.heap.size + 1; omega) v0).setO (p := ⟨w.heap.size + 1, 1, none⟩) (by show w.heap.size + 0 ≠ w.heap.size + 1; omega) v1).setO (p := ⟨w.heap.size + 1, 2, none⟩) (by show w.heap.size + 0 ≠ w.heap.size + 1; omega) v2).setO (p := ⟨w.heap.size + 1, 3, none⟩) (by show w.heap.size + 0 ≠ w.heap.size + 1; omega) v3).setO (p := ⟨w.heap.size + 1, 4, none⟩) (by show w.heap.size + 0 ≠ w.heap.size + 1; omega) v4).setO (p := ⟨w.heap.size + 1, 5, none⟩) (by show w.heap.size + 0 ≠ w.heap.size + 1; omega) v5)
  exact ⟨a.c 0 rfl, a.c 1 rfl⟩
theorem l3_start (x y : Int) (w : World) : ArgsB w ((w.alloc (.cells #[.int .i64 x, .int .i64 y] 141)).alloc (.cells #[.bool false, .slice none 0 0, .bool false, .slice none 0 0, .bool false, .slice none 0 0] 95)) [[.int .i64 x, .int .i64 y], [.bool false, .slice none 0 0, .bool false, .slice none 0 0, .bool false, .slice none 0 0]] := by
  refine ⟨((Below.refl _ _).alloc (Nat.le_refl _) _).alloc (by simp) _, fun j vs hj => ?_⟩
  match j, hj with
  | 0, hj => cases hj; exact (Blk.new w [.int .i64 x, .int .i64 y] 141 rfl).alloc _
  | 1, hj => cases hj; exact Blk.new (w.alloc (.cells #[.int .i64 x, .int .i64 y] 141)) [.bool false, .slice none 0 0, .bool false, .slice none 0 0, .bool false, .slice none 0 0] 95 (by simp)
  | j + 2, hj => simp at hj
set_option maxRecDepth 100000 in
set_option maxHeartbeats 2000000 in
theorem l3Spot_any (x y : Int) (hx0 : -9223372036854775808 ≤ x) (hx1 : x ≤ 9223372036854775807) (hy0 : -9223372036854775808 ≤ y) (hy1 : y ≤ 9223372036854775807) (w : World) :
    Calls Try.prog 121 #[.agg #[.int .i64 x, .int .i64 y]] w (L3P 2 x y 1 w) := by
  have T0 := l3_start x y w
  have tok1 : True := trivial
  have tok2 : True := trivial
  go_enter Try.func121, Try.ntmps121
  go_upto_region 1 with fail
  generalize ((w.alloc (.cells #[.int .i64 x, .int .i64 y] 141)).alloc (.cells #[.bool false, .slice none 0 0, .bool false, .slice none 0 0, .bool false, .slice none 0 0] 95)) = W at *
  go_region_held3 (fun w' => w'.cell? ⟨w.heap.size, 0, none⟩ = some (.int .i64 x) ∧ w'.cell? ⟨w.heap.size, 1, none⟩ = some (.int .i64 y)) (first | (with_reducible exact l3_cells T0) | (with_reducible exact l3_cells T0.drew) | (with_reducible exact l3_cells6 T0))
    (first
      | (go_at_call 57; have _t := tok1; refine (int_any x _ hx0 hx1).mono ?_; rintro e w1 ⟨s1, o1, n1, c1, d1, rfl, N1, hB⟩; (first | (have T1 := T0.step hB) | (have T1 := T0.drew.step hB)); clear T0; have T0 := T1; clear T1; clear tok1 _t hB)
      | (go_at_call 57; have _t := tok2; refine (int_any y _ hy0 hy1).mono ?_; rintro e w2 ⟨s2, o2, n2, c2, d2, rfl, N2, hB⟩; replace N1 := N1.below hB; (first | (have T1 := T0.step hB) | (have T1 := T0.drew.step hB)); clear T0; have T0 := T1; clear T1; clear tok2 _t hB)
      | (go_at_call 57; refine (int_any 1 _ (by decide) (by decide)).mono ?_; rintro e w3 ⟨s3, o3, n3, c3, d3, rfl, N3, hB⟩; replace N1 := N1.below hB; replace N2 := N2.below hB; (first | (have T1 := T0.step hB) | (have T1 := T0.drew.step hB)); clear T0; have T0 := T1; clear T1; have r0 := (T0.b 1 rfl).c 0 rfl; have f0 := (T0.b 1 rfl).f 0 rfl; have r1 := (T0.b 1 rfl).c 1 rfl; have f1 := (T0.b 1 rfl).f 1 rfl; have r2 := (T0.b 1 rfl).c 2 rfl; have f2 := (T0.b 1 rfl).f 2 rfl; have r3 := (T0.b 1 rfl).c 3 rfl; have f3 := (T0.b 1 rfl).f 3 rfl; have r4 := (T0.b 1 rfl).c 4 rfl; have f4 := (T0.b 1 rfl).f 4 rfl; have r5 := (T0.b 1 rfl).c 5 rfl; have f5 := (T0.b 1 rfl).f 5 rfl; have rlt := (T0.b 1 rfl).lt; clear hB))
  all_goals have HB := T0.below
  all_goals have M1 := num_set6 N1 (T0.b 1 rfl) (.bool s1) (.slice o1 n1 c1) (.bool s2) (.slice o2 n2 c2) (.bool s3) (.slice o3 n3 c3)
  all_goals have M2 := num_set6 N2 (T0.b 1 rfl) (.bool s1) (.slice o1 n1 c1) (.bool s2) (.slice o2 n2 c2) (.bool s3) (.slice o3 n3 c3)
  all_goals have M3 := num_set6 N3 (T0.b 1 rfl) (.bool s1) (.slice o1 n1 c1) (.bool s2) (.slice o2 n2 c2) (.bool s3) (.slice o3 n3 c3)
  all_goals clear T0 N1 N2 N3
  all_goals go_wp2
  all_goals refine bodyPost_ret (v := .agg #[.bool s1, .slice o1 n1 c1, .bool s2, .slice o2 n2 c2, .bool s3, .slice o3 n3 c3]) (by simp [results, Try.results121, go_sem, r0, r1, r2, r3, r4, r5]) rfl ?_
  all_goals refine ⟨s1, o1, n1, c1, d1, s2, o2, n2, c2, d2, s3, o3, n3, c3, d3, rfl, M1, M2, M3, ?_⟩
  all_goals repeat' (refine Below.setCell ?_ (by simp) _)
  all_goals exact HB
end Go.Proofs.Ytnnojeggjnddpaa

/- A spot as a point: the walks of the model's point of numbers. -/
namespace Go.Proofs.Ytnnojeggjnddpaa
open Go.RowKit
theorem ret_bool {a b : Bool} (h : b = a) : Ending.returned (.bool a) = .returned (.bool b) := by rw [h]
def small (z : Int) : Bool := decide ((z.natAbs : Int) < 1208925819614629174706176)
theorem bits_small {v : Int} {b : Nat} (h : BitsOf v b) : b ≤ 80 ↔ v < 1208925819614629174706176 := by
  obtain ⟨h0, h1, h2⟩ := h
  have e : (2 : Int) ^ 80 = 1208925819614629174706176 := by decide
  constructor
  · intro hb
    have := ipow2_mono hb
    omega
  · intro hv
    apply Decidable.byContradiction
    intro hb
    rcases h2 with h2 | h2
    · omega
    · have := ipow2_mono (show 80 ≤ b - 1 by omega)
      omega
set_option maxRecDepth 100000 in
set_option maxHeartbeats 2000000 in
theorem l3Small_any (s1 : Bool) (o1 : Option Addr) (n1 c1 : Nat) (d1 : List Int) (s2 : Bool) (o2 : Option Addr) (n2 c2 : Nat) (d2 : List Int) (s3 : Bool) (o3 : Option Addr) (n3 c3 : Nat) (d3 : List Int) (x y z : Int) (k : Nat) (hk : k ≤ 100000) (w : World) (N1 : IsNum w s1 o1 n1 c1 d1 x k) (N2 : IsNum w s2 o2 n2 c2 d2 y k) (N3 : IsNum w s3 o3 n3 c3 d3 z k) :
    Calls Try.prog 96 #[.agg #[.bool s1, .slice o1 n1 c1, .bool s2, .slice o2 n2 c2, .bool s3, .slice o3 n3 c3]] w (BoolP (small x && small y && small z) w) := by
  have B0 := Blk.new w [.bool s1, .slice o1 n1 c1, .bool s2, .slice o2 n2 c2, .bool s3, .slice o3 n3 c3] 95 rfl
  have HB0 : Below w.heap.size w (w.alloc (.cells #[.bool s1, .slice o1 n1 c1, .bool s2, .slice o2 n2 c2, .bool s3, .slice o3 n3 c3] 95)) := (Below.refl _ _).alloc (Nat.le_refl _) _
  replace N1 := N1.below HB0
  replace N2 := N2.below HB0
  replace N3 := N3.below HB0
  by_cases h1 : small x = true
  · by_cases h2 : small y = true
    · by_cases h3 : small z = true
      · go_enter Try.func96, Try.ntmps96
        go_wp2_with fail
        refine (bits_any o1 n1 c1 d1 _ N1.len N1.nrm N1.rd (by have := N1.le; omega)).mono ?_
        rintro e w1 ⟨b1, rfl, hb1, hB⟩
        rw [N1.val] at hb1
        have q1 : (b1 : Int) ≤ 80 := by have := bits_small hb1; have := h1; unfold small at this; simp at this ⊢; omega
        have HB1 : Below w.heap.size w w1 := HB0.trans (hB.mono HB0.size)
        replace B0 := B0.step hB
        replace N1 := N1.below hB
        replace N2 := N2.below hB
        replace N3 := N3.below hB
        clear hB hb1
        have e0 := B0.c 0 rfl; have e1 := B0.c 1 rfl; have e2 := B0.c 2 rfl; have e3 := B0.c 3 rfl; have e4 := B0.c 4 rfl; have e5 := B0.c 5 rfl; have elt := B0.lt
        go_wp2_with fail
        refine (bits_any o2 n2 c2 d2 _ N2.len N2.nrm N2.rd (by have := N2.le; omega)).mono ?_
        rintro e w2 ⟨b2, rfl, hb2, hB⟩
        rw [N2.val] at hb2
        have q2 : (b2 : Int) ≤ 80 := by have := bits_small hb2; have := h2; unfold small at this; simp at this ⊢; omega
        have HB2 : Below w.heap.size w w2 := HB1.trans (hB.mono HB1.size)
        replace B0 := B0.step hB
        replace N1 := N1.below hB
        replace N2 := N2.below hB
        replace N3 := N3.below hB
        clear e0 e1 e2 e3 e4 e5 elt
        clear hB hb2
        have e0 := B0.c 0 rfl; have e1 := B0.c 1 rfl; have e2 := B0.c 2 rfl; have e3 := B0.c 3 rfl; have e4 := B0.c 4 rfl; have e5 := B0.c 5 rfl; have elt := B0.lt
        go_wp2_with fail
        refine (bits_any o3 n3 c3 d3 _ N3.len N3.nrm N3.rd (by have := N3.le; omega)).mono ?_
        rintro e w3 ⟨b3, rfl, hb3, hB⟩
        rw [N3.val] at hb3
        have q3 : (b3 : Int) ≤ 80 := by have := bits_small hb3; have := h3; unfold small at this; simp at this ⊢; omega
        have HB3 : Below w.heap.size w w3 := HB2.trans (hB.mono HB2.size)
        clear e0 e1 e2 e3 e4 e5 elt
        clear hB hb3
        go_wp2
        go_ret
        exact ⟨ret_bool (by simp [h1, h2, h3]), HB3⟩
      · have h3 := Bool.eq_false_iff.2 h3
        go_enter Try.func96, Try.ntmps96
        go_wp2_with fail
        refine (bits_any o1 n1 c1 d1 _ N1.len N1.nrm N1.rd (by have := N1.le; omega)).mono ?_
        rintro e w1 ⟨b1, rfl, hb1, hB⟩
        rw [N1.val] at hb1
        have q1 : (b1 : Int) ≤ 80 := by have := bits_small hb1; have := h1; unfold small at this; simp at this ⊢; omega
        have HB1 : Below w.heap.size w w1 := HB0.trans (hB.mono HB0.size)
        replace B0 := B0.step hB
        replace N1 := N1.below hB
        replace N2 := N2.below hB
        replace N3 := N3.below hB
        clear hB hb1
        have e0 := B0.c 0 rfl; have e1 := B0.c 1 rfl; have e2 := B0.c 2 rfl; have e3 := B0.c 3 rfl; have e4 := B0.c 4 rfl; have e5 := B0.c 5 rfl; have elt := B0.lt
        go_wp2_with fail
        refine (bits_any o2 n2 c2 d2 _ N2.len N2.nrm N2.rd (by have := N2.le; omega)).mono ?_
        rintro e w2 ⟨b2, rfl, hb2, hB⟩
        rw [N2.val] at hb2
        have q2 : (b2 : Int) ≤ 80 := by have := bits_small hb2; have := h2; unfold small at this; simp at this ⊢; omega
        have HB2 : Below w.heap.size w w2 := HB1.trans (hB.mono HB1.size)
        replace B0 := B0.step hB
        replace N1 := N1.below hB
        replace N2 := N2.below hB
        replace N3 := N3.below hB
        clear e0 e1 e2 e3 e4 e5 elt
        clear hB hb2
        have e0 := B0.c 0 rfl; have e1 := B0.c 1 rfl; have e2 := B0.c 2 rfl; have e3 := B0.c 3 rfl; have e4 := B0.c 4 rfl; have e5 := B0.c 5 rfl; have elt := B0.lt
        go_wp2_with fail
        refine (bits_any o3 n3 c3 d3 _ N3.len N3.nrm N3.rd (by have := N3.le; omega)).mono ?_
        rintro e w3 ⟨b3, rfl, hb3, hB⟩
        rw [N3.val] at hb3
        have q3 : decide ((b3 : Int) ≤ 80) = false := by have := bits_small hb3; have := h3; unfold small at this; simp at this ⊢; omega
        have HB3 : Below w.heap.size w w3 := HB2.trans (hB.mono HB2.size)
        clear e0 e1 e2 e3 e4 e5 elt
        clear hB hb3
        go_wp2
        go_ret
        exact ⟨ret_bool (by simp [h1, h2, h3]; try (simp at q3; omega)), HB3⟩
    · have h2 := Bool.eq_false_iff.2 h2
      go_enter Try.func96, Try.ntmps96
      go_wp2_with fail
      refine (bits_any o1 n1 c1 d1 _ N1.len N1.nrm N1.rd (by have := N1.le; omega)).mono ?_
      rintro e w1 ⟨b1, rfl, hb1, hB⟩
      rw [N1.val] at hb1
      have q1 : (b1 : Int) ≤ 80 := by have := bits_small hb1; have := h1; unfold small at this; simp at this ⊢; omega
      have HB1 : Below w.heap.size w w1 := HB0.trans (hB.mono HB0.size)
      replace B0 := B0.step hB
      replace N1 := N1.below hB
      replace N2 := N2.below hB
      replace N3 := N3.below hB
      clear hB hb1
      have e0 := B0.c 0 rfl; have e1 := B0.c 1 rfl; have e2 := B0.c 2 rfl; have e3 := B0.c 3 rfl; have e4 := B0.c 4 rfl; have e5 := B0.c 5 rfl; have elt := B0.lt
      go_wp2_with fail
      refine (bits_any o2 n2 c2 d2 _ N2.len N2.nrm N2.rd (by have := N2.le; omega)).mono ?_
      rintro e w2 ⟨b2, rfl, hb2, hB⟩
      rw [N2.val] at hb2
      have q2 : decide ((b2 : Int) ≤ 80) = false := by have := bits_small hb2; have := h2; unfold small at this; simp at this ⊢; omega
      have HB2 : Below w.heap.size w w2 := HB1.trans (hB.mono HB1.size)
      clear e0 e1 e2 e3 e4 e5 elt
      clear hB hb2
      go_wp2
      go_ret
      exact ⟨ret_bool (by simp [h1, h2]; try (simp at q2; omega)), HB2⟩
  · have h1 := Bool.eq_false_iff.2 h1
    go_enter Try.func96, Try.ntmps96
    go_wp2_with fail
    refine (bits_any o1 n1 c1 d1 _ N1.len N1.nrm N1.rd (by have := N1.le; omega)).mono ?_
    rintro e w1 ⟨b1, rfl, hb1, hB⟩
    rw [N1.val] at hb1
    have q1 : decide ((b1 : Int) ≤ 80) = false := by have := bits_small hb1; have := h1; unfold small at this; simp at this ⊢; omega
    have HB1 : Below w.heap.size w w1 := HB0.trans (hB.mono HB0.size)
    clear hB hb1
    go_wp2
    go_ret
    exact ⟨ret_bool (by simp [h1]; try (simp at q1; omega)), HB1⟩
end Go.Proofs.Ytnnojeggjnddpaa

/- Numbers by their own words: what is answered is known ahead. -/
namespace Go.Proofs.Ytnnojeggjnddpaa
open Go.RowKit
def lw0 (z : Int) : Int := z % 18446744073709551616
def lw1 (z : Int) : Int := z / 18446744073709551616 % 18446744073709551616
def lw2 (z : Int) : Int := z / 18446744073709551616 / 18446744073709551616 % 18446744073709551616
def lw3 (z : Int) : Int := z / 18446744073709551616 / 18446744073709551616 / 18446744073709551616 % 18446744073709551616
def lw4 (z : Int) : Int := z / 18446744073709551616 / 18446744073709551616 / 18446744073709551616 / 18446744073709551616 % 18446744073709551616
def lw5 (z : Int) : Int := z / 18446744073709551616 / 18446744073709551616 / 18446744073709551616 / 18446744073709551616 / 18446744073709551616 % 18446744073709551616
def lw6 (z : Int) : Int := z / 18446744073709551616 / 18446744073709551616 / 18446744073709551616 / 18446744073709551616 / 18446744073709551616 / 18446744073709551616 % 18446744073709551616
def lw7 (z : Int) : Int := z / 18446744073709551616 / 18446744073709551616 / 18446744073709551616 / 18446744073709551616 / 18446744073709551616 / 18446744073709551616 / 18446744073709551616 % 18446744073709551616
abbrev LV (z : Int) : Value := L8 (lw0 z) (lw1 z) (lw2 z) (lw3 z) (lw4 z) (lw5 z) (lw6 z) (lw7 z)
/-- A number of 512 bits. -/
def LR (z : Int) : Prop := -6703903964971298549787012499102923063739682910296196688861780721860882015036773488400937149083451713845015929093243025426876941405973284973216824503042048 ≤ z ∧ z < 6703903964971298549787012499102923063739682910296196688861780721860882015036773488400937149083451713845015929093243025426876941405973284973216824503042048
theorem lw_words (z : Int) : Words [lw0 z, lw1 z, lw2 z, lw3 z, lw4 z, lw5 z, lw6 z, lw7 z] := by
  have h : ∀ x : Int, Word (x % 18446744073709551616) := fun x => ⟨Int.emod_nonneg _ (by decide), Int.emod_lt_of_pos _ (by decide)⟩
  exact words_cons.2 ⟨h _, words_cons.2 ⟨h _, words_cons.2 ⟨h _, words_cons.2 ⟨h _, words_cons.2 ⟨h _, words_cons.2 ⟨h _, words_cons.2 ⟨h _, words_cons.2 ⟨h _, words_nil⟩⟩⟩⟩⟩⟩⟩⟩
theorem lw_sl {z : Int} (h : LR z) : sl (lw0 z) (lw1 z) (lw2 z) (lw3 z) (lw4 z) (lw5 z) (lw6 z) (lw7 z) = z := by
  unfold LR at h
  unfold sl
  simp only [val64]
  unfold lw0 lw1 lw2 lw3 lw4 lw5 lw6 lw7
  have e0 : z = 18446744073709551616 * (z / 18446744073709551616) + z % 18446744073709551616 := by omega
  have k0 := Int.emod_nonneg z (show (18446744073709551616 : Int) ≠ 0 by decide)
  have l0 := Int.emod_lt_of_pos z (show (0 : Int) < 18446744073709551616 by decide)
  generalize z % 18446744073709551616 = r0 at *
  generalize z / 18446744073709551616 = z1 at *
  have e1 : z1 = 18446744073709551616 * (z1 / 18446744073709551616) + z1 % 18446744073709551616 := by omega
  have k1 := Int.emod_nonneg z1 (show (18446744073709551616 : Int) ≠ 0 by decide)
  have l1 := Int.emod_lt_of_pos z1 (show (0 : Int) < 18446744073709551616 by decide)
  generalize z1 % 18446744073709551616 = r1 at *
  generalize z1 / 18446744073709551616 = z2 at *
  have e2 : z2 = 18446744073709551616 * (z2 / 18446744073709551616) + z2 % 18446744073709551616 := by omega
  have k2 := Int.emod_nonneg z2 (show (18446744073709551616 : Int) ≠ 0 by decide)
  have l2 := Int.emod_lt_of_pos z2 (show (0 : Int) < 18446744073709551616 by decide)
  generalize z2 % 18446744073709551616 = r2 at *
  generalize z2 / 18446744073709551616 = z3 at *
  have e3 : z3 = 18446744073709551616 * (z3 / 18446744073709551616) + z3 % 18446744073709551616 := by omega
  have k3 := Int.emod_nonneg z3 (show (18446744073709551616 : Int) ≠ 0 by decide)
  have l3 := Int.emod_lt_of_pos z3 (show (0 : Int) < 18446744073709551616 by decide)
  generalize z3 % 18446744073709551616 = r3 at *
  generalize z3 / 18446744073709551616 = z4 at *
  have e4 : z4 = 18446744073709551616 * (z4 / 18446744073709551616) + z4 % 18446744073709551616 := by omega
  have k4 := Int.emod_nonneg z4 (show (18446744073709551616 : Int) ≠ 0 by decide)
  have l4 := Int.emod_lt_of_pos z4 (show (0 : Int) < 18446744073709551616 by decide)
  generalize z4 % 18446744073709551616 = r4 at *
  generalize z4 / 18446744073709551616 = z5 at *
  have e5 : z5 = 18446744073709551616 * (z5 / 18446744073709551616) + z5 % 18446744073709551616 := by omega
  have k5 := Int.emod_nonneg z5 (show (18446744073709551616 : Int) ≠ 0 by decide)
  have l5 := Int.emod_lt_of_pos z5 (show (0 : Int) < 18446744073709551616 by decide)
  generalize z5 % 18446744073709551616 = r5 at *
  generalize z5 / 18446744073709551616 = z6 at *
  have e6 : z6 = 18446744073709551616 * (z6 / 18446744073709551616) + z6 % 18446744073709551616 := by omega
  have k6 := Int.emod_nonneg z6 (show (18446744073709551616 : Int) ≠ 0 by decide)
  have l6 := Int.emod_lt_of_pos z6 (show (0 : Int) < 18446744073709551616 by decide)
  generalize z6 % 18446744073709551616 = r6 at *
  generalize z6 / 18446744073709551616 = z7 at *
  have e7 : z7 = 18446744073709551616 * (z7 / 18446744073709551616) + z7 % 18446744073709551616 := by omega
  have k7 := Int.emod_nonneg z7 (show (18446744073709551616 : Int) ≠ 0 by decide)
  have l7 := Int.emod_lt_of_pos z7 (show (0 : Int) < 18446744073709551616 by decide)
  generalize z7 % 18446744073709551616 = r7 at *
  generalize z7 / 18446744073709551616 = z8 at *
  split <;> omega
theorem sl_lr {z0 z1 z2 z3 z4 z5 z6 z7 : Int} (wz : Words [z0, z1, z2, z3, z4, z5, z6, z7]) : LR (sl z0 z1 z2 z3 z4 z5 z6 z7) := by
  obtain ⟨u1, u2, u3⟩ := sl_top wz
  unfold LR sl
  split <;> omega
theorem lv_of {z0 z1 z2 z3 z4 z5 z6 z7 z : Int} (wz : Words [z0, z1, z2, z3, z4, z5, z6, z7]) (h : sl z0 z1 z2 z3 z4 z5 z6 z7 = z) : L8 z0 z1 z2 z3 z4 z5 z6 z7 = LV z := by
  subst h
  have e := sl_inj wz (lw_words _) (lw_sl (sl_lr wz)).symm
  simp only [List.cons.injEq] at e
  obtain ⟨e0, e1, e2, e3, e4, e5, e6, e7, -⟩ := e
  unfold LV
  rw [← e0, ← e1, ← e2, ← e3, ← e4, ← e5, ← e6, ← e7]
theorem aggP_lv {z : Int} (hz : z < 6703903964971298549787012499102923063739682910296196688861780721860882015036773488400937149083451713845015929093243025426876941405973284973216824503042048) {w w' : World} {e : Ending} (h : AggP 8 z w e w') : VP (LV z) w e w' := by
  obtain ⟨zs, rfl, hl, hw, hv, hB⟩ := h
  obtain ⟨z0, z1, z2, z3, z4, z5, z6, z7, rfl⟩ := list8' hl
  exact ⟨congrArg Ending.returned (lv_of hw ((sl_of_val hw (by omega)).trans hv)), hB⟩
theorem ww_words (z : Int) : Word (ww3 z) ∧ Word (ww2 z) ∧ Word (ww1 z) ∧ Word (ww0 z) := by
  have h : ∀ x : Int, Word (x % 18446744073709551616) := fun x => ⟨Int.emod_nonneg _ (by decide), Int.emod_lt_of_pos _ (by decide)⟩
  exact ⟨h _, h _, h _, h _⟩
theorem ww_sw {z : Int} (h : told z = true) : sw (ww3 z) (ww2 z) (ww1 z) (ww0 z) = z := by
  unfold told at h
  rw [decide_eq_true_iff] at h
  unfold sw uw ww3 ww2 ww1 ww0
  split <;> omega
theorem lw_val {z : Int} (h0 : 0 ≤ z) (h : z < 6703903964971298549787012499102923063739682910296196688861780721860882015036773488400937149083451713845015929093243025426876941405973284973216824503042048) : val64 [lw0 z, lw1 z, lw2 z, lw3 z, lw4 z, lw5 z, lw6 z, lw7 z] = z := by
  have e := lw_sl (z := z) ⟨by omega, h⟩
  obtain ⟨u1, u2, u3⟩ := sl_top (lw_words z)
  unfold sl at e
  split at e <;> omega
theorem sign_det (x : Int) (hx : told x = true) (w : World) : Calls Try.prog 34 #[W4 x] w (VP (.int .i64 (cmpI x 0)) w) := by
  obtain ⟨p3, p2, p1, p0⟩ := ww_words x
  have h := implSign_any (ww3 x) (ww2 x) (ww1 x) (ww0 x) p3 p2 p1 p0 w
  rw [ww_sw hx] at h
  exact h
theorem bitsW_det (x : Int) (hx : told x = true) (w : World) : Calls Try.prog 35 #[W4 x] w (BitsP (x.natAbs : Int) w) := by
  obtain ⟨p3, p2, p1, p0⟩ := ww_words x
  have h := implBits_any (ww3 x) (ww2 x) (ww1 x) (ww0 x) p3 p2 p1 p0 w
  rw [ww_sw hx] at h
  exact h
theorem told_lr {x : Int} (h : told x = true) : LR x := by
  unfold told at h
  rw [decide_eq_true_iff] at h
  unfold LR
  omega
theorem longOf_det (x : Int) (hx : told x = true) (w : World) : Calls Try.prog 89 #[W4 x] w (VP (LV x) w) := by
  obtain ⟨p3, p2, p1, p0⟩ := ww_words x
  have h := longOf_any (ww3 x) (ww2 x) (ww1 x) (ww0 x) p3 w
  refine h.mono ?_
  rintro e w' ⟨rfl, hB⟩
  exact ⟨congrArg Ending.returned (lv_of (words_fill p3 p2 p1 p0) ((sl_fill _ _ _ _).trans (ww_sw hx))), hB⟩
theorem size_det (x : Int) (hx : LR x) (hx' : (x.natAbs : Int) < 6703903964971298549787012499102923063739682910296196688861780721860882015036773488400937149083451713845015929093243025426876941405973284973216824503042048) (w : World) : Calls Try.prog 115 #[LV x] w (VP (LV (x.natAbs : Int)) w) := by
  have h := sizeL_any (lw0 x) (lw1 x) (lw2 x) (lw3 x) (lw4 x) (lw5 x) (lw6 x) (lw7 x) (lw_words x) w
  rw [lw_sl hx] at h
  exact h.mono fun e w' h => aggP_lv hx' h
theorem gcd_det (x y : Int) (hx : 0 ≤ x ∧ x < 6703903964971298549787012499102923063739682910296196688861780721860882015036773488400937149083451713845015929093243025426876941405973284973216824503042048) (hy : 0 ≤ y ∧ y < 6703903964971298549787012499102923063739682910296196688861780721860882015036773488400937149083451713845015929093243025426876941405973284973216824503042048) (hg : ((Int.gcd x y : Nat) : Int) < 6703903964971298549787012499102923063739682910296196688861780721860882015036773488400937149083451713845015929093243025426876941405973284973216824503042048) (w : World) : Calls Try.prog 114 #[LV x, LV y] w (VP (LV (Int.gcd x y : Int)) w) := by
  have h := gcdL_any [lw0 x, lw1 x, lw2 x, lw3 x, lw4 x, lw5 x, lw6 x, lw7 x] [lw0 y, lw1 y, lw2 y, lw3 y, lw4 y, lw5 y, lw6 y, lw7 y] rfl rfl (lw_words x) (lw_words y) w
  rw [lw_val hx.1 hx.2, lw_val hy.1 hy.2] at h
  exact h.mono fun e w' h => aggP_lv hg h
end Go.Proofs.Ytnnojeggjnddpaa

/- Points: the program's walks. -/
namespace Go.Proofs.Ytnnojeggjnddpaa
open Go.RowKit
theorem ar1 (a : List Value) (T : TypeId) (w : World) : ArgsB w (w.alloc (.cells a.toArray T)) [a] := by
  refine ⟨(Below.refl _ _).alloc (Nat.le_refl _) _, fun j vs hj => ?_⟩
  match j, hj with
  | 0, hj => cases hj; exact Blk.new w a T rfl
  | j + 1, hj => simp at hj
theorem ArgsB.more {w W : World} {vss : List (List Value)} (h : ArgsB w W vss) (hl : W.heap.size = w.heap.size + vss.length) (b : List Value) (T : TypeId) : ArgsB w (W.alloc (.cells b.toArray T)) (vss ++ [b]) := by
  refine ⟨(h.alloc _).below, fun j vs hj => ?_⟩
  rcases Nat.lt_trichotomy j vss.length with hlt | rfl | hgt
  · rw [List.getElem?_append_left hlt] at hj
    exact (h.b j hj).alloc _
  · simp at hj
    subst hj
    exact Blk.new W b T hl.symm
  · rw [List.getElem?_eq_none (by simp; omega)] at hj
    cases hj
theorem ArgsB.left {w W : World} {us vs : List (List Value)} (h : ArgsB w W (us ++ vs)) : ArgsB w W us := by
  refine ⟨h.below, fun j xs hj => h.b j ?_⟩
  rw [List.getElem?_append_left]
  · exact hj
  · rcases Nat.lt_or_ge j us.length with h | h
    · exact h
    · rw [List.getElem?_eq_none h] at hj; cases hj
theorem ar2 (a b : List Value) (T U : TypeId) (w : World) : ArgsB w ((w.alloc (.cells a.toArray T)).alloc (.cells b.toArray U)) [a, b] := (ar1 a T w).more (by simp) b U
theorem ar3 (a b c : List Value) (T U V : TypeId) (w : World) : ArgsB w (((w.alloc (.cells a.toArray T)).alloc (.cells b.toArray U)).alloc (.cells c.toArray V)) [a, b, c] := (ar2 a b T U w).more (by simp) c V
theorem ar4 (a b c d : List Value) (T U V X : TypeId) (w : World) : ArgsB w ((((w.alloc (.cells a.toArray T)).alloc (.cells b.toArray U)).alloc (.cells c.toArray V)).alloc (.cells d.toArray X)) [a, b, c, d] := (ar3 a b c T U V w).more (by simp) d X
theorem told_abs {z : Int} (h : told z = true) : (z.natAbs : Int) ≤ 57896044618658097711785492504343953926634992332820282019728792003956564819968 := by
  unfold told at h
  rw [decide_eq_true_iff] at h
  omega
theorem gcd_le (a b m : Nat) (ha : a ≤ m) (hb : b ≤ m) : Int.gcd (a : Int) (b : Int) ≤ m := by
  rw [Int.gcd_natCast_natCast]
  by_cases h : a = 0
  · subst h; simpa using hb
  · exact Nat.le_trans (Nat.le_of_dvd (by omega) (Nat.gcd_dvd_left _ _)) ha
set_option maxRecDepth 100000 in
set_option maxHeartbeats 2000000 in
theorem isPart_det (x : Int) (hx : told x = true) (w : World) : Calls Try.prog 97 #[W4 x] w (VP (.bool (small x)) w) := by
  have T0 : ArgsB w (w.alloc (.cells #[.int .u64 (ww3 x), .int .u64 (ww2 x), .int .u64 (ww1 x), .int .u64 (ww0 x)] 26)) [[.int .u64 (ww3 x), .int .u64 (ww2 x), .int .u64 (ww1 x), .int .u64 (ww0 x)]] := ar1 _ _ w
  have C := bitsW_det x hx
  clear hx
  go_enter Try.func97, Try.ntmps97
  go_wp2_with fail
  refine (C _).mono ?_
  rintro e w1 ⟨b, rfl, hb, hB⟩
  have HB := (T0.step hB).below
  have hs : Hid (small x = decide ((b : Int) ≤ 80)) := by
    show _ = _
    have := bits_small hb
    unfold small
    rw [Bool.eq_iff_iff, decide_eq_true_iff, decide_eq_true_iff]
    omega
  clear T0 hB hb C
  go_wp2
  go_ret
  exact ⟨by rw [hs.out]; simp, HB⟩
set_option maxRecDepth 100000 in
set_option maxHeartbeats 2000000 in
theorem eqLongOne (x0 x1 x2 x3 x4 x5 x6 x7 : Int) (w : World) : (Op.equalIn 10000 82 (L8 x0 x1 x2 x3 x4 x5 x6 x7) (L8 1 0 0 0 0 0 0 0)).run Try.prog w = .ok (x0 == 1 && x1 == 0 && x2 == 0 && x3 == 0 && x4 == 0 && x5 == 0 && x6 == 0 && x7 == 0) w := by
  have u3 := Try.underlying22
  have a3 := Try.isAgg22
  have z3 := Try.sizeOf22
  rw [show (10000 : Nat) = 9999 + 1 from rfl, Op.equalIn]
  simp only [Sem.run_bind, run_underlying Try.underlying82, Result.andThen_ok]
  simp only [Std.Legacy.Range.forIn_eq_forIn_range', Std.Legacy.Range.size, Nat.sub_zero, Nat.add_sub_cancel, Nat.div_one, List.range'_succ, List.range'_zero, List.forIn_cons, List.forIn_nil]
  go_simp
  by_cases h0 : x0 = 1
  · subst h0
    by_cases h1 : x1 = 0
    · subst h1
      by_cases h2 : x2 = 0
      · subst h2
        by_cases h3 : x3 = 0
        · subst h3
          by_cases h4 : x4 = 0
          · subst h4
            by_cases h5 : x5 = 0
            · subst h5
              by_cases h6 : x6 = 0
              · subst h6
                by_cases h7 : x7 = 0
                · subst h7
                  simp
                · simp [h7]
              · simp [h6]
            · simp [h5]
          · simp [h4]
        · simp [h3]
      · simp [h2]
    · simp [h1]
  · simp [h0]
theorem oneLV {z : Int} (h0 : LR z) : (lw0 z == 1 && lw1 z == 0 && lw2 z == 0 && lw3 z == 0 && lw4 z == 0 && lw5 z == 0 && lw6 z == 0 && lw7 z == 0) = decide (z = 1) := by
  rw [Bool.eq_iff_iff]
  simp only [Bool.and_eq_true, beq_iff_eq, decide_eq_true_eq]
  constructor
  · rintro ⟨⟨⟨⟨⟨⟨⟨e0, e1⟩, e2⟩, e3⟩, e4⟩, e5⟩, e6⟩, e7⟩
    have := lw_sl h0
    rw [e0, e1, e2, e3, e4, e5, e6, e7] at this
    rw [← this]; decide
  · rintro rfl
    decide
theorem eqLVOne (z : Int) (h0 : LR z) (w : World) : (Op.equalIn 10000 82 (LV z) (L8 1 0 0 0 0 0 0 0)).run Try.prog w = .ok (decide (z = 1)) w := by
  rw [← oneLV h0]
  exact eqLongOne _ _ _ _ _ _ _ _ w
end Go.Proofs.Ytnnojeggjnddpaa

/- Points: what three numbers have in common. -/
namespace Go.Proofs.Ytnnojeggjnddpaa
open Go.RowKit
theorem cut3_new {w X : World} {vss : List (List Value)} {rs zs : List Value} {T : TypeId} {g : Nat} (h : ArgsB w X vss) (hl : w.heap.size + vss.length ≤ X.heap.size) (R : Blk X g zs) : CutB w (X.alloc (.cells rs.toArray T)) vss rs (.pointer (some ⟨X.heap.size, 0, none⟩)) ∧ Blk (X.alloc (.cells rs.toArray T)) g zs ∧ (Value.pointer (some ⟨X.heap.size, 0, none⟩)) ≠ .pointer (some ⟨g, 0, none⟩) := by
  refine ⟨cutB_new h hl, R.alloc _, ?_⟩
  intro he
  have := R.lt
  simp at he <;> omega
theorem cut3_set8 {w X : World} {vss : List (List Value)} {zs : List Value} {v0 v1 v2 v3 v4 v5 v6 v7 z0 z1 z2 z3 z4 z5 z6 z7 : Value} {g g' : Nat} (h : ArgsB w X vss) (G : Blk X g [z0, z1, z2, z3, z4, z5, z6, z7]) (hg : w.heap.size + vss.length ≤ g) (R : Blk X g' zs) (hne : g' < g) : CutB w ((((((((X.setCell ⟨g, 0, none⟩ v0).setCell ⟨g, 1, none⟩ v1).setCell ⟨g, 2, none⟩ v2).setCell ⟨g, 3, none⟩ v3).setCell ⟨g, 4, none⟩ v4).setCell ⟨g, 5, none⟩ v5).setCell ⟨g, 6, none⟩ v6).setCell ⟨g, 7, none⟩ v7) vss [v0, v1, v2, v3, v4, v5, v6, v7] (.pointer (some ⟨g, 0, none⟩)) ∧ Blk ((((((((X.setCell ⟨g, 0, none⟩ v0).setCell ⟨g, 1, none⟩ v1).setCell ⟨g, 2, none⟩ v2).setCell ⟨g, 3, none⟩ v3).setCell ⟨g, 4, none⟩ v4).setCell ⟨g, 5, none⟩ v5).setCell ⟨g, 6, none⟩ v6).setCell ⟨g, 7, none⟩ v7) g' zs ∧ (Value.pointer (some ⟨g, 0, none⟩)) ≠ .pointer (some ⟨g', 0, none⟩) := by
  refine ⟨cutB_set8 h G hg, R.set8 (by omega), ?_⟩
  intro he
  simp at he <;> omega
theorem c3_cells {x y z : Int} {w W : World} (T0 : ArgsB w W [[.int .u64 (ww3 x), .int .u64 (ww2 x), .int .u64 (ww1 x), .int .u64 (ww0 x)], [.int .u64 (ww3 y), .int .u64 (ww2 y), .int .u64 (ww1 y), .int .u64 (ww0 y)], [.int .u64 (ww3 z), .int .u64 (ww2 z), .int .u64 (ww1 z), .int .u64 (ww0 z)]]) : (fun w' => w'.cell? ⟨w.heap.size, 0, none⟩ = some (.int .u64 (ww3 x)) ∧ w'.cell? ⟨w.heap.size, 1, none⟩ = some (.int .u64 (ww2 x)) ∧ w'.cell? ⟨w.heap.size, 2, none⟩ = some (.int .u64 (ww1 x)) ∧ w'.cell? ⟨w.heap.size, 3, none⟩ = some (.int .u64 (ww0 x)) ∧ w'.cell? ⟨w.heap.size + 1, 0, none⟩ = some (.int .u64 (ww3 y)) ∧ w'.cell? ⟨w.heap.size + 1, 1, none⟩ = some (.int .u64 (ww2 y)) ∧ w'.cell? ⟨w.heap.size + 1, 2, none⟩ = some (.int .u64 (ww1 y)) ∧ w'.cell? ⟨w.heap.size + 1, 3, none⟩ = some (.int .u64 (ww0 y)) ∧ w'.cell? ⟨w.heap.size + 2, 0, none⟩ = some (.int .u64 (ww3 z)) ∧ w'.cell? ⟨w.heap.size + 2, 1, none⟩ = some (.int .u64 (ww2 z)) ∧ w'.cell? ⟨w.heap.size + 2, 2, none⟩ = some (.int .u64 (ww1 z)) ∧ w'.cell? ⟨w.heap.size + 2, 3, none⟩ = some (.int .u64 (ww0 z))) W := ⟨(T0.b 0 rfl).c 0 rfl, (T0.b 0 rfl).c 1 rfl, (T0.b 0 rfl).c 2 rfl, (T0.b 0 rfl).c 3 rfl, (T0.b 1 rfl).c 0 rfl, (T0.b 1 rfl).c 1 rfl, (T0.b 1 rfl).c 2 rfl, (T0.b 1 rfl).c 3 rfl, (T0.b 2 rfl).c 0 rfl, (T0.b 2 rfl).c 1 rfl, (T0.b 2 rfl).c 2 rfl, (T0.b 2 rfl).c 3 rfl⟩
theorem c3_cells2 {x y z g : Int} {w W : World} {gc : Nat} (T0 : ArgsB w W [[.int .u64 (ww3 x), .int .u64 (ww2 x), .int .u64 (ww1 x), .int .u64 (ww0 x)], [.int .u64 (ww3 y), .int .u64 (ww2 y), .int .u64 (ww1 y), .int .u64 (ww0 y)], [.int .u64 (ww3 z), .int .u64 (ww2 z), .int .u64 (ww1 z), .int .u64 (ww0 z)]]) (GC : Blk W gc [.int .u64 (lw0 g), .int .u64 (lw1 g), .int .u64 (lw2 g), .int .u64 (lw3 g), .int .u64 (lw4 g), .int .u64 (lw5 g), .int .u64 (lw6 g), .int .u64 (lw7 g)]) : (fun w' => w'.cell? ⟨w.heap.size + 1, 0, none⟩ = some (.int .u64 (ww3 y)) ∧ w'.cell? ⟨w.heap.size + 1, 1, none⟩ = some (.int .u64 (ww2 y)) ∧ w'.cell? ⟨w.heap.size + 1, 2, none⟩ = some (.int .u64 (ww1 y)) ∧ w'.cell? ⟨w.heap.size + 1, 3, none⟩ = some (.int .u64 (ww0 y)) ∧ w'.cell? ⟨gc, 0, none⟩ = some (.int .u64 (lw0 g)) ∧ w'.cell? ⟨gc, 1, none⟩ = some (.int .u64 (lw1 g)) ∧ w'.cell? ⟨gc, 2, none⟩ = some (.int .u64 (lw2 g)) ∧ w'.cell? ⟨gc, 3, none⟩ = some (.int .u64 (lw3 g)) ∧ w'.cell? ⟨gc, 4, none⟩ = some (.int .u64 (lw4 g)) ∧ w'.cell? ⟨gc, 5, none⟩ = some (.int .u64 (lw5 g)) ∧ w'.cell? ⟨gc, 6, none⟩ = some (.int .u64 (lw6 g)) ∧ w'.cell? ⟨gc, 7, none⟩ = some (.int .u64 (lw7 g))) W := ⟨(T0.b 1 rfl).c 0 rfl, (T0.b 1 rfl).c 1 rfl, (T0.b 1 rfl).c 2 rfl, (T0.b 1 rfl).c 3 rfl, GC.c 0 rfl, GC.c 1 rfl, GC.c 2 rfl, GC.c 3 rfl, GC.c 4 rfl, GC.c 5 rfl, GC.c 6 rfl, GC.c 7 rfl⟩
set_option maxRecDepth 100000 in
set_option maxHeartbeats 2000000 in
theorem common3_det (x y z : Int) (hx : told x = true) (hy : told y = true) (hz : told z = true) (w : World) : Calls Try.prog 98 #[W4 x, W4 y, W4 z] w (VP (LV (Int.gcd (y.natAbs : Int) (Int.gcd (x.natAbs : Int) (z.natAbs : Int) : Int) : Int)) w) := by
  have T5 : ArgsB w ((((w.alloc (.cells #[.int .u64 (ww3 x), .int .u64 (ww2 x), .int .u64 (ww1 x), .int .u64 (ww0 x)] 26)).alloc (.cells #[.int .u64 (ww3 y), .int .u64 (ww2 y), .int .u64 (ww1 y), .int .u64 (ww0 y)] 26)).alloc (.cells #[.int .u64 (ww3 z), .int .u64 (ww2 z), .int .u64 (ww1 z), .int .u64 (ww0 z)] 26)).alloc (.cells #[.int .u64 0, .int .u64 0, .int .u64 0, .int .u64 0, .int .u64 0, .int .u64 0, .int .u64 0, .int .u64 0] 82)) [[.int .u64 (ww3 x), .int .u64 (ww2 x), .int .u64 (ww1 x), .int .u64 (ww0 x)], [.int .u64 (ww3 y), .int .u64 (ww2 y), .int .u64 (ww1 y), .int .u64 (ww0 y)], [.int .u64 (ww3 z), .int .u64 (ww2 z), .int .u64 (ww1 z), .int .u64 (ww0 z)], [.int .u64 0, .int .u64 0, .int .u64 0, .int .u64 0, .int .u64 0, .int .u64 0, .int .u64 0, .int .u64 0]] := ar4 _ _ _ _ _ _ _ _ w
  have R0 := T5.b 3 rfl
  have T0 : ArgsB w _ [[.int .u64 (ww3 x), .int .u64 (ww2 x), .int .u64 (ww1 x), .int .u64 (ww0 x)], [.int .u64 (ww3 y), .int .u64 (ww2 y), .int .u64 (ww1 y), .int .u64 (ww0 y)], [.int .u64 (ww3 z), .int .u64 (ww2 z), .int .u64 (ww1 z), .int .u64 (ww0 z)]] := T5.left (vs := [[.int .u64 0, .int .u64 0, .int .u64 0, .int .u64 0, .int .u64 0, .int .u64 0, .int .u64 0, .int .u64 0]])
  clear T5
  have A1 := longOf_det x hx
  have A2 := longOf_det z hz
  have A3 := longOf_det y hy
  have tx := told_abs hx
  have ty := told_abs hy
  have tz := told_abs hz
  have B1 := size_det x (told_lr hx) (by omega)
  have B2 := size_det z (told_lr hz) (by omega)
  have B3 := size_det y (told_lr hy) (by omega)
  have gb := gcd_le x.natAbs z.natAbs 57896044618658097711785492504343953926634992332820282019728792003956564819968 (by omega) (by omega)
  have gb2 := gcd_le y.natAbs (Int.gcd (x.natAbs : Int) (z.natAbs : Int)) 57896044618658097711785492504343953926634992332820282019728792003956564819968 (by omega) (by omega)
  have C1 := gcd_det (x.natAbs : Int) (z.natAbs : Int) ⟨by omega, by omega⟩ ⟨by omega, by omega⟩ (by omega)
  have C2 := gcd_det (y.natAbs : Int) (Int.gcd (x.natAbs : Int) (z.natAbs : Int) : Int) ⟨by omega, by omega⟩ ⟨by omega, by omega⟩ (by omega)
  clear gb gb2 tx ty tz hx hy hz
  generalize ((Int.gcd (y.natAbs : Int) (Int.gcd (x.natAbs : Int) (z.natAbs : Int) : Int) : Nat) : Int) = q at *
  generalize ((Int.gcd (x.natAbs : Int) (z.natAbs : Int) : Nat) : Int) = g at *
  generalize (x.natAbs : Int) = ax at *
  generalize (y.natAbs : Int) = ay at *
  generalize (z.natAbs : Int) = az at *
  have tok1 : True := trivial
  have tok2 : True := trivial
  go_enter Try.func98, Try.ntmps98
  go_upto_region 1 with fail
  generalize ((((w.alloc (.cells #[.int .u64 (ww3 x), .int .u64 (ww2 x), .int .u64 (ww1 x), .int .u64 (ww0 x)] 26)).alloc (.cells #[.int .u64 (ww3 y), .int .u64 (ww2 y), .int .u64 (ww1 y), .int .u64 (ww0 y)] 26)).alloc (.cells #[.int .u64 (ww3 z), .int .u64 (ww2 z), .int .u64 (ww1 z), .int .u64 (ww0 z)] 26)).alloc (.cells #[.int .u64 0, .int .u64 0, .int .u64 0, .int .u64 0, .int .u64 0, .int .u64 0, .int .u64 0, .int .u64 0] 82)) = W at *
  have hlw := R0.lt
  have hlt := (T0.b 2 rfl).lt
  go_cut [7] (fun p wx => CutB w wx [[.int .u64 (ww3 x), .int .u64 (ww2 x), .int .u64 (ww1 x), .int .u64 (ww0 x)], [.int .u64 (ww3 y), .int .u64 (ww2 y), .int .u64 (ww1 y), .int .u64 (ww0 y)], [.int .u64 (ww3 z), .int .u64 (ww2 z), .int .u64 (ww1 z), .int .u64 (ww0 z)]] [.int .u64 (lw0 g), .int .u64 (lw1 g), .int .u64 (lw2 g), .int .u64 (lw3 g), .int .u64 (lw4 g), .int .u64 (lw5 g), .int .u64 (lw6 g), .int .u64 (lw7 g)] p ∧ Blk wx (w.heap.size + 3) [.int .u64 0, .int .u64 0, .int .u64 0, .int .u64 0, .int .u64 0, .int .u64 0, .int .u64 0, .int .u64 0] ∧ p ≠ .pointer (some ⟨w.heap.size + 3, 0, none⟩))
  case first =>
    go_region_held3 (fun w' => w'.cell? ⟨w.heap.size, 0, none⟩ = some (.int .u64 (ww3 x)) ∧ w'.cell? ⟨w.heap.size, 1, none⟩ = some (.int .u64 (ww2 x)) ∧ w'.cell? ⟨w.heap.size, 2, none⟩ = some (.int .u64 (ww1 x)) ∧ w'.cell? ⟨w.heap.size, 3, none⟩ = some (.int .u64 (ww0 x)) ∧ w'.cell? ⟨w.heap.size + 1, 0, none⟩ = some (.int .u64 (ww3 y)) ∧ w'.cell? ⟨w.heap.size + 1, 1, none⟩ = some (.int .u64 (ww2 y)) ∧ w'.cell? ⟨w.heap.size + 1, 2, none⟩ = some (.int .u64 (ww1 y)) ∧ w'.cell? ⟨w.heap.size + 1, 3, none⟩ = some (.int .u64 (ww0 y)) ∧ w'.cell? ⟨w.heap.size + 2, 0, none⟩ = some (.int .u64 (ww3 z)) ∧ w'.cell? ⟨w.heap.size + 2, 1, none⟩ = some (.int .u64 (ww2 z)) ∧ w'.cell? ⟨w.heap.size + 2, 2, none⟩ = some (.int .u64 (ww1 z)) ∧ w'.cell? ⟨w.heap.size + 2, 3, none⟩ = some (.int .u64 (ww0 z))) ((refine c3_cells ?_ <;> repeat (first | (with_reducible exact T0) | (with_reducible refine ArgsB.drew ?_) | (with_reducible refine ArgsB.alloc ?_ _) | (with_reducible refine ArgsB.set8g ?_ (by simp; omega) _ _ _ _ _ _ _ _))))
      (first
        | (go_at_call 89; have _t := tok1; refine (A1 _).mono ?_; rintro e w1 ⟨rfl, hB⟩; (first | (have T1 : ArgsB w w1 _ := (by with_reducible exact T0.step hB); have tltw1 := (T0.b 2 rfl).lt; have lR0w1 := R0.lt; replace R0 := R0.step hB; (try (replace G0 := G0.step hB; obtain ⟨j0c, j0f, j1c, j1f, j2c, j2f, j3c, j3f, j4c, j4f, j5c, j5f, j6c, j6f, j7c, j7f⟩ := G0.cf8; have jlt := G0.lt))) | (have T1 : ArgsB w w1 _ := (by with_reducible exact T0.drew.step hB); have tltw1 := (T0.b 2 rfl).lt; have lR0w1 := R0.lt; replace R0 := R0.drew.step hB; (try (replace G0 := G0.drew.step hB; obtain ⟨j0c, j0f, j1c, j1f, j2c, j2f, j3c, j3f, j4c, j4f, j5c, j5f, j6c, j6f, j7c, j7f⟩ := G0.cf8; have jlt := G0.lt))) | (have T1 : ArgsB w w1 _ := (by with_reducible exact (T0.alloc _).step hB); have tltw1 := (T0.b 2 rfl).lt; have lR0w1 := R0.lt; replace R0 := (R0.alloc _).step hB; (have G0 := (Blk.new _ [.int .u64 0, .int .u64 0, .int .u64 0, .int .u64 0, .int .u64 0, .int .u64 0, .int .u64 0, .int .u64 0] _ rfl).step hB; obtain ⟨j0c, j0f, j1c, j1f, j2c, j2f, j3c, j3f, j4c, j4f, j5c, j5f, j6c, j6f, j7c, j7f⟩ := G0.cf8; have jlt := G0.lt)) | (have T1 : ArgsB w w1 _ := (by with_reducible exact (T0.alloc _).drew.step hB); have tltw1 := (T0.b 2 rfl).lt; have lR0w1 := R0.lt; replace R0 := (R0.alloc _).drew.step hB; (have G0 := (Blk.new _ [.int .u64 0, .int .u64 0, .int .u64 0, .int .u64 0, .int .u64 0, .int .u64 0, .int .u64 0, .int .u64 0] _ rfl).drew.step hB; obtain ⟨j0c, j0f, j1c, j1f, j2c, j2f, j3c, j3f, j4c, j4f, j5c, j5f, j6c, j6f, j7c, j7f⟩ := G0.cf8; have jlt := G0.lt))); clear T0; have T0 := T1; clear T1; clear hB; clear tok1 _t)
        | (go_at_call 89; refine (A2 _).mono ?_; rintro e w2 ⟨rfl, hB⟩; (first | (have T1 : ArgsB w w2 _ := (by with_reducible exact T0.step hB); have tltw2 := (T0.b 2 rfl).lt; have lR0w2 := R0.lt; replace R0 := R0.step hB; (try (replace G0 := G0.step hB; obtain ⟨j0c, j0f, j1c, j1f, j2c, j2f, j3c, j3f, j4c, j4f, j5c, j5f, j6c, j6f, j7c, j7f⟩ := G0.cf8; have jlt := G0.lt))) | (have T1 : ArgsB w w2 _ := (by with_reducible exact T0.drew.step hB); have tltw2 := (T0.b 2 rfl).lt; have lR0w2 := R0.lt; replace R0 := R0.drew.step hB; (try (replace G0 := G0.drew.step hB; obtain ⟨j0c, j0f, j1c, j1f, j2c, j2f, j3c, j3f, j4c, j4f, j5c, j5f, j6c, j6f, j7c, j7f⟩ := G0.cf8; have jlt := G0.lt))) | (have T1 : ArgsB w w2 _ := (by with_reducible exact (T0.alloc _).step hB); have tltw2 := (T0.b 2 rfl).lt; have lR0w2 := R0.lt; replace R0 := (R0.alloc _).step hB; (have G0 := (Blk.new _ [.int .u64 0, .int .u64 0, .int .u64 0, .int .u64 0, .int .u64 0, .int .u64 0, .int .u64 0, .int .u64 0] _ rfl).step hB; obtain ⟨j0c, j0f, j1c, j1f, j2c, j2f, j3c, j3f, j4c, j4f, j5c, j5f, j6c, j6f, j7c, j7f⟩ := G0.cf8; have jlt := G0.lt)) | (have T1 : ArgsB w w2 _ := (by with_reducible exact (T0.alloc _).drew.step hB); have tltw2 := (T0.b 2 rfl).lt; have lR0w2 := R0.lt; replace R0 := (R0.alloc _).drew.step hB; (have G0 := (Blk.new _ [.int .u64 0, .int .u64 0, .int .u64 0, .int .u64 0, .int .u64 0, .int .u64 0, .int .u64 0, .int .u64 0] _ rfl).drew.step hB; obtain ⟨j0c, j0f, j1c, j1f, j2c, j2f, j3c, j3f, j4c, j4f, j5c, j5f, j6c, j6f, j7c, j7f⟩ := G0.cf8; have jlt := G0.lt))); clear T0; have T0 := T1; clear T1; clear hB)
        | (go_at_call 115; have _t := tok2; refine (B1 _).mono ?_; rintro e w3 ⟨rfl, hB⟩; (first | (have T1 : ArgsB w w3 _ := (by with_reducible exact T0.step hB); have tltw3 := (T0.b 2 rfl).lt; have lR0w3 := R0.lt; replace R0 := R0.step hB; (try (replace G0 := G0.step hB; obtain ⟨j0c, j0f, j1c, j1f, j2c, j2f, j3c, j3f, j4c, j4f, j5c, j5f, j6c, j6f, j7c, j7f⟩ := G0.cf8; have jlt := G0.lt))) | (have T1 : ArgsB w w3 _ := (by with_reducible exact T0.drew.step hB); have tltw3 := (T0.b 2 rfl).lt; have lR0w3 := R0.lt; replace R0 := R0.drew.step hB; (try (replace G0 := G0.drew.step hB; obtain ⟨j0c, j0f, j1c, j1f, j2c, j2f, j3c, j3f, j4c, j4f, j5c, j5f, j6c, j6f, j7c, j7f⟩ := G0.cf8; have jlt := G0.lt))) | (have T1 : ArgsB w w3 _ := (by with_reducible exact (T0.alloc _).step hB); have tltw3 := (T0.b 2 rfl).lt; have lR0w3 := R0.lt; replace R0 := (R0.alloc _).step hB; (have G0 := (Blk.new _ [.int .u64 0, .int .u64 0, .int .u64 0, .int .u64 0, .int .u64 0, .int .u64 0, .int .u64 0, .int .u64 0] _ rfl).step hB; obtain ⟨j0c, j0f, j1c, j1f, j2c, j2f, j3c, j3f, j4c, j4f, j5c, j5f, j6c, j6f, j7c, j7f⟩ := G0.cf8; have jlt := G0.lt)) | (have T1 : ArgsB w w3 _ := (by with_reducible exact (T0.alloc _).drew.step hB); have tltw3 := (T0.b 2 rfl).lt; have lR0w3 := R0.lt; replace R0 := (R0.alloc _).drew.step hB; (have G0 := (Blk.new _ [.int .u64 0, .int .u64 0, .int .u64 0, .int .u64 0, .int .u64 0, .int .u64 0, .int .u64 0, .int .u64 0] _ rfl).drew.step hB; obtain ⟨j0c, j0f, j1c, j1f, j2c, j2f, j3c, j3f, j4c, j4f, j5c, j5f, j6c, j6f, j7c, j7f⟩ := G0.cf8; have jlt := G0.lt))); clear T0; have T0 := T1; clear T1; clear hB; clear tok2 _t)
        | (go_at_call 115; refine (B2 _).mono ?_; rintro e w4 ⟨rfl, hB⟩; (first | (have T1 : ArgsB w w4 _ := (by with_reducible exact T0.step hB); have tltw4 := (T0.b 2 rfl).lt; have lR0w4 := R0.lt; replace R0 := R0.step hB; (try (replace G0 := G0.step hB; obtain ⟨j0c, j0f, j1c, j1f, j2c, j2f, j3c, j3f, j4c, j4f, j5c, j5f, j6c, j6f, j7c, j7f⟩ := G0.cf8; have jlt := G0.lt))) | (have T1 : ArgsB w w4 _ := (by with_reducible exact T0.drew.step hB); have tltw4 := (T0.b 2 rfl).lt; have lR0w4 := R0.lt; replace R0 := R0.drew.step hB; (try (replace G0 := G0.drew.step hB; obtain ⟨j0c, j0f, j1c, j1f, j2c, j2f, j3c, j3f, j4c, j4f, j5c, j5f, j6c, j6f, j7c, j7f⟩ := G0.cf8; have jlt := G0.lt))) | (have T1 : ArgsB w w4 _ := (by with_reducible exact (T0.alloc _).step hB); have tltw4 := (T0.b 2 rfl).lt; have lR0w4 := R0.lt; replace R0 := (R0.alloc _).step hB; (have G0 := (Blk.new _ [.int .u64 0, .int .u64 0, .int .u64 0, .int .u64 0, .int .u64 0, .int .u64 0, .int .u64 0, .int .u64 0] _ rfl).step hB; obtain ⟨j0c, j0f, j1c, j1f, j2c, j2f, j3c, j3f, j4c, j4f, j5c, j5f, j6c, j6f, j7c, j7f⟩ := G0.cf8; have jlt := G0.lt)) | (have T1 : ArgsB w w4 _ := (by with_reducible exact (T0.alloc _).drew.step hB); have tltw4 := (T0.b 2 rfl).lt; have lR0w4 := R0.lt; replace R0 := (R0.alloc _).drew.step hB; (have G0 := (Blk.new _ [.int .u64 0, .int .u64 0, .int .u64 0, .int .u64 0, .int .u64 0, .int .u64 0, .int .u64 0, .int .u64 0] _ rfl).drew.step hB; obtain ⟨j0c, j0f, j1c, j1f, j2c, j2f, j3c, j3f, j4c, j4f, j5c, j5f, j6c, j6f, j7c, j7f⟩ := G0.cf8; have jlt := G0.lt))); clear T0; have T0 := T1; clear T1; clear hB)
        | (go_at_call 114; refine (C1 _).mono ?_; rintro e w5 ⟨rfl, hB⟩; (first | (have T1 : ArgsB w w5 _ := (by with_reducible exact T0.step hB); have tltw5 := (T0.b 2 rfl).lt; have lR0w5 := R0.lt; replace R0 := R0.step hB; (try (replace G0 := G0.step hB; obtain ⟨j0c, j0f, j1c, j1f, j2c, j2f, j3c, j3f, j4c, j4f, j5c, j5f, j6c, j6f, j7c, j7f⟩ := G0.cf8; have jlt := G0.lt))) | (have T1 : ArgsB w w5 _ := (by with_reducible exact T0.drew.step hB); have tltw5 := (T0.b 2 rfl).lt; have lR0w5 := R0.lt; replace R0 := R0.drew.step hB; (try (replace G0 := G0.drew.step hB; obtain ⟨j0c, j0f, j1c, j1f, j2c, j2f, j3c, j3f, j4c, j4f, j5c, j5f, j6c, j6f, j7c, j7f⟩ := G0.cf8; have jlt := G0.lt))) | (have T1 : ArgsB w w5 _ := (by with_reducible exact (T0.alloc _).step hB); have tltw5 := (T0.b 2 rfl).lt; have lR0w5 := R0.lt; replace R0 := (R0.alloc _).step hB; (have G0 := (Blk.new _ [.int .u64 0, .int .u64 0, .int .u64 0, .int .u64 0, .int .u64 0, .int .u64 0, .int .u64 0, .int .u64 0] _ rfl).step hB; obtain ⟨j0c, j0f, j1c, j1f, j2c, j2f, j3c, j3f, j4c, j4f, j5c, j5f, j6c, j6f, j7c, j7f⟩ := G0.cf8; have jlt := G0.lt)) | (have T1 : ArgsB w w5 _ := (by with_reducible exact (T0.alloc _).drew.step hB); have tltw5 := (T0.b 2 rfl).lt; have lR0w5 := R0.lt; replace R0 := (R0.alloc _).drew.step hB; (have G0 := (Blk.new _ [.int .u64 0, .int .u64 0, .int .u64 0, .int .u64 0, .int .u64 0, .int .u64 0, .int .u64 0, .int .u64 0] _ rfl).drew.step hB; obtain ⟨j0c, j0f, j1c, j1f, j2c, j2f, j3c, j3f, j4c, j4f, j5c, j5f, j6c, j6f, j7c, j7f⟩ := G0.cf8; have jlt := G0.lt))); clear T0; have T0 := T1; clear T1; clear hB))
    all_goals go_wp2_with fail
    all_goals go_meet
    all_goals have hl : w.heap.size + ([[.int .u64 (ww3 x), .int .u64 (ww2 x), .int .u64 (ww1 x), .int .u64 (ww0 x)], [.int .u64 (ww3 y), .int .u64 (ww2 y), .int .u64 (ww1 y), .int .u64 (ww0 y)], [.int .u64 (ww3 z), .int .u64 (ww2 z), .int .u64 (ww1 z), .int .u64 (ww0 z)]] : List (List Value)).length ≤ w5.heap.size := (T0.b 2 rfl).lt
    all_goals have hr := R0.lt
    all_goals first | (with_reducible exact cut3_new T0 hl R0) | (with_reducible exact cut3_set8 T0 G0 (by simp; omega) R0 (by omega))
  case rest =>
    clear T0 R0 tok1 tok2 A1 A2 B1 B2 C1 hlw hlt
    obtain ⟨⟨gc, hp, hgc, T0, GC⟩, R0, hne⟩ := hcut
    subst hp
    simp at hgc hne
    go_upto_region 2 with fail
    go_region_held3 (fun w' => w'.cell? ⟨w.heap.size + 1, 0, none⟩ = some (.int .u64 (ww3 y)) ∧ w'.cell? ⟨w.heap.size + 1, 1, none⟩ = some (.int .u64 (ww2 y)) ∧ w'.cell? ⟨w.heap.size + 1, 2, none⟩ = some (.int .u64 (ww1 y)) ∧ w'.cell? ⟨w.heap.size + 1, 3, none⟩ = some (.int .u64 (ww0 y)) ∧ w'.cell? ⟨gc, 0, none⟩ = some (.int .u64 (lw0 g)) ∧ w'.cell? ⟨gc, 1, none⟩ = some (.int .u64 (lw1 g)) ∧ w'.cell? ⟨gc, 2, none⟩ = some (.int .u64 (lw2 g)) ∧ w'.cell? ⟨gc, 3, none⟩ = some (.int .u64 (lw3 g)) ∧ w'.cell? ⟨gc, 4, none⟩ = some (.int .u64 (lw4 g)) ∧ w'.cell? ⟨gc, 5, none⟩ = some (.int .u64 (lw5 g)) ∧ w'.cell? ⟨gc, 6, none⟩ = some (.int .u64 (lw6 g)) ∧ w'.cell? ⟨gc, 7, none⟩ = some (.int .u64 (lw7 g))) ((refine c3_cells2 (x := x) (z := z) ?_ ?_ <;> repeat (first | (with_reducible exact T0) | (with_reducible exact GC) | (with_reducible refine ArgsB.drew ?_) | (with_reducible refine Blk.drew ?_) | (with_reducible refine ArgsB.set8g ?_ (by simp; try omega) _ _ _ _ _ _ _ _) | (with_reducible refine Blk.set8 ?_ (by omega)))))
      (first
        | (go_at_call 89; refine (A3 _).mono ?_; rintro e w1 ⟨rfl, hB⟩; (first | (have T1 : ArgsB w w1 _ := (by with_reducible exact T0.step hB); have tltw1 := (T0.b 2 rfl).lt; have lR0w1 := R0.lt; replace R0 := R0.step hB; have lGCw1 := GC.lt; replace GC := GC.step hB; skip) | (have T1 : ArgsB w w1 _ := (by with_reducible exact T0.drew.step hB); have tltw1 := (T0.b 2 rfl).lt; have lR0w1 := R0.lt; replace R0 := R0.drew.step hB; have lGCw1 := GC.lt; replace GC := GC.drew.step hB; skip)); clear T0; have T0 := T1; clear T1; clear hB)
        | (go_at_call 115; refine (B3 _).mono ?_; rintro e w2 ⟨rfl, hB⟩; (first | (have T1 : ArgsB w w2 _ := (by with_reducible exact T0.step hB); have tltw2 := (T0.b 2 rfl).lt; have lR0w2 := R0.lt; replace R0 := R0.step hB; have lGCw2 := GC.lt; replace GC := GC.step hB; skip) | (have T1 : ArgsB w w2 _ := (by with_reducible exact T0.drew.step hB); have tltw2 := (T0.b 2 rfl).lt; have lR0w2 := R0.lt; replace R0 := R0.drew.step hB; have lGCw2 := GC.lt; replace GC := GC.drew.step hB; skip)); clear T0; have T0 := T1; clear T1; clear hB)
        | (go_at_call 114; refine (C2 _).mono ?_; rintro e w3 ⟨rfl, hB⟩; (first | (have T1 : ArgsB w w3 _ := (by with_reducible exact T0.step hB); have tltw3 := (T0.b 2 rfl).lt; have lR0w3 := R0.lt; replace R0 := R0.step hB; have lGCw3 := GC.lt; replace GC := GC.step hB; skip) | (have T1 : ArgsB w w3 _ := (by with_reducible exact T0.drew.step hB); have tltw3 := (T0.b 2 rfl).lt; have lR0w3 := R0.lt; replace R0 := R0.drew.step hB; have lGCw3 := GC.lt; replace GC := GC.drew.step hB; skip)); clear T0; have T0 := T1; clear T1; clear hB; obtain ⟨rc0, rf0, rc1, rf1, rc2, rf2, rc3, rf3, rc4, rf4, rc5, rf5, rc6, rf6, rc7, rf7⟩ := R0.cf8; have rl := R0.lt))
    all_goals have HB := T0.below
    all_goals clear T0 GC R0
    all_goals go_wp2
    all_goals refine bodyPost_ret (v := LV q) (by simp [results, Try.results98, go_sem, rc0, rc1, rc2, rc3, rc4, rc5, rc6, rc7]) rfl ?_
    all_goals exact ⟨rfl, by first | exact below_set8 (g := w.heap.size + 3) (by omega) HB | exact (below_set8 (g := w.heap.size + 3) (by omega) HB).drew⟩
end Go.Proofs.Ytnnojeggjnddpaa

/- Points: whether one is right, by the program. -/
namespace Go.Proofs.Ytnnojeggjnddpaa
open Go.RowKit
abbrev PV (x y z : Int) : Value := .agg #[.int .u64 (ww3 x), .int .u64 (ww2 x), .int .u64 (ww1 x), .int .u64 (ww0 x), .int .u64 (ww3 y), .int .u64 (ww2 y), .int .u64 (ww1 y), .int .u64 (ww0 y), .int .u64 (ww3 z), .int .u64 (ww2 z), .int .u64 (ww1 z), .int .u64 (ww0 z)]
/-- Whether the point is right. -/
def ptB (x y z : Int) : Bool := decide (0 < z) && (small x && small y && small z) && decide (Int.gcd (Int.gcd x y) z = 1)
theorem gcd_three (x y z : Int) : Int.gcd (y.natAbs : Int) (Int.gcd (x.natAbs : Int) (z.natAbs : Int) : Int) = Int.gcd (Int.gcd x y) z := by
  rw [Int.gcd_natCast_natCast, Int.gcd_natCast_natCast]
  unfold Int.gcd
  rw [Int.natAbs_natCast, Nat.gcd_comm x.natAbs z.natAbs, ← Nat.gcd_assoc, Nat.gcd_comm (Nat.gcd y.natAbs z.natAbs), ← Nat.gcd_assoc]
set_option maxRecDepth 100000 in
set_option maxHeartbeats 2000000 in
theorem pright_det (x y z : Int) (hx : told x = true) (hy : told y = true) (hz : told z = true) (w : World) : Calls Try.prog 64 #[PV x y z] w (VP (.bool (ptB x y z)) w) := by
  have X0 : Blk (w.alloc (.cells #[.int .u64 (ww3 x), .int .u64 (ww2 x), .int .u64 (ww1 x), .int .u64 (ww0 x), .int .u64 (ww3 y), .int .u64 (ww2 y), .int .u64 (ww1 y), .int .u64 (ww0 y), .int .u64 (ww3 z), .int .u64 (ww2 z), .int .u64 (ww1 z), .int .u64 (ww0 z)] 47)) w.heap.size [.int .u64 (ww3 x), .int .u64 (ww2 x), .int .u64 (ww1 x), .int .u64 (ww0 x), .int .u64 (ww3 y), .int .u64 (ww2 y), .int .u64 (ww1 y), .int .u64 (ww0 y), .int .u64 (ww3 z), .int .u64 (ww2 z), .int .u64 (ww1 z), .int .u64 (ww0 z)] := Blk.new w _ _ rfl
  have HB := (Below.refl _ w).alloc (Nat.le_refl _) (.cells #[.int .u64 (ww3 x), .int .u64 (ww2 x), .int .u64 (ww1 x), .int .u64 (ww0 x), .int .u64 (ww3 y), .int .u64 (ww2 y), .int .u64 (ww1 y), .int .u64 (ww0 y), .int .u64 (ww3 z), .int .u64 (ww2 z), .int .u64 (ww1 z), .int .u64 (ww0 z)] 47)
  have SG := sign_det z hz
  have P1 := isPart_det x hx
  have P2 := isPart_det y hy
  have P3 := isPart_det z hz
  have CM := common3_det x y z hx hy hz
  rw [gcd_three] at CM
  have hl : LR (Int.gcd (Int.gcd x y) z : Int) := by
    have tx := told_abs hx; have ty := told_abs hy; have tz := told_abs hz
    have g1 := gcd_le x.natAbs y.natAbs 57896044618658097711785492504343953926634992332820282019728792003956564819968 (by omega) (by omega)
    rw [show Int.gcd (x.natAbs : Int) (y.natAbs : Int) = Int.gcd x y by simp [Int.gcd]] at g1
    have g2 := gcd_le (Int.gcd x y) z.natAbs 57896044618658097711785492504343953926634992332820282019728792003956564819968 (by omega) (by omega)
    rw [show Int.gcd ((Int.gcd x y : Nat) : Int) (z.natAbs : Int) = Int.gcd (Int.gcd x y) z by simp [Int.gcd]] at g2
    unfold LR
    omega
  have EO := eqLVOne _ hl
  obtain ⟨G, hG⟩ : ∃ G, decide (((Int.gcd (Int.gcd x y) z : Nat) : Int) = 1) = G := ⟨_, rfl⟩
  simp only [hG] at EO
  have HG : Hid (G = decide (Int.gcd (Int.gcd x y) z = 1)) := by
    show _ = _
    rw [← hG, Bool.eq_iff_iff, decide_eq_true_iff, decide_eq_true_iff]
    omega
  clear hG hl hx hy hz
  generalize ((Int.gcd (Int.gcd x y) z : Nat) : Int) = g at *
  have hm1 : ((-1 : Int) == 1) = false := by decide
  have hm0 : ((0 : Int) == 1) = false := by decide
  go_enter Try.func64, Try.ntmps64
  have HG' := HG
  clear HG
  have q0 := X0.c 0 rfl; have q1 := X0.c 1 rfl; have q2 := X0.c 2 rfl; have q3 := X0.c 3 rfl; have q4 := X0.c 4 rfl; have q5 := X0.c 5 rfl; have q6 := X0.c 6 rfl; have q7 := X0.c 7 rfl; have q8 := X0.c 8 rfl; have q9 := X0.c 9 rfl; have q10 := X0.c 10 rfl; have q11 := X0.c 11 rfl
  go_wp2_with fail
  refine (SG _).mono ?_
  rintro e w1 ⟨rfl, hB⟩
  replace X0 := X0.step hB; replace HB := HB.trans (hB.mono HB.size); clear hB; clear q0 q1 q2 q3 q4 q5 q6 q7 q8 q9 q10 q11; have q0 := X0.c 0 rfl; have q1 := X0.c 1 rfl; have q2 := X0.c 2 rfl; have q3 := X0.c 3 rfl; have q4 := X0.c 4 rfl; have q5 := X0.c 5 rfl; have q6 := X0.c 6 rfl; have q7 := X0.c 7 rfl; have q8 := X0.c 8 rfl; have q9 := X0.c 9 rfl; have q10 := X0.c 10 rfl; have q11 := X0.c 11 rfl
  by_cases hs : 0 < z
  · rw [cmpI_gt hs]
    go_wp2_with fail
    refine (P1 _).mono ?_
    rintro e w2 ⟨rfl, hB⟩
    replace X0 := X0.step hB; replace HB := HB.trans (hB.mono HB.size); clear hB; clear q0 q1 q2 q3 q4 q5 q6 q7 q8 q9 q10 q11; have q0 := X0.c 0 rfl; have q1 := X0.c 1 rfl; have q2 := X0.c 2 rfl; have q3 := X0.c 3 rfl; have q4 := X0.c 4 rfl; have q5 := X0.c 5 rfl; have q6 := X0.c 6 rfl; have q7 := X0.c 7 rfl; have q8 := X0.c 8 rfl; have q9 := X0.c 9 rfl; have q10 := X0.c 10 rfl; have q11 := X0.c 11 rfl
    by_cases h1 : small x = true
    · rw [h1]
      go_wp2_with fail
      refine (P2 _).mono ?_
      rintro e w3 ⟨rfl, hB⟩
      replace X0 := X0.step hB; replace HB := HB.trans (hB.mono HB.size); clear hB; clear q0 q1 q2 q3 q4 q5 q6 q7 q8 q9 q10 q11; have q0 := X0.c 0 rfl; have q1 := X0.c 1 rfl; have q2 := X0.c 2 rfl; have q3 := X0.c 3 rfl; have q4 := X0.c 4 rfl; have q5 := X0.c 5 rfl; have q6 := X0.c 6 rfl; have q7 := X0.c 7 rfl; have q8 := X0.c 8 rfl; have q9 := X0.c 9 rfl; have q10 := X0.c 10 rfl; have q11 := X0.c 11 rfl
      by_cases h2 : small y = true
      · rw [h2]
        go_wp2_with fail
        refine (P3 _).mono ?_
        rintro e w4 ⟨rfl, hB⟩
        replace X0 := X0.step hB; replace HB := HB.trans (hB.mono HB.size); clear hB; clear q0 q1 q2 q3 q4 q5 q6 q7 q8 q9 q10 q11; have q0 := X0.c 0 rfl; have q1 := X0.c 1 rfl; have q2 := X0.c 2 rfl; have q3 := X0.c 3 rfl; have q4 := X0.c 4 rfl; have q5 := X0.c 5 rfl; have q6 := X0.c 6 rfl; have q7 := X0.c 7 rfl; have q8 := X0.c 8 rfl; have q9 := X0.c 9 rfl; have q10 := X0.c 10 rfl; have q11 := X0.c 11 rfl
        by_cases h3 : small z = true
        · rw [h3]
          go_wp2_with fail
          refine (CM _).mono ?_
          rintro e w5 ⟨rfl, hB⟩
          replace X0 := X0.step hB; replace HB := HB.trans (hB.mono HB.size); clear hB; clear q0 q1 q2 q3 q4 q5 q6 q7 q8 q9 q10 q11; have q0 := X0.c 0 rfl; have q1 := X0.c 1 rfl; have q2 := X0.c 2 rfl; have q3 := X0.c 3 rfl; have q4 := X0.c 4 rfl; have q5 := X0.c 5 rfl; have q6 := X0.c 6 rfl; have q7 := X0.c 7 rfl; have q8 := X0.c 8 rfl; have q9 := X0.c 9 rfl; have q10 := X0.c 10 rfl; have q11 := X0.c 11 rfl
          have HR : Hid (ptB x y z = G) := by show _ = _; unfold ptB; rw [HG'.out, h1, h2, h3]; simp [hs]
          clear HG' h1 h2 h3 hs X0 q0 q1 q2 q3 q4 q5 q6 q7 q8 q9 q10 q11
          go_wp2
          go_ret
          exact ⟨by simp [HR.out], HB⟩
        · replace h3 := Bool.eq_false_iff.2 h3
          rw [h3]
          have HR : Hid (ptB x y z = false) := by show _ = _; unfold ptB; simp [h3]
          clear HG' h1 h2 h3 hs X0 q0 q1 q2 q3 q4 q5 q6 q7 q8 q9 q10 q11
          go_wp2
          go_ret
          exact ⟨by rw [HR.out]; rfl, HB⟩
      · replace h2 := Bool.eq_false_iff.2 h2
        rw [h2]
        have HR : Hid (ptB x y z = false) := by show _ = _; unfold ptB; simp [h2]
        clear HG' h1 h2 hs X0 q0 q1 q2 q3 q4 q5 q6 q7 q8 q9 q10 q11
        go_wp2
        go_ret
        exact ⟨by rw [HR.out]; rfl, HB⟩
    · replace h1 := Bool.eq_false_iff.2 h1
      rw [h1]
      have HR : Hid (ptB x y z = false) := by show _ = _; unfold ptB; simp [h1]
      clear HG' h1 hs X0 q0 q1 q2 q3 q4 q5 q6 q7 q8 q9 q10 q11
      go_wp2
      go_ret
      exact ⟨by rw [HR.out]; rfl, HB⟩
  · have HR : Hid (ptB x y z = false) := by show _ = _; unfold ptB; simp [hs]
    have hcs : cmpI z 0 = -1 ∨ cmpI z 0 = 0 := by
      rcases Int.lt_trichotomy z 0 with h | h | h
      · exact Or.inl (cmpI_lt h)
      · exact Or.inr (cmpI_eq h)
      · exact absurd h hs
    clear HG' hs X0 q0 q1 q2 q3 q4 q5 q6 q7 q8 q9 q10 q11
    rcases hcs with hc | hc
    · rw [hc]
      go_wp2
      go_ret
      exact ⟨by rw [HR.out]; rfl, HB⟩
    · rw [hc]
      go_wp2
      go_ret
      exact ⟨by rw [HR.out]; rfl, HB⟩
theorem implPointOk_det (x y z : Int) (hx : told x = true) (hy : told y = true) (hz : told z = true) (w : World) : Calls Try.prog 40 #[PV x y z] w (VP (.bool (ptB x y z)) w) := by
  have HB := (Below.refl _ w).alloc (Nat.le_refl _) (.cells #[.int .u64 (ww3 x), .int .u64 (ww2 x), .int .u64 (ww1 x), .int .u64 (ww0 x), .int .u64 (ww3 y), .int .u64 (ww2 y), .int .u64 (ww1 y), .int .u64 (ww0 y), .int .u64 (ww3 z), .int .u64 (ww2 z), .int .u64 (ww1 z), .int .u64 (ww0 z)] 47)
  go_enter Try.func40, Try.ntmps40
  go_wp2_with fail
  refine (pright_det x y z hx hy hz _).mono ?_
  rintro e w1 ⟨rfl, hB⟩
  replace HB := HB.trans (hB.mono HB.size)
  go_wp2
  go_ret
  exact ⟨rfl, HB⟩
end Go.Proofs.Ytnnojeggjnddpaa
