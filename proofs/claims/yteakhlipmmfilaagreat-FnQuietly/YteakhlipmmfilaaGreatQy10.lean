/- Part 10 of the walks that the proof leans on. -/
import Derived.Test.YteakhlipmmfilaaGreatQy9
import Derived.OwnWalkIn
import Derived.RangeFuncBox
import Derived.Test.YteakhlipmmfilaaGreatQy3
import Derived.Test.YteakhlipmmfilaaGreatQy2
import Derived.Test.YteakhlipmmfilaaGreatQy1
import Derived.Deep.RegionHeld3
import Derived.Deep.DeepCutAuto
import Derived.Deep.QuietTactic
import Derived.BigQuiet
namespace Go.Proofs.YteakhlipmmfilaaGreat
open Go.RowKit
def VqtSr (A off n cap ci ck : Nat) (xa xb xc xd ya yb yc yd : Int) (B : Nat) : Nat → Value → World → Prop
 | 0, v, _ => v = .slice (some ⟨A, off, none⟩) n cap
 | 1, v, _ => v = .int .i64 (ci : Nat)
 | 2, v, _ => v = .pointer (some ⟨A, off + ci * 4, none⟩)
 | 3, v, _ => v = .agg #[.int .i64 xa, .int .i64 xb, .int .i64 xc, .int .i64 xd]
 | 4, v, _ => v = .slice (some ⟨A, off, none⟩) n cap
 | 5, v, _ => v = .int .i64 (ck : Nat)
 | 6, v, _ => v = .pointer (some ⟨A, off + ck * 4, none⟩)
 | 7, v, _ => v = .agg #[.int .i64 ya, .int .i64 yb, .int .i64 yc, .int .i64 yd]
 | 8, v, _ => ∃ x y, Lp6 x ∧ Lp6 y ∧ v = .tuple #[.int .i64 (kndZ xa xb xc xd ya yb yc yd), x, y]
 | 9, v, _ => ∃ x y, Lp6 x ∧ Lp6 y ∧ v = .tuple #[.int .i64 (kndZ xa xb xc xd ya yb yc yd), x, y]
 | 10, v, _ => v = .int .i64 (kndZ xa xb xc xd ya yb yc yd)
 | 11, v, _ => Lp6 v
 | 12, v, _ => Lp6 v
 | 13, v, W => ∃ g, v = .pointer (some ⟨g, 0, none⟩) ∧ B ≤ g ∧ BlkN W g 6
 | 14, v, W => ∃ g, v = .pointer (some ⟨g, 0, none⟩) ∧ B ≤ g ∧ BlkN W g 6
 | 15, v, _ => v = .int .i64 (kndZ xa xb xc xd ya yb yc yd)
 | _, _, _ => True
theorem VqtSr.mono {A off n cap ci ck : Nat} {xa xb xc xd ya yb yc yd : Int} {B j : Nat} {v : Value} {W W2 : World} (hS : ∀ g k, BlkN W g k → BlkN W2 g k) (h : VqtSr A off n cap ci ck xa xb xc xd ya yb yc yd B j v W) : VqtSr A off n cap ci ck xa xb xc xd ya yb yc yd B j v W2 := by
 unfold VqtSr at *
 split <;> simp only at h <;> first | exact h | (obtain ⟨g, h1, h2, h3⟩ := h; exact ⟨g, h1, h2, hS g _ h3⟩) | trivial
set_option maxRecDepth 100000 in
set_option maxHeartbeats 4000000 in
theorem qtSr {Q : Exit → Act → World → Prop} {A off n cap ci ck : Nat} {xa xb xc xd ya yb yc yd : Int}  {w0 : World} {a0 : Act} {idq : Nat} {t0 t1 t2 t3 t4 t5 t6 t7 t8 t9 t10 t11 t12 t13 t14 t15 t16 t17 : TypeId} {q0 q1 q2 q3 q4 q5 q6 q7 q8 q9 q10 q11 q12 q13 q14 q15 q16 q17 : String}
   (cn : (ci : Int) < (n : Int)) (kn : (ck : Int) < (n : Int)) (i1 : In1 xa) (i2 : In1 xb) (i3 : In1 xc) (i4 : In1 xd) (j1 : In1 ya) (j2 : In1 yb) (j3 : In1 yc) (j4 : In1 yd) (h0 : a0.tmps[0]? = some (.slice (some ⟨A, off, none⟩) n cap)) (h3 : a0.tmps[3]? = some (.int .i64 (ci : Nat))) (h4 : a0.tmps[4]? = some (.int .i64 (ck : Nat))) (k0 : w0.cell? ⟨A, off + ci * 4, none⟩ = some (.int .i64 xa)) (l0 : (⟨A, off + ci * 4, none⟩ : Addr).block < w0.heap.size) (k1 : w0.cell? ⟨A, off + ci * 4 + 1, none⟩ = some (.int .i64 xb)) (l1 : (⟨A, off + ci * 4 + 1, none⟩ : Addr).block < w0.heap.size) (k2 : w0.cell? ⟨A, off + ci * 4 + 2, none⟩ = some (.int .i64 xc)) (l2 : (⟨A, off + ci * 4 + 2, none⟩ : Addr).block < w0.heap.size) (k3 : w0.cell? ⟨A, off + ci * 4 + 3, none⟩ = some (.int .i64 xd)) (l3 : (⟨A, off + ci * 4 + 3, none⟩ : Addr).block < w0.heap.size) (k4 : w0.cell? ⟨A, off + ck * 4, none⟩ = some (.int .i64 ya)) (l4 : (⟨A, off + ck * 4, none⟩ : Addr).block < w0.heap.size) (k5 : w0.cell? ⟨A, off + ck * 4 + 1, none⟩ = some (.int .i64 yb)) (l5 : (⟨A, off + ck * 4 + 1, none⟩ : Addr).block < w0.heap.size) (k6 : w0.cell? ⟨A, off + ck * 4 + 2, none⟩ = some (.int .i64 yc)) (l6 : (⟨A, off + ck * 4 + 2, none⟩ : Addr).block < w0.heap.size) (k7 : w0.cell? ⟨A, off + ck * 4 + 3, none⟩ = some (.int .i64 yd)) (l7 : (⟨A, off + ck * 4 + 3, none⟩ : Addr).block < w0.heap.size) (hz : a0.tmps.size = 79)
   (hQ : ∀ aq W, aq.tmps.size = a0.tmps.size → aq.defers = a0.defers → (∀ e, e ∉ ([25, 26, 27, 28, 29, 30, 31, 32, 33, 24, 34, 35, 36, 6, 7, 5] : List Nat) → aq.tmps[e]? = a0.tmps[e]?) → VqtSr A off n cap ci ck xa xb xc xd ya yb yc yd w0.heap.size 15 (aq.tmps.getD 5 undef) W → Below w0.heap.size w0 W → Q .normal aq W) :
   (Code.region idq #[{ dst := some 25, op := Op.move (Operand.tmp 0), type := t0, pos := q0, after := #[], guard := none },
   { dst := some 26, op := Op.move (Operand.tmp 3), type := t1, pos := q1, after := #[], guard := none },
   { dst := some 27, op := Op.indexAddr 24 (Operand.tmp 25) (Operand.tmp 26), type := t2, pos := q2, after := #[{ on := 0, ground := Ground.data }, { on := 1, ground := Ground.data }], guard := none },
   { dst := some 28, op := Op.load 53 (Operand.tmp 27), type := t3, pos := q3, after := #[{ on := 2, ground := Ground.data }], guard := none },
   { dst := some 29, op := Op.move (Operand.tmp 0), type := t4, pos := q4, after := #[], guard := none },
   { dst := some 30, op := Op.move (Operand.tmp 4), type := t5, pos := q5, after := #[], guard := none },
   { dst := some 31, op := Op.indexAddr 24 (Operand.tmp 29) (Operand.tmp 30), type := t6, pos := q6, after := #[{ on := 4, ground := Ground.data }, { on := 5, ground := Ground.data }], guard := none },
   { dst := some 32, op := Op.load 53 (Operand.tmp 31), type := t7, pos := q7, after := #[{ on := 6, ground := Ground.data }], guard := none },
   { dst := some 33, op := Op.call { callee := Callee.value (Operand.func 50), args := #[Operand.tmp 28, Operand.tmp 32], argTypes := #[53, 53] }, type := t8, pos := q8, after := #[{ on := 3, ground := Ground.data }, { on := 7, ground := Ground.data }], guard := none },
   { dst := some 24, op := Op.move (Operand.tmp 33), type := t9, pos := q9, after := #[{ on := 8, ground := Ground.data }], guard := none },
   { dst := some 34, op := Op.extract (Operand.tmp 24) 0, type := t10, pos := q10, after := #[{ on := 9, ground := Ground.data }], guard := none },
   { dst := some 35, op := Op.extract (Operand.tmp 24) 1, type := t11, pos := q11, after := #[{ on := 9, ground := Ground.data }, { on := 15, ground := Ground.gcOnly Departure.lateStores }], guard := none },
   { dst := some 36, op := Op.extract (Operand.tmp 24) 2, type := t12, pos := q12, after := #[{ on := 9, ground := Ground.data }, { on := 16, ground := Ground.gcOnly Departure.lateStores }], guard := none },
   { dst := some 6, op := Op.alloc 90, type := t13, pos := q13, after := #[], guard := none },
   { dst := some 7, op := Op.alloc 90, type := t14, pos := q14, after := #[], guard := none },
   { dst := some 5, op := Op.assign (Operand.tmp 34), type := t15, pos := q15, after := #[{ on := 10, ground := Ground.data }, { on := 8, ground := Ground.chain }, { on := 0, ground := Ground.phase }, { on := 1, ground := Ground.phase }, { on := 2, ground := Ground.phase }, { on := 3, ground := Ground.phase }, { on := 4, ground := Ground.phase }, { on := 5, ground := Ground.phase }, { on := 6, ground := Ground.phase }, { on := 7, ground := Ground.phase }, { on := 8, ground := Ground.phase }, { on := 9, ground := Ground.phase }, { on := 10, ground := Ground.phase }, { on := 11, ground := Ground.textOnly Departure.lateStores }, { on := 12, ground := Ground.textOnly Departure.lateStores }, { on := 13, ground := Ground.phase }, { on := 14, ground := Ground.phase }], guard := none },
   { dst := none, op := Op.store 90 (Operand.tmp 6) (Operand.tmp 35), type := t16, pos := q16, after := #[{ on := 13, ground := Ground.data }, { on := 11, ground := Ground.data }, { on := 15, ground := Ground.chain }, { on := 0, ground := Ground.phase }, { on := 1, ground := Ground.phase }, { on := 2, ground := Ground.phase }, { on := 3, ground := Ground.phase }, { on := 4, ground := Ground.phase }, { on := 5, ground := Ground.phase }, { on := 6, ground := Ground.phase }, { on := 7, ground := Ground.phase }, { on := 8, ground := Ground.phase }, { on := 9, ground := Ground.phase }, { on := 10, ground := Ground.phase }, { on := 11, ground := Ground.phase }, { on := 12, ground := Ground.textOnly Departure.lateStores }, { on := 13, ground := Ground.phase }, { on := 14, ground := Ground.phase }, { on := 15, ground := Ground.phase }], guard := none },
   { dst := none, op := Op.store 90 (Operand.tmp 7) (Operand.tmp 36), type := t17, pos := q17, after := #[{ on := 14, ground := Ground.data }, { on := 12, ground := Ground.data }, { on := 16, ground := Ground.chain }, { on := 0, ground := Ground.phase }, { on := 1, ground := Ground.phase }, { on := 2, ground := Ground.phase }, { on := 3, ground := Ground.phase }, { on := 4, ground := Ground.phase }, { on := 5, ground := Ground.phase }, { on := 6, ground := Ground.phase }, { on := 7, ground := Ground.phase }, { on := 8, ground := Ground.phase }, { on := 9, ground := Ground.phase }, { on := 10, ground := Ground.phase }, { on := 11, ground := Ground.phase }, { on := 12, ground := Ground.phase }, { on := 13, ground := Ground.phase }, { on := 14, ground := Ground.phase }, { on := 15, ground := Ground.phase }, { on := 16, ground := Ground.phase }], guard := none }] true).wp Tryz.prog Q a0 w0 := by
 have hS : distS [some 25, some 26, some 27, some 28, some 29, some 30, some 31, some 32, some 33, some 24, some 34, some 35, some 36, some 6, some 7, some 5, none, none] = true := rfl
 refine wp_region_q (by kernel_rfl) w0.heap.size [some 25, some 26, some 27, some 28, some 29, some 30, some 31, some 32, some 33, some 24, some 34, some 35, some 36, some 6, some 7, some 5, none, none] (VqtSr A off n cap ci ck xa xb xc xd ya yb yc yd w0.heap.size) rfl ?_ ?_
 · intro Q lq aq W iq oq hJ hl ho hall
   have hJ2 := hJ
   obtain ⟨z1, z2, z3, z4, z5, z6, z7⟩ := hJ
   have g0 : aq.tmps.getD 0 undef = .slice (some ⟨A, off, none⟩) n cap := by rw [Array.getD_eq_getD_getElem?, z4 0 (by decide), h0]; rfl
   have g3 : aq.tmps.getD 3 undef = .int .i64 (ci : Nat) := by rw [Array.getD_eq_getD_getElem?, z4 3 (by decide), h3]; rfl
   have g4 : aq.tmps.getD 4 undef = .int .i64 (ck : Nat) := by rw [Array.getD_eq_getD_getElem?, z4 4 (by decide), h4]; rfl
   have c0 : W.cell? ⟨A, off + ci * 4, none⟩ = some (.int .i64 xa) := (z5.cell l0).trans k0
   have c1 : W.cell? ⟨A, off + ci * 4 + 1, none⟩ = some (.int .i64 xb) := (z5.cell l1).trans k1
   have c2 : W.cell? ⟨A, off + ci * 4 + 2, none⟩ = some (.int .i64 xc) := (z5.cell l2).trans k2
   have c3 : W.cell? ⟨A, off + ci * 4 + 3, none⟩ = some (.int .i64 xd) := (z5.cell l3).trans k3
   have c4 : W.cell? ⟨A, off + ck * 4, none⟩ = some (.int .i64 ya) := (z5.cell l4).trans k4
   have c5 : W.cell? ⟨A, off + ck * 4 + 1, none⟩ = some (.int .i64 yb) := (z5.cell l5).trans k5
   have c6 : W.cell? ⟨A, off + ck * 4 + 2, none⟩ = some (.int .i64 yc) := (z5.cell l6).trans k6
   have c7 : W.cell? ⟨A, off + ck * 4 + 3, none⟩ = some (.int .i64 yd) := (z5.cell l7).trans k7
   match iq, ho with
   | 0, ho =>
     cases ho
     refine wpOp_of rfl rfl ?_
     have hK := fun (v : Value) (W2 : World) hW hT hv => hJ2.put hS 0 25 rfl (by omega) (W' := W2) hW hT v hv
     clear ho hall hl hQ
     generalize InvQ _ _ _ w0 a0 (lq.setIfInBounds 0 true) = K at hK ⊢
     clear hJ2 hS z1 z2 z3 z4 z6 z7
     go_simp
     exact hK _ _ z5 (fun _ _ h => h) rfl
   | 1, ho =>
     cases ho
     refine wpOp_of rfl rfl ?_
     have hK := fun (v : Value) (W2 : World) hW hT hv => hJ2.put hS 1 26 rfl (by omega) (W' := W2) hW hT v hv
     clear ho hall hl hQ
     generalize InvQ _ _ _ w0 a0 (lq.setIfInBounds 1 true) = K at hK ⊢
     clear hJ2 hS z1 z2 z3 z4 z6 z7
     go_simp
     exact hK _ _ z5 (fun _ _ h => h) rfl
   | 2, ho =>
     cases ho
     refine wpOp_of rfl rfl ?_
     have f0 : (aq.tmps.getD 25 undef) = .slice (some ⟨A, off, none⟩) n cap := z6 0 25 (hall { on := 0, ground := Ground.data } (by simp) rfl) rfl
     have f1 : (aq.tmps.getD 26 undef) = .int .i64 (ci : Nat) := z6 1 26 (hall { on := 1, ground := Ground.data } (by simp) rfl) rfl
     have hK := fun (v : Value) (W2 : World) hW hT hv => hJ2.put hS 2 27 rfl (by omega) (W' := W2) hW hT v hv
     clear ho hall hl hQ
     generalize InvQ _ _ _ w0 a0 (lq.setIfInBounds 2 true) = K at hK ⊢
     clear hJ2 hS z1 z2 z3 z4 z6 z7
     go_simp
     exact hK _ _ z5 (fun _ _ h => h) rfl
   | 3, ho =>
     cases ho
     refine wpOp_of rfl rfl ?_
     have f2 : (aq.tmps.getD 27 undef) = .pointer (some ⟨A, off + ci * 4, none⟩) := z6 2 27 (hall { on := 2, ground := Ground.data } (by simp) rfl) rfl
     have hK := fun (v : Value) (W2 : World) hW hT hv => hJ2.put hS 3 28 rfl (by omega) (W' := W2) hW hT v hv
     clear ho hall hl hQ
     generalize InvQ _ _ _ w0 a0 (lq.setIfInBounds 3 true) = K at hK ⊢
     clear hJ2 hS z1 z2 z3 z4 z6 z7
     go_simp
     exact hK _ _ z5 (fun _ _ h => h) rfl
   | 4, ho =>
     cases ho
     refine wpOp_of rfl rfl ?_
     have hK := fun (v : Value) (W2 : World) hW hT hv => hJ2.put hS 4 29 rfl (by omega) (W' := W2) hW hT v hv
     clear ho hall hl hQ
     generalize InvQ _ _ _ w0 a0 (lq.setIfInBounds 4 true) = K at hK ⊢
     clear hJ2 hS z1 z2 z3 z4 z6 z7
     go_simp
     exact hK _ _ z5 (fun _ _ h => h) rfl
   | 5, ho =>
     cases ho
     refine wpOp_of rfl rfl ?_
     have hK := fun (v : Value) (W2 : World) hW hT hv => hJ2.put hS 5 30 rfl (by omega) (W' := W2) hW hT v hv
     clear ho hall hl hQ
     generalize InvQ _ _ _ w0 a0 (lq.setIfInBounds 5 true) = K at hK ⊢
     clear hJ2 hS z1 z2 z3 z4 z6 z7
     go_simp
     exact hK _ _ z5 (fun _ _ h => h) rfl
   | 6, ho =>
     cases ho
     refine wpOp_of rfl rfl ?_
     have f4 : (aq.tmps.getD 29 undef) = .slice (some ⟨A, off, none⟩) n cap := z6 4 29 (hall { on := 4, ground := Ground.data } (by simp) rfl) rfl
     have f5 : (aq.tmps.getD 30 undef) = .int .i64 (ck : Nat) := z6 5 30 (hall { on := 5, ground := Ground.data } (by simp) rfl) rfl
     have hK := fun (v : Value) (W2 : World) hW hT hv => hJ2.put hS 6 31 rfl (by omega) (W' := W2) hW hT v hv
     clear ho hall hl hQ
     generalize InvQ _ _ _ w0 a0 (lq.setIfInBounds 6 true) = K at hK ⊢
     clear hJ2 hS z1 z2 z3 z4 z6 z7
     go_simp
     exact hK _ _ z5 (fun _ _ h => h) rfl
   | 7, ho =>
     cases ho
     refine wpOp_of rfl rfl ?_
     have f6 : (aq.tmps.getD 31 undef) = .pointer (some ⟨A, off + ck * 4, none⟩) := z6 6 31 (hall { on := 6, ground := Ground.data } (by simp) rfl) rfl
     have hK := fun (v : Value) (W2 : World) hW hT hv => hJ2.put hS 7 32 rfl (by omega) (W' := W2) hW hT v hv
     clear ho hall hl hQ
     generalize InvQ _ _ _ w0 a0 (lq.setIfInBounds 7 true) = K at hK ⊢
     clear hJ2 hS z1 z2 z3 z4 z6 z7
     go_simp
     exact hK _ _ z5 (fun _ _ h => h) rfl
   | 8, ho =>
     cases ho
     refine wpOp_of rfl rfl ?_
     have f3 : (aq.tmps.getD 28 undef) = .agg #[.int .i64 xa, .int .i64 xb, .int .i64 xc, .int .i64 xd] := z6 3 28 (hall { on := 3, ground := Ground.data } (by simp) rfl) rfl
     have f7 : (aq.tmps.getD 32 undef) = .agg #[.int .i64 ya, .int .i64 yb, .int .i64 yc, .int .i64 yd] := z6 7 32 (hall { on := 7, ground := Ground.data } (by simp) rfl) rfl
     have hK := fun (v : Value) (W2 : World) hW hT hv => hJ2.put hS 8 33 rfl (by omega) (W' := W2) hW hT v hv
     clear ho hall hl hQ
     generalize InvQ _ _ _ w0 a0 (lq.setIfInBounds 8 true) = K at hK ⊢
     clear hJ2 hS z1 z2 z3 z4 z6 z7
     go_simp
     refine (l4Meet_any xa xb xc xd ya yb yc yd i1 i2 i3 i4 j1 j2 j3 j4 W).mono ?_
     rintro e v3 hmt
     obtain ⟨⟨f1, f2, f3, g1, g2, g3, k1, k2, k3, l1, l2, l3, m1, m2, m3, x1, x2, x3, y1, y2, y3, z1, z2, z3, rfl⟩, hBv⟩ := mtP_kind hmt
     exact hK _ _ (z5.trans (hBv.mono z5.size)) (fun j v h => h.mono fun g k hg => hg.step hBv) ⟨_, _, ⟨_, _, _, _, _, _, _, _, _, _, _, _, rfl⟩, ⟨_, _, _, _, _, _, _, _, _, _, _, _, rfl⟩, rfl⟩
   | 9, ho =>
     cases ho
     refine wpOp_of rfl rfl ?_
     have f8 : ∃ x y, Lp6 x ∧ Lp6 y ∧ (aq.tmps.getD 33 undef) = .tuple #[.int .i64 (kndZ xa xb xc xd ya yb yc yd), x, y] := z6 8 33 (hall { on := 8, ground := Ground.data } (by simp) rfl) rfl
     obtain ⟨x, y, hx, hy, he⟩ := f8
     have hK := fun (v : Value) (W2 : World) hW hT hv => hJ2.put hS 9 24 rfl (by omega) (W' := W2) hW hT v hv
     clear ho hall hl hQ
     generalize InvQ _ _ _ w0 a0 (lq.setIfInBounds 9 true) = K at hK ⊢
     clear hJ2 hS z1 z2 z3 z4 z6 z7
     go_simp
     exact hK _ _ z5 (fun _ _ h => h) ⟨x, y, hx, hy, rfl⟩
   | 10, ho =>
     cases ho
     refine wpOp_of rfl rfl ?_
     have f9 : ∃ x y, Lp6 x ∧ Lp6 y ∧ (aq.tmps.getD 24 undef) = .tuple #[.int .i64 (kndZ xa xb xc xd ya yb yc yd), x, y] := z6 9 24 (hall { on := 9, ground := Ground.data } (by simp) rfl) rfl
     obtain ⟨x, y, hx, hy, he⟩ := f9
     have hK := fun (v : Value) (W2 : World) hW hT hv => hJ2.put hS 10 34 rfl (by omega) (W' := W2) hW hT v hv
     clear ho hall hl hQ
     generalize InvQ _ _ _ w0 a0 (lq.setIfInBounds 10 true) = K at hK ⊢
     clear hJ2 hS z1 z2 z3 z4 z6 z7
     go_simp
     exact hK _ _ z5 (fun _ _ h => h) rfl
   | 11, ho =>
     cases ho
     refine wpOp_of rfl rfl ?_
     have f9 : ∃ x y, Lp6 x ∧ Lp6 y ∧ (aq.tmps.getD 24 undef) = .tuple #[.int .i64 (kndZ xa xb xc xd ya yb yc yd), x, y] := z6 9 24 (hall { on := 9, ground := Ground.data } (by simp) rfl) rfl
     obtain ⟨x, y, hx, hy, he⟩ := f9
     have hK := fun (v : Value) (W2 : World) hW hT hv => hJ2.put hS 11 35 rfl (by omega) (W' := W2) hW hT v hv
     clear ho hall hl hQ
     generalize InvQ _ _ _ w0 a0 (lq.setIfInBounds 11 true) = K at hK ⊢
     clear hJ2 hS z1 z2 z3 z4 z6 z7
     go_simp
     exact hK _ _ z5 (fun _ _ h => h) hx
   | 12, ho =>
     cases ho
     refine wpOp_of rfl rfl ?_
     have f9 : ∃ x y, Lp6 x ∧ Lp6 y ∧ (aq.tmps.getD 24 undef) = .tuple #[.int .i64 (kndZ xa xb xc xd ya yb yc yd), x, y] := z6 9 24 (hall { on := 9, ground := Ground.data } (by simp) rfl) rfl
     obtain ⟨x, y, hx, hy, he⟩ := f9
     have hK := fun (v : Value) (W2 : World) hW hT hv => hJ2.put hS 12 36 rfl (by omega) (W' := W2) hW hT v hv
     clear ho hall hl hQ
     generalize InvQ _ _ _ w0 a0 (lq.setIfInBounds 12 true) = K at hK ⊢
     clear hJ2 hS z1 z2 z3 z4 z6 z7
     go_simp
     exact hK _ _ z5 (fun _ _ h => h) hy
   | 13, ho =>
     cases ho
     refine wpOp_of rfl rfl ?_
     have hK := fun (v : Value) (W2 : World) hW hT hv => hJ2.put hS 13 6 rfl (by omega) (W' := W2) hW hT v hv
     clear ho hall hl hQ
     generalize InvQ _ _ _ w0 a0 (lq.setIfInBounds 13 true) = K at hK ⊢
     clear hJ2 hS z1 z2 z3 z4 z6 z7
     go_simp
     exact hK _ _ (z5.alloc z5.size _) (fun j v h => h.mono fun g k hg => hg.step ((Below.refl _ _).alloc (Nat.le_refl _) _)) ⟨_, rfl, z5.size, _, rfl, Blk.new W [.bool false, .slice none 0 0, .bool false, .slice none 0 0, .bool false, .slice none 0 0] 90 rfl⟩
   | 14, ho =>
     cases ho
     refine wpOp_of rfl rfl ?_
     have hK := fun (v : Value) (W2 : World) hW hT hv => hJ2.put hS 14 7 rfl (by omega) (W' := W2) hW hT v hv
     clear ho hall hl hQ
     generalize InvQ _ _ _ w0 a0 (lq.setIfInBounds 14 true) = K at hK ⊢
     clear hJ2 hS z1 z2 z3 z4 z6 z7
     go_simp
     exact hK _ _ (z5.alloc z5.size _) (fun j v h => h.mono fun g k hg => hg.step ((Below.refl _ _).alloc (Nat.le_refl _) _)) ⟨_, rfl, z5.size, _, rfl, Blk.new W [.bool false, .slice none 0 0, .bool false, .slice none 0 0, .bool false, .slice none 0 0] 90 rfl⟩
   | 15, ho =>
     cases ho
     refine wpOp_of rfl rfl ?_
     have f10 : (aq.tmps.getD 34 undef) = .int .i64 (kndZ xa xb xc xd ya yb yc yd) := z6 10 34 (hall { on := 10, ground := Ground.data } (by simp) rfl) rfl
     have hK := fun (v : Value) (W2 : World) hW hT hv => hJ2.put hS 15 5 rfl (by omega) (W' := W2) hW hT v hv
     clear ho hall hl hQ
     generalize InvQ _ _ _ w0 a0 (lq.setIfInBounds 15 true) = K at hK ⊢
     clear hJ2 hS z1 z2 z3 z4 z6 z7
     go_simp
     exact hK _ _ z5 (fun _ _ h => h) rfl
   | 16, ho =>
     cases ho
     refine wpOp_of rfl rfl ?_
     have f13 : ∃ g, (aq.tmps.getD 6 undef) = .pointer (some ⟨g, 0, none⟩) ∧ w0.heap.size ≤ g ∧ BlkN W g 6 := z6 13 6 (hall { on := 13, ground := Ground.data } (by simp) rfl) rfl
     obtain ⟨g, hg, hgB, vs, hvs, G⟩ := f13
     have f11 : Lp6 (aq.tmps.getD 35 undef) := z6 11 35 (hall { on := 11, ground := Ground.data } (by simp) rfl) rfl
     obtain ⟨s1, s2, s3, k1, k2, k3, m1, m2, m3, x1, x2, x3, hx⟩ := f11
     have hK := fun (W2 : World) hW hT hv => hJ2.world 16 rfl (W' := W2) hW hT hv
     clear ho hall hl hQ
     generalize InvQ _ _ _ w0 a0 (lq.setIfInBounds 16 true) = K at hK ⊢
     clear hJ2 hS z1 z2 z3 z4 z6 z7
     obtain ⟨v0, v1, v2, v3, v4, v5, rfl⟩ : ∃ v0 v1 v2 v3 v4 v5, vs = [v0, v1, v2, v3, v4, v5] := by match vs, hvs with | [v0, v1, v2, v3, v4, v5], _ => exact ⟨_, _, _, _, _, _, rfl⟩
     have b0 := G.c 0 rfl; have r0 := G.f 0 rfl
     have b1 := G.c 1 rfl; have r1 := G.f 1 rfl
     have b2 := G.c 2 rfl; have r2 := G.f 2 rfl
     have b3 := G.c 3 rfl; have r3 := G.f 3 rfl
     have b4 := G.c 4 rfl; have r4 := G.f 4 rfl
     have b5 := G.c 5 rfl; have r5 := G.f 5 rfl
     have hlt := G.lt
     clear G
     go_simp
     exact hK _ (below_set6 z5 hgB) (fun j v h => h.mono fun g2 k hg => ((((((hg.set _ 0 _).set _ 1 _).set _ 2 _).set _ 3 _).set _ 4 _).set _ 5 _)) trivial
   | 17, ho =>
     cases ho
     refine wpOp_of rfl rfl ?_
     have f14 : ∃ g, (aq.tmps.getD 7 undef) = .pointer (some ⟨g, 0, none⟩) ∧ w0.heap.size ≤ g ∧ BlkN W g 6 := z6 14 7 (hall { on := 14, ground := Ground.data } (by simp) rfl) rfl
     obtain ⟨g, hg, hgB, vs, hvs, G⟩ := f14
     have f12 : Lp6 (aq.tmps.getD 36 undef) := z6 12 36 (hall { on := 12, ground := Ground.data } (by simp) rfl) rfl
     obtain ⟨s1, s2, s3, k1, k2, k3, m1, m2, m3, x1, x2, x3, hx⟩ := f12
     have hK := fun (W2 : World) hW hT hv => hJ2.world 17 rfl (W' := W2) hW hT hv
     clear ho hall hl hQ
     generalize InvQ _ _ _ w0 a0 (lq.setIfInBounds 17 true) = K at hK ⊢
     clear hJ2 hS z1 z2 z3 z4 z6 z7
     obtain ⟨v0, v1, v2, v3, v4, v5, rfl⟩ : ∃ v0 v1 v2 v3 v4 v5, vs = [v0, v1, v2, v3, v4, v5] := by match vs, hvs with | [v0, v1, v2, v3, v4, v5], _ => exact ⟨_, _, _, _, _, _, rfl⟩
     have b0 := G.c 0 rfl; have r0 := G.f 0 rfl
     have b1 := G.c 1 rfl; have r1 := G.f 1 rfl
     have b2 := G.c 2 rfl; have r2 := G.f 2 rfl
     have b3 := G.c 3 rfl; have r3 := G.f 3 rfl
     have b4 := G.c 4 rfl; have r4 := G.f 4 rfl
     have b5 := G.c 5 rfl; have r5 := G.f 5 rfl
     have hlt := G.lt
     clear G
     go_simp
     exact hK _ (below_set6 z5 hgB) (fun j v h => h.mono fun g2 k hg => ((((((hg.set _ 0 _).set _ 1 _).set _ 2 _).set _ 3 _).set _ 4 _).set _ 5 _)) trivial
   | iq + 18, ho => simp at ho
 · intro lq aq W hJ hr
   obtain ⟨z1, z2, z3, z4, z5, z6, z7⟩ := hJ
   have hl := listed_of hr [0, 1, 2, 3, 4, 5, 6, 7, 8, 9, 10, 13, 14, 15] [] (by simp) (by kernel_rfl) (by rw [z1]; decide)
   exact hQ aq W z2 z3 (fun e he => z4 e (by simpa using he)) (z6 15 5 (hl 15 (by simp)) rfl) z5
def qtS (x : Nat → Int) (i k : Nat) : Prop := qtP (x (i * 4)) (x (i * 4 + 1)) (x (i * 4 + 2)) (x (i * 4 + 3)) (x (k * 4)) (x (k * 4 + 1)) (x (k * 4 + 2)) (x (k * 4 + 3))
def qtA (n : Nat) (x : Nat → Int) : Prop := sgI n x = 0 ∧ ∀ i, i < n → ∀ k, k < i → qtS x i k
theorem eqSpq (x y u v : Int) (w : World) : (Op.equalIn 10000 51 (.agg #[.int .i64 x, .int .i64 y]) (.agg #[.int .i64 u, .int .i64 v])).run Tryz.prog w = .ok (decide (x = u) && decide (y = v)) w := eqSp x y u v w
set_option maxRecDepth 100000 in
set_option maxHeartbeats 8000000 in
theorem specQuiet_any (ao : Option Addr) (n cap : Nat) (x : Nat → Int) (r : Bool) (hr : r = true ↔ qtA n x) (w : World) (hS : SegIn w ao n x) : Calls Tryz.prog 20 #[.slice ao n cap] w (VP (.bool r) w) := by
 have HS : Hid (SegIn w ao n x) := hS
 have C1 := l7Ok_any ao n cap x w hS
 clear hS
 go_enter Tryz.func20, Tryz.ntmps20
 go_wp2_with fail
 refine C1.mono ?_
 rintro e w1 ⟨rfl, hB⟩
 clear C1
 by_cases hsg : sgI n x = 0
 · rw [decide_eq_true hsg]
   obtain ⟨h40, hall⟩ := sgI_zero hsg
   have HR : Hid (r = true ↔ ∀ i, i < n → ∀ k, k < i → qtS x i k) := by
     show _ ↔ _
     rw [hr]
     unfold qtA
     simp only [hsg, true_and]
   have HA : Hid (∀ i, i < n → segOk (x (i * 4)) (x (i * 4 + 1)) (x (i * 4 + 2)) (x (i * 4 + 3)) = true) := hall
   have hnI : (n : Int) ≤ 40 := by omega
   have hsz := hB.size
   clear hall hsg hr
   go_wp2_with fail
   go_loopw [3] (fun i wr => ∃ c : Nat, c ≤ n ∧ i = .int .i64 c ∧ (∀ i, i < c → ∀ k, k < i → qtS x i k) ∧ Below w.heap.size w wr) (fun i _ => n - (intOf i).toNat)
   case atStart => exact ⟨0, by omega, rfl, fun i hi => by omega, hB⟩
   case round =>
     clear hB hsz
     obtain ⟨c, hc, rfl, hq, hB⟩ := hrel
     have HQ : Hid (∀ i, i < c → ∀ k, k < i → qtS x i k) := hq
     clear hq
     by_cases hcn : c < n
     · have hcI : (c : Int) < n := by omega
       have HOB : Hid (Below w.heap.size w wr) := hB
       clear hB
       go_wp2_with fail
       go_loopw [4] (fun i wr => ∃ d : Nat, d ≤ c ∧ i = .int .i64 d ∧ (∀ k, k < d → qtS x c k) ∧ Below w.heap.size w wr) (fun i _ => c - (intOf i).toNat)
       case atStart => exact ⟨0, by omega, by go_num, fun k hk => by omega, HOB.out⟩
       case round =>
         clear HOB
         obtain ⟨d, hd, rfl, hq, hB⟩ := hrel
         have HQ2 : Hid (∀ k, k < d → qtS x c k) := hq
         clear hq
         by_cases hdn : d < c
         · have hdc : (d : Int) < c := by omega
           have hdI : (d : Int) < n := by omega
           obtain ⟨A, off, rfl, hA, hcell⟩ := HS.out c hcn
           obtain ⟨A', off', e, _, hcell2⟩ := HS.out d (by omega)
           cases e
           have e0 : ∀ o, wr.cell? ⟨A, o, none⟩ = w.cell? ⟨A, o, none⟩ := fun o => hB.cell (p := ⟨A, o, none⟩) hA
           have q0 := (e0 _).trans (hcell 0 (by omega)); have q1 := (e0 _).trans (hcell 1 (by omega)); have q2 := (e0 _).trans (hcell 2 (by omega)); have q3 := (e0 _).trans (hcell 3 (by omega))
           have p0 := (e0 _).trans (hcell2 0 (by omega)); have p1 := (e0 _).trans (hcell2 1 (by omega)); have p2 := (e0 _).trans (hcell2 2 (by omega)); have p3 := (e0 _).trans (hcell2 3 (by omega))
           simp only [Nat.add_zero] at q0 p0
           have hA' : A < wr.heap.size := Nat.lt_of_lt_of_le hA hB.size
           obtain ⟨i1, i2, i3, i4⟩ := in1_segS (HA.out c hcn)
           obtain ⟨j1, j2, j3, j4⟩ := in1_segS (HA.out d (by omega))
           have HD : Hid (qtS x c d ↔ qtP (x (c * 4)) (x (c * 4 + 1)) (x (c * 4 + 2)) (x (c * 4 + 3)) (x (d * 4)) (x (d * 4 + 1)) (x (d * 4 + 2)) (x (d * 4 + 3))) := Iff.rfl
           go_upto_region 9 with fail
           refine qtSr (A := A) (off := off) (n := n) (cap := cap) (ci := c) (ck := d) hcI hdI i1 i2 i3 i4 j1 j2 j3 j4 rfl rfl rfl q0 hA' q1 hA' q2 hA' q3 hA' p0 hA' p1 hA' p2 hA' p3 hA' rfl ?_
           rintro ⟨tm, df⟩ w3 hz hdf hoff hV hB1
           simp only at hz hdf hoff hV
           subst hdf
           have hV2 : tm.getD 5 undef = .int .i64 (kndZ (x (c * 4)) (x (c * 4 + 1)) (x (c * 4 + 2)) (x (c * 4 + 3)) (x (d * 4)) (x (d * 4 + 1)) (x (d * 4 + 2)) (x (d * 4 + 3))) := hV
           clear hV
           have htm := tmps_fold [25, 26, 27, 28, 29, 30, 31, 32, 33, 24, 34, 35, 36, 6, 7, 5] tm _ hz hoff
           simp only [List.foldl, List.setIfInBounds_toArray, List.set_cons_zero, List.set_cons_succ, hV2] at htm
           clear hz hoff
           generalize tm.getD 25 undef = tz0, tm.getD 26 undef = tz1, tm.getD 27 undef = tz2, tm.getD 28 undef = tz3, tm.getD 29 undef = tz4, tm.getD 30 undef = tz5, tm.getD 31 undef = tz6, tm.getD 32 undef = tz7, tm.getD 33 undef = tz8, tm.getD 24 undef = tz9, tm.getD 34 undef = tz10, tm.getD 35 undef = tz11, tm.getD 36 undef = tz12, tm.getD 6 undef = tz13, tm.getD 7 undef = tz14 at htm
           clear hV2
           subst htm
           have hs3 := hB1.size
           have e1 : ∀ o, w3.cell? ⟨A, o, none⟩ = wr.cell? ⟨A, o, none⟩ := fun o => hB1.cell (p := ⟨A, o, none⟩) hA'
           have HBN := hB.trans (hB1.mono hB.size)
           replace q0 := (e1 _).trans q0; replace q1 := (e1 _).trans q1; replace q2 := (e1 _).trans q2; replace q3 := (e1 _).trans q3; replace p0 := (e1 _).trans p0; replace p1 := (e1 _).trans p1; replace p2 := (e1 _).trans p2; replace p3 := (e1 _).trans p3
           have hA3 : A < w3.heap.size := Nat.lt_of_lt_of_le hA' hs3
           clear hB1 hB hcell hcell2 e0 e1 hA hA' i1 i2 i3 i4 j1 j2 j3 j4
           obtain ⟨xa, gxa⟩ : ∃ z, z = x (c * 4) := ⟨_, rfl⟩
           obtain ⟨xb, gxb⟩ : ∃ z, z = x (c * 4 + 1) := ⟨_, rfl⟩
           obtain ⟨xc, gxc⟩ : ∃ z, z = x (c * 4 + 2) := ⟨_, rfl⟩
           obtain ⟨xd, gxd⟩ : ∃ z, z = x (c * 4 + 3) := ⟨_, rfl⟩
           obtain ⟨ya, gya⟩ : ∃ z, z = x (d * 4) := ⟨_, rfl⟩
           obtain ⟨yb, gyb⟩ : ∃ z, z = x (d * 4 + 1) := ⟨_, rfl⟩
           obtain ⟨yc, gyc⟩ : ∃ z, z = x (d * 4 + 2) := ⟨_, rfl⟩
           obtain ⟨yd, gyd⟩ : ∃ z, z = x (d * 4 + 3) := ⟨_, rfl⟩
           rw [← gxa, ← gxb, ← gxc, ← gxd, ← gya, ← gyb, ← gyc, ← gyd] at HD ⊢
           rw [← gxa] at q0; rw [← gxb] at q1; rw [← gxc] at q2; rw [← gxd] at q3; rw [← gya] at p0; rw [← gyb] at p1; rw [← gyc] at p2; rw [← gyd] at p3
           clear gxa gxb gxc gxd gya gyb gyc gyd
           have HY := HD.out
           clear HD
           have hXA : Blk ((w3.alloc (.cells #[.int .i64 xa, .int .i64 xb, .int .i64 xc, .int .i64 xd] 53)).alloc (.cells #[.int .i64 ya, .int .i64 yb, .int .i64 yc, .int .i64 yd] 53)) w3.heap.size [.int .i64 xa, .int .i64 xb, .int .i64 xc, .int .i64 xd] := (Blk.new w3 [.int .i64 xa, .int .i64 xb, .int .i64 xc, .int .i64 xd] 53 rfl).alloc _
           rcases knd_in xa xb xc xd ya yb yc yd with hk | hk | hk
           · have HN : Hid (qtS x c d) := HY.2 (.inl hk)
             rw [hk]
             clear hk HY hXA
             go_wp2
             go_roundw
             case rel => exact ⟨d + 1, by omega, by go_num, fun k hk => by
               rcases Nat.lt_or_ge k d with h | h
               · exact HQ2.out k h
               · rw [show k = d by omega]; exact HN.out, (HBN.alloc HBN.size _).alloc (Nat.le_trans HBN.size (by simp)) _⟩
             case measure => simp [intOf]; omega
           · by_cases hsh : shP xa xb xc xd ya yb yc yd
             · have HN : Hid (qtS x c d) := HY.2 (.inr ⟨hk, hsh⟩)
               have HSH : Hid (shP xa xb xc xd ya yb yc yd) := hsh
               rw [hk]
               clear hk HY hXA hsh
               obtain ⟨b0, hb0⟩ : ∃ b0 : Bool, b0 = (decide (xa = ya) && decide (xb = yb)) := ⟨_, rfl⟩
               obtain ⟨b1, hb1⟩ : ∃ b1 : Bool, b1 = (decide (xa = yc) && decide (xb = yd)) := ⟨_, rfl⟩
               obtain ⟨b2, hb2⟩ : ∃ b2 : Bool, b2 = (decide (xc = ya) && decide (xd = yb)) := ⟨_, rfl⟩
               obtain ⟨b3, hb3⟩ : ∃ b3 : Bool, b3 = (decide (xc = yc) && decide (xd = yd)) := ⟨_, rfl⟩
               have E0 : ∀ w, (Op.equalIn 10000 51 (.agg #[.int .i64 xa, .int .i64 xb]) (.agg #[.int .i64 ya, .int .i64 yb])).run Tryz.prog w = .ok b0 w := fun w => by rw [hb0]; exact eqSpq _ _ _ _ w
               have E1 : ∀ w, (Op.equalIn 10000 51 (.agg #[.int .i64 xa, .int .i64 xb]) (.agg #[.int .i64 yc, .int .i64 yd])).run Tryz.prog w = .ok b1 w := fun w => by rw [hb1]; exact eqSpq _ _ _ _ w
               have E2 : ∀ w, (Op.equalIn 10000 51 (.agg #[.int .i64 xc, .int .i64 xd]) (.agg #[.int .i64 ya, .int .i64 yb])).run Tryz.prog w = .ok b2 w := fun w => by rw [hb2]; exact eqSpq _ _ _ _ w
               have E3 : ∀ w, (Op.equalIn 10000 51 (.agg #[.int .i64 xc, .int .i64 xd]) (.agg #[.int .i64 yc, .int .i64 yd])).run Tryz.prog w = .ok b3 w := fun w => by rw [hb3]; exact eqSpq _ _ _ _ w
               have HO : (b0 || b1 || b2 || b3) = true := by
                 have := HSH.out
                 unfold shP at this
                 rw [hb0, hb1, hb2, hb3]
                 simp only [Bool.or_eq_true, Bool.and_eq_true, decide_eq_true_eq]
                 omega
               clear hb0 hb1 hb2 hb3 HSH
               cases b0 with
               | true =>
                 clear HO
                 go_wp2
                 go_roundw
                 case rel => exact ⟨d + 1, by omega, by go_num, fun k hk => by
                   rcases Nat.lt_or_ge k d with h | h
                   · exact HQ2.out k h
                   · rw [show k = d by omega]; exact HN.out, (HBN.alloc HBN.size _).alloc (Nat.le_trans HBN.size (by simp)) _⟩
                 case measure => simp [intOf]; omega
               | false =>
                 cases b1 with
                 | true =>
                   clear HO
                   go_wp2
                   go_roundw
                   case rel => exact ⟨d + 1, by omega, by go_num, fun k hk => by
                     rcases Nat.lt_or_ge k d with h | h
                     · exact HQ2.out k h
                     · rw [show k = d by omega]; exact HN.out, (HBN.alloc HBN.size _).alloc (Nat.le_trans HBN.size (by simp)) _⟩
                   case measure => simp [intOf]; omega
                 | false =>
                   cases b2 with
                   | true =>
                     clear HO
                     go_wp2
                     go_roundw
                     case rel => exact ⟨d + 1, by omega, by go_num, fun k hk => by
                       rcases Nat.lt_or_ge k d with h | h
                       · exact HQ2.out k h
                       · rw [show k = d by omega]; exact HN.out, (HBN.alloc HBN.size _).alloc (Nat.le_trans HBN.size (by simp)) _⟩
                     case measure => simp [intOf]; omega
                   | false =>
                     cases b3 with
                     | true =>
                       clear HO
                       go_wp2
                       go_roundw
                       case rel => exact ⟨d + 1, by omega, by go_num, fun k hk => by
                         rcases Nat.lt_or_ge k d with h | h
                         · exact HQ2.out k h
                         · rw [show k = d by omega]; exact HN.out, (HBN.alloc HBN.size _).alloc (Nat.le_trans HBN.size (by simp)) _⟩
                       case measure => simp [intOf]; omega
                     | false =>
                       simp at HO
             · have HN : Hid (¬ qtS x c d) := fun h => by
                 rcases HY.1 h with h | h
                 · omega
                 · exact hsh h.2
               rw [hk]
               clear hk HY hXA
               have E0 : ∀ w, (Op.equalIn 10000 51 (.agg #[.int .i64 xa, .int .i64 xb]) (.agg #[.int .i64 ya, .int .i64 yb])).run Tryz.prog w = .ok false w := fun w => by rw [eqSpq]; congr 1; have := hsh; unfold shP at this; rw [Bool.and_eq_false_iff, decide_eq_false_iff_not, decide_eq_false_iff_not]; omega
               have E1 : ∀ w, (Op.equalIn 10000 51 (.agg #[.int .i64 xa, .int .i64 xb]) (.agg #[.int .i64 yc, .int .i64 yd])).run Tryz.prog w = .ok false w := fun w => by rw [eqSpq]; congr 1; have := hsh; unfold shP at this; rw [Bool.and_eq_false_iff, decide_eq_false_iff_not, decide_eq_false_iff_not]; omega
               have E2 : ∀ w, (Op.equalIn 10000 51 (.agg #[.int .i64 xc, .int .i64 xd]) (.agg #[.int .i64 ya, .int .i64 yb])).run Tryz.prog w = .ok false w := fun w => by rw [eqSpq]; congr 1; have := hsh; unfold shP at this; rw [Bool.and_eq_false_iff, decide_eq_false_iff_not, decide_eq_false_iff_not]; omega
               have E3 : ∀ w, (Op.equalIn 10000 51 (.agg #[.int .i64 xc, .int .i64 xd]) (.agg #[.int .i64 yc, .int .i64 yd])).run Tryz.prog w = .ok false w := fun w => by rw [eqSpq]; congr 1; have := hsh; unfold shP at this; rw [Bool.and_eq_false_iff, decide_eq_false_iff_not, decide_eq_false_iff_not]; omega
               have HF : Hid (r = false) := by
                 show _ = _
                 rw [Bool.eq_false_iff]
                 intro h
                 exact HN.out (HR.out.1 h c hcn d hdn)
               clear hsh
               go_wp2
               go_ret
               exact ⟨(by rw [HF.out]; try rfl), (HBN.alloc HBN.size _).alloc (Nat.le_trans HBN.size (by simp)) _⟩
           · have HN : Hid (¬ qtS x c d) := fun h => by
               rcases HY.1 h with h | h <;> omega
             rw [hk]
             clear hk HY hXA
             have HF : Hid (r = false) := by
               show _ = _
               rw [Bool.eq_false_iff]
               intro h
               exact HN.out (HR.out.1 h c hcn d hdn)
             go_wp2
             go_ret
             exact ⟨(by rw [HF.out]; try rfl), (HBN.alloc HBN.size _).alloc (Nat.le_trans HBN.size (by simp)) _⟩
         · obtain rfl : d = c := by omega
           go_wp2
           go_roundw
           case rel => exact ⟨d + 1, by omega, by go_num, fun i hi k hk => by
             rcases Nat.lt_or_ge i d with h | h
             · exact HQ.out i h k hk
             · obtain rfl : i = d := by omega
               exact HQ2.out k hk, hB⟩
           case measure => simp [intOf]; omega
     · obtain rfl : c = n := by omega
       have HF : Hid (r = true) := HR.out.2 HQ.out
       go_wp2
       go_ret
       exact ⟨(by rw [HF.out]; try rfl), hB⟩
 · rw [decide_eq_false hsg]
   have HF : Hid (r = false) := by
     show _ = _
     rw [Bool.eq_false_iff]
     intro h
     exact hsg (hr.1 h).1
   clear hsg hr
   go_wp2
   go_ret
   exact ⟨(by rw [HF.out]; try rfl), hB⟩
open Go.RowKit Go.Shelf
attribute [local go_sem] Oper.semAt_some
def VqtIr (Bp A off n cap ci ck : Nat) (xa xb xc xd ya yb yc yd : Int) (rr : Bool) (_B : Nat) : Nat → Value → World → Prop
 | 0, v, _ => v = .slice (some ⟨A, off, none⟩) n cap
 | 1, v, _ => v = .pointer (some ⟨Bp, 0, none⟩)
 | 2, v, _ => v = .int .i64 (ci : Nat)
 | 3, v, _ => v = .pointer (some ⟨A, off + ci * 4, none⟩)
 | 4, v, _ => v = .agg #[.int .i64 xa, .int .i64 xb, .int .i64 xc, .int .i64 xd]
 | 5, v, _ => v = .slice (some ⟨A, off, none⟩) n cap
 | 6, v, _ => v = .pointer (some ⟨Bp, 1, none⟩)
 | 7, v, _ => v = .int .i64 (ck : Nat)
 | 8, v, _ => v = .pointer (some ⟨A, off + ck * 4, none⟩)
 | 9, v, _ => v = .agg #[.int .i64 ya, .int .i64 yb, .int .i64 yc, .int .i64 yd]
 | 10, v, _ => v = .bool rr
 | 11, v, _ => v = .bool (!rr)
 | _, _, _ => True
theorem VqtIr.mono {Bp A off n cap ci ck : Nat} {xa xb xc xd ya yb yc yd : Int} {rr : Bool} {B j : Nat} {v : Value} {W W2 : World} (_hS : ∀ g k, BlkN W g k → BlkN W2 g k) (h : VqtIr Bp A off n cap ci ck xa xb xc xd ya yb yc yd rr B j v W) : VqtIr Bp A off n cap ci ck xa xb xc xd ya yb yc yd rr B j v W2 := by
 unfold VqtIr at *
 split <;> simp only at h <;> first | exact h | trivial
set_option maxRecDepth 100000 in
set_option maxHeartbeats 4000000 in
theorem qtIr {Q : Exit → Act → World → Prop} {Bp A off n cap ci ck : Nat} {xa xb xc xd ya yb yc yd : Int} {rr : Bool} {B1 : Nat}  {lr nr : Nat} {w0 : World} {a0 : Act} {idq : Nat} {t0 t1 t2 t3 t4 t5 t6 t7 t8 t9 t10 t11 : TypeId} {q0 q1 q2 q3 q4 q5 q6 q7 q8 q9 q10 q11 : String}
   (cn : (ci : Int) < (n : Int)) (kn : (ck : Int) < (n : Int)) (hA : ∀ w', Calls Tryz.prog 48 #[.agg #[.int .i64 xa, .int .i64 xb, .int .i64 xc, .int .i64 xd], .agg #[.int .i64 ya, .int .i64 yb, .int .i64 yc, .int .i64 yd]] w' (VP (.bool rr) w')) (h1 : a0.tmps[1]? = some (.pointer (some ⟨B1, 0, none⟩))) (h3 : a0.tmps[3]? = some (.pointer (some ⟨Bp, 0, none⟩))) (k0 : w0.cell? ⟨B1, 0, none⟩ = some (.slice (some ⟨A, off, none⟩) n cap)) (l0 : (⟨B1, 0, none⟩ : Addr).block < w0.heap.size) (k1 : w0.cell? ⟨Bp, 0, none⟩ = some (.int .i64 (ci : Nat))) (l1 : (⟨Bp, 0, none⟩ : Addr).block < w0.heap.size) (k2 : w0.cell? ⟨Bp, 1, none⟩ = some (.int .i64 (ck : Nat))) (l2 : (⟨Bp, 1, none⟩ : Addr).block < w0.heap.size) (k3 : w0.cell? ⟨A, off + ci * 4, none⟩ = some (.int .i64 xa)) (l3 : (⟨A, off + ci * 4, none⟩ : Addr).block < w0.heap.size) (k4 : w0.cell? ⟨A, off + ci * 4 + 1, none⟩ = some (.int .i64 xb)) (l4 : (⟨A, off + ci * 4 + 1, none⟩ : Addr).block < w0.heap.size) (k5 : w0.cell? ⟨A, off + ci * 4 + 2, none⟩ = some (.int .i64 xc)) (l5 : (⟨A, off + ci * 4 + 2, none⟩ : Addr).block < w0.heap.size) (k6 : w0.cell? ⟨A, off + ci * 4 + 3, none⟩ = some (.int .i64 xd)) (l6 : (⟨A, off + ci * 4 + 3, none⟩ : Addr).block < w0.heap.size) (k7 : w0.cell? ⟨A, off + ck * 4, none⟩ = some (.int .i64 ya)) (l7 : (⟨A, off + ck * 4, none⟩ : Addr).block < w0.heap.size) (k8 : w0.cell? ⟨A, off + ck * 4 + 1, none⟩ = some (.int .i64 yb)) (l8 : (⟨A, off + ck * 4 + 1, none⟩ : Addr).block < w0.heap.size) (k9 : w0.cell? ⟨A, off + ck * 4 + 2, none⟩ = some (.int .i64 yc)) (l9 : (⟨A, off + ck * 4 + 2, none⟩ : Addr).block < w0.heap.size) (k10 : w0.cell? ⟨A, off + ck * 4 + 3, none⟩ = some (.int .i64 yd)) (l10 : (⟨A, off + ck * 4 + 3, none⟩ : Addr).block < w0.heap.size) (hz : a0.tmps.size = 22)
   (hQ : ∀ aq W, aq.tmps.size = a0.tmps.size → aq.defers = a0.defers → (∀ e, e ∉ ([10, 11, 12, 13, 14, 15, 16, 17, 18, 19, 20, 21] : List Nat) → aq.tmps[e]? = a0.tmps[e]?) → VqtIr Bp A off n cap ci ck xa xb xc xd ya yb yc yd rr w0.heap.size 11 (aq.tmps.getD 21 undef) W → Below w0.heap.size w0 W → Q .normal aq W) :
   (Code.region idq #[{ dst := some 10, op := Op.load 24 (Operand.tmp 1), type := t0, pos := q0, after := #[], guard := none },
   { dst := some 11, op := Op.fieldAddr 85 (Operand.tmp 3) 0, type := t1, pos := q1, after := #[], guard := none },
   { dst := some 12, op := Op.load 2 (Operand.tmp 11), type := t2, pos := q2, after := #[{ on := 1, ground := Ground.data }], guard := none },
   { dst := some 13, op := Op.indexAddr 24 (Operand.tmp 10) (Operand.tmp 12), type := t3, pos := q3, after := #[{ on := 0, ground := Ground.data }, { on := 2, ground := Ground.data }], guard := none },
   { dst := some 14, op := Op.load 53 (Operand.tmp 13), type := t4, pos := q4, after := #[{ on := 3, ground := Ground.data }], guard := none },
   { dst := some 15, op := Op.load 24 (Operand.tmp 1), type := t5, pos := q5, after := #[], guard := none },
   { dst := some 16, op := Op.fieldAddr 85 (Operand.tmp 3) 1, type := t6, pos := q6, after := #[], guard := none },
   { dst := some 17, op := Op.load 2 (Operand.tmp 16), type := t7, pos := q7, after := #[{ on := 6, ground := Ground.data }], guard := none },
   { dst := some 18, op := Op.indexAddr 24 (Operand.tmp 15) (Operand.tmp 17), type := t8, pos := q8, after := #[{ on := 5, ground := Ground.data }, { on := 7, ground := Ground.data }], guard := none },
   { dst := some 19, op := Op.load 53 (Operand.tmp 18), type := t9, pos := q9, after := #[{ on := 8, ground := Ground.data }], guard := none },
   { dst := some 20, op := Op.call { callee := Callee.value (Operand.func 48), args := #[Operand.tmp 14, Operand.tmp 19], argTypes := #[53, 53] }, type := t10, pos := q10, after := #[{ on := 4, ground := Ground.data }, { on := 9, ground := Ground.data }], guard := none },
   { dst := some 21, op := Op.unOp UnOp.not 4 (Operand.tmp 20), type := t11, pos := q11, after := #[{ on := 10, ground := Ground.data }], guard := none }] true).wpIn (Fence.wide.inRound lr) nr Tryz.prog Q a0 w0 := by
 have hS : distS [some 10, some 11, some 12, some 13, some 14, some 15, some 16, some 17, some 18, some 19, some 20, some 21] = true := rfl
 refine wpIn_region_q (by kernel_rfl) w0.heap.size [some 10, some 11, some 12, some 13, some 14, some 15, some 16, some 17, some 18, some 19, some 20, some 21] (VqtIr Bp A off n cap ci ck xa xb xc xd ya yb yc yd rr w0.heap.size) rfl ?_ ?_
 · intro Q lq aq W iq oq hJ hl ho hall
   have hJ2 := hJ
   obtain ⟨z1, z2, z3, z4, z5, z6, z7⟩ := hJ
   have g1 : aq.tmps.getD 1 undef = .pointer (some ⟨B1, 0, none⟩) := by rw [Array.getD_eq_getD_getElem?, z4 1 (by decide), h1]; rfl
   have g3 : aq.tmps.getD 3 undef = .pointer (some ⟨Bp, 0, none⟩) := by rw [Array.getD_eq_getD_getElem?, z4 3 (by decide), h3]; rfl
   have c0 : W.cell? ⟨B1, 0, none⟩ = some (.slice (some ⟨A, off, none⟩) n cap) := (z5.cell l0).trans k0
   have c1 : W.cell? ⟨Bp, 0, none⟩ = some (.int .i64 (ci : Nat)) := (z5.cell l1).trans k1
   have c2 : W.cell? ⟨Bp, 1, none⟩ = some (.int .i64 (ck : Nat)) := (z5.cell l2).trans k2
   have c3 : W.cell? ⟨A, off + ci * 4, none⟩ = some (.int .i64 xa) := (z5.cell l3).trans k3
   have c4 : W.cell? ⟨A, off + ci * 4 + 1, none⟩ = some (.int .i64 xb) := (z5.cell l4).trans k4
   have c5 : W.cell? ⟨A, off + ci * 4 + 2, none⟩ = some (.int .i64 xc) := (z5.cell l5).trans k5
   have c6 : W.cell? ⟨A, off + ci * 4 + 3, none⟩ = some (.int .i64 xd) := (z5.cell l6).trans k6
   have c7 : W.cell? ⟨A, off + ck * 4, none⟩ = some (.int .i64 ya) := (z5.cell l7).trans k7
   have c8 : W.cell? ⟨A, off + ck * 4 + 1, none⟩ = some (.int .i64 yb) := (z5.cell l8).trans k8
   have c9 : W.cell? ⟨A, off + ck * 4 + 2, none⟩ = some (.int .i64 yc) := (z5.cell l9).trans k9
   have c10 : W.cell? ⟨A, off + ck * 4 + 3, none⟩ = some (.int .i64 yd) := (z5.cell l10).trans k10
   match iq, ho with
   | 0, ho =>
     cases ho
     refine wpOpIn_of rfl rfl (by intro c h; cases h) ?_
     have hK := fun (v : Value) (W2 : World) hW hT hv => hJ2.put hS 0 10 rfl (by omega) (W' := W2) hW hT v hv
     clear ho hall hl hQ
     generalize InvQ _ _ _ w0 a0 (lq.setIfInBounds 0 true) = K at hK ⊢
     clear hJ2 hS z1 z2 z3 z4 z6 z7
     go_simp
     exact hK _ _ z5 (fun _ _ h => h) rfl
   | 1, ho =>
     cases ho
     refine wpOpIn_of rfl rfl (by intro c h; cases h) ?_
     have hK := fun (v : Value) (W2 : World) hW hT hv => hJ2.put hS 1 11 rfl (by omega) (W' := W2) hW hT v hv
     clear ho hall hl hQ
     generalize InvQ _ _ _ w0 a0 (lq.setIfInBounds 1 true) = K at hK ⊢
     clear hJ2 hS z1 z2 z3 z4 z6 z7
     go_simp
     exact hK _ _ z5 (fun _ _ h => h) rfl
   | 2, ho =>
     cases ho
     refine wpOpIn_of rfl rfl (by intro c h; cases h) ?_
     have f1 : (aq.tmps.getD 11 undef) = .pointer (some ⟨Bp, 0, none⟩) := z6 1 11 (hall { on := 1, ground := Ground.data } (by simp) rfl) rfl
     have hK := fun (v : Value) (W2 : World) hW hT hv => hJ2.put hS 2 12 rfl (by omega) (W' := W2) hW hT v hv
     clear ho hall hl hQ
     generalize InvQ _ _ _ w0 a0 (lq.setIfInBounds 2 true) = K at hK ⊢
     clear hJ2 hS z1 z2 z3 z4 z6 z7
     go_simp
     exact hK _ _ z5 (fun _ _ h => h) rfl
   | 3, ho =>
     cases ho
     refine wpOpIn_of rfl rfl (by intro c h; cases h) ?_
     have f0 : (aq.tmps.getD 10 undef) = .slice (some ⟨A, off, none⟩) n cap := z6 0 10 (hall { on := 0, ground := Ground.data } (by simp) rfl) rfl
     have f2 : (aq.tmps.getD 12 undef) = .int .i64 (ci : Nat) := z6 2 12 (hall { on := 2, ground := Ground.data } (by simp) rfl) rfl
     have hK := fun (v : Value) (W2 : World) hW hT hv => hJ2.put hS 3 13 rfl (by omega) (W' := W2) hW hT v hv
     clear ho hall hl hQ
     generalize InvQ _ _ _ w0 a0 (lq.setIfInBounds 3 true) = K at hK ⊢
     clear hJ2 hS z1 z2 z3 z4 z6 z7
     go_simp
     exact hK _ _ z5 (fun _ _ h => h) rfl
   | 4, ho =>
     cases ho
     refine wpOpIn_of rfl rfl (by intro c h; cases h) ?_
     have f3 : (aq.tmps.getD 13 undef) = .pointer (some ⟨A, off + ci * 4, none⟩) := z6 3 13 (hall { on := 3, ground := Ground.data } (by simp) rfl) rfl
     have hK := fun (v : Value) (W2 : World) hW hT hv => hJ2.put hS 4 14 rfl (by omega) (W' := W2) hW hT v hv
     clear ho hall hl hQ
     generalize InvQ _ _ _ w0 a0 (lq.setIfInBounds 4 true) = K at hK ⊢
     clear hJ2 hS z1 z2 z3 z4 z6 z7
     go_simp
     exact hK _ _ z5 (fun _ _ h => h) rfl
   | 5, ho =>
     cases ho
     refine wpOpIn_of rfl rfl (by intro c h; cases h) ?_
     have hK := fun (v : Value) (W2 : World) hW hT hv => hJ2.put hS 5 15 rfl (by omega) (W' := W2) hW hT v hv
     clear ho hall hl hQ
     generalize InvQ _ _ _ w0 a0 (lq.setIfInBounds 5 true) = K at hK ⊢
     clear hJ2 hS z1 z2 z3 z4 z6 z7
     go_simp
     exact hK _ _ z5 (fun _ _ h => h) rfl
   | 6, ho =>
     cases ho
     refine wpOpIn_of rfl rfl (by intro c h; cases h) ?_
     have hK := fun (v : Value) (W2 : World) hW hT hv => hJ2.put hS 6 16 rfl (by omega) (W' := W2) hW hT v hv
     clear ho hall hl hQ
     generalize InvQ _ _ _ w0 a0 (lq.setIfInBounds 6 true) = K at hK ⊢
     clear hJ2 hS z1 z2 z3 z4 z6 z7
     go_simp
     exact hK _ _ z5 (fun _ _ h => h) rfl
   | 7, ho =>
     cases ho
     refine wpOpIn_of rfl rfl (by intro c h; cases h) ?_
     have f6 : (aq.tmps.getD 16 undef) = .pointer (some ⟨Bp, 1, none⟩) := z6 6 16 (hall { on := 6, ground := Ground.data } (by simp) rfl) rfl
     have hK := fun (v : Value) (W2 : World) hW hT hv => hJ2.put hS 7 17 rfl (by omega) (W' := W2) hW hT v hv
     clear ho hall hl hQ
     generalize InvQ _ _ _ w0 a0 (lq.setIfInBounds 7 true) = K at hK ⊢
     clear hJ2 hS z1 z2 z3 z4 z6 z7
     go_simp
     exact hK _ _ z5 (fun _ _ h => h) rfl
   | 8, ho =>
     cases ho
     refine wpOpIn_of rfl rfl (by intro c h; cases h) ?_
     have f5 : (aq.tmps.getD 15 undef) = .slice (some ⟨A, off, none⟩) n cap := z6 5 15 (hall { on := 5, ground := Ground.data } (by simp) rfl) rfl
     have f7 : (aq.tmps.getD 17 undef) = .int .i64 (ck : Nat) := z6 7 17 (hall { on := 7, ground := Ground.data } (by simp) rfl) rfl
     have hK := fun (v : Value) (W2 : World) hW hT hv => hJ2.put hS 8 18 rfl (by omega) (W' := W2) hW hT v hv
     clear ho hall hl hQ
     generalize InvQ _ _ _ w0 a0 (lq.setIfInBounds 8 true) = K at hK ⊢
     clear hJ2 hS z1 z2 z3 z4 z6 z7
     go_simp
     exact hK _ _ z5 (fun _ _ h => h) rfl
   | 9, ho =>
     cases ho
     refine wpOpIn_of rfl rfl (by intro c h; cases h) ?_
     have f8 : (aq.tmps.getD 18 undef) = .pointer (some ⟨A, off + ck * 4, none⟩) := z6 8 18 (hall { on := 8, ground := Ground.data } (by simp) rfl) rfl
     have hK := fun (v : Value) (W2 : World) hW hT hv => hJ2.put hS 9 19 rfl (by omega) (W' := W2) hW hT v hv
     clear ho hall hl hQ
     generalize InvQ _ _ _ w0 a0 (lq.setIfInBounds 9 true) = K at hK ⊢
     clear hJ2 hS z1 z2 z3 z4 z6 z7
     go_simp
     exact hK _ _ z5 (fun _ _ h => h) rfl
   | 10, ho =>
     cases ho
     refine wpOpIn_of rfl rfl (by intro c h; cases h) ?_
     have f4 : (aq.tmps.getD 14 undef) = .agg #[.int .i64 xa, .int .i64 xb, .int .i64 xc, .int .i64 xd] := z6 4 14 (hall { on := 4, ground := Ground.data } (by simp) rfl) rfl
     have f9 : (aq.tmps.getD 19 undef) = .agg #[.int .i64 ya, .int .i64 yb, .int .i64 yc, .int .i64 yd] := z6 9 19 (hall { on := 9, ground := Ground.data } (by simp) rfl) rfl
     have hK := fun (v : Value) (W2 : World) hW hT hv => hJ2.put hS 10 20 rfl (by omega) (W' := W2) hW hT v hv
     clear ho hall hl hQ
     generalize InvQ _ _ _ w0 a0 (lq.setIfInBounds 10 true) = K at hK ⊢
     clear hJ2 hS z1 z2 z3 z4 z6 z7
     go_simp
     refine (hA W).mono ?_
     rintro e v1 ⟨rfl, hBv⟩
     exact hK _ _ (z5.trans (hBv.mono z5.size)) (fun j v h => h.mono fun g k hg => hg.step hBv) rfl
   | 11, ho =>
     cases ho
     refine wpOpIn_of rfl rfl (by intro c h; cases h) ?_
     have f10 : (aq.tmps.getD 20 undef) = .bool rr := z6 10 20 (hall { on := 10, ground := Ground.data } (by simp) rfl) rfl
     have hK := fun (v : Value) (W2 : World) hW hT hv => hJ2.put hS 11 21 rfl (by omega) (W' := W2) hW hT v hv
     clear ho hall hl hQ
     generalize InvQ _ _ _ w0 a0 (lq.setIfInBounds 11 true) = K at hK ⊢
     clear hJ2 hS z1 z2 z3 z4 z6 z7
     cases rr
     all_goals go_simp
     all_goals exact hK _ _ z5 (fun _ _ h => h) rfl
   | iq + 12, ho => simp at ho
 · intro lq aq W hJ hr
   obtain ⟨z1, z2, z3, z4, z5, z6, z7⟩ := hJ
   have hl := listed_of hr [0, 1, 2, 3, 4, 5, 6, 7, 8, 9, 10, 11] [] (by simp) (by kernel_rfl) (by rw [z1]; decide)
   exact hQ aq W z2 z3 (fun e he => z4 e (by simpa using he)) (z6 11 21 (hl 11 (by simp)) rfl) z5
def AllQ (n : Nat) (x : Nat → Int) (pre : List (Pr n)) : Prop := ∀ y ∈ pre, qtS x y.1.1 y.1.2
def SomeQ (n : Nat) (x : Nat → Int) (pre : List (Pr n)) : Prop := ∃ y ∈ pre, ¬ qtS x y.1.1 y.1.2
theorem mem_prI {n : Nat} (y : Pr n) : y ∈ prI n n := by
 obtain ⟨⟨i, k⟩, h1, h2⟩ := y
 simp only at h1 h2
 unfold prI
 refine List.mem_flatMap.2 ⟨⟨i, by omega⟩, mem_upTo.2 (by simp; omega), ?_⟩
 unfold rowP
 refine List.mem_flatMap.2 ⟨⟨k, h2⟩, mem_upTo.2 h2, ?_⟩
 simp [prOf, h1]
theorem qt_pairs {n : Nat} {x : Nat → Int} (h : sgI n x = 0) : (∀ y : Pr n, qtS x y.1.1 y.1.2) ↔ qtA n x := by
 have hall := (sgI_zero h).2
 constructor
 · intro hq
   refine ⟨h, fun i hi k hk => ?_⟩
   exact (qt_either (hall k (by omega)) (hall i hi)).2 (hq ⟨(k, i), hk, hi⟩)
 · rintro ⟨_, hq⟩ ⟨⟨k, i⟩, hk, hi⟩
   simp only at hk hi
   exact (qt_either (hall i hi) (hall k (by omega))).2 (hq i hi k hk)
set_option maxRecDepth 100000 in
set_option maxHeartbeats 8000000 in
theorem implQuietNo_any (ao : Option Addr) (n cap : Nat) (x : Nat → Int) (w : World) (hg : ¬ sgI n x = 0) (hS : SegIn w ao n x) : Calls Tryz.prog 19 #[.slice ao n cap] w (VP (.bool false) w) := by
 have b0 := (Blk.new w [.slice ao n cap] 24 rfl).alloc (.cells #[.bool false] 4)
 have bR : Blk ((w.alloc (.cells #[.slice ao n cap] 24)).alloc (.cells #[.bool false] 4)) (w.heap.size + 1) [.bool false] := Blk.new (w.alloc (.cells #[.slice ao n cap] 24)) [.bool false] 4 (by simp)
 have HB := ((Below.refl w.heap.size w).alloc (Nat.le_refl _) (.cells #[.slice ao n cap] 24)).alloc (by simp) (.cells #[.bool false] 4)
 have C := implSegsFault_any ao n cap x _ (hS.step HB)
 have hne : (sgI n x != 0) = true := by simp; omega
 revert C hne
 generalize sgI n x = o
 intro C hne
 have c0 := b0.c 0 rfl
 clear hg
 go_enter Tryz.func19, Tryz.ntmps19
 go_wp2_with fail
 refine C.mono ?_
 rintro e w1 ⟨rfl, hB⟩
 replace HB := HB.trans (hB.mono HB.size)
 replace bR := bR.step hB
 have r0 := bR.c 0 rfl; have rf := bR.f 0 rfl
 clear hB C c0 b0
 go_wp2
 refine bodyPost_ret (v := .bool false) (by simp [results, Tryz.results19, go_sem, r0]) rfl ?_
 exact ⟨rfl, HB.setCell (by simp) _⟩
set_option maxRecDepth 100000 in
set_option maxHeartbeats 8000000 in
theorem implQuietYes_any (ao : Option Addr) (n cap : Nat) (x : Nat → Int) (r : Bool) (hr : r = true ↔ ∀ y : Pr n, qtS x y.1.1 y.1.2) (w : World) (hg : sgI n x = 0) (hS : SegIn w ao n x) : Calls Tryz.prog 19 #[.slice ao n cap] w (VP (.bool r) w) := by
 obtain ⟨h40, hall⟩ := sgI_zero hg
 have b0 := (Blk.new w [.slice ao n cap] 24 rfl).alloc (.cells #[.bool false] 4)
 have bR0 := Boxed.new (w.alloc (.cells #[.slice ao n cap] 24)) 4 (.bool false)
 simp only [World.size_alloc] at bR0
 have HS := hS.step (((Below.refl w.heap.size w).alloc (Nat.le_refl _) (.cells #[.slice ao n cap] 24)).alloc (by simp) (.cells #[.bool false] 4))
 have C := fun w h => implSegsFault_any ao n cap x w h
 rw [hg] at C
 clear hg
 refine (callsIn_wide (n := 12)).1 ?_
 refine callsIn_of_wp_marks Tryz.func19 rfl trivial ?_ rfl
 simp only [Tryz.ntmps19, List.size_toArray, List.length_cons, List.length_nil, Nat.reduceAdd, Nat.reduceSub, Array.replicate_succ, Array.replicate_zero, List.push_toArray, List.append_toArray, List.nil_append, List.cons_append]
 gi_wp2_with (first
   | (refine ⟨trivial, ?_⟩; gi_at_call 46; refine (callsIn_wide.2 (C _ HS)).mono ?_; rintro e w1 ⟨rfl, hB1⟩; have b1 := b0.step hB1; have c1 := b1.c 0 rfl; have l1 := b1.lt)
   | (refine ⟨trivial, ?_⟩; gi_at_call 47; refine (callsIn_wide.2 (pairs_any _ _ _ _)).mono ?_; rintro e w' ⟨rfl, rfl⟩))
 have HBw : Below w.heap.size w w1 := (((Below.refl _ _).alloc (Nat.le_refl _) _).alloc (by simp) _).trans (hB1.mono (by simp; omega))
 have bR := (boxed_step bR0 hB1).alloc (.cells #[.slice ao n cap] 24)
 have bN := Boxed.new w1 24 (.slice ao n cap)
 have hB0 : Below w.heap.size w (w1.alloc (.cells #[.slice ao n cap] 24)) := HBw.alloc HBw.size _
 have bA := b1.alloc (.cells #[.slice ao n cap] 24)
 have hsz : (w1.alloc (.cells #[.slice ao n cap] 24)).heap.size = w1.heap.size + 1 := by simp
 have hw1 : w.heap.size + 2 ≤ w1.heap.size := by have := (boxed_step bR0 hB1).lt; omega
 obtain ⟨W0, hW0⟩ : ∃ W0, (w1.alloc (.cells #[.slice ao n cap] 24)) = W0 := ⟨_, rfl⟩
 rw [hW0] at bR bN hB0 hsz bA ⊢
 clear hW0
 clear C HS b0 hB1 b1 c1 bR0
 refine wpIn_rangeFunc_ownH rfl (by omega) (gf := 85) (lb := #[.pointer (some ⟨w1.heap.size, 0, none⟩)]) rfl trivial (enters_of Tryz.func85 (by kernel_rfl) rfl)
   (pairs_stops (12 - 1) w.heap.size w1.heap.size ao n cap h40 W0 (by omega) bN.cell) (fun h k => h.trans k) (KpB.put (by omega) (by omega)) (Below.refl _ _) (fun _ => rfl)
   (fun pre W => AllQ n x pre ∧ Below W0.heap.size W0 W)
   (fun c pre W => ((c = .ret ∧ SomeQ n x pre) ∧ Boxed W (w.heap.size + 1) 4 (.bool false)) ∧ Below w.heap.size w W)
   (OwnFrom.and (ownFrom_pure _ _) (ownFrom_below (Nat.le_refl _) (Nat.le_refl _)))
   (fun c => OwnFrom.and (OwnFrom.and (ownFrom_pure _ _) (Own.from (boxed_own _ _ _) _)) (ownFrom_below (Nat.le_refl _) (by omega)))
   ⟨(fun y hy => by cases hy), Below.refl _ _⟩
   (fun y a' W => ∃ Bs, BoxV W Bs 85 [.int .i64 (y.1.1 : Int), .int .i64 (y.1.2 : Int)] ∧ a' = { tmps := #[.slice ao n cap, .pointer (some ⟨w.heap.size, 0, none⟩), .pointer (some ⟨w.heap.size + 1, 0, none⟩), .pointer (some ⟨Bs, 0, none⟩), .slice ao n cap, .int .i64 0, .bool false, .slice ao n cap, .func (.func 85) #[] #[.pointer (some ⟨w1.heap.size, 0, none⟩)], .agg #[.int .i64 (y.1.1 : Int), .int .i64 (y.1.2 : Int)], undef, undef, undef, undef, undef, undef, undef, undef, undef, undef, undef, undef], defers := [] })
   (fun y a' _ X Y row hs hg hr => by obtain ⟨Bs, e4, e5⟩ := hs; exact ⟨Bs, boxV_own Bs 85 (fun (_ : Unit) => [.int .i64 (y.1.1 : Int), .int .i64 (y.1.2 : Int)]) () X Y row e4 hg (fun r e => (hr r e).2), e5⟩)
   ?assign ?body ?done ?stop
 case assign =>
   rintro l pre y W K ⟨hp, hB1⟩ hK
   unfold enP
   gi_wp2
   have hB2 : Below W.heap.size W (W.alloc (.cells #[.int .i64 (y.1.1 : Int), .int .i64 (y.1.2 : Int)] 85)) := (Below.refl _ W).alloc (Nat.le_refl _) _
   have hsW := hB1.size
   have b2 := BoxV.new W 85 [.int .i64 (y.1.1 : Int), .int .i64 (y.1.2 : Int)]
   exact hK _ _ (below_keeps hB2) (KpB.of hB2 (by omega) (by omega)) ⟨hp, hB1.trans (hB2.mono hB1.size)⟩ ⟨_, b2, rfl⟩
 case body =>
   rintro l pre y a' W hl ⟨rl, hr0⟩ ⟨hp, hB1⟩ ⟨Bs, bB, rfl⟩ hlt
   obtain ⟨⟨ci, ck⟩, hck, hkn⟩ := y
   simp only at hck hkn
   have hcn : ci < n := by omega
   have hcI : (ci : Int) < n := by omega
   have hdI : (ck : Int) < n := by omega
   obtain ⟨A, off, rfl, hA, hcell⟩ := hS ci hcn
   obtain ⟨A', off', e, _, hcell2⟩ := hS ck hkn
   cases e
   have hBW : Below w.heap.size w W := hB0.trans (hB1.mono (by have := hB0.size; omega))
   have e0 : ∀ o, W.cell? ⟨A, o, none⟩ = w.cell? ⟨A, o, none⟩ := fun o => hBW.cell (p := ⟨A, o, none⟩) hA
   have q0 := (e0 _).trans (hcell 0 (by omega)); have q1 := (e0 _).trans (hcell 1 (by omega)); have q2 := (e0 _).trans (hcell 2 (by omega)); have q3 := (e0 _).trans (hcell 3 (by omega))
   have p0 := (e0 _).trans (hcell2 0 (by omega)); have p1 := (e0 _).trans (hcell2 1 (by omega)); have p2 := (e0 _).trans (hcell2 2 (by omega)); have p3 := (e0 _).trans (hcell2 3 (by omega))
   simp only [Nat.add_zero] at q0 p0
   have hA' : A < W.heap.size := Nat.lt_of_lt_of_le hA hBW.size
   obtain ⟨rr, hrr⟩ : ∃ rr : Bool, rr = true ↔ qtS x ci ck := ⟨@decide (qtS x ci ck) (Classical.propDecidable _), by simp⟩
   have AQ := areQuiet_det (x (ci * 4)) (x (ci * 4 + 1)) (x (ci * 4 + 2)) (x (ci * 4 + 3)) (x (ck * 4)) (x (ck * 4 + 1)) (x (ck * 4 + 2)) (x (ck * 4 + 3)) (hall ci hcn) (hall ck hkn) rr hrr
   have bA1 := bA.step hB1
   have bR1 := boxed_step bR hB1
   gi_wp2
   refine qtIr (B1 := w.heap.size) (Bp := Bs) (A := A) (off := off) (n := n) (cap := cap) (ci := ci) (ck := ck) hcI hdI AQ rfl rfl (bA1.c 0 rfl) bA1.lt (bB.blk.c 0 rfl) bB.lt (bB.blk.c 1 rfl) bB.lt q0 hA' q1 hA' q2 hA' q3 hA' p0 hA' p1 hA' p2 hA' p3 hA' rfl ?_
   rintro ⟨tm, df⟩ w3 hz hdf hoff hV hB3
   simp only at hz hdf hoff hV
   subst hdf
   have hV2 : tm.getD 21 undef = .bool (!rr) := hV
   clear hV
   have htm := tmps_fold [10, 11, 12, 13, 14, 15, 16, 17, 18, 19, 20, 21] tm _ hz hoff
   simp only [List.foldl, List.setIfInBounds_toArray, List.set_cons_zero, List.set_cons_succ, hV2] at htm
   clear hz hoff
   generalize tm.getD 10 undef = tz0, tm.getD 11 undef = tz1, tm.getD 12 undef = tz2, tm.getD 13 undef = tz3, tm.getD 14 undef = tz4, tm.getD 15 undef = tz5, tm.getD 16 undef = tz6, tm.getD 17 undef = tz7, tm.getD 18 undef = tz8, tm.getD 19 undef = tz9, tm.getD 20 undef = tz10 at htm
   clear hV2
   subst htm
   have hs3 := hB3.size
   have hsW := hB1.size
   have HBN := hBW.trans (hB3.mono hBW.size)
   have bR3 := boxed_step bR1 hB3
   clear q0 q1 q2 q3 p0 p1 p2 p3 hcell hcell2 e0 hA hA' AQ bA1 bR1 bB
   cases rr
   · have HN : Hid (¬ qtS x ci ck) := fun h => by have := hrr.2 h; cases this
     have cR := bR3.cell
     have fR := bR3.frozen
     clear hrr
     have F1 : Hid (KeepsFrom W0.heap.size W (w3.setCell ⟨w.heap.size + 1, 0, none⟩ (.bool false))) := (below_keeps hB3).trans ((KeepsOthers.setCell _ _ _).from _)
     have F2 : Hid (SomeQ n x (pre ++ [⟨(ci, ck), hck, hkn⟩])) := ⟨⟨(ci, ck), hck, hkn⟩, List.mem_append.2 (.inr (List.mem_singleton.2 rfl)), HN.out⟩
     have F3 : Hid (Boxed (w3.setCell ⟨w.heap.size + 1, 0, none⟩ (.bool false)) (w.heap.size + 1) 4 (.bool false)) := bR3.set _
     have F4 : Hid (Below w.heap.size w (w3.setCell ⟨w.heap.size + 1, 0, none⟩ (.bool false))) := HBN.setCell (p := ⟨w.heap.size + 1, 0, none⟩) (by simp) _
     have hsz' : w1.heap.size + 1 = W0.heap.size := hsz.symm
     clear bR3 HBN hB3
     gi_wp2
     exact ⟨F1.out, ⟨⟨rfl, F2.out⟩, F3.out⟩, F4.out⟩
   · have HN : Hid (qtS x ci ck) := hrr.1 rfl
     clear hrr
     have HFIN : Hid (KeepsFrom W0.heap.size W w3 ∧ KpB w.heap.size w1.heap.size W w3 ∧ AllQ n x (pre ++ [⟨(ci, ck), hck, hkn⟩]) ∧ Below W0.heap.size W0 w3) := by
       refine ⟨below_keeps hB3, KpB.of hB3 (by omega) (by omega), fun y hy => ?_, hB1.trans (hB3.mono hB1.size)⟩
       rcases List.mem_append.1 hy with h | h
       · exact hp y h
       · rw [List.mem_singleton] at h
         subst h
         exact HN.out
     clear bR3 HBN hB3
     gi_wp2
     exact HFIN.out
 case done =>
   rintro D zs W hD rfl ⟨hp, hB1⟩ hK
   have bR1 := boxed_step bR hB1
   have cR := bR1.cell
   have fR := bR1.frozen
   have HF : Hid (r = true) := hr.2 (fun y => hp y (mem_prI y))
   gi_wp2
   have hK' := (KeepsOthers.setCell W ⟨w.heap.size + 1, 0, none⟩ (.bool true)).same D _ hK rfl
   refine ⟨by simp, .inl ⟨_, _, rfl, run_takeDeferred hK', ?_⟩⟩
   have hc5 := cell_kept (bR1.set (.bool true)).cell (grownBy_putObj' _ D (.deferred none)) (fun r e => by cases e; exact ⟨_, hK', rfl⟩)
   have hBW : Below w.heap.size w W := hB0.trans (hB1.mono (by have := hB0.size; omega))
   refine ⟨.bool true, ?_, by rw [HF.out], (hBW.setCell (p := ⟨w.heap.size + 1, 0, none⟩) (by simp) _).trans (belowK_b (w := w) (Nat.le_refl _) _ D _ _ (by omega) hK' rfl rfl)⟩
   simp [results, Tryz.results19, go_sem, hc5]
 case stop =>
   rintro D c pre W hD hpre ⟨⟨⟨rfl, y, _, hq⟩, bR1⟩, hB1⟩ hK
   have cR := bR1.cell
   have HF : Hid (r = false) := by
     show _ = _
     rw [Bool.eq_false_iff]
     exact fun h => hq (hr.1 h y)
   gi_wp2
   refine ⟨by simp, .inl ⟨_, _, rfl, run_takeDeferred hK, ?_⟩⟩
   have hc5 := cell_kept bR1.cell (grownBy_putObj' _ D (.deferred none)) (fun r e => by cases e; exact ⟨_, hK, rfl⟩)
   refine ⟨.bool false, ?_, by rw [HF.out], hB1.trans (belowK_b (w := w) (Nat.le_refl _) _ D _ _ (by omega) hK rfl rfl)⟩
   simp [results, Tryz.results19, go_sem, hc5]
theorem implQuiet_any (ao : Option Addr) (n cap : Nat) (x : Nat → Int) (r : Bool) (hr : r = true ↔ qtA n x) (w : World) (hS : SegIn w ao n x) : Calls Tryz.prog 19 #[.slice ao n cap] w (VP (.bool r) w) := by
 by_cases hg : sgI n x = 0
 · exact implQuietYes_any ao n cap x r (hr.trans (qt_pairs hg).symm) w hg hS
 · have : r = false := by
     rw [Bool.eq_false_iff]
     exact fun h => hg (hr.1 h).1
   rw [this]
   exact implQuietNo_any ao n cap x w hg hS
set_option maxRecDepth 100000 in
set_option maxHeartbeats 400000 in
theorem specSegOf_any (x y u v A B C D : Int) (l k : Bool) (hl : lessI u v x y = l) (hk : segOk A B C D = k) (hA : cond l u x = A) (hB : cond l v y = B) (hC : cond l x u = C) (hD : cond l y v = D) (w : World) :
   Calls Tryz.prog 79 #[Sp x y, Sp u v] w (VP (.tuple #[Sg (cond k A 0) (cond k B 0) (cond k C 0) (cond k D 0), .bool k]) w) := by
 cases l <;> simp only [cond_true, cond_false] at hA hB hC hD <;> subst hA hB hC hD
 · have B0 := Blk.new w [.int .i64 x, .int .i64 y] 51 rfl
   have HB0 : Below w.heap.size w _ := (Below.refl _ w).alloc (Nat.le_refl _) (.cells #[.int .i64 x, .int .i64 y] 51)
   have B1 := Blk.new (w.alloc (.cells #[.int .i64 x, .int .i64 y] 51)) [.int .i64 u, .int .i64 v] 51 (g := w.heap.size + 1) (by simp)
   replace B0 := B0.alloc (.cells #[.int .i64 u, .int .i64 v] 51)
   replace HB0 := HB0.alloc (by simp) (.cells #[.int .i64 u, .int .i64 v] 51)
   have B2 := Blk.new ((w.alloc (.cells #[.int .i64 x, .int .i64 y] 51)).alloc (.cells #[.int .i64 u, .int .i64 v] 51)) [.int .i64 0, .int .i64 0, .int .i64 0, .int .i64 0] 53 (g := w.heap.size + 1 + 1) (by simp)
   replace B0 := B0.alloc (.cells #[.int .i64 0, .int .i64 0, .int .i64 0, .int .i64 0] 53)
   replace B1 := B1.alloc (.cells #[.int .i64 0, .int .i64 0, .int .i64 0, .int .i64 0] 53)
   replace HB0 := HB0.alloc (by simp; omega) (.cells #[.int .i64 0, .int .i64 0, .int .i64 0, .int .i64 0] 53)
   go_enter Tryz.func79, Tryz.ntmps79
   go_wp2_with fail
   refine (l4Less_any _ _ _ _ false hl _).mono ?_
   rintro e w1 ⟨rfl, hB⟩
   replace B0 := B0.step hB; replace B1 := B1.step hB; replace B2 := B2.step hB
   have HB : Below w.heap.size w w1 := HB0.trans (hB.mono HB0.size)
   clear hB HB0
   have cB00 := B0.c 0 rfl; have fB00 := B0.f 0 rfl; have cB01 := B0.c 1 rfl; have fB01 := B0.f 1 rfl; have cB10 := B1.c 0 rfl; have fB10 := B1.f 0 rfl; have cB11 := B1.c 1 rfl; have fB11 := B1.f 1 rfl; have cB20 := B2.c 0 rfl; have fB20 := B2.f 0 rfl; have cB21 := B2.c 1 rfl; have fB21 := B2.f 1 rfl; have cB22 := B2.c 2 rfl; have fB22 := B2.f 2 rfl; have cB23 := B2.c 3 rfl; have fB23 := B2.f 3 rfl; have ltB0 := B0.lt; have ltB1 := B1.lt; have ltB2 := B2.lt
   go_wp2_with fail
   have D2 := B2.alloc (.cells #[.int .i64 x, .int .i64 y, .int .i64 u, .int .i64 v] 53)
   have D3 := Blk.new w1 [.int .i64 x, .int .i64 y, .int .i64 u, .int .i64 v] 53 rfl
   have HC := HB.alloc HB.size (.cells #[.int .i64 x, .int .i64 y, .int .i64 u, .int .i64 v] 53)
   refine (specSegOk_any _ _ _ _ k hk _).mono ?_
   rintro e w2 ⟨rfl, hB⟩
   replace D2 := D2.step hB
   replace D3 := D3.step hB
   have HD : Below w.heap.size w w2 := HC.trans (hB.mono HC.size)
   clear hB HC HB B0 B1 B2 cB00 fB00 cB01 fB01 cB10 fB10 cB11 fB11 cB20 fB20 cB21 fB21 cB22 fB22 cB23 fB23 ltB0 ltB1 ltB2
   have cD20 := D2.c 0 rfl; have fD20 := D2.f 0 rfl; have cD21 := D2.c 1 rfl; have fD21 := D2.f 1 rfl; have cD22 := D2.c 2 rfl; have fD22 := D2.f 2 rfl; have cD23 := D2.c 3 rfl; have fD23 := D2.f 3 rfl; have cD30 := D3.c 0 rfl; have fD30 := D3.f 0 rfl; have cD31 := D3.c 1 rfl; have fD31 := D3.f 1 rfl; have cD32 := D3.c 2 rfl; have fD32 := D3.f 2 rfl; have cD33 := D3.c 3 rfl; have fD33 := D3.f 3 rfl
   have ltD2 := D2.lt; have ltD3 := D3.lt
   cases k
   · go_wp2
     refine bodyPost_ret (v := .tuple #[Sg 0 0 0 0, .bool false]) (by simp [results, Tryz.results79, go_sem, cD20, cD21, cD22, cD23]) rfl ?_
     refine ⟨rfl, ?_⟩
     repeat' (refine Below.setCell ?_ (by simp; try omega) _)
     exact HD
   · go_wp2
     refine bodyPost_ret (v := .tuple #[Sg x y u v, .bool true]) (by simp [results, Tryz.results79, go_sem, cD20, cD21, cD22, cD23]) rfl ?_
     refine ⟨rfl, ?_⟩
     repeat' (refine Below.setCell ?_ (by simp; try omega) _)
     exact HD
 · have B0 := Blk.new w [.int .i64 x, .int .i64 y] 51 rfl
   have HB0 : Below w.heap.size w _ := (Below.refl _ w).alloc (Nat.le_refl _) (.cells #[.int .i64 x, .int .i64 y] 51)
   have B1 := Blk.new (w.alloc (.cells #[.int .i64 x, .int .i64 y] 51)) [.int .i64 u, .int .i64 v] 51 (g := w.heap.size + 1) (by simp)
   replace B0 := B0.alloc (.cells #[.int .i64 u, .int .i64 v] 51)
   replace HB0 := HB0.alloc (by simp) (.cells #[.int .i64 u, .int .i64 v] 51)
   have B2 := Blk.new ((w.alloc (.cells #[.int .i64 x, .int .i64 y] 51)).alloc (.cells #[.int .i64 u, .int .i64 v] 51)) [.int .i64 0, .int .i64 0, .int .i64 0, .int .i64 0] 53 (g := w.heap.size + 1 + 1) (by simp)
   replace B0 := B0.alloc (.cells #[.int .i64 0, .int .i64 0, .int .i64 0, .int .i64 0] 53)
   replace B1 := B1.alloc (.cells #[.int .i64 0, .int .i64 0, .int .i64 0, .int .i64 0] 53)
   replace HB0 := HB0.alloc (by simp; omega) (.cells #[.int .i64 0, .int .i64 0, .int .i64 0, .int .i64 0] 53)
   go_enter Tryz.func79, Tryz.ntmps79
   go_wp2_with fail
   refine (l4Less_any _ _ _ _ true hl _).mono ?_
   rintro e w1 ⟨rfl, hB⟩
   replace B0 := B0.step hB; replace B1 := B1.step hB; replace B2 := B2.step hB
   have HB : Below w.heap.size w w1 := HB0.trans (hB.mono HB0.size)
   clear hB HB0
   have cB00 := B0.c 0 rfl; have fB00 := B0.f 0 rfl; have cB01 := B0.c 1 rfl; have fB01 := B0.f 1 rfl; have cB10 := B1.c 0 rfl; have fB10 := B1.f 0 rfl; have cB11 := B1.c 1 rfl; have fB11 := B1.f 1 rfl; have cB20 := B2.c 0 rfl; have fB20 := B2.f 0 rfl; have cB21 := B2.c 1 rfl; have fB21 := B2.f 1 rfl; have cB22 := B2.c 2 rfl; have fB22 := B2.f 2 rfl; have cB23 := B2.c 3 rfl; have fB23 := B2.f 3 rfl; have ltB0 := B0.lt; have ltB1 := B1.lt; have ltB2 := B2.lt
   go_wp2_with fail
   have D2 := ((((B2.setO (p := ⟨w.heap.size, 0, none⟩) (by simp; omega) (.int .i64 u)).setO (p := ⟨w.heap.size, 1, none⟩) (by simp; omega) (.int .i64 v)).setO (p := ⟨w.heap.size + 1, 0, none⟩) (by simp) (.int .i64 x)).setO (p := ⟨w.heap.size + 1, 1, none⟩) (by simp) (.int .i64 y)).alloc (.cells #[.int .i64 u, .int .i64 v, .int .i64 x, .int .i64 y] 53)
   have HC := ((((HB.setCell (p := ⟨w.heap.size, 0, none⟩) (by simp) (.int .i64 u)).setCell (p := ⟨w.heap.size, 1, none⟩) (by simp) (.int .i64 v)).setCell (p := ⟨w.heap.size + 1, 0, none⟩) (by simp) (.int .i64 x)).setCell (p := ⟨w.heap.size + 1, 1, none⟩) (by simp) (.int .i64 y))
   have D3 := Blk.new ((((w1.setCell ⟨w.heap.size, 0, none⟩ (.int .i64 u)).setCell ⟨w.heap.size, 1, none⟩ (.int .i64 v)).setCell ⟨w.heap.size + 1, 0, none⟩ (.int .i64 x)).setCell ⟨w.heap.size + 1, 1, none⟩ (.int .i64 y)) [.int .i64 u, .int .i64 v, .int .i64 x, .int .i64 y] 53 (g := w1.heap.size) (by simp [World.setCell])
   replace HC := HC.alloc (by have := HB.size; simpa [World.setCell] using this) (.cells #[.int .i64 u, .int .i64 v, .int .i64 x, .int .i64 y] 53)
   refine (specSegOk_any _ _ _ _ k hk _).mono ?_
   rintro e w2 ⟨rfl, hB⟩
   replace D2 := D2.step hB
   replace D3 := D3.step hB
   have HD : Below w.heap.size w w2 := HC.trans (hB.mono HC.size)
   clear hB HC HB B0 B1 B2 cB00 fB00 cB01 fB01 cB10 fB10 cB11 fB11 cB20 fB20 cB21 fB21 cB22 fB22 cB23 fB23 ltB0 ltB1 ltB2
   have cD20 := D2.c 0 rfl; have fD20 := D2.f 0 rfl; have cD21 := D2.c 1 rfl; have fD21 := D2.f 1 rfl; have cD22 := D2.c 2 rfl; have fD22 := D2.f 2 rfl; have cD23 := D2.c 3 rfl; have fD23 := D2.f 3 rfl; have cD30 := D3.c 0 rfl; have fD30 := D3.f 0 rfl; have cD31 := D3.c 1 rfl; have fD31 := D3.f 1 rfl; have cD32 := D3.c 2 rfl; have fD32 := D3.f 2 rfl; have cD33 := D3.c 3 rfl; have fD33 := D3.f 3 rfl
   have ltD2 := D2.lt; have ltD3 := D3.lt
   cases k
   · go_wp2
     refine bodyPost_ret (v := .tuple #[Sg 0 0 0 0, .bool false]) (by simp [results, Tryz.results79, go_sem, cD20, cD21, cD22, cD23]) rfl ?_
     refine ⟨rfl, ?_⟩
     repeat' (refine Below.setCell ?_ (by simp; try omega) _)
     exact HD
   · go_wp2
     refine bodyPost_ret (v := .tuple #[Sg u v x y, .bool true]) (by simp [results, Tryz.results79, go_sem, cD20, cD21, cD22, cD23]) rfl ?_
     refine ⟨rfl, ?_⟩
     repeat' (refine Below.setCell ?_ (by simp; try omega) _)
     exact HD
structure Kept (g : Nat) (w w' : World) : Prop where
 os : w'.os = w.os
 tape : w'.tape = w.tape
 output : w'.output = w.output
 size : w.heap.size ≤ w'.heap.size
 block : ∀ k, k < w.heap.size → k ≠ g → w'.heap[k]? = w.heap[k]?
 other : ∀ j, j ≠ 1 → g < w.heap.size → w'.cell? ⟨g, j, none⟩ = w.cell? ⟨g, j, none⟩
theorem Kept.refl (g : Nat) (w : World) : Kept g w w := ⟨rfl, rfl, rfl, Nat.le_refl _, fun _ _ _ => rfl, fun _ _ _ => rfl⟩
theorem Kept.trans {g : Nat} {a b c : World} (h : Kept g a b) (k : Kept g b c) : Kept g a c :=
 ⟨k.os.trans h.os, k.tape.trans h.tape, k.output.trans h.output, Nat.le_trans h.size k.size, fun i hi hg => (k.block i (Nat.lt_of_lt_of_le hi h.size) hg).trans (h.block i hi hg), fun j hj hl => (k.other j hj (Nat.lt_of_lt_of_le hl h.size)).trans (h.other j hj hl)⟩
theorem Kept.of {g : Nat} {a b : World} (h : Below a.heap.size a b) : Kept g a b := ⟨h.os, h.tape, h.output, h.size, fun i hi _ => h.block i hi, fun j _ hl => h.cell (p := ⟨g, j, none⟩) hl⟩
theorem Kept.drewN {g : Nat} {a b : World} (h : Kept g a b) (n : Nat) : Kept g a (b.drewN n) := ⟨h.os, h.tape, h.output, h.size, h.block, h.other⟩
theorem Kept.set {g : Nat} {a b : World} (h : Kept g a b) (u : Value) : Kept g a (b.setCell ⟨g, 1, none⟩ u) :=
 ⟨h.os, h.tape, h.output, by simpa [World.setCell] using h.size, fun k hk hg => (Below.heap_setCell _ _ _ _ hg).trans (h.block k hk hg), fun j hj hl => (World.cell?_setCell_other _ _ _ _ (by intro e; simp only [Addr.mk.injEq] at e; omega)).trans (h.other j hj hl)⟩
theorem Kept.alloc {g : Nat} {a b : World} (h : Kept g a b) (o : Obj) : Kept g a (b.alloc o) := h.trans (Kept.of ((Below.refl _ _).alloc (Nat.le_refl _) o))
theorem Kept.below {g B : Nat} {a b : World} (h : Kept g a b) (hB : B ≤ g) (hB' : B ≤ a.heap.size) : Below B a b := ⟨h.os, h.tape, h.output, h.size, fun k hk => h.block k (by omega) (by omega)⟩
theorem Blk.kept {W W' : World} {g h : Nat} {vs : List Value} (H : Blk W h vs) (k : Kept g W W') (hne : h ≠ g) : Blk W' h vs := by
 have e := k.block h H.lt hne
 refine ⟨Nat.lt_of_lt_of_le H.lt k.size, fun i v hi => ⟨?_, ?_⟩⟩
 · exact (World.cell?_of_block (w := W) e).trans (H.c i hi)
 · exact (World.frozen?_of_block (w := W) e).trans (H.f i hi)
structure Rdr (w : World) (g : Nat) (ao : Option Addr) (n cap : Nat) (cs : List Int) : Prop where
 blk : ∃ p : Nat, p ≤ n ∧ Blk w g [.slice ao n cap, .int .i64 p]
 bytes : ∀ i, (h : i < cs.length) → ∃ b off, ao = some ⟨b, off, none⟩ ∧ b < g ∧ w.cell? ⟨b, off + i, none⟩ = some (.int .u8 cs[i])
 len : cs.length = n
 small : n ≤ 1048576
 byte : ∀ c ∈ cs, 0 ≤ c ∧ c < 256
theorem Rdr.lt {w : World} {g : Nat} {ao : Option Addr} {n cap : Nat} {cs : List Int} (h : Rdr w g ao n cap cs) : g < w.heap.size := by
 obtain ⟨p, _, B⟩ := h.blk
 exact B.lt
theorem Rdr.step {w w' : World} {g : Nat} {ao : Option Addr} {n cap : Nat} {cs : List Int} (h : Rdr w g ao n cap cs) (hB : Below w.heap.size w w') : Rdr w' g ao n cap cs := by
 obtain ⟨p, hp, B⟩ := h.blk
 refine ⟨⟨p, hp, B.step hB⟩, fun i hi => ?_, h.len, h.small, h.byte⟩
 obtain ⟨b, off, e, hb, hc⟩ := h.bytes i hi
 exact ⟨b, off, e, hb, (hB.cell (p := ⟨b, off + i, none⟩) (show b < w.heap.size by have := B.lt; omega)).trans hc⟩
theorem Rdr.alloc {w : World} {g : Nat} {ao : Option Addr} {n cap : Nat} {cs : List Int} (h : Rdr w g ao n cap cs) (o : Obj) : Rdr (w.alloc o) g ao n cap cs := h.step ((Below.refl _ _).alloc (Nat.le_refl _) o)
theorem Rdr.drewN {w : World} {g : Nat} {ao : Option Addr} {n cap : Nat} {cs : List Int} (h : Rdr w g ao n cap cs) (k : Nat) : Rdr (w.drewN k) g ao n cap cs := ⟨h.blk, h.bytes, h.len, h.small, h.byte⟩
theorem Rdr.put {w : World} {g : Nat} {ao : Option Addr} {n cap : Nat} {cs : List Int} (h : Rdr w g ao n cap cs) (p : Nat) (hp : p ≤ n) : Rdr (w.setCell ⟨g, 1, none⟩ (.int .i64 p)) g ao n cap cs := by
 obtain ⟨q, hq, B⟩ := h.blk
 refine ⟨⟨p, hp, B.setI 1 (by simp) _⟩, fun i hi => ?_, h.len, h.small, h.byte⟩
 obtain ⟨b, off, e, hb, hc⟩ := h.bytes i hi
 exact ⟨b, off, e, hb, (World.cell?_setCell_other _ _ _ _ (by intro e; simp only [Addr.mk.injEq] at e; omega)).trans hc⟩
def RdP (g : Nat) (ao : Option Addr) (n cap : Nat) (cs : List Int) (Q : Value → Prop) (w : World) (e : Ending) (w' : World) : Prop := ∃ v, e = .returned v ∧ Q v ∧ Rdr w' g ao n cap cs ∧ Kept g w w'
def IsIn (a b : Int) (v : Value) : Prop := ∃ x : Int, v = .int .i64 x ∧ a ≤ x ∧ x < b
set_option maxRecDepth 100000 in
set_option maxHeartbeats 1000000 in
theorem next_any (g : Nat) (ao : Option Addr) (n cap : Nat) (cs : List Int) (w : World) (h : Rdr w g ao n cap cs) :
   Calls Tryz.prog 130 #[.pointer (some ⟨g, 0, none⟩)] w (RdP g ao n cap cs (IsIn 0 256) w) := by
 obtain ⟨p, hp, B⟩ := h.blk
 have b0 := B.c 0 rfl; have b1 := B.c 1 rfl; have f1 := B.f 1 rfl; have bl := B.lt
 by_cases hq : p < n
 · have hpl : p < cs.length := by rw [h.len]; exact hq
   obtain ⟨b, off, rfl, hb, hc⟩ := h.bytes p hpl
   obtain ⟨y0, y1⟩ := h.byte _ (List.getElem_mem hpl)
   have R := fun k => (h.drewN k).put (p + 1) (by omega)
   have hs := h.small
   generalize cs[p] = y at *
   have hne : g ≠ b := by omega
   have i1 : (p : Int) < n := by omega
   clear h B
   go_enter Tryz.func130, Tryz.ntmps130
   go_wp2
   go_quiet (fail)
   go_wp2
   go_quiet (fail)
   go_wp2
   go_ret
   exact ⟨_, rfl, ⟨y, rfl, y0, y1⟩, (R _).drewN _, (((Kept.refl _ _).drewN _).set _).drewN _⟩
 · obtain rfl : p = n := by omega
   have hs := h.small
   go_enter Tryz.func130, Tryz.ntmps130
   go_wp2
   go_quiet (fail)
   go_wp2
   go_ret
   exact ⟨_, rfl, ⟨0, rfl, by decide, by decide⟩, h.drewN _, (Kept.refl _ _).drewN _⟩
set_option maxRecDepth 100000 in
set_option maxHeartbeats 1000000 in
theorem below_any (m : Int) (h2 : 2 ≤ m) (h256 : m ≤ 256) (g : Nat) (ao : Option Addr) (n cap : Nat) (cs : List Int) (w : World) (h : Rdr w g ao n cap cs) :
   Calls Tryz.prog 75 #[.pointer (some ⟨g, 0, none⟩), .int .i64 m] w (RdP g ao n cap cs (IsIn 0 m) w) := by
 go_enter Tryz.func75, Tryz.ntmps75
 go_wp2_with fail
 all_goals first | (exfalso; omega) | skip
 refine (next_any g ao n cap cs _ h).mono ?_
 rintro e w1 ⟨_, rfl, ⟨x, rfl, x0, x1⟩, R, K⟩
 have hm : m ≠ 0 := by omega
 go_wp2
 go_ret
 exact ⟨_, rfl, ⟨x % m, rfl, Int.emod_nonneg _ hm, Int.emod_lt_of_pos _ (by omega)⟩, R, K⟩
theorem or_word {a b : Int} (ha : Word a) (hb : Word b) : Word (bits .or .u64 a b) := by
 obtain ⟨a0, a1⟩ := ha
 obtain ⟨b0, b1⟩ := hb
 obtain ⟨a, rfl⟩ := Int.eq_ofNat_of_zero_le a0
 obtain ⟨b, rfl⟩ := Int.eq_ofNat_of_zero_le b0
 rw [bits_or_u64_nat a b (by omega) (by omega)]
 have := Nat.or_lt_two_pow (n := 64) (x := a) (y := b) (by omega) (by omega)
 exact ⟨by omega, by omega⟩
def IsWord (v : Value) : Prop := ∃ x : Int, v = .int .u64 x ∧ Word x
def IsBool (v : Value) : Prop := ∃ b, v = .bool b
set_option maxRecDepth 100000 in
set_option maxHeartbeats 1000000 in
theorem once_any (m : Int) (h2 : 2 ≤ m) (h256 : m ≤ 256) (g : Nat) (ao : Option Addr) (n cap : Nat) (cs : List Int) (w : World) (h : Rdr w g ao n cap cs) :
   Calls Tryz.prog 40 #[.pointer (some ⟨g, 0, none⟩), .int .i64 m] w (RdP g ao n cap cs IsBool w) := by
 go_enter Tryz.func40, Tryz.ntmps40
 go_wp2_with fail
 refine (below_any m h2 h256 g ao n cap cs _ h).mono ?_
 rintro e w1 ⟨_, rfl, ⟨x, rfl, x0, x1⟩, R, K⟩
 go_wp2
 go_ret
 exact ⟨_, rfl, ⟨_, rfl⟩, R, K⟩
set_option maxRecDepth 100000 in
set_option maxHeartbeats 1000000 in
theorem word_any (g : Nat) (ao : Option Addr) (n cap : Nat) (cs : List Int) (w : World) (h : Rdr w g ao n cap cs) :
   Calls Tryz.prog 98 #[.pointer (some ⟨g, 0, none⟩)] w (RdP g ao n cap cs IsWord w) := by
 go_enter Tryz.func98, Tryz.ntmps98
 go_wp2
 go_loopw [3, 4] (fun o i wr => ∃ (k : Nat) (x : Int), k ≤ 8 ∧ i = .int .i64 k ∧ o = .int .u64 x ∧ Word x ∧ Rdr wr g ao n cap cs ∧ Kept g w wr) (fun _ i _ => 8 - (intOf i).toNat)
 case atStart => exact ⟨0, 0, by omega, rfl, rfl, ⟨by decide, by decide⟩, h, Kept.refl _ _⟩
 case round =>
   clear h
   obtain ⟨k, x, hk, rfl, rfl, hx, R, K⟩ := hrel
   by_cases hk8 : k < 8
   · have i1 : (k : Int) < 8 := by omega
     go_wp2_with fail
     refine (next_any g ao n cap cs _ R).mono ?_
     rintro e w1 ⟨_, rfl, ⟨y, rfl, y0, y1⟩, R1, K1⟩
     replace K := K.trans K1
     clear R K1
     have hy : IntKind.u64.wrap y = y := by rw [IntKind.wrap_u64]; omega
     have OW := or_word (a := IntKind.u64.wrap (x * 256)) (b := y) (by rw [IntKind.wrap_u64]; exact ⟨by omega, by omega⟩) ⟨y0, by omega⟩
     clear hx
     go_wp2
     go_roundw
     case rel => exact ⟨k + 1, _, by omega, by go_num, rfl, OW, R1, K⟩
     case measure => simp [intOf]; omega
   · obtain rfl : k = 8 := by omega
     go_wp2
     go_ret
     exact ⟨_, rfl, ⟨x, rfl, hx⟩, R, K⟩
theorem Rdr.setN {w : World} {g : Nat} {ao : Option Addr} {n cap : Nat} {cs : List Int} (h : Rdr w g ao n cap cs) {p : Addr} (hp : g < p.block) (u : Value) : Rdr (w.setCell p u) g ao n cap cs := by
 obtain ⟨q, hq, B⟩ := h.blk
 refine ⟨⟨q, hq, B.setO (by omega) u⟩, fun i hi => ?_, h.len, h.small, h.byte⟩
 obtain ⟨b, off, e, hb, hc⟩ := h.bytes i hi
 exact ⟨b, off, e, hb, (World.cell?_setCell_other _ _ _ _ (by intro e; rw [e] at hp; simp at hp; omega)).trans hc⟩
theorem Kept.setN {g : Nat} {a b : World} (h : Kept g a b) {p : Addr} (hp : a.heap.size ≤ p.block) (hg : g ≠ p.block) (u : Value) : Kept g a (b.setCell p u) :=
 ⟨h.os, h.tape, h.output, by simpa [World.setCell] using h.size, fun k hk hne => (Below.heap_setCell _ _ _ _ (by omega)).trans (h.block k hk hne), fun j hj hl => (World.cell?_setCell_other _ _ _ _ (by intro e; rw [e] at hg; exact hg rfl)).trans (h.other j hj hl)⟩
structure Code (w : World) (ao : Option Addr) (n : Nat) (cs : List Int) : Prop where
 bytes : ∀ i, (h : i < cs.length) → ∃ b off, ao = some ⟨b, off, none⟩ ∧ b < w.heap.size ∧ w.cell? ⟨b, off + i, none⟩ = some (.int .u8 cs[i])
 len : cs.length = n
 small : n ≤ 1048576
 byte : ∀ c ∈ cs, 0 ≤ c ∧ c < 256
theorem Code.below {w w' : World} {ao : Option Addr} {n : Nat} {cs : List Int} (h : Code w ao n cs) (hB : Below w.heap.size w w') : Code w' ao n cs := by
 refine ⟨fun i hi => ?_, h.len, h.small, h.byte⟩
 obtain ⟨b, off, e, hb, hc⟩ := h.bytes i hi
 exact ⟨b, off, e, Nat.lt_of_lt_of_le hb hB.size, (hB.cell (p := ⟨b, off + i, none⟩) hb).trans hc⟩
def OpenP (ao : Option Addr) (n cap : Nat) (cs : List Int) (w : World) (e : Ending) (w' : World) : Prop := ∃ G, e = .returned (.pointer (some ⟨G, 0, none⟩)) ∧ w.heap.size ≤ G ∧ Rdr w' G ao n cap cs ∧ Below w.heap.size w w'
theorem open_any (ao : Option Addr) (n cap : Nat) (cs : List Int) (w : World) (h : Code w ao n cs) :
   Calls Tryz.prog 39 #[.slice ao n cap] w (OpenP ao n cap cs w) := by
 go_enter Tryz.func39, Tryz.ntmps39
 go_wp2
 go_ret
 refine ⟨w.heap.size, rfl, Nat.le_refl _, ⟨⟨0, Nat.zero_le _, Blk.new w [.slice ao n cap, .int .i64 0] 116 rfl⟩, fun i hi => ?_, h.len, h.small, h.byte⟩, (Below.refl _ _).alloc (Nat.le_refl _) _⟩
 obtain ⟨b, off, e, hb, hc⟩ := h.bytes i hi
 exact ⟨b, off, e, hb, cell_alloc hb hc⟩
set_option maxRecDepth 100000 in
set_option maxHeartbeats 1000000 in
theorem near_pm (g : Nat) (ao : Option Addr) (n cap : Nat) (cs : List Int) (w : World) (h : Rdr w g ao n cap cs) :
   Calls Tryz.prog 77 #[.pointer (some ⟨g, 0, none⟩), .int .i64 (-1000000), .int .i64 1000000] w (RdP g ao n cap cs (IsIn (-1000000) 1000001) w) := by
 go_enter Tryz.func77, Tryz.ntmps77
 go_wp2_with fail
 refine (below_any 8 (by decide) (by decide) g ao n cap cs _ h).mono ?_
 rintro e w1 ⟨_, rfl, ⟨x, rfl, x0, x1⟩, R, K⟩
 clear h
 by_cases h0 : x = 0
 · subst h0
   go_wp2
   go_ret
   exact ⟨_, rfl, ⟨_, rfl, by decide, by decide⟩, R, K⟩
 · by_cases h1 : x = 1
   · subst h1
     go_wp2
     go_ret
     exact ⟨_, rfl, ⟨_, rfl, by decide, by decide⟩, R, K⟩
   · have e0 : (x == 0) = false := by simpa using h0
     have e1 : (x == 1) = false := by simpa using h1
     go_wp2_with fail
     refine (word_any g ao n cap cs _ R).mono ?_
     rintro e w2 ⟨_, rfl, ⟨y, rfl, y0, y1⟩, R2, K2⟩
     replace K := K.trans K2
     clear R K2
     have hw : IntKind.u64.wrap 2000001 = 2000001 := by rw [IntKind.wrap_u64]; decide
     go_wp2
     go_ret
     exact ⟨_, rfl, ⟨_, rfl, by omega, by omega⟩, R2, K⟩
set_option maxRecDepth 100000 in
set_option maxHeartbeats 1000000 in
theorem near_p6 (g : Nat) (ao : Option Addr) (n cap : Nat) (cs : List Int) (w : World) (h : Rdr w g ao n cap cs) :
   Calls Tryz.prog 77 #[.pointer (some ⟨g, 0, none⟩), .int .i64 (-6), .int .i64 6] w (RdP g ao n cap cs (IsIn (-6) 7) w) := by
 go_enter Tryz.func77, Tryz.ntmps77
 go_wp2_with fail
 refine (below_any 8 (by decide) (by decide) g ao n cap cs _ h).mono ?_
 rintro e w1 ⟨_, rfl, ⟨x, rfl, x0, x1⟩, R, K⟩
 clear h
 by_cases h0 : x = 0
 · subst h0
   go_wp2
   go_ret
   exact ⟨_, rfl, ⟨_, rfl, by decide, by decide⟩, R, K⟩
 · by_cases h1 : x = 1
   · subst h1
     go_wp2
     go_ret
     exact ⟨_, rfl, ⟨_, rfl, by decide, by decide⟩, R, K⟩
   · have e0 : (x == 0) = false := by simpa using h0
     have e1 : (x == 1) = false := by simpa using h1
     go_wp2_with fail
     refine (word_any g ao n cap cs _ R).mono ?_
     rintro e w2 ⟨_, rfl, ⟨y, rfl, y0, y1⟩, R2, K2⟩
     replace K := K.trans K2
     clear R K2
     have hw : IntKind.u64.wrap 13 = 13 := by rw [IntKind.wrap_u64]; decide
     go_wp2
     go_ret
     exact ⟨_, rfl, ⟨_, rfl, by omega, by omega⟩, R2, K⟩
def IsSp6 (v : Value) : Prop := ∃ x y : Int, v = .agg #[.int .i64 x, .int .i64 y] ∧ -6 ≤ x ∧ x < 7 ∧ -6 ≤ y ∧ y < 7
set_option maxRecDepth 100000 in
set_option maxHeartbeats 1000000 in
theorem spot_any (g : Nat) (ao : Option Addr) (n cap : Nat) (cs : List Int) (w : World) (h : Rdr w g ao n cap cs) :
   Calls Tryz.prog 78 #[.pointer (some ⟨g, 0, none⟩)] w (RdP g ao n cap cs IsSp6 w) := by
 have hg := h.lt
 have hne : w.heap.size ≠ g := by omega
 have B := Blk.new w [.int .i64 0, .int .i64 0] 51 rfl
 have R := h.alloc (.cells #[.int .i64 0, .int .i64 0] 51)
 have K := (Kept.refl g w).alloc (.cells #[.int .i64 0, .int .i64 0] 51)
 clear h
 go_enter Tryz.func78, Tryz.ntmps78
 go_wp2_with fail
 refine (near_p6 g ao n cap cs _ R).mono ?_
 rintro e w1 ⟨_, rfl, ⟨y, rfl, y0, y1⟩, R1, K1⟩
 replace B := B.kept K1 hne; replace K := K.trans K1
 clear R K1
 have R := R1
 clear R1
 go_wp2_with fail
 refine (near_p6 g ao n cap cs _ R).mono ?_
 rintro e w2 ⟨_, rfl, ⟨y', rfl, y0', y1'⟩, R1, K1⟩
 replace B := B.kept K1 hne; replace K := K.trans K1
 clear R K1
 have R := R1
 clear R1
 have o0 := B.c 0 rfl; have f0 := B.f 0 rfl; have o1 := B.c 1 rfl; have f1 := B.f 1 rfl; have ol := B.lt
 clear B
 go_wp2
 refine bodyPost_ret (v := .agg #[.int .i64 y, .int .i64 y']) (by simp [results, Tryz.results78, go_sem, o0, o1]) rfl ?_
 exact ⟨_, rfl, ⟨y, y', rfl, y0, y1, y0', y1'⟩, (R.setN (by exact hg) _).setN (by exact hg) _, (K.setN (by simp) (by simp; omega) _).setN (by simp) (by simp; omega) _⟩
def I64 (x : Int) : Prop := -9223372036854775808 ≤ x ∧ x ≤ 9223372036854775807
def IsI (v : Value) : Prop := ∃ x : Int, v = .int .i64 x ∧ I64 x
def IsSg (v : Value) : Prop := ∃ a b c d : Int, v = .agg #[.int .i64 a, .int .i64 b, .int .i64 c, .int .i64 d] ∧ I64 a ∧ I64 b ∧ I64 c ∧ I64 d
set_option maxRecDepth 100000 in
set_option maxHeartbeats 2000000 in
theorem off_any (g : Nat) (ao : Option Addr) (n cap : Nat) (cs : List Int) (w : World) (R : Rdr w g ao n cap cs) :
   Calls Tryz.prog 131 #[.pointer (some ⟨g, 0, none⟩), .int .i64 (-1000000), .int .i64 1000000] w (RdP g ao n cap cs IsI w) := by
 go_enter Tryz.func131, Tryz.ntmps131
 go_wp2_with fail
 refine (once_any 24 (by decide) (by decide) g ao n cap cs _ R).mono ?_
 rintro e w1 ⟨_, rfl, ⟨b, rfl⟩, R1, K⟩
 clear R
 cases b
 · go_wp2_with fail
   refine (near_pm g ao n cap cs _ R1).mono ?_
   rintro e w2 ⟨_, rfl, ⟨x, rfl, x0, x1⟩, R2, K2⟩
   replace K := K.trans K2
   clear R1 K2
   go_wp2
   go_ret
   exact ⟨_, rfl, ⟨x, rfl, by constructor <;> omega⟩, R2, K⟩
 · have G := Blk.new w1 [.int .i64 (-1000001), .int .i64 1000001, .int .i64 (-9223372036854775808), .int .i64 9223372036854775807] 2 rfl
   rw [show ([.int .i64 (-1000001), .int .i64 1000001, .int .i64 (-9223372036854775808), .int .i64 9223372036854775807] : List Value).toArray = #[.int .i64 (-1000001), .int .i64 1000001, .int .i64 (-9223372036854775808), .int .i64 9223372036854775807] from rfl] at G
   have hgl := R1.lt
   have hgn : w1.heap.size ≠ g := by omega
   have R := R1.alloc (.cells #[.int .i64 (-1000001), .int .i64 1000001, .int .i64 (-9223372036854775808), .int .i64 9223372036854775807] 2)
   replace K := K.alloc (.cells #[.int .i64 (-1000001), .int .i64 1000001, .int .i64 (-9223372036854775808), .int .i64 9223372036854775807] 2)
   clear R1
   go_wp2_with fail
   refine (below_any 4 (by decide) (by decide) g ao n cap cs _ R).mono ?_
   rintro e w6 ⟨_, rfl, ⟨j, rfl, j0, j1⟩, R6, K6⟩
   replace G := G.kept K6 hgn
   replace K := K.trans K6
   obtain ⟨k, rfl⟩ : ∃ k : Nat, j = k := ⟨j.toNat, by omega⟩
   obtain ⟨u, hu, hus⟩ : ∃ u : Int, w6.cell? ⟨w1.heap.size, k, none⟩ = some (.int .i64 u) ∧ I64 u := by
     rcases (by omega : k = 0 ∨ k = 1 ∨ k = 2 ∨ k = 3) with rfl | rfl | rfl | rfl
     · exact ⟨_, G.c 0 rfl, by constructor <;> decide⟩
     · exact ⟨_, G.c 1 rfl, by constructor <;> decide⟩
     · exact ⟨_, G.c 2 rfl, by constructor <;> decide⟩
     · exact ⟨_, G.c 3 rfl, by constructor <;> decide⟩
   clear G R K6
   go_wp2
   go_ret
   exact ⟨_, rfl, ⟨u, rfl, hus⟩, R6, K⟩
theorem segOf_ex (x y u v : Int) (hx : I64 x) (hy : I64 y) (hu : I64 u) (hv : I64 v) : ∃ a b c d k, I64 a ∧ I64 b ∧ I64 c ∧ I64 d ∧ ∀ w, Calls Tryz.prog 79 #[.agg #[.int .i64 x, .int .i64 y], .agg #[.int .i64 u, .int .i64 v]] w (VP (.tuple #[.agg #[.int .i64 a, .int .i64 b, .int .i64 c, .int .i64 d], .bool k]) w) := by
 have hz : I64 0 := by constructor <;> decide
 refine ⟨_, _, _, _, _, ?_, ?_, ?_, ?_, fun w => specSegOf_any x y u v _ _ _ _ _ _ rfl rfl rfl rfl rfl rfl w⟩
 all_goals
   generalize lessI u v x y = l
   generalize segOk _ _ _ _ = k
   cases k <;> cases l <;> first | exact hz | exact hx | exact hy | exact hu | exact hv
end Go.Proofs.YteakhlipmmfilaaGreat
