/- Part 11 of the walks that the proof leans on. -/
import Derived.Test.YthgodemncbmmgaaPart10
import Derived.Test.YthgodemncbmmgaaPart7
import Derived.Test.YthgodemncbmmgaaPart8
import Derived.Laws.AppendOwn
import Derived.OwnWalkIn
import Derived.RangeFuncBox
import Derived.Test.YthgodemncbmmgaaPart3
import Derived.Deep.OwnRows
import Derived.WalkSmall
/- The region of spec.RingFault that asks how two sides meet: by what every operation keeps, in no order. -/
namespace Go.Proofs.Ythgodemncbmmgaa
open Go.RowKit
def Six (W : World) (g : Nat) : Prop := ∃ v0 v1 v2 v3 v4 v5 : Value, Blk W g [v0, v1, v2, v3, v4, v5]
theorem Six.step {W W' : World} {g : Nat} (h : Six W g) (hB : Below W.heap.size W W') : Six W' g := by
  obtain ⟨v0, v1, v2, v3, v4, v5, h⟩ := h
  exact ⟨_, _, _, _, _, _, h.step hB⟩
theorem Six.set {W : World} {g g' : Nat} (h : Six W g) (j : Nat) (hj : j < 6) (u : Value) : Six (W.setCell ⟨g', j, none⟩ u) g := by
  obtain ⟨v0, v1, v2, v3, v4, v5, h⟩ := h
  by_cases hg : g = g'
  · subst hg
    have := h.setI j hj u
    rcases (show j = 0 ∨ j = 1 ∨ j = 2 ∨ j = 3 ∨ j = 4 ∨ j = 5 by omega) with rfl | rfl | rfl | rfl | rfl | rfl <;> exact ⟨_, _, _, _, _, _, this⟩
  · exact ⟨_, _, _, _, _, _, h.setO hg u⟩
def Lp6 (v : Value) : Prop := ∃ (f1 f2 f3 : Bool) (k1 k2 k3 : Option Addr) (m1 m2 m3 x1 x2 x3 : Nat), v = .agg #[.bool f1, .slice k1 m1 x1, .bool f2, .slice k2 m2 x2, .bool f3, .slice k3 m3 x3]
def slotOf : Nat → Nat
  | 0 => 64
  | 1 => 65
  | 2 => 66
  | 3 => 67
  | 4 => 68
  | 5 => 69
  | 6 => 70
  | 7 => 63
  | 8 => 71
  | 9 => 72
  | 10 => 73
  | 11 => 10
  | 12 => 11
  | 13 => 9
  | i + 14 => i + 200
def ValOf (ao : Option Addr) (n cap : Nat) (p : Ps) (c d B : Nat) : Nat → Value → World → Prop
  | 0, v, _ | 3, v, _ => v = .agg #[.slice ao n cap]
  | 1, v, _ => v = .int .i64 c
  | 4, v, _ => v = .int .i64 d
  | 2, v, _ => v = Sg (sdA n p c).1 (sdA n p c).2.1 (sdA n p c).2.2.1 (sdA n p c).2.2.2
  | 5, v, _ => v = Sg (sdA n p d).1 (sdA n p d).2.1 (sdA n p d).2.2.1 (sdA n p d).2.2.2
  | 6, v, _ | 7, v, _ => ∃ x y, Lp6 x ∧ Lp6 y ∧ v = .tuple #[.int .i64 (kdA n p c d), x, y]
  | 8, v, _ | 13, v, _ => v = .int .i64 (kdA n p c d)
  | 9, v, _ | 10, v, _ => Lp6 v
  | 11, v, W | 12, v, W => ∃ g, v = .pointer (some ⟨g, 0, none⟩) ∧ B ≤ g ∧ Six W g
  | _, _, _ => True
theorem ValOf.mono {ao : Option Addr} {n cap : Nat} {p : Ps} {c d B j : Nat} {v : Value} {W W' : World} (hS : ∀ g, Six W g → Six W' g) (h : ValOf ao n cap p c d B j v W) : ValOf ao n cap p c d B j v W' := by
  unfold ValOf at *
  split <;> simp only at h <;> first | exact h | (obtain ⟨g, h1, h2, h3⟩ := h; exact ⟨g, h1, h2, hS g h3⟩) | trivial
def InvJ (ao : Option Addr) (n cap : Nat) (p : Ps) (c d : Nat) (w0 : World) (a0 : Act) (l : Array Bool) (a : Act) (W : World) : Prop :=
  l.size = 16 ∧ a.tmps.size = a0.tmps.size ∧ a.defers = a0.defers ∧ (∀ e, e ∉ [64, 65, 66, 67, 68, 69, 70, 63, 71, 72, 73, 10, 11, 9] → a.tmps[e]? = a0.tmps[e]?) ∧ Below w0.heap.size w0 W ∧
    ∀ j, l.getD j false = true → ValOf ao n cap p c d w0.heap.size j (a.tmps.getD (slotOf j) undef) W
theorem slotOf_inj {i j : Nat} (hi : i < 14) (hne : j ≠ i) : slotOf i ≠ slotOf j := by
  rcases (show j < 14 ∨ 14 ≤ j by omega) with hj | hj
  · have H : ∀ i : Fin 14, ∀ j : Fin 14, j ≠ i → slotOf i ≠ slotOf j := by decide
    exact H ⟨i, hi⟩ ⟨j, hj⟩ (fun h => hne (by simpa using h))
  · obtain ⟨k, rfl⟩ := Nat.exists_eq_add_of_le' hj
    have H : ∀ i : Fin 14, slotOf i < 200 := by decide
    have := H ⟨i, hi⟩
    show slotOf i ≠ k + 200
    simp only at this
    omega
theorem getD_set_of {l : Array Bool} {i j : Nat} (h : (l.setIfInBounds i true).getD j false = true) (hne : j ≠ i) : l.getD j false = true := by
  rw [getD_set_ne false (Ne.symm hne)] at h
  exact h
theorem InvJ.put {ao : Option Addr} {n cap : Nat} {p : Ps} {c d : Nat} {w0 : World} {a0 : Act} {l : Array Bool} {a : Act} {W W' : World} (h : InvJ ao n cap p c d w0 a0 l a W) (i : Nat) (hi : i < 14) (h101 : a0.tmps.size = 101)
    (hW : Below w0.heap.size w0 W') (hS : ∀ g, Six W g → Six W' g) (v : Value) (hv : ValOf ao n cap p c d w0.heap.size i v W') : InvJ ao n cap p c d w0 a0 (l.setIfInBounds i true) (a.put (some (slotOf i)) v) W' := by
  obtain ⟨h1, h2, h3, h4, h5, h6⟩ := h
  have H : ∀ i : Fin 14, slotOf i < 101 ∧ slotOf i ∈ [64, 65, 66, 67, 68, 69, 70, 63, 71, 72, 73, 10, 11, 9] := by decide
  obtain ⟨hs, hm⟩ := H ⟨i, hi⟩
  simp only at hs hm
  refine ⟨by simpa using h1, by simpa [Act.put] using h2, h3, fun e he => ?_, hW, fun j hj => ?_⟩
  · have hne : slotOf i ≠ e := fun hh => he (hh ▸ hm)
    simp only [Act.put]
    rw [Array.getElem?_setIfInBounds_ne hne]
    exact h4 e he
  · by_cases hji : j = i
    · subst hji
      rw [put_getD_same (by omega)]
      exact hv
    · rw [put_getD_ne (slotOf_inj hi hji)]
      exact (h6 j (getD_set_of hj hji)).mono hS
theorem InvJ.world {ao : Option Addr} {n cap : Nat} {p : Ps} {c d : Nat} {w0 : World} {a0 : Act} {l : Array Bool} {a : Act} {W W' : World} (h : InvJ ao n cap p c d w0 a0 l a W) (i : Nat) (hi : 14 ≤ i)
    (hW : Below w0.heap.size w0 W') (hS : ∀ g, Six W g → Six W' g) : InvJ ao n cap p c d w0 a0 (l.setIfInBounds i true) a W' := by
  obtain ⟨h1, h2, h3, h4, h5, h6⟩ := h
  refine ⟨by simpa using h1, h2, h3, h4, hW, fun j hj => ?_⟩
  by_cases hji : j = i
  · subst hji
    obtain ⟨k, rfl⟩ := Nat.exists_eq_add_of_le' hi
    exact trivial
  · exact (h6 j (getD_set_of hj hji)).mono hS
theorem below_set6 {B g : Nat} {w W : World} {v0 v1 v2 v3 v4 v5 : Value} (h : Below B w W) (hg : B ≤ g) : Below B w ((((((W.setCell ⟨g, 0, none⟩ v0).setCell ⟨g, 1, none⟩ v1).setCell ⟨g, 2, none⟩ v2).setCell ⟨g, 3, none⟩ v3).setCell ⟨g, 4, none⟩ v4).setCell ⟨g, 5, none⟩ v5) :=
  (((((h.setCell (p := ⟨g, 0, none⟩) hg _).setCell (p := ⟨g, 1, none⟩) hg _).setCell (p := ⟨g, 2, none⟩) hg _).setCell (p := ⟨g, 3, none⟩) hg _).setCell (p := ⟨g, 4, none⟩) hg _).setCell (p := ⟨g, 5, none⟩) hg _
set_option maxRecDepth 100000 in
set_option maxHeartbeats 4000000 in
theorem reg25 {Q : Exit → Act → World → Prop} {ao : Option Addr} {n cap : Nat} {p : Ps} {c d B : Nat} {w0 : World} {a0 : Act} {id : Nat} {t0 t1 t2 t3 t4 t5 t6 t7 t8 t9 t10 t11 t12 t13 t14 t15 : TypeId} {q0 q1 q2 q3 q4 q5 q6 q7 q8 q9 q10 q11 q12 q13 q14 q15 : String} {A14 A15 : Array Edge}
    (hc : c < n) (hd : d < n) (hn : n ≤ 1048576) (hS : SpIn w0 ao n p) (i1 : In1 (sdA n p c).1) (i2 : In1 (sdA n p c).2.1) (i3 : In1 (sdA n p c).2.2.1) (i4 : In1 (sdA n p c).2.2.2) (j1 : In1 (sdA n p d).1) (j2 : In1 (sdA n p d).2.1) (j3 : In1 (sdA n p d).2.2.1) (j4 : In1 (sdA n p d).2.2.2)
    (hB : B < w0.heap.size) (hb : w0.cell? ⟨B, 0, none⟩ = some (.slice ao n cap))
    (h1 : a0.tmps[1]? = some (.pointer (some ⟨B, 0, none⟩))) (h7 : a0.tmps[7]? = some (.int .i64 c)) (h8 : a0.tmps[8]? = some (.int .i64 d)) (hz : a0.tmps.size = 101)
    (e1 : ({ on := 11, ground := Ground.data } : Edge) ∈ A14) (e2 : ({ on := 9, ground := Ground.data } : Edge) ∈ A14) (e3 : ({ on := 12, ground := Ground.data } : Edge) ∈ A15) (e4 : ({ on := 10, ground := Ground.data } : Edge) ∈ A15)
    (hQ : ∀ a W, a.tmps.size = a0.tmps.size → a.defers = a0.defers → (∀ e, e ∉ [64, 65, 66, 67, 68, 69, 70, 63, 71, 72, 73, 10, 11, 9] → a.tmps[e]? = a0.tmps[e]?) → a.tmps.getD 9 undef = .int .i64 (kdA n p c d) → Below w0.heap.size w0 W → Q .normal a W) :
    (Code.region id #[{ dst := some 64, op := Op.load 35 (Operand.tmp 1), type := t0, pos := q0, after := #[], guard := none },
    { dst := some 65, op := Op.move (Operand.tmp 7), type := t1, pos := q1, after := #[], guard := none },
    { dst := some 66, op := Op.call { callee := Callee.value (Operand.func 52), args := #[Operand.tmp 64, Operand.tmp 65], argTypes := #[35, 3] }, type := t2, pos := q2, after := #[{ on := 0, ground := Ground.data }, { on := 1, ground := Ground.data }], guard := none },
    { dst := some 67, op := Op.load 35 (Operand.tmp 1), type := t3, pos := q3, after := #[], guard := none },
    { dst := some 68, op := Op.move (Operand.tmp 8), type := t4, pos := q4, after := #[], guard := none },
    { dst := some 69, op := Op.call { callee := Callee.value (Operand.func 52), args := #[Operand.tmp 67, Operand.tmp 68], argTypes := #[35, 3] }, type := t5, pos := q5, after := #[{ on := 3, ground := Ground.data }, { on := 4, ground := Ground.data }, { on := 2, ground := Ground.chain }], guard := none },
    { dst := some 70, op := Op.call { callee := Callee.value (Operand.func 87), args := #[Operand.tmp 66, Operand.tmp 69], argTypes := #[88, 88] }, type := t6, pos := q6, after := #[{ on := 2, ground := Ground.data }, { on := 5, ground := Ground.data }, { on := 5, ground := Ground.chain }], guard := none },
    { dst := some 63, op := Op.move (Operand.tmp 70), type := t7, pos := q7, after := #[{ on := 6, ground := Ground.data }], guard := none },
    { dst := some 71, op := Op.extract (Operand.tmp 63) 0, type := t8, pos := q8, after := #[{ on := 7, ground := Ground.data }], guard := none },
    { dst := some 72, op := Op.extract (Operand.tmp 63) 1, type := t9, pos := q9, after := #[{ on := 7, ground := Ground.data }, { on := 13, ground := Ground.gcOnly Departure.lateStores }], guard := none },
    { dst := some 73, op := Op.extract (Operand.tmp 63) 2, type := t10, pos := q10, after := #[{ on := 7, ground := Ground.data }, { on := 14, ground := Ground.gcOnly Departure.lateStores }], guard := none },
    { dst := some 10, op := Op.alloc 66, type := t11, pos := q11, after := #[], guard := none },
    { dst := some 11, op := Op.alloc 66, type := t12, pos := q12, after := #[], guard := none },
    { dst := some 9, op := Op.assign (Operand.tmp 71), type := t13, pos := q13, after := #[{ on := 8, ground := Ground.data }, { on := 6, ground := Ground.chain }, { on := 0, ground := Ground.phase }, { on := 1, ground := Ground.phase }, { on := 2, ground := Ground.phase }, { on := 3, ground := Ground.phase }, { on := 4, ground := Ground.phase }, { on := 5, ground := Ground.phase }, { on := 6, ground := Ground.phase }, { on := 7, ground := Ground.phase }, { on := 8, ground := Ground.phase }, { on := 9, ground := Ground.textOnly Departure.lateStores }, { on := 10, ground := Ground.textOnly Departure.lateStores }, { on := 11, ground := Ground.phase }, { on := 12, ground := Ground.phase }], guard := none },
    { dst := none, op := Op.store 66 (Operand.tmp 10) (Operand.tmp 72), type := t14, pos := q14, after := A14, guard := none },
    { dst := none, op := Op.store 66 (Operand.tmp 11) (Operand.tmp 73), type := t15, pos := q15, after := A15, guard := none }] true).wp Try.prog Q a0 w0 := by
  refine wp_region_inv (by kernel_rfl) (InvJ ao n cap p c d w0 a0) ⟨by simp, rfl, rfl, fun _ _ => rfl, (Below.refl _ w0).drew, fun j hj => ?_⟩ ?_ ?_
  · exfalso
    rw [Array.getD_eq_getD_getElem?, Array.getElem?_replicate] at hj
    split at hj <;> simp at hj
  · intro l a W i o hJ hl ho hall
    have hJ' := hJ
    obtain ⟨z1, z2, z3, z4, z5, z6⟩ := hJ
    have g1 : a.tmps.getD 1 undef = .pointer (some ⟨B, 0, none⟩) := by rw [Array.getD_eq_getD_getElem?, z4 1 (by decide), h1]; rfl
    have g7 : a.tmps.getD 7 undef = .int .i64 c := by rw [Array.getD_eq_getD_getElem?, z4 7 (by decide), h7]; rfl
    have g8 : a.tmps.getD 8 undef = .int .i64 d := by rw [Array.getD_eq_getD_getElem?, z4 8 (by decide), h8]; rfl
    have hbW : W.cell? ⟨B, 0, none⟩ = some (.slice ao n cap) := by rw [z5.cell hB]; exact hb
    match i, ho with
    | 0, ho =>
      cases ho
      refine wpOp_of rfl rfl ?_
      have hK := fun (v : Value) (W' : World) hW hS hv => hJ'.put 0 (by omega) hz (W' := W') hW hS v hv
      clear ho hall hl hQ e1 e2 e3 e4
      generalize InvJ ao n cap p c d w0 a0 (l.setIfInBounds 0 true) = K at hK ⊢
      clear hJ' z1 z2 z3 z4 z6
      go_simp
      exact hK _ _ z5 (fun _ h => h) rfl
    | 1, ho =>
      cases ho
      refine wpOp_of rfl rfl ?_
      have hK := fun (v : Value) (W' : World) hW hS hv => hJ'.put 1 (by omega) hz (W' := W') hW hS v hv
      clear ho hall hl hQ e1 e2 e3 e4
      generalize InvJ ao n cap p c d w0 a0 (l.setIfInBounds 1 true) = K at hK ⊢
      clear hJ' z1 z2 z3 z4 z6
      go_simp
      exact hK _ _ z5 (fun _ h => h) rfl
    | 2, ho =>
      cases ho
      refine wpOp_of rfl rfl ?_
      have f0 : a.tmps.getD 64 undef = .agg #[.slice ao n cap] := z6 0 (hall { on := 0, ground := Ground.data } (by simp) rfl)
      have f1 : a.tmps.getD 65 undef = .int .i64 c := z6 1 (hall { on := 1, ground := Ground.data } (by simp) rfl)
      have hK := fun (v : Value) (W' : World) hW hS hv => hJ'.put 2 (by omega) hz (W' := W') hW hS v hv
      clear ho hall hl hQ e1 e2 e3 e4
      generalize InvJ ao n cap p c d w0 a0 (l.setIfInBounds 2 true) = K at hK ⊢
      clear hJ' z1 z2 z3 z4 z6
      go_simp
      refine (l5Side_any ao n cap p c hc hn W (hS.step z5)).mono ?_
      rintro e v1 ⟨rfl, hBv⟩
      exact hK _ _ (z5.trans (hBv.mono z5.size)) (fun g hg => hg.step hBv) rfl
    | 3, ho =>
      cases ho
      refine wpOp_of rfl rfl ?_
      have hK := fun (v : Value) (W' : World) hW hS hv => hJ'.put 3 (by omega) hz (W' := W') hW hS v hv
      clear ho hall hl hQ e1 e2 e3 e4
      generalize InvJ ao n cap p c d w0 a0 (l.setIfInBounds 3 true) = K at hK ⊢
      clear hJ' z1 z2 z3 z4 z6
      go_simp
      exact hK _ _ z5 (fun _ h => h) rfl
    | 4, ho =>
      cases ho
      refine wpOp_of rfl rfl ?_
      have hK := fun (v : Value) (W' : World) hW hS hv => hJ'.put 4 (by omega) hz (W' := W') hW hS v hv
      clear ho hall hl hQ e1 e2 e3 e4
      generalize InvJ ao n cap p c d w0 a0 (l.setIfInBounds 4 true) = K at hK ⊢
      clear hJ' z1 z2 z3 z4 z6
      go_simp
      exact hK _ _ z5 (fun _ h => h) rfl
    | 5, ho =>
      cases ho
      refine wpOp_of rfl rfl ?_
      have f3 : a.tmps.getD 67 undef = .agg #[.slice ao n cap] := z6 3 (hall { on := 3, ground := Ground.data } (by simp) rfl)
      have f4 : a.tmps.getD 68 undef = .int .i64 d := z6 4 (hall { on := 4, ground := Ground.data } (by simp) rfl)
      have hK := fun (v : Value) (W' : World) hW hS hv => hJ'.put 5 (by omega) hz (W' := W') hW hS v hv
      clear ho hall hl hQ e1 e2 e3 e4
      generalize InvJ ao n cap p c d w0 a0 (l.setIfInBounds 5 true) = K at hK ⊢
      clear hJ' z1 z2 z3 z4 z6
      go_simp
      refine (l5Side_any ao n cap p d hd hn W (hS.step z5)).mono ?_
      rintro e v1 ⟨rfl, hBv⟩
      exact hK _ _ (z5.trans (hBv.mono z5.size)) (fun g hg => hg.step hBv) rfl
    | 6, ho =>
      cases ho
      refine wpOp_of rfl rfl ?_
      have f2 : a.tmps.getD 66 undef = Sg (sdA n p c).1 (sdA n p c).2.1 (sdA n p c).2.2.1 (sdA n p c).2.2.2 := z6 2 (hall { on := 2, ground := Ground.data } (by simp) rfl)
      have f5 : a.tmps.getD 69 undef = Sg (sdA n p d).1 (sdA n p d).2.1 (sdA n p d).2.2.1 (sdA n p d).2.2.2 := z6 5 (hall { on := 5, ground := Ground.data } (by simp) rfl)
      have hK := fun (v : Value) (W' : World) hW hS hv => hJ'.put 6 (by omega) hz (W' := W') hW hS v hv
      clear ho hall hl hQ e1 e2 e3 e4
      generalize InvJ ao n cap p c d w0 a0 (l.setIfInBounds 6 true) = K at hK ⊢
      clear hJ' z1 z2 z3 z4 z6
      go_simp
      refine (l4Meet_any (sdA n p c).1 (sdA n p c).2.1 (sdA n p c).2.2.1 (sdA n p c).2.2.2 (sdA n p d).1 (sdA n p d).2.1 (sdA n p d).2.2.1 (sdA n p d).2.2.2 i1 i2 i3 i4 j1 j2 j3 j4 W).mono ?_
      rintro e v3 hmt
      obtain ⟨⟨f1, f2, f3, g1, g2, g3, k1, k2, k3, l1, l2, l3, m1, m2, m3, x1, x2, x3, y1, y2, y3, z1, z2, z3, rfl⟩, hBv⟩ := mtP_kind hmt
      exact hK _ _ (z5.trans (hBv.mono z5.size)) (fun g hg => hg.step hBv) ⟨_, _, ⟨_, _, _, _, _, _, _, _, _, _, _, _, rfl⟩, ⟨_, _, _, _, _, _, _, _, _, _, _, _, rfl⟩, rfl⟩
    | 7, ho =>
      cases ho
      refine wpOp_of rfl rfl ?_
      have f6 : ∃ x y, Lp6 x ∧ Lp6 y ∧ a.tmps.getD 70 undef = .tuple #[.int .i64 (kdA n p c d), x, y] := z6 6 (hall { on := 6, ground := Ground.data } (by simp) rfl)
      obtain ⟨x, y, hx, hy, he⟩ := f6
      have hK := fun (v : Value) (W' : World) hW hS hv => hJ'.put 7 (by omega) hz (W' := W') hW hS v hv
      clear ho hall hl hQ e1 e2 e3 e4
      generalize InvJ ao n cap p c d w0 a0 (l.setIfInBounds 7 true) = K at hK ⊢
      clear hJ' z1 z2 z3 z4 z6
      go_simp
      exact hK _ _ z5 (fun _ h => h) ⟨x, y, hx, hy, rfl⟩
    | 8, ho =>
      cases ho
      refine wpOp_of rfl rfl ?_
      have f7 : ∃ x y, Lp6 x ∧ Lp6 y ∧ a.tmps.getD 63 undef = .tuple #[.int .i64 (kdA n p c d), x, y] := z6 7 (hall { on := 7, ground := Ground.data } (by simp) rfl)
      obtain ⟨x, y, hx, hy, he⟩ := f7
      have hK := fun (v : Value) (W' : World) hW hS hv => hJ'.put 8 (by omega) hz (W' := W') hW hS v hv
      clear ho hall hl hQ e1 e2 e3 e4
      generalize InvJ ao n cap p c d w0 a0 (l.setIfInBounds 8 true) = K at hK ⊢
      clear hJ' z1 z2 z3 z4 z6
      go_simp
      exact hK _ _ z5 (fun _ h => h) rfl
    | 9, ho =>
      cases ho
      refine wpOp_of rfl rfl ?_
      have f7 : ∃ x y, Lp6 x ∧ Lp6 y ∧ a.tmps.getD 63 undef = .tuple #[.int .i64 (kdA n p c d), x, y] := z6 7 (hall { on := 7, ground := Ground.data } (by simp) rfl)
      obtain ⟨x, y, hx, hy, he⟩ := f7
      have hK := fun (v : Value) (W' : World) hW hS hv => hJ'.put 9 (by omega) hz (W' := W') hW hS v hv
      clear ho hall hl hQ e1 e2 e3 e4
      generalize InvJ ao n cap p c d w0 a0 (l.setIfInBounds 9 true) = K at hK ⊢
      clear hJ' z1 z2 z3 z4 z6
      go_simp
      exact hK _ _ z5 (fun _ h => h) hx
    | 10, ho =>
      cases ho
      refine wpOp_of rfl rfl ?_
      have f7 : ∃ x y, Lp6 x ∧ Lp6 y ∧ a.tmps.getD 63 undef = .tuple #[.int .i64 (kdA n p c d), x, y] := z6 7 (hall { on := 7, ground := Ground.data } (by simp) rfl)
      obtain ⟨x, y, hx, hy, he⟩ := f7
      have hK := fun (v : Value) (W' : World) hW hS hv => hJ'.put 10 (by omega) hz (W' := W') hW hS v hv
      clear ho hall hl hQ e1 e2 e3 e4
      generalize InvJ ao n cap p c d w0 a0 (l.setIfInBounds 10 true) = K at hK ⊢
      clear hJ' z1 z2 z3 z4 z6
      go_simp
      exact hK _ _ z5 (fun _ h => h) hy
    | 11, ho =>
      cases ho
      refine wpOp_of rfl rfl ?_
      have hK := fun (v : Value) (W' : World) hW hS hv => hJ'.put 11 (by omega) hz (W' := W') hW hS v hv
      clear ho hall hl hQ e1 e2 e3 e4
      generalize InvJ ao n cap p c d w0 a0 (l.setIfInBounds 11 true) = K at hK ⊢
      clear hJ' z1 z2 z3 z4 z6
      go_simp
      exact hK _ _ (z5.alloc z5.size _) (fun g hg => hg.step ((Below.refl _ _).alloc (Nat.le_refl _) _)) ⟨_, rfl, z5.size, _, _, _, _, _, _, Blk.new W [.bool false, .slice none 0 0, .bool false, .slice none 0 0, .bool false, .slice none 0 0] 66 rfl⟩
    | 12, ho =>
      cases ho
      refine wpOp_of rfl rfl ?_
      have hK := fun (v : Value) (W' : World) hW hS hv => hJ'.put 12 (by omega) hz (W' := W') hW hS v hv
      clear ho hall hl hQ e1 e2 e3 e4
      generalize InvJ ao n cap p c d w0 a0 (l.setIfInBounds 12 true) = K at hK ⊢
      clear hJ' z1 z2 z3 z4 z6
      go_simp
      exact hK _ _ (z5.alloc z5.size _) (fun g hg => hg.step ((Below.refl _ _).alloc (Nat.le_refl _) _)) ⟨_, rfl, z5.size, _, _, _, _, _, _, Blk.new W [.bool false, .slice none 0 0, .bool false, .slice none 0 0, .bool false, .slice none 0 0] 66 rfl⟩
    | 13, ho =>
      cases ho
      refine wpOp_of rfl rfl ?_
      have f8 : a.tmps.getD 71 undef = .int .i64 (kdA n p c d) := z6 8 (hall { on := 8, ground := Ground.data } (by simp) rfl)
      have hK := fun (v : Value) (W' : World) hW hS hv => hJ'.put 13 (by omega) hz (W' := W') hW hS v hv
      clear ho hall hl hQ e1 e2 e3 e4
      generalize InvJ ao n cap p c d w0 a0 (l.setIfInBounds 13 true) = K at hK ⊢
      clear hJ' z1 z2 z3 z4 z6
      go_simp
      exact hK _ _ z5 (fun _ h => h) rfl
    | 14, ho =>
      cases ho
      refine wpOp_of rfl rfl ?_
      have f11 : ∃ g, a.tmps.getD 10 undef = .pointer (some ⟨g, 0, none⟩) ∧ w0.heap.size ≤ g ∧ Six W g := z6 11 (hall _ e1 rfl)
      have f9 : Lp6 (a.tmps.getD 72 undef) := z6 9 (hall _ e2 rfl)
      obtain ⟨g, hg, hgB, v0, v1, v2, v3, v4, v5, G⟩ := f11
      obtain ⟨s1, s2, s3, k1, k2, k3, m1, m2, m3, x1, x2, x3, hx⟩ := f9
      have b0 := G.c 0 rfl
      have r0 := G.f 0 rfl
      have b1 := G.c 1 rfl
      have r1 := G.f 1 rfl
      have b2 := G.c 2 rfl
      have r2 := G.f 2 rfl
      have b3 := G.c 3 rfl
      have r3 := G.f 3 rfl
      have b4 := G.c 4 rfl
      have r4 := G.f 4 rfl
      have b5 := G.c 5 rfl
      have r5 := G.f 5 rfl
      have hlt := G.lt
      clear G
      have hK := fun (W' : World) hW hS => hJ'.world 14 (by omega) (W' := W') hW hS
      clear ho hall hl hQ e1 e2 e3 e4
      generalize InvJ ao n cap p c d w0 a0 (l.setIfInBounds 14 true) = K at hK ⊢
      clear hJ' z1 z2 z3 z4 z6
      go_simp
      exact hK _ (below_set6 z5 hgB) (fun g hg => (((((hg.set 0 (by omega) _).set 1 (by omega) _).set 2 (by omega) _).set 3 (by omega) _).set 4 (by omega) _).set 5 (by omega) _)
    | 15, ho =>
      cases ho
      refine wpOp_of rfl rfl ?_
      have f12 : ∃ g, a.tmps.getD 11 undef = .pointer (some ⟨g, 0, none⟩) ∧ w0.heap.size ≤ g ∧ Six W g := z6 12 (hall _ e3 rfl)
      have f10 : Lp6 (a.tmps.getD 73 undef) := z6 10 (hall _ e4 rfl)
      obtain ⟨g, hg, hgB, v0, v1, v2, v3, v4, v5, G⟩ := f12
      obtain ⟨s1, s2, s3, k1, k2, k3, m1, m2, m3, x1, x2, x3, hx⟩ := f10
      have b0 := G.c 0 rfl
      have r0 := G.f 0 rfl
      have b1 := G.c 1 rfl
      have r1 := G.f 1 rfl
      have b2 := G.c 2 rfl
      have r2 := G.f 2 rfl
      have b3 := G.c 3 rfl
      have r3 := G.f 3 rfl
      have b4 := G.c 4 rfl
      have r4 := G.f 4 rfl
      have b5 := G.c 5 rfl
      have r5 := G.f 5 rfl
      have hlt := G.lt
      clear G
      have hK := fun (W' : World) hW hS => hJ'.world 15 (by omega) (W' := W') hW hS
      clear ho hall hl hQ e1 e2 e3 e4
      generalize InvJ ao n cap p c d w0 a0 (l.setIfInBounds 15 true) = K at hK ⊢
      clear hJ' z1 z2 z3 z4 z6
      go_simp
      exact hK _ (below_set6 z5 hgB) (fun g hg => (((((hg.set 0 (by omega) _).set 1 (by omega) _).set 2 (by omega) _).set 3 (by omega) _).set 4 (by omega) _).set 5 (by omega) _)
    | i + 16, ho => simp at ho
  · intro l a W hJ hr
    obtain ⟨z1, z2, z3, z4, z5, z6⟩ := hJ
    have hl := listed_of hr [0, 1, 2, 3, 4, 5, 6, 7, 8, 11, 12, 13] [] (by simp) (by kernel_rfl) (by rw [z1]; decide) 13 (by simp)
    exact hQ a W z2 z3 z4 (z6 13 hl) z5
end Go.Proofs.Ythgodemncbmmgaa

/- What is at fault in a ring: the model's walk. -/
namespace Go.Proofs.Ythgodemncbmmgaa
open Go.RowKit
set_option maxRecDepth 100000 in
set_option maxHeartbeats 200000000 in
theorem specRingFault_any (ao : Option Addr) (n cap : Nat) (p : Ps) (hn : n ≤ 1048576) (w : World) (hS : SpIn w ao n p) : Calls Try.prog 76 #[.agg #[.slice ao n cap]] w (VP (.int .i64 (rgF n p)) w) := by
  have B0 := Blk.new w [.slice ao n cap] 35 rfl
  have HB0 : Below w.heap.size w (w.alloc (.cells #[.slice ao n cap] 35)) := (Below.refl _ w).alloc (Nat.le_refl _) _
  have HS0 := hS.step HB0
  have b0 := B0.c 0 rfl
  have hnI : (n : Int) ≤ 1048576 := by omega
  clear hS
  go_enter Try.func76, Try.ntmps76
  go_upto_region 1 with fail
  generalize (w.alloc (.cells #[.slice ao n cap] 35)) = W1 at *
  by_cases h1 : n < 3
  · have HO : Hid (rgF n p = 1) := by show _ = _; unfold rgF; rw [if_pos h1]
    have h1I : (n : Int) < 3 := by omega
    clear HS0 B0
    go_wp2
    go_ret
    exact ⟨by rw [HO.out]; rfl, HB0⟩
  by_cases h2 : 12 < n
  · have HO : Hid (rgF n p = 2) := by show _ = _; unfold rgF; rw [if_neg h1, if_pos h2]
    have h1I : (3 : Int) ≤ n := by omega
    have h2I : (12 : Int) < n := by omega
    clear HS0 B0
    go_wp2
    go_ret
    exact ⟨by rw [HO.out]; rfl, HB0⟩
  have h1I : (3 : Int) ≤ n := by omega
  have h2I : (n : Int) ≤ 12 := by omega
  have HS : Hid (SpIn W1 ao n p) := HS0
  clear HS0
  go_wp2_with fail
  clear b0
  go_loopw [4] (fun i wr => ∃ c : Nat, c ≤ n ∧ i = .int .i64 c ∧ (∀ j, j < c → spotOk (p j).1 (p j).2 = true) ∧ Below W1.heap.size W1 wr) (fun i _ => n - (intOf i).toNat)
  case atStart => exact ⟨0, by omega, rfl, fun j hj => by omega, Below.refl _ _⟩
  case round =>
    obtain ⟨c, hc, rfl, hall, HB⟩ := hrel
    have HA : Hid (∀ j, j < c → spotOk (p j).1 (p j).2 = true) := hall
    clear hall
    by_cases hcn : c < n
    · obtain ⟨A, off, rfl, hA, q0, q1⟩ := HS.out.step HB c hcn
      have hcI : (c : Int) < n := by omega
      have b0 := (B0.step HB).c 0 rfl
      go_wp2_with fail
      refine (specSpotOk_any (p c).1 (p c).2 _ rfl _).mono ?_
      rintro e w1 ⟨rfl, hB⟩
      replace HB := HB.trans (hB.mono HB.size)
      clear hB q0 q1 hA b0
      by_cases hk : spotOk (p c).1 (p c).2 = true
      · rw [hk]
        have HK : Hid (spotOk (p c).1 (p c).2 = true) := hk
        clear hk
        go_wp2
        go_roundw
        case rel => exact ⟨c + 1, by omega, by go_num, fun j hj => by
          rcases Nat.lt_or_ge j c with h | h
          · exact HA.out j h
          · obtain rfl : j = c := by omega
            exact HK.out, HB⟩
        case measure => simp [intOf]; omega
      · have HO : Hid (rgF n p = 3) := by show _ = _; unfold rgF; rw [if_neg h1, if_neg h2, if_pos (fun h => hk (h c hcn))]
        rw [Bool.eq_false_iff.2 hk]
        have HBF := HB0.trans (HB.mono HB0.size)
        clear hk
        go_wp2
        go_ret
        exact ⟨by rw [HO.out]; rfl, HBF⟩
    · obtain rfl : n = c := by omega
      have HB1 := HB0.trans (HB.mono HB0.size)
      have HS1 : Hid (SpIn wr ao n p) := HS.out.step HB
      have B1 := B0.step HB
      clear HS B0 HB
      go_wp2_with fail
      generalize wr = W2 at *
      go_loopw [5] (fun i wr => ∃ c : Nat, c ≤ n ∧ i = .int .i64 c ∧ (∀ j, j < c → ∀ k, k < j → p j ≠ p k) ∧ Below W2.heap.size W2 wr) (fun i _ => n - (intOf i).toNat)
      case atStart => exact ⟨0, by omega, rfl, fun j hj => by omega, Below.refl _ _⟩
      case round =>
        rename_i hrel
        obtain ⟨c, hc, rfl, hall, HB⟩ := hrel
        have HC : Hid (∀ j, j < c → ∀ k, k < j → p j ≠ p k) := hall
        clear hall
        by_cases hcn : c < n
        · have hcI : (c : Int) < n := by omega
          have HSo : Hid (SpIn wr ao n p) := HS1.out.step HB
          have HB4 := HB1.trans (HB.mono HB1.size)
          have B3 := B1.step HB
          have HBo := HB
          clear HB
          go_wp2_with fail
          generalize wr = W4 at *
          go_loopw [6] (fun i wr => ∃ d : Nat, d ≤ c ∧ i = .int .i64 d ∧ (∀ k, k < d → p c ≠ p k) ∧ Below W4.heap.size W4 wr) (fun i _ => c - (intOf i).toNat)
          case atStart => exact ⟨0, by omega, rfl, fun j hj => by omega, Below.refl _ _⟩
          case round =>
            rename_i hrel
            obtain ⟨d, hd, rfl, hall, HB⟩ := hrel
            have HE : Hid (∀ k, k < d → p c ≠ p k) := hall
            clear hall
            by_cases hdn : d < c
            · have hdI : (d : Int) < c := by omega
              have hdI2 : (d : Int) < n := by omega
              obtain ⟨A, off, rfl, hA, q0, q1⟩ := HSo.out.step HB c hcn
              obtain ⟨A', off', hao, -, m0, m1⟩ := HSo.out.step HB d (by omega)
              obtain ⟨rfl, rfl⟩ : A = A' ∧ off = off' := by simpa using hao
              have b0 := (B3.step HB).c 0 rfl
              have EQ := eqSp2 (p c).1 (p c).2 (p d).1 (p d).2
              have KS : (fun w' : World => w'.cell? ⟨w.heap.size, 0, none⟩ = some (.slice (some ⟨A, off, none⟩) n cap) ∧ w'.cell? ⟨A, off + c * 2, none⟩ = some (.int .i64 (p c).1) ∧ w'.cell? ⟨A, off + c * 2 + 1, none⟩ = some (.int .i64 (p c).2) ∧ w'.cell? ⟨A, off + d * 2, none⟩ = some (.int .i64 (p d).1) ∧ w'.cell? ⟨A, off + d * 2 + 1, none⟩ = some (.int .i64 (p d).2)) wr := ⟨b0, q0, q1, m0, m1⟩
              go_upto_region 17 with fail
              go_region_held3 (fun w' : World => w'.cell? ⟨w.heap.size, 0, none⟩ = some (.slice (some ⟨A, off, none⟩) n cap) ∧ w'.cell? ⟨A, off + c * 2, none⟩ = some (.int .i64 (p c).1) ∧ w'.cell? ⟨A, off + c * 2 + 1, none⟩ = some (.int .i64 (p c).2) ∧ w'.cell? ⟨A, off + d * 2, none⟩ = some (.int .i64 (p d).1) ∧ w'.cell? ⟨A, off + d * 2 + 1, none⟩ = some (.int .i64 (p d).2)) (exact KS) (fail)
              all_goals have HBD := HB.drew
              all_goals clear KS b0 q0 q1 m0 m1 EQ hao hA HB
              all_goals by_cases h : (p c).1 = (p d).1 ∧ (p c).2 = (p d).2
              all_goals first
                | (have HO : Hid (rgF n p = 4) := by
                     show _ = _
                     unfold rgF
                     rw [if_neg h1, if_neg h2, if_neg (fun hh => hh HA.out), if_pos (fun hh => hh c hcn d hdn (Prod.ext h.1 h.2))]
                   have d1 : (decide ((p c).1 = (p d).1) && decide ((p c).2 = (p d).2)) = true := by simp [h.1, h.2]
                   rw [d1]
                   have HBF := HB4.trans (HBD.mono HB4.size)
                   clear d1 h
                   go_wp2
                   go_ret
                   exact ⟨by rw [HO.out]; rfl, HBF⟩)
                | (have HH : Hid (p c ≠ p d) := fun e => h ⟨by rw [e], by rw [e]⟩
                   have d1 : (decide ((p c).1 = (p d).1) && decide ((p c).2 = (p d).2)) = false := by
                     rw [Bool.eq_false_iff]
                     intro hh
                     simp at hh
                     exact h hh
                   rw [d1]
                   clear d1 h
                   go_wp2
                   go_roundw)
              case rel => exact ⟨d + 1, by omega, by go_num, fun k hk => by
                rcases Nat.lt_or_ge k d with h | h
                · exact HE.out k h
                · obtain rfl : k = d := by omega
                  exact HH.out, HBD⟩
              case measure => simp [intOf]; omega
            · obtain rfl : c = d := by omega
              have HBF := HBo.trans (HB.mono HBo.size)
              clear HB HBo HB4 HSo B3
              go_wp2
              go_roundw
              case rel => exact ⟨c + 1, by omega, by go_num, fun j hj => by
                rcases Nat.lt_or_ge j c with h | h
                · exact HC.out j h
                · obtain rfl : j = c := by omega
                  exact HE.out, HBF⟩
              case measure => simp [intOf]; omega
        · obtain rfl : n = c := by omega
          have HB3 := HB1.trans (HB.mono HB1.size)
          have HS2 : Hid (SpIn wr ao n p) := HS1.out.step HB
          have B2 := B1.step HB
          clear HS1 B1 HB HB1
          go_wp2_with fail
          generalize wr = W3 at *
          go_loopw [7] (fun i wr => ∃ c : Nat, c ≤ n ∧ i = .int .i64 c ∧ (∀ j, j < c → ∀ k, k < j → bdB n p j k = false) ∧ Below W3.heap.size W3 wr) (fun i _ => n - (intOf i).toNat)
          case atStart => exact ⟨0, by omega, rfl, fun j hj => by omega, Below.refl _ _⟩
          case round =>
            rename_i hrel
            obtain ⟨c, hc, rfl, hall, HB⟩ := hrel
            have HD : Hid (∀ j, j < c → ∀ k, k < j → bdB n p j k = false) := hall
            clear hall
            by_cases hcn : c < n
            · have hcI : (c : Int) < n := by omega
              have HSo : Hid (SpIn wr ao n p) := HS2.out.step HB
              have HB4 := HB3.trans (HB.mono HB3.size)
              have B3 := B2.step HB
              have HBo := HB
              clear HB
              go_wp2_with fail
              generalize wr = W4 at *
              go_loopw [8] (fun i wr => ∃ d : Nat, d ≤ c ∧ i = .int .i64 d ∧ (∀ k, k < d → bdB n p c k = false) ∧ Below W4.heap.size W4 wr) (fun i _ => c - (intOf i).toNat)
              case atStart => exact ⟨0, by omega, rfl, fun j hj => by omega, Below.refl _ _⟩
              case round =>
                rename_i hrel
                obtain ⟨d, hd, rfl, hall, HB⟩ := hrel
                have HE : Hid (∀ k, k < d → bdB n p c k = false) := hall
                clear hall
                by_cases hdn : d < c
                · have hdI : (d : Int) < c := by omega
                  have HSr := HSo.out.step HB
                  have B4 := B3.step HB
                  obtain ⟨A, off, rfl, -, -, -⟩ := HSr c hcn
                  obtain ⟨i1, i2, i3, i4⟩ := in1_seg (side_ok HA.out HC.out (by omega) hcn)
                  obtain ⟨j1, j2, j3, j4⟩ := in1_seg (side_ok HA.out HC.out (by omega) (show d < n by omega))
                  have L1 := fun w h => l5Side_any (some ⟨A, off, none⟩) n cap p c hcn hn w h
                  have L2 := fun w h => l5Side_any (some ⟨A, off, none⟩) n cap p d (by omega) hn w h
                  have LM := l4Meet_any (sdA n p c).1 (sdA n p c).2.1 (sdA n p c).2.2.1 (sdA n p c).2.2.2 (sdA n p d).1 (sdA n p d).2.1 (sdA n p d).2.2.1 (sdA n p d).2.2.2 i1 i2 i3 i4 j1 j2 j3 j4
                  have hbs := bd_same HC.out (by omega) hcn hdn
                  have hkin : kdA n p c d = 0 ∨ kdA n p c d = 1 ∨ kdA n p c d = 2 := knd_in _ _ _ _ _ _ _ _
                  go_upto_region 25 with fail
                  go_cut [9] (fun m wx => m = .int .i64 (kdA n p c d) ∧ Below wr.heap.size wr wx)
                  case first =>
                    clear HE HD HB4 HSo HS2 HA HC hbs hkin L1 L2 LM
                    refine reg25 (c := c) (d := d) hcn (by omega) hn HSr i1 i2 i3 i4 j1 j2 j3 j4 (by have hz := HB3.size; have hz2 := HBo.size; first | exact B4.lt | omega) (B4.c 0 rfl) rfl rfl rfl rfl (by simp) (by simp) (by simp) (by simp) ?_
                    rintro ⟨tm, df⟩ Wz hz hdf hoff h9 hBz
                    simp only at hz hdf hoff h9
                    subst hdf
                    have htm := tmps_fold [64, 65, 66, 67, 68, 69, 70, 63, 71, 72, 73, 10, 11, 9] tm _ hz hoff
                    simp only [List.foldl, List.setIfInBounds_toArray, List.set_cons_zero, List.set_cons_succ, h9] at htm
                    clear hz hoff
                    generalize tm.getD 64 undef = u0, tm.getD 65 undef = u1, tm.getD 66 undef = u2, tm.getD 67 undef = u3, tm.getD 68 undef = u4, tm.getD 69 undef = u5, tm.getD 70 undef = u6, tm.getD 63 undef = u7, tm.getD 71 undef = u8, tm.getD 72 undef = u9, tm.getD 73 undef = u10, tm.getD 10 undef = u11, tm.getD 11 undef = u12 at htm
                    clear h9
                    subst htm
                    go_wp2_with fail
                    go_meet
                    exact ⟨rfl, hBz⟩
                  case rest =>
                    obtain ⟨hm, hBc⟩ := hcut
                    subst hm
                    have HB5 := HB.trans (hBc.mono HB.size)
                    clear hBc HB B4 HSr L1 L2 LM i1 i2 i3 i4 j1 j2 j3 j4
                    generalize kdA n p c d = z at *
                    have hs1 : IntKind.i64.wrap ((c : Int) - 1) = (c : Int) - 1 := by rw [IntKind.wrap_i64]; omega
                    have hs2 : IntKind.i64.wrap ((n : Int) - 1) = (n : Int) - 1 := by rw [IntKind.wrap_i64]; omega
                    have HBS : Hid (bdB n p c d = ((nxB n c d && !(decide (z = 1))) || (!(nxB n c d) && !(decide (z = 0))))) := hbs
                    clear hbs
                    have HBF := HB4.trans (HB5.mono HB4.size)
                    rcases (show (d + 1 = c) ∨ (d + 1 ≠ c ∧ d = 0 ∧ c + 1 = n) ∨ (d + 1 ≠ c ∧ d = 0 ∧ c + 1 ≠ n) ∨ (d + 1 ≠ c ∧ d ≠ 0) by omega) with hN1 | hN2 | hN3 | hN4
                    · have HX : Hid (nxB n c d = true) := by show _ = _; unfold nxB; simp; omega
                      have b1 : ((d : Int) == (c : Int) - 1) = true := beq_iff_eq.2 (by omega)
                      clear hN1
                      rcases hkin with rfl | rfl | rfl
                      · have HO : Hid (rgF n p = 5) := by
                          show _ = _
                          unfold rgF
                          rw [if_neg h1, if_neg h2, if_neg (fun hh => hh HA.out), if_neg (fun hh => hh HC.out), if_pos (fun hh => by
                            have e := hh c hcn d hdn
                            rw [HBS.out, HX.out] at e
                            simp at e)]
                        go_wp2
                        go_ret
                        exact ⟨by rw [HO.out]; rfl, HBF⟩
                      · have HN : Hid (bdB n p c d = false) := by show _ = _; rw [HBS.out, HX.out]; rfl
                        go_wp2
                        go_roundw
                        case rel => exact ⟨d + 1, by omega, by go_num, fun k hk => by
                          rcases Nat.lt_or_ge k d with h | h
                          · exact HE.out k h
                          · obtain rfl : k = d := by omega
                            exact HN.out, HB5⟩
                        case measure => simp [intOf]; omega
                      · have HO : Hid (rgF n p = 5) := by
                          show _ = _
                          unfold rgF
                          rw [if_neg h1, if_neg h2, if_neg (fun hh => hh HA.out), if_neg (fun hh => hh HC.out), if_pos (fun hh => by
                            have e := hh c hcn d hdn
                            rw [HBS.out, HX.out] at e
                            simp at e)]
                        go_wp2
                        go_ret
                        exact ⟨by rw [HO.out]; rfl, HBF⟩
                    · have HX : Hid (nxB n c d = true) := by show _ = _; unfold nxB; simp; omega
                      have b1 : ((d : Int) == (c : Int) - 1) = false := beq_eq_false_iff_ne.2 (by omega)
                      have b2 : ((d : Int) == 0) = true := beq_iff_eq.2 (by omega)
                      have b3 : ((c : Int) == (n : Int) - 1) = true := beq_iff_eq.2 (by omega)
                      clear hN2
                      rcases hkin with rfl | rfl | rfl
                      · have HO : Hid (rgF n p = 5) := by
                          show _ = _
                          unfold rgF
                          rw [if_neg h1, if_neg h2, if_neg (fun hh => hh HA.out), if_neg (fun hh => hh HC.out), if_pos (fun hh => by
                            have e := hh c hcn d hdn
                            rw [HBS.out, HX.out] at e
                            simp at e)]
                        go_wp2
                        go_ret
                        exact ⟨by rw [HO.out]; rfl, HBF⟩
                      · have HN : Hid (bdB n p c d = false) := by show _ = _; rw [HBS.out, HX.out]; rfl
                        go_wp2
                        go_roundw
                        case rel => exact ⟨d + 1, by omega, by go_num, fun k hk => by
                          rcases Nat.lt_or_ge k d with h | h
                          · exact HE.out k h
                          · obtain rfl : k = d := by omega
                            exact HN.out, HB5⟩
                        case measure => simp [intOf]; omega
                      · have HO : Hid (rgF n p = 5) := by
                          show _ = _
                          unfold rgF
                          rw [if_neg h1, if_neg h2, if_neg (fun hh => hh HA.out), if_neg (fun hh => hh HC.out), if_pos (fun hh => by
                            have e := hh c hcn d hdn
                            rw [HBS.out, HX.out] at e
                            simp at e)]
                        go_wp2
                        go_ret
                        exact ⟨by rw [HO.out]; rfl, HBF⟩
                    · have HX : Hid (nxB n c d = false) := by show _ = _; unfold nxB; rw [Bool.eq_false_iff]; intro hh; simp at hh; omega
                      have b1 : ((d : Int) == (c : Int) - 1) = false := beq_eq_false_iff_ne.2 (by omega)
                      have b2 : ((d : Int) == 0) = true := beq_iff_eq.2 (by omega)
                      have b3 : ((c : Int) == (n : Int) - 1) = false := beq_eq_false_iff_ne.2 (by omega)
                      clear hN3
                      rcases hkin with rfl | rfl | rfl
                      · have HN : Hid (bdB n p c d = false) := by show _ = _; rw [HBS.out, HX.out]; rfl
                        go_wp2
                        go_roundw
                        case rel => exact ⟨d + 1, by omega, by go_num, fun k hk => by
                          rcases Nat.lt_or_ge k d with h | h
                          · exact HE.out k h
                          · obtain rfl : k = d := by omega
                            exact HN.out, HB5⟩
                        case measure => simp [intOf]; omega
                      · have HO : Hid (rgF n p = 5) := by
                          show _ = _
                          unfold rgF
                          rw [if_neg h1, if_neg h2, if_neg (fun hh => hh HA.out), if_neg (fun hh => hh HC.out), if_pos (fun hh => by
                            have e := hh c hcn d hdn
                            rw [HBS.out, HX.out] at e
                            simp at e)]
                        go_wp2
                        go_ret
                        exact ⟨by rw [HO.out]; rfl, HBF⟩
                      · have HO : Hid (rgF n p = 5) := by
                          show _ = _
                          unfold rgF
                          rw [if_neg h1, if_neg h2, if_neg (fun hh => hh HA.out), if_neg (fun hh => hh HC.out), if_pos (fun hh => by
                            have e := hh c hcn d hdn
                            rw [HBS.out, HX.out] at e
                            simp at e)]
                        go_wp2
                        go_ret
                        exact ⟨by rw [HO.out]; rfl, HBF⟩
                    · have HX : Hid (nxB n c d = false) := by show _ = _; unfold nxB; rw [Bool.eq_false_iff]; intro hh; simp at hh; omega
                      have b1 : ((d : Int) == (c : Int) - 1) = false := beq_eq_false_iff_ne.2 (by omega)
                      have b2 : ((d : Int) == 0) = false := beq_eq_false_iff_ne.2 (by omega)
                      clear hN4
                      rcases hkin with rfl | rfl | rfl
                      · have HN : Hid (bdB n p c d = false) := by show _ = _; rw [HBS.out, HX.out]; rfl
                        go_wp2
                        go_roundw
                        case rel => exact ⟨d + 1, by omega, by go_num, fun k hk => by
                          rcases Nat.lt_or_ge k d with h | h
                          · exact HE.out k h
                          · obtain rfl : k = d := by omega
                            exact HN.out, HB5⟩
                        case measure => simp [intOf]; omega
                      · have HO : Hid (rgF n p = 5) := by
                          show _ = _
                          unfold rgF
                          rw [if_neg h1, if_neg h2, if_neg (fun hh => hh HA.out), if_neg (fun hh => hh HC.out), if_pos (fun hh => by
                            have e := hh c hcn d hdn
                            rw [HBS.out, HX.out] at e
                            simp at e)]
                        go_wp2
                        go_ret
                        exact ⟨by rw [HO.out]; rfl, HBF⟩
                      · have HO : Hid (rgF n p = 5) := by
                          show _ = _
                          unfold rgF
                          rw [if_neg h1, if_neg h2, if_neg (fun hh => hh HA.out), if_neg (fun hh => hh HC.out), if_pos (fun hh => by
                            have e := hh c hcn d hdn
                            rw [HBS.out, HX.out] at e
                            simp at e)]
                        go_wp2
                        go_ret
                        exact ⟨by rw [HO.out]; rfl, HBF⟩
                · obtain rfl : c = d := by omega
                  have HBF := HBo.trans (HB.mono HBo.size)
                  clear HB HBo HB4 HSo B3
                  go_wp2
                  go_roundw
                  case rel => exact ⟨c + 1, by omega, by go_num, fun j hj => by
                    rcases Nat.lt_or_ge j c with h | h
                    · exact HD.out j h
                    · obtain rfl : j = c := by omega
                      exact HE.out, HBF⟩
                  case measure => simp [intOf]; omega
            · obtain rfl : n = c := by omega
              have HO : Hid (rgF n p = 0) := by
                show _ = _
                unfold rgF
                rw [if_neg h1, if_neg h2, if_neg (fun hh => hh HA.out), if_neg (fun hh => hh HC.out), if_neg (fun hh => hh HD.out)]
              have HBF := HB3.trans (HB.mono HB3.size)
              clear HS2 B2 HB HB3 HA HC HD
              go_wp2
              go_ret
              exact ⟨by rw [HO.out]; rfl, HBF⟩
end Go.Proofs.Ythgodemncbmmgaa

/- Rings that are turned: the program's small walks. -/
namespace Go.Proofs.Ythgodemncbmmgaa
open Go.RowKit
set_option maxRecDepth 100000 in
theorem rright_any (ao : Option Addr) (n cap : Nat) (p : Ps) (hn : n ≤ 1048576) (hcap : n ≤ cap) (hcap2 : cap ≤ 9223372036854775807) (w : World) (hS : SpIn w ao n p) : Calls Try.prog 42 #[.agg #[.slice ao n cap]] w (BoolP (decide (rgF n p = 0)) w) := by
  have C := fun w h => implRingFault_any ao n cap p hn hcap hcap2 w h
  have HS := hS.step ((Below.refl _ _).alloc (Nat.le_refl _) (.cells #[.slice ao n cap] 35))
  revert C
  generalize rgF n p = o
  intro C
  clear hS
  go_enter Try.func42, Try.ntmps42
  go_wp2_with fail
  refine (C _ HS).mono ?_
  rintro e w1 ⟨rfl, hB⟩
  have HB : Below w.heap.size w w1 := ((Below.refl _ _).alloc (Nat.le_refl _) _).trans (hB.mono (by simp))
  clear hB C HS
  by_cases h : o = 0
  · subst h
    go_wp2
    go_ret
    exact ⟨rfl, HB⟩
  · have hf : (o == 0) = false := by simp; omega
    have HD : Hid (decide (o = 0) = false) := decide_eq_false h
    go_wp2
    go_ret
    exact ⟨by rw [HD.out]; rfl, HB⟩
set_option maxRecDepth 100000 in
theorem l5Ok_any (ao : Option Addr) (n cap : Nat) (p : Ps) (hn : n ≤ 1048576) (w : World) (hS : SpIn w ao n p) : Calls Try.prog 40 #[.agg #[.slice ao n cap]] w (BoolP (decide (rgF n p = 0)) w) := by
  have C := fun w h => specRingFault_any ao n cap p hn w h
  have HS := hS.step ((Below.refl _ _).alloc (Nat.le_refl _) (.cells #[.slice ao n cap] 35))
  revert C
  generalize rgF n p = o
  intro C
  clear hS
  go_enter Try.func40, Try.ntmps40
  go_wp2_with fail
  refine (C _ HS).mono ?_
  rintro e w1 ⟨rfl, hB⟩
  have HB : Below w.heap.size w w1 := ((Below.refl _ _).alloc (Nat.le_refl _) _).trans (hB.mono (by simp))
  clear hB C HS
  by_cases h : o = 0
  · subst h
    go_wp2
    go_ret
    exact ⟨rfl, HB⟩
  · have hf : (o == 0) = false := by simp; omega
    have HD : Hid (decide (o = 0) = false) := decide_eq_false h
    go_wp2
    go_ret
    exact ⟨by rw [HD.out]; rfl, HB⟩
/-- The cells of n spots, one behind the other. -/
def spL (n : Nat) (p : Ps) : List Value := (List.range (n * 2)).map fun (i : Nat) => Value.int .i64 (spW p i)
theorem spL_at {n : Nat} {p : Ps} {i : Nat} (h : i < n * 2) : (spL n p)[i]? = some (.int .i64 (spW p i)) := by simp [spL, h]
/-- A slice of the call's own, with these spots. -/
def SpOwn (w : World) (base : Nat) (v : Value) (n : Nat) (p : Ps) : Prop :=
  (v = .slice none 0 0 ∧ n = 0) ∨ ∃ g cap f, v = .slice (some ⟨g, 0, none⟩) n cap ∧ base ≤ g ∧ n ≤ cap ∧ cap ≤ maxLen ∧ w.rowIs g 77 (cap * 2) f ∧ ∀ i, i < n * 2 → f i = .int .i64 (spW p i)
theorem SpOwn.of {w : World} {base : Nat} {v : Value} {n : Nat} {p : Ps} (h : w.ownsRow base 77 2 v n (spL n p)) : SpOwn w base v n p := by
  rcases h.2 with ⟨h1, h2⟩ | ⟨g, cap, cur, h1, h2, h3, h4, h5, h6, h7⟩
  · exact .inl ⟨h1, h2⟩
  · refine .inr ⟨g, cap, fun i => cur.getD i undef, h1, h2, h4, h5, ⟨cur, h3, by omega, fun i hi => ?_⟩, fun i hi => ?_⟩
    · simp [Array.getD_eq_getD_getElem?, show i < cur.size by omega]
    · have e : (cur.toList.take (n * 2))[i]? = (spL n p)[i]? := by rw [h7]
      rw [List.getElem?_take_of_lt hi, spL_at hi] at e
      simp only [Array.getElem?_toList] at e
      show cur.getD i undef = _
      rw [Array.getD_eq_getD_getElem?, e]
      rfl
end Go.Proofs.Ythgodemncbmmgaa

/- The sides of a ring as a row: the program's walk. -/
namespace Go.Proofs.Ythgodemncbmmgaa
open Go.RowKit Go.Shelf
attribute [local go_sem] Oper.semAt_some
theorem rgF_facts {n : Nat} {p : Ps} (h : rgF n p = 0) : 3 ≤ n ∧ n ≤ 12 ∧ (∀ i, i < n → spotOk (p i).1 (p i).2 = true) ∧ OneN n p := by
  unfold rgF at h
  split at h
  · cases h
  split at h
  · cases h
  split at h
  · cases h
  rename_i h3
  split at h
  · cases h
  rename_i h4
  exact ⟨by omega, by omega, Classical.not_not.1 h3, Classical.not_not.1 h4⟩
/-- The cells of some sides, one behind the other. -/
def sdC (n : Nat) (p : Ps) (pre : List (Fin n)) : List Value := pre.flatMap fun x => [.int .i64 (sdA n p x.1).1, .int .i64 (sdA n p x.1).2.1, .int .i64 (sdA n p x.1).2.2.1, .int .i64 (sdA n p x.1).2.2.2]
theorem sdC_snoc (n : Nat) (p : Ps) (pre : List (Fin n)) (x : Fin n) : sdC n p (pre ++ [x]) = sdC n p pre ++ [.int .i64 (sdA n p x.1).1, .int .i64 (sdA n p x.1).2.1, .int .i64 (sdA n p x.1).2.2.1, .int .i64 (sdA n p x.1).2.2.2] := by simp [sdC]
theorem Try.infoSeg2 : (Try.prog.info? 88).map (fun i => (i.zero, i.size, i.bytes)) = some (some (.agg #[.int .i64 0, .int .i64 0, .int .i64 0, .int .i64 0]), 4, 32) := by kernel_rfl
theorem own_mono {w : World} {b b' n : Nat} {e : TypeId} {size : Nat} {v : Value} {xs : List Value} (h : w.ownsRow b' e size v n xs) (hb : b ≤ b') : w.ownsRow b e size v n xs := by
  rcases h with ⟨h0, h1 | ⟨g, cap, cur, h1, h2, h3⟩⟩
  · exact ⟨h0, .inl h1⟩
  · exact ⟨h0, .inr ⟨g, cap, cur, h1, Nat.le_trans hb h2, h3⟩⟩
/-- A slice of the call's own, with these cells, four a piece. -/
def SdP (m : Nat) (cs : List Value) (w : World) (e : Ending) (w' : World) : Prop := ∃ v, e = .returned v ∧ w'.ownsRow w.heap.size 88 4 v m cs ∧ Below w.heap.size w w'
theorem cell_four_new (w : World) (a b c d : Value) (t : TypeId) : ∀ j u, [a, b, c, d][j]? = some u → (w.alloc (.cells #[a, b, c, d] t)).cell? ((⟨w.heap.size, 0, none⟩ : Addr).add j) = some u := by
  intro j u hj
  match j, hj with
  | 0, hj => simp at hj; subst hj; simp [Addr.add]
  | 1, hj => simp at hj; subst hj; simp [Addr.add]
  | 2, hj => simp at hj; subst hj; simp [Addr.add]
  | 3, hj => simp at hj; subst hj; simp [Addr.add]
  | j + 4, hj => simp at hj
theorem one_cell4 (x y z t : Int) : ∀ u ∈ [Value.int .i64 x, Value.int .i64 y, Value.int .i64 z, Value.int .i64 t], u.oneCell' = true := by
  intro u hu
  simp only [List.mem_cons, List.not_mem_nil, or_false] at hu
  rcases hu with rfl | rfl | rfl | rfl <;> rfl
set_option maxRecDepth 100000 in
set_option maxHeartbeats 8000000 in
theorem implSegs_any (ao : Option Addr) (n cap : Nat) (p : Ps) (hn : n ≤ 1048576) (hcap : n ≤ cap) (hcap2 : cap ≤ 9223372036854775807) (h0 : rgF n p = 0) (w : World) (hS : SpIn w ao n p) : Calls Try.prog 23 #[.agg #[.slice ao n cap]] w (SdP n (sdC n p (List.finRange n)) w) := by
  obtain ⟨hn3, hn12, hok, hone⟩ := rgF_facts h0
  have C := fun w h => rright_any ao n cap p hn hcap hcap2 w h
  rw [decide_eq_true h0] at C
  have HS := hS.step ((Below.refl _ _).alloc (Nat.le_refl _) (.cells #[.slice ao n cap] 35))
  have b0 := Blk.new w [.slice ao n cap] 35 rfl
  refine (callsIn_wide (n := 12)).1 ?_
  refine callsIn_of_wp_marks Try.func23 rfl trivial ?_ rfl
  simp only [Try.ntmps23, List.size_toArray, List.length_cons, List.length_nil, Nat.reduceAdd, Nat.reduceSub, Array.replicate_succ, Array.replicate_zero, List.push_toArray, List.append_toArray, List.nil_append, List.cons_append]
  gi_wp2_with (first
    | (refine ⟨trivial, ?_⟩; gi_at_call 42; refine (callsIn_wide.2 (C _ HS)).mono ?_; rintro e w1 ⟨rfl, hB1⟩; have b1 := b0.step hB1; have c1 := b1.c 0 rfl; have l1 := b1.lt)
    | (refine ⟨trivial, ?_⟩; gi_at_call 53; refine (callsIn_wide.2 (sides_any _ _ _ _)).mono ?_; rintro e w' ⟨rfl, rfl⟩))
  have HBw : Below w.heap.size w w1 := ((Below.refl _ _).alloc (Nat.le_refl _) _).trans (hB1.mono (by simp))
  have bS := (Boxed.new w1 41 (.slice none 0 0)).alloc (.cells #[.slice ao n cap] 35)
  have bN := Boxed.new (w1.alloc (.cells #[.slice none 0 0] 41)) 35 (.slice ao n cap)
  simp only [World.size_alloc] at bN
  have hB0 : Below w.heap.size w ((w1.alloc (.cells #[.slice none 0 0] 41)).alloc (.cells #[.slice ao n cap] 35)) := (HBw.alloc HBw.size _).alloc (Nat.le_trans HBw.size (by simp)) _
  have hsz : ((w1.alloc (.cells #[.slice none 0 0] 41)).alloc (.cells #[.slice ao n cap] 35)).heap.size = w1.heap.size + 2 := by simp
  obtain ⟨W0, hW0⟩ : ∃ W0, ((w1.alloc (.cells #[.slice none 0 0] 41)).alloc (.cells #[.slice ao n cap] 35)) = W0 := ⟨_, rfl⟩
  rw [hW0] at bS bN hB0 hsz ⊢
  clear hW0
  have hS0 : SpB w.heap.size W0 ao n p := (hS.low).keep (fun k hk => hB0.block k hk)
  obtain ⟨i0, hi, hz0, hz1, hz2⟩ := info_parts Try.infoSeg2
  clear C HS b0 hB1 b1 c1
  refine wpIn_rangeFunc_ownH rfl (by omega) (gf := 85) (lb := #[.pointer (some ⟨w1.heap.size + 1, 0, none⟩)]) rfl trivial (enters_of Try.func85 (by kernel_rfl) rfl)
    (sides_stops (12 - 1) w.heap.size (w1.heap.size + 1) ao n cap p hn3 hn12 hok hone W0 (by omega) (by omega) bN.cell hS0) (fun h k => h.trans k) (KpB.put (by omega) (by omega)) (Below.refl _ _) (fun _ => rfl)
    (fun pre W => (∃ v, Boxed W w1.heap.size 41 v ∧ W.ownsRow W0.heap.size 88 4 v pre.length (sdC n p pre) ∧ True) ∧ Below w.heap.size w W ∧ W0.heap.size ≤ W.heap.size)
    (fun _ _ _ => False)
    (OwnFrom.and (Own.from (holdsRow_own W0.heap.size w1.heap.size 41 88 4 (fun pre : List (Fin n) => pre.length) (fun pre => sdC n p pre) (fun _ _ => True)) _) (OwnFrom.and (ownFrom_below (Nat.le_refl _) (by omega)) (fun _ X Y row hs hg _ => Nat.le_trans hs hg.size)))
    (fun _ _ _ _ _ hs _ _ => hs.elim)
    ⟨⟨_, bS, World.ownsRow_nil _ _ _ _, trivial⟩, hB0, Nat.le_refl _⟩
    (fun x a' W => ∃ Bs, BoxV W Bs 88 [.int .i64 (sdA n p x.1).1, .int .i64 (sdA n p x.1).2.1, .int .i64 (sdA n p x.1).2.2.1, .int .i64 (sdA n p x.1).2.2.2] ∧ a' = { tmps := #[.agg #[.slice ao n cap], .pointer (some ⟨w.heap.size, 0, none⟩), .slice none 0 0, .pointer (some ⟨w1.heap.size, 0, none⟩), undef, .pointer (some ⟨Bs, 0, none⟩), .agg #[.slice ao n cap], .bool true, .bool false, .agg #[.slice ao n cap], .func (.func 85) #[] #[.pointer (some ⟨w1.heap.size + 1, 0, none⟩)], .int .i64 (x.1 : Int), .agg #[.int .i64 (sdA n p x.1).1, .int .i64 (sdA n p x.1).2.1, .int .i64 (sdA n p x.1).2.2.1, .int .i64 (sdA n p x.1).2.2.2], undef, undef, undef, undef, undef], defers := [] })
    (fun x a' _ X Y row hs hg hr => by obtain ⟨Bs, e4, e5⟩ := hs; exact ⟨Bs, boxV_own Bs 88 (fun (_ : Unit) => [.int .i64 (sdA n p x.1).1, .int .i64 (sdA n p x.1).2.1, .int .i64 (sdA n p x.1).2.2.1, .int .i64 (sdA n p x.1).2.2.2]) () X Y row e4 hg (fun r e => (hr r e).2), e5⟩)
    ?assign ?body ?done ?stop
  case assign =>
    rintro l pre x W K ⟨⟨v, hv, hr, _⟩, hB1, hs1⟩ hK
    unfold enS
    gi_wp2
    have hB2 : Below W.heap.size W (W.alloc (.cells #[.int .i64 (sdA n p x.1).1, .int .i64 (sdA n p x.1).2.1, .int .i64 (sdA n p x.1).2.2.1, .int .i64 (sdA n p x.1).2.2.2] 88)) := (Below.refl _ W).alloc (Nat.le_refl _) _
    have hsW := hB1.size
    have b2 := BoxV.new W 88 [.int .i64 (sdA n p x.1).1, .int .i64 (sdA n p x.1).2.1, .int .i64 (sdA n p x.1).2.2.1, .int .i64 (sdA n p x.1).2.2.2]
    exact hK _ _ (below_keeps hB2) (KpB.of hB2 (by omega) (by omega)) ⟨⟨v, hv.alloc _, hr.alloc _, trivial⟩, hB1.trans (hB2.mono hB1.size), Nat.le_trans hs1 hB2.size⟩ ⟨_, b2, rfl⟩
  case body =>
    rintro l pre x a' W hl ⟨r, hr0⟩ ⟨⟨v, hv, hr, _⟩, hB1, hs1⟩ ⟨Bs, bB, rfl⟩ hlt
    have cv := hv.cell
    have s0 := bB.blk.c 0 rfl; have s1 := bB.blk.c 1 rfl; have s2 := bB.blk.c 2 rfl; have s3 := bB.blk.c 3 rfl
    gi_wp2_with (gi_at_builtin; refine wpListIn_append_own _ rfl _ _ 41 rfl W0.heap.size 88 i0 (.agg #[.int .i64 0, .int .i64 0, .int .i64 0, .int .i64 0]) 4 32 Try.underlying41 hi hz0 hz1 hz2 rfl (by decide) _ _ _ rfl (hr.alloc _) ⟨W.heap.size, 0, none⟩ 1 1 [.int .i64 (sdA n p x.1).1, .int .i64 (sdA n p x.1).2.1, .int .i64 (sdA n p x.1).2.2.1, .int .i64 (sdA n p x.1).2.2.2] rfl rfl (cell_four_new _ _ _ _ _ _) (one_cell4 _ _ _ _) (by unfold maxLen; omega) (by omega) (by simp; omega) ?_)
    intro v' w2 hown' hgrow hnn
    obtain ⟨g', cap', rfl⟩ := ownsRow_succ hown'
    have hvo : ∀ j, v.ownBlock = some j → w1.heap.size + 2 ≤ j := fun j hj => by have := (hr.lt j hj).1; omega
    have hblk : ∀ k, k < w1.heap.size + 2 → w2.heap[k]? = W.heap[k]? := fun k hk => (hgrow.block k (by simp; omega) (fun e => by have := hvo k e.symm; omega)).trans (Below.heap_alloc W _ k (by omega))
    have hv1 : Boxed w2 w1.heap.size 41 v := (hblk _ (by omega)).trans hv
    have c1 := hv1.cell
    have f1 := hv1.frozen
    have hBN : Below w.heap.size w w2 := (hB1.alloc hB1.size _).grown hgrow (by simp; have := hB1.size; omega) (fun j hj => by have := hvo j hj; omega)
    have hgs := hgrow.size
    simp only [World.size_alloc] at hgs
    have KO := ((KeepsOthers.alloc W (.cells #[.int .i64 (sdA n p x.1).1, .int .i64 (sdA n p x.1).2.1, .int .i64 (sdA n p x.1).2.2.1, .int .i64 (sdA n p x.1).2.2.2] 88)).trans (KeepsOthers.of_grownBy hgrow fun j o ej hj => by
      rcases (hr.alloc (.cells #[.int .i64 (sdA n p x.1).1, .int .i64 (sdA n p x.1).2.1, .int .i64 (sdA n p x.1).2.2.1, .int .i64 (sdA n p x.1).2.2.2] 88)).2 with ⟨rfl, _⟩ | ⟨g, cap, cur, rfl, _, hgb, _⟩
      · simp [Value.ownBlock] at ej
      · obtain rfl : g = j := by simpa [Value.ownBlock] using ej
        rw [hgb] at hj; cases hj; rfl)).trans (KeepsOthers.setCell w2 ⟨w1.heap.size, 0, none⟩ (.slice (some ⟨g', 0, none⟩) (pre.length + 1) cap'))
    have HFIN : Hid (KeepsFrom W0.heap.size W (w2.setCell ⟨w1.heap.size, 0, none⟩ (.slice (some ⟨g', 0, none⟩) (pre.length + 1) cap')) ∧ KpB w.heap.size (w1.heap.size + 1) W (w2.setCell ⟨w1.heap.size, 0, none⟩ (.slice (some ⟨g', 0, none⟩) (pre.length + 1) cap')) ∧ ((∃ v, Boxed (w2.setCell ⟨w1.heap.size, 0, none⟩ (.slice (some ⟨g', 0, none⟩) (pre.length + 1) cap')) w1.heap.size 41 v ∧ (w2.setCell ⟨w1.heap.size, 0, none⟩ (.slice (some ⟨g', 0, none⟩) (pre.length + 1) cap')).ownsRow W0.heap.size 88 4 v (pre ++ [x]).length (sdC n p (pre ++ [x])) ∧ True) ∧ Below w.heap.size w (w2.setCell ⟨w1.heap.size, 0, none⟩ (.slice (some ⟨g', 0, none⟩) (pre.length + 1) cap')) ∧ W0.heap.size ≤ (w2.setCell ⟨w1.heap.size, 0, none⟩ (.slice (some ⟨g', 0, none⟩) (pre.length + 1) cap')).heap.size)) := by
      refine ⟨KO.from _, ⟨by simp [World.setCell]; omega, fun k hk => (Below.heap_setCell _ _ _ _ (by show k ≠ w1.heap.size; omega)).trans (hblk k (by omega)), (Below.heap_setCell _ _ _ _ (by show w1.heap.size + 1 ≠ w1.heap.size; omega)).trans (hblk _ (by omega))⟩, ⟨_, hv1.set _, ?_, trivial⟩, hBN.setCell (by show w.heap.size ≤ w1.heap.size; omega) _, by simp [World.setCell]; omega⟩
      rw [sdC_snoc, List.length_append]
      refine ownsRow_setCell_below ?_ (by show w1.heap.size < W0.heap.size; omega) _
      rw [hsz]
      exact hown'
    clear KO hBN hgs hvo hblk hown' hgrow hnn s0 s1 s2 s3 cv
    gi_wp2
    exact HFIN.out
  case done =>
    rintro D zs W hD rfl ⟨⟨v, hv, hr, _⟩, hB1, hs1⟩ hK
    rw [List.length_finRange] at hr
    obtain ⟨g', cap', rfl⟩ : ∃ g cap, v = .slice (some ⟨g, 0, none⟩) n cap := by
      rcases hr.2 with ⟨_, h⟩ | ⟨g, c, _, h, _⟩
      · omega
      · exact ⟨g, c, h⟩
    have cR := hv.cell
    have HR : Hid (W.ownsRow W0.heap.size 88 4 (.slice (some ⟨g', 0, none⟩) n cap') n (sdC n p (List.finRange n))) := hr
    clear hr hv
    gi_wp2
    refine ⟨by simp, .inl ⟨_, _, rfl, run_takeDeferred hK, ?_⟩⟩
    refine ⟨.slice (some ⟨g', 0, none⟩) n cap', ?_, _, rfl, own_mono (ownsRow_putObj HR.out _ hK rfl) (by omega), hB1.trans (belowK_b (w := w) (Nat.le_refl _) _ D _ _ (by omega) hK rfl rfl)⟩
    simp [results, Try.results23, go_sem]
  case stop =>
    rintro D c pre W hD hpre hF hK
    exact hF.elim
end Go.Proofs.Ythgodemncbmmgaa

/- Rows of segments: how they lie, and the walks over them. -/
namespace Go.Proofs.Ythgodemncbmmgaa
open Go.RowKit
/-- n segments lie behind a slice's address, their numbers by x. -/
def SegIn (w : World) (ao : Option Addr) (n : Nat) (x : Nat → Int) : Prop :=
  ∀ i, i < n → ∃ A off, ao = some ⟨A, off, none⟩ ∧ A < w.heap.size ∧ ∀ j, j < 4 → w.cell? ⟨A, off + i * 4 + j, none⟩ = some (.int .i64 (x (i * 4 + j)))
theorem SegIn.step {w w' : World} {ao : Option Addr} {n : Nat} {x : Nat → Int} (h : SegIn w ao n x) (hB : Below w.heap.size w w') : SegIn w' ao n x := fun i hi => by
  obtain ⟨A, off, e, hA, hc⟩ := h i hi
  exact ⟨A, off, e, Nat.lt_of_lt_of_le hA hB.size, fun j hj => (hB.cell (p := ⟨A, off + i * 4 + j, none⟩) hA).trans (hc j hj)⟩
theorem SegIn.drew {w : World} {ao : Option Addr} {n : Nat} {x : Nat → Int} (h : SegIn w ao n x) : SegIn w.drew ao n x := h
end Go.Proofs.Ythgodemncbmmgaa

/- Rows of segments: copied and held against one another; the law of what is at fault in them. -/
namespace Go.Proofs.Ythgodemncbmmgaa
open Go.RowKit
theorem eqSpot_same (x y : Int) (w : World) : Calls Try.prog 81 #[Sp x y, Sp x y] w (BoolP true w) := by
  go_enter Try.func81, Try.ntmps81
  go_wp2
  go_ret
  exact ⟨rfl, ((Below.refl _ _).alloc (Nat.le_refl _) _).alloc (by simp) _⟩
set_option maxRecDepth 100000 in
theorem eqSeg_same (a b c d : Int) (w : World) : Calls Try.prog 54 #[Sg a b c d, Sg a b c d] w (BoolP true w) := by
  have B0 := (Blk.new w [.int .i64 a, .int .i64 b, .int .i64 c, .int .i64 d] 88 rfl).alloc (.cells #[.int .i64 a, .int .i64 b, .int .i64 c, .int .i64 d] 88)
  have B1 := Blk.new (w.alloc (.cells #[.int .i64 a, .int .i64 b, .int .i64 c, .int .i64 d] 88)) [.int .i64 a, .int .i64 b, .int .i64 c, .int .i64 d] 88 (g := w.heap.size + 1) (by simp)
  have HB0 := ((Below.refl _ w).alloc (Nat.le_refl _) (.cells #[.int .i64 a, .int .i64 b, .int .i64 c, .int .i64 d] 88)).alloc (by simp) (.cells #[.int .i64 a, .int .i64 b, .int .i64 c, .int .i64 d] 88)
  go_enter Try.func54, Try.ntmps54
  go_wp2_with fail
  refine (eqSpot_same _ _ _).mono ?_
  rintro e w1 ⟨rfl, hB⟩
  replace B0 := B0.step hB; replace B1 := B1.step hB
  have HB : Below w.heap.size w w1 := HB0.trans (hB.mono HB0.size)
  clear hB HB0
  have p2 := B0.c 2 rfl; have p3 := B0.c 3 rfl; have q2 := B1.c 2 rfl; have q3 := B1.c 3 rfl
  go_wp2_with fail
  refine (eqSpot_same _ _ _).mono ?_
  rintro e w2 ⟨rfl, hB⟩
  have HB2 : Below w.heap.size w w2 := HB.trans (hB.mono HB.size)
  clear hB HB
  go_wp2
  go_ret
  exact ⟨rfl, HB2⟩
theorem row_step {w w' : World} {g n : Nat} {T : TypeId} {f : Nat → Value} (h : w.rowIs g T n f) (hB : Below w.heap.size w w') : w'.rowIs g T n f := h.of_block (hB.block g h.lt)
end Go.Proofs.Ythgodemncbmmgaa

/- Rows of segments: the law of what is at fault in them. -/
namespace Go.Proofs.Ythgodemncbmmgaa
open Go.RowKit
set_option maxRecDepth 100000 in
set_option maxHeartbeats 2000000 in
theorem eqSegS_any (ao bo : Option Addr) (n ca cb : Nat) (x : Nat → Int) (hn : n ≤ 1048576) (w : World) (hA : SegIn w ao n x) (hC : SegIn w bo n x) : Calls Try.prog 24 #[.slice ao n ca, .slice bo n cb] w (BoolP true w) := by
  have HA : Hid (SegIn w ao n x) := hA
  have HC : Hid (SegIn w bo n x) := hC
  have hnI : (n : Int) ≤ 1048576 := by omega
  clear hA hC
  go_enter Try.func24, Try.ntmps24
  go_wp2_with fail
  go_loopw [5] (fun i wr => ∃ c : Nat, c ≤ n ∧ i = .int .i64 c ∧ Below w.heap.size w wr) (fun i _ => n - (intOf i).toNat)
  case atStart => exact ⟨0, by omega, rfl, Below.refl _ _⟩
  case round =>
    obtain ⟨c, hc, rfl, HB⟩ := hrel
    by_cases hcn : c < n
    · obtain ⟨A, off, rfl, hA, hcell⟩ := HA.out.step HB c hcn
      have q0 := hcell 0 (by omega); have q1 := hcell 1 (by omega); have q2 := hcell 2 (by omega); have q3 := hcell 3 (by omega)
      simp only [Nat.add_zero] at q0
      obtain ⟨B, off', rfl, hB', hcell'⟩ := HC.out.step HB c hcn
      have r0 := hcell' 0 (by omega); have r1 := hcell' 1 (by omega); have r2 := hcell' 2 (by omega); have r3 := hcell' 3 (by omega)
      simp only [Nat.add_zero] at r0
      have hcI : (c : Int) < n := by omega
      clear hcell hcell'
      have KS : (fun w' => w'.cell? ⟨A, off + c * 4, none⟩ = some (.int .i64 (x (c * 4))) ∧ w'.cell? ⟨A, off + c * 4 + 1, none⟩ = some (.int .i64 (x (c * 4 + 1))) ∧ w'.cell? ⟨A, off + c * 4 + 2, none⟩ = some (.int .i64 (x (c * 4 + 2))) ∧ w'.cell? ⟨A, off + c * 4 + 3, none⟩ = some (.int .i64 (x (c * 4 + 3))) ∧ w'.cell? ⟨B, off' + c * 4, none⟩ = some (.int .i64 (x (c * 4))) ∧ w'.cell? ⟨B, off' + c * 4 + 1, none⟩ = some (.int .i64 (x (c * 4 + 1))) ∧ w'.cell? ⟨B, off' + c * 4 + 2, none⟩ = some (.int .i64 (x (c * 4 + 2))) ∧ w'.cell? ⟨B, off' + c * 4 + 3, none⟩ = some (.int .i64 (x (c * 4 + 3)))) wr := ⟨q0, q1, q2, q3, r0, r1, r2, r3⟩
      go_wp2_with fail
      go_region_held3 (fun w' => w'.cell? ⟨A, off + c * 4, none⟩ = some (.int .i64 (x (c * 4))) ∧ w'.cell? ⟨A, off + c * 4 + 1, none⟩ = some (.int .i64 (x (c * 4 + 1))) ∧ w'.cell? ⟨A, off + c * 4 + 2, none⟩ = some (.int .i64 (x (c * 4 + 2))) ∧ w'.cell? ⟨A, off + c * 4 + 3, none⟩ = some (.int .i64 (x (c * 4 + 3))) ∧ w'.cell? ⟨B, off' + c * 4, none⟩ = some (.int .i64 (x (c * 4))) ∧ w'.cell? ⟨B, off' + c * 4 + 1, none⟩ = some (.int .i64 (x (c * 4 + 1))) ∧ w'.cell? ⟨B, off' + c * 4 + 2, none⟩ = some (.int .i64 (x (c * 4 + 2))) ∧ w'.cell? ⟨B, off' + c * 4 + 3, none⟩ = some (.int .i64 (x (c * 4 + 3)))) (first | (exact KS) | (exact KS'))
        (first
          | (go_at_call 54; refine (eqSeg_same (x (c * 4)) (x (c * 4 + 1)) (x (c * 4 + 2)) (x (c * 4 + 3)) _).mono ?_; rintro e w1 ⟨rfl, hB⟩; have KS' : (fun w' => w'.cell? ⟨A, off + c * 4, none⟩ = some (.int .i64 (x (c * 4))) ∧ w'.cell? ⟨A, off + c * 4 + 1, none⟩ = some (.int .i64 (x (c * 4 + 1))) ∧ w'.cell? ⟨A, off + c * 4 + 2, none⟩ = some (.int .i64 (x (c * 4 + 2))) ∧ w'.cell? ⟨A, off + c * 4 + 3, none⟩ = some (.int .i64 (x (c * 4 + 3))) ∧ w'.cell? ⟨B, off' + c * 4, none⟩ = some (.int .i64 (x (c * 4))) ∧ w'.cell? ⟨B, off' + c * 4 + 1, none⟩ = some (.int .i64 (x (c * 4 + 1))) ∧ w'.cell? ⟨B, off' + c * 4 + 2, none⟩ = some (.int .i64 (x (c * 4 + 2))) ∧ w'.cell? ⟨B, off' + c * 4 + 3, none⟩ = some (.int .i64 (x (c * 4 + 3)))) w1 := ⟨(hB.cell (p := ⟨A, _, none⟩) hA).trans q0, (hB.cell (p := ⟨A, _, none⟩) hA).trans q1, (hB.cell (p := ⟨A, _, none⟩) hA).trans q2, (hB.cell (p := ⟨A, _, none⟩) hA).trans q3, (hB.cell (p := ⟨B, _, none⟩) hB').trans r0, (hB.cell (p := ⟨B, _, none⟩) hB').trans r1, (hB.cell (p := ⟨B, _, none⟩) hB').trans r2, (hB.cell (p := ⟨B, _, none⟩) hB').trans r3⟩; (first | (have HB2 := HB.trans (hB.mono HB.size)) | (have HB2 := HB.drew.trans (hB.mono HB.drew.size))); clear hB))
      all_goals clear HB KS q0 q1 q2 q3 r0 r1 r2 r3
      all_goals go_wp2
      all_goals go_roundw
      case rel => exact ⟨c + 1, by omega, by go_num, HB2⟩
      case measure => simp [intOf]; omega
    · obtain rfl : c = n := by omega
      clear HA HC
      go_wp2
      go_ret
      exact ⟨rfl, HB⟩
end Go.Proofs.Ythgodemncbmmgaa

/- Rows of numbers: how they lie; copied, held against one another. -/
namespace Go.Proofs.Ythgodemncbmmgaa
open Go.RowKit
/-- n numbers lie behind a slice's address. -/
def NoIn (w : World) (ao : Option Addr) (n : Nat) (x : Nat → Int) : Prop :=
  ∀ i, i < n → ∃ A off, ao = some ⟨A, off, none⟩ ∧ A < w.heap.size ∧ w.cell? ⟨A, off + i, none⟩ = some (.int .i64 (x i))
theorem NoIn.step {w w' : World} {ao : Option Addr} {n : Nat} {x : Nat → Int} (h : NoIn w ao n x) (hB : Below w.heap.size w w') : NoIn w' ao n x := fun i hi => by
  obtain ⟨A, off, e, hA, hc⟩ := h i hi
  exact ⟨A, off, e, Nat.lt_of_lt_of_le hA hB.size, (hB.cell (p := ⟨A, off + i, none⟩) hA).trans hc⟩
end Go.Proofs.Ythgodemncbmmgaa

/- Answers that own their rows of numbers: held against one another, marked, held again; a row of segments marked. -/
namespace Go.Proofs.Ythgodemncbmmgaa
open Go.RowKit
/-- A slice of the call's own, with these numbers. -/
def NoOwn (w : World) (base : Nat) (v : Value) (L : List Int) : Prop :=
  (v = .slice none 0 0 ∧ L = []) ∨ ∃ g cap f, v = .slice (some ⟨g, 0, none⟩) L.length cap ∧ base ≤ g ∧ L.length ≤ cap ∧ w.rowIs g 2 cap f ∧ ∀ i, i < L.length → f i = .int .i64 (L.getD i 0)
theorem NoOwn.step {w w' : World} {base : Nat} {v : Value} {L : List Int} (h : NoOwn w base v L) (hB : Below w.heap.size w w') : NoOwn w' base v L := by
  rcases h with h | ⟨g, cap, f, h1, h2, h3, h4, h5⟩
  · exact .inl h
  · exact .inr ⟨g, cap, f, h1, h2, h3, row_step h4 hB, h5⟩
theorem NoOwn.of {w : World} {base : Nat} {v : Value} {L : List Int} (h : w.ownsRow base 2 1 v L.length (L.map (Value.int .i64))) : NoOwn w base v L := by
  rcases h.2 with ⟨h1, h2⟩ | ⟨g, cap, cur, h1, h2, h3, h4, h5, h6, h7⟩
  · exact .inl ⟨h1, List.length_eq_zero_iff.1 h2⟩
  · refine .inr ⟨g, cap, fun i => cur.getD i undef, h1, h2, h4, ⟨cur, h3, by omega, fun i hi => ?_⟩, fun i hi => ?_⟩
    · simp [Array.getD_eq_getD_getElem?, show i < cur.size by omega]
    · have e : (cur.toList.take (L.length * 1))[i]? = (L.map (Value.int .i64))[i]? := by rw [h7]
      rw [List.getElem?_take_of_lt (by omega), List.getElem?_map, List.getElem?_eq_getElem hi] at e
      simp only [Array.getElem?_toList, Option.map_some] at e
      show cur.getD i undef = _
      rw [Array.getD_eq_getD_getElem?, e]
      simp [List.getD_eq_getElem?_getD, hi]
/-- The slice's own parts, and that its numbers lie there. -/
theorem NoOwn.in {w : World} {base : Nat} {v : Value} {L : List Int} (h : NoOwn w base v L) : ∃ ao cap, v = .slice ao L.length cap ∧ NoIn w ao L.length (fun i => L.getD i 0) := by
  rcases h with ⟨h1, h2⟩ | ⟨g, cap, f, h1, h2, h3, h4, h5⟩
  · subst h2
    exact ⟨none, 0, h1, fun i hi => by simp at hi⟩
  · exact ⟨some ⟨g, 0, none⟩, cap, h1, fun i hi => ⟨g, 0, rfl, h4.lt, by rw [Nat.zero_add, h4.cell (by omega), h5 i hi]⟩⟩
/-- No block has turned but one of those that a base leaves free. -/
def OtherB (h : Option Nat) (w w' : World) : Prop :=
  (∀ g, some g ≠ h → g < w.heap.size → w'.heap[g]? = w.heap[g]?) ∧ w.heap.size ≤ w'.heap.size ∧ ∀ w0 : World, (∀ g, h = some g → w0.heap.size ≤ g) → Below w0.heap.size w0 w → Below w0.heap.size w0 w'
theorem OtherB.row {h : Option Nat} {w w' : World} (k : OtherB h w w') {g n : Nat} {T : TypeId} {f : Nat → Value} (hne : some g ≠ h) (r : w.rowIs g T n f) : w'.rowIs g T n f := r.of_block (k.1 g hne r.lt)
theorem OtherB.own {h : Option Nat} {w w' : World} (k : OtherB h w w') {base : Nat} {v : Value} {L : List Int} (r : NoOwn w base v L) (hne : ∀ g, v.ownBlock = some g → some g ≠ h) : NoOwn w' base v L := by
  rcases r with r | ⟨g, cap, f, h1, h2, h3, h4, h5⟩
  · exact .inl r
  · exact .inr ⟨g, cap, f, h1, h2, h3, k.row (hne g (by subst h1; rfl)) h4, h5⟩
theorem OtherB.blk {h : Option Nat} {w w' : World} (k : OtherB h w w') {g : Nat} {vs : List Value} (hne : some g ≠ h) (r : Blk w g vs) : Blk w' g vs := by
  refine ⟨Nat.lt_of_lt_of_le r.lt k.2.1, fun i v hi => ⟨?_, ?_⟩⟩
  · have := r.c i hi
    unfold World.cell? at this ⊢
    simp only [k.1 g hne r.lt]
    exact this
  · have := r.f i hi
    unfold World.frozen? at this ⊢
    simp only [k.1 g hne r.lt]
    exact this
theorem OtherB.refl (h : Option Nat) (w : World) : OtherB h w w := ⟨fun _ _ _ => rfl, Nat.le_refl _, fun _ _ H => H⟩
theorem OtherB.set {h : Nat} {w w' : World} (k : OtherB (some h) w w') (i : Nat) (v : Value) : OtherB (some h) w (w'.setCell ⟨h, i, none⟩ v) := by
  refine ⟨fun g hne hg => ?_, by simpa [World.setCell] using k.2.1, fun w0 hb H => (k.2.2 w0 hb H).setCell (by exact hb h rfl) _⟩
  rw [Below.heap_setCell _ _ _ _ (fun e => hne (congrArg some e))]
  exact k.1 g hne hg
theorem OtherB.step {h : Option Nat} {w w' w'' : World} (k : OtherB h w w') (hB : Below w'.heap.size w' w'') : OtherB h w w'' :=
  ⟨fun g hne hg => (hB.block g (Nat.lt_of_lt_of_le hg k.2.1)).trans (k.1 g hne hg), Nat.le_trans k.2.1 hB.size, fun w0 hb H => (k.2.2 w0 hb H).trans (hB.mono (k.2.2 w0 hb H).size)⟩
end Go.Proofs.Ythgodemncbmmgaa

/- Rings that are turned: the program's reversal. -/
namespace Go.Proofs.Ythgodemncbmmgaa
open Go.RowKit
theorem OtherB.drew {h : Option Nat} {w w' : World} (k : OtherB h w w') : OtherB h w w'.drew := ⟨k.1, k.2.1, fun w0 hb H => (k.2.2 w0 hb H).drew⟩
end Go.Proofs.Ythgodemncbmmgaa

/- Rings that are turned: both sides' answers. -/
namespace Go.Proofs.Ythgodemncbmmgaa
open Go.RowKit
theorem SpOwn.mono {w : World} {b b' : Nat} {v : Value} {n : Nat} {p : Ps} (h : SpOwn w b' v n p) (hb : b ≤ b') : SpOwn w b v n p := by
  rcases h with h | ⟨g, cap, f, h1, h2, h3⟩
  · exact .inl h
  · exact .inr ⟨g, cap, f, h1, by omega, h3⟩
def tuN (n : Nat) (p : Ps) : Nat := if rgF n p = 0 then n else 0
theorem argsB_grown2 {w W W' : World} {vss : List (List Value)} {row : Option Nat} (h : ArgsB w W vss) (hl : w.heap.size + vss.length ≤ W.heap.size) (hg : W.grownBy W' row) (hr : ∀ k, row = some k → w.heap.size + vss.length ≤ k) : ArgsB w W' vss := by
  have hB : Below (w.heap.size + vss.length) W W' := (Below.refl _ W).grown hg hl hr
  refine ⟨h.1.trans (hB.mono (by omega)), fun j vs hj => (h.2 j vs hj).below hB ?_⟩
  have := (List.getElem?_eq_some_iff.1 hj).1
  omega
end Go.Proofs.Ythgodemncbmmgaa

/- Rings of their own memory: held against one another, marked, held again. -/
namespace Go.Proofs.Ythgodemncbmmgaa
open Go.RowKit
theorem SpOwn.step {w w' : World} {base : Nat} {v : Value} {n : Nat} {p : Ps} (h : SpOwn w base v n p) (hB : Below w.heap.size w w') : SpOwn w' base v n p := by
  rcases h with h | ⟨g, cap, f, h1, h2, h3, h4, h5, h6⟩
  · exact .inl h
  · exact .inr ⟨g, cap, f, h1, h2, h3, h4, rows_step h5 hB, h6⟩
theorem SpOwn.in {w : World} {base : Nat} {v : Value} {n : Nat} {p : Ps} (h : SpOwn w base v n p) : ∃ ao cap, v = .slice ao n cap ∧ SpIn w ao n p := by
  rcases h with ⟨h1, rfl⟩ | ⟨g, cap, f, h1, h2, h3, h4, h5, h6⟩
  · exact ⟨none, 0, h1, fun i hi => by omega⟩
  · have R : w.rowIs g 77 (cap * 2) f := h5
    refine ⟨some ⟨g, 0, none⟩, cap, h1, fun i hi => ⟨g, 0, rfl, R.lt, ?_, ?_⟩⟩
    · rw [Nat.zero_add, R.cell (by omega), h6 _ (by omega), spW0]
    · rw [Nat.zero_add, R.cell (by omega), h6 _ (by omega), spW1]
theorem SpOwn.lt {w : World} {base : Nat} {v : Value} {n : Nat} {p : Ps} (h : SpOwn w base v n p) {g : Nat} (hg : v.ownBlock = some g) : base ≤ g ∧ g < w.heap.size := by
  rcases h with ⟨h1, _⟩ | ⟨g', cap, f, h1, h2, h3, h4, h5, h6⟩
  · subst h1; cases hg
  · subst h1; cases hg; exact ⟨h2, h5.lt⟩
theorem SpOwn.row {w : World} {base g n : Nat} {p : Ps} (R : w.rowIs g 77 (n * 2) (fun i => .int .i64 (spW p i))) (hb : base ≤ g) (hn : n ≤ 1048576) : SpOwn w base (.slice (some ⟨g, 0, none⟩) n n) n p :=
  .inr ⟨g, n, _, rfl, hb, Nat.le_refl _, by unfold maxLen; omega, R, fun _ _ => rfl⟩
theorem OtherB.trans {h : Option Nat} {a b c : World} (k : OtherB h a b) (l : OtherB h b c) : OtherB h a c :=
  ⟨fun g hne hg => (l.1 g hne (Nat.lt_of_lt_of_le hg k.2.1)).trans (k.1 g hne hg), Nat.le_trans k.2.1 l.2.1, fun w0 hb H => l.2.2 w0 hb (k.2.2 w0 hb H)⟩
/-- 1, 2 and so on. -/
def mkP : Ps := fun k => ((k : Int) * 2 + 1, (k : Int) * 2 + 2)
theorem mkP_at (i : Nat) : spW mkP i = (i : Int) + 1 := by
  unfold spW mkP
  split
  · show ((i / 2 : Nat) : Int) * 2 + 1 = _
    omega
  · show ((i / 2 : Nat) : Int) * 2 + 2 = _
    omega
set_option maxRecDepth 100000 in
set_option maxHeartbeats 2000000 in
theorem markSpotS_any (v : Value) (n : Nat) (p : Ps) (base : Nat) (hn : n ≤ 1048576) (w : World) (hO : SpOwn w base v n p) : Calls Try.prog 45 #[v, .int .i64 1] w (fun e w' => e = .returned (.int .i64 ((n : Int) * 2 + 1)) ∧ SpOwn w' base v n mkP ∧ OtherB v.ownBlock w w') := by
  rcases hO with ⟨rfl, rfl⟩ | ⟨g, cap, f, rfl, hg, hc, hm, R, hf⟩
  · go_enter Try.func45, Try.ntmps45
    go_wp2_with fail
    go_loopw [1, 5] (fun o i wr => o = .int .i64 1 ∧ i = .int .i64 0 ∧ wr = w) (fun _ i _ => 0)
    case atStart => exact ⟨rfl, rfl, rfl⟩
    case round =>
      obtain ⟨rfl, rfl, rfl⟩ := hrel
      go_wp2
      go_ret
      exact ⟨rfl, .inl ⟨rfl, rfl⟩, OtherB.refl _ _⟩
  · have HR : Hid (w.rowIs g 77 (cap * 2) f ∧ ∀ i, i < n * 2 → f i = .int .i64 (spW p i)) := ⟨R, hf⟩
    clear R hf
    have hnI : (n : Int) ≤ 1048576 := by omega
    go_enter Try.func45, Try.ntmps45
    go_wp2_with fail
    go_loopw [1, 5] (fun o i wr => ∃ c : Nat, c ≤ n ∧ o = .int .i64 ((c : Int) * 2 + 1) ∧ i = .int .i64 c ∧ (∃ f, wr.rowIs g 77 (cap * 2) f ∧ (∀ i, i < n * 2 → ∃ z, f i = .int .i64 z) ∧ ∀ i, i < c * 2 → f i = .int .i64 ((i : Int) + 1)) ∧ OtherB (some g) w wr) (fun _ i _ => n - (intOf i).toNat)
    case atStart => exact ⟨0, by omega, rfl, rfl, ⟨f, HR.out.1, fun i hi => ⟨_, HR.out.2 i hi⟩, fun i hi => by omega⟩, OtherB.refl _ _⟩
    case round =>
      obtain ⟨c, hcn, rfl, rfl, ⟨f', R, hz, hd⟩, K⟩ := hrel
      by_cases hlt : c < n
      · have hcI : (c : Int) < n := by omega
        obtain ⟨z0, e0⟩ := hz (c * 2) (by omega)
        obtain ⟨z1, e1⟩ := hz (c * 2 + 1) (by omega)
        have o0 := R.cell (i := c * 2) (by omega)
        have o1 := R.cell (i := c * 2 + 1) (by omega)
        rw [e0] at o0
        rw [e1] at o1
        have f0 := R.frozen (c * 2); have f1 := R.frozen (c * 2 + 1)
        have RN := (R.set (c * 2) (.int .i64 ((c : Int) * 2 + 1))).set (c * 2 + 1) (.int .i64 ((c : Int) * 2 + 1 + 1))
        have KN := (K.set (c * 2) (.int .i64 ((c : Int) * 2 + 1))).set (c * 2 + 1) (.int .i64 ((c : Int) * 2 + 1 + 1))
        have RD : Hid (∃ f2, ((wr.setCell ⟨g, c * 2, none⟩ (.int .i64 ((c : Int) * 2 + 1))).setCell ⟨g, c * 2 + 1, none⟩ (.int .i64 ((c : Int) * 2 + 1 + 1))).rowIs g 77 (cap * 2) f2 ∧ (∀ i, i < n * 2 → ∃ z, f2 i = .int .i64 z) ∧ ∀ i, i < (c + 1) * 2 → f2 i = .int .i64 ((i : Int) + 1)) :=
          ⟨_, RN, fun i hi => by
            show ∃ z, (if i = c * 2 + 1 then _ else if i = c * 2 then _ else f' i) = Value.int .i64 z
            split
            · exact ⟨_, rfl⟩
            · split
              · exact ⟨_, rfl⟩
              · exact hz i hi, fun i hi => by
            show (if i = c * 2 + 1 then _ else if i = c * 2 then _ else f' i) = Value.int .i64 _
            by_cases h1 : i = c * 2 + 1
            · rw [if_pos h1, h1]; congr 1
            · rw [if_neg h1]
              by_cases h2 : i = c * 2
              · rw [if_pos h2, h2]; congr 1
              · rw [if_neg h2]; exact hd i (by omega)⟩
        clear R K hz hd e0 e1 RN
        go_wp2
        go_roundw
        case rel => exact ⟨c + 1, by omega, by go_num, by go_num, RD.out, KN⟩
        case measure => simp [intOf]; omega
      · obtain rfl : c = n := by omega
        have HF : Hid (∀ i, i < c * 2 → f' i = .int .i64 (spW mkP i)) := fun i hi => by rw [hd i hi, mkP_at]
        clear hz hd
        go_wp2
        go_ret
        exact ⟨rfl, .inr ⟨g, cap, f', rfl, hg, hc, hm, R, HF.out⟩, K⟩
set_option maxRecDepth 100000 in
set_option maxHeartbeats 2000000 in
theorem markRing_any (v : Value) (n : Nat) (p : Ps) (base : Nat) (hn : n ≤ 1048576) (w : World) (hO : SpOwn w base v n p) : Calls Try.prog 18 #[.agg #[v], .int .i64 1] w (fun e w' => e = .returned (.int .i64 ((n : Int) * 2 + 1)) ∧ SpOwn w' base v n mkP ∧ OtherB v.ownBlock w w') := by
  obtain ⟨ao, cap, rfl, _⟩ := hO.in
  have hB0 : Below w.heap.size w (w.alloc (.cells #[.slice ao n cap] 35)) := (Below.refl _ _).alloc (Nat.le_refl _) _
  have K0 : OtherB (Value.slice ao n cap).ownBlock w (w.alloc (.cells #[.slice ao n cap] 35)) := (OtherB.refl _ w).step hB0
  have C := markSpotS_any (.slice ao n cap) n p base hn _ (hO.step hB0)
  clear hO
  go_enter Try.func18, Try.ntmps18
  go_wp2_with fail
  revert C K0
  generalize w.alloc (.cells #[.slice ao n cap] 35) = W
  intro K0 C
  refine C.mono ?_
  rintro e w1 ⟨rfl, HO, K⟩
  have HK : Hid (OtherB (Value.slice ao n cap).ownBlock w w1) := OtherB.trans K0 K
  have HOO : Hid (SpOwn w1 base (.slice ao n cap) n mkP) := HO
  clear HO K K0 C hB0
  go_wp2
  go_ret
  exact ⟨rfl, HOO.out, HK.out⟩
end Go.Proofs.Ythgodemncbmmgaa

/- The sides of a ring as a row: both sides' answers. -/
namespace Go.Proofs.Ythgodemncbmmgaa
open Go.RowKit
theorem own_stepG {w w' : World} {base n : Nat} {e : TypeId} {size : Nat} {v : Value} {xs : List Value} (h : w.ownsRow base e size v n xs) (hB : Below w.heap.size w w') : w'.ownsRow base e size v n xs := by
  rcases h with ⟨h0, h1 | ⟨g, cap, cur, h1, h2, h3, h4⟩⟩
  · exact ⟨h0, .inl h1⟩
  · refine ⟨h0, .inr ⟨g, cap, cur, h1, h2, ?_, h4⟩⟩
    rw [hB.block g (Array.getElem?_eq_some_iff.1 h3).1]
    exact h3
def sgCs (n : Nat) (p : Ps) : List Value := if rgF n p = 0 then sdC n p (List.finRange n) else []
set_option maxRecDepth 100000 in
set_option maxHeartbeats 2000000 in
theorem implSegs_all (ao : Option Addr) (n cap : Nat) (p : Ps) (hn : n ≤ 1048576) (hcap : n ≤ cap) (hcap2 : cap ≤ 9223372036854775807) (w : World) (hS : SpIn w ao n p) : Calls Try.prog 23 #[.agg #[.slice ao n cap]] w (SdP (tuN n p) (sgCs n p) w) := by
  by_cases h0 : rgF n p = 0
  · unfold tuN sgCs
    rw [if_pos h0, if_pos h0]
    exact implSegs_any ao n cap p hn hcap hcap2 h0 w hS
  · have HN : Hid (tuN n p = 0 ∧ sgCs n p = []) := by
      unfold tuN sgCs
      rw [if_neg h0, if_neg h0]
      exact ⟨rfl, rfl⟩
    have C := fun w h => rright_any ao n cap p hn hcap hcap2 w h
    rw [decide_eq_false h0] at C
    have HS := hS.step ((Below.refl _ _).alloc (Nat.le_refl _) (.cells #[.slice ao n cap] 35))
    have HB : Below w.heap.size w (w.alloc (.cells #[.slice ao n cap] 35)) := (Below.refl _ _).alloc (Nat.le_refl _) _
    clear hS h0
    go_enter Try.func23, Try.ntmps23
    go_wp2_with fail
    refine (C _ HS).mono ?_
    rintro e w1 ⟨rfl, hB⟩
    replace HB := HB.trans (hB.mono HB.size)
    clear hB C HS
    go_wp2
    go_ret
    rw [HN.out.1, HN.out.2]
    exact ⟨_, rfl, World.ownsRow_nil _ _ _ _, HB⟩
set_option maxRecDepth 100000 in
set_option maxHeartbeats 2000000 in
theorem specSegs_all (ao : Option Addr) (n cap : Nat) (p : Ps) (hn : n ≤ 1048576) (w : World) (hS : SpIn w ao n p) : Calls Try.prog 22 #[.agg #[.slice ao n cap]] w (SdP (tuN n p) (sgCs n p) w) := by
  have C := fun w h => l5Ok_any ao n cap p hn w h
  have T0 : ArgsB w (w.alloc (.cells #[.slice ao n cap] 35)) [[.slice ao n cap]] := ⟨(Below.refl _ _).alloc (Nat.le_refl _) _, fun j vs hj => by
    match j, hj with
    | 0, hj => cases hj; exact Blk.new w [.slice ao n cap] 35 rfl
    | j + 1, hj => simp at hj⟩
  have HS : Hid (SpIn w ao n p) := hS
  have a0 := (show Blk _ w.heap.size _ from T0.b 0 rfl).c 0 rfl
  clear hS
  obtain ⟨i0, hi, hz0, hz1, hz2⟩ := info_parts Try.infoSeg2
  have hnI : (n : Int) ≤ 1048576 := by omega
  go_enter Try.func22, Try.ntmps22
  go_wp2_with fail
  have O0 : ((w.alloc (.cells #[.slice ao n cap] 35)).alloc (.cells #[] 88)).ownsRow (w.heap.size + 1) 88 4 (.slice (some ⟨w.heap.size + 1, 0, none⟩) 0 0) 0 [] := by
    have := World.ownsRow_made (e := 88) (size := 4) (base := w.heap.size + 1) (w.alloc (.cells #[.slice ao n cap] 35)) #[] 0 (by simp) (by decide) rfl
    simpa using this
  replace T0 := T0.alloc (.cells #[] 88)
  clear a0
  revert T0 O0
  generalize ((w.alloc (.cells #[.slice ao n cap] 35)).alloc (.cells #[] 88)) = W2
  intro O0 T0
  refine (C _ (HS.out.step T0.below)).mono ?_
  rintro e w1 ⟨rfl, hB⟩
  replace T0 := T0.step hB
  replace O0 := own_stepG O0 hB
  clear hB C
  by_cases h0 : rgF n p = 0
  · rw [decide_eq_true h0]
    have HN : Hid (tuN n p = n ∧ sgCs n p = sdC n p (List.finRange n)) := by
      unfold tuN sgCs
      rw [if_pos h0, if_pos h0]
      exact ⟨rfl, rfl⟩
    have a0 := (show Blk _ w.heap.size _ from T0.b 0 rfl).c 0 rfl
    clear h0
    go_wp2_with fail
    go_loopw [3, 4] (fun o i wr => ∃ c : Nat, c ≤ n ∧ i = .int .i64 c ∧ wr.ownsRow (w.heap.size + 1) 88 4 o c (sdC n p (upTo n c)) ∧ ArgsB w wr [[.slice ao n cap]]) (fun _ i _ => n - (intOf i).toNat)
    case atStart => exact ⟨0, by omega, rfl, O0, T0⟩
    case round =>
      clear O0 T0 a0
      obtain ⟨c, hcn, rfl, hown, T0⟩ := hrel
      have a0 := (show Blk _ w.heap.size _ from T0.b 0 rfl).c 0 rfl
      have al : w.heap.size + 1 ≤ wr.heap.size := (show Blk _ w.heap.size _ from T0.b 0 rfl).lt
      by_cases hlt : c < n
      · have hcI : (c : Int) < n := by omega
        have L5 := fun w h => l5Side_any ao n cap p c hlt hn w h
        have HU : Hid (upTo n (c + 1) = upTo n c ++ [⟨c, hlt⟩]) := upTo_succ hlt
        go_wp2_with fail
        refine (L5 _ (HS.out.step T0.below)).mono ?_
        rintro e w2 ⟨rfl, hB⟩
        have hs2 := hB.size
        replace T0 := T0.step hB
        replace hown := own_stepG hown hB
        clear hB L5 a0
        go_wp2_with (at_builtin; refine wpList_append_own _ rfl _ _ 41 rfl (w.heap.size + 1) 88 i0 (.agg #[.int .i64 0, .int .i64 0, .int .i64 0, .int .i64 0]) 4 32 Try.underlying41 hi hz0 hz1 hz2 rfl (by decide) _ _ _ rfl (hown.alloc _) ⟨w2.heap.size, 0, none⟩ 1 1 [.int .i64 (sdA n p c).1, .int .i64 (sdA n p c).2.1, .int .i64 (sdA n p c).2.2.1, .int .i64 (sdA n p c).2.2.2] rfl rfl (cell_four_new _ _ _ _ _ _) (one_cell4 _ _ _ _) (by unfold maxLen; omega) (by omega) (by simp; omega) ?_)
        intro v' w3 hown2 hgrow2 hnn
        have R1 : w3.ownsRow (w.heap.size + 1) 88 4 v' (c + 1) (sdC n p (upTo n (c + 1))) := by rw [HU.out, sdC_snoc]; exact hown2
        have T4 := argsB_grown2 (T0.alloc _) (by simp; omega) hgrow2 (fun j hj => (hown.lt j hj).1)
        clear hown2 hgrow2 hnn hown T0 HU
        go_wp2
        go_roundw
        case rel => exact ⟨c + 1, by omega, by go_num, R1, T4⟩
        case measure => simp [intOf]; omega
      · obtain rfl : c = n := by omega
        have HO : Hid (wr.ownsRow w.heap.size 88 4 u3 c (sdC c p (List.finRange c))) := by
          have e : upTo c c = List.finRange c := by unfold upTo; rw [List.take_of_length_le (by simp)]
          rw [e] at hown
          exact own_mono hown (by omega)
        have HB := T0.below
        clear hown T0
        go_wp2
        go_ret
        rw [HN.out.1, HN.out.2]
        exact ⟨_, rfl, HO.out, HB⟩
  · rw [decide_eq_false h0]
    have HN : Hid (tuN n p = 0 ∧ sgCs n p = []) := by
      unfold tuN sgCs
      rw [if_neg h0, if_neg h0]
      exact ⟨rfl, rfl⟩
    have HB := T0.below
    clear h0 T0
    go_wp2
    go_ret
    rw [HN.out.1, HN.out.2]
    exact ⟨_, rfl, own_mono O0 (by omega), HB⟩
end Go.Proofs.Ythgodemncbmmgaa

/- Rows of segments of the call's own: held against one another, marked, held again. -/
namespace Go.Proofs.Ythgodemncbmmgaa
open Go.RowKit
/-- The numbers of a ring's sides, one behind the other. -/
def sdW (n : Nat) (p : Ps) (k : Nat) : Int := if k % 4 = 0 then (sdA n p (k / 4)).1 else if k % 4 = 1 then (sdA n p (k / 4)).2.1 else if k % 4 = 2 then (sdA n p (k / 4)).2.2.1 else (sdA n p (k / 4)).2.2.2
theorem sdC_upTo (n : Nat) (p : Ps) : ∀ c, c ≤ n → (sdC n p (upTo n c)).length = c * 4 ∧ ∀ k, k < c * 4 → (sdC n p (upTo n c))[k]? = some (.int .i64 (sdW n p k))
  | 0, _ => ⟨by simp [upTo, sdC], fun k hk => by omega⟩
  | c + 1, h => by
    obtain ⟨h1, h2⟩ := sdC_upTo n p c (by omega)
    rw [upTo_succ (show c < n by omega), sdC_snoc]
    refine ⟨by rw [List.length_append, h1]; simp; omega, fun k hk => ?_⟩
    by_cases hlt : k < c * 4
    · rw [List.getElem?_append_left (by omega)]; exact h2 k hlt
    · rw [List.getElem?_append_right (by omega), h1]
      have hd : k / 4 = c := by omega
      unfold sdW
      rw [hd]
      rcases (show k = c * 4 ∨ k = c * 4 + 1 ∨ k = c * 4 + 2 ∨ k = c * 4 + 3 by omega) with rfl | rfl | rfl | rfl
      · rw [show c * 4 - c * 4 = 0 by omega, if_pos (by omega)]; rfl
      · rw [show c * 4 + 1 - c * 4 = 1 by omega, if_neg (by omega), if_pos (by omega)]; rfl
      · rw [show c * 4 + 2 - c * 4 = 2 by omega, if_neg (by omega), if_neg (by omega), if_pos (by omega)]; rfl
      · rw [show c * 4 + 3 - c * 4 = 3 by omega, if_neg (by omega), if_neg (by omega), if_neg (by omega)]; rfl
theorem sgCs_at {n : Nat} {p : Ps} {k : Nat} (hk : k < tuN n p * 4) : (sgCs n p)[k]? = some (.int .i64 (sdW n p k)) := by
  unfold tuN at hk
  unfold sgCs
  split at hk
  · rename_i h
    rw [if_pos h]
    have e : upTo n n = List.finRange n := by unfold upTo; rw [List.take_of_length_le (by simp)]
    have := (sdC_upTo n p n (Nat.le_refl _)).2 k hk
    rwa [e] at this
  · omega
/-- A slice of the call's own, with these segments. -/
def SgOwn (w : World) (base : Nat) (v : Value) (n : Nat) (x : Nat → Int) : Prop :=
  (v = .slice none 0 0 ∧ n = 0) ∨ ∃ g cap f, v = .slice (some ⟨g, 0, none⟩) n cap ∧ base ≤ g ∧ n ≤ cap ∧ w.rowIs g 88 (cap * 4) f ∧ ∀ i, i < n * 4 → f i = .int .i64 (x i)
theorem SgOwn.of {w : World} {base : Nat} {v : Value} {n : Nat} {p : Ps} (h : w.ownsRow base 88 4 v (tuN n p) (sgCs n p)) : SgOwn w base v (tuN n p) (sdW n p) := by
  rcases h.2 with ⟨h1, h2⟩ | ⟨g, cap, cur, h1, h2, h3, h4, h5, h6, h7⟩
  · exact .inl ⟨h1, h2⟩
  · refine .inr ⟨g, cap, fun i => cur.getD i undef, h1, h2, h4, ⟨cur, h3, by omega, fun i hi => ?_⟩, fun i hi => ?_⟩
    · simp [Array.getD_eq_getD_getElem?, show i < cur.size by omega]
    · have e : (cur.toList.take (tuN n p * 4))[i]? = (sgCs n p)[i]? := by rw [h7]
      rw [List.getElem?_take_of_lt hi, sgCs_at hi] at e
      simp only [Array.getElem?_toList] at e
      show cur.getD i undef = _
      rw [Array.getD_eq_getD_getElem?, e]
      rfl
theorem SgOwn.step {w w' : World} {base : Nat} {v : Value} {n : Nat} {x : Nat → Int} (h : SgOwn w base v n x) (hB : Below w.heap.size w w') : SgOwn w' base v n x := by
  rcases h with h | ⟨g, cap, f, h1, h2, h3, h5, h6⟩
  · exact .inl h
  · exact .inr ⟨g, cap, f, h1, h2, h3, rows_step h5 hB, h6⟩
theorem SgOwn.in {w : World} {base : Nat} {v : Value} {n : Nat} {x : Nat → Int} (h : SgOwn w base v n x) : ∃ ao cap, v = .slice ao n cap ∧ SegIn w ao n x := by
  rcases h with ⟨h1, rfl⟩ | ⟨g, cap, f, h1, h2, h3, R, h6⟩
  · exact ⟨none, 0, h1, fun i hi => by omega⟩
  · exact ⟨some ⟨g, 0, none⟩, cap, h1, fun i hi => ⟨g, 0, rfl, R.lt, fun j hj => by rw [Nat.zero_add, R.cell (by omega), h6 _ (by omega)]⟩⟩
theorem SgOwn.lt {w : World} {base : Nat} {v : Value} {n : Nat} {x : Nat → Int} (h : SgOwn w base v n x) {g : Nat} (hg : v.ownBlock = some g) : base ≤ g ∧ g < w.heap.size := by
  rcases h with ⟨h1, _⟩ | ⟨g', cap, f, h1, h2, h3, h5, h6⟩
  · subst h1; cases hg
  · subst h1; cases hg; exact ⟨h2, h5.lt⟩
theorem OtherB.gown {h : Option Nat} {w w' : World} (k : OtherB h w w') {base : Nat} {v : Value} {n : Nat} {x : Nat → Int} (r : SgOwn w base v n x) (hne : ∀ g, v.ownBlock = some g → some g ≠ h) : SgOwn w' base v n x := by
  rcases r with r | ⟨g, cap, f, h1, h2, h3, h5, h6⟩
  · exact .inl r
  · exact .inr ⟨g, cap, f, h1, h2, h3, k.row (hne g (by subst h1; rfl)) h5, h6⟩
theorem eqSegs_own {v v' : Value} {n : Nat} {x : Nat → Int} {b b' : Nat} (hn : n ≤ 1048576) (w : World) (h : SgOwn w b v n x) (h' : SgOwn w b' v' n x) : Calls Try.prog 24 #[v, v'] w (BoolP true w) := by
  obtain ⟨ao, cap, rfl, hI⟩ := h.in
  obtain ⟨bo, cap', rfl, hI'⟩ := h'.in
  exact eqSegS_any ao bo n cap cap' x hn w hI hI'
def mkS (i : Nat) : Int := (i : Int) + 1
set_option maxRecDepth 100000 in
set_option maxHeartbeats 4000000 in
theorem markSegO_any (v : Value) (n : Nat) (x : Nat → Int) (base : Nat) (hn : n ≤ 1048576) (w : World) (hO : SgOwn w base v n x) : Calls Try.prog 25 #[v, .int .i64 1] w (fun e w' => e = .returned (.int .i64 ((n : Int) * 4 + 1)) ∧ SgOwn w' base v n mkS ∧ OtherB v.ownBlock w w') := by
  rcases hO with ⟨rfl, rfl⟩ | ⟨g, cap, f, rfl, hg, hc, R, hf⟩
  · go_enter Try.func25, Try.ntmps25
    go_wp2_with fail
    go_loopw [1, 5] (fun o i wr => o = .int .i64 1 ∧ i = .int .i64 0 ∧ wr = w) (fun _ i _ => 0)
    case atStart => exact ⟨rfl, rfl, rfl⟩
    case round =>
      obtain ⟨rfl, rfl, rfl⟩ := hrel
      go_wp2
      go_ret
      exact ⟨rfl, .inl ⟨rfl, rfl⟩, OtherB.refl _ _⟩
  · have HR : Hid (w.rowIs g 88 (cap * 4) f ∧ ∀ i, i < n * 4 → f i = .int .i64 (x i)) := ⟨R, hf⟩
    clear R hf
    have hnI : (n : Int) ≤ 1048576 := by omega
    go_enter Try.func25, Try.ntmps25
    go_wp2_with fail
    go_loopw [1, 5] (fun o i wr => ∃ c : Nat, c ≤ n ∧ o = .int .i64 ((c : Int) * 4 + 1) ∧ i = .int .i64 c ∧ (∃ f, wr.rowIs g 88 (cap * 4) f ∧ (∀ i, i < n * 4 → ∃ z, f i = .int .i64 z) ∧ ∀ i, i < c * 4 → f i = .int .i64 ((i : Int) + 1)) ∧ OtherB (some g) w wr) (fun _ i _ => n - (intOf i).toNat)
    case atStart => exact ⟨0, by omega, rfl, rfl, ⟨f, HR.out.1, fun i hi => ⟨_, HR.out.2 i hi⟩, fun i hi => by omega⟩, OtherB.refl _ _⟩
    case round =>
      obtain ⟨c, hcn, rfl, rfl, ⟨f', R, hz, hd⟩, K⟩ := hrel
      by_cases hlt : c < n
      · have hcI : (c : Int) < n := by omega
        obtain ⟨z0, e0⟩ := hz (c * 4) (by omega)
        obtain ⟨z1, e1⟩ := hz (c * 4 + 1) (by omega)
        obtain ⟨z2, e2⟩ := hz (c * 4 + 2) (by omega)
        obtain ⟨z3, e3⟩ := hz (c * 4 + 3) (by omega)
        have o0 := R.cell (i := c * 4) (by omega); have o1 := R.cell (i := c * 4 + 1) (by omega); have o2 := R.cell (i := c * 4 + 2) (by omega); have o3 := R.cell (i := c * 4 + 3) (by omega)
        rw [e0] at o0
        rw [e1] at o1
        rw [e2] at o2
        rw [e3] at o3
        have f0 := R.frozen (c * 4); have f1 := R.frozen (c * 4 + 1); have f2 := R.frozen (c * 4 + 2); have f3 := R.frozen (c * 4 + 3)
        have RN := (((R.set (c * 4) (.int .i64 ((c : Int) * 4 + 1))).set (c * 4 + 1) (.int .i64 ((c : Int) * 4 + 1 + 1))).set (c * 4 + 2) (.int .i64 ((c : Int) * 4 + 1 + 1 + 1))).set (c * 4 + 3) (.int .i64 ((c : Int) * 4 + 1 + 1 + 1 + 1))
        have KN := (((K.set (c * 4) (.int .i64 ((c : Int) * 4 + 1))).set (c * 4 + 1) (.int .i64 ((c : Int) * 4 + 1 + 1))).set (c * 4 + 2) (.int .i64 ((c : Int) * 4 + 1 + 1 + 1))).set (c * 4 + 3) (.int .i64 ((c : Int) * 4 + 1 + 1 + 1 + 1))
        have RD : Hid (∃ f2, ((((wr.setCell ⟨g, c * 4, none⟩ (.int .i64 ((c : Int) * 4 + 1))).setCell ⟨g, c * 4 + 1, none⟩ (.int .i64 ((c : Int) * 4 + 1 + 1))).setCell ⟨g, c * 4 + 2, none⟩ (.int .i64 ((c : Int) * 4 + 1 + 1 + 1))).setCell ⟨g, c * 4 + 3, none⟩ (.int .i64 ((c : Int) * 4 + 1 + 1 + 1 + 1))).rowIs g 88 (cap * 4) f2 ∧ (∀ i, i < n * 4 → ∃ z, f2 i = .int .i64 z) ∧ ∀ i, i < (c + 1) * 4 → f2 i = .int .i64 ((i : Int) + 1)) :=
          ⟨_, RN, fun i hi => by
            show ∃ z, (if i = c * 4 + 3 then _ else if i = c * 4 + 2 then _ else if i = c * 4 + 1 then _ else if i = c * 4 then _ else f' i) = Value.int .i64 z
            split
            · exact ⟨_, rfl⟩
            · split
              · exact ⟨_, rfl⟩
              · split
                · exact ⟨_, rfl⟩
                · split
                  · exact ⟨_, rfl⟩
                  · exact hz i hi, fun i hi => by
            show (if i = c * 4 + 3 then Value.int .i64 ((c : Int) * 4 + 1 + 1 + 1 + 1) else if i = c * 4 + 2 then Value.int .i64 ((c : Int) * 4 + 1 + 1 + 1) else if i = c * 4 + 1 then Value.int .i64 ((c : Int) * 4 + 1 + 1) else if i = c * 4 then Value.int .i64 ((c : Int) * 4 + 1) else f' i) = Value.int .i64 ((i : Int) + 1)
            split
            · congr 1; omega
            · split
              · congr 1; omega
              · split
                · congr 1; omega
                · split
                  · congr 1; omega
                  · exact hd i (by omega)⟩
        clear R K hz hd e0 e1 e2 e3 RN
        go_wp2
        go_roundw
        case rel => exact ⟨c + 1, by omega, by go_num, by go_num, RD.out, KN⟩
        case measure => simp [intOf]; omega
      · obtain rfl : c = n := by omega
        have HF : Hid (∀ i, i < c * 4 → f' i = .int .i64 (mkS i)) := fun i hi => by rw [hd i hi]; rfl
        clear hz hd
        go_wp2
        go_ret
        exact ⟨rfl, .inr ⟨g, cap, f', rfl, hg, hc, R, HF.out⟩, K⟩
set_option maxRecDepth 100000 in
set_option maxHeartbeats 2000000 in
theorem heldSegO_any (v : Value) (n : Nat) (base : Nat) (hn : n ≤ 1048576) (w : World) (hO : SgOwn w base v n mkS) : Calls Try.prog 26 #[v, .int .i64 1] w (VP (.int .i64 ((n : Int) * 4 + 1)) w) := by
  obtain ⟨ao, cap, rfl, HI⟩ := hO.in
  have HR : Hid (SegIn w ao n mkS) := HI
  clear HI hO
  have hnI : (n : Int) ≤ 1048576 := by omega
  go_enter Try.func26, Try.ntmps26
  go_wp2_with fail
  go_loopw [1, 5] (fun o i wr => ∃ c : Nat, c ≤ n ∧ o = .int .i64 ((c : Int) * 4 + 1) ∧ i = .int .i64 c ∧ Below w.heap.size w wr) (fun _ i _ => n - (intOf i).toNat)
  case atStart => exact ⟨0, by omega, rfl, rfl, Below.refl _ _⟩
  case round =>
    obtain ⟨c, hcn, rfl, rfl, HB⟩ := hrel
    by_cases hlt : c < n
    · have hcI : (c : Int) < n := by omega
      obtain ⟨A, off, rfl, hA, hcell⟩ := HR.out.step HB c hlt
      have q0 : wr.cell? ⟨A, off + c * 4, none⟩ = some (.int .i64 ((c : Int) * 4 + 1)) := (hcell 0 (by omega)).trans (by unfold mkS; congr 2)
      have q1 : wr.cell? ⟨A, off + c * 4 + 1, none⟩ = some (.int .i64 ((c : Int) * 4 + 1 + 1)) := (hcell 1 (by omega)).trans (by unfold mkS; congr 2)
      have q2 : wr.cell? ⟨A, off + c * 4 + 2, none⟩ = some (.int .i64 ((c : Int) * 4 + 1 + 1 + 1)) := (hcell 2 (by omega)).trans (by unfold mkS; congr 2)
      have q3 : wr.cell? ⟨A, off + c * 4 + 3, none⟩ = some (.int .i64 ((c : Int) * 4 + 1 + 1 + 1 + 1)) := (hcell 3 (by omega)).trans (by unfold mkS; congr 2)
      clear hcell
      go_wp2
      go_roundw
      case rel => exact ⟨c + 1, by omega, by go_num, by go_num, HB⟩
      case measure => simp [intOf]; omega
    · obtain rfl : c = n := by omega
      go_wp2
      go_ret
      exact ⟨rfl, HB⟩
end Go.Proofs.Ythgodemncbmmgaa
