/- Part 11 of the walks that the proof leans on. -/
import Derived.Test.YthgodemncbmmgaaPart10
import Derived.Test.YthgodemncbmmgaaPart7
import Derived.Test.YthgodemncbmmgaaPart8
import Derived.Laws.AppendOwn
import Derived.Test.YthgodemncbmmgaaPart3
import Derived.Deep.OwnRows
import Derived.WalkSmall
/- The region of spec.RingFault that asks how two sides meet: by what every operation keeps, in no order. -/
namespace Go.Proofs.Ythgodemncbmmgaa
open Go.RowKit
def Six (W : World) (g : Nat) : Prop := ∃ v0 v1 v2 v3 v4 v5 : Value, Blk W g [v0, v1, v2, v3, v4, v5]
theorem Six.step {W W' : World} {g : Nat} (h : Six W g) (hB : Below W.heap.size W W') : Six W' g := by
  obtain ⟨v0, v1, v2, v3, v4, v5, h⟩ := h
  exact ⟨_, _, _, _, _, _, h.step hB⟩
theorem Six.set {W : World} {g g' : Nat} (h : Six W g) (j : Nat) (hj : j < 6) (u : Value) : Six (W.setCell ⟨g', j, none⟩ u) g := by
  obtain ⟨v0, v1, v2, v3, v4, v5, h⟩ := h
  by_cases hg : g = g'
  · subst hg
    have := h.setI j hj u
    rcases (show j = 0 ∨ j = 1 ∨ j = 2 ∨ j = 3 ∨ j = 4 ∨ j = 5 by omega) with rfl | rfl | rfl | rfl | rfl | rfl <;> exact ⟨_, _, _, _, _, _, this⟩
  · exact ⟨_, _, _, _, _, _, h.setO hg u⟩
def Lp6 (v : Value) : Prop := ∃ (f1 f2 f3 : Bool) (k1 k2 k3 : Option Addr) (m1 m2 m3 x1 x2 x3 : Nat), v = .agg #[.bool f1, .slice k1 m1 x1, .bool f2, .slice k2 m2 x2, .bool f3, .slice k3 m3 x3]
def slotOf : Nat → Nat
  | 0 => 64
  | 1 => 65
  | 2 => 66
  | 3 => 67
  | 4 => 68
  | 5 => 69
  | 6 => 70
  | 7 => 63
  | 8 => 71
  | 9 => 72
  | 10 => 73
  | 11 => 10
  | 12 => 11
  | 13 => 9
  | i + 14 => i + 200
def ValOf (ao : Option Addr) (n cap : Nat) (p : Ps) (c d B : Nat) : Nat → Value → World → Prop
  | 0, v, _ | 3, v, _ => v = .agg #[.slice ao n cap]
  | 1, v, _ => v = .int .i64 c
  | 4, v, _ => v = .int .i64 d
  | 2, v, _ => v = Sg (sdA n p c).1 (sdA n p c).2.1 (sdA n p c).2.2.1 (sdA n p c).2.2.2
  | 5, v, _ => v = Sg (sdA n p d).1 (sdA n p d).2.1 (sdA n p d).2.2.1 (sdA n p d).2.2.2
  | 6, v, _ | 7, v, _ => ∃ x y, Lp6 x ∧ Lp6 y ∧ v = .tuple #[.int .i64 (kdA n p c d), x, y]
  | 8, v, _ | 13, v, _ => v = .int .i64 (kdA n p c d)
  | 9, v, _ | 10, v, _ => Lp6 v
  | 11, v, W | 12, v, W => ∃ g, v = .pointer (some ⟨g, 0, none⟩) ∧ B ≤ g ∧ Six W g
  | _, _, _ => True
theorem ValOf.mono {ao : Option Addr} {n cap : Nat} {p : Ps} {c d B j : Nat} {v : Value} {W W' : World} (hS : ∀ g, Six W g → Six W' g) (h : ValOf ao n cap p c d B j v W) : ValOf ao n cap p c d B j v W' := by
  unfold ValOf at *
  split <;> simp only at h <;> first | exact h | (obtain ⟨g, h1, h2, h3⟩ := h; exact ⟨g, h1, h2, hS g h3⟩) | trivial
def InvJ (ao : Option Addr) (n cap : Nat) (p : Ps) (c d : Nat) (w0 : World) (a0 : Act) (l : Array Bool) (a : Act) (W : World) : Prop :=
  l.size = 16 ∧ a.tmps.size = a0.tmps.size ∧ a.defers = a0.defers ∧ (∀ e, e ∉ [64, 65, 66, 67, 68, 69, 70, 63, 71, 72, 73, 10, 11, 9] → a.tmps[e]? = a0.tmps[e]?) ∧ Below w0.heap.size w0 W ∧
    ∀ j, l.getD j false = true → ValOf ao n cap p c d w0.heap.size j (a.tmps.getD (slotOf j) undef) W
theorem slotOf_inj {i j : Nat} (hi : i < 14) (hne : j ≠ i) : slotOf i ≠ slotOf j := by
  rcases (show j < 14 ∨ 14 ≤ j by omega) with hj | hj
  · have H : ∀ i : Fin 14, ∀ j : Fin 14, j ≠ i → slotOf i ≠ slotOf j := by decide
    exact H ⟨i, hi⟩ ⟨j, hj⟩ (fun h => hne (by simpa using h))
  · obtain ⟨k, rfl⟩ := Nat.exists_eq_add_of_le' hj
    have H : ∀ i : Fin 14, slotOf i < 200 := by decide
    have := H ⟨i, hi⟩
    show slotOf i ≠ k + 200
    simp only at this
    omega
theorem getD_set_of {l : Array Bool} {i j : Nat} (h : (l.setIfInBounds i true).getD j false = true) (hne : j ≠ i) : l.getD j false = true := by
  rw [getD_set_ne false (Ne.symm hne)] at h
  exact h
theorem InvJ.put {ao : Option Addr} {n cap : Nat} {p : Ps} {c d : Nat} {w0 : World} {a0 : Act} {l : Array Bool} {a : Act} {W W' : World} (h : InvJ ao n cap p c d w0 a0 l a W) (i : Nat) (hi : i < 14) (h101 : a0.tmps.size = 101)
    (hW : Below w0.heap.size w0 W') (hS : ∀ g, Six W g → Six W' g) (v : Value) (hv : ValOf ao n cap p c d w0.heap.size i v W') : InvJ ao n cap p c d w0 a0 (l.setIfInBounds i true) (a.put (some (slotOf i)) v) W' := by
  obtain ⟨h1, h2, h3, h4, h5, h6⟩ := h
  have H : ∀ i : Fin 14, slotOf i < 101 ∧ slotOf i ∈ [64, 65, 66, 67, 68, 69, 70, 63, 71, 72, 73, 10, 11, 9] := by decide
  obtain ⟨hs, hm⟩ := H ⟨i, hi⟩
  simp only at hs hm
  refine ⟨by simpa using h1, by simpa [Act.put] using h2, h3, fun e he => ?_, hW, fun j hj => ?_⟩
  · have hne : slotOf i ≠ e := fun hh => he (hh ▸ hm)
    simp only [Act.put]
    rw [Array.getElem?_setIfInBounds_ne hne]
    exact h4 e he
  · by_cases hji : j = i
    · subst hji
      rw [put_getD_same (by omega)]
      exact hv
    · rw [put_getD_ne (slotOf_inj hi hji)]
      exact (h6 j (getD_set_of hj hji)).mono hS
theorem InvJ.world {ao : Option Addr} {n cap : Nat} {p : Ps} {c d : Nat} {w0 : World} {a0 : Act} {l : Array Bool} {a : Act} {W W' : World} (h : InvJ ao n cap p c d w0 a0 l a W) (i : Nat) (hi : 14 ≤ i)
    (hW : Below w0.heap.size w0 W') (hS : ∀ g, Six W g → Six W' g) : InvJ ao n cap p c d w0 a0 (l.setIfInBounds i true) a W' := by
  obtain ⟨h1, h2, h3, h4, h5, h6⟩ := h
  refine ⟨by simpa using h1, h2, h3, h4, hW, fun j hj => ?_⟩
  by_cases hji : j = i
  · subst hji
    obtain ⟨k, rfl⟩ := Nat.exists_eq_add_of_le' hi
    exact trivial
  · exact (h6 j (getD_set_of hj hji)).mono hS
theorem below_set6 {B g : Nat} {w W : World} {v0 v1 v2 v3 v4 v5 : Value} (h : Below B w W) (hg : B ≤ g) : Below B w ((((((W.setCell ⟨g, 0, none⟩ v0).setCell ⟨g, 1, none⟩ v1).setCell ⟨g, 2, none⟩ v2).setCell ⟨g, 3, none⟩ v3).setCell ⟨g, 4, none⟩ v4).setCell ⟨g, 5, none⟩ v5) :=
  (((((h.setCell (p := ⟨g, 0, none⟩) hg _).setCell (p := ⟨g, 1, none⟩) hg _).setCell (p := ⟨g, 2, none⟩) hg _).setCell (p := ⟨g, 3, none⟩) hg _).setCell (p := ⟨g, 4, none⟩) hg _).setCell (p := ⟨g, 5, none⟩) hg _
set_option maxRecDepth 100000 in
set_option maxHeartbeats 4000000 in
theorem reg25 {Q : Exit → Act → World → Prop} {ao : Option Addr} {n cap : Nat} {p : Ps} {c d B : Nat} {w0 : World} {a0 : Act} {id : Nat} {t0 t1 t2 t3 t4 t5 t6 t7 t8 t9 t10 t11 t12 t13 t14 t15 : TypeId} {q0 q1 q2 q3 q4 q5 q6 q7 q8 q9 q10 q11 q12 q13 q14 q15 : String} {A14 A15 : Array Edge}
    (hc : c < n) (hd : d < n) (hn : n ≤ 1048576) (hS : SpIn w0 ao n p) (i1 : In1 (sdA n p c).1) (i2 : In1 (sdA n p c).2.1) (i3 : In1 (sdA n p c).2.2.1) (i4 : In1 (sdA n p c).2.2.2) (j1 : In1 (sdA n p d).1) (j2 : In1 (sdA n p d).2.1) (j3 : In1 (sdA n p d).2.2.1) (j4 : In1 (sdA n p d).2.2.2)
    (hB : B < w0.heap.size) (hb : w0.cell? ⟨B, 0, none⟩ = some (.slice ao n cap))
    (h1 : a0.tmps[1]? = some (.pointer (some ⟨B, 0, none⟩))) (h7 : a0.tmps[7]? = some (.int .i64 c)) (h8 : a0.tmps[8]? = some (.int .i64 d)) (hz : a0.tmps.size = 101)
    (e1 : ({ on := 11, ground := Ground.data } : Edge) ∈ A14) (e2 : ({ on := 9, ground := Ground.data } : Edge) ∈ A14) (e3 : ({ on := 12, ground := Ground.data } : Edge) ∈ A15) (e4 : ({ on := 10, ground := Ground.data } : Edge) ∈ A15)
    (hQ : ∀ a W, a.tmps.size = a0.tmps.size → a.defers = a0.defers → (∀ e, e ∉ [64, 65, 66, 67, 68, 69, 70, 63, 71, 72, 73, 10, 11, 9] → a.tmps[e]? = a0.tmps[e]?) → a.tmps.getD 9 undef = .int .i64 (kdA n p c d) → Below w0.heap.size w0 W → Q .normal a W) :
    (Code.region id #[{ dst := some 64, op := Op.load 35 (Operand.tmp 1), type := t0, pos := q0, after := #[], guard := none },
    { dst := some 65, op := Op.move (Operand.tmp 7), type := t1, pos := q1, after := #[], guard := none },
    { dst := some 66, op := Op.call { callee := Callee.value (Operand.func 52), args := #[Operand.tmp 64, Operand.tmp 65], argTypes := #[35, 3] }, type := t2, pos := q2, after := #[{ on := 0, ground := Ground.data }, { on := 1, ground := Ground.data }], guard := none },
    { dst := some 67, op := Op.load 35 (Operand.tmp 1), type := t3, pos := q3, after := #[], guard := none },
    { dst := some 68, op := Op.move (Operand.tmp 8), type := t4, pos := q4, after := #[], guard := none },
    { dst := some 69, op := Op.call { callee := Callee.value (Operand.func 52), args := #[Operand.tmp 67, Operand.tmp 68], argTypes := #[35, 3] }, type := t5, pos := q5, after := #[{ on := 3, ground := Ground.data }, { on := 4, ground := Ground.data }, { on := 2, ground := Ground.chain }], guard := none },
    { dst := some 70, op := Op.call { callee := Callee.value (Operand.func 87), args := #[Operand.tmp 66, Operand.tmp 69], argTypes := #[88, 88] }, type := t6, pos := q6, after := #[{ on := 2, ground := Ground.data }, { on := 5, ground := Ground.data }, { on := 5, ground := Ground.chain }], guard := none },
    { dst := some 63, op := Op.move (Operand.tmp 70), type := t7, pos := q7, after := #[{ on := 6, ground := Ground.data }], guard := none },
    { dst := some 71, op := Op.extract (Operand.tmp 63) 0, type := t8, pos := q8, after := #[{ on := 7, ground := Ground.data }], guard := none },
    { dst := some 72, op := Op.extract (Operand.tmp 63) 1, type := t9, pos := q9, after := #[{ on := 7, ground := Ground.data }, { on := 13, ground := Ground.gcOnly Departure.lateStores }], guard := none },
    { dst := some 73, op := Op.extract (Operand.tmp 63) 2, type := t10, pos := q10, after := #[{ on := 7, ground := Ground.data }, { on := 14, ground := Ground.gcOnly Departure.lateStores }], guard := none },
    { dst := some 10, op := Op.alloc 66, type := t11, pos := q11, after := #[], guard := none },
    { dst := some 11, op := Op.alloc 66, type := t12, pos := q12, after := #[], guard := none },
    { dst := some 9, op := Op.assign (Operand.tmp 71), type := t13, pos := q13, after := #[{ on := 8, ground := Ground.data }, { on := 6, ground := Ground.chain }, { on := 0, ground := Ground.phase }, { on := 1, ground := Ground.phase }, { on := 2, ground := Ground.phase }, { on := 3, ground := Ground.phase }, { on := 4, ground := Ground.phase }, { on := 5, ground := Ground.phase }, { on := 6, ground := Ground.phase }, { on := 7, ground := Ground.phase }, { on := 8, ground := Ground.phase }, { on := 9, ground := Ground.textOnly Departure.lateStores }, { on := 10, ground := Ground.textOnly Departure.lateStores }, { on := 11, ground := Ground.phase }, { on := 12, ground := Ground.phase }], guard := none },
    { dst := none, op := Op.store 66 (Operand.tmp 10) (Operand.tmp 72), type := t14, pos := q14, after := A14, guard := none },
    { dst := none, op := Op.store 66 (Operand.tmp 11) (Operand.tmp 73), type := t15, pos := q15, after := A15, guard := none }] true).wp Try.prog Q a0 w0 := by
  refine wp_region_inv (by kernel_rfl) (InvJ ao n cap p c d w0 a0) ⟨by simp, rfl, rfl, fun _ _ => rfl, (Below.refl _ w0).drew, fun j hj => ?_⟩ ?_ ?_
  · exfalso
    rw [Array.getD_eq_getD_getElem?, Array.getElem?_replicate] at hj
    split at hj <;> simp at hj
  · intro l a W i o hJ hl ho hall
    have hJ' := hJ
    obtain ⟨z1, z2, z3, z4, z5, z6⟩ := hJ
    have g1 : a.tmps.getD 1 undef = .pointer (some ⟨B, 0, none⟩) := by rw [Array.getD_eq_getD_getElem?, z4 1 (by decide), h1]; rfl
    have g7 : a.tmps.getD 7 undef = .int .i64 c := by rw [Array.getD_eq_getD_getElem?, z4 7 (by decide), h7]; rfl
    have g8 : a.tmps.getD 8 undef = .int .i64 d := by rw [Array.getD_eq_getD_getElem?, z4 8 (by decide), h8]; rfl
    have hbW : W.cell? ⟨B, 0, none⟩ = some (.slice ao n cap) := by rw [z5.cell hB]; exact hb
    match i, ho with
    | 0, ho =>
      cases ho
      refine wpOp_of rfl rfl ?_
      have hK := fun (v : Value) (W' : World) hW hS hv => hJ'.put 0 (by omega) hz (W' := W') hW hS v hv
      clear ho hall hl hQ e1 e2 e3 e4
      generalize InvJ ao n cap p c d w0 a0 (l.setIfInBounds 0 true) = K at hK ⊢
      clear hJ' z1 z2 z3 z4 z6
      go_simp
      exact hK _ _ z5 (fun _ h => h) rfl
    | 1, ho =>
      cases ho
      refine wpOp_of rfl rfl ?_
      have hK := fun (v : Value) (W' : World) hW hS hv => hJ'.put 1 (by omega) hz (W' := W') hW hS v hv
      clear ho hall hl hQ e1 e2 e3 e4
      generalize InvJ ao n cap p c d w0 a0 (l.setIfInBounds 1 true) = K at hK ⊢
      clear hJ' z1 z2 z3 z4 z6
      go_simp
      exact hK _ _ z5 (fun _ h => h) rfl
    | 2, ho =>
      cases ho
      refine wpOp_of rfl rfl ?_
      have f0 : a.tmps.getD 64 undef = .agg #[.slice ao n cap] := z6 0 (hall { on := 0, ground := Ground.data } (by simp) rfl)
      have f1 : a.tmps.getD 65 undef = .int .i64 c := z6 1 (hall { on := 1, ground := Ground.data } (by simp) rfl)
      have hK := fun (v : Value) (W' : World) hW hS hv => hJ'.put 2 (by omega) hz (W' := W') hW hS v hv
      clear ho hall hl hQ e1 e2 e3 e4
      generalize InvJ ao n cap p c d w0 a0 (l.setIfInBounds 2 true) = K at hK ⊢
      clear hJ' z1 z2 z3 z4 z6
      go_simp
      refine (l5Side_any ao n cap p c hc hn W (hS.step z5)).mono ?_
      rintro e v1 ⟨rfl, hBv⟩
      exact hK _ _ (z5.trans (hBv.mono z5.size)) (fun g hg => hg.step hBv) rfl
    | 3, ho =>
      cases ho
      refine wpOp_of rfl rfl ?_
      have hK := fun (v : Value) (W' : World) hW hS hv => hJ'.put 3 (by omega) hz (W' := W') hW hS v hv
      clear ho hall hl hQ e1 e2 e3 e4
      generalize InvJ ao n cap p c d w0 a0 (l.setIfInBounds 3 true) = K at hK ⊢
      clear hJ' z1 z2 z3 z4 z6
      go_simp
      exact hK _ _ z5 (fun _ h => h) rfl
    | 4, ho =>
      cases ho
      refine wpOp_of rfl rfl ?_
      have hK := fun (v : Value) (W' : World) hW hS hv => hJ'.put 4 (by omega) hz (W' := W') hW hS v hv
      clear ho hall hl hQ e1 e2 e3 e4
      generalize InvJ ao n cap p c d w0 a0 (l.setIfInBounds 4 true) = K at hK ⊢
      clear hJ' z1 z2 z3 z4 z6
      go_simp
      exact hK _ _ z5 (fun _ h => h) rfl
    | 5, ho =>
      cases ho
      refine wpOp_of rfl rfl ?_
      have f3 : a.tmps.getD 67 undef = .agg #[.slice ao n cap] := z6 3 (hall { on := 3, ground := Ground.data } (by simp) rfl)
      have f4 : a.tmps.getD 68 undef = .int .i64 d := z6 4 (hall { on := 4, ground := Ground.data } (by simp) rfl)
      have hK := fun (v : Value) (W' : World) hW hS hv => hJ'.put 5 (by omega) hz (W' := W') hW hS v hv
      clear ho hall hl hQ e1 e2 e3 e4
      generalize InvJ ao n cap p c d w0 a0 (l.setIfInBounds 5 true) = K at hK ⊢
      clear hJ' z1 z2 z3 z4 z6
      go_simp
      refine (l5Side_any ao n cap p d hd hn W (hS.step z5)).mono ?_
      rintro e v1 ⟨rfl, hBv⟩
      exact hK _ _ (z5.trans (hBv.mono z5.size)) (fun g hg => hg.step hBv) rfl
    | 6, ho =>
      cases ho
      refine wpOp_of rfl rfl ?_
      have f2 : a.tmps.getD 66 undef = Sg (sdA n p c).1 (sdA n p c).2.1 (sdA n p c).2.2.1 (sdA n p c).2.2.2 := z6 2 (hall { on := 2, ground := Ground.data } (by simp) rfl)
      have f5 : a.tmps.getD 69 undef = Sg (sdA n p d).1 (sdA n p d).2.1 (sdA n p d).2.2.1 (sdA n p d).2.2.2 := z6 5 (hall { on := 5, ground := Ground.data } (by simp) rfl)
      have hK := fun (v : Value) (W' : World) hW hS hv => hJ'.put 6 (by omega) hz (W' := W') hW hS v hv
      clear ho hall hl hQ e1 e2 e3 e4
      generalize InvJ ao n cap p c d w0 a0 (l.setIfInBounds 6 true) = K at hK ⊢
      clear hJ' z1 z2 z3 z4 z6
      go_simp
      refine (l4Meet_any (sdA n p c).1 (sdA n p c).2.1 (sdA n p c).2.2.1 (sdA n p c).2.2.2 (sdA n p d).1 (sdA n p d).2.1 (sdA n p d).2.2.1 (sdA n p d).2.2.2 i1 i2 i3 i4 j1 j2 j3 j4 W).mono ?_
      rintro e v3 hmt
      obtain ⟨⟨f1, f2, f3, g1, g2, g3, k1, k2, k3, l1, l2, l3, m1, m2, m3, x1, x2, x3, y1, y2, y3, z1, z2, z3, rfl⟩, hBv⟩ := mtP_kind hmt
      exact hK _ _ (z5.trans (hBv.mono z5.size)) (fun g hg => hg.step hBv) ⟨_, _, ⟨_, _, _, _, _, _, _, _, _, _, _, _, rfl⟩, ⟨_, _, _, _, _, _, _, _, _, _, _, _, rfl⟩, rfl⟩
    | 7, ho =>
      cases ho
      refine wpOp_of rfl rfl ?_
      have f6 : ∃ x y, Lp6 x ∧ Lp6 y ∧ a.tmps.getD 70 undef = .tuple #[.int .i64 (kdA n p c d), x, y] := z6 6 (hall { on := 6, ground := Ground.data } (by simp) rfl)
      obtain ⟨x, y, hx, hy, he⟩ := f6
      have hK := fun (v : Value) (W' : World) hW hS hv => hJ'.put 7 (by omega) hz (W' := W') hW hS v hv
      clear ho hall hl hQ e1 e2 e3 e4
      generalize InvJ ao n cap p c d w0 a0 (l.setIfInBounds 7 true) = K at hK ⊢
      clear hJ' z1 z2 z3 z4 z6
      go_simp
      exact hK _ _ z5 (fun _ h => h) ⟨x, y, hx, hy, rfl⟩
    | 8, ho =>
      cases ho
      refine wpOp_of rfl rfl ?_
      have f7 : ∃ x y, Lp6 x ∧ Lp6 y ∧ a.tmps.getD 63 undef = .tuple #[.int .i64 (kdA n p c d), x, y] := z6 7 (hall { on := 7, ground := Ground.data } (by simp) rfl)
      obtain ⟨x, y, hx, hy, he⟩ := f7
      have hK := fun (v : Value) (W' : World) hW hS hv => hJ'.put 8 (by omega) hz (W' := W') hW hS v hv
      clear ho hall hl hQ e1 e2 e3 e4
      generalize InvJ ao n cap p c d w0 a0 (l.setIfInBounds 8 true) = K at hK ⊢
      clear hJ' z1 z2 z3 z4 z6
      go_simp
      exact hK _ _ z5 (fun _ h => h) rfl
    | 9, ho =>
      cases ho
      refine wpOp_of rfl rfl ?_
      have f7 : ∃ x y, Lp6 x ∧ Lp6 y ∧ a.tmps.getD 63 undef = .tuple #[.int .i64 (kdA n p c d), x, y] := z6 7 (hall { on := 7, ground := Ground.data } (by simp) rfl)
      obtain ⟨x, y, hx, hy, he⟩ := f7
      have hK := fun (v : Value) (W' : World) hW hS hv => hJ'.put 9 (by omega) hz (W' := W') hW hS v hv
      clear ho hall hl hQ e1 e2 e3 e4
      generalize InvJ ao n cap p c d w0 a0 (l.setIfInBounds 9 true) = K at hK ⊢
      clear hJ' z1 z2 z3 z4 z6
      go_simp
      exact hK _ _ z5 (fun _ h => h) hx
    | 10, ho =>
      cases ho
      refine wpOp_of rfl rfl ?_
      have f7 : ∃ x y, Lp6 x ∧ Lp6 y ∧ a.tmps.getD 63 undef = .tuple #[.int .i64 (kdA n p c d), x, y] := z6 7 (hall { on := 7, ground := Ground.data } (by simp) rfl)
      obtain ⟨x, y, hx, hy, he⟩ := f7
      have hK := fun (v : Value) (W' : World) hW hS hv => hJ'.put 10 (by omega) hz (W' := W') hW hS v hv
      clear ho hall hl hQ e1 e2 e3 e4
      generalize InvJ ao n cap p c d w0 a0 (l.setIfInBounds 10 true) = K at hK ⊢
      clear hJ' z1 z2 z3 z4 z6
      go_simp
      exact hK _ _ z5 (fun _ h => h) hy
    | 11, ho =>
      cases ho
      refine wpOp_of rfl rfl ?_
      have hK := fun (v : Value) (W' : World) hW hS hv => hJ'.put 11 (by omega) hz (W' := W') hW hS v hv
      clear ho hall hl hQ e1 e2 e3 e4
      generalize InvJ ao n cap p c d w0 a0 (l.setIfInBounds 11 true) = K at hK ⊢
      clear hJ' z1 z2 z3 z4 z6
      go_simp
      exact hK _ _ (z5.alloc z5.size _) (fun g hg => hg.step ((Below.refl _ _).alloc (Nat.le_refl _) _)) ⟨_, rfl, z5.size, _, _, _, _, _, _, Blk.new W [.bool false, .slice none 0 0, .bool false, .slice none 0 0, .bool false, .slice none 0 0] 66 rfl⟩
    | 12, ho =>
      cases ho
      refine wpOp_of rfl rfl ?_
      have hK := fun (v : Value) (W' : World) hW hS hv => hJ'.put 12 (by omega) hz (W' := W') hW hS v hv
      clear ho hall hl hQ e1 e2 e3 e4
      generalize InvJ ao n cap p c d w0 a0 (l.setIfInBounds 12 true) = K at hK ⊢
      clear hJ' z1 z2 z3 z4 z6
      go_simp
      exact hK _ _ (z5.alloc z5.size _) (fun g hg => hg.step ((Below.refl _ _).alloc (Nat.le_refl _) _)) ⟨_, rfl, z5.size, _, _, _, _, _, _, Blk.new W [.bool false, .slice none 0 0, .bool false, .slice none 0 0, .bool false, .slice none 0 0] 66 rfl⟩
    | 13, ho =>
      cases ho
      refine wpOp_of rfl rfl ?_
      have f8 : a.tmps.getD 71 undef = .int .i64 (kdA n p c d) := z6 8 (hall { on := 8, ground := Ground.data } (by simp) rfl)
      have hK := fun (v : Value) (W' : World) hW hS hv => hJ'.put 13 (by omega) hz (W' := W') hW hS v hv
      clear ho hall hl hQ e1 e2 e3 e4
      generalize InvJ ao n cap p c d w0 a0 (l.setIfInBounds 13 true) = K at hK ⊢
      clear hJ' z1 z2 z3 z4 z6
      go_simp
      exact hK _ _ z5 (fun _ h => h) rfl
    | 14, ho =>
      cases ho
      refine wpOp_of rfl rfl ?_
      have f11 : ∃ g, a.tmps.getD 10 undef = .pointer (some ⟨g, 0, none⟩) ∧ w0.heap.size ≤ g ∧ Six W g := z6 11 (hall _ e1 rfl)
      have f9 : Lp6 (a.tmps.getD 72 undef) := z6 9 (hall _ e2 rfl)
      obtain ⟨g, hg, hgB, v0, v1, v2, v3, v4, v5, G⟩ := f11
      obtain ⟨s1, s2, s3, k1, k2, k3, m1, m2, m3, x1, x2, x3, hx⟩ := f9
      have b0 := G.c 0 rfl
      have r0 := G.f 0 rfl
      have b1 := G.c 1 rfl
      have r1 := G.f 1 rfl
      have b2 := G.c 2 rfl
      have r2 := G.f 2 rfl
      have b3 := G.c 3 rfl
      have r3 := G.f 3 rfl
      have b4 := G.c 4 rfl
      have r4 := G.f 4 rfl
      have b5 := G.c 5 rfl
      have r5 := G.f 5 rfl
      have hlt := G.lt
      clear G
      have hK := fun (W' : World) hW hS => hJ'.world 14 (by omega) (W' := W') hW hS
      clear ho hall hl hQ e1 e2 e3 e4
      generalize InvJ ao n cap p c d w0 a0 (l.setIfInBounds 14 true) = K at hK ⊢
      clear hJ' z1 z2 z3 z4 z6
      go_simp
      exact hK _ (below_set6 z5 hgB) (fun g hg => (((((hg.set 0 (by omega) _).set 1 (by omega) _).set 2 (by omega) _).set 3 (by omega) _).set 4 (by omega) _).set 5 (by omega) _)
    | 15, ho =>
      cases ho
      refine wpOp_of rfl rfl ?_
      have f12 : ∃ g, a.tmps.getD 11 undef = .pointer (some ⟨g, 0, none⟩) ∧ w0.heap.size ≤ g ∧ Six W g := z6 12 (hall _ e3 rfl)
      have f10 : Lp6 (a.tmps.getD 73 undef) := z6 10 (hall _ e4 rfl)
      obtain ⟨g, hg, hgB, v0, v1, v2, v3, v4, v5, G⟩ := f12
      obtain ⟨s1, s2, s3, k1, k2, k3, m1, m2, m3, x1, x2, x3, hx⟩ := f10
      have b0 := G.c 0 rfl
      have r0 := G.f 0 rfl
      have b1 := G.c 1 rfl
      have r1 := G.f 1 rfl
      have b2 := G.c 2 rfl
      have r2 := G.f 2 rfl
      have b3 := G.c 3 rfl
      have r3 := G.f 3 rfl
      have b4 := G.c 4 rfl
      have r4 := G.f 4 rfl
      have b5 := G.c 5 rfl
      have r5 := G.f 5 rfl
      have hlt := G.lt
      clear G
      have hK := fun (W' : World) hW hS => hJ'.world 15 (by omega) (W' := W') hW hS
      clear ho hall hl hQ e1 e2 e3 e4
      generalize InvJ ao n cap p c d w0 a0 (l.setIfInBounds 15 true) = K at hK ⊢
      clear hJ' z1 z2 z3 z4 z6
      go_simp
      exact hK _ (below_set6 z5 hgB) (fun g hg => (((((hg.set 0 (by omega) _).set 1 (by omega) _).set 2 (by omega) _).set 3 (by omega) _).set 4 (by omega) _).set 5 (by omega) _)
    | i + 16, ho => simp at ho
  · intro l a W hJ hr
    obtain ⟨z1, z2, z3, z4, z5, z6⟩ := hJ
    have hl := listed_of hr [0, 1, 2, 3, 4, 5, 6, 7, 8, 11, 12, 13] [] (by simp) (by kernel_rfl) (by rw [z1]; decide) 13 (by simp)
    exact hQ a W z2 z3 z4 (z6 13 hl) z5
end Go.Proofs.Ythgodemncbmmgaa

/- What is at fault in a ring: the model's walk. -/
namespace Go.Proofs.Ythgodemncbmmgaa
open Go.RowKit
set_option maxRecDepth 100000 in
set_option maxHeartbeats 200000000 in
theorem specRingFault_any (ao : Option Addr) (n cap : Nat) (p : Ps) (hn : n ≤ 1048576) (w : World) (hS : SpIn w ao n p) : Calls Try.prog 76 #[.agg #[.slice ao n cap]] w (VP (.int .i64 (rgF n p)) w) := by
  have B0 := Blk.new w [.slice ao n cap] 35 rfl
  have HB0 : Below w.heap.size w (w.alloc (.cells #[.slice ao n cap] 35)) := (Below.refl _ w).alloc (Nat.le_refl _) _
  have HS0 := hS.step HB0
  have b0 := B0.c 0 rfl
  have hnI : (n : Int) ≤ 1048576 := by omega
  clear hS
  go_enter Try.func76, Try.ntmps76
  go_upto_region 1 with fail
  generalize (w.alloc (.cells #[.slice ao n cap] 35)) = W1 at *
  by_cases h1 : n < 3
  · have HO : Hid (rgF n p = 1) := by show _ = _; unfold rgF; rw [if_pos h1]
    have h1I : (n : Int) < 3 := by omega
    clear HS0 B0
    go_wp2
    go_ret
    exact ⟨by rw [HO.out]; rfl, HB0⟩
  by_cases h2 : 12 < n
  · have HO : Hid (rgF n p = 2) := by show _ = _; unfold rgF; rw [if_neg h1, if_pos h2]
    have h1I : (3 : Int) ≤ n := by omega
    have h2I : (12 : Int) < n := by omega
    clear HS0 B0
    go_wp2
    go_ret
    exact ⟨by rw [HO.out]; rfl, HB0⟩
  have h1I : (3 : Int) ≤ n := by omega
  have h2I : (n : Int) ≤ 12 := by omega
  have HS : Hid (SpIn W1 ao n p) := HS0
  clear HS0
  go_wp2_with fail
  clear b0
  go_loopw [4] (fun i wr => ∃ c : Nat, c ≤ n ∧ i = .int .i64 c ∧ (∀ j, j < c → spotOk (p j).1 (p j).2 = true) ∧ Below W1.heap.size W1 wr) (fun i _ => n - (intOf i).toNat)
  case atStart => exact ⟨0, by omega, rfl, fun j hj => by omega, Below.refl _ _⟩
  case round =>
    obtain ⟨c, hc, rfl, hall, HB⟩ := hrel
    have HA : Hid (∀ j, j < c → spotOk (p j).1 (p j).2 = true) := hall
    clear hall
    by_cases hcn : c < n
    · obtain ⟨A, off, rfl, hA, q0, q1⟩ := HS.out.step HB c hcn
      have hcI : (c : Int) < n := by omega
      have b0 := (B0.step HB).c 0 rfl
      go_wp2_with fail
      refine (specSpotOk_any (p c).1 (p c).2 _ rfl _).mono ?_
      rintro e w1 ⟨rfl, hB⟩
      replace HB := HB.trans (hB.mono HB.size)
      clear hB q0 q1 hA b0
      by_cases hk : spotOk (p c).1 (p c).2 = true
      · rw [hk]
        have HK : Hid (spotOk (p c).1 (p c).2 = true) := hk
        clear hk
        go_wp2
        go_roundw
        case rel => exact ⟨c + 1, by omega, by go_num, fun j hj => by
          rcases Nat.lt_or_ge j c with h | h
          · exact HA.out j h
          · obtain rfl : j = c := by omega
            exact HK.out, HB⟩
        case measure => simp [intOf]; omega
      · have HO : Hid (rgF n p = 3) := by show _ = _; unfold rgF; rw [if_neg h1, if_neg h2, if_pos (fun h => hk (h c hcn))]
        rw [Bool.eq_false_iff.2 hk]
        have HBF := HB0.trans (HB.mono HB0.size)
        clear hk
        go_wp2
        go_ret
        exact ⟨by rw [HO.out]; rfl, HBF⟩
    · obtain rfl : n = c := by omega
      have HB1 := HB0.trans (HB.mono HB0.size)
      have HS1 : Hid (SpIn wr ao n p) := HS.out.step HB
      have B1 := B0.step HB
      clear HS B0 HB
      go_wp2_with fail
      generalize wr = W2 at *
      go_loopw [5] (fun i wr => ∃ c : Nat, c ≤ n ∧ i = .int .i64 c ∧ (∀ j, j < c → ∀ k, k < j → p j ≠ p k) ∧ Below W2.heap.size W2 wr) (fun i _ => n - (intOf i).toNat)
      case atStart => exact ⟨0, by omega, rfl, fun j hj => by omega, Below.refl _ _⟩
      case round =>
        rename_i hrel
        obtain ⟨c, hc, rfl, hall, HB⟩ := hrel
        have HC : Hid (∀ j, j < c → ∀ k, k < j → p j ≠ p k) := hall
        clear hall
        by_cases hcn : c < n
        · have hcI : (c : Int) < n := by omega
          have HSo : Hid (SpIn wr ao n p) := HS1.out.step HB
          have HB4 := HB1.trans (HB.mono HB1.size)
          have B3 := B1.step HB
          have HBo := HB
          clear HB
          go_wp2_with fail
          generalize wr = W4 at *
          go_loopw [6] (fun i wr => ∃ d : Nat, d ≤ c ∧ i = .int .i64 d ∧ (∀ k, k < d → p c ≠ p k) ∧ Below W4.heap.size W4 wr) (fun i _ => c - (intOf i).toNat)
          case atStart => exact ⟨0, by omega, rfl, fun j hj => by omega, Below.refl _ _⟩
          case round =>
            rename_i hrel
            obtain ⟨d, hd, rfl, hall, HB⟩ := hrel
            have HE : Hid (∀ k, k < d → p c ≠ p k) := hall
            clear hall
            by_cases hdn : d < c
            · have hdI : (d : Int) < c := by omega
              have hdI2 : (d : Int) < n := by omega
              obtain ⟨A, off, rfl, hA, q0, q1⟩ := HSo.out.step HB c hcn
              obtain ⟨A', off', hao, -, m0, m1⟩ := HSo.out.step HB d (by omega)
              obtain ⟨rfl, rfl⟩ : A = A' ∧ off = off' := by simpa using hao
              have b0 := (B3.step HB).c 0 rfl
              have EQ := eqSp2 (p c).1 (p c).2 (p d).1 (p d).2
              have KS : (fun w' : World => w'.cell? ⟨w.heap.size, 0, none⟩ = some (.slice (some ⟨A, off, none⟩) n cap) ∧ w'.cell? ⟨A, off + c * 2, none⟩ = some (.int .i64 (p c).1) ∧ w'.cell? ⟨A, off + c * 2 + 1, none⟩ = some (.int .i64 (p c).2) ∧ w'.cell? ⟨A, off + d * 2, none⟩ = some (.int .i64 (p d).1) ∧ w'.cell? ⟨A, off + d * 2 + 1, none⟩ = some (.int .i64 (p d).2)) wr := ⟨b0, q0, q1, m0, m1⟩
              go_upto_region 17 with fail
              go_region_held3 (fun w' : World => w'.cell? ⟨w.heap.size, 0, none⟩ = some (.slice (some ⟨A, off, none⟩) n cap) ∧ w'.cell? ⟨A, off + c * 2, none⟩ = some (.int .i64 (p c).1) ∧ w'.cell? ⟨A, off + c * 2 + 1, none⟩ = some (.int .i64 (p c).2) ∧ w'.cell? ⟨A, off + d * 2, none⟩ = some (.int .i64 (p d).1) ∧ w'.cell? ⟨A, off + d * 2 + 1, none⟩ = some (.int .i64 (p d).2)) (exact KS) (fail)
              all_goals have HBD := HB.drew
              all_goals clear KS b0 q0 q1 m0 m1 EQ hao hA HB
              all_goals by_cases h : (p c).1 = (p d).1 ∧ (p c).2 = (p d).2
              all_goals first
                | (have HO : Hid (rgF n p = 4) := by
                     show _ = _
                     unfold rgF
                     rw [if_neg h1, if_neg h2, if_neg (fun hh => hh HA.out), if_pos (fun hh => hh c hcn d hdn (Prod.ext h.1 h.2))]
                   have d1 : (decide ((p c).1 = (p d).1) && decide ((p c).2 = (p d).2)) = true := by simp [h.1, h.2]
                   rw [d1]
                   have HBF := HB4.trans (HBD.mono HB4.size)
                   clear d1 h
                   go_wp2
                   go_ret
                   exact ⟨by rw [HO.out]; rfl, HBF⟩)
                | (have HH : Hid (p c ≠ p d) := fun e => h ⟨by rw [e], by rw [e]⟩
                   have d1 : (decide ((p c).1 = (p d).1) && decide ((p c).2 = (p d).2)) = false := by
                     rw [Bool.eq_false_iff]
                     intro hh
                     simp at hh
                     exact h hh
                   rw [d1]
                   clear d1 h
                   go_wp2
                   go_roundw)
              case rel => exact ⟨d + 1, by omega, by go_num, fun k hk => by
                rcases Nat.lt_or_ge k d with h | h
                · exact HE.out k h
                · obtain rfl : k = d := by omega
                  exact HH.out, HBD⟩
              case measure => simp [intOf]; omega
            · obtain rfl : c = d := by omega
              have HBF := HBo.trans (HB.mono HBo.size)
              clear HB HBo HB4 HSo B3
              go_wp2
              go_roundw
              case rel => exact ⟨c + 1, by omega, by go_num, fun j hj => by
                rcases Nat.lt_or_ge j c with h | h
                · exact HC.out j h
                · obtain rfl : j = c := by omega
                  exact HE.out, HBF⟩
              case measure => simp [intOf]; omega
        · obtain rfl : n = c := by omega
          have HB3 := HB1.trans (HB.mono HB1.size)
          have HS2 : Hid (SpIn wr ao n p) := HS1.out.step HB
          have B2 := B1.step HB
          clear HS1 B1 HB HB1
          go_wp2_with fail
          generalize wr = W3 at *
          go_loopw [7] (fun i wr => ∃ c : Nat, c ≤ n ∧ i = .int .i64 c ∧ (∀ j, j < c → ∀ k, k < j → bdB n p j k = false) ∧ Below W3.heap.size W3 wr) (fun i _ => n - (intOf i).toNat)
          case atStart => exact ⟨0, by omega, rfl, fun j hj => by omega, Below.refl _ _⟩
          case round =>
            rename_i hrel
            obtain ⟨c, hc, rfl, hall, HB⟩ := hrel
            have HD : Hid (∀ j, j < c → ∀ k, k < j → bdB n p j k = false) := hall
            clear hall
            by_cases hcn : c < n
            · have hcI : (c : Int) < n := by omega
              have HSo : Hid (SpIn wr ao n p) := HS2.out.step HB
              have HB4 := HB3.trans (HB.mono HB3.size)
              have B3 := B2.step HB
              have HBo := HB
              clear HB
              go_wp2_with fail
              generalize wr = W4 at *
              go_loopw [8] (fun i wr => ∃ d : Nat, d ≤ c ∧ i = .int .i64 d ∧ (∀ k, k < d → bdB n p c k = false) ∧ Below W4.heap.size W4 wr) (fun i _ => c - (intOf i).toNat)
              case atStart => exact ⟨0, by omega, rfl, fun j hj => by omega, Below.refl _ _⟩
              case round =>
                rename_i hrel
                obtain ⟨d, hd, rfl, hall, HB⟩ := hrel
                have HE : Hid (∀ k, k < d → bdB n p c k = false) := hall
                clear hall
                by_cases hdn : d < c
                · have hdI : (d : Int) < c := by omega
                  have HSr := HSo.out.step HB
                  have B4 := B3.step HB
                  obtain ⟨A, off, rfl, -, -, -⟩ := HSr c hcn
                  obtain ⟨i1, i2, i3, i4⟩ := in1_seg (side_ok HA.out HC.out (by omega) hcn)
                  obtain ⟨j1, j2, j3, j4⟩ := in1_seg (side_ok HA.out HC.out (by omega) (show d < n by omega))
                  have L1 := fun w h => l5Side_any (some ⟨A, off, none⟩) n cap p c hcn hn w h
                  have L2 := fun w h => l5Side_any (some ⟨A, off, none⟩) n cap p d (by omega) hn w h
                  have LM := l4Meet_any (sdA n p c).1 (sdA n p c).2.1 (sdA n p c).2.2.1 (sdA n p c).2.2.2 (sdA n p d).1 (sdA n p d).2.1 (sdA n p d).2.2.1 (sdA n p d).2.2.2 i1 i2 i3 i4 j1 j2 j3 j4
                  have hbs := bd_same HC.out (by omega) hcn hdn
                  have hkin : kdA n p c d = 0 ∨ kdA n p c d = 1 ∨ kdA n p c d = 2 := knd_in _ _ _ _ _ _ _ _
                  go_upto_region 25 with fail
                  go_cut [9] (fun m wx => m = .int .i64 (kdA n p c d) ∧ Below wr.heap.size wr wx)
                  case first =>
                    clear HE HD HB4 HSo HS2 HA HC hbs hkin L1 L2 LM
                    refine reg25 (c := c) (d := d) hcn (by omega) hn HSr i1 i2 i3 i4 j1 j2 j3 j4 (by have hz := HB3.size; have hz2 := HBo.size; first | exact B4.lt | omega) (B4.c 0 rfl) rfl rfl rfl rfl (by simp) (by simp) (by simp) (by simp) ?_
                    rintro ⟨tm, df⟩ Wz hz hdf hoff h9 hBz
                    simp only at hz hdf hoff h9
                    subst hdf
                    have htm := tmps_fold [64, 65, 66, 67, 68, 69, 70, 63, 71, 72, 73, 10, 11, 9] tm _ hz hoff
                    simp only [List.foldl, List.setIfInBounds_toArray, List.set_cons_zero, List.set_cons_succ, h9] at htm
                    clear hz hoff
                    generalize tm.getD 64 undef = u0, tm.getD 65 undef = u1, tm.getD 66 undef = u2, tm.getD 67 undef = u3, tm.getD 68 undef = u4, tm.getD 69 undef = u5, tm.getD 70 undef = u6, tm.getD 63 undef = u7, tm.getD 71 undef = u8, tm.getD 72 undef = u9, tm.getD 73 undef = u10, tm.getD 10 undef = u11, tm.getD 11 undef = u12 at htm
                    clear h9
                    subst htm
                    go_wp2_with fail
                    go_meet
                    exact ⟨rfl, hBz⟩
                  case rest =>
                    obtain ⟨hm, hBc⟩ := hcut
                    subst hm
                    have HB5 := HB.trans (hBc.mono HB.size)
                    clear hBc HB B4 HSr L1 L2 LM i1 i2 i3 i4 j1 j2 j3 j4
                    generalize kdA n p c d = z at *
                    have hs1 : IntKind.i64.wrap ((c : Int) - 1) = (c : Int) - 1 := by rw [IntKind.wrap_i64]; omega
                    have hs2 : IntKind.i64.wrap ((n : Int) - 1) = (n : Int) - 1 := by rw [IntKind.wrap_i64]; omega
                    have HBS : Hid (bdB n p c d = ((nxB n c d && !(decide (z = 1))) || (!(nxB n c d) && !(decide (z = 0))))) := hbs
                    clear hbs
                    have HBF := HB4.trans (HB5.mono HB4.size)
                    rcases (show (d + 1 = c) ∨ (d + 1 ≠ c ∧ d = 0 ∧ c + 1 = n) ∨ (d + 1 ≠ c ∧ d = 0 ∧ c + 1 ≠ n) ∨ (d + 1 ≠ c ∧ d ≠ 0) by omega) with hN1 | hN2 | hN3 | hN4
                    · have HX : Hid (nxB n c d = true) := by show _ = _; unfold nxB; simp; omega
                      have b1 : ((d : Int) == (c : Int) - 1) = true := beq_iff_eq.2 (by omega)
                      clear hN1
                      rcases hkin with rfl | rfl | rfl
                      · have HO : Hid (rgF n p = 5) := by
                          show _ = _
                          unfold rgF
                          rw [if_neg h1, if_neg h2, if_neg (fun hh => hh HA.out), if_neg (fun hh => hh HC.out), if_pos (fun hh => by
                            have e := hh c hcn d hdn
                            rw [HBS.out, HX.out] at e
                            simp at e)]
                        go_wp2
                        go_ret
                        exact ⟨by rw [HO.out]; rfl, HBF⟩
                      · have HN : Hid (bdB n p c d = false) := by show _ = _; rw [HBS.out, HX.out]; rfl
                        go_wp2
                        go_roundw
                        case rel => exact ⟨d + 1, by omega, by go_num, fun k hk => by
                          rcases Nat.lt_or_ge k d with h | h
                          · exact HE.out k h
                          · obtain rfl : k = d := by omega
                            exact HN.out, HB5⟩
                        case measure => simp [intOf]; omega
                      · have HO : Hid (rgF n p = 5) := by
                          show _ = _
                          unfold rgF
                          rw [if_neg h1, if_neg h2, if_neg (fun hh => hh HA.out), if_neg (fun hh => hh HC.out), if_pos (fun hh => by
                            have e := hh c hcn d hdn
                            rw [HBS.out, HX.out] at e
                            simp at e)]
                        go_wp2
                        go_ret
                        exact ⟨by rw [HO.out]; rfl, HBF⟩
                    · have HX : Hid (nxB n c d = true) := by show _ = _; unfold nxB; simp; omega
                      have b1 : ((d : Int) == (c : Int) - 1) = false := beq_eq_false_iff_ne.2 (by omega)
                      have b2 : ((d : Int) == 0) = true := beq_iff_eq.2 (by omega)
                      have b3 : ((c : Int) == (n : Int) - 1) = true := beq_iff_eq.2 (by omega)
                      clear hN2
                      rcases hkin with rfl | rfl | rfl
                      · have HO : Hid (rgF n p = 5) := by
                          show _ = _
                          unfold rgF
                          rw [if_neg h1, if_neg h2, if_neg (fun hh => hh HA.out), if_neg (fun hh => hh HC.out), if_pos (fun hh => by
                            have e := hh c hcn d hdn
                            rw [HBS.out, HX.out] at e
                            simp at e)]
                        go_wp2
                        go_ret
                        exact ⟨by rw [HO.out]; rfl, HBF⟩
                      · have HN : Hid (bdB n p c d = false) := by show _ = _; rw [HBS.out, HX.out]; rfl
                        go_wp2
                        go_roundw
                        case rel => exact ⟨d + 1, by omega, by go_num, fun k hk => by
                          rcases Nat.lt_or_ge k d with h | h
                          · exact HE.out k h
                          · obtain rfl : k = d := by omega
                            exact HN.out, HB5⟩
                        case measure => simp [intOf]; omega
                      · have HO : Hid (rgF n p = 5) := by
                          show _ = _
                          unfold rgF
                          rw [if_neg h1, if_neg h2, if_neg (fun hh => hh HA.out), if_neg (fun hh => hh HC.out), if_pos (fun hh => by
                            have e := hh c hcn d hdn
                            rw [HBS.out, HX.out] at e
                            simp at e)]
                        go_wp2
                        go_ret
                        exact ⟨by rw [HO.out]; rfl, HBF⟩
                    · have HX : Hid (nxB n c d = false) := by show _ = _; unfold nxB; rw [Bool.eq_false_iff]; intro hh; simp at hh; omega
                      have b1 : ((d : Int) == (c : Int) - 1) = false := beq_eq_false_iff_ne.2 (by omega)
                      have b2 : ((d : Int) == 0) = true := beq_iff_eq.2 (by omega)
                      have b3 : ((c : Int) == (n : Int) - 1) = false := beq_eq_false_iff_ne.2 (by omega)
                      clear hN3
                      rcases hkin with rfl | rfl | rfl
                      · have HN : Hid (bdB n p c d = false) := by show _ = _; rw [HBS.out, HX.out]; rfl
                        go_wp2
                        go_roundw
                        case rel => exact ⟨d + 1, by omega, by go_num, fun k hk => by
                          rcases Nat.lt_or_ge k d with h | h
                          · exact HE.out k h
                          · obtain rfl : k = d := by omega
                            exact HN.out, HB5⟩
                        case measure => simp [intOf]; omega
                      · have HO : Hid (rgF n p = 5) := by
                          show _ = _
                          unfold rgF
                          rw [if_neg h1, if_neg h2, if_neg (fun hh => hh HA.out), if_neg (fun hh => hh HC.out), if_pos (fun hh => by
                            have e := hh c hcn d hdn
                            rw [HBS.out, HX.out] at e
                            simp at e)]
                        go_wp2
                        go_ret
                        exact ⟨by rw [HO.out]; rfl, HBF⟩
                      · have HO : Hid (rgF n p = 5) := by
                          show _ = _
                          unfold rgF
                          rw [if_neg h1, if_neg h2, if_neg (fun hh => hh HA.out), if_neg (fun hh => hh HC.out), if_pos (fun hh => by
                            have e := hh c hcn d hdn
                            rw [HBS.out, HX.out] at e
                            simp at e)]
                        go_wp2
                        go_ret
                        exact ⟨by rw [HO.out]; rfl, HBF⟩
                    · have HX : Hid (nxB n c d = false) := by show _ = _; unfold nxB; rw [Bool.eq_false_iff]; intro hh; simp at hh; omega
                      have b1 : ((d : Int) == (c : Int) - 1) = false := beq_eq_false_iff_ne.2 (by omega)
                      have b2 : ((d : Int) == 0) = false := beq_eq_false_iff_ne.2 (by omega)
                      clear hN4
                      rcases hkin with rfl | rfl | rfl
                      · have HN : Hid (bdB n p c d = false) := by show _ = _; rw [HBS.out, HX.out]; rfl
                        go_wp2
                        go_roundw
                        case rel => exact ⟨d + 1, by omega, by go_num, fun k hk => by
                          rcases Nat.lt_or_ge k d with h | h
                          · exact HE.out k h
                          · obtain rfl : k = d := by omega
                            exact HN.out, HB5⟩
                        case measure => simp [intOf]; omega
                      · have HO : Hid (rgF n p = 5) := by
                          show _ = _
                          unfold rgF
                          rw [if_neg h1, if_neg h2, if_neg (fun hh => hh HA.out), if_neg (fun hh => hh HC.out), if_pos (fun hh => by
                            have e := hh c hcn d hdn
                            rw [HBS.out, HX.out] at e
                            simp at e)]
                        go_wp2
                        go_ret
                        exact ⟨by rw [HO.out]; rfl, HBF⟩
                      · have HO : Hid (rgF n p = 5) := by
                          show _ = _
                          unfold rgF
                          rw [if_neg h1, if_neg h2, if_neg (fun hh => hh HA.out), if_neg (fun hh => hh HC.out), if_pos (fun hh => by
                            have e := hh c hcn d hdn
                            rw [HBS.out, HX.out] at e
                            simp at e)]
                        go_wp2
                        go_ret
                        exact ⟨by rw [HO.out]; rfl, HBF⟩
                · obtain rfl : c = d := by omega
                  have HBF := HBo.trans (HB.mono HBo.size)
                  clear HB HBo HB4 HSo B3
                  go_wp2
                  go_roundw
                  case rel => exact ⟨c + 1, by omega, by go_num, fun j hj => by
                    rcases Nat.lt_or_ge j c with h | h
                    · exact HD.out j h
                    · obtain rfl : j = c := by omega
                      exact HE.out, HBF⟩
                  case measure => simp [intOf]; omega
            · obtain rfl : n = c := by omega
              have HO : Hid (rgF n p = 0) := by
                show _ = _
                unfold rgF
                rw [if_neg h1, if_neg h2, if_neg (fun hh => hh HA.out), if_neg (fun hh => hh HC.out), if_neg (fun hh => hh HD.out)]
              have HBF := HB3.trans (HB.mono HB3.size)
              clear HS2 B2 HB HB3 HA HC HD
              go_wp2
              go_ret
              exact ⟨by rw [HO.out]; rfl, HBF⟩
end Go.Proofs.Ythgodemncbmmgaa

/- Rings that are turned: the program's small walks. -/
namespace Go.Proofs.Ythgodemncbmmgaa
open Go.RowKit
set_option maxRecDepth 100000 in
theorem rright_any (ao : Option Addr) (n cap : Nat) (p : Ps) (hn : n ≤ 1048576) (hcap : n ≤ cap) (hcap2 : cap ≤ 9223372036854775807) (w : World) (hS : SpIn w ao n p) : Calls Try.prog 42 #[.agg #[.slice ao n cap]] w (BoolP (decide (rgF n p = 0)) w) := by
  have C := fun w h => implRingFault_any ao n cap p hn hcap hcap2 w h
  have HS := hS.step ((Below.refl _ _).alloc (Nat.le_refl _) (.cells #[.slice ao n cap] 35))
  revert C
  generalize rgF n p = o
  intro C
  clear hS
  go_enter Try.func42, Try.ntmps42
  go_wp2_with fail
  refine (C _ HS).mono ?_
  rintro e w1 ⟨rfl, hB⟩
  have HB : Below w.heap.size w w1 := ((Below.refl _ _).alloc (Nat.le_refl _) _).trans (hB.mono (by simp))
  clear hB C HS
  by_cases h : o = 0
  · subst h
    go_wp2
    go_ret
    exact ⟨rfl, HB⟩
  · have hf : (o == 0) = false := by simp; omega
    have HD : Hid (decide (o = 0) = false) := decide_eq_false h
    go_wp2
    go_ret
    exact ⟨by rw [HD.out]; rfl, HB⟩
set_option maxRecDepth 100000 in
theorem l5Ok_any (ao : Option Addr) (n cap : Nat) (p : Ps) (hn : n ≤ 1048576) (w : World) (hS : SpIn w ao n p) : Calls Try.prog 40 #[.agg #[.slice ao n cap]] w (BoolP (decide (rgF n p = 0)) w) := by
  have C := fun w h => specRingFault_any ao n cap p hn w h
  have HS := hS.step ((Below.refl _ _).alloc (Nat.le_refl _) (.cells #[.slice ao n cap] 35))
  revert C
  generalize rgF n p = o
  intro C
  clear hS
  go_enter Try.func40, Try.ntmps40
  go_wp2_with fail
  refine (C _ HS).mono ?_
  rintro e w1 ⟨rfl, hB⟩
  have HB : Below w.heap.size w w1 := ((Below.refl _ _).alloc (Nat.le_refl _) _).trans (hB.mono (by simp))
  clear hB C HS
  by_cases h : o = 0
  · subst h
    go_wp2
    go_ret
    exact ⟨rfl, HB⟩
  · have hf : (o == 0) = false := by simp; omega
    have HD : Hid (decide (o = 0) = false) := decide_eq_false h
    go_wp2
    go_ret
    exact ⟨by rw [HD.out]; rfl, HB⟩
/-- The cells of n spots, one behind the other. -/
def spL (n : Nat) (p : Ps) : List Value := (List.range (n * 2)).map fun (i : Nat) => Value.int .i64 (spW p i)
theorem spL_len (n : Nat) (p : Ps) : (spL n p).length = n * 2 := by simp [spL]
theorem spL_at {n : Nat} {p : Ps} {i : Nat} (h : i < n * 2) : (spL n p)[i]? = some (.int .i64 (spW p i)) := by simp [spL, h]
set_option maxRecDepth 100000 in
set_option maxHeartbeats 2000000 in
theorem clone_any (g n cap : Nat) (p : Ps) (hn : n ≤ 1048576) (w : World) (R : w.rowIs g 77 (n * 2) (fun i => .int .i64 (spW p i))) :
    Calls Try.prog 79 #[.slice (some ⟨g, 0, none⟩) n cap] w (fun e w' => ∃ v, e = .returned v ∧ v ≠ .slice none 0 0 ∧ w'.ownsRow w.heap.size 77 2 v n (spL n p) ∧ Below w.heap.size w w') := by
  obtain ⟨i0, hi, hz0, hz1, hz2⟩ := info_parts Try.infoSpot
  have q := fun (w : World) (a : Option Addr) (n c n' c' : Nat) => Lib.run_eql_slice_nil (P := Try.prog) w _ _ a n c n' c' Try.underlying33
  have HR : Hid (w.rowIs g 77 (n * 2) (fun i => .int .i64 (spW p i))) := R
  clear R
  go_enter Try.func79, Try.ntmps79
  go_wp2_with (at_builtin; refine wpList_append_own _ rfl _ _ 33 rfl w.heap.size 77 i0 (.agg #[.int .i64 0, .int .i64 0]) 2 16 Try.underlying33 hi hz0 hz1 hz2 rfl (by decide) _ _ _ rfl (World.ownsRow_made w #[] 0 (Nat.le_refl _) (by decide) rfl) ⟨g, 0, none⟩ n cap (spL n p) rfl ?c1 ?c2 ?c3 ?c4 ?c5 ?c6 ?_)
  case c1 => exact spL_len n p
  case c2 =>
    intro j u hj
    have hjl : j < n * 2 := by have := (List.getElem?_eq_some_iff.1 hj).1; rw [spL_len] at this; exact this
    rw [spL_at hjl] at hj
    cases hj
    rw [Addr.add_lit, Nat.zero_add]
    exact cell_alloc HR.out.lt (HR.out.cell hjl)
  case c3 =>
    intro u hu
    obtain ⟨i, _, rfl⟩ := List.mem_map.1 hu
    rfl
  case c4 => unfold maxLen; omega
  case c5 => omega
  case c6 => simp
  intro v w1 hown hgrow hne
  have HB : Below w.heap.size w w1 := ((Below.refl _ _).alloc (Nat.le_refl _) _).grown hgrow (by simp) (fun k hk => by cases hk; exact Nat.le_refl _)
  clear hgrow
  go_wp2
  go_ret
  exact ⟨_, rfl, hne, hown, HB⟩
/-- A slice of the call's own, with these spots. -/
def SpOwn (w : World) (base : Nat) (v : Value) (n : Nat) (p : Ps) : Prop :=
  (v = .slice none 0 0 ∧ n = 0) ∨ ∃ g cap f, v = .slice (some ⟨g, 0, none⟩) n cap ∧ base ≤ g ∧ n ≤ cap ∧ cap ≤ maxLen ∧ w.rowIs g 77 (cap * 2) f ∧ ∀ i, i < n * 2 → f i = .int .i64 (spW p i)
theorem SpOwn.of {w : World} {base : Nat} {v : Value} {n : Nat} {p : Ps} (h : w.ownsRow base 77 2 v n (spL n p)) : SpOwn w base v n p := by
  rcases h.2 with ⟨h1, h2⟩ | ⟨g, cap, cur, h1, h2, h3, h4, h5, h6, h7⟩
  · exact .inl ⟨h1, h2⟩
  · refine .inr ⟨g, cap, fun i => cur.getD i undef, h1, h2, h4, h5, ⟨cur, h3, by omega, fun i hi => ?_⟩, fun i hi => ?_⟩
    · simp [Array.getD_eq_getD_getElem?, show i < cur.size by omega]
    · have e : (cur.toList.take (n * 2))[i]? = (spL n p)[i]? := by rw [h7]
      rw [List.getElem?_take_of_lt hi, spL_at hi] at e
      simp only [Array.getElem?_toList] at e
      show cur.getD i undef = _
      rw [Array.getD_eq_getD_getElem?, e]
      rfl
/-- The first spot, then the others from the last one back. -/
def turnP (n : Nat) (p : Ps) : Ps := fun k => if k = 0 then p 0 else p (n - k)
/-- So far: turned at both ends. -/
def revP (n : Nat) (p : Ps) (i : Nat) : Ps := fun k => if k = 0 then p 0 else if k < 1 + i ∨ n - 1 < k + i then p (n - k) else p k
theorem revP_zero {n : Nat} (p : Ps) {k : Nat} (hk : k < n) : revP n p 0 k = p k := by
  unfold revP
  split
  · subst k; rfl
  · rw [if_neg (by omega)]
theorem revP_end {n i : Nat} (p : Ps) (hi : n - 2 ≤ i + i) {k : Nat} (hk : k < n) : revP n p i k = turnP n p k := by
  unfold revP turnP
  split
  · rfl
  · split
    · rfl
    · rw [show n - k = k by omega]
theorem spW_congr {p q : Ps} {n : Nat} (h : ∀ k, k < n → p k = q k) {i : Nat} (hi : i < n * 2) : spW p i = spW q i := by
  unfold spW
  rw [h (i / 2) (by omega)]
theorem revP_step {n i j : Nat} (p : Ps) (h : i + j + 2 = n) (hij : i < j) (f : Nat → Value) (hf : ∀ k, k < n * 2 → f k = .int .i64 (spW (revP n p i) k)) {k : Nat} (hk : k < n * 2) :
    (if k = 2 + j * 2 + 1 then .int .i64 (spW (revP n p i) (2 + i * 2 + 1)) else if k = 2 + j * 2 then .int .i64 (spW (revP n p i) (2 + i * 2)) else if k = 2 + i * 2 + 1 then .int .i64 (spW (revP n p i) (2 + j * 2 + 1)) else if k = 2 + i * 2 then .int .i64 (spW (revP n p i) (2 + j * 2)) else f k) = Value.int .i64 (spW (revP n p (i + 1)) k) := by
  have e1 : ∀ q : Ps, spW q (2 + i * 2) = (q (1 + i)).1 := fun q => by rw [show 2 + i * 2 = (1 + i) * 2 by omega]; exact spW0 q _
  have e2 : ∀ q : Ps, spW q (2 + i * 2 + 1) = (q (1 + i)).2 := fun q => by rw [show 2 + i * 2 + 1 = (1 + i) * 2 + 1 by omega]; exact spW1 q _
  have e3 : ∀ q : Ps, spW q (2 + j * 2) = (q (1 + j)).1 := fun q => by rw [show 2 + j * 2 = (1 + j) * 2 by omega]; exact spW0 q _
  have e4 : ∀ q : Ps, spW q (2 + j * 2 + 1) = (q (1 + j)).2 := fun q => by rw [show 2 + j * 2 + 1 = (1 + j) * 2 + 1 by omega]; exact spW1 q _
  have a1 : revP n p i (1 + i) = p (1 + i) := by unfold revP; rw [if_neg (by omega), if_neg (by omega)]
  have a2 : revP n p i (1 + j) = p (1 + j) := by unfold revP; rw [if_neg (by omega), if_neg (by omega)]
  have b1 : revP n p (i + 1) (1 + i) = p (1 + j) := by unfold revP; rw [if_neg (by omega), if_pos (by omega), show n - (1 + i) = 1 + j by omega]
  have b2 : revP n p (i + 1) (1 + j) = p (1 + i) := by unfold revP; rw [if_neg (by omega), if_pos (by omega), show n - (1 + j) = 1 + i by omega]
  by_cases c1 : k = 2 + j * 2 + 1
  · rw [if_pos c1, c1, e4, e2, a1, b2]
  rw [if_neg c1]
  by_cases c2 : k = 2 + j * 2
  · rw [if_pos c2, c2, e3, e1, a1, b2]
  rw [if_neg c2]
  by_cases c3 : k = 2 + i * 2 + 1
  · rw [if_pos c3, c3, e4, e2, a2, b1]
  rw [if_neg c3]
  by_cases c4 : k = 2 + i * 2
  · rw [if_pos c4, c4, e3, e1, a2, b1]
  rw [if_neg c4, hf k hk]
  have : revP n p i (k / 2) = revP n p (i + 1) (k / 2) := by
    unfold revP
    split
    · rfl
    · by_cases d : k / 2 < 1 + i ∨ n - 1 < k / 2 + i
      · rw [if_pos d, if_pos (by omega)]
      · rw [if_neg d, if_neg (by omega)]
  unfold spW
  rw [this]
end Go.Proofs.Ythgodemncbmmgaa

/- Rows of segments: how they lie, and the walks over them. -/
namespace Go.Proofs.Ythgodemncbmmgaa
open Go.RowKit
/-- n segments lie behind a slice's address, their numbers by x. -/
def SegIn (w : World) (ao : Option Addr) (n : Nat) (x : Nat → Int) : Prop :=
  ∀ i, i < n → ∃ A off, ao = some ⟨A, off, none⟩ ∧ A < w.heap.size ∧ ∀ j, j < 4 → w.cell? ⟨A, off + i * 4 + j, none⟩ = some (.int .i64 (x (i * 4 + j)))
theorem SegIn.step {w w' : World} {ao : Option Addr} {n : Nat} {x : Nat → Int} (h : SegIn w ao n x) (hB : Below w.heap.size w w') : SegIn w' ao n x := fun i hi => by
  obtain ⟨A, off, e, hA, hc⟩ := h i hi
  exact ⟨A, off, e, Nat.lt_of_lt_of_le hA hB.size, fun j hj => (hB.cell (p := ⟨A, off + i * 4 + j, none⟩) hA).trans (hc j hj)⟩
theorem SegIn.drew {w : World} {ao : Option Addr} {n : Nat} {x : Nat → Int} (h : SegIn w ao n x) : SegIn w.drew ao n x := h
end Go.Proofs.Ythgodemncbmmgaa

/- Rows of segments: copied and held against one another; the law of what is at fault in them. -/
namespace Go.Proofs.Ythgodemncbmmgaa
open Go.RowKit
theorem row_step {w w' : World} {g n : Nat} {T : TypeId} {f : Nat → Value} (h : w.rowIs g T n f) (hB : Below w.heap.size w w') : w'.rowIs g T n f := h.of_block (hB.block g h.lt)
end Go.Proofs.Ythgodemncbmmgaa

/- Rows of segments: the law of what is at fault in them. -/
namespace Go.Proofs.Ythgodemncbmmgaa
open Go.RowKit
end Go.Proofs.Ythgodemncbmmgaa

/- Rows of numbers: how they lie; copied, held against one another. -/
namespace Go.Proofs.Ythgodemncbmmgaa
open Go.RowKit
/-- n numbers lie behind a slice's address. -/
def NoIn (w : World) (ao : Option Addr) (n : Nat) (x : Nat → Int) : Prop :=
  ∀ i, i < n → ∃ A off, ao = some ⟨A, off, none⟩ ∧ A < w.heap.size ∧ w.cell? ⟨A, off + i, none⟩ = some (.int .i64 (x i))
theorem NoIn.step {w w' : World} {ao : Option Addr} {n : Nat} {x : Nat → Int} (h : NoIn w ao n x) (hB : Below w.heap.size w w') : NoIn w' ao n x := fun i hi => by
  obtain ⟨A, off, e, hA, hc⟩ := h i hi
  exact ⟨A, off, e, Nat.lt_of_lt_of_le hA hB.size, (hB.cell (p := ⟨A, off + i, none⟩) hA).trans hc⟩
end Go.Proofs.Ythgodemncbmmgaa

/- Answers that own their rows of numbers: held against one another, marked, held again; a row of segments marked. -/
namespace Go.Proofs.Ythgodemncbmmgaa
open Go.RowKit
/-- A slice of the call's own, with these numbers. -/
def NoOwn (w : World) (base : Nat) (v : Value) (L : List Int) : Prop :=
  (v = .slice none 0 0 ∧ L = []) ∨ ∃ g cap f, v = .slice (some ⟨g, 0, none⟩) L.length cap ∧ base ≤ g ∧ L.length ≤ cap ∧ w.rowIs g 2 cap f ∧ ∀ i, i < L.length → f i = .int .i64 (L.getD i 0)
theorem NoOwn.step {w w' : World} {base : Nat} {v : Value} {L : List Int} (h : NoOwn w base v L) (hB : Below w.heap.size w w') : NoOwn w' base v L := by
  rcases h with h | ⟨g, cap, f, h1, h2, h3, h4, h5⟩
  · exact .inl h
  · exact .inr ⟨g, cap, f, h1, h2, h3, row_step h4 hB, h5⟩
theorem NoOwn.of {w : World} {base : Nat} {v : Value} {L : List Int} (h : w.ownsRow base 2 1 v L.length (L.map (Value.int .i64))) : NoOwn w base v L := by
  rcases h.2 with ⟨h1, h2⟩ | ⟨g, cap, cur, h1, h2, h3, h4, h5, h6, h7⟩
  · exact .inl ⟨h1, List.length_eq_zero_iff.1 h2⟩
  · refine .inr ⟨g, cap, fun i => cur.getD i undef, h1, h2, h4, ⟨cur, h3, by omega, fun i hi => ?_⟩, fun i hi => ?_⟩
    · simp [Array.getD_eq_getD_getElem?, show i < cur.size by omega]
    · have e : (cur.toList.take (L.length * 1))[i]? = (L.map (Value.int .i64))[i]? := by rw [h7]
      rw [List.getElem?_take_of_lt (by omega), List.getElem?_map, List.getElem?_eq_getElem hi] at e
      simp only [Array.getElem?_toList, Option.map_some] at e
      show cur.getD i undef = _
      rw [Array.getD_eq_getD_getElem?, e]
      simp [List.getD_eq_getElem?_getD, hi]
/-- The slice's own parts, and that its numbers lie there. -/
theorem NoOwn.in {w : World} {base : Nat} {v : Value} {L : List Int} (h : NoOwn w base v L) : ∃ ao cap, v = .slice ao L.length cap ∧ NoIn w ao L.length (fun i => L.getD i 0) := by
  rcases h with ⟨h1, h2⟩ | ⟨g, cap, f, h1, h2, h3, h4, h5⟩
  · subst h2
    exact ⟨none, 0, h1, fun i hi => by simp at hi⟩
  · exact ⟨some ⟨g, 0, none⟩, cap, h1, fun i hi => ⟨g, 0, rfl, h4.lt, by rw [Nat.zero_add, h4.cell (by omega), h5 i hi]⟩⟩
/-- No block has turned but one of those that a base leaves free. -/
def OtherB (h : Option Nat) (w w' : World) : Prop :=
  (∀ g, some g ≠ h → g < w.heap.size → w'.heap[g]? = w.heap[g]?) ∧ w.heap.size ≤ w'.heap.size ∧ ∀ w0 : World, (∀ g, h = some g → w0.heap.size ≤ g) → Below w0.heap.size w0 w → Below w0.heap.size w0 w'
theorem OtherB.row {h : Option Nat} {w w' : World} (k : OtherB h w w') {g n : Nat} {T : TypeId} {f : Nat → Value} (hne : some g ≠ h) (r : w.rowIs g T n f) : w'.rowIs g T n f := r.of_block (k.1 g hne r.lt)
theorem OtherB.own {h : Option Nat} {w w' : World} (k : OtherB h w w') {base : Nat} {v : Value} {L : List Int} (r : NoOwn w base v L) (hne : ∀ g, v.ownBlock = some g → some g ≠ h) : NoOwn w' base v L := by
  rcases r with r | ⟨g, cap, f, h1, h2, h3, h4, h5⟩
  · exact .inl r
  · exact .inr ⟨g, cap, f, h1, h2, h3, k.row (hne g (by subst h1; rfl)) h4, h5⟩
theorem OtherB.blk {h : Option Nat} {w w' : World} (k : OtherB h w w') {g : Nat} {vs : List Value} (hne : some g ≠ h) (r : Blk w g vs) : Blk w' g vs := by
  refine ⟨Nat.lt_of_lt_of_le r.lt k.2.1, fun i v hi => ⟨?_, ?_⟩⟩
  · have := r.c i hi
    unfold World.cell? at this ⊢
    simp only [k.1 g hne r.lt]
    exact this
  · have := r.f i hi
    unfold World.frozen? at this ⊢
    simp only [k.1 g hne r.lt]
    exact this
theorem OtherB.refl (h : Option Nat) (w : World) : OtherB h w w := ⟨fun _ _ _ => rfl, Nat.le_refl _, fun _ _ H => H⟩
theorem OtherB.set {h : Nat} {w w' : World} (k : OtherB (some h) w w') (i : Nat) (v : Value) : OtherB (some h) w (w'.setCell ⟨h, i, none⟩ v) := by
  refine ⟨fun g hne hg => ?_, by simpa [World.setCell] using k.2.1, fun w0 hb H => (k.2.2 w0 hb H).setCell (by exact hb h rfl) _⟩
  rw [Below.heap_setCell _ _ _ _ (fun e => hne (congrArg some e))]
  exact k.1 g hne hg
theorem OtherB.step {h : Option Nat} {w w' w'' : World} (k : OtherB h w w') (hB : Below w'.heap.size w' w'') : OtherB h w w'' :=
  ⟨fun g hne hg => (hB.block g (Nat.lt_of_lt_of_le hg k.2.1)).trans (k.1 g hne hg), Nat.le_trans k.2.1 hB.size, fun w0 hb H => (k.2.2 w0 hb H).trans (hB.mono (k.2.2 w0 hb H).size)⟩
end Go.Proofs.Ythgodemncbmmgaa

/- Rings that are turned: the program's reversal. -/
namespace Go.Proofs.Ythgodemncbmmgaa
open Go.RowKit
theorem OtherB.drew {h : Option Nat} {w w' : World} (k : OtherB h w w') : OtherB h w w'.drew := ⟨k.1, k.2.1, fun w0 hb H => (k.2.2 w0 hb H).drew⟩
set_option maxRecDepth 100000 in
set_option maxHeartbeats 4000000 in
theorem reverse_any (g n cap : Nat) (p : Ps) (f : Nat → Value) (hn3 : 3 ≤ n) (hn : n ≤ 1048576) (hcap : n ≤ cap) (w : World) (R : w.rowIs g 77 (cap * 2) f) (hf : ∀ k, k < n * 2 → f k = .int .i64 (spW p k)) :
    Calls Try.prog 80 #[.slice (some ⟨g, 2, none⟩) (n - 1) (cap - 1)] w (fun e w' => e = .returned (.tuple #[]) ∧ (∃ f', w'.rowIs g 77 (cap * 2) f' ∧ ∀ k, k < n * 2 → f' k = .int .i64 (spW (turnP n p) k)) ∧ OtherB (some g) w w') := by
  obtain ⟨m, rfl⟩ : ∃ m, n = m + 3 := ⟨n - 3, by omega⟩
  have HR : Hid (w.rowIs g 77 (cap * 2) f ∧ ∀ k, k < (m + 3) * 2 → f k = .int .i64 (spW p k)) := ⟨R, hf⟩
  clear R hf
  rw [show m + 3 - 1 = m + 2 by omega]
  have hmI : (m : Int) + 2 ≤ 1048576 := by omega
  go_enter Try.func80, Try.ntmps80
  go_wp2_with fail
  go_loopw [2, 3] (fun a b wr => ∃ i j : Nat, a = .int .i64 i ∧ b = .int .i64 j ∧ i + j = m + 1 ∧ i ≤ j + 1 ∧ (∃ f', wr.rowIs g 77 (cap * 2) f' ∧ ∀ k, k < (m + 3) * 2 → f' k = .int .i64 (spW (revP (m + 3) p i) k)) ∧ OtherB (some g) w wr) (fun a b _ => (intOf b + 2 - intOf a).toNat)
  case atStart => exact ⟨0, m + 1, rfl, by go_num, by omega, by omega, ⟨f, HR.out.1, fun k hk => by rw [HR.out.2 k hk, spW_congr (fun i hi => (revP_zero p hi).symm) hk]⟩, OtherB.refl _ _⟩
  case round =>
    obtain ⟨i, j, rfl, rfl, hij, hle, ⟨f', R, hf'⟩, K⟩ := hrel
    by_cases hlt : i < j
    · have hltI : (i : Int) < j := by omega
      have x0 := R.cell (i := 2 + i * 2) (by omega); have x1 := R.cell (i := 2 + i * 2 + 1) (by omega)
      have y0 := R.cell (i := 2 + j * 2) (by omega); have y1 := R.cell (i := 2 + j * 2 + 1) (by omega)
      rw [hf' _ (by omega)] at x0 x1 y0 y1
      have xf0 := R.frozen (2 + i * 2); have xf1 := R.frozen (2 + i * 2 + 1); have yf0 := R.frozen (2 + j * 2); have yf1 := R.frozen (2 + j * 2 + 1)
      have HF : Hid (∀ k, k < (m + 3) * 2 → f' k = .int .i64 (spW (revP (m + 3) p i) k)) := hf'
      have HRR : Hid (wr.rowIs g 77 (cap * 2) f') := R
      have HKK : Hid (OtherB (some g) w wr) := K
      clear R K hf' HR
      have hb : i < m + 2 := by omega
      have hb2 : j < m + 2 := by omega
      go_upto_region 3 with fail
      go_region
      have RN := (((HRR.out.set (2 + i * 2) (.int .i64 (spW (revP (m + 3) p i) (2 + j * 2)))).set (2 + i * 2 + 1) (.int .i64 (spW (revP (m + 3) p i) (2 + j * 2 + 1)))).set (2 + j * 2) (.int .i64 (spW (revP (m + 3) p i) (2 + i * 2)))).set (2 + j * 2 + 1) (.int .i64 (spW (revP (m + 3) p i) (2 + i * 2 + 1)))
      have KN := ((((HKK.out.set (2 + i * 2) (.int .i64 (spW (revP (m + 3) p i) (2 + j * 2)))).set (2 + i * 2 + 1) (.int .i64 (spW (revP (m + 3) p i) (2 + j * 2 + 1)))).set (2 + j * 2) (.int .i64 (spW (revP (m + 3) p i) (2 + i * 2)))).set (2 + j * 2 + 1) (.int .i64 (spW (revP (m + 3) p i) (2 + i * 2 + 1)))).drew
      have RD : ∃ f', (((((wr.setCell ⟨g, 2 + i * 2, none⟩ (.int .i64 (spW (revP (m + 3) p i) (2 + j * 2)))).setCell ⟨g, 2 + i * 2 + 1, none⟩ (.int .i64 (spW (revP (m + 3) p i) (2 + j * 2 + 1)))).setCell ⟨g, 2 + j * 2, none⟩ (.int .i64 (spW (revP (m + 3) p i) (2 + i * 2)))).setCell ⟨g, 2 + j * 2 + 1, none⟩ (.int .i64 (spW (revP (m + 3) p i) (2 + i * 2 + 1)))).drew).rowIs g 77 (cap * 2) f' ∧ ∀ k, k < (m + 3) * 2 → f' k = .int .i64 (spW (revP (m + 3) p (i + 1)) k) := ⟨_, RN.drew, fun k hk => revP_step p (by omega) hlt f' HF.out hk⟩
      clear RN HF HRR HKK x0 x1 y0 y1 xf0 xf1 yf0 yf1
      revert KN RD
      generalize ((((wr.setCell ⟨g, 2 + i * 2, none⟩ (.int .i64 (spW (revP (m + 3) p i) (2 + j * 2)))).setCell ⟨g, 2 + i * 2 + 1, none⟩ (.int .i64 (spW (revP (m + 3) p i) (2 + j * 2 + 1)))).setCell ⟨g, 2 + j * 2, none⟩ (.int .i64 (spW (revP (m + 3) p i) (2 + i * 2)))).setCell ⟨g, 2 + j * 2 + 1, none⟩ (.int .i64 (spW (revP (m + 3) p i) (2 + i * 2 + 1)))) = W1
      intro KN RD
      have HKN : Hid (OtherB (some g) w W1.drew) := KN
      have HRD : Hid (∃ f', (W1.drew).rowIs g 77 (cap * 2) f' ∧ ∀ k, k < (m + 3) * 2 → f' k = .int .i64 (spW (revP (m + 3) p (i + 1)) k)) := RD
      clear KN RD
      go_wp2
      go_roundw
      case rel => exact ⟨i + 1, j - 1, by go_num, by congr 1; omega, by omega, by omega, HRD.out, HKN.out⟩
      case measure => simp [intOf]; omega
    · have hltI : ¬ ((i : Int) < j) := by omega
      have HF : Hid (∀ k, k < (m + 3) * 2 → f' k = .int .i64 (spW (turnP (m + 3) p) k)) := fun k hk => by rw [hf' k hk, spW_congr (fun t ht => revP_end p (by omega) ht) hk]
      clear hf'
      go_wp2
      go_end0
      exact ⟨rfl, ⟨f', R, HF.out⟩, K⟩
end Go.Proofs.Ythgodemncbmmgaa

/- Rings that are turned: both sides' answers. -/
namespace Go.Proofs.Ythgodemncbmmgaa
open Go.RowKit
/-- A ring of its own memory. -/
def RingP (n : Nat) (p : Ps) (w : World) (e : Ending) (w' : World) : Prop := ∃ v, e = .returned (.agg #[v]) ∧ SpOwn w' w.heap.size v n p ∧ Below w.heap.size w w'
theorem SpOwn.mono {w : World} {b b' : Nat} {v : Value} {n : Nat} {p : Ps} (h : SpOwn w b' v n p) (hb : b ≤ b') : SpOwn w b v n p := by
  rcases h with h | ⟨g, cap, f, h1, h2, h3⟩
  · exact .inl h
  · exact .inr ⟨g, cap, f, h1, by omega, h3⟩
set_option maxRecDepth 100000 in
set_option maxHeartbeats 2000000 in
theorem turned_any (g n cap : Nat) (p : Ps) (hn3 : 3 ≤ n) (hn : n ≤ 1048576) (w : World) (R : w.rowIs g 77 (n * 2) (fun i => .int .i64 (spW p i))) :
    Calls Try.prog 43 #[.agg #[.slice (some ⟨g, 0, none⟩) n cap]] w (RingP n (turnP n p) w) := by
  have C1 := fun w h => clone_any g n cap p hn w h
  go_enter Try.func43, Try.ntmps43
  go_wp2_with fail
  have HB0 : Below w.heap.size w ((w.alloc (.cells #[.slice (some ⟨g, 0, none⟩) n cap] 35)).alloc (.cells #[.slice none 0 0] 35)) := ((Below.refl _ _).alloc (Nat.le_refl _) _).alloc (by simp) _
  have BR : Blk ((w.alloc (.cells #[.slice (some ⟨g, 0, none⟩) n cap] 35)).alloc (.cells #[.slice none 0 0] 35)) (w.heap.size + 1) [.slice none 0 0] := Blk.new (w.alloc (.cells #[.slice (some ⟨g, 0, none⟩) n cap] 35)) [.slice none 0 0] 35 (by simp)
  have hz : ((w.alloc (.cells #[.slice (some ⟨g, 0, none⟩) n cap] 35)).alloc (.cells #[.slice none 0 0] 35)).heap.size = w.heap.size + 1 + 1 := by simp
  have R0 := rows_step R HB0
  revert HB0 BR hz R0
  generalize ((w.alloc (.cells #[.slice (some ⟨g, 0, none⟩) n cap] 35)).alloc (.cells #[.slice none 0 0] 35)) = W2
  intro HB0 BR hz R0
  refine (C1 _ R0).mono ?_
  rintro e w1 ⟨v, rfl, hne, hown, hB⟩
  replace HB0 := HB0.trans (hB.mono HB0.size)
  replace BR := BR.step hB
  clear R R0 C1 hB
  rcases SpOwn.of hown with ⟨h1, _⟩ | ⟨g', cap', f, rfl, hg', hc', hm', R, hf⟩
  · exact absurd h1 hne
  clear hown hne
  rw [hz] at hg'
  have C2 := reverse_any g' n cap' p f hn3 hn hc' w1 R hf
  have h1c : 1 ≤ cap' := by omega
  have hn1 : 1 ≤ n := by omega
  have hmm := hm'
  unfold maxLen at hmm
  clear R hf
  go_wp2_with fail
  refine C2.mono ?_
  rintro e w2 ⟨rfl, ⟨f', R, hf⟩, K⟩
  clear C2
  replace HB0 := K.2.2 w (fun k hk => by cases hk; omega) HB0
  replace BR := K.blk (fun e => by have := Option.some.inj e; omega) BR
  have HO : Hid (SpOwn w2 w.heap.size (.slice (some ⟨g', 0, none⟩) n cap') n (turnP n p)) := .inr ⟨g', cap', f', rfl, by omega, hc', hm', R, hf⟩
  have r0 := BR.c 0 rfl; have rf := BR.f 0 rfl; have rl := BR.lt
  clear R hf K BR
  go_wp2
  refine bodyPost_ret (v := .agg #[.slice (some ⟨g', 0, none⟩) n cap']) (by simp [results, Try.results43, go_sem, r0]) rfl ?_
  refine ⟨_, rfl, ?_, HB0.setCell (by simp) _⟩
  rcases HO.out with ⟨h, _⟩ | ⟨g2, c2, f2, h1, h2, h3, h4, R, h6⟩
  · cases h
  · cases h1
    exact .inr ⟨g', cap', f2, rfl, h2, h3, h4, R.setOther (by simp; omega) _, h6⟩
def tuN (n : Nat) (p : Ps) : Nat := if rgF n p = 0 then n else 0
theorem rgF_three {n : Nat} {p : Ps} (h : rgF n p = 0) : 3 ≤ n := by
  unfold rgF at h
  split at h
  · cases h
  · omega
set_option maxRecDepth 100000 in
set_option maxHeartbeats 2000000 in
theorem implTurned_any (g n cap : Nat) (p : Ps) (hn : n ≤ 1048576) (hcap : n ≤ cap) (hcap2 : cap ≤ 9223372036854775807) (w : World) (R : w.rowIs g 77 (n * 2) (fun i => .int .i64 (spW p i))) :
    Calls Try.prog 16 #[.agg #[.slice (some ⟨g, 0, none⟩) n cap]] w (RingP (tuN n p) (turnP n p) w) := by
  have C1 := fun w h => rright_any (some ⟨g, 0, none⟩) n cap p hn hcap hcap2 w h
  have HB0 : Below w.heap.size w ((w.alloc (.cells #[.slice (some ⟨g, 0, none⟩) n cap] 35)).alloc (.cells #[.slice none 0 0] 35)) := ((Below.refl _ _).alloc (Nat.le_refl _) _).alloc (by simp) _
  have BA : Blk ((w.alloc (.cells #[.slice (some ⟨g, 0, none⟩) n cap] 35)).alloc (.cells #[.slice none 0 0] 35)) w.heap.size [.slice (some ⟨g, 0, none⟩) n cap] := (Blk.new w [.slice (some ⟨g, 0, none⟩) n cap] 35 rfl).alloc _
  have BR : Blk ((w.alloc (.cells #[.slice (some ⟨g, 0, none⟩) n cap] 35)).alloc (.cells #[.slice none 0 0] 35)) (w.heap.size + 1) [.slice none 0 0] := Blk.new (w.alloc (.cells #[.slice (some ⟨g, 0, none⟩) n cap] 35)) [.slice none 0 0] 35 (by simp)
  go_enter Try.func16, Try.ntmps16
  go_wp2_with fail
  replace R := rows_step R HB0
  revert HB0 BR BA R
  generalize ((w.alloc (.cells #[.slice (some ⟨g, 0, none⟩) n cap] 35)).alloc (.cells #[.slice none 0 0] 35)) = W2
  intro HB0 BA BR R
  refine (C1 _ (spIn_row R)).mono ?_
  rintro e w1 ⟨rfl, hB⟩
  replace HB0 := HB0.trans (hB.mono HB0.size)
  replace BR := BR.step hB
  replace BA := BA.step hB
  replace R := rows_step R hB
  clear hB C1
  by_cases h : rgF n p = 0
  · rw [decide_eq_true h]
    have HN : Hid (tuN n p = n) := by show _ = _; unfold tuN; rw [if_pos h]
    have C2 := fun w R => turned_any g n cap p (rgF_three h) hn w R
    have a0 := BA.c 0 rfl
    have h3 := rgF_three h
    clear h
    go_wp2_with fail
    refine (C2 _ R).mono ?_
    rintro e w2 ⟨v, rfl, HO, hB⟩
    have HB1 := HB0.trans (hB.mono HB0.size)
    have hl1 := BR.lt
    replace BR := BR.step hB
    clear a0 BA R C2 hB
    rcases HO with ⟨_, h0⟩ | ⟨g', cap', f', rfl, hg', hc', hm', R, hf⟩
    · omega
    have HOO : Hid (w2.rowIs g' 77 (cap' * 2) f' ∧ ∀ i, i < n * 2 → f' i = .int .i64 (spW (turnP n p) i)) := ⟨R, hf⟩
    have r0 := BR.c 0 rfl; have rf := BR.f 0 rfl
    clear R hf BR HB0
    go_wp2
    refine bodyPost_ret (v := .agg #[.slice (some ⟨g', 0, none⟩) n cap']) (by simp [results, Try.results16, go_sem, r0]) rfl ?_
    rw [HN.out]
    exact ⟨_, rfl, .inr ⟨g', cap', f', rfl, by omega, hc', hm', HOO.out.1.setOther (by simp; omega) _, HOO.out.2⟩, HB1.setCell (by simp) _⟩
  · rw [decide_eq_false h]
    have HN : Hid (tuN n p = 0) := by show _ = _; unfold tuN; rw [if_neg h]
    have r0 := BR.c 0 rfl; have rf := BR.f 0 rfl
    clear h R BA BR
    go_wp2
    refine bodyPost_ret (v := .agg #[.slice none 0 0]) (by simp [results, Try.results16, go_sem, r0]) rfl ?_
    rw [HN.out]
    exact ⟨_, rfl, .inl ⟨rfl, rfl⟩, HB0.setCell (by simp) _⟩
theorem argsB_grown2 {w W W' : World} {vss : List (List Value)} {row : Option Nat} (h : ArgsB w W vss) (hl : w.heap.size + vss.length ≤ W.heap.size) (hg : W.grownBy W' row) (hr : ∀ k, row = some k → w.heap.size + vss.length ≤ k) : ArgsB w W' vss := by
  have hB : Below (w.heap.size + vss.length) W W' := (Below.refl _ W).grown hg hl hr
  refine ⟨h.1.trans (hB.mono (by omega)), fun j vs hj => (h.2 j vs hj).below hB ?_⟩
  have := (List.getElem?_eq_some_iff.1 hj).1
  omega
theorem spL_succ (c : Nat) (q : Ps) : spL (c + 1) q = spL c q ++ [.int .i64 (q c).1, .int .i64 (q c).2] := by
  unfold spL
  rw [show (c + 1) * 2 = c * 2 + 1 + 1 by omega, List.range_succ, List.range_succ]
  simp [spW0, spW1]
theorem one_cell2 (x y : Int) : ∀ u ∈ [Value.int .i64 x, Value.int .i64 y], u.oneCell' = true := by
  intro u hu
  simp only [List.mem_cons, List.not_mem_nil, or_false] at hu
  rcases hu with rfl | rfl <;> rfl
set_option maxRecDepth 100000 in
set_option maxHeartbeats 2000000 in
theorem specTurned_any (g n cap : Nat) (p : Ps) (hn : n ≤ 1048576) (w : World) (R : w.rowIs g 77 (n * 2) (fun i => .int .i64 (spW p i))) :
    Calls Try.prog 14 #[.agg #[.slice (some ⟨g, 0, none⟩) n cap]] w (RingP (tuN n p) (turnP n p) w) := by
  have C1 := fun w h => l5Ok_any (some ⟨g, 0, none⟩) n cap p hn w h
  have HB0 : Below w.heap.size w ((w.alloc (.cells #[.slice (some ⟨g, 0, none⟩) n cap] 35)).alloc (.cells #[.slice none 0 0] 35)) := ((Below.refl _ _).alloc (Nat.le_refl _) _).alloc (by simp) _
  have BA : Blk ((w.alloc (.cells #[.slice (some ⟨g, 0, none⟩) n cap] 35)).alloc (.cells #[.slice none 0 0] 35)) w.heap.size [.slice (some ⟨g, 0, none⟩) n cap] := (Blk.new w [.slice (some ⟨g, 0, none⟩) n cap] 35 rfl).alloc _
  have BR : Blk ((w.alloc (.cells #[.slice (some ⟨g, 0, none⟩) n cap] 35)).alloc (.cells #[.slice none 0 0] 35)) (w.heap.size + 1) [.slice none 0 0] := Blk.new (w.alloc (.cells #[.slice (some ⟨g, 0, none⟩) n cap] 35)) [.slice none 0 0] 35 (by simp)
  have hgl := R.lt
  have RW := R
  go_enter Try.func14, Try.ntmps14
  go_wp2_with fail
  replace R := rows_step R HB0
  revert HB0 BR BA R
  generalize ((w.alloc (.cells #[.slice (some ⟨g, 0, none⟩) n cap] 35)).alloc (.cells #[.slice none 0 0] 35)) = W2
  intro HB0 BA BR R
  refine (C1 _ (spIn_row R)).mono ?_
  rintro e w1 ⟨rfl, hB⟩
  replace HB0 := HB0.trans (hB.mono HB0.size)
  replace BR := BR.step hB
  replace BA := BA.step hB
  replace R := rows_step R hB
  clear hB C1
  by_cases h : rgF n p = 0
  · rw [decide_eq_true h]
    have HN : Hid (tuN n p = n) := by show _ = _; unfold tuN; rw [if_pos h]
    have h3 := rgF_three h
    obtain ⟨i0, hi, hz0, hz1, hz2⟩ := info_parts Try.infoSpot
    have a0 := BA.c 0 rfl
    have c0 := R.cell (i := 0) (by omega)
    have c1 := R.cell (i := 1) (by omega)
    have hnI : (n : Int) ≤ 1048576 := by omega
    have hn3I : (3 : Int) ≤ n := by omega
    have al : w.heap.size < w1.heap.size := BA.lt
    have bl : w.heap.size + 1 < w1.heap.size := BR.lt
    have T0 : ArgsB w w1 [[.slice (some ⟨g, 0, none⟩) n cap], [.slice none 0 0]] := ⟨HB0, fun j vs hj => by
      match j, hj with
      | 0, hj => cases hj; exact BA
      | 1, hj => cases hj; exact BR
      | j + 2, hj => simp at hj⟩
    have O1 : (w1.alloc (.cells #[.int .i64 (spW p 0), .int .i64 (spW p 1)] 77)).ownsRow (w.heap.size + 2) 77 2 (.slice (some ⟨w1.heap.size, 0, none⟩) 1 1) 1 (spL 1 (turnP n p)) := by
      refine ⟨by rw [spL_len], .inr ⟨w1.heap.size, 1, #[.int .i64 (spW p 0), .int .i64 (spW p 1)], rfl, by omega, Array.getElem?_push_size, by omega, by decide, rfl, ?_⟩⟩
      simp [spL, turnP, spW, List.range_succ]
    have HRW : Hid (w.rowIs g 77 (n * 2) (fun i => .int .i64 (spW p i))) := RW
    clear h BA BR R HB0
    go_wp2_with fail
    go_loopw [3, 4] (fun o i wr => ∃ c k : Nat, 1 ≤ c ∧ c + k = n ∧ i = .int .i64 (k : Int) ∧ wr.ownsRow (w.heap.size + 2) 77 2 o c (spL c (turnP n p)) ∧ ArgsB w wr [[.slice (some ⟨g, 0, none⟩) n cap], [.slice none 0 0]]) (fun _ i _ => (intOf i).toNat)
    case atStart => exact ⟨1, n - 1, by omega, by omega, by congr 1; omega, O1, T0.alloc _⟩
    case round =>
      clear O1 T0 a0 c0 c1 al bl
      obtain ⟨c, k, hc1, hck, rfl, hown, T0⟩ := hrel
      have HCK : Hid (c + k = n) := hck
      have HBw := T0.below
      have X0 : Blk _ w.heap.size _ := T0.b 0 rfl
      have X1 : Blk _ (w.heap.size + 1) _ := T0.b 1 rfl
      by_cases hlt : 0 < k
      · have R := rows_step HRW.out HBw
        have d0 := R.cell (i := k * 2) (by omega)
        have d1 := R.cell (i := k * 2 + 1) (by omega)
        rw [spW0] at d0
        rw [spW1] at d1
        have ht : turnP n p c = p k := by unfold turnP; rw [if_neg (by omega), show n - c = k by omega]
        have a0 := X0.c 0 rfl
        have hs2 : w.heap.size + 2 ≤ wr.heap.size := X1.lt
        have hgt : (0 : Int) < (k : Int) := by omega
        have hkn : k < n := by omega
        have hcb : c ≤ 1048576 := by omega
        have HT : Hid (turnP n p c = p k) := ht
        clear ht R X0 X1 hck RW
        revert d0 d1 HT
        generalize p k = xy
        intro d0 d1 HT
        go_wp2_with (at_builtin; refine wpList_append_own _ rfl _ _ 33 rfl (w.heap.size + 2) 77 i0 (.agg #[.int .i64 0, .int .i64 0]) 2 16 Try.underlying33 hi hz0 hz1 hz2 rfl (by decide) _ _ _ rfl (hown.alloc _) ⟨wr.heap.size, 0, none⟩ 1 1 [.int .i64 xy.1, .int .i64 xy.2] rfl rfl (cell_two_new _ _ _ _) (one_cell2 _ _) (by unfold maxLen; omega) (by omega) (by simp; omega) ?_)
        intro v' w3 hown2 hgrow2 hnn
        have R1 : w3.ownsRow (w.heap.size + 2) 77 2 v' (c + 1) (spL (c + 1) (turnP n p)) := by rw [spL_succ, HT.out]; exact hown2
        have T4 := argsB_grown2 (T0.alloc _) (by simp; omega) hgrow2 (fun j hj => (hown.lt j hj).1)
        clear hown2 hgrow2 hnn hown T0 d0 d1 a0 HT
        go_wp2
        go_roundw
        case rel => exact ⟨c + 1, k - 1, by omega, by have := HCK.out; omega, by congr 1; omega, R1, T4⟩
        case measure => simp [intOf]; omega
      · obtain rfl : k = 0 := by omega
        obtain rfl : c = n := by omega
        rcases SpOwn.of hown with ⟨_, h0⟩ | ⟨g', cap', f', rfl, hg', hc', hm', R, hf⟩
        · omega
        have HOO : Hid (wr.rowIs g' 77 (cap' * 2) f' ∧ ∀ i, i < c * 2 → f' i = .int .i64 (spW (turnP c p) i)) := ⟨R, hf⟩
        have r0 := X1.c 0 rfl; have rf := X1.f 0 rfl
        clear R hf X0 X1 T0 hown RW HRW
        go_wp2
        refine bodyPost_ret (v := .agg #[.slice (some ⟨g', 0, none⟩) c cap']) (by simp [results, Try.results14, go_sem, r0]) rfl ?_
        rw [HN.out]
        exact ⟨_, rfl, .inr ⟨g', cap', f', rfl, by omega, hc', hm', HOO.out.1.setOther (by simp; omega) _, HOO.out.2⟩, HBw.setCell (by simp) _⟩
  · rw [decide_eq_false h]
    have HN : Hid (tuN n p = 0) := by show _ = _; unfold tuN; rw [if_neg h]
    have r0 := BR.c 0 rfl; have rf := BR.f 0 rfl
    clear h R BA BR
    go_wp2
    refine bodyPost_ret (v := .agg #[.slice none 0 0]) (by simp [results, Try.results14, go_sem, r0]) rfl ?_
    rw [HN.out]
    exact ⟨_, rfl, .inl ⟨rfl, rfl⟩, HB0.setCell (by simp) _⟩
end Go.Proofs.Ythgodemncbmmgaa

/- Rings of their own memory: held against one another, marked, held again. -/
namespace Go.Proofs.Ythgodemncbmmgaa
open Go.RowKit
theorem SpOwn.step {w w' : World} {base : Nat} {v : Value} {n : Nat} {p : Ps} (h : SpOwn w base v n p) (hB : Below w.heap.size w w') : SpOwn w' base v n p := by
  rcases h with h | ⟨g, cap, f, h1, h2, h3, h4, h5, h6⟩
  · exact .inl h
  · exact .inr ⟨g, cap, f, h1, h2, h3, h4, rows_step h5 hB, h6⟩
theorem SpOwn.in {w : World} {base : Nat} {v : Value} {n : Nat} {p : Ps} (h : SpOwn w base v n p) : ∃ ao cap, v = .slice ao n cap ∧ SpIn w ao n p := by
  rcases h with ⟨h1, rfl⟩ | ⟨g, cap, f, h1, h2, h3, h4, h5, h6⟩
  · exact ⟨none, 0, h1, fun i hi => by omega⟩
  · have R : w.rowIs g 77 (cap * 2) f := h5
    refine ⟨some ⟨g, 0, none⟩, cap, h1, fun i hi => ⟨g, 0, rfl, R.lt, ?_, ?_⟩⟩
    · rw [Nat.zero_add, R.cell (by omega), h6 _ (by omega), spW0]
    · rw [Nat.zero_add, R.cell (by omega), h6 _ (by omega), spW1]
theorem SpOwn.lt {w : World} {base : Nat} {v : Value} {n : Nat} {p : Ps} (h : SpOwn w base v n p) {g : Nat} (hg : v.ownBlock = some g) : base ≤ g ∧ g < w.heap.size := by
  rcases h with ⟨h1, _⟩ | ⟨g', cap, f, h1, h2, h3, h4, h5, h6⟩
  · subst h1; cases hg
  · subst h1; cases hg; exact ⟨h2, h5.lt⟩
theorem OtherB.sown {h : Option Nat} {w w' : World} (k : OtherB h w w') {base : Nat} {v : Value} {n : Nat} {p : Ps} (r : SpOwn w base v n p) (hne : ∀ g, v.ownBlock = some g → some g ≠ h) : SpOwn w' base v n p := by
  rcases r with r | ⟨g, cap, f, h1, h2, h3, h4, h5, h6⟩
  · exact .inl r
  · exact .inr ⟨g, cap, f, h1, h2, h3, h4, k.row (hne g (by subst h1; rfl)) h5, h6⟩
theorem SpOwn.row {w : World} {base g n : Nat} {p : Ps} (R : w.rowIs g 77 (n * 2) (fun i => .int .i64 (spW p i))) (hb : base ≤ g) (hn : n ≤ 1048576) : SpOwn w base (.slice (some ⟨g, 0, none⟩) n n) n p :=
  .inr ⟨g, n, _, rfl, hb, Nat.le_refl _, by unfold maxLen; omega, R, fun _ _ => rfl⟩
theorem eqRing_own {v v' : Value} {n : Nat} {p : Ps} {b b' : Nat} (hn : n ≤ 1048576) (w : World) (h : SpOwn w b v n p) (h' : SpOwn w b' v' n p) : Calls Try.prog 17 #[.agg #[v], .agg #[v']] w (BoolP true w) := by
  obtain ⟨ao, cap, rfl, hI⟩ := h.in
  obtain ⟨bo, cap', rfl, hI'⟩ := h'.in
  exact eqRing_any ao bo n cap cap' p hn w hI hI'
theorem OtherB.trans {h : Option Nat} {a b c : World} (k : OtherB h a b) (l : OtherB h b c) : OtherB h a c :=
  ⟨fun g hne hg => (l.1 g hne (Nat.lt_of_lt_of_le hg k.2.1)).trans (k.1 g hne hg), Nat.le_trans k.2.1 l.2.1, fun w0 hb H => l.2.2 w0 hb (k.2.2 w0 hb H)⟩
/-- 1, 2 and so on. -/
def mkP : Ps := fun k => ((k : Int) * 2 + 1, (k : Int) * 2 + 2)
theorem mkP_at (i : Nat) : spW mkP i = (i : Int) + 1 := by
  unfold spW mkP
  split
  · show ((i / 2 : Nat) : Int) * 2 + 1 = _
    omega
  · show ((i / 2 : Nat) : Int) * 2 + 2 = _
    omega
set_option maxRecDepth 100000 in
set_option maxHeartbeats 2000000 in
theorem markSpotS_any (v : Value) (n : Nat) (p : Ps) (base : Nat) (hn : n ≤ 1048576) (w : World) (hO : SpOwn w base v n p) : Calls Try.prog 45 #[v, .int .i64 1] w (fun e w' => e = .returned (.int .i64 ((n : Int) * 2 + 1)) ∧ SpOwn w' base v n mkP ∧ OtherB v.ownBlock w w') := by
  rcases hO with ⟨rfl, rfl⟩ | ⟨g, cap, f, rfl, hg, hc, hm, R, hf⟩
  · go_enter Try.func45, Try.ntmps45
    go_wp2_with fail
    go_loopw [1, 5] (fun o i wr => o = .int .i64 1 ∧ i = .int .i64 0 ∧ wr = w) (fun _ i _ => 0)
    case atStart => exact ⟨rfl, rfl, rfl⟩
    case round =>
      obtain ⟨rfl, rfl, rfl⟩ := hrel
      go_wp2
      go_ret
      exact ⟨rfl, .inl ⟨rfl, rfl⟩, OtherB.refl _ _⟩
  · have HR : Hid (w.rowIs g 77 (cap * 2) f ∧ ∀ i, i < n * 2 → f i = .int .i64 (spW p i)) := ⟨R, hf⟩
    clear R hf
    have hnI : (n : Int) ≤ 1048576 := by omega
    go_enter Try.func45, Try.ntmps45
    go_wp2_with fail
    go_loopw [1, 5] (fun o i wr => ∃ c : Nat, c ≤ n ∧ o = .int .i64 ((c : Int) * 2 + 1) ∧ i = .int .i64 c ∧ (∃ f, wr.rowIs g 77 (cap * 2) f ∧ (∀ i, i < n * 2 → ∃ z, f i = .int .i64 z) ∧ ∀ i, i < c * 2 → f i = .int .i64 ((i : Int) + 1)) ∧ OtherB (some g) w wr) (fun _ i _ => n - (intOf i).toNat)
    case atStart => exact ⟨0, by omega, rfl, rfl, ⟨f, HR.out.1, fun i hi => ⟨_, HR.out.2 i hi⟩, fun i hi => by omega⟩, OtherB.refl _ _⟩
    case round =>
      obtain ⟨c, hcn, rfl, rfl, ⟨f', R, hz, hd⟩, K⟩ := hrel
      by_cases hlt : c < n
      · have hcI : (c : Int) < n := by omega
        obtain ⟨z0, e0⟩ := hz (c * 2) (by omega)
        obtain ⟨z1, e1⟩ := hz (c * 2 + 1) (by omega)
        have o0 := R.cell (i := c * 2) (by omega)
        have o1 := R.cell (i := c * 2 + 1) (by omega)
        rw [e0] at o0
        rw [e1] at o1
        have f0 := R.frozen (c * 2); have f1 := R.frozen (c * 2 + 1)
        have RN := (R.set (c * 2) (.int .i64 ((c : Int) * 2 + 1))).set (c * 2 + 1) (.int .i64 ((c : Int) * 2 + 1 + 1))
        have KN := (K.set (c * 2) (.int .i64 ((c : Int) * 2 + 1))).set (c * 2 + 1) (.int .i64 ((c : Int) * 2 + 1 + 1))
        have RD : Hid (∃ f2, ((wr.setCell ⟨g, c * 2, none⟩ (.int .i64 ((c : Int) * 2 + 1))).setCell ⟨g, c * 2 + 1, none⟩ (.int .i64 ((c : Int) * 2 + 1 + 1))).rowIs g 77 (cap * 2) f2 ∧ (∀ i, i < n * 2 → ∃ z, f2 i = .int .i64 z) ∧ ∀ i, i < (c + 1) * 2 → f2 i = .int .i64 ((i : Int) + 1)) :=
          ⟨_, RN, fun i hi => by
            show ∃ z, (if i = c * 2 + 1 then _ else if i = c * 2 then _ else f' i) = Value.int .i64 z
            split
            · exact ⟨_, rfl⟩
            · split
              · exact ⟨_, rfl⟩
              · exact hz i hi, fun i hi => by
            show (if i = c * 2 + 1 then _ else if i = c * 2 then _ else f' i) = Value.int .i64 _
            by_cases h1 : i = c * 2 + 1
            · rw [if_pos h1, h1]; congr 1
            · rw [if_neg h1]
              by_cases h2 : i = c * 2
              · rw [if_pos h2, h2]; congr 1
              · rw [if_neg h2]; exact hd i (by omega)⟩
        clear R K hz hd e0 e1 RN
        go_wp2
        go_roundw
        case rel => exact ⟨c + 1, by omega, by go_num, by go_num, RD.out, KN⟩
        case measure => simp [intOf]; omega
      · obtain rfl : c = n := by omega
        have HF : Hid (∀ i, i < c * 2 → f' i = .int .i64 (spW mkP i)) := fun i hi => by rw [hd i hi, mkP_at]
        clear hz hd
        go_wp2
        go_ret
        exact ⟨rfl, .inr ⟨g, cap, f', rfl, hg, hc, hm, R, HF.out⟩, K⟩
set_option maxRecDepth 100000 in
set_option maxHeartbeats 2000000 in
theorem heldSpotS_any (v : Value) (n : Nat) (base : Nat) (hn : n ≤ 1048576) (w : World) (hO : SpOwn w base v n mkP) : Calls Try.prog 46 #[v, .int .i64 1] w (VP (.int .i64 ((n : Int) * 2 + 1)) w) := by
  obtain ⟨ao, cap, rfl, HI⟩ := hO.in
  have HR : Hid (SpIn w ao n mkP) := HI
  clear HI hO
  have hnI : (n : Int) ≤ 1048576 := by omega
  go_enter Try.func46, Try.ntmps46
  go_wp2_with fail
  go_loopw [1, 5] (fun o i wr => ∃ c : Nat, c ≤ n ∧ o = .int .i64 ((c : Int) * 2 + 1) ∧ i = .int .i64 c ∧ Below w.heap.size w wr) (fun _ i _ => n - (intOf i).toNat)
  case atStart => exact ⟨0, by omega, rfl, rfl, Below.refl _ _⟩
  case round =>
    obtain ⟨c, hcn, rfl, rfl, HB⟩ := hrel
    by_cases hlt : c < n
    · have hcI : (c : Int) < n := by omega
      obtain ⟨A, off, rfl, hA, h0, h1⟩ := HR.out.step HB c hlt
      have q0 : wr.cell? ⟨A, off + c * 2, none⟩ = some (.int .i64 ((c : Int) * 2 + 1)) := h0
      have q1 : wr.cell? ⟨A, off + c * 2 + 1, none⟩ = some (.int .i64 ((c : Int) * 2 + 1 + 1)) := by
        refine h1.trans ?_
        show some (Value.int .i64 ((c : Int) * 2 + 2)) = _
        congr 2
      clear h0 h1
      go_wp2
      go_roundw
      case rel => exact ⟨c + 1, by omega, by go_num, by go_num, HB⟩
      case measure => simp [intOf]; omega
    · obtain rfl : c = n := by omega
      go_wp2
      go_ret
      exact ⟨rfl, HB⟩
set_option maxRecDepth 100000 in
set_option maxHeartbeats 2000000 in
theorem markRing_any (v : Value) (n : Nat) (p : Ps) (base : Nat) (hn : n ≤ 1048576) (w : World) (hO : SpOwn w base v n p) : Calls Try.prog 18 #[.agg #[v], .int .i64 1] w (fun e w' => e = .returned (.int .i64 ((n : Int) * 2 + 1)) ∧ SpOwn w' base v n mkP ∧ OtherB v.ownBlock w w') := by
  obtain ⟨ao, cap, rfl, _⟩ := hO.in
  have hB0 : Below w.heap.size w (w.alloc (.cells #[.slice ao n cap] 35)) := (Below.refl _ _).alloc (Nat.le_refl _) _
  have K0 : OtherB (Value.slice ao n cap).ownBlock w (w.alloc (.cells #[.slice ao n cap] 35)) := (OtherB.refl _ w).step hB0
  have C := markSpotS_any (.slice ao n cap) n p base hn _ (hO.step hB0)
  clear hO
  go_enter Try.func18, Try.ntmps18
  go_wp2_with fail
  revert C K0
  generalize w.alloc (.cells #[.slice ao n cap] 35) = W
  intro K0 C
  refine C.mono ?_
  rintro e w1 ⟨rfl, HO, K⟩
  have HK : Hid (OtherB (Value.slice ao n cap).ownBlock w w1) := OtherB.trans K0 K
  have HOO : Hid (SpOwn w1 base (.slice ao n cap) n mkP) := HO
  clear HO K K0 C hB0
  go_wp2
  go_ret
  exact ⟨rfl, HOO.out, HK.out⟩
set_option maxRecDepth 100000 in
set_option maxHeartbeats 2000000 in
theorem heldRing_any (v : Value) (n : Nat) (base : Nat) (hn : n ≤ 1048576) (w : World) (hO : SpOwn w base v n mkP) : Calls Try.prog 19 #[.agg #[v], .int .i64 1] w (VP (.int .i64 ((n : Int) * 2 + 1)) w) := by
  obtain ⟨ao, cap, rfl, _⟩ := hO.in
  have hB0 : Below w.heap.size w (w.alloc (.cells #[.slice ao n cap] 35)) := (Below.refl _ _).alloc (Nat.le_refl _) _
  have C := heldSpotS_any (.slice ao n cap) n base hn _ (hO.step hB0)
  have hp : ¬ ((n : Int) * 2 + 1 < 0) := by omega
  clear hO
  go_enter Try.func19, Try.ntmps19
  go_wp2_with fail
  revert C hB0
  generalize w.alloc (.cells #[.slice ao n cap] 35) = W
  intro hB0 C
  refine C.mono ?_
  rintro e w1 ⟨rfl, hB⟩
  have HB := hB0.trans (hB.mono hB0.size)
  clear hB hB0 C
  go_wp2
  go_ret
  exact ⟨rfl, HB⟩
end Go.Proofs.Ythgodemncbmmgaa
