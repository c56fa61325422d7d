/- Part 11 of the walks that the proof leans on. -/
import Derived.Test.YtgfhhmmckneliaaRg10
import Derived.Test.YtgfhhmmckneliaaRg8
import Derived.Test.YtgfhhmmckneliaaRg3
import Derived.Test.YtgfhhmmckneliaaRows
import Derived.ProofKit
import Derived.Lib.SmallJoins
/- The region of spec.RingFault that asks how two sides meet: by what every operation keeps, in no order. -/
namespace Go.Proofs.Ytgfhhmmckneliaa
open Go.RowKit
def Six (W : World) (g : Nat) : Prop := ∃ v0 v1 v2 v3 v4 v5 : Value, Blk W g [v0, v1, v2, v3, v4, v5]
theorem Six.step {W W' : World} {g : Nat} (h : Six W g) (hB : Below W.heap.size W W') : Six W' g := by
  obtain ⟨v0, v1, v2, v3, v4, v5, h⟩ := h
  exact ⟨_, _, _, _, _, _, h.step hB⟩
theorem Six.set {W : World} {g g' : Nat} (h : Six W g) (j : Nat) (hj : j < 6) (u : Value) : Six (W.setCell ⟨g', j, none⟩ u) g := by
  obtain ⟨v0, v1, v2, v3, v4, v5, h⟩ := h
  by_cases hg : g = g'
  · subst hg
    have := h.setI j hj u
    rcases (show j = 0 ∨ j = 1 ∨ j = 2 ∨ j = 3 ∨ j = 4 ∨ j = 5 by omega) with rfl | rfl | rfl | rfl | rfl | rfl <;> exact ⟨_, _, _, _, _, _, this⟩
  · exact ⟨_, _, _, _, _, _, h.setO hg u⟩
def Lp6 (v : Value) : Prop := ∃ (f1 f2 f3 : Bool) (k1 k2 k3 : Option Addr) (m1 m2 m3 x1 x2 x3 : Nat), v = .agg #[.bool f1, .slice k1 m1 x1, .bool f2, .slice k2 m2 x2, .bool f3, .slice k3 m3 x3]
def slotOf : Nat → Nat
  | 0 => 64
  | 1 => 65
  | 2 => 66
  | 3 => 67
  | 4 => 68
  | 5 => 69
  | 6 => 70
  | 7 => 63
  | 8 => 71
  | 9 => 72
  | 10 => 73
  | 11 => 10
  | 12 => 11
  | 13 => 9
  | i + 14 => i + 200
def ValOf (ao : Option Addr) (n cap : Nat) (p : Ps) (c d B : Nat) : Nat → Value → World → Prop
  | 0, v, _ | 3, v, _ => v = .agg #[.slice ao n cap]
  | 1, v, _ => v = .int .i64 c
  | 4, v, _ => v = .int .i64 d
  | 2, v, _ => v = Sg (sdA n p c).1 (sdA n p c).2.1 (sdA n p c).2.2.1 (sdA n p c).2.2.2
  | 5, v, _ => v = Sg (sdA n p d).1 (sdA n p d).2.1 (sdA n p d).2.2.1 (sdA n p d).2.2.2
  | 6, v, _ | 7, v, _ => ∃ x y, Lp6 x ∧ Lp6 y ∧ v = .tuple #[.int .i64 (kdA n p c d), x, y]
  | 8, v, _ | 13, v, _ => v = .int .i64 (kdA n p c d)
  | 9, v, _ | 10, v, _ => Lp6 v
  | 11, v, W | 12, v, W => ∃ g, v = .pointer (some ⟨g, 0, none⟩) ∧ B ≤ g ∧ Six W g
  | _, _, _ => True
theorem ValOf.mono {ao : Option Addr} {n cap : Nat} {p : Ps} {c d B j : Nat} {v : Value} {W W' : World} (hS : ∀ g, Six W g → Six W' g) (h : ValOf ao n cap p c d B j v W) : ValOf ao n cap p c d B j v W' := by
  unfold ValOf at *
  split <;> simp only at h <;> first | exact h | (obtain ⟨g, h1, h2, h3⟩ := h; exact ⟨g, h1, h2, hS g h3⟩) | trivial
def InvJ (ao : Option Addr) (n cap : Nat) (p : Ps) (c d : Nat) (w0 : World) (a0 : Act) (l : Array Bool) (a : Act) (W : World) : Prop :=
  l.size = 16 ∧ a.tmps.size = a0.tmps.size ∧ a.defers = a0.defers ∧ (∀ e, e ∉ [64, 65, 66, 67, 68, 69, 70, 63, 71, 72, 73, 10, 11, 9] → a.tmps[e]? = a0.tmps[e]?) ∧ Below w0.heap.size w0 W ∧
    ∀ j, l.getD j false = true → ValOf ao n cap p c d w0.heap.size j (a.tmps.getD (slotOf j) undef) W
theorem slotOf_inj {i j : Nat} (hi : i < 14) (hne : j ≠ i) : slotOf i ≠ slotOf j := by
  rcases (show j < 14 ∨ 14 ≤ j by omega) with hj | hj
  · have H : ∀ i : Fin 14, ∀ j : Fin 14, j ≠ i → slotOf i ≠ slotOf j := by decide
    exact H ⟨i, hi⟩ ⟨j, hj⟩ (fun h => hne (by simpa using h))
  · obtain ⟨k, rfl⟩ := Nat.exists_eq_add_of_le' hj
    have H : ∀ i : Fin 14, slotOf i < 200 := by decide
    have := H ⟨i, hi⟩
    show slotOf i ≠ k + 200
    simp only at this
    omega
theorem getD_set_of {l : Array Bool} {i j : Nat} (h : (l.setIfInBounds i true).getD j false = true) (hne : j ≠ i) : l.getD j false = true := by
  rw [getD_set_ne false (Ne.symm hne)] at h
  exact h
theorem InvJ.put {ao : Option Addr} {n cap : Nat} {p : Ps} {c d : Nat} {w0 : World} {a0 : Act} {l : Array Bool} {a : Act} {W W' : World} (h : InvJ ao n cap p c d w0 a0 l a W) (i : Nat) (hi : i < 14) (h101 : a0.tmps.size = 101)
    (hW : Below w0.heap.size w0 W') (hS : ∀ g, Six W g → Six W' g) (v : Value) (hv : ValOf ao n cap p c d w0.heap.size i v W') : InvJ ao n cap p c d w0 a0 (l.setIfInBounds i true) (a.put (some (slotOf i)) v) W' := by
  obtain ⟨h1, h2, h3, h4, h5, h6⟩ := h
  have H : ∀ i : Fin 14, slotOf i < 101 ∧ slotOf i ∈ [64, 65, 66, 67, 68, 69, 70, 63, 71, 72, 73, 10, 11, 9] := by decide
  obtain ⟨hs, hm⟩ := H ⟨i, hi⟩
  simp only at hs hm
  refine ⟨by simpa using h1, by simpa [Act.put] using h2, h3, fun e he => ?_, hW, fun j hj => ?_⟩
  · have hne : slotOf i ≠ e := fun hh => he (hh ▸ hm)
    simp only [Act.put]
    rw [Array.getElem?_setIfInBounds_ne hne]
    exact h4 e he
  · by_cases hji : j = i
    · subst hji
      rw [put_getD_same (by omega)]
      exact hv
    · rw [put_getD_ne (slotOf_inj hi hji)]
      exact (h6 j (getD_set_of hj hji)).mono hS
theorem InvJ.world {ao : Option Addr} {n cap : Nat} {p : Ps} {c d : Nat} {w0 : World} {a0 : Act} {l : Array Bool} {a : Act} {W W' : World} (h : InvJ ao n cap p c d w0 a0 l a W) (i : Nat) (hi : 14 ≤ i)
    (hW : Below w0.heap.size w0 W') (hS : ∀ g, Six W g → Six W' g) : InvJ ao n cap p c d w0 a0 (l.setIfInBounds i true) a W' := by
  obtain ⟨h1, h2, h3, h4, h5, h6⟩ := h
  refine ⟨by simpa using h1, h2, h3, h4, hW, fun j hj => ?_⟩
  by_cases hji : j = i
  · subst hji
    obtain ⟨k, rfl⟩ := Nat.exists_eq_add_of_le' hi
    exact trivial
  · exact (h6 j (getD_set_of hj hji)).mono hS
theorem below_set6 {B g : Nat} {w W : World} {v0 v1 v2 v3 v4 v5 : Value} (h : Below B w W) (hg : B ≤ g) : Below B w ((((((W.setCell ⟨g, 0, none⟩ v0).setCell ⟨g, 1, none⟩ v1).setCell ⟨g, 2, none⟩ v2).setCell ⟨g, 3, none⟩ v3).setCell ⟨g, 4, none⟩ v4).setCell ⟨g, 5, none⟩ v5) :=
  (((((h.setCell (p := ⟨g, 0, none⟩) hg _).setCell (p := ⟨g, 1, none⟩) hg _).setCell (p := ⟨g, 2, none⟩) hg _).setCell (p := ⟨g, 3, none⟩) hg _).setCell (p := ⟨g, 4, none⟩) hg _).setCell (p := ⟨g, 5, none⟩) hg _
set_option maxRecDepth 100000 in
set_option maxHeartbeats 4000000 in
theorem reg25 {Q : Exit → Act → World → Prop} {ao : Option Addr} {n cap : Nat} {p : Ps} {c d B : Nat} {w0 : World} {a0 : Act} {id : Nat} {t0 t1 t2 t3 t4 t5 t6 t7 t8 t9 t10 t11 t12 t13 t14 t15 : TypeId} {q0 q1 q2 q3 q4 q5 q6 q7 q8 q9 q10 q11 q12 q13 q14 q15 : String} {A14 A15 : Array Edge}
    (hc : c < n) (hd : d < n) (hn : n ≤ 1048576) (hS : SpIn w0 ao n p) (i1 : In1 (sdA n p c).1) (i2 : In1 (sdA n p c).2.1) (i3 : In1 (sdA n p c).2.2.1) (i4 : In1 (sdA n p c).2.2.2) (j1 : In1 (sdA n p d).1) (j2 : In1 (sdA n p d).2.1) (j3 : In1 (sdA n p d).2.2.1) (j4 : In1 (sdA n p d).2.2.2)
    (hB : B < w0.heap.size) (hb : w0.cell? ⟨B, 0, none⟩ = some (.slice ao n cap))
    (h1 : a0.tmps[1]? = some (.pointer (some ⟨B, 0, none⟩))) (h7 : a0.tmps[7]? = some (.int .i64 c)) (h8 : a0.tmps[8]? = some (.int .i64 d)) (hz : a0.tmps.size = 101)
    (e1 : ({ on := 11, ground := Ground.data } : Edge) ∈ A14) (e2 : ({ on := 9, ground := Ground.data } : Edge) ∈ A14) (e3 : ({ on := 12, ground := Ground.data } : Edge) ∈ A15) (e4 : ({ on := 10, ground := Ground.data } : Edge) ∈ A15)
    (hQ : ∀ a W, a.tmps.size = a0.tmps.size → a.defers = a0.defers → (∀ e, e ∉ [64, 65, 66, 67, 68, 69, 70, 63, 71, 72, 73, 10, 11, 9] → a.tmps[e]? = a0.tmps[e]?) → a.tmps.getD 9 undef = .int .i64 (kdA n p c d) → Below w0.heap.size w0 W → Q .normal a W) :
    (Code.region id #[{ dst := some 64, op := Op.load 29 (Operand.tmp 1), type := t0, pos := q0, after := #[], guard := none },
    { dst := some 65, op := Op.move (Operand.tmp 7), type := t1, pos := q1, after := #[], guard := none },
    { dst := some 66, op := Op.call { callee := Callee.value (Operand.func 29), args := #[Operand.tmp 64, Operand.tmp 65], argTypes := #[29, 3] }, type := t2, pos := q2, after := #[{ on := 0, ground := Ground.data }, { on := 1, ground := Ground.data }], guard := none },
    { dst := some 67, op := Op.load 29 (Operand.tmp 1), type := t3, pos := q3, after := #[], guard := none },
    { dst := some 68, op := Op.move (Operand.tmp 8), type := t4, pos := q4, after := #[], guard := none },
    { dst := some 69, op := Op.call { callee := Callee.value (Operand.func 29), args := #[Operand.tmp 67, Operand.tmp 68], argTypes := #[29, 3] }, type := t5, pos := q5, after := #[{ on := 3, ground := Ground.data }, { on := 4, ground := Ground.data }, { on := 2, ground := Ground.chain }], guard := none },
    { dst := some 70, op := Op.call { callee := Callee.value (Operand.func 28), args := #[Operand.tmp 66, Operand.tmp 69], argTypes := #[51, 51] }, type := t6, pos := q6, after := #[{ on := 2, ground := Ground.data }, { on := 5, ground := Ground.data }, { on := 5, ground := Ground.chain }], guard := none },
    { dst := some 63, op := Op.move (Operand.tmp 70), type := t7, pos := q7, after := #[{ on := 6, ground := Ground.data }], guard := none },
    { dst := some 71, op := Op.extract (Operand.tmp 63) 0, type := t8, pos := q8, after := #[{ on := 7, ground := Ground.data }], guard := none },
    { dst := some 72, op := Op.extract (Operand.tmp 63) 1, type := t9, pos := q9, after := #[{ on := 7, ground := Ground.data }, { on := 13, ground := Ground.gcOnly Departure.lateStores }], guard := none },
    { dst := some 73, op := Op.extract (Operand.tmp 63) 2, type := t10, pos := q10, after := #[{ on := 7, ground := Ground.data }, { on := 14, ground := Ground.gcOnly Departure.lateStores }], guard := none },
    { dst := some 10, op := Op.alloc 47, type := t11, pos := q11, after := #[], guard := none },
    { dst := some 11, op := Op.alloc 47, type := t12, pos := q12, after := #[], guard := none },
    { dst := some 9, op := Op.assign (Operand.tmp 71), type := t13, pos := q13, after := #[{ on := 8, ground := Ground.data }, { on := 6, ground := Ground.chain }, { on := 0, ground := Ground.phase }, { on := 1, ground := Ground.phase }, { on := 2, ground := Ground.phase }, { on := 3, ground := Ground.phase }, { on := 4, ground := Ground.phase }, { on := 5, ground := Ground.phase }, { on := 6, ground := Ground.phase }, { on := 7, ground := Ground.phase }, { on := 8, ground := Ground.phase }, { on := 9, ground := Ground.textOnly Departure.lateStores }, { on := 10, ground := Ground.textOnly Departure.lateStores }, { on := 11, ground := Ground.phase }, { on := 12, ground := Ground.phase }], guard := none },
    { dst := none, op := Op.store 47 (Operand.tmp 10) (Operand.tmp 72), type := t14, pos := q14, after := A14, guard := none },
    { dst := none, op := Op.store 47 (Operand.tmp 11) (Operand.tmp 73), type := t15, pos := q15, after := A15, guard := none }] true).wp Try.prog Q a0 w0 := by
  refine wp_region_inv (by kernel_rfl) (InvJ ao n cap p c d w0 a0) ⟨by simp, rfl, rfl, fun _ _ => rfl, (Below.refl _ w0).drew, fun j hj => ?_⟩ ?_ ?_
  · exfalso
    rw [Array.getD_eq_getD_getElem?, Array.getElem?_replicate] at hj
    split at hj <;> simp at hj
  · intro l a W i o hJ hl ho hall
    have hJ' := hJ
    obtain ⟨z1, z2, z3, z4, z5, z6⟩ := hJ
    have g1 : a.tmps.getD 1 undef = .pointer (some ⟨B, 0, none⟩) := by rw [Array.getD_eq_getD_getElem?, z4 1 (by decide), h1]; rfl
    have g7 : a.tmps.getD 7 undef = .int .i64 c := by rw [Array.getD_eq_getD_getElem?, z4 7 (by decide), h7]; rfl
    have g8 : a.tmps.getD 8 undef = .int .i64 d := by rw [Array.getD_eq_getD_getElem?, z4 8 (by decide), h8]; rfl
    have hbW : W.cell? ⟨B, 0, none⟩ = some (.slice ao n cap) := by rw [z5.cell hB]; exact hb
    match i, ho with
    | 0, ho =>
      cases ho
      refine wpOp_of rfl rfl ?_
      have hK := fun (v : Value) (W' : World) hW hS hv => hJ'.put 0 (by omega) hz (W' := W') hW hS v hv
      clear ho hall hl hQ e1 e2 e3 e4
      generalize InvJ ao n cap p c d w0 a0 (l.setIfInBounds 0 true) = K at hK ⊢
      clear hJ' z1 z2 z3 z4 z6
      go_simp
      exact hK _ _ z5 (fun _ h => h) rfl
    | 1, ho =>
      cases ho
      refine wpOp_of rfl rfl ?_
      have hK := fun (v : Value) (W' : World) hW hS hv => hJ'.put 1 (by omega) hz (W' := W') hW hS v hv
      clear ho hall hl hQ e1 e2 e3 e4
      generalize InvJ ao n cap p c d w0 a0 (l.setIfInBounds 1 true) = K at hK ⊢
      clear hJ' z1 z2 z3 z4 z6
      go_simp
      exact hK _ _ z5 (fun _ h => h) rfl
    | 2, ho =>
      cases ho
      refine wpOp_of rfl rfl ?_
      have f0 : a.tmps.getD 64 undef = .agg #[.slice ao n cap] := z6 0 (hall { on := 0, ground := Ground.data } (by simp) rfl)
      have f1 : a.tmps.getD 65 undef = .int .i64 c := z6 1 (hall { on := 1, ground := Ground.data } (by simp) rfl)
      have hK := fun (v : Value) (W' : World) hW hS hv => hJ'.put 2 (by omega) hz (W' := W') hW hS v hv
      clear ho hall hl hQ e1 e2 e3 e4
      generalize InvJ ao n cap p c d w0 a0 (l.setIfInBounds 2 true) = K at hK ⊢
      clear hJ' z1 z2 z3 z4 z6
      go_simp
      refine (l5Side_any ao n cap p c hc hn W (hS.step z5)).mono ?_
      rintro e v1 ⟨rfl, hBv⟩
      exact hK _ _ (z5.trans (hBv.mono z5.size)) (fun g hg => hg.step hBv) rfl
    | 3, ho =>
      cases ho
      refine wpOp_of rfl rfl ?_
      have hK := fun (v : Value) (W' : World) hW hS hv => hJ'.put 3 (by omega) hz (W' := W') hW hS v hv
      clear ho hall hl hQ e1 e2 e3 e4
      generalize InvJ ao n cap p c d w0 a0 (l.setIfInBounds 3 true) = K at hK ⊢
      clear hJ' z1 z2 z3 z4 z6
      go_simp
      exact hK _ _ z5 (fun _ h => h) rfl
    | 4, ho =>
      cases ho
      refine wpOp_of rfl rfl ?_
      have hK := fun (v : Value) (W' : World) hW hS hv => hJ'.put 4 (by omega) hz (W' := W') hW hS v hv
      clear ho hall hl hQ e1 e2 e3 e4
      generalize InvJ ao n cap p c d w0 a0 (l.setIfInBounds 4 true) = K at hK ⊢
      clear hJ' z1 z2 z3 z4 z6
      go_simp
      exact hK _ _ z5 (fun _ h => h) rfl
    | 5, ho =>
      cases ho
      refine wpOp_of rfl rfl ?_
      have f3 : a.tmps.getD 67 undef = .agg #[.slice ao n cap] := z6 3 (hall { on := 3, ground := Ground.data } (by simp) rfl)
      have f4 : a.tmps.getD 68 undef = .int .i64 d := z6 4 (hall { on := 4, ground := Ground.data } (by simp) rfl)
      have hK := fun (v : Value) (W' : World) hW hS hv => hJ'.put 5 (by omega) hz (W' := W') hW hS v hv
      clear ho hall hl hQ e1 e2 e3 e4
      generalize InvJ ao n cap p c d w0 a0 (l.setIfInBounds 5 true) = K at hK ⊢
      clear hJ' z1 z2 z3 z4 z6
      go_simp
      refine (l5Side_any ao n cap p d hd hn W (hS.step z5)).mono ?_
      rintro e v1 ⟨rfl, hBv⟩
      exact hK _ _ (z5.trans (hBv.mono z5.size)) (fun g hg => hg.step hBv) rfl
    | 6, ho =>
      cases ho
      refine wpOp_of rfl rfl ?_
      have f2 : a.tmps.getD 66 undef = Sg (sdA n p c).1 (sdA n p c).2.1 (sdA n p c).2.2.1 (sdA n p c).2.2.2 := z6 2 (hall { on := 2, ground := Ground.data } (by simp) rfl)
      have f5 : a.tmps.getD 69 undef = Sg (sdA n p d).1 (sdA n p d).2.1 (sdA n p d).2.2.1 (sdA n p d).2.2.2 := z6 5 (hall { on := 5, ground := Ground.data } (by simp) rfl)
      have hK := fun (v : Value) (W' : World) hW hS hv => hJ'.put 6 (by omega) hz (W' := W') hW hS v hv
      clear ho hall hl hQ e1 e2 e3 e4
      generalize InvJ ao n cap p c d w0 a0 (l.setIfInBounds 6 true) = K at hK ⊢
      clear hJ' z1 z2 z3 z4 z6
      go_simp
      refine (l4Meet_any (sdA n p c).1 (sdA n p c).2.1 (sdA n p c).2.2.1 (sdA n p c).2.2.2 (sdA n p d).1 (sdA n p d).2.1 (sdA n p d).2.2.1 (sdA n p d).2.2.2 i1 i2 i3 i4 j1 j2 j3 j4 W).mono ?_
      rintro e v3 hmt
      obtain ⟨⟨f1, f2, f3, g1, g2, g3, k1, k2, k3, l1, l2, l3, m1, m2, m3, x1, x2, x3, y1, y2, y3, z1, z2, z3, rfl⟩, hBv⟩ := mtP_kind hmt
      exact hK _ _ (z5.trans (hBv.mono z5.size)) (fun g hg => hg.step hBv) ⟨_, _, ⟨_, _, _, _, _, _, _, _, _, _, _, _, rfl⟩, ⟨_, _, _, _, _, _, _, _, _, _, _, _, rfl⟩, rfl⟩
    | 7, ho =>
      cases ho
      refine wpOp_of rfl rfl ?_
      have f6 : ∃ x y, Lp6 x ∧ Lp6 y ∧ a.tmps.getD 70 undef = .tuple #[.int .i64 (kdA n p c d), x, y] := z6 6 (hall { on := 6, ground := Ground.data } (by simp) rfl)
      obtain ⟨x, y, hx, hy, he⟩ := f6
      have hK := fun (v : Value) (W' : World) hW hS hv => hJ'.put 7 (by omega) hz (W' := W') hW hS v hv
      clear ho hall hl hQ e1 e2 e3 e4
      generalize InvJ ao n cap p c d w0 a0 (l.setIfInBounds 7 true) = K at hK ⊢
      clear hJ' z1 z2 z3 z4 z6
      go_simp
      exact hK _ _ z5 (fun _ h => h) ⟨x, y, hx, hy, rfl⟩
    | 8, ho =>
      cases ho
      refine wpOp_of rfl rfl ?_
      have f7 : ∃ x y, Lp6 x ∧ Lp6 y ∧ a.tmps.getD 63 undef = .tuple #[.int .i64 (kdA n p c d), x, y] := z6 7 (hall { on := 7, ground := Ground.data } (by simp) rfl)
      obtain ⟨x, y, hx, hy, he⟩ := f7
      have hK := fun (v : Value) (W' : World) hW hS hv => hJ'.put 8 (by omega) hz (W' := W') hW hS v hv
      clear ho hall hl hQ e1 e2 e3 e4
      generalize InvJ ao n cap p c d w0 a0 (l.setIfInBounds 8 true) = K at hK ⊢
      clear hJ' z1 z2 z3 z4 z6
      go_simp
      exact hK _ _ z5 (fun _ h => h) rfl
    | 9, ho =>
      cases ho
      refine wpOp_of rfl rfl ?_
      have f7 : ∃ x y, Lp6 x ∧ Lp6 y ∧ a.tmps.getD 63 undef = .tuple #[.int .i64 (kdA n p c d), x, y] := z6 7 (hall { on := 7, ground := Ground.data } (by simp) rfl)
      obtain ⟨x, y, hx, hy, he⟩ := f7
      have hK := fun (v : Value) (W' : World) hW hS hv => hJ'.put 9 (by omega) hz (W' := W') hW hS v hv
      clear ho hall hl hQ e1 e2 e3 e4
      generalize InvJ ao n cap p c d w0 a0 (l.setIfInBounds 9 true) = K at hK ⊢
      clear hJ' z1 z2 z3 z4 z6
      go_simp
      exact hK _ _ z5 (fun _ h => h) hx
    | 10, ho =>
      cases ho
      refine wpOp_of rfl rfl ?_
      have f7 : ∃ x y, Lp6 x ∧ Lp6 y ∧ a.tmps.getD 63 undef = .tuple #[.int .i64 (kdA n p c d), x, y] := z6 7 (hall { on := 7, ground := Ground.data } (by simp) rfl)
      obtain ⟨x, y, hx, hy, he⟩ := f7
      have hK := fun (v : Value) (W' : World) hW hS hv => hJ'.put 10 (by omega) hz (W' := W') hW hS v hv
      clear ho hall hl hQ e1 e2 e3 e4
      generalize InvJ ao n cap p c d w0 a0 (l.setIfInBounds 10 true) = K at hK ⊢
      clear hJ' z1 z2 z3 z4 z6
      go_simp
      exact hK _ _ z5 (fun _ h => h) hy
    | 11, ho =>
      cases ho
      refine wpOp_of rfl rfl ?_
      have hK := fun (v : Value) (W' : World) hW hS hv => hJ'.put 11 (by omega) hz (W' := W') hW hS v hv
      clear ho hall hl hQ e1 e2 e3 e4
      generalize InvJ ao n cap p c d w0 a0 (l.setIfInBounds 11 true) = K at hK ⊢
      clear hJ' z1 z2 z3 z4 z6
      go_simp
      exact hK _ _ (z5.alloc z5.size _) (fun g hg => hg.step ((Below.refl _ _).alloc (Nat.le_refl _) _)) ⟨_, rfl, z5.size, _, _, _, _, _, _, Blk.new W [.bool false, .slice none 0 0, .bool false, .slice none 0 0, .bool false, .slice none 0 0] 47 rfl⟩
    | 12, ho =>
      cases ho
      refine wpOp_of rfl rfl ?_
      have hK := fun (v : Value) (W' : World) hW hS hv => hJ'.put 12 (by omega) hz (W' := W') hW hS v hv
      clear ho hall hl hQ e1 e2 e3 e4
      generalize InvJ ao n cap p c d w0 a0 (l.setIfInBounds 12 true) = K at hK ⊢
      clear hJ' z1 z2 z3 z4 z6
      go_simp
      exact hK _ _ (z5.alloc z5.size _) (fun g hg => hg.step ((Below.refl _ _).alloc (Nat.le_refl _) _)) ⟨_, rfl, z5.size, _, _, _, _, _, _, Blk.new W [.bool false, .slice none 0 0, .bool false, .slice none 0 0, .bool false, .slice none 0 0] 47 rfl⟩
    | 13, ho =>
      cases ho
      refine wpOp_of rfl rfl ?_
      have f8 : a.tmps.getD 71 undef = .int .i64 (kdA n p c d) := z6 8 (hall { on := 8, ground := Ground.data } (by simp) rfl)
      have hK := fun (v : Value) (W' : World) hW hS hv => hJ'.put 13 (by omega) hz (W' := W') hW hS v hv
      clear ho hall hl hQ e1 e2 e3 e4
      generalize InvJ ao n cap p c d w0 a0 (l.setIfInBounds 13 true) = K at hK ⊢
      clear hJ' z1 z2 z3 z4 z6
      go_simp
      exact hK _ _ z5 (fun _ h => h) rfl
    | 14, ho =>
      cases ho
      refine wpOp_of rfl rfl ?_
      have f11 : ∃ g, a.tmps.getD 10 undef = .pointer (some ⟨g, 0, none⟩) ∧ w0.heap.size ≤ g ∧ Six W g := z6 11 (hall _ e1 rfl)
      have f9 : Lp6 (a.tmps.getD 72 undef) := z6 9 (hall _ e2 rfl)
      obtain ⟨g, hg, hgB, v0, v1, v2, v3, v4, v5, G⟩ := f11
      obtain ⟨s1, s2, s3, k1, k2, k3, m1, m2, m3, x1, x2, x3, hx⟩ := f9
      have b0 := G.c 0 rfl
      have r0 := G.f 0 rfl
      have b1 := G.c 1 rfl
      have r1 := G.f 1 rfl
      have b2 := G.c 2 rfl
      have r2 := G.f 2 rfl
      have b3 := G.c 3 rfl
      have r3 := G.f 3 rfl
      have b4 := G.c 4 rfl
      have r4 := G.f 4 rfl
      have b5 := G.c 5 rfl
      have r5 := G.f 5 rfl
      have hlt := G.lt
      clear G
      have hK := fun (W' : World) hW hS => hJ'.world 14 (by omega) (W' := W') hW hS
      clear ho hall hl hQ e1 e2 e3 e4
      generalize InvJ ao n cap p c d w0 a0 (l.setIfInBounds 14 true) = K at hK ⊢
      clear hJ' z1 z2 z3 z4 z6
      go_simp
      exact hK _ (below_set6 z5 hgB) (fun g hg => (((((hg.set 0 (by omega) _).set 1 (by omega) _).set 2 (by omega) _).set 3 (by omega) _).set 4 (by omega) _).set 5 (by omega) _)
    | 15, ho =>
      cases ho
      refine wpOp_of rfl rfl ?_
      have f12 : ∃ g, a.tmps.getD 11 undef = .pointer (some ⟨g, 0, none⟩) ∧ w0.heap.size ≤ g ∧ Six W g := z6 12 (hall _ e3 rfl)
      have f10 : Lp6 (a.tmps.getD 73 undef) := z6 10 (hall _ e4 rfl)
      obtain ⟨g, hg, hgB, v0, v1, v2, v3, v4, v5, G⟩ := f12
      obtain ⟨s1, s2, s3, k1, k2, k3, m1, m2, m3, x1, x2, x3, hx⟩ := f10
      have b0 := G.c 0 rfl
      have r0 := G.f 0 rfl
      have b1 := G.c 1 rfl
      have r1 := G.f 1 rfl
      have b2 := G.c 2 rfl
      have r2 := G.f 2 rfl
      have b3 := G.c 3 rfl
      have r3 := G.f 3 rfl
      have b4 := G.c 4 rfl
      have r4 := G.f 4 rfl
      have b5 := G.c 5 rfl
      have r5 := G.f 5 rfl
      have hlt := G.lt
      clear G
      have hK := fun (W' : World) hW hS => hJ'.world 15 (by omega) (W' := W') hW hS
      clear ho hall hl hQ e1 e2 e3 e4
      generalize InvJ ao n cap p c d w0 a0 (l.setIfInBounds 15 true) = K at hK ⊢
      clear hJ' z1 z2 z3 z4 z6
      go_simp
      exact hK _ (below_set6 z5 hgB) (fun g hg => (((((hg.set 0 (by omega) _).set 1 (by omega) _).set 2 (by omega) _).set 3 (by omega) _).set 4 (by omega) _).set 5 (by omega) _)
    | i + 16, ho => simp at ho
  · intro l a W hJ hr
    obtain ⟨z1, z2, z3, z4, z5, z6⟩ := hJ
    have hl := listed_of hr [0, 1, 2, 3, 4, 5, 6, 7, 8, 11, 12, 13] [] (by simp) (by kernel_rfl) (by rw [z1]; decide) 13 (by simp)
    exact hQ a W z2 z3 z4 (z6 13 hl) z5
end Go.Proofs.Ytgfhhmmckneliaa

/- What is at fault in a ring: the model's walk. -/
namespace Go.Proofs.Ytgfhhmmckneliaa
open Go.RowKit
set_option maxRecDepth 100000 in
set_option maxHeartbeats 200000000 in
theorem specRingFault_any (ao : Option Addr) (n cap : Nat) (p : Ps) (hn : n ≤ 1048576) (w : World) (hS : SpIn w ao n p) : Calls Try.prog 9 #[.agg #[.slice ao n cap]] w (VP (.int .i64 (rgF n p)) w) := by
  have B0 := Blk.new w [.slice ao n cap] 29 rfl
  have HB0 : Below w.heap.size w (w.alloc (.cells #[.slice ao n cap] 29)) := (Below.refl _ w).alloc (Nat.le_refl _) _
  have HS0 := hS.step HB0
  have b0 := B0.c 0 rfl
  have hnI : (n : Int) ≤ 1048576 := by omega
  clear hS
  go_enter Try.func9, Try.ntmps9
  go_upto_region 1 with fail
  generalize (w.alloc (.cells #[.slice ao n cap] 29)) = W1 at *
  by_cases h1 : n < 3
  · have HO : Hid (rgF n p = 1) := by show _ = _; unfold rgF; rw [if_pos h1]
    have h1I : (n : Int) < 3 := by omega
    clear HS0 B0
    go_wp2
    go_ret
    exact ⟨by rw [HO.out]; rfl, HB0⟩
  by_cases h2 : 12 < n
  · have HO : Hid (rgF n p = 2) := by show _ = _; unfold rgF; rw [if_neg h1, if_pos h2]
    have h1I : (3 : Int) ≤ n := by omega
    have h2I : (12 : Int) < n := by omega
    clear HS0 B0
    go_wp2
    go_ret
    exact ⟨by rw [HO.out]; rfl, HB0⟩
  have h1I : (3 : Int) ≤ n := by omega
  have h2I : (n : Int) ≤ 12 := by omega
  have HS : Hid (SpIn W1 ao n p) := HS0
  clear HS0
  go_wp2_with fail
  clear b0
  go_loopw [4] (fun i wr => ∃ c : Nat, c ≤ n ∧ i = .int .i64 c ∧ (∀ j, j < c → spotOk (p j).1 (p j).2 = true) ∧ Below W1.heap.size W1 wr) (fun i _ => n - (intOf i).toNat)
  case atStart => exact ⟨0, by omega, rfl, fun j hj => by omega, Below.refl _ _⟩
  case round =>
    obtain ⟨c, hc, rfl, hall, HB⟩ := hrel
    have HA : Hid (∀ j, j < c → spotOk (p j).1 (p j).2 = true) := hall
    clear hall
    by_cases hcn : c < n
    · obtain ⟨A, off, rfl, hA, q0, q1⟩ := HS.out.step HB c hcn
      have hcI : (c : Int) < n := by omega
      have b0 := (B0.step HB).c 0 rfl
      go_wp2_with fail
      refine (specSpotOk_any (p c).1 (p c).2 _ rfl _).mono ?_
      rintro e w1 ⟨rfl, hB⟩
      replace HB := HB.trans (hB.mono HB.size)
      clear hB q0 q1 hA b0
      by_cases hk : spotOk (p c).1 (p c).2 = true
      · rw [hk]
        have HK : Hid (spotOk (p c).1 (p c).2 = true) := hk
        clear hk
        go_wp2
        go_roundw
        case rel => exact ⟨c + 1, by omega, by go_num, fun j hj => by
          rcases Nat.lt_or_ge j c with h | h
          · exact HA.out j h
          · obtain rfl : j = c := by omega
            exact HK.out, HB⟩
        case measure => simp [intOf]; omega
      · have HO : Hid (rgF n p = 3) := by show _ = _; unfold rgF; rw [if_neg h1, if_neg h2, if_pos (fun h => hk (h c hcn))]
        rw [Bool.eq_false_iff.2 hk]
        have HBF := HB0.trans (HB.mono HB0.size)
        clear hk
        go_wp2
        go_ret
        exact ⟨by rw [HO.out]; rfl, HBF⟩
    · obtain rfl : n = c := by omega
      have HB1 := HB0.trans (HB.mono HB0.size)
      have HS1 : Hid (SpIn wr ao n p) := HS.out.step HB
      have B1 := B0.step HB
      clear HS B0 HB
      go_wp2_with fail
      generalize wr = W2 at *
      go_loopw [5] (fun i wr => ∃ c : Nat, c ≤ n ∧ i = .int .i64 c ∧ (∀ j, j < c → ∀ k, k < j → p j ≠ p k) ∧ Below W2.heap.size W2 wr) (fun i _ => n - (intOf i).toNat)
      case atStart => exact ⟨0, by omega, rfl, fun j hj => by omega, Below.refl _ _⟩
      case round =>
        rename_i hrel
        obtain ⟨c, hc, rfl, hall, HB⟩ := hrel
        have HC : Hid (∀ j, j < c → ∀ k, k < j → p j ≠ p k) := hall
        clear hall
        by_cases hcn : c < n
        · have hcI : (c : Int) < n := by omega
          have HSo : Hid (SpIn wr ao n p) := HS1.out.step HB
          have HB4 := HB1.trans (HB.mono HB1.size)
          have B3 := B1.step HB
          have HBo := HB
          clear HB
          go_wp2_with fail
          generalize wr = W4 at *
          go_loopw [6] (fun i wr => ∃ d : Nat, d ≤ c ∧ i = .int .i64 d ∧ (∀ k, k < d → p c ≠ p k) ∧ Below W4.heap.size W4 wr) (fun i _ => c - (intOf i).toNat)
          case atStart => exact ⟨0, by omega, rfl, fun j hj => by omega, Below.refl _ _⟩
          case round =>
            rename_i hrel
            obtain ⟨d, hd, rfl, hall, HB⟩ := hrel
            have HE : Hid (∀ k, k < d → p c ≠ p k) := hall
            clear hall
            by_cases hdn : d < c
            · have hdI : (d : Int) < c := by omega
              have hdI2 : (d : Int) < n := by omega
              obtain ⟨A, off, rfl, hA, q0, q1⟩ := HSo.out.step HB c hcn
              obtain ⟨A', off', hao, -, m0, m1⟩ := HSo.out.step HB d (by omega)
              obtain ⟨rfl, rfl⟩ : A = A' ∧ off = off' := by simpa using hao
              have b0 := (B3.step HB).c 0 rfl
              have EQ := eqSp2 (p c).1 (p c).2 (p d).1 (p d).2
              have KS : (fun w' : World => w'.cell? ⟨w.heap.size, 0, none⟩ = some (.slice (some ⟨A, off, none⟩) n cap) ∧ w'.cell? ⟨A, off + c * 2, none⟩ = some (.int .i64 (p c).1) ∧ w'.cell? ⟨A, off + c * 2 + 1, none⟩ = some (.int .i64 (p c).2) ∧ w'.cell? ⟨A, off + d * 2, none⟩ = some (.int .i64 (p d).1) ∧ w'.cell? ⟨A, off + d * 2 + 1, none⟩ = some (.int .i64 (p d).2)) wr := ⟨b0, q0, q1, m0, m1⟩
              go_upto_region 17 with fail
              go_region_held3 (fun w' : World => w'.cell? ⟨w.heap.size, 0, none⟩ = some (.slice (some ⟨A, off, none⟩) n cap) ∧ w'.cell? ⟨A, off + c * 2, none⟩ = some (.int .i64 (p c).1) ∧ w'.cell? ⟨A, off + c * 2 + 1, none⟩ = some (.int .i64 (p c).2) ∧ w'.cell? ⟨A, off + d * 2, none⟩ = some (.int .i64 (p d).1) ∧ w'.cell? ⟨A, off + d * 2 + 1, none⟩ = some (.int .i64 (p d).2)) (exact KS) (fail)
              all_goals have HBD := HB.drew
              all_goals clear KS b0 q0 q1 m0 m1 EQ hao hA HB
              all_goals by_cases h : (p c).1 = (p d).1 ∧ (p c).2 = (p d).2
              all_goals first
                | (have HO : Hid (rgF n p = 4) := by
                     show _ = _
                     unfold rgF
                     rw [if_neg h1, if_neg h2, if_neg (fun hh => hh HA.out), if_pos (fun hh => hh c hcn d hdn (Prod.ext h.1 h.2))]
                   have d1 : (decide ((p c).1 = (p d).1) && decide ((p c).2 = (p d).2)) = true := by simp [h.1, h.2]
                   rw [d1]
                   have HBF := HB4.trans (HBD.mono HB4.size)
                   clear d1 h
                   go_wp2
                   go_ret
                   exact ⟨by rw [HO.out]; rfl, HBF⟩)
                | (have HH : Hid (p c ≠ p d) := fun e => h ⟨by rw [e], by rw [e]⟩
                   have d1 : (decide ((p c).1 = (p d).1) && decide ((p c).2 = (p d).2)) = false := by
                     rw [Bool.eq_false_iff]
                     intro hh
                     simp at hh
                     exact h hh
                   rw [d1]
                   clear d1 h
                   go_wp2
                   go_roundw)
              case rel => exact ⟨d + 1, by omega, by go_num, fun k hk => by
                rcases Nat.lt_or_ge k d with h | h
                · exact HE.out k h
                · obtain rfl : k = d := by omega
                  exact HH.out, HBD⟩
              case measure => simp [intOf]; omega
            · obtain rfl : c = d := by omega
              have HBF := HBo.trans (HB.mono HBo.size)
              clear HB HBo HB4 HSo B3
              go_wp2
              go_roundw
              case rel => exact ⟨c + 1, by omega, by go_num, fun j hj => by
                rcases Nat.lt_or_ge j c with h | h
                · exact HC.out j h
                · obtain rfl : j = c := by omega
                  exact HE.out, HBF⟩
              case measure => simp [intOf]; omega
        · obtain rfl : n = c := by omega
          have HB3 := HB1.trans (HB.mono HB1.size)
          have HS2 : Hid (SpIn wr ao n p) := HS1.out.step HB
          have B2 := B1.step HB
          clear HS1 B1 HB HB1
          go_wp2_with fail
          generalize wr = W3 at *
          go_loopw [7] (fun i wr => ∃ c : Nat, c ≤ n ∧ i = .int .i64 c ∧ (∀ j, j < c → ∀ k, k < j → bdB n p j k = false) ∧ Below W3.heap.size W3 wr) (fun i _ => n - (intOf i).toNat)
          case atStart => exact ⟨0, by omega, rfl, fun j hj => by omega, Below.refl _ _⟩
          case round =>
            rename_i hrel
            obtain ⟨c, hc, rfl, hall, HB⟩ := hrel
            have HD : Hid (∀ j, j < c → ∀ k, k < j → bdB n p j k = false) := hall
            clear hall
            by_cases hcn : c < n
            · have hcI : (c : Int) < n := by omega
              have HSo : Hid (SpIn wr ao n p) := HS2.out.step HB
              have HB4 := HB3.trans (HB.mono HB3.size)
              have B3 := B2.step HB
              have HBo := HB
              clear HB
              go_wp2_with fail
              generalize wr = W4 at *
              go_loopw [8] (fun i wr => ∃ d : Nat, d ≤ c ∧ i = .int .i64 d ∧ (∀ k, k < d → bdB n p c k = false) ∧ Below W4.heap.size W4 wr) (fun i _ => c - (intOf i).toNat)
              case atStart => exact ⟨0, by omega, rfl, fun j hj => by omega, Below.refl _ _⟩
              case round =>
                rename_i hrel
                obtain ⟨d, hd, rfl, hall, HB⟩ := hrel
                have HE : Hid (∀ k, k < d → bdB n p c k = false) := hall
                clear hall
                by_cases hdn : d < c
                · have hdI : (d : Int) < c := by omega
                  have HSr := HSo.out.step HB
                  have B4 := B3.step HB
                  obtain ⟨A, off, rfl, -, -, -⟩ := HSr c hcn
                  obtain ⟨i1, i2, i3, i4⟩ := in1_seg (side_ok HA.out HC.out (by omega) hcn)
                  obtain ⟨j1, j2, j3, j4⟩ := in1_seg (side_ok HA.out HC.out (by omega) (show d < n by omega))
                  have L1 := fun w h => l5Side_any (some ⟨A, off, none⟩) n cap p c hcn hn w h
                  have L2 := fun w h => l5Side_any (some ⟨A, off, none⟩) n cap p d (by omega) hn w h
                  have LM := l4Meet_any (sdA n p c).1 (sdA n p c).2.1 (sdA n p c).2.2.1 (sdA n p c).2.2.2 (sdA n p d).1 (sdA n p d).2.1 (sdA n p d).2.2.1 (sdA n p d).2.2.2 i1 i2 i3 i4 j1 j2 j3 j4
                  have hbs := bd_same HC.out (by omega) hcn hdn
                  have hkin : kdA n p c d = 0 ∨ kdA n p c d = 1 ∨ kdA n p c d = 2 := knd_in _ _ _ _ _ _ _ _
                  go_upto_region 25 with fail
                  go_cut [9] (fun m wx => m = .int .i64 (kdA n p c d) ∧ Below wr.heap.size wr wx)
                  case first =>
                    clear HE HD HB4 HSo HS2 HA HC hbs hkin L1 L2 LM
                    refine reg25 (c := c) (d := d) hcn (by omega) hn HSr i1 i2 i3 i4 j1 j2 j3 j4 (by have hz := HB3.size; have hz2 := HBo.size; first | exact B4.lt | omega) (B4.c 0 rfl) rfl rfl rfl rfl (by simp) (by simp) (by simp) (by simp) ?_
                    rintro ⟨tm, df⟩ Wz hz hdf hoff h9 hBz
                    simp only at hz hdf hoff h9
                    subst hdf
                    have htm := tmps_fold [64, 65, 66, 67, 68, 69, 70, 63, 71, 72, 73, 10, 11, 9] tm _ hz hoff
                    simp only [List.foldl, List.setIfInBounds_toArray, List.set_cons_zero, List.set_cons_succ, h9] at htm
                    clear hz hoff
                    generalize tm.getD 64 undef = u0, tm.getD 65 undef = u1, tm.getD 66 undef = u2, tm.getD 67 undef = u3, tm.getD 68 undef = u4, tm.getD 69 undef = u5, tm.getD 70 undef = u6, tm.getD 63 undef = u7, tm.getD 71 undef = u8, tm.getD 72 undef = u9, tm.getD 73 undef = u10, tm.getD 10 undef = u11, tm.getD 11 undef = u12 at htm
                    clear h9
                    subst htm
                    go_wp2_with fail
                    go_meet
                    exact ⟨rfl, hBz⟩
                  case rest =>
                    obtain ⟨hm, hBc⟩ := hcut
                    subst hm
                    have HB5 := HB.trans (hBc.mono HB.size)
                    clear hBc HB B4 HSr L1 L2 LM i1 i2 i3 i4 j1 j2 j3 j4
                    generalize kdA n p c d = z at *
                    have hs1 : IntKind.i64.wrap ((c : Int) - 1) = (c : Int) - 1 := by rw [IntKind.wrap_i64]; omega
                    have hs2 : IntKind.i64.wrap ((n : Int) - 1) = (n : Int) - 1 := by rw [IntKind.wrap_i64]; omega
                    have HBS : Hid (bdB n p c d = ((nxB n c d && !(decide (z = 1))) || (!(nxB n c d) && !(decide (z = 0))))) := hbs
                    clear hbs
                    have HBF := HB4.trans (HB5.mono HB4.size)
                    rcases (show (d + 1 = c) ∨ (d + 1 ≠ c ∧ d = 0 ∧ c + 1 = n) ∨ (d + 1 ≠ c ∧ d = 0 ∧ c + 1 ≠ n) ∨ (d + 1 ≠ c ∧ d ≠ 0) by omega) with hN1 | hN2 | hN3 | hN4
                    · have HX : Hid (nxB n c d = true) := by show _ = _; unfold nxB; simp; omega
                      have b1 : ((d : Int) == (c : Int) - 1) = true := beq_iff_eq.2 (by omega)
                      clear hN1
                      rcases hkin with rfl | rfl | rfl
                      · have HO : Hid (rgF n p = 5) := by
                          show _ = _
                          unfold rgF
                          rw [if_neg h1, if_neg h2, if_neg (fun hh => hh HA.out), if_neg (fun hh => hh HC.out), if_pos (fun hh => by
                            have e := hh c hcn d hdn
                            rw [HBS.out, HX.out] at e
                            simp at e)]
                        go_wp2
                        go_ret
                        exact ⟨by rw [HO.out]; rfl, HBF⟩
                      · have HN : Hid (bdB n p c d = false) := by show _ = _; rw [HBS.out, HX.out]; rfl
                        go_wp2
                        go_roundw
                        case rel => exact ⟨d + 1, by omega, by go_num, fun k hk => by
                          rcases Nat.lt_or_ge k d with h | h
                          · exact HE.out k h
                          · obtain rfl : k = d := by omega
                            exact HN.out, HB5⟩
                        case measure => simp [intOf]; omega
                      · have HO : Hid (rgF n p = 5) := by
                          show _ = _
                          unfold rgF
                          rw [if_neg h1, if_neg h2, if_neg (fun hh => hh HA.out), if_neg (fun hh => hh HC.out), if_pos (fun hh => by
                            have e := hh c hcn d hdn
                            rw [HBS.out, HX.out] at e
                            simp at e)]
                        go_wp2
                        go_ret
                        exact ⟨by rw [HO.out]; rfl, HBF⟩
                    · have HX : Hid (nxB n c d = true) := by show _ = _; unfold nxB; simp; omega
                      have b1 : ((d : Int) == (c : Int) - 1) = false := beq_eq_false_iff_ne.2 (by omega)
                      have b2 : ((d : Int) == 0) = true := beq_iff_eq.2 (by omega)
                      have b3 : ((c : Int) == (n : Int) - 1) = true := beq_iff_eq.2 (by omega)
                      clear hN2
                      rcases hkin with rfl | rfl | rfl
                      · have HO : Hid (rgF n p = 5) := by
                          show _ = _
                          unfold rgF
                          rw [if_neg h1, if_neg h2, if_neg (fun hh => hh HA.out), if_neg (fun hh => hh HC.out), if_pos (fun hh => by
                            have e := hh c hcn d hdn
                            rw [HBS.out, HX.out] at e
                            simp at e)]
                        go_wp2
                        go_ret
                        exact ⟨by rw [HO.out]; rfl, HBF⟩
                      · have HN : Hid (bdB n p c d = false) := by show _ = _; rw [HBS.out, HX.out]; rfl
                        go_wp2
                        go_roundw
                        case rel => exact ⟨d + 1, by omega, by go_num, fun k hk => by
                          rcases Nat.lt_or_ge k d with h | h
                          · exact HE.out k h
                          · obtain rfl : k = d := by omega
                            exact HN.out, HB5⟩
                        case measure => simp [intOf]; omega
                      · have HO : Hid (rgF n p = 5) := by
                          show _ = _
                          unfold rgF
                          rw [if_neg h1, if_neg h2, if_neg (fun hh => hh HA.out), if_neg (fun hh => hh HC.out), if_pos (fun hh => by
                            have e := hh c hcn d hdn
                            rw [HBS.out, HX.out] at e
                            simp at e)]
                        go_wp2
                        go_ret
                        exact ⟨by rw [HO.out]; rfl, HBF⟩
                    · have HX : Hid (nxB n c d = false) := by show _ = _; unfold nxB; rw [Bool.eq_false_iff]; intro hh; simp at hh; omega
                      have b1 : ((d : Int) == (c : Int) - 1) = false := beq_eq_false_iff_ne.2 (by omega)
                      have b2 : ((d : Int) == 0) = true := beq_iff_eq.2 (by omega)
                      have b3 : ((c : Int) == (n : Int) - 1) = false := beq_eq_false_iff_ne.2 (by omega)
                      clear hN3
                      rcases hkin with rfl | rfl | rfl
                      · have HN : Hid (bdB n p c d = false) := by show _ = _; rw [HBS.out, HX.out]; rfl
                        go_wp2
                        go_roundw
                        case rel => exact ⟨d + 1, by omega, by go_num, fun k hk => by
                          rcases Nat.lt_or_ge k d with h | h
                          · exact HE.out k h
                          · obtain rfl : k = d := by omega
                            exact HN.out, HB5⟩
                        case measure => simp [intOf]; omega
                      · have HO : Hid (rgF n p = 5) := by
                          show _ = _
                          unfold rgF
                          rw [if_neg h1, if_neg h2, if_neg (fun hh => hh HA.out), if_neg (fun hh => hh HC.out), if_pos (fun hh => by
                            have e := hh c hcn d hdn
                            rw [HBS.out, HX.out] at e
                            simp at e)]
                        go_wp2
                        go_ret
                        exact ⟨by rw [HO.out]; rfl, HBF⟩
                      · have HO : Hid (rgF n p = 5) := by
                          show _ = _
                          unfold rgF
                          rw [if_neg h1, if_neg h2, if_neg (fun hh => hh HA.out), if_neg (fun hh => hh HC.out), if_pos (fun hh => by
                            have e := hh c hcn d hdn
                            rw [HBS.out, HX.out] at e
                            simp at e)]
                        go_wp2
                        go_ret
                        exact ⟨by rw [HO.out]; rfl, HBF⟩
                    · have HX : Hid (nxB n c d = false) := by show _ = _; unfold nxB; rw [Bool.eq_false_iff]; intro hh; simp at hh; omega
                      have b1 : ((d : Int) == (c : Int) - 1) = false := beq_eq_false_iff_ne.2 (by omega)
                      have b2 : ((d : Int) == 0) = false := beq_eq_false_iff_ne.2 (by omega)
                      clear hN4
                      rcases hkin with rfl | rfl | rfl
                      · have HN : Hid (bdB n p c d = false) := by show _ = _; rw [HBS.out, HX.out]; rfl
                        go_wp2
                        go_roundw
                        case rel => exact ⟨d + 1, by omega, by go_num, fun k hk => by
                          rcases Nat.lt_or_ge k d with h | h
                          · exact HE.out k h
                          · obtain rfl : k = d := by omega
                            exact HN.out, HB5⟩
                        case measure => simp [intOf]; omega
                      · have HO : Hid (rgF n p = 5) := by
                          show _ = _
                          unfold rgF
                          rw [if_neg h1, if_neg h2, if_neg (fun hh => hh HA.out), if_neg (fun hh => hh HC.out), if_pos (fun hh => by
                            have e := hh c hcn d hdn
                            rw [HBS.out, HX.out] at e
                            simp at e)]
                        go_wp2
                        go_ret
                        exact ⟨by rw [HO.out]; rfl, HBF⟩
                      · have HO : Hid (rgF n p = 5) := by
                          show _ = _
                          unfold rgF
                          rw [if_neg h1, if_neg h2, if_neg (fun hh => hh HA.out), if_neg (fun hh => hh HC.out), if_pos (fun hh => by
                            have e := hh c hcn d hdn
                            rw [HBS.out, HX.out] at e
                            simp at e)]
                        go_wp2
                        go_ret
                        exact ⟨by rw [HO.out]; rfl, HBF⟩
                · obtain rfl : c = d := by omega
                  have HBF := HBo.trans (HB.mono HBo.size)
                  clear HB HBo HB4 HSo B3
                  go_wp2
                  go_roundw
                  case rel => exact ⟨c + 1, by omega, by go_num, fun j hj => by
                    rcases Nat.lt_or_ge j c with h | h
                    · exact HD.out j h
                    · obtain rfl : j = c := by omega
                      exact HE.out, HBF⟩
                  case measure => simp [intOf]; omega
            · obtain rfl : n = c := by omega
              have HO : Hid (rgF n p = 0) := by
                show _ = _
                unfold rgF
                rw [if_neg h1, if_neg h2, if_neg (fun hh => hh HA.out), if_neg (fun hh => hh HC.out), if_neg (fun hh => hh HD.out)]
              have HBF := HB3.trans (HB.mono HB3.size)
              clear HS2 B2 HB HB3 HA HC HD
              go_wp2
              go_ret
              exact ⟨by rw [HO.out]; rfl, HBF⟩
end Go.Proofs.Ytgfhhmmckneliaa

/- How spots and segments read as data, beside points: opened and shut. -/
namespace Go.Proofs.Ytgfhhmmckneliaa
open Go.ChangeShapes Go.WideShapes Go.ChangeAt Go.RowKit Go.Joins
abbrev Wf (x : Int) : Prop := (Lit.int .i64 x).wf = true
abbrev SpD {H : Type} (x y : Int) : DataW H := .agg [.lit (.int .i64 x), .lit (.int .i64 y)]
theorem trod_spot {H : Type} {enc : TypeId × Value → H} {w : World} {base : Nat} {spare : TypeId → Bool} {held : Bool} {n : Nat} {c0 c1 : Value} {y : DataW H × List MemPlace} (h : DataW.trod enc Try.prog w base spare held n 73 [c0, c1] = some y) :
    ∃ a b : Int, c0 = .int .i64 a ∧ c1 = .int .i64 b ∧ y = (SpD a b, []) ∧ Wf a ∧ Wf b := by
  obtain ⟨y0, y1, m, hx, _, h0, h1⟩ := trod_struct2 Try.underlying73 h
  obtain ⟨a, e0, rfl, wa⟩ := DataW.trod_int Try.underlying2 h0
  obtain ⟨b, e1, rfl, wb⟩ := DataW.trod_int Try.underlying2 h1
  have k : Try.prog.cellsOf 2 = 1 := by kernel_rfl
  simp [k] at e0 e1
  exact ⟨a, b, e0, e1, hx, wa, wb⟩
end Go.Proofs.Ytgfhhmmckneliaa

/- What the row of a law asks of the program as a whole, each by itself. -/
namespace Go.Proofs.Ytgfhhmmckneliaa
open Go.ChangeShapes Go.WideShapes Go.ChangeAt Go.RowKit Go.Joins
theorem jn_laid : laidOutB Try.pinned.checked.prog = true := by kernel_rfl
theorem jn_maps : mapsRowed Try.pinned.checked.prog = true := by kernel_rfl
theorem jn_enter : Try.pinned.checked.prog.mayEnter = true := by kernel_rfl
theorem jn_heard : Try.pinned.checked.prog.stopsHeard = true := by kernel_rfl
end Go.Proofs.Ytgfhhmmckneliaa
