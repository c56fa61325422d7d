/- Part 9 of the walks that the proof leans on. -/
import Derived.Test.YtibbjjlapglndaaPart8
import Derived.Test.YtibbjjlapglndaaPart6
import Derived.Laws.AppendOwn
/- Whether the sides of two rings meet: the model's region, by what each slot holds. -/
namespace Go.Proofs.Ytibbjjlapglndaa
open Go.RowKit
/-- The kind of meeting of a side of one ring and a side of another. -/
def kdX (n : Nat) (p : Ps) (m : Nat) (q : Ps) (i k : Nat) : Int := kndZ (sdA n p i).1 (sdA n p i).2.1 (sdA n p i).2.2.1 (sdA n p i).2.2.2 (sdA m q k).1 (sdA m q k).2.1 (sdA m q k).2.2.1 (sdA m q k).2.2.2
/-- Whether two rings meet. -/
def rmB (n : Nat) (p : Ps) (m : Nat) (q : Ps) : Bool := decide (¬ (∀ i, i < n → ∀ k, k < m → kdX n p m q i k = 0))
def VregMeet (ao bo : Option Addr) (n cap m cap2 : Nat) (p q : Ps) (c d : Nat) (B : Nat) : Nat → Value → World → Prop
  | 0, v, _ => v = .agg #[.slice ao n cap]
  | 1, v, _ => v = .int .i64 (c : Int)
  | 2, v, _ => v = Sg (sdA n p c).1 (sdA n p c).2.1 (sdA n p c).2.2.1 (sdA n p c).2.2.2
  | 3, v, _ => v = .agg #[.slice bo m cap2]
  | 4, v, _ => v = .int .i64 (d : Int)
  | 5, v, _ => v = Sg (sdA m q d).1 (sdA m q d).2.1 (sdA m q d).2.2.1 (sdA m q d).2.2.2
  | 6, v, _ => ∃ x y, Lp6 x ∧ Lp6 y ∧ v = .tuple #[.int .i64 (kdX n p m q c d), x, y]
  | 7, v, _ => ∃ x y, Lp6 x ∧ Lp6 y ∧ v = .tuple #[.int .i64 (kdX n p m q c d), x, y]
  | 8, v, _ => v = .int .i64 (kdX n p m q c d)
  | 9, v, _ => Lp6 v
  | 10, v, _ => Lp6 v
  | 11, v, W => ∃ g, v = .pointer (some ⟨g, 0, none⟩) ∧ B ≤ g ∧ BlkN W g 6
  | 12, v, W => ∃ g, v = .pointer (some ⟨g, 0, none⟩) ∧ B ≤ g ∧ BlkN W g 6
  | 13, v, _ => v = .int .i64 (kdX n p m q c d)
  | _, _, _ => True
theorem VregMeet.mono {ao bo : Option Addr} {n cap m cap2 : Nat} {p q : Ps} {c d : Nat} {B j : Nat} {v : Value} {W W2 : World} (hS : ∀ g k, BlkN W g k → BlkN W2 g k) (h : VregMeet ao bo n cap m cap2 p q c d B j v W) : VregMeet ao bo n cap m cap2 p q c d B j v W2 := by
  unfold VregMeet at *
  split <;> simp only at h <;> first | exact h | (obtain ⟨g, h1, h2, h3⟩ := h; exact ⟨g, h1, h2, hS g _ h3⟩) | trivial
set_option maxRecDepth 100000 in
set_option maxHeartbeats 4000000 in
theorem regMeet {Q : Exit → Act → World → Prop} {ao bo : Option Addr} {n cap m cap2 : Nat} {p q : Ps} {c d : Nat} {B1 B2 : Nat} {w0 : World} {a0 : Act} {id : Nat} {t0 t1 t2 t3 t4 t5 t6 t7 t8 t9 t10 t11 t12 t13 t14 t15 : TypeId} {q0 q1 q2 q3 q4 q5 q6 q7 q8 q9 q10 q11 q12 q13 q14 q15 : String}
    (hc : c < n) (hd : d < m) (hn : n ≤ 1048576) (hm : m ≤ 1048576) (hSp : SpIn w0 ao n p) (hSq : SpIn w0 bo m q) (i1 : In1 (sdA n p c).1) (i2 : In1 (sdA n p c).2.1) (i3 : In1 (sdA n p c).2.2.1) (i4 : In1 (sdA n p c).2.2.2) (j1 : In1 (sdA m q d).1) (j2 : In1 (sdA m q d).2.1) (j3 : In1 (sdA m q d).2.2.1) (j4 : In1 (sdA m q d).2.2.2) (h2 : a0.tmps[2]? = some (.pointer (some ⟨B1, 0, none⟩))) (h3 : a0.tmps[3]? = some (.pointer (some ⟨B2, 0, none⟩))) (h5 : a0.tmps[5]? = some (.int .i64 (c : Int))) (h6 : a0.tmps[6]? = some (.int .i64 (d : Int))) (k0 : w0.cell? ⟨B1, 0, none⟩ = some (.slice ao n cap)) (l0 : (⟨B1, 0, none⟩ : Addr).block < w0.heap.size) (k1 : w0.cell? ⟨B2, 0, none⟩ = some (.slice bo m cap2)) (l1 : (⟨B2, 0, none⟩ : Addr).block < w0.heap.size) (hz : a0.tmps.size = 37)
    (hQ : ∀ a W, a.tmps.size = a0.tmps.size → a.defers = a0.defers → (∀ e, e ∉ ([25, 26, 27, 28, 29, 30, 31, 24, 32, 33, 34, 8, 9, 7] : List Nat) → a.tmps[e]? = a0.tmps[e]?) → VregMeet ao bo n cap m cap2 p q c d w0.heap.size 13 (a.tmps.getD 7 undef) W → Below w0.heap.size w0 W → Q .normal a W) :
    (Code.region id #[{ dst := some 25, op := Op.load 45 (Operand.tmp 2), type := t0, pos := q0, after := #[], guard := none },
    { dst := some 26, op := Op.move (Operand.tmp 5), type := t1, pos := q1, after := #[], guard := none },
    { dst := some 27, op := Op.call { callee := Callee.value (Operand.func 28), args := #[Operand.tmp 25, Operand.tmp 26], argTypes := #[45, 3] }, type := t2, pos := q2, after := #[{ on := 0, ground := Ground.data }, { on := 1, ground := Ground.data }], guard := none },
    { dst := some 28, op := Op.load 45 (Operand.tmp 3), type := t3, pos := q3, after := #[], guard := none },
    { dst := some 29, op := Op.move (Operand.tmp 6), type := t4, pos := q4, after := #[], guard := none },
    { dst := some 30, op := Op.call { callee := Callee.value (Operand.func 28), args := #[Operand.tmp 28, Operand.tmp 29], argTypes := #[45, 3] }, type := t5, pos := q5, after := #[{ on := 3, ground := Ground.data }, { on := 4, ground := Ground.data }, { on := 2, ground := Ground.chain }], guard := none },
    { dst := some 31, op := Op.call { callee := Callee.value (Operand.func 27), args := #[Operand.tmp 27, Operand.tmp 30], argTypes := #[63, 63] }, type := t6, pos := q6, after := #[{ on := 2, ground := Ground.data }, { on := 5, ground := Ground.data }, { on := 5, ground := Ground.chain }], guard := none },
    { dst := some 24, op := Op.move (Operand.tmp 31), type := t7, pos := q7, after := #[{ on := 6, ground := Ground.data }], guard := none },
    { dst := some 32, op := Op.extract (Operand.tmp 24) 0, type := t8, pos := q8, after := #[{ on := 7, ground := Ground.data }], guard := none },
    { dst := some 33, op := Op.extract (Operand.tmp 24) 1, type := t9, pos := q9, after := #[{ on := 7, ground := Ground.data }, { on := 13, ground := Ground.gcOnly Departure.lateStores }], guard := none },
    { dst := some 34, op := Op.extract (Operand.tmp 24) 2, type := t10, pos := q10, after := #[{ on := 7, ground := Ground.data }, { on := 14, ground := Ground.gcOnly Departure.lateStores }], guard := none },
    { dst := some 8, op := Op.alloc 59, type := t11, pos := q11, after := #[], guard := none },
    { dst := some 9, op := Op.alloc 59, type := t12, pos := q12, after := #[], guard := none },
    { dst := some 7, op := Op.assign (Operand.tmp 32), type := t13, pos := q13, after := #[{ on := 8, ground := Ground.data }, { on := 6, ground := Ground.chain }, { on := 0, ground := Ground.phase }, { on := 1, ground := Ground.phase }, { on := 2, ground := Ground.phase }, { on := 3, ground := Ground.phase }, { on := 4, ground := Ground.phase }, { on := 5, ground := Ground.phase }, { on := 6, ground := Ground.phase }, { on := 7, ground := Ground.phase }, { on := 8, ground := Ground.phase }, { on := 9, ground := Ground.textOnly Departure.lateStores }, { on := 10, ground := Ground.textOnly Departure.lateStores }, { on := 11, ground := Ground.phase }, { on := 12, ground := Ground.phase }], guard := none },
    { dst := none, op := Op.store 59 (Operand.tmp 8) (Operand.tmp 33), type := t14, pos := q14, after := #[{ on := 11, ground := Ground.data }, { on := 9, ground := Ground.data }, { on := 13, ground := Ground.chain }, { on := 0, ground := Ground.phase }, { on := 1, ground := Ground.phase }, { on := 2, ground := Ground.phase }, { on := 3, ground := Ground.phase }, { on := 4, ground := Ground.phase }, { on := 5, ground := Ground.phase }, { on := 6, ground := Ground.phase }, { on := 7, ground := Ground.phase }, { on := 8, ground := Ground.phase }, { on := 9, ground := Ground.phase }, { on := 10, ground := Ground.textOnly Departure.lateStores }, { on := 11, ground := Ground.phase }, { on := 12, ground := Ground.phase }, { on := 13, ground := Ground.phase }], guard := none },
    { dst := none, op := Op.store 59 (Operand.tmp 9) (Operand.tmp 34), type := t15, pos := q15, after := #[{ on := 12, ground := Ground.data }, { on := 10, ground := Ground.data }, { on := 14, ground := Ground.chain }, { on := 0, ground := Ground.phase }, { on := 1, ground := Ground.phase }, { on := 2, ground := Ground.phase }, { on := 3, ground := Ground.phase }, { on := 4, ground := Ground.phase }, { on := 5, ground := Ground.phase }, { on := 6, ground := Ground.phase }, { on := 7, ground := Ground.phase }, { on := 8, ground := Ground.phase }, { on := 9, ground := Ground.phase }, { on := 10, ground := Ground.phase }, { on := 11, ground := Ground.phase }, { on := 12, ground := Ground.phase }, { on := 13, ground := Ground.phase }, { on := 14, ground := Ground.phase }], guard := none }] true).wp Try.prog Q a0 w0 := by
  have hS : distS [some 25, some 26, some 27, some 28, some 29, some 30, some 31, some 24, some 32, some 33, some 34, some 8, some 9, some 7, none, none] = true := rfl
  refine wp_region_q (by kernel_rfl) w0.heap.size [some 25, some 26, some 27, some 28, some 29, some 30, some 31, some 24, some 32, some 33, some 34, some 8, some 9, some 7, none, none] (VregMeet ao bo n cap m cap2 p q c d w0.heap.size) rfl ?_ ?_
  · intro Q l a W i o hJ hl ho hall
    have hJ2 := hJ
    obtain ⟨z1, z2, z3, z4, z5, z6, z7⟩ := hJ
    have g2 : a.tmps.getD 2 undef = .pointer (some ⟨B1, 0, none⟩) := by rw [Array.getD_eq_getD_getElem?, z4 2 (by decide), h2]; rfl
    have g3 : a.tmps.getD 3 undef = .pointer (some ⟨B2, 0, none⟩) := by rw [Array.getD_eq_getD_getElem?, z4 3 (by decide), h3]; rfl
    have g5 : a.tmps.getD 5 undef = .int .i64 (c : Int) := by rw [Array.getD_eq_getD_getElem?, z4 5 (by decide), h5]; rfl
    have g6 : a.tmps.getD 6 undef = .int .i64 (d : Int) := by rw [Array.getD_eq_getD_getElem?, z4 6 (by decide), h6]; rfl
    have c0 : W.cell? ⟨B1, 0, none⟩ = some (.slice ao n cap) := (z5.cell l0).trans k0
    have c1 : W.cell? ⟨B2, 0, none⟩ = some (.slice bo m cap2) := (z5.cell l1).trans k1
    match i, ho with
    | 0, ho =>
      cases ho
      refine wpOp_of rfl rfl ?_
      have hK := fun (v : Value) (W2 : World) hW hT hv => hJ2.put hS 0 25 rfl (by omega) (W' := W2) hW hT v hv
      clear ho hall hl hQ
      generalize InvQ w0.heap.size [some 25, some 26, some 27, some 28, some 29, some 30, some 31, some 24, some 32, some 33, some 34, some 8, some 9, some 7, none, none] (VregMeet ao bo n cap m cap2 p q c d w0.heap.size) w0 a0 (l.setIfInBounds 0 true) = K at hK ⊢
      clear hJ2 hS z1 z2 z3 z4 z6 z7
      go_simp
      exact hK _ _ z5 (fun _ _ h => h) rfl
    | 1, ho =>
      cases ho
      refine wpOp_of rfl rfl ?_
      have hK := fun (v : Value) (W2 : World) hW hT hv => hJ2.put hS 1 26 rfl (by omega) (W' := W2) hW hT v hv
      clear ho hall hl hQ
      generalize InvQ w0.heap.size [some 25, some 26, some 27, some 28, some 29, some 30, some 31, some 24, some 32, some 33, some 34, some 8, some 9, some 7, none, none] (VregMeet ao bo n cap m cap2 p q c d w0.heap.size) w0 a0 (l.setIfInBounds 1 true) = K at hK ⊢
      clear hJ2 hS z1 z2 z3 z4 z6 z7
      go_simp
      exact hK _ _ z5 (fun _ _ h => h) rfl
    | 2, ho =>
      cases ho
      refine wpOp_of rfl rfl ?_
      have f0 : (a.tmps.getD 25 undef) = .agg #[.slice ao n cap] := z6 0 25 (hall { on := 0, ground := Ground.data } (by simp) rfl) rfl
      have f1 : (a.tmps.getD 26 undef) = .int .i64 (c : Int) := z6 1 26 (hall { on := 1, ground := Ground.data } (by simp) rfl) rfl
      have hK := fun (v : Value) (W2 : World) hW hT hv => hJ2.put hS 2 27 rfl (by omega) (W' := W2) hW hT v hv
      clear ho hall hl hQ
      generalize InvQ w0.heap.size [some 25, some 26, some 27, some 28, some 29, some 30, some 31, some 24, some 32, some 33, some 34, some 8, some 9, some 7, none, none] (VregMeet ao bo n cap m cap2 p q c d w0.heap.size) w0 a0 (l.setIfInBounds 2 true) = K at hK ⊢
      clear hJ2 hS z1 z2 z3 z4 z6 z7
      go_simp
      refine (l5Side_any ao n cap p c hc hn W (hSp.step z5)).mono ?_
      rintro e v1 ⟨rfl, hBv⟩
      exact hK _ _ (z5.trans (hBv.mono z5.size)) (fun j v h => h.mono fun g k hg => hg.step hBv) rfl
    | 3, ho =>
      cases ho
      refine wpOp_of rfl rfl ?_
      have hK := fun (v : Value) (W2 : World) hW hT hv => hJ2.put hS 3 28 rfl (by omega) (W' := W2) hW hT v hv
      clear ho hall hl hQ
      generalize InvQ w0.heap.size [some 25, some 26, some 27, some 28, some 29, some 30, some 31, some 24, some 32, some 33, some 34, some 8, some 9, some 7, none, none] (VregMeet ao bo n cap m cap2 p q c d w0.heap.size) w0 a0 (l.setIfInBounds 3 true) = K at hK ⊢
      clear hJ2 hS z1 z2 z3 z4 z6 z7
      go_simp
      exact hK _ _ z5 (fun _ _ h => h) rfl
    | 4, ho =>
      cases ho
      refine wpOp_of rfl rfl ?_
      have hK := fun (v : Value) (W2 : World) hW hT hv => hJ2.put hS 4 29 rfl (by omega) (W' := W2) hW hT v hv
      clear ho hall hl hQ
      generalize InvQ w0.heap.size [some 25, some 26, some 27, some 28, some 29, some 30, some 31, some 24, some 32, some 33, some 34, some 8, some 9, some 7, none, none] (VregMeet ao bo n cap m cap2 p q c d w0.heap.size) w0 a0 (l.setIfInBounds 4 true) = K at hK ⊢
      clear hJ2 hS z1 z2 z3 z4 z6 z7
      go_simp
      exact hK _ _ z5 (fun _ _ h => h) rfl
    | 5, ho =>
      cases ho
      refine wpOp_of rfl rfl ?_
      have f3 : (a.tmps.getD 28 undef) = .agg #[.slice bo m cap2] := z6 3 28 (hall { on := 3, ground := Ground.data } (by simp) rfl) rfl
      have f4 : (a.tmps.getD 29 undef) = .int .i64 (d : Int) := z6 4 29 (hall { on := 4, ground := Ground.data } (by simp) rfl) rfl
      have hK := fun (v : Value) (W2 : World) hW hT hv => hJ2.put hS 5 30 rfl (by omega) (W' := W2) hW hT v hv
      clear ho hall hl hQ
      generalize InvQ w0.heap.size [some 25, some 26, some 27, some 28, some 29, some 30, some 31, some 24, some 32, some 33, some 34, some 8, some 9, some 7, none, none] (VregMeet ao bo n cap m cap2 p q c d w0.heap.size) w0 a0 (l.setIfInBounds 5 true) = K at hK ⊢
      clear hJ2 hS z1 z2 z3 z4 z6 z7
      go_simp
      refine (l5Side_any bo m cap2 q d hd hm W (hSq.step z5)).mono ?_
      rintro e v1 ⟨rfl, hBv⟩
      exact hK _ _ (z5.trans (hBv.mono z5.size)) (fun j v h => h.mono fun g k hg => hg.step hBv) rfl
    | 6, ho =>
      cases ho
      refine wpOp_of rfl rfl ?_
      have f2 : (a.tmps.getD 27 undef) = Sg (sdA n p c).1 (sdA n p c).2.1 (sdA n p c).2.2.1 (sdA n p c).2.2.2 := z6 2 27 (hall { on := 2, ground := Ground.data } (by simp) rfl) rfl
      have f5 : (a.tmps.getD 30 undef) = Sg (sdA m q d).1 (sdA m q d).2.1 (sdA m q d).2.2.1 (sdA m q d).2.2.2 := z6 5 30 (hall { on := 5, ground := Ground.data } (by simp) rfl) rfl
      have hK := fun (v : Value) (W2 : World) hW hT hv => hJ2.put hS 6 31 rfl (by omega) (W' := W2) hW hT v hv
      clear ho hall hl hQ
      generalize InvQ w0.heap.size [some 25, some 26, some 27, some 28, some 29, some 30, some 31, some 24, some 32, some 33, some 34, some 8, some 9, some 7, none, none] (VregMeet ao bo n cap m cap2 p q c d w0.heap.size) w0 a0 (l.setIfInBounds 6 true) = K at hK ⊢
      clear hJ2 hS z1 z2 z3 z4 z6 z7
      go_simp
      refine (l4Meet_any (sdA n p c).1 (sdA n p c).2.1 (sdA n p c).2.2.1 (sdA n p c).2.2.2 (sdA m q d).1 (sdA m q d).2.1 (sdA m q d).2.2.1 (sdA m q d).2.2.2 i1 i2 i3 i4 j1 j2 j3 j4 W).mono ?_
      rintro e v3 hmt
      obtain ⟨⟨f1, f2, f3, g1, g2, g3, k1, k2, k3, l1, l2, l3, m1, m2, m3, x1, x2, x3, y1, y2, y3, z1, z2, z3, rfl⟩, hBv⟩ := mtP_kind hmt
      exact hK _ _ (z5.trans (hBv.mono z5.size)) (fun j v h => h.mono fun g k hg => hg.step hBv) ⟨_, _, ⟨_, _, _, _, _, _, _, _, _, _, _, _, rfl⟩, ⟨_, _, _, _, _, _, _, _, _, _, _, _, rfl⟩, rfl⟩
    | 7, ho =>
      cases ho
      refine wpOp_of rfl rfl ?_
      have f6 : ∃ x y, Lp6 x ∧ Lp6 y ∧ (a.tmps.getD 31 undef) = .tuple #[.int .i64 (kdX n p m q c d), x, y] := z6 6 31 (hall { on := 6, ground := Ground.data } (by simp) rfl) rfl
      obtain ⟨x, y, hx, hy, he⟩ := f6
      have hK := fun (v : Value) (W2 : World) hW hT hv => hJ2.put hS 7 24 rfl (by omega) (W' := W2) hW hT v hv
      clear ho hall hl hQ
      generalize InvQ w0.heap.size [some 25, some 26, some 27, some 28, some 29, some 30, some 31, some 24, some 32, some 33, some 34, some 8, some 9, some 7, none, none] (VregMeet ao bo n cap m cap2 p q c d w0.heap.size) w0 a0 (l.setIfInBounds 7 true) = K at hK ⊢
      clear hJ2 hS z1 z2 z3 z4 z6 z7
      go_simp
      exact hK _ _ z5 (fun _ _ h => h) ⟨x, y, hx, hy, rfl⟩
    | 8, ho =>
      cases ho
      refine wpOp_of rfl rfl ?_
      have f7 : ∃ x y, Lp6 x ∧ Lp6 y ∧ (a.tmps.getD 24 undef) = .tuple #[.int .i64 (kdX n p m q c d), x, y] := z6 7 24 (hall { on := 7, ground := Ground.data } (by simp) rfl) rfl
      obtain ⟨x, y, hx, hy, he⟩ := f7
      have hK := fun (v : Value) (W2 : World) hW hT hv => hJ2.put hS 8 32 rfl (by omega) (W' := W2) hW hT v hv
      clear ho hall hl hQ
      generalize InvQ w0.heap.size [some 25, some 26, some 27, some 28, some 29, some 30, some 31, some 24, some 32, some 33, some 34, some 8, some 9, some 7, none, none] (VregMeet ao bo n cap m cap2 p q c d w0.heap.size) w0 a0 (l.setIfInBounds 8 true) = K at hK ⊢
      clear hJ2 hS z1 z2 z3 z4 z6 z7
      go_simp
      exact hK _ _ z5 (fun _ _ h => h) rfl
    | 9, ho =>
      cases ho
      refine wpOp_of rfl rfl ?_
      have f7 : ∃ x y, Lp6 x ∧ Lp6 y ∧ (a.tmps.getD 24 undef) = .tuple #[.int .i64 (kdX n p m q c d), x, y] := z6 7 24 (hall { on := 7, ground := Ground.data } (by simp) rfl) rfl
      obtain ⟨x, y, hx, hy, he⟩ := f7
      have hK := fun (v : Value) (W2 : World) hW hT hv => hJ2.put hS 9 33 rfl (by omega) (W' := W2) hW hT v hv
      clear ho hall hl hQ
      generalize InvQ w0.heap.size [some 25, some 26, some 27, some 28, some 29, some 30, some 31, some 24, some 32, some 33, some 34, some 8, some 9, some 7, none, none] (VregMeet ao bo n cap m cap2 p q c d w0.heap.size) w0 a0 (l.setIfInBounds 9 true) = K at hK ⊢
      clear hJ2 hS z1 z2 z3 z4 z6 z7
      go_simp
      exact hK _ _ z5 (fun _ _ h => h) hx
    | 10, ho =>
      cases ho
      refine wpOp_of rfl rfl ?_
      have f7 : ∃ x y, Lp6 x ∧ Lp6 y ∧ (a.tmps.getD 24 undef) = .tuple #[.int .i64 (kdX n p m q c d), x, y] := z6 7 24 (hall { on := 7, ground := Ground.data } (by simp) rfl) rfl
      obtain ⟨x, y, hx, hy, he⟩ := f7
      have hK := fun (v : Value) (W2 : World) hW hT hv => hJ2.put hS 10 34 rfl (by omega) (W' := W2) hW hT v hv
      clear ho hall hl hQ
      generalize InvQ w0.heap.size [some 25, some 26, some 27, some 28, some 29, some 30, some 31, some 24, some 32, some 33, some 34, some 8, some 9, some 7, none, none] (VregMeet ao bo n cap m cap2 p q c d w0.heap.size) w0 a0 (l.setIfInBounds 10 true) = K at hK ⊢
      clear hJ2 hS z1 z2 z3 z4 z6 z7
      go_simp
      exact hK _ _ z5 (fun _ _ h => h) hy
    | 11, ho =>
      cases ho
      refine wpOp_of rfl rfl ?_
      have hK := fun (v : Value) (W2 : World) hW hT hv => hJ2.put hS 11 8 rfl (by omega) (W' := W2) hW hT v hv
      clear ho hall hl hQ
      generalize InvQ w0.heap.size [some 25, some 26, some 27, some 28, some 29, some 30, some 31, some 24, some 32, some 33, some 34, some 8, some 9, some 7, none, none] (VregMeet ao bo n cap m cap2 p q c d w0.heap.size) w0 a0 (l.setIfInBounds 11 true) = K at hK ⊢
      clear hJ2 hS z1 z2 z3 z4 z6 z7
      go_simp
      exact hK _ _ (z5.alloc z5.size _) (fun j v h => h.mono fun g k hg => hg.step ((Below.refl _ _).alloc (Nat.le_refl _) _)) ⟨_, rfl, z5.size, _, rfl, Blk.new W [.bool false, .slice none 0 0, .bool false, .slice none 0 0, .bool false, .slice none 0 0] 59 rfl⟩
    | 12, ho =>
      cases ho
      refine wpOp_of rfl rfl ?_
      have hK := fun (v : Value) (W2 : World) hW hT hv => hJ2.put hS 12 9 rfl (by omega) (W' := W2) hW hT v hv
      clear ho hall hl hQ
      generalize InvQ w0.heap.size [some 25, some 26, some 27, some 28, some 29, some 30, some 31, some 24, some 32, some 33, some 34, some 8, some 9, some 7, none, none] (VregMeet ao bo n cap m cap2 p q c d w0.heap.size) w0 a0 (l.setIfInBounds 12 true) = K at hK ⊢
      clear hJ2 hS z1 z2 z3 z4 z6 z7
      go_simp
      exact hK _ _ (z5.alloc z5.size _) (fun j v h => h.mono fun g k hg => hg.step ((Below.refl _ _).alloc (Nat.le_refl _) _)) ⟨_, rfl, z5.size, _, rfl, Blk.new W [.bool false, .slice none 0 0, .bool false, .slice none 0 0, .bool false, .slice none 0 0] 59 rfl⟩
    | 13, ho =>
      cases ho
      refine wpOp_of rfl rfl ?_
      have f8 : (a.tmps.getD 32 undef) = .int .i64 (kdX n p m q c d) := z6 8 32 (hall { on := 8, ground := Ground.data } (by simp) rfl) rfl
      have hK := fun (v : Value) (W2 : World) hW hT hv => hJ2.put hS 13 7 rfl (by omega) (W' := W2) hW hT v hv
      clear ho hall hl hQ
      generalize InvQ w0.heap.size [some 25, some 26, some 27, some 28, some 29, some 30, some 31, some 24, some 32, some 33, some 34, some 8, some 9, some 7, none, none] (VregMeet ao bo n cap m cap2 p q c d w0.heap.size) w0 a0 (l.setIfInBounds 13 true) = K at hK ⊢
      clear hJ2 hS z1 z2 z3 z4 z6 z7
      go_simp
      exact hK _ _ z5 (fun _ _ h => h) rfl
    | 14, ho =>
      cases ho
      refine wpOp_of rfl rfl ?_
      have f11 : ∃ g, (a.tmps.getD 8 undef) = .pointer (some ⟨g, 0, none⟩) ∧ w0.heap.size ≤ g ∧ BlkN W g 6 := z6 11 8 (hall { on := 11, ground := Ground.data } (by simp) rfl) rfl
      obtain ⟨g, hg, hgB, vs, hvs, G⟩ := f11
      have f9 : Lp6 (a.tmps.getD 33 undef) := z6 9 33 (hall { on := 9, ground := Ground.data } (by simp) rfl) rfl
      obtain ⟨s1, s2, s3, k1, k2, k3, m1, m2, m3, x1, x2, x3, hx⟩ := f9
      have hK := fun (W2 : World) hW hT hv => hJ2.world 14 rfl (W' := W2) hW hT hv
      clear ho hall hl hQ
      generalize InvQ w0.heap.size [some 25, some 26, some 27, some 28, some 29, some 30, some 31, some 24, some 32, some 33, some 34, some 8, some 9, some 7, none, none] (VregMeet ao bo n cap m cap2 p q c d w0.heap.size) w0 a0 (l.setIfInBounds 14 true) = K at hK ⊢
      clear hJ2 hS z1 z2 z3 z4 z6 z7
      obtain ⟨v0, v1, v2, v3, v4, v5, rfl⟩ : ∃ v0 v1 v2 v3 v4 v5, vs = [v0, v1, v2, v3, v4, v5] := by match vs, hvs with | [v0, v1, v2, v3, v4, v5], _ => exact ⟨_, _, _, _, _, _, rfl⟩
      have b0 := G.c 0 rfl; have r0 := G.f 0 rfl
      have b1 := G.c 1 rfl; have r1 := G.f 1 rfl
      have b2 := G.c 2 rfl; have r2 := G.f 2 rfl
      have b3 := G.c 3 rfl; have r3 := G.f 3 rfl
      have b4 := G.c 4 rfl; have r4 := G.f 4 rfl
      have b5 := G.c 5 rfl; have r5 := G.f 5 rfl
      have hlt := G.lt
      clear G
      go_simp
      exact hK _ (below_set6 z5 hgB) (fun j v h => h.mono fun g2 k hg => (((((hg.set _ 0 _).set _ 1 _).set _ 2 _).set _ 3 _).set _ 4 _).set _ 5 _) trivial
    | 15, ho =>
      cases ho
      refine wpOp_of rfl rfl ?_
      have f12 : ∃ g, (a.tmps.getD 9 undef) = .pointer (some ⟨g, 0, none⟩) ∧ w0.heap.size ≤ g ∧ BlkN W g 6 := z6 12 9 (hall { on := 12, ground := Ground.data } (by simp) rfl) rfl
      obtain ⟨g, hg, hgB, vs, hvs, G⟩ := f12
      have f10 : Lp6 (a.tmps.getD 34 undef) := z6 10 34 (hall { on := 10, ground := Ground.data } (by simp) rfl) rfl
      obtain ⟨s1, s2, s3, k1, k2, k3, m1, m2, m3, x1, x2, x3, hx⟩ := f10
      have hK := fun (W2 : World) hW hT hv => hJ2.world 15 rfl (W' := W2) hW hT hv
      clear ho hall hl hQ
      generalize InvQ w0.heap.size [some 25, some 26, some 27, some 28, some 29, some 30, some 31, some 24, some 32, some 33, some 34, some 8, some 9, some 7, none, none] (VregMeet ao bo n cap m cap2 p q c d w0.heap.size) w0 a0 (l.setIfInBounds 15 true) = K at hK ⊢
      clear hJ2 hS z1 z2 z3 z4 z6 z7
      obtain ⟨v0, v1, v2, v3, v4, v5, rfl⟩ : ∃ v0 v1 v2 v3 v4 v5, vs = [v0, v1, v2, v3, v4, v5] := by match vs, hvs with | [v0, v1, v2, v3, v4, v5], _ => exact ⟨_, _, _, _, _, _, rfl⟩
      have b0 := G.c 0 rfl; have r0 := G.f 0 rfl
      have b1 := G.c 1 rfl; have r1 := G.f 1 rfl
      have b2 := G.c 2 rfl; have r2 := G.f 2 rfl
      have b3 := G.c 3 rfl; have r3 := G.f 3 rfl
      have b4 := G.c 4 rfl; have r4 := G.f 4 rfl
      have b5 := G.c 5 rfl; have r5 := G.f 5 rfl
      have hlt := G.lt
      clear G
      go_simp
      exact hK _ (below_set6 z5 hgB) (fun j v h => h.mono fun g2 k hg => (((((hg.set _ 0 _).set _ 1 _).set _ 2 _).set _ 3 _).set _ 4 _).set _ 5 _) trivial
    | i + 16, ho => simp at ho
  · intro l a W hJ hr
    obtain ⟨z1, z2, z3, z4, z5, z6, z7⟩ := hJ
    have hl := listed_of hr [0, 1, 2, 3, 4, 5, 6, 7, 8, 11, 12, 13] [] (by simp) (by kernel_rfl) (by rw [z1]; decide)
    exact hQ a W z2 z3 (fun e he => z4 e (by simpa using he)) (z6 13 7 (hl 13 (by simp)) rfl) z5
end Go.Proofs.Ytibbjjlapglndaa

/- The iterator over a ring's sides: the walk. -/
namespace Go.Proofs.Ytibbjjlapglndaa
open Go.RowKit Go.Shelf
attribute [local go_sem] Oper.semAt_some
set_option maxRecDepth 100000 in
set_option maxHeartbeats 4000000 in
theorem sides1_in (m n₁ l Bn : Nat) (ao : Option Addr) (n cap : Nat) (p : Ps) (hn3 : 3 ≤ n) (hn : n ≤ 12) (hok : ∀ i, i < n → spotOk (p i).1 (p i).2 = true) (hone : OneN n p) (J Jx : List (Fin n) → World → Prop)
    (hJ : ∀ s W W', J s W → Below W.heap.size W W' → J s W')
    (hY : ∀ pre x W, J pre W → pre.length < n → YieldAt Fence.wide (m - 1) Try.prog l (enS n p x) W fun e W' => (e = .returned (.bool true) ∧ J (pre ++ [x]) W' ∧ KpB n₁ Bn W W') ∨ (e = .returned (.bool false) ∧ Jx (pre ++ [x]) W'))
    (W : World) (hBl : Bn < W.heap.size) (hn1 : n₁ ≤ W.heap.size) (hBn : W.cell? ⟨Bn, 0, none⟩ = some (.slice ao n cap)) (hS : SpB n₁ W ao n p) (h0 : J [] W) :
    CallsIn Fence.wide m Try.prog 59 #[.func (.yield l) #[] #[], .pointer (some ⟨Bn, 0, none⟩)] W fun e W' => (∃ v, e = .returned v) ∧ ((∃ ys, ys = List.finRange n ∧ J ys W') ∨ (∃ pre, pre <+: List.finRange n ∧ Jx pre W')) := by
  refine callsIn_of_wp Try.func59 rfl trivial ?_ rfl
  simp only [Try.ntmps59, List.size_toArray, List.length_cons, List.length_nil, Nat.reduceAdd, Nat.reduceSub, Array.replicate_succ, Array.replicate_zero, List.push_toArray, List.append_toArray, List.nil_append, List.cons_append]
  have hnI : (n : Int) ≤ 12 := by omega
  gi_wp2
  gi_loopw [10] (fun i wr => ∃ c : Nat, c ≤ n ∧ i = .int .i64 c ∧ J (upTo n c) wr ∧ KpB n₁ Bn W wr) (fun i _ => n - (intOf i).toNat)
  case atStart => exact ⟨0, by omega, rfl, h0, ⟨Nat.le_refl _, fun _ _ => rfl, rfl⟩⟩
  case round =>
    obtain ⟨c, hc, rfl, hj, hk⟩ := hrel
    by_cases hcn : c < n
    · have hSr := hS.keep hk.low
      have hbox := (World.cell?_of_block (a := ⟨Bn, 0, none⟩) hk.box).trans hBn
      obtain ⟨A, off, rfl, hA, q0, q1⟩ := hSr c hcn
      have hcI : (c : Int) < n := by omega
      have hsz : W.heap.size ≤ wr.heap.size := hk.size
      have hB2 : Below wr.heap.size wr (wr.alloc (.cells #[.int .i64 (p c).1, .int .i64 (p c).2] 54)) := (Below.refl _ _).alloc (Nat.le_refl _) _
      have Bs := Blk.new wr [.int .i64 (p c).1, .int .i64 (p c).2] 54 rfl
      have hjA := hJ _ _ _ hj hB2
      have hkA := hk.trans (KpB.of hB2 (by omega) (by omega))
      have hboxA := (hB2.cell (p := ⟨Bn, 0, none⟩) (show Bn < wr.heap.size by omega)).trans hbox
      have SA := fun w h => spotAfter_any (some ⟨A, off, none⟩) n cap p c hcn (by omega) w h
      have SO := segOf_side hok hone hn3 hcn
      have hSI : SpIn (wr.alloc (.cells #[.int .i64 (p c).1, .int .i64 (p c).2] 54)) (some ⟨A, off, none⟩) n p := (hSr.high (by omega)).step hB2
      gi_wp2
      have hBW : Bn < (wr.alloc (.cells #[.int .i64 (p c).1, .int .i64 (p c).2] 54)).heap.size := Nat.lt_of_lt_of_le (show Bn < wr.heap.size by omega) hB2.size
      generalize (wr.alloc (.cells #[.int .i64 (p c).1, .int .i64 (p c).2] 54)) = W2 at *
      refine wpIn_wide.2 ?_
      go_cut [5] (fun q wx => ∃ g, q = .pointer (some ⟨g, 0, none⟩) ∧ Blk wx g [.int .i64 (sdA n p c).1, .int .i64 (sdA n p c).2.1, .int .i64 (sdA n p c).2.2.1, .int .i64 (sdA n p c).2.2.2] ∧ Below W2.heap.size W2 wx)
      case first =>
        have H0 : Below W2.heap.size W2 W2 := Below.refl _ _
        have HK : ∀ V, Below W2.heap.size W2 V → (fun w' : World => w'.cell? ⟨wr.heap.size, 0, none⟩ = some (.int .i64 (p c).1) ∧ w'.cell? ⟨wr.heap.size, 1, none⟩ = some (.int .i64 (p c).2) ∧ w'.cell? ⟨Bn, 0, none⟩ = some (.slice (some ⟨A, off, none⟩) n cap)) V := fun V h => ⟨(Bs.step h).c 0 rfl, (Bs.step h).c 1 rfl, (h.cell (p := ⟨Bn, 0, none⟩) hBW).trans hboxA⟩
        clear hjA hkA hY hJ hj hk h0
        go_region_held3 (fun w' : World => w'.cell? ⟨wr.heap.size, 0, none⟩ = some (.int .i64 (p c).1) ∧ w'.cell? ⟨wr.heap.size, 1, none⟩ = some (.int .i64 (p c).2) ∧ w'.cell? ⟨Bn, 0, none⟩ = some (.slice (some ⟨A, off, none⟩) n cap)) (refine HK _ ?_ <;> repeat (first | (with_reducible exact H0) | (with_reducible refine Below.drew ?_) | (with_reducible refine Below.alloc ?_ (by first | exact H0.size | simp) _) | (with_reducible refine Below.setCell ?_ (by first | exact H0.size | exact hgl | exact Nat.le_refl _ | simp) _)))
          (first
            | (go_at_call 61; refine (SA _ (hSI.step (by first | (with_reducible exact H0) | (with_reducible exact H0.drew) | (with_reducible exact H0.alloc H0.size _) | (with_reducible exact (H0.alloc H0.size _).drew)))).mono ?_; rintro e v1 ⟨rfl, hB⟩; (first | (have Hn : Below W2.heap.size W2 v1 := (by with_reducible exact H0.trans (hB.mono H0.size)); (try (have G1 := G0.step hB; clear G0; have G0 := G1; clear G1; have j0 := G0.c 0 rfl; have j1 := G0.c 1 rfl; have j2 := G0.c 2 rfl; have j3 := G0.c 3 rfl; have f0 := G0.f 0 rfl; have f1 := G0.f 1 rfl; have f2 := G0.f 2 rfl; have f3 := G0.f 3 rfl; have jl := G0.lt))) | (have Hn : Below W2.heap.size W2 v1 := (by with_reducible exact H0.drew.trans (hB.mono H0.drew.size)); (try (have G1 := G0.drew.step hB; clear G0; have G0 := G1; clear G1; have j0 := G0.c 0 rfl; have j1 := G0.c 1 rfl; have j2 := G0.c 2 rfl; have j3 := G0.c 3 rfl; have f0 := G0.f 0 rfl; have f1 := G0.f 1 rfl; have f2 := G0.f 2 rfl; have f3 := G0.f 3 rfl; have jl := G0.lt))) | (have Hn : Below W2.heap.size W2 v1 := (by with_reducible exact (H0.alloc H0.size _).trans (hB.mono (H0.alloc H0.size _).size)); have G0 := (Blk.new _ [.int .i64 0, .int .i64 0, .int .i64 0, .int .i64 0] _ rfl).step hB; have hgl : W2.heap.size ≤ _ := H0.size; have j0 := G0.c 0 rfl; have j1 := G0.c 1 rfl; have j2 := G0.c 2 rfl; have j3 := G0.c 3 rfl; have f0 := G0.f 0 rfl; have f1 := G0.f 1 rfl; have f2 := G0.f 2 rfl; have f3 := G0.f 3 rfl; have jl := G0.lt) | (have Hn : Below W2.heap.size W2 v1 := (by with_reducible exact (H0.alloc H0.size _).drew.trans (hB.mono (H0.alloc H0.size _).drew.size)); have G0 := (Blk.new _ [.int .i64 0, .int .i64 0, .int .i64 0, .int .i64 0] _ rfl).drew.step hB; have hgl : W2.heap.size ≤ _ := H0.size; have j0 := G0.c 0 rfl; have j1 := G0.c 1 rfl; have j2 := G0.c 2 rfl; have j3 := G0.c 3 rfl; have f0 := G0.f 0 rfl; have f1 := G0.f 1 rfl; have f2 := G0.f 2 rfl; have f3 := G0.f 3 rfl; have jl := G0.lt)); clear hB H0; have H0 := Hn; clear Hn)
            | (go_at_call 60; refine (SO _).mono ?_; rintro e v2 ⟨rfl, hB⟩; (first | (have Hn : Below W2.heap.size W2 v2 := (by with_reducible exact H0.trans (hB.mono H0.size)); (try (have G1 := G0.step hB; clear G0; have G0 := G1; clear G1; have j0 := G0.c 0 rfl; have j1 := G0.c 1 rfl; have j2 := G0.c 2 rfl; have j3 := G0.c 3 rfl; have f0 := G0.f 0 rfl; have f1 := G0.f 1 rfl; have f2 := G0.f 2 rfl; have f3 := G0.f 3 rfl; have jl := G0.lt))) | (have Hn : Below W2.heap.size W2 v2 := (by with_reducible exact H0.drew.trans (hB.mono H0.drew.size)); (try (have G1 := G0.drew.step hB; clear G0; have G0 := G1; clear G1; have j0 := G0.c 0 rfl; have j1 := G0.c 1 rfl; have j2 := G0.c 2 rfl; have j3 := G0.c 3 rfl; have f0 := G0.f 0 rfl; have f1 := G0.f 1 rfl; have f2 := G0.f 2 rfl; have f3 := G0.f 3 rfl; have jl := G0.lt))) | (have Hn : Below W2.heap.size W2 v2 := (by with_reducible exact (H0.alloc H0.size _).trans (hB.mono (H0.alloc H0.size _).size)); have G0 := (Blk.new _ [.int .i64 0, .int .i64 0, .int .i64 0, .int .i64 0] _ rfl).step hB; have hgl : W2.heap.size ≤ _ := H0.size; have j0 := G0.c 0 rfl; have j1 := G0.c 1 rfl; have j2 := G0.c 2 rfl; have j3 := G0.c 3 rfl; have f0 := G0.f 0 rfl; have f1 := G0.f 1 rfl; have f2 := G0.f 2 rfl; have f3 := G0.f 3 rfl; have jl := G0.lt) | (have Hn : Below W2.heap.size W2 v2 := (by with_reducible exact (H0.alloc H0.size _).drew.trans (hB.mono (H0.alloc H0.size _).drew.size)); have G0 := (Blk.new _ [.int .i64 0, .int .i64 0, .int .i64 0, .int .i64 0] _ rfl).drew.step hB; have hgl : W2.heap.size ≤ _ := H0.size; have j0 := G0.c 0 rfl; have j1 := G0.c 1 rfl; have j2 := G0.c 2 rfl; have j3 := G0.c 3 rfl; have f0 := G0.f 0 rfl; have f1 := G0.f 1 rfl; have f2 := G0.f 2 rfl; have f3 := G0.f 3 rfl; have jl := G0.lt)); clear hB H0; have H0 := Hn; clear Hn))
        all_goals go_wp2_with fail
        all_goals go_meet
        all_goals first
          | (with_reducible exact ⟨_, rfl, Blk.new _ [.int .i64 (sdA n p c).1, .int .i64 (sdA n p c).2.1, .int .i64 (sdA n p c).2.2.1, .int .i64 (sdA n p c).2.2.2] _ rfl, H0.alloc H0.size _⟩)
          | exact ⟨_, rfl, (((G0.setI 0 (by simp) _).setI 1 (by simp) _).setI 2 (by simp) _).setI 3 (by simp) _, (((H0.setCell (by first | exact hgl | exact Nat.le_refl _) _).setCell (by first | exact hgl | exact Nat.le_refl _) _).setCell (by first | exact hgl | exact Nat.le_refl _) _).setCell (by first | exact hgl | exact Nat.le_refl _) _⟩
      case rest =>
        obtain ⟨g, hq, BG, hB⟩ := hcut
        subst hq
        have hsz2 := hB.size
        have hkN := hkA.trans (KpB.of hB (Nat.le_trans hn1 hkA.size) hBW)
        obtain ⟨fn, tmps, assign, body, hy, hR⟩ := hY (upTo n c) ⟨c, hcn⟩ _ (hJ _ _ _ hjA hB) (by rw [upTo_len hc]; exact hcn)
        unfold enS at hy
        dsimp only at hy
        have g0 := BG.c 0 rfl; have g1 := BG.c 1 rfl; have g2 := BG.c 2 rfl; have g3 := BG.c 3 rfl
        gi_wp2
        refine ⟨fun h => absurd h (by simp [Fence.wide]), hR.mono ?_⟩
        rintro e W3 (⟨rfl, hJ3, hk3⟩ | ⟨rfl, hJx3⟩)
        · gi_wp2
          go_roundw
          case rel => exact ⟨c + 1, by omega, by go_num, by rw [upTo_succ hcn]; exact hJ3, hkN.trans hk3⟩
          case measure => simp [intOf]; omega
        · gi_wp2
          refine bodyPost_ret (results_none rfl _ _ _) rfl ?_
          exact ⟨⟨_, rfl⟩, .inr ⟨_, by rw [← upTo_succ hcn]; exact List.take_prefix _ _, hJx3⟩⟩
    · obtain rfl : c = n := by omega
      gi_wp2
      go_end0
      exact ⟨⟨_, rfl⟩, .inl ⟨_, upTo_all c, hj⟩⟩
end Go.Proofs.Ytibbjjlapglndaa

/- The iterator over a ring's sides, and whether a ring crosses itself: the program's walk. -/
namespace Go.Proofs.Ytibbjjlapglndaa
open Go.RowKit Go.Shelf
attribute [local go_sem] Oper.semAt_some
theorem sides_any (ao : Option Addr) (n cap : Nat) (w : World) : Calls Try.prog 46 #[.agg #[.slice ao n cap]] w (fun e w' => e = .returned (.func (.func 59) #[] #[.pointer (some ⟨w.heap.size, 0, none⟩)]) ∧ w' = w.alloc (.cells #[.slice ao n cap] 45)) := by
  go_enter Try.func46, Try.ntmps46
  go_wp2
  go_ret
  exact ⟨rfl, rfl⟩
theorem sides_stops (m n₁ Bn : Nat) (ao : Option Addr) (n cap : Nat) (p : Ps) (hn3 : 3 ≤ n) (hn : n ≤ 12) (hok : ∀ i, i < n → spotOk (p i).1 (p i).2 = true) (hone : OneN n p) (w : World) (hBl : Bn < w.heap.size) (hn1 : n₁ ≤ w.heap.size) (hBn : w.cell? ⟨Bn, 0, none⟩ = some (.slice ao n cap)) (hS : SpB n₁ w ao n p) :
    SeqStopsK Fence.wide m Try.prog 59 #[.pointer (some ⟨Bn, 0, none⟩)] (enS n p) (KpB n₁ Bn) (fun ys => ys = List.finRange n) (fun pre => pre <+: List.finRange n) n w := fun l J Jx W hW hJ _ hY h0 =>
  sides1_in m n₁ l Bn ao n cap p hn3 hn hok hone J Jx (fun s A B hs hB => hJ s A B none hs (below_grown hB) (fun r e => by cases e)) hY W (Nat.lt_of_lt_of_le hBl hW.size) (Nat.le_trans hn1 hW.size) ((hW.cell (p := ⟨Bn, 0, none⟩) hBl).trans hBn) (hS.keep (fun k hk => hW.block k (by omega))) h0
/-- A block holds just these cells. -/
def BoxV (W : World) (B : Nat) (t : TypeId) (vs : List Value) : Prop := W.heap[B]? = some (.cells vs.toArray t (0, 0))
theorem BoxV.lt {W : World} {B : Nat} {t : TypeId} {vs : List Value} (h : BoxV W B t vs) : B < W.heap.size := (Array.getElem?_eq_some_iff.1 h).1
theorem BoxV.blk {W : World} {B : Nat} {t : TypeId} {vs : List Value} (h : BoxV W B t vs) : Blk W B vs := ⟨h.lt, fun i v hi => ⟨by simp [World.cell?, show W.heap[B]? = _ from h, hi], by simp [World.frozen?, show W.heap[B]? = _ from h]⟩⟩
theorem BoxV.new (W : World) (t : TypeId) (vs : List Value) : BoxV (W.alloc (.cells vs.toArray t)) W.heap.size t vs := World.alloc_heap_new W _
theorem BoxV.step {W W' : World} {B : Nat} {t : TypeId} {vs : List Value} (h : BoxV W B t vs) (hB : Below W.heap.size W W') : BoxV W' B t vs := (hB.block B h.lt).trans h
theorem BoxV.alloc {W : World} {B : Nat} {t : TypeId} {vs : List Value} (h : BoxV W B t vs) (o : Obj) : BoxV (W.alloc o) B t vs := h.step ((Below.refl _ _).alloc (Nat.le_refl _) o)
theorem boxV_own {β : Type} (B : Nat) (t : TypeId) (f : β → List Value) : Own (fun s W => BoxV W B t (f s)) := fun s X Y row hs hg hrow =>
  (hg.block B hs.lt (fun e' => by obtain ⟨o, ho, hc⟩ := hrow B e'.symm; rw [show X.heap[B]? = _ from hs] at ho; cases ho; cases hc)).trans hs
theorem boxed_step {W W' : World} {B : Nat} {t : TypeId} {v : Value} (h : Boxed W B t v) (hB : Below W.heap.size W W') : Boxed W' B t v := (hB.block B h.lt).trans h
theorem below_keeps {B : Nat} {W W' : World} (h : Below W.heap.size W W') : KeepsFrom B W W' := ⟨h.size, fun k _ _ hk _ => (h.block k (Array.getElem?_eq_some_iff.1 hk).1).trans hk⟩
/-- What the program asks of two sides. -/
def bdI (n : Nat) (p : Ps) (i j : Nat) : Prop := moI n i j < kdA n p i j
theorem prefix_range {n : Nat} {pre : List (Fin n)} (h : pre <+: List.finRange n) : pre = upTo n pre.length := by
  obtain ⟨t, ht⟩ := h
  unfold upTo
  rw [← ht]
  simp
theorem mem_upTo {n c : Nat} {x : Fin n} : x ∈ upTo n c ↔ x.1 < c := by
  unfold upTo
  constructor
  · intro h
    obtain ⟨i, hi, e⟩ := List.mem_take_iff_getElem.1 h
    simp at e
    have : i < c := by simp at hi; omega
    rw [← e]
    exact this
  · intro h
    exact List.mem_take_iff_getElem.2 ⟨x.1, by simp; omega, by simp⟩
/-- Below one of the two the program's word is the model's. -/
theorem bdI_iff {n : Nat} {p : Ps} {i k : Nat} (hi : i < n) (hk : k < i) : bdI n p i k ↔ bdB n p i k = true := by
  unfold bdI bdB
  rw [decide_eq_true_iff]
  have : moI n i k = if nxB n i k = true then 1 else 0 := by
    unfold moI nxB
    by_cases h : k + 1 = i ∨ (k = 0 ∧ i + 1 = n)
    · rw [if_pos (by omega), if_pos (by simp; omega)]
    · rw [if_neg (by omega), if_neg (by simp; omega)]
  rw [this]
set_option maxRecDepth 100000 in
set_option maxHeartbeats 8000000 in
theorem crosses_any (ao : Option Addr) (n cap : Nat) (p : Ps) (hn3 : 3 ≤ n) (hn : n ≤ 12) (hok : ∀ i, i < n → spotOk (p i).1 (p i).2 = true) (hone : OneN n p) (w : World) (hS : SpIn w ao n p) : Calls Try.prog 32 #[.agg #[.slice ao n cap]] w (VP (.bool (decide (¬ (∀ i, i < n → ∀ k, k < i → bdB n p i k = false)))) w) := by
  refine (callsIn_wide (n := 12)).1 ?_
  refine callsIn_of_wp_marks Try.func32 rfl trivial ?_ rfl
  simp only [Try.ntmps32, List.size_toArray, List.length_cons, List.length_nil, Nat.reduceAdd, Nat.reduceSub, Array.replicate_succ, Array.replicate_zero, List.push_toArray, List.append_toArray, List.nil_append, List.cons_append]
  gi_wp2_with (refine ⟨trivial, ?_⟩; gi_at_call 46; refine (callsIn_wide.2 (sides_any _ _ _ _)).mono ?_; rintro e w' ⟨rfl, rfl⟩)
  have bA := ((Boxed.new w 45 (.slice ao n cap)).alloc (.cells #[.bool false] 4)).alloc (.cells #[.slice ao n cap] 45)
  have bR := (Boxed.new (w.alloc (.cells #[.slice ao n cap] 45)) 4 (.bool false)).alloc (.cells #[.slice ao n cap] 45)
  have bN := Boxed.new ((w.alloc (.cells #[.slice ao n cap] 45)).alloc (.cells #[.bool false] 4)) 45 (.slice ao n cap)
  simp only [World.size_alloc] at bR bN
  have hB0 : Below w.heap.size w (((w.alloc (.cells #[.slice ao n cap] 45)).alloc (.cells #[.bool false] 4)).alloc (.cells #[.slice ao n cap] 45)) := (((Below.refl _ w).alloc (Nat.le_refl _) _).alloc (by simp) _).alloc (by simp; omega) _
  have hsz : (((w.alloc (.cells #[.slice ao n cap] 45)).alloc (.cells #[.bool false] 4)).alloc (.cells #[.slice ao n cap] 45)).heap.size = w.heap.size + 3 := by simp
  obtain ⟨W0, hW0⟩ : ∃ W0, (((w.alloc (.cells #[.slice ao n cap] 45)).alloc (.cells #[.bool false] 4)).alloc (.cells #[.slice ao n cap] 45)) = W0 := ⟨_, rfl⟩
  rw [hW0] at bA bR bN hB0 hsz ⊢
  clear hW0
  have hS0 : SpB w.heap.size W0 ao n p := (hS.low).keep (fun k hk => hB0.block k hk)
  refine wpIn_rangeFunc_ownH rfl (by omega) (gf := 59) (lb := #[.pointer (some ⟨w.heap.size + 1 + 1, 0, none⟩)]) rfl trivial (enters_of Try.func59 (by kernel_rfl) rfl)
    (sides_stops (12 - 1) w.heap.size (w.heap.size + 1 + 1) ao n cap p hn3 hn hok hone W0 (by omega) (by omega) bN.cell hS0) (fun h k => h.trans k) (KpB.put (by omega) (by omega)) (Below.refl _ _) (fun _ => rfl)
    (fun pre W => (∀ i ∈ pre, ∀ k, k < i.1 → bdB n p i.1 k = false) ∧ Below W0.heap.size W0 W)
    (fun c pre W => ((c = .ret ∧ ∃ i ∈ pre, ∃ k, k < i.1 ∧ bdB n p i.1 k = true) ∧ Boxed W (w.heap.size + 1) 4 (.bool true)) ∧ Below w.heap.size w W)
    (OwnFrom.and (ownFrom_pure _ _) (ownFrom_below (Nat.le_refl _) (Nat.le_refl _)))
    (fun c => OwnFrom.and (OwnFrom.and (ownFrom_pure _ _) (Own.from (boxed_own _ _ _) _)) (ownFrom_below (Nat.le_refl _) (by omega)))
    ⟨by simp, Below.refl _ _⟩
    (fun x a' W => ∃ Bi Bs, Boxed W Bi 3 (.int .i64 (x.1 : Int)) ∧ BoxV W Bs 63 [.int .i64 (sdA n p x.1).1, .int .i64 (sdA n p x.1).2.1, .int .i64 (sdA n p x.1).2.2.1, .int .i64 (sdA n p x.1).2.2.2] ∧ a' = { tmps := #[.agg #[.slice ao n cap], .pointer (some ⟨w.heap.size, 0, none⟩), .pointer (some ⟨w.heap.size + 1, 0, none⟩), .pointer (some ⟨Bi, 0, none⟩), .pointer (some ⟨Bs, 0, none⟩), undef, undef, undef, undef, undef, .agg #[.slice ao n cap], .func (.func 59) #[] #[.pointer (some ⟨w.heap.size + 1 + 1, 0, none⟩)], .int .i64 (x.1 : Int), Sg (sdA n p x.1).1 (sdA n p x.1).2.1 (sdA n p x.1).2.2.1 (sdA n p x.1).2.2.2, undef, undef, undef, undef, undef, undef, undef, undef, undef, undef, undef, undef, undef, undef, undef, undef, undef, undef, undef, undef], defers := [] })
    (fun x a' _ X Y row hs hg hr => by obtain ⟨Bi, Bs, e3, e4, e5⟩ := hs; exact ⟨Bi, Bs, boxed_own Bi 3 (fun (_ : Unit) => Value.int .i64 (x.1 : Int)) () X Y row e3 hg (fun r e => (hr r e).2), boxV_own Bs 63 (fun (_ : Unit) => [.int .i64 (sdA n p x.1).1, .int .i64 (sdA n p x.1).2.1, .int .i64 (sdA n p x.1).2.2.1, .int .i64 (sdA n p x.1).2.2.2]) () X Y row e4 hg (fun r e => (hr r e).2), e5⟩)
    ?assign ?body ?done ?stop
  case assign =>
    rintro l pre x W K ⟨hp, hB1⟩ hK
    unfold enS
    gi_wp2
    have hB2 : Below W.heap.size W ((W.alloc (.cells #[.int .i64 (x.1 : Int)] 3)).alloc (.cells #[.int .i64 (sdA n p x.1).1, .int .i64 (sdA n p x.1).2.1, .int .i64 (sdA n p x.1).2.2.1, .int .i64 (sdA n p x.1).2.2.2] 63)) := ((Below.refl _ W).alloc (Nat.le_refl _) _).alloc (by simp) _
    have hsW := hB1.size
    have b1 := (Boxed.new W 3 (.int .i64 (x.1 : Int))).alloc (.cells #[.int .i64 (sdA n p x.1).1, .int .i64 (sdA n p x.1).2.1, .int .i64 (sdA n p x.1).2.2.1, .int .i64 (sdA n p x.1).2.2.2] 63)
    have b2 := BoxV.new (W.alloc (.cells #[.int .i64 (x.1 : Int)] 3)) 63 [.int .i64 (sdA n p x.1).1, .int .i64 (sdA n p x.1).2.1, .int .i64 (sdA n p x.1).2.2.1, .int .i64 (sdA n p x.1).2.2.2]
    rw [World.size_alloc] at b2
    exact hK _ _ (below_keeps hB2) (KpB.of hB2 (by omega) (by omega)) ⟨hp, hB1.trans (hB2.mono hB1.size)⟩ ⟨_, _, b1, b2, rfl⟩
  case body =>
    rintro l pre x a' W hl ⟨r, hr⟩ ⟨hp, hB1⟩ ⟨Bi, Bs, bI, bS, rfl⟩ hlt
    have bA1 := boxed_step bA hB1
    have cA := bA1.cell
    have h1' : 1 ≤ 12 - 1 - 1 := by omega
    gi_wp2_with (refine ⟨trivial, ?_⟩; gi_at_call 46; refine (CallsIn.inRound l (callsIn_wide.2 (sides_any _ _ _ _))).mono ?_; rintro e w' ⟨rfl, rfl⟩)
    have hsW := hB1.size
    have bN1 := Boxed.new W 45 (.slice ao n cap)
    have hr' : (W.alloc (.cells #[.slice ao n cap] 45)).heap[l]? = some (.loop r) := (Below.heap_alloc W _ l (Array.getElem?_eq_some_iff.1 hr).1).trans hr
    have hBR : Below W.heap.size W (W.alloc (.cells #[.slice ao n cap] 45)) := (Below.refl _ W).alloc (Nat.le_refl _) _
    have hSW : SpB w.heap.size (W.alloc (.cells #[.slice ao n cap] 45)) ao n p := hS0.keep (fun k hk => (hBR.block k (by omega)).trans (hB1.block k (by omega)))
    have hbR := boxed_step bR hB1
    have hxn := x.2
    have hs1 : (W.alloc (.cells #[.slice ao n cap] 45)).heap.size = W.heap.size + 1 := by simp
    obtain ⟨W1, hW1⟩ : ∃ W1, W.alloc (.cells #[.slice ao n cap] 45) = W1 := ⟨_, rfl⟩
    rw [hW1] at bN1 hr' hBR hSW hs1 ⊢
    clear hW1
    refine wpIn_rangeFunc_ownN (l₀ := l) (r₀ := r) rfl hr' h1' (gf := 59) (lb := #[.pointer (some ⟨W.heap.size, 0, none⟩)]) rfl trivial (enters_of Try.func59 (by kernel_rfl) rfl)
      ((sides_stops (12 - 1 - 1 - 1) w.heap.size W.heap.size ao n cap p hn3 hn hok hone W1 (by omega) (by omega) bN1.cell hSW).inRound l) (fun h k => h.trans k) (KpB.put (by omega) (by omega)) (Below.refl _ _) (fun _ => rfl)
      (fun pre' W' => (∀ y ∈ pre', y.1 ≠ x.1 ∧ ¬ bdI n p x.1 y.1) ∧ Below W1.heap.size W1 W')
      (fun c pre' W' => ((c = .exit 2 ∧ ∃ q, pre' = q ++ [x] ∧ ∀ y ∈ q, y.1 ≠ x.1 ∧ ¬ bdI n p x.1 y.1) ∧ Below W1.heap.size W1 W') ∨ (((c = .ret ∧ ∃ q y, pre' = q ++ [y] ∧ (∀ z ∈ q, z.1 ≠ x.1) ∧ y.1 ≠ x.1 ∧ bdI n p x.1 y.1) ∧ Boxed W' (w.heap.size + 1) 4 (.bool true)) ∧ Below w.heap.size W W' ∧ KeepsFrom W0.heap.size W W'))
      (OwnFrom.and (ownFrom_pure _ _) (ownFrom_below (Nat.le_refl _) (Nat.le_refl _)))
      (fun c t X Y row hs hg hrw => by
        rcases hs with hs | hs
        · exact .inl (OwnFrom.and (ownFrom_pure _ (fun pre' : List (Fin n) => c = Code.exit 2 ∧ ∃ q, pre' = q ++ [x] ∧ ∀ y ∈ q, y.1 ≠ x.1 ∧ ¬ bdI n p x.1 y.1)) (ownFrom_below (Nat.le_refl _) (Nat.le_refl _)) t X Y row hs hg hrw)
        · have hOr : OwnFrom W1.heap.size (fun (pre' : List (Fin n)) W' => ((c = Code.ret ∧ ∃ q y, pre' = q ++ [y] ∧ (∀ z ∈ q, z.1 ≠ x.1) ∧ y.1 ≠ x.1 ∧ bdI n p x.1 y.1) ∧ Boxed W' (w.heap.size + 1) 4 (.bool true)) ∧ Below w.heap.size W W' ∧ KeepsFrom W0.heap.size W W') := OwnFrom.and (OwnFrom.and (ownFrom_pure _ _) (Own.from (boxed_own _ _ _) _)) (OwnFrom.and (ownFrom_below (by omega) (by omega)) (ownFrom_keepsFrom (by omega)))
          exact .inr (hOr t X Y row hs hg hrw))
      ⟨by simp, Below.refl _ _⟩
      (fun y a'' W' => ∃ Bt, BoxV W' Bt 63 [.int .i64 (sdA n p y.1).1, .int .i64 (sdA n p y.1).2.1, .int .i64 (sdA n p y.1).2.2.1, .int .i64 (sdA n p y.1).2.2.2] ∧ a'' = { tmps := #[.agg #[.slice ao n cap], .pointer (some ⟨w.heap.size, 0, none⟩), .pointer (some ⟨w.heap.size + 1, 0, none⟩), .pointer (some ⟨Bi, 0, none⟩), .pointer (some ⟨Bs, 0, none⟩), .int .i64 (y.1 : Int), .pointer (some ⟨Bt, 0, none⟩), undef, undef, undef, .agg #[.slice ao n cap], .func (.func 59) #[] #[.pointer (some ⟨w.heap.size + 1 + 1, 0, none⟩)], .int .i64 (x.1 : Int), Sg (sdA n p x.1).1 (sdA n p x.1).2.1 (sdA n p x.1).2.2.1 (sdA n p x.1).2.2.2, .agg #[.slice ao n cap], .func (.func 59) #[] #[.pointer (some ⟨W.heap.size, 0, none⟩)], .int .i64 (y.1 : Int), Sg (sdA n p y.1).1 (sdA n p y.1).2.1 (sdA n p y.1).2.2.1 (sdA n p y.1).2.2.2, undef, undef, undef, undef, undef, undef, undef, undef, undef, undef, undef, undef, undef, undef, undef, undef], defers := [] })
      (fun y a'' _ X Y row hs hg hrw => by obtain ⟨Bt, e4, e5⟩ := hs; exact ⟨Bt, boxV_own Bt 63 (fun (_ : Unit) => [.int .i64 (sdA n p y.1).1, .int .i64 (sdA n p y.1).2.1, .int .i64 (sdA n p y.1).2.2.1, .int .i64 (sdA n p y.1).2.2.2]) () X Y row e4 hg (fun r e => (hrw r e).2), e5⟩)
      ?assign2 ?body2 ?done2 ?stop2
    case assign2 =>
      rintro l2 pre' y W' K ⟨hq, hBW⟩ hK
      unfold enS
      gi_wp2
      have hB2 : Below W'.heap.size W' (W'.alloc (.cells #[.int .i64 (sdA n p y.1).1, .int .i64 (sdA n p y.1).2.1, .int .i64 (sdA n p y.1).2.2.1, .int .i64 (sdA n p y.1).2.2.2] 63)) := (Below.refl _ W').alloc (Nat.le_refl _) _
      have hsW2 := hBW.size
      have b2 := BoxV.new W' 63 [.int .i64 (sdA n p y.1).1, .int .i64 (sdA n p y.1).2.1, .int .i64 (sdA n p y.1).2.2.1, .int .i64 (sdA n p y.1).2.2.2]
      exact hK _ _ (below_keeps hB2) (KpB.of hB2 (by omega) (by omega)) ⟨hq, hBW.trans (hB2.mono hBW.size)⟩ ⟨_, b2, rfl⟩
    case body2 =>
      rintro l2 pre' y a'' W' _ _ ⟨hq, hBW⟩ ⟨Bt, bT, rfl⟩ _
      have hBX : Below W.heap.size W W' := hBR.trans (hBW.mono hBR.size)
      have bA2 := boxed_step bA1 hBX
      have bI2 := boxed_step bI hBX
      have bS2 := (bS.step hBX).blk
      have bT2 := bT.blk
      have bR2 := boxed_step hbR hBX
      have cA2 := bA2.cell
      have cI2 := bI2.cell
      have s0' := bS2.c 0 rfl; have s1' := bS2.c 1 rfl; have s2' := bS2.c 2 rfl; have s3' := bS2.c 3 rfl
      have t0' := bT2.c 0 rfl; have t1' := bT2.c 1 rfl; have t2' := bT2.c 2 rfl; have t3' := bT2.c 3 rfl
      have hsX := hBW.size
      by_cases hxy : y.1 = x.1
      · have e1 : ((y.1 : Int) == (x.1 : Int)) = true := by rw [hxy]; exact beq_self_eq_true _
        gi_wp2
        exact ⟨KeepsFrom.refl _ _, .inl ⟨⟨rfl, pre', by rw [Fin.ext hxy], hq⟩, hBW⟩⟩
      · have e1 : ((y.1 : Int) == (x.1 : Int)) = false := beq_eq_false_iff_ne.2 (by omega)
        obtain ⟨i1, i2, i3, i4⟩ := in1_seg (side_ok hok hone hn3 x.2)
        obtain ⟨j1, j2, j3, j4⟩ := in1_seg (side_ok hok hone hn3 y.2)
        obtain ⟨r0, r1, r2, r3, r4, r5, r6, r7, r8, r9, r10, r11, s0, s1, s2, s3, s4, s5, s6, s7, s8, s9, s10, s11, hW12⟩ := meetW_12 (sdA n p x.1).1 (sdA n p x.1).2.1 (sdA n p x.1).2.2.1 (sdA n p x.1).2.2.2 (sdA n p y.1).1 (sdA n p y.1).2.1 (sdA n p y.1).2.2.1 (sdA n p y.1).2.2.2
        have MT := meet_det (sdA n p x.1).1 (sdA n p x.1).2.1 (sdA n p x.1).2.2.1 (sdA n p x.1).2.2.2 (sdA n p y.1).1 (sdA n p y.1).2.1 (sdA n p y.1).2.2.1 (sdA n p y.1).2.2.2 i1 i2 i3 i4 j1 j2 j3 j4
        rw [hW12] at MT
        have hkd : kndZ (sdA n p x.1).1 (sdA n p x.1).2.1 (sdA n p x.1).2.2.1 (sdA n p x.1).2.2.2 (sdA n p y.1).1 (sdA n p y.1).2.1 (sdA n p y.1).2.2.1 (sdA n p y.1).2.2.2 = kdA n p x.1 y.1 := rfl
        rw [hkd] at MT
        have MO := most_any ao n cap x.1 y.1 x.2 y.2 (by omega) (by omega)
        clear i1 i2 i3 i4 j1 j2 j3 j4 hW12 hkd
        generalize hzk : kdA n p x.1 y.1 = zk at *
        generalize hzm : moI n x.1 y.1 = zm at *
        gi_wp2_with (first
          | (refine ⟨trivial, ?_⟩; gi_at_call 47; refine (CallsIn.inRound l2 (CallsIn.inRound l (callsIn_wide.2 (MT _)))).mono ?_; rintro e v1 ⟨rfl, hBm⟩; have cA3 := (boxed_step bA2 hBm).cell; have cI3 := (boxed_step bI2 hBm).cell; have lA3 := (boxed_step bA2 hBm).lt; have lI3 := (boxed_step bI2 hBm).lt)
          | (refine ⟨trivial, ?_⟩; gi_at_call 48; refine (CallsIn.inRound l2 (CallsIn.inRound l (callsIn_wide.2 (MO _)))).mono ?_; rintro e v2 ⟨rfl, hBo⟩; have hBN : Below W'.heap.size W' v2 := ((hBm.alloc hBm.size _).alloc (Nat.le_trans hBm.size (by simp)) _).trans (hBo.mono (Nat.le_trans hBm.size (by simp; omega))); have bR3 := boxed_step bR2 hBN; have cR3 := bR3.cell; have fR3 := bR3.frozen))
        · rename_i hlt2
          have hXN : Below W.heap.size W v2 := hBX.trans (hBN.mono hBX.size)
          exact ⟨(below_keeps hBN).trans ((KeepsOthers.setCell _ _ _).from _), .inr ⟨⟨⟨rfl, pre', y, rfl, fun z hz => (hq z hz).1, hxy, by show moI n x.1 y.1 < kdA n p x.1 y.1; rw [hzm, hzk]; omega⟩, bR3.set _⟩, (hXN.mono (show w.heap.size ≤ W.heap.size by omega)).setCell (p := ⟨w.heap.size + 1, 0, none⟩) (by simp) _, (below_keeps hXN).trans ((KeepsOthers.setCell _ _ _).from _)⟩⟩
        · rename_i hlt2
          refine ⟨below_keeps hBN, KpB.of hBN (by omega) (by omega), fun z hz => ?_, hBW.trans (hBN.mono hBW.size)⟩
          rcases List.mem_append.1 hz with h | h
          · exact hq z h
          · simp at h
            subst h
            exact ⟨hxy, by show ¬ moI n x.1 z.1 < kdA n p x.1 z.1; rw [hzm, hzk]; omega⟩
    case done2 =>
      rintro ys' W' rfl ⟨hq, hBW⟩
      exact absurd rfl (hq x (List.mem_finRange x)).1
    case stop2 =>
      rintro c pre' W' hpre (⟨⟨rfl, q, rfl, hq⟩, hBW⟩ | ⟨⟨⟨rfl, q, y, rfl, hq, hyx, hbd⟩, bR2⟩, hBW, hKF⟩)
      · have hBX : Below W.heap.size W W' := hBR.trans (hBW.mono hBR.size)
        have hpx : q = upTo n x.1 := by
          have e := prefix_range hpre
          have hl : (q ++ [x]).length = q.length + 1 := by simp
          rw [hl, upTo_succ (by have := hpre.length_le; simp at this; omega)] at e
          have e2 := List.append_inj' e rfl
          have e3 : x.1 = q.length := by have := congrArg (fun z => z.1) (List.singleton_inj.1 e2.2); exact this
          rw [e3]
          exact e2.1
        gi_wp2
        refine ⟨below_keeps hBX, KpB.of hBX (by omega) (by omega), fun i hi => ?_, hB1.trans (hBX.mono hB1.size)⟩
        rcases List.mem_append.1 hi with h | h
        · exact hp i h
        · simp at h
          subst h
          intro k hk
          have := (hq ⟨k, by omega⟩ (by rw [hpx]; exact mem_upTo.2 hk)).2
          rw [bdI_iff i.2 hk] at this
          exact Bool.eq_false_iff.2 this
      · have hyx2 : y.1 < x.1 := by
          have e := prefix_range hpre
          have hl : (q ++ [y]).length = q.length + 1 := by simp
          rw [hl, upTo_succ (by have := hpre.length_le; simp at this; omega)] at e
          have e2 := List.append_inj' e rfl
          have e3 : y.1 = q.length := by have := congrArg (fun z => z.1) (List.singleton_inj.1 e2.2); exact this
          have e4 : q = upTo n y.1 := by rw [e3]; exact e2.1
          rcases Nat.lt_or_ge y.1 x.1 with h | h
          · exact h
          · exact absurd rfl (hq x (by rw [e4]; exact mem_upTo.2 (by omega)))
        gi_wp2
        exact ⟨hKF, ⟨⟨rfl, x, List.mem_append.2 (.inr (by simp)), y.1, hyx2, (bdI_iff x.2 hyx2).1 hbd⟩, bR2⟩, (hB0.trans (hB1.mono (by omega))).trans hBW⟩
  case done =>
    rintro D zs W hD rfl ⟨hp, hB1⟩ hK
    have bR1 := boxed_step bR hB1
    have cR := bR1.cell
    have fR := bR1.frozen
    gi_wp2
    have hK' := (KeepsOthers.setCell W ⟨w.heap.size + 1, 0, none⟩ (.bool false)).same D _ hK rfl
    refine ⟨by simp, .inl ⟨_, _, rfl, run_takeDeferred hK', ?_⟩⟩
    have hc5 := cell_kept (bR1.set (.bool false)).cell (grownBy_putObj' _ D (.deferred none)) (fun r e => by cases e; exact ⟨_, hK', rfl⟩)
    have hBW : Below w.heap.size w W := hB0.trans (hB1.mono (by omega))
    refine ⟨.bool false, ?_, by rw [decide_eq_false (fun h => h (fun i hi k hk => hp ⟨i, hi⟩ (List.mem_finRange _) k hk))], (hBW.setCell (p := ⟨w.heap.size + 1, 0, none⟩) (by simp) _).trans (belowK_b (w := w) (Nat.le_refl _) _ D _ _ (by omega) hK' rfl rfl)⟩
    simp [results, Try.results32, go_sem, hc5]
  case stop =>
    rintro D c pre W hD hpre ⟨⟨⟨rfl, i, hi, k, hk, hbd⟩, bR1⟩, hB1⟩ hK
    have cR := bR1.cell
    gi_wp2
    refine ⟨by simp, .inl ⟨_, _, rfl, run_takeDeferred hK, ?_⟩⟩
    have hc5 := cell_kept bR1.cell (grownBy_putObj' _ D (.deferred none)) (fun r e => by cases e; exact ⟨_, hK, rfl⟩)
    have hd : decide (¬ (∀ i, i < n → ∀ k, k < i → bdB n p i k = false)) = true := decide_eq_true (fun h => by have := h i.1 i.2 k hk; rw [hbd] at this; cases this)
    refine ⟨.bool true, ?_, by rw [hd], hB1.trans (belowK_b (w := w) (Nat.le_refl _) _ D _ _ (by omega) hK rfl rfl)⟩
    simp [results, Try.results32, go_sem, hc5]
end Go.Proofs.Ytibbjjlapglndaa

/- What is at fault in a ring: the program's walk. -/
namespace Go.Proofs.Ytibbjjlapglndaa
open Go.RowKit
set_option maxRecDepth 100000 in
set_option maxHeartbeats 4000000 in
theorem implRingFault_any (ao : Option Addr) (n cap : Nat) (p : Ps) (hn : n ≤ 1048576) (hcap : n ≤ cap) (hcap2 : cap ≤ 9223372036854775807) (w : World) (hS : SpIn w ao n p) : Calls Try.prog 20 #[.agg #[.slice ao n cap]] w (VP (.int .i64 (rgF n p)) w) := by
  have B0 := Blk.new w [.slice ao n cap] 45 rfl
  have HB : Below w.heap.size w (w.alloc (.cells #[.slice ao n cap] 45)) := (Below.refl _ w).alloc (Nat.le_refl _) _
  have HS := hS.step HB
  have b0 := B0.c 0 rfl
  have hnI : (n : Int) ≤ 1048576 := by omega
  clear hS
  go_enter Try.func20, Try.ntmps20
  go_upto_region 1 with fail
  generalize (w.alloc (.cells #[.slice ao n cap] 45)) = W at *
  by_cases h1 : n < 3
  · have HO : Hid (rgF n p = 1) := by show _ = _; unfold rgF; rw [if_pos h1]
    have h1I : (n : Int) < 3 := by omega
    clear HS B0
    go_wp2
    go_ret
    exact ⟨by rw [HO.out]; rfl, HB⟩
  by_cases h2 : 12 < n
  · have HO : Hid (rgF n p = 2) := by show _ = _; unfold rgF; rw [if_neg h1, if_pos h2]
    have h1I : (3 : Int) ≤ n := by omega
    have h2I : (12 : Int) < n := by omega
    clear HS B0
    go_wp2
    go_ret
    exact ⟨by rw [HO.out]; rfl, HB⟩
  have h1I : (3 : Int) ≤ n := by omega
  have h2I : (n : Int) ≤ 12 := by omega
  have WR := fun w h => wrong_any ao n cap p hn w h
  have TW := fun w h => twice_any ao n cap p hn w h hcap hcap2
  go_wp2_with fail
  refine (WR _ HS).mono ?_
  rintro e w1 ⟨rfl, hB⟩
  replace HB := HB.trans (hB.mono HB.size); replace HS := HS.step hB; replace B0 := B0.step hB
  clear hB b0 WR
  by_cases h3 : ∀ i, i < n → spotOk (p i).1 (p i).2 = true
  · have d3 : decide (¬ (∀ i, i < n → spotOk (p i).1 (p i).2 = true)) = false := decide_eq_false (fun h => h h3)
    rw [d3]
    have b0 := B0.c 0 rfl
    clear d3
    go_wp2_with fail
    refine (TW _ HS).mono ?_
    rintro e w2 ⟨rfl, hB⟩
    replace HB := HB.trans (hB.mono HB.size); replace HS := HS.step hB; replace B0 := B0.step hB
    clear hB b0 TW
    by_cases h4 : OneN n p
    · have d4 : decide (¬ OneN n p) = false := decide_eq_false (fun h => h h4)
      rw [d4]
      have b0 := B0.c 0 rfl
      have CR := fun w h => crosses_any ao n cap p (by omega) (by omega) h3 h4 w h
      clear d4
      go_wp2_with fail
      refine (CR _ HS).mono ?_
      rintro e w3 ⟨rfl, hB⟩
      replace HB := HB.trans (hB.mono HB.size)
      clear hB b0 CR HS B0
      by_cases h5 : ∀ i, i < n → ∀ k, k < i → bdB n p i k = false
      · have d5 : decide (¬ (∀ i, i < n → ∀ k, k < i → bdB n p i k = false)) = false := decide_eq_false (fun h => h h5)
        have HO : Hid (rgF n p = 0) := by show _ = _; unfold rgF; rw [if_neg h1, if_neg h2, if_neg (fun h => h h3), if_neg (fun h => h h4), if_neg (fun h => h h5)]
        rw [d5]
        clear d5 h3 h4 h5
        go_wp2
        go_ret
        exact ⟨by rw [HO.out]; rfl, HB⟩
      · have d5 : decide (¬ (∀ i, i < n → ∀ k, k < i → bdB n p i k = false)) = true := decide_eq_true h5
        have HO : Hid (rgF n p = 5) := by show _ = _; unfold rgF; rw [if_neg h1, if_neg h2, if_neg (fun h => h h3), if_neg (fun h => h h4), if_pos h5]
        rw [d5]
        clear d5 h3 h4 h5
        go_wp2
        go_ret
        exact ⟨by rw [HO.out]; rfl, HB⟩
    · have d4 : decide (¬ OneN n p) = true := decide_eq_true h4
      have HO : Hid (rgF n p = 4) := by show _ = _; unfold rgF; rw [if_neg h1, if_neg h2, if_neg (fun h => h h3), if_pos h4]
      rw [d4]
      clear d4 h3 h4 HS B0
      go_wp2
      go_ret
      exact ⟨by rw [HO.out]; rfl, HB⟩
  · have d3 : decide (¬ (∀ i, i < n → spotOk (p i).1 (p i).2 = true)) = true := decide_eq_true h3
    have HO : Hid (rgF n p = 3) := by show _ = _; unfold rgF; rw [if_neg h1, if_neg h2, if_pos h3]
    rw [d3]
    clear d3 h3 HS B0 TW
    go_wp2
    go_ret
    exact ⟨by rw [HO.out]; rfl, HB⟩
end Go.Proofs.Ytibbjjlapglndaa

/- What is at fault in a ring: the model's walk. -/
namespace Go.Proofs.Ytibbjjlapglndaa
open Go.RowKit
set_option maxRecDepth 100000 in
set_option maxHeartbeats 200000000 in
theorem specRingFault_any (ao : Option Addr) (n cap : Nat) (p : Ps) (hn : n ≤ 1048576) (w : World) (hS : SpIn w ao n p) : Calls Try.prog 16 #[.agg #[.slice ao n cap]] w (VP (.int .i64 (rgF n p)) w) := by
  have B0 := Blk.new w [.slice ao n cap] 45 rfl
  have HB0 : Below w.heap.size w (w.alloc (.cells #[.slice ao n cap] 45)) := (Below.refl _ w).alloc (Nat.le_refl _) _
  have HS0 := hS.step HB0
  have b0 := B0.c 0 rfl
  have hnI : (n : Int) ≤ 1048576 := by omega
  clear hS
  go_enter Try.func16, Try.ntmps16
  go_upto_region 1 with fail
  generalize (w.alloc (.cells #[.slice ao n cap] 45)) = W1 at *
  by_cases h1 : n < 3
  · have HO : Hid (rgF n p = 1) := by show _ = _; unfold rgF; rw [if_pos h1]
    have h1I : (n : Int) < 3 := by omega
    clear HS0 B0
    go_wp2
    go_ret
    exact ⟨by rw [HO.out]; rfl, HB0⟩
  by_cases h2 : 12 < n
  · have HO : Hid (rgF n p = 2) := by show _ = _; unfold rgF; rw [if_neg h1, if_pos h2]
    have h1I : (3 : Int) ≤ n := by omega
    have h2I : (12 : Int) < n := by omega
    clear HS0 B0
    go_wp2
    go_ret
    exact ⟨by rw [HO.out]; rfl, HB0⟩
  have h1I : (3 : Int) ≤ n := by omega
  have h2I : (n : Int) ≤ 12 := by omega
  have HS : Hid (SpIn W1 ao n p) := HS0
  clear HS0
  go_wp2_with fail
  clear b0
  go_loopw [4] (fun i wr => ∃ c : Nat, c ≤ n ∧ i = .int .i64 c ∧ (∀ j, j < c → spotOk (p j).1 (p j).2 = true) ∧ Below W1.heap.size W1 wr) (fun i _ => n - (intOf i).toNat)
  case atStart => exact ⟨0, by omega, rfl, fun j hj => by omega, Below.refl _ _⟩
  case round =>
    obtain ⟨c, hc, rfl, hall, HB⟩ := hrel
    have HA : Hid (∀ j, j < c → spotOk (p j).1 (p j).2 = true) := hall
    clear hall
    by_cases hcn : c < n
    · obtain ⟨A, off, rfl, hA, q0, q1⟩ := HS.out.step HB c hcn
      have hcI : (c : Int) < n := by omega
      have b0 := (B0.step HB).c 0 rfl
      go_wp2_with fail
      refine (specSpotOk_any (p c).1 (p c).2 _ rfl _).mono ?_
      rintro e w1 ⟨rfl, hB⟩
      replace HB := HB.trans (hB.mono HB.size)
      clear hB q0 q1 hA b0
      by_cases hk : spotOk (p c).1 (p c).2 = true
      · rw [hk]
        have HK : Hid (spotOk (p c).1 (p c).2 = true) := hk
        clear hk
        go_wp2
        go_roundw
        case rel => exact ⟨c + 1, by omega, by go_num, fun j hj => by
          rcases Nat.lt_or_ge j c with h | h
          · exact HA.out j h
          · obtain rfl : j = c := by omega
            exact HK.out, HB⟩
        case measure => simp [intOf]; omega
      · have HO : Hid (rgF n p = 3) := by show _ = _; unfold rgF; rw [if_neg h1, if_neg h2, if_pos (fun h => hk (h c hcn))]
        rw [Bool.eq_false_iff.2 hk]
        have HBF := HB0.trans (HB.mono HB0.size)
        clear hk
        go_wp2
        go_ret
        exact ⟨by rw [HO.out]; rfl, HBF⟩
    · obtain rfl : n = c := by omega
      have HB1 := HB0.trans (HB.mono HB0.size)
      have HS1 : Hid (SpIn wr ao n p) := HS.out.step HB
      have B1 := B0.step HB
      clear HS B0 HB
      go_wp2_with fail
      generalize wr = W2 at *
      go_loopw [5] (fun i wr => ∃ c : Nat, c ≤ n ∧ i = .int .i64 c ∧ (∀ j, j < c → ∀ k, k < j → p j ≠ p k) ∧ Below W2.heap.size W2 wr) (fun i _ => n - (intOf i).toNat)
      case atStart => exact ⟨0, by omega, rfl, fun j hj => by omega, Below.refl _ _⟩
      case round =>
        rename_i hrel
        obtain ⟨c, hc, rfl, hall, HB⟩ := hrel
        have HC : Hid (∀ j, j < c → ∀ k, k < j → p j ≠ p k) := hall
        clear hall
        by_cases hcn : c < n
        · have hcI : (c : Int) < n := by omega
          have HSo : Hid (SpIn wr ao n p) := HS1.out.step HB
          have HB4 := HB1.trans (HB.mono HB1.size)
          have B3 := B1.step HB
          have HBo := HB
          clear HB
          go_wp2_with fail
          generalize wr = W4 at *
          go_loopw [6] (fun i wr => ∃ d : Nat, d ≤ c ∧ i = .int .i64 d ∧ (∀ k, k < d → p c ≠ p k) ∧ Below W4.heap.size W4 wr) (fun i _ => c - (intOf i).toNat)
          case atStart => exact ⟨0, by omega, rfl, fun j hj => by omega, Below.refl _ _⟩
          case round =>
            rename_i hrel
            obtain ⟨d, hd, rfl, hall, HB⟩ := hrel
            have HE : Hid (∀ k, k < d → p c ≠ p k) := hall
            clear hall
            by_cases hdn : d < c
            · have hdI : (d : Int) < c := by omega
              have hdI2 : (d : Int) < n := by omega
              obtain ⟨A, off, rfl, hA, q0, q1⟩ := HSo.out.step HB c hcn
              obtain ⟨A', off', hao, -, m0, m1⟩ := HSo.out.step HB d (by omega)
              obtain ⟨rfl, rfl⟩ : A = A' ∧ off = off' := by simpa using hao
              have b0 := (B3.step HB).c 0 rfl
              have EQ := eqSp2 (p c).1 (p c).2 (p d).1 (p d).2
              have KS : (fun w' : World => w'.cell? ⟨w.heap.size, 0, none⟩ = some (.slice (some ⟨A, off, none⟩) n cap) ∧ w'.cell? ⟨A, off + c * 2, none⟩ = some (.int .i64 (p c).1) ∧ w'.cell? ⟨A, off + c * 2 + 1, none⟩ = some (.int .i64 (p c).2) ∧ w'.cell? ⟨A, off + d * 2, none⟩ = some (.int .i64 (p d).1) ∧ w'.cell? ⟨A, off + d * 2 + 1, none⟩ = some (.int .i64 (p d).2)) wr := ⟨b0, q0, q1, m0, m1⟩
              go_upto_region 17 with fail
              go_region_held3 (fun w' : World => w'.cell? ⟨w.heap.size, 0, none⟩ = some (.slice (some ⟨A, off, none⟩) n cap) ∧ w'.cell? ⟨A, off + c * 2, none⟩ = some (.int .i64 (p c).1) ∧ w'.cell? ⟨A, off + c * 2 + 1, none⟩ = some (.int .i64 (p c).2) ∧ w'.cell? ⟨A, off + d * 2, none⟩ = some (.int .i64 (p d).1) ∧ w'.cell? ⟨A, off + d * 2 + 1, none⟩ = some (.int .i64 (p d).2)) (exact KS) (fail)
              all_goals have HBD := HB.drew
              all_goals clear KS b0 q0 q1 m0 m1 EQ hao hA HB
              all_goals by_cases h : (p c).1 = (p d).1 ∧ (p c).2 = (p d).2
              all_goals first
                | (have HO : Hid (rgF n p = 4) := by
                     show _ = _
                     unfold rgF
                     rw [if_neg h1, if_neg h2, if_neg (fun hh => hh HA.out), if_pos (fun hh => hh c hcn d hdn (Prod.ext h.1 h.2))]
                   have d1 : (decide ((p c).1 = (p d).1) && decide ((p c).2 = (p d).2)) = true := by simp [h.1, h.2]
                   rw [d1]
                   have HBF := HB4.trans (HBD.mono HB4.size)
                   clear d1 h
                   go_wp2
                   go_ret
                   exact ⟨by rw [HO.out]; rfl, HBF⟩)
                | (have HH : Hid (p c ≠ p d) := fun e => h ⟨by rw [e], by rw [e]⟩
                   have d1 : (decide ((p c).1 = (p d).1) && decide ((p c).2 = (p d).2)) = false := by
                     rw [Bool.eq_false_iff]
                     intro hh
                     simp at hh
                     exact h hh
                   rw [d1]
                   clear d1 h
                   go_wp2
                   go_roundw)
              case rel => exact ⟨d + 1, by omega, by go_num, fun k hk => by
                rcases Nat.lt_or_ge k d with h | h
                · exact HE.out k h
                · obtain rfl : k = d := by omega
                  exact HH.out, HBD⟩
              case measure => simp [intOf]; omega
            · obtain rfl : c = d := by omega
              have HBF := HBo.trans (HB.mono HBo.size)
              clear HB HBo HB4 HSo B3
              go_wp2
              go_roundw
              case rel => exact ⟨c + 1, by omega, by go_num, fun j hj => by
                rcases Nat.lt_or_ge j c with h | h
                · exact HC.out j h
                · obtain rfl : j = c := by omega
                  exact HE.out, HBF⟩
              case measure => simp [intOf]; omega
        · obtain rfl : n = c := by omega
          have HB3 := HB1.trans (HB.mono HB1.size)
          have HS2 : Hid (SpIn wr ao n p) := HS1.out.step HB
          have B2 := B1.step HB
          clear HS1 B1 HB HB1
          go_wp2_with fail
          generalize wr = W3 at *
          go_loopw [7] (fun i wr => ∃ c : Nat, c ≤ n ∧ i = .int .i64 c ∧ (∀ j, j < c → ∀ k, k < j → bdB n p j k = false) ∧ Below W3.heap.size W3 wr) (fun i _ => n - (intOf i).toNat)
          case atStart => exact ⟨0, by omega, rfl, fun j hj => by omega, Below.refl _ _⟩
          case round =>
            rename_i hrel
            obtain ⟨c, hc, rfl, hall, HB⟩ := hrel
            have HD : Hid (∀ j, j < c → ∀ k, k < j → bdB n p j k = false) := hall
            clear hall
            by_cases hcn : c < n
            · have hcI : (c : Int) < n := by omega
              have HSo : Hid (SpIn wr ao n p) := HS2.out.step HB
              have HB4 := HB3.trans (HB.mono HB3.size)
              have B3 := B2.step HB
              have HBo := HB
              clear HB
              go_wp2_with fail
              generalize wr = W4 at *
              go_loopw [8] (fun i wr => ∃ d : Nat, d ≤ c ∧ i = .int .i64 d ∧ (∀ k, k < d → bdB n p c k = false) ∧ Below W4.heap.size W4 wr) (fun i _ => c - (intOf i).toNat)
              case atStart => exact ⟨0, by omega, rfl, fun j hj => by omega, Below.refl _ _⟩
              case round =>
                rename_i hrel
                obtain ⟨d, hd, rfl, hall, HB⟩ := hrel
                have HE : Hid (∀ k, k < d → bdB n p c k = false) := hall
                clear hall
                by_cases hdn : d < c
                · have hdI : (d : Int) < c := by omega
                  have HSr := HSo.out.step HB
                  have B4 := B3.step HB
                  obtain ⟨A, off, rfl, -, -, -⟩ := HSr c hcn
                  obtain ⟨i1, i2, i3, i4⟩ := in1_seg (side_ok HA.out HC.out (by omega) hcn)
                  obtain ⟨j1, j2, j3, j4⟩ := in1_seg (side_ok HA.out HC.out (by omega) (show d < n by omega))
                  have L1 := fun w h => l5Side_any (some ⟨A, off, none⟩) n cap p c hcn hn w h
                  have L2 := fun w h => l5Side_any (some ⟨A, off, none⟩) n cap p d (by omega) hn w h
                  have LM := l4Meet_any (sdA n p c).1 (sdA n p c).2.1 (sdA n p c).2.2.1 (sdA n p c).2.2.2 (sdA n p d).1 (sdA n p d).2.1 (sdA n p d).2.2.1 (sdA n p d).2.2.2 i1 i2 i3 i4 j1 j2 j3 j4
                  have hbs := bd_same HC.out (by omega) hcn hdn
                  have hkin : kdA n p c d = 0 ∨ kdA n p c d = 1 ∨ kdA n p c d = 2 := knd_in _ _ _ _ _ _ _ _
                  go_upto_region 25 with fail
                  go_cut [9] (fun m wx => m = .int .i64 (kdA n p c d) ∧ Below wr.heap.size wr wx)
                  case first =>
                    clear HE HD HB4 HSo HS2 HA HC hbs hkin L1 L2 LM
                    refine reg25 (c := c) (d := d) hcn (by omega) hn HSr i1 i2 i3 i4 j1 j2 j3 j4 (by have hz := HB3.size; have hz2 := HBo.size; first | exact B4.lt | omega) (B4.c 0 rfl) rfl rfl rfl rfl (by simp) (by simp) (by simp) (by simp) ?_
                    rintro ⟨tm, df⟩ Wz hz hdf hoff h9 hBz
                    simp only at hz hdf hoff h9
                    subst hdf
                    have htm := tmps_fold [64, 65, 66, 67, 68, 69, 70, 63, 71, 72, 73, 10, 11, 9] tm _ hz hoff
                    simp only [List.foldl, List.setIfInBounds_toArray, List.set_cons_zero, List.set_cons_succ, h9] at htm
                    clear hz hoff
                    generalize tm.getD 64 undef = u0, tm.getD 65 undef = u1, tm.getD 66 undef = u2, tm.getD 67 undef = u3, tm.getD 68 undef = u4, tm.getD 69 undef = u5, tm.getD 70 undef = u6, tm.getD 63 undef = u7, tm.getD 71 undef = u8, tm.getD 72 undef = u9, tm.getD 73 undef = u10, tm.getD 10 undef = u11, tm.getD 11 undef = u12 at htm
                    clear h9
                    subst htm
                    go_wp2_with fail
                    go_meet
                    exact ⟨rfl, hBz⟩
                  case rest =>
                    obtain ⟨hm, hBc⟩ := hcut
                    subst hm
                    have HB5 := HB.trans (hBc.mono HB.size)
                    clear hBc HB B4 HSr L1 L2 LM i1 i2 i3 i4 j1 j2 j3 j4
                    generalize kdA n p c d = z at *
                    have hs1 : IntKind.i64.wrap ((c : Int) - 1) = (c : Int) - 1 := by rw [IntKind.wrap_i64]; omega
                    have hs2 : IntKind.i64.wrap ((n : Int) - 1) = (n : Int) - 1 := by rw [IntKind.wrap_i64]; omega
                    have HBS : Hid (bdB n p c d = ((nxB n c d && !(decide (z = 1))) || (!(nxB n c d) && !(decide (z = 0))))) := hbs
                    clear hbs
                    have HBF := HB4.trans (HB5.mono HB4.size)
                    rcases (show (d + 1 = c) ∨ (d + 1 ≠ c ∧ d = 0 ∧ c + 1 = n) ∨ (d + 1 ≠ c ∧ d = 0 ∧ c + 1 ≠ n) ∨ (d + 1 ≠ c ∧ d ≠ 0) by omega) with hN1 | hN2 | hN3 | hN4
                    · have HX : Hid (nxB n c d = true) := by show _ = _; unfold nxB; simp; omega
                      have b1 : ((d : Int) == (c : Int) - 1) = true := beq_iff_eq.2 (by omega)
                      clear hN1
                      rcases hkin with rfl | rfl | rfl
                      · have HO : Hid (rgF n p = 5) := by
                          show _ = _
                          unfold rgF
                          rw [if_neg h1, if_neg h2, if_neg (fun hh => hh HA.out), if_neg (fun hh => hh HC.out), if_pos (fun hh => by
                            have e := hh c hcn d hdn
                            rw [HBS.out, HX.out] at e
                            simp at e)]
                        go_wp2
                        go_ret
                        exact ⟨by rw [HO.out]; rfl, HBF⟩
                      · have HN : Hid (bdB n p c d = false) := by show _ = _; rw [HBS.out, HX.out]; rfl
                        go_wp2
                        go_roundw
                        case rel => exact ⟨d + 1, by omega, by go_num, fun k hk => by
                          rcases Nat.lt_or_ge k d with h | h
                          · exact HE.out k h
                          · obtain rfl : k = d := by omega
                            exact HN.out, HB5⟩
                        case measure => simp [intOf]; omega
                      · have HO : Hid (rgF n p = 5) := by
                          show _ = _
                          unfold rgF
                          rw [if_neg h1, if_neg h2, if_neg (fun hh => hh HA.out), if_neg (fun hh => hh HC.out), if_pos (fun hh => by
                            have e := hh c hcn d hdn
                            rw [HBS.out, HX.out] at e
                            simp at e)]
                        go_wp2
                        go_ret
                        exact ⟨by rw [HO.out]; rfl, HBF⟩
                    · have HX : Hid (nxB n c d = true) := by show _ = _; unfold nxB; simp; omega
                      have b1 : ((d : Int) == (c : Int) - 1) = false := beq_eq_false_iff_ne.2 (by omega)
                      have b2 : ((d : Int) == 0) = true := beq_iff_eq.2 (by omega)
                      have b3 : ((c : Int) == (n : Int) - 1) = true := beq_iff_eq.2 (by omega)
                      clear hN2
                      rcases hkin with rfl | rfl | rfl
                      · have HO : Hid (rgF n p = 5) := by
                          show _ = _
                          unfold rgF
                          rw [if_neg h1, if_neg h2, if_neg (fun hh => hh HA.out), if_neg (fun hh => hh HC.out), if_pos (fun hh => by
                            have e := hh c hcn d hdn
                            rw [HBS.out, HX.out] at e
                            simp at e)]
                        go_wp2
                        go_ret
                        exact ⟨by rw [HO.out]; rfl, HBF⟩
                      · have HN : Hid (bdB n p c d = false) := by show _ = _; rw [HBS.out, HX.out]; rfl
                        go_wp2
                        go_roundw
                        case rel => exact ⟨d + 1, by omega, by go_num, fun k hk => by
                          rcases Nat.lt_or_ge k d with h | h
                          · exact HE.out k h
                          · obtain rfl : k = d := by omega
                            exact HN.out, HB5⟩
                        case measure => simp [intOf]; omega
                      · have HO : Hid (rgF n p = 5) := by
                          show _ = _
                          unfold rgF
                          rw [if_neg h1, if_neg h2, if_neg (fun hh => hh HA.out), if_neg (fun hh => hh HC.out), if_pos (fun hh => by
                            have e := hh c hcn d hdn
                            rw [HBS.out, HX.out] at e
                            simp at e)]
                        go_wp2
                        go_ret
                        exact ⟨by rw [HO.out]; rfl, HBF⟩
                    · have HX : Hid (nxB n c d = false) := by show _ = _; unfold nxB; rw [Bool.eq_false_iff]; intro hh; simp at hh; omega
                      have b1 : ((d : Int) == (c : Int) - 1) = false := beq_eq_false_iff_ne.2 (by omega)
                      have b2 : ((d : Int) == 0) = true := beq_iff_eq.2 (by omega)
                      have b3 : ((c : Int) == (n : Int) - 1) = false := beq_eq_false_iff_ne.2 (by omega)
                      clear hN3
                      rcases hkin with rfl | rfl | rfl
                      · have HN : Hid (bdB n p c d = false) := by show _ = _; rw [HBS.out, HX.out]; rfl
                        go_wp2
                        go_roundw
                        case rel => exact ⟨d + 1, by omega, by go_num, fun k hk => by
                          rcases Nat.lt_or_ge k d with h | h
                          · exact HE.out k h
                          · obtain rfl : k = d := by omega
                            exact HN.out, HB5⟩
                        case measure => simp [intOf]; omega
                      · have HO : Hid (rgF n p = 5) := by
                          show _ = _
                          unfold rgF
                          rw [if_neg h1, if_neg h2, if_neg (fun hh => hh HA.out), if_neg (fun hh => hh HC.out), if_pos (fun hh => by
                            have e := hh c hcn d hdn
                            rw [HBS.out, HX.out] at e
                            simp at e)]
                        go_wp2
                        go_ret
                        exact ⟨by rw [HO.out]; rfl, HBF⟩
                      · have HO : Hid (rgF n p = 5) := by
                          show _ = _
                          unfold rgF
                          rw [if_neg h1, if_neg h2, if_neg (fun hh => hh HA.out), if_neg (fun hh => hh HC.out), if_pos (fun hh => by
                            have e := hh c hcn d hdn
                            rw [HBS.out, HX.out] at e
                            simp at e)]
                        go_wp2
                        go_ret
                        exact ⟨by rw [HO.out]; rfl, HBF⟩
                    · have HX : Hid (nxB n c d = false) := by show _ = _; unfold nxB; rw [Bool.eq_false_iff]; intro hh; simp at hh; omega
                      have b1 : ((d : Int) == (c : Int) - 1) = false := beq_eq_false_iff_ne.2 (by omega)
                      have b2 : ((d : Int) == 0) = false := beq_eq_false_iff_ne.2 (by omega)
                      clear hN4
                      rcases hkin with rfl | rfl | rfl
                      · have HN : Hid (bdB n p c d = false) := by show _ = _; rw [HBS.out, HX.out]; rfl
                        go_wp2
                        go_roundw
                        case rel => exact ⟨d + 1, by omega, by go_num, fun k hk => by
                          rcases Nat.lt_or_ge k d with h | h
                          · exact HE.out k h
                          · obtain rfl : k = d := by omega
                            exact HN.out, HB5⟩
                        case measure => simp [intOf]; omega
                      · have HO : Hid (rgF n p = 5) := by
                          show _ = _
                          unfold rgF
                          rw [if_neg h1, if_neg h2, if_neg (fun hh => hh HA.out), if_neg (fun hh => hh HC.out), if_pos (fun hh => by
                            have e := hh c hcn d hdn
                            rw [HBS.out, HX.out] at e
                            simp at e)]
                        go_wp2
                        go_ret
                        exact ⟨by rw [HO.out]; rfl, HBF⟩
                      · have HO : Hid (rgF n p = 5) := by
                          show _ = _
                          unfold rgF
                          rw [if_neg h1, if_neg h2, if_neg (fun hh => hh HA.out), if_neg (fun hh => hh HC.out), if_pos (fun hh => by
                            have e := hh c hcn d hdn
                            rw [HBS.out, HX.out] at e
                            simp at e)]
                        go_wp2
                        go_ret
                        exact ⟨by rw [HO.out]; rfl, HBF⟩
                · obtain rfl : c = d := by omega
                  have HBF := HBo.trans (HB.mono HBo.size)
                  clear HB HBo HB4 HSo B3
                  go_wp2
                  go_roundw
                  case rel => exact ⟨c + 1, by omega, by go_num, fun j hj => by
                    rcases Nat.lt_or_ge j c with h | h
                    · exact HD.out j h
                    · obtain rfl : j = c := by omega
                      exact HE.out, HBF⟩
                  case measure => simp [intOf]; omega
            · obtain rfl : n = c := by omega
              have HO : Hid (rgF n p = 0) := by
                show _ = _
                unfold rgF
                rw [if_neg h1, if_neg h2, if_neg (fun hh => hh HA.out), if_neg (fun hh => hh HC.out), if_neg (fun hh => hh HD.out)]
              have HBF := HB3.trans (HB.mono HB3.size)
              clear HS2 B2 HB HB3 HA HC HD
              go_wp2
              go_ret
              exact ⟨by rw [HO.out]; rfl, HBF⟩
end Go.Proofs.Ytibbjjlapglndaa

/- Rings that are turned: the program's small walks. -/
namespace Go.Proofs.Ytibbjjlapglndaa
open Go.RowKit
/-- The cells of n spots, one behind the other. -/
def spL (n : Nat) (p : Ps) : List Value := (List.range (n * 2)).map fun (i : Nat) => Value.int .i64 (spW p i)
theorem spL_at {n : Nat} {p : Ps} {i : Nat} (h : i < n * 2) : (spL n p)[i]? = some (.int .i64 (spW p i)) := by simp [spL, h]
/-- A slice of the call's own, with these spots. -/
def SpOwn (w : World) (base : Nat) (v : Value) (n : Nat) (p : Ps) : Prop :=
  (v = .slice none 0 0 ∧ n = 0) ∨ ∃ g cap f, v = .slice (some ⟨g, 0, none⟩) n cap ∧ base ≤ g ∧ n ≤ cap ∧ cap ≤ maxLen ∧ w.rowIs g 54 (cap * 2) f ∧ ∀ i, i < n * 2 → f i = .int .i64 (spW p i)
theorem SpOwn.of {w : World} {base : Nat} {v : Value} {n : Nat} {p : Ps} (h : w.ownsRow base 54 2 v n (spL n p)) : SpOwn w base v n p := by
  rcases h.2 with ⟨h1, h2⟩ | ⟨g, cap, cur, h1, h2, h3, h4, h5, h6, h7⟩
  · exact .inl ⟨h1, h2⟩
  · refine .inr ⟨g, cap, fun i => cur.getD i undef, h1, h2, h4, h5, ⟨cur, h3, by omega, fun i hi => ?_⟩, fun i hi => ?_⟩
    · simp [Array.getD_eq_getD_getElem?, show i < cur.size by omega]
    · have e : (cur.toList.take (n * 2))[i]? = (spL n p)[i]? := by rw [h7]
      rw [List.getElem?_take_of_lt hi, spL_at hi] at e
      simp only [Array.getElem?_toList] at e
      show cur.getD i undef = _
      rw [Array.getD_eq_getD_getElem?, e]
      rfl
end Go.Proofs.Ytibbjjlapglndaa

/- Whether two rings meet: the model's walk. -/
namespace Go.Proofs.Ytibbjjlapglndaa
open Go.RowKit
/-- What is asked of a ring whose sides are gone through. -/
structure RgOk (n : Nat) (p : Ps) : Prop where
  h3 : 3 ≤ n
  h12 : n ≤ 12
  ok : ∀ i, i < n → spotOk (p i).1 (p i).2 = true
  one : OneN n p
theorem rgF_ok {n : Nat} {p : Ps} (h : rgF n p = 0) : RgOk n p := by
  unfold rgF at h
  repeat' split at h
  all_goals first | omega | skip
  rename_i h1 h2 h3 h4 h5
  exact ⟨by omega, by omega, Decidable.not_not.1 h3, Decidable.not_not.1 h4⟩
set_option maxRecDepth 100000 in
set_option maxHeartbeats 8000000 in
theorem l5Meet_any (ao bo : Option Addr) (n cap m cap2 : Nat) (p q : Ps) (hp : RgOk n p) (hq : RgOk m q) (w : World) (hSp : SpIn w ao n p) (hSq : SpIn w bo m q) : Calls Try.prog 17 #[.agg #[.slice ao n cap], .agg #[.slice bo m cap2]] w (VP (.bool (rmB n p m q)) w) := by
  have A0 := (Blk.new w [.slice ao n cap] 45 rfl).alloc (.cells #[.slice bo m cap2] 45)
  have A1 := Blk.new (w.alloc (.cells #[.slice ao n cap] 45)) [.slice bo m cap2] 45 (g := w.heap.size + 1) (by simp)
  have HB0 : Below w.heap.size w ((w.alloc (.cells #[.slice ao n cap] 45)).alloc (.cells #[.slice bo m cap2] 45)) := ((Below.refl _ w).alloc (Nat.le_refl _) _).alloc (by simp) _
  have HP : Hid (RgOk n p) := hp
  have HQ : Hid (RgOk m q) := hq
  have h12 := hp.h12
  have m12 := hq.h12
  have hnI : (n : Int) ≤ 12 := by omega
  have hmI : (m : Int) ≤ 12 := by omega
  have HSp : Hid (SpIn ((w.alloc (.cells #[.slice ao n cap] 45)).alloc (.cells #[.slice bo m cap2] 45)) ao n p) := hSp.step HB0
  have HSq : Hid (SpIn ((w.alloc (.cells #[.slice ao n cap] 45)).alloc (.cells #[.slice bo m cap2] 45)) bo m q) := hSq.step HB0
  clear hSp hSq hp hq
  go_enter Try.func17, Try.ntmps17
  go_wp2_with fail
  generalize ((w.alloc (.cells #[.slice ao n cap] 45)).alloc (.cells #[.slice bo m cap2] 45)) = W1 at *
  go_loopw [5] (fun i wr => ∃ c : Nat, c ≤ n ∧ i = .int .i64 c ∧ (∀ j, j < c → ∀ k, k < m → kdX n p m q j k = 0) ∧ Below W1.heap.size W1 wr) (fun i _ => n - (intOf i).toNat)
  case atStart => exact ⟨0, by omega, rfl, fun j hj => by omega, Below.refl _ _⟩
  case round =>
    obtain ⟨c, hc, rfl, hall, HB⟩ := hrel
    have HD : Hid (∀ j, j < c → ∀ k, k < m → kdX n p m q j k = 0) := hall
    clear hall
    have b0 := (A0.step HB).c 0 rfl
    by_cases hcn : c < n
    · have hcI : (c : Int) < n := by omega
      have HBo := HB
      have HSp2 : Hid (SpIn wr ao n p) := HSp.out.step HB
      have HSq2 : Hid (SpIn wr bo m q) := HSq.out.step HB
      have D0 := A0.step HB
      have D1 := A1.step HB
      clear HB
      go_wp2_with fail
      clear b0
      generalize wr = W4 at *
      go_loopw [6] (fun i wr => ∃ d : Nat, d ≤ m ∧ i = .int .i64 d ∧ (∀ k, k < d → kdX n p m q c k = 0) ∧ Below W4.heap.size W4 wr) (fun i _ => m - (intOf i).toNat)
      case atStart => exact ⟨0, by omega, rfl, fun j hj => by omega, Below.refl _ _⟩
      case round =>
        rename_i hrel
        obtain ⟨d, hd, rfl, hall, HB⟩ := hrel
        have HE : Hid (∀ k, k < d → kdX n p m q c k = 0) := hall
        clear hall
        have b1 := (D1.step HB).c 0 rfl
        by_cases hdn : d < m
        · have hdI : (d : Int) < m := by omega
          have E0 := D0.step HB
          have E1 := D1.step HB
          have SP := HSp2.out.step HB
          have SQ := HSq2.out.step HB
          obtain ⟨i1, i2, i3, i4⟩ := in1_seg (side_ok HP.out.ok HP.out.one HP.out.h3 hcn)
          obtain ⟨j1, j2, j3, j4⟩ := in1_seg (side_ok HQ.out.ok HQ.out.one HQ.out.h3 hdn)
          have HSP : Hid (SpIn wr ao n p) := SP
          have HSQ : Hid (SpIn wr bo m q) := SQ
          clear SP SQ
          go_upto_region 7 with fail
          go_cut [7] (fun z wx => z = .int .i64 (kdX n p m q c d) ∧ Below wr.heap.size wr wx)
          case first =>
            clear b1 HE HD HSp HSq HSp2 HSq2
            refine regMeet (c := c) (d := d) hcn hdn (by omega) (by omega) HSP.out HSQ.out i1 i2 i3 i4 j1 j2 j3 j4 rfl rfl rfl rfl (E0.c 0 rfl) E0.lt (E1.c 0 rfl) E1.lt rfl ?_
            rintro ⟨tm, df⟩ Wz hz hdf hoff h7 hBz
            simp only at hz hdf hoff h7
            change tm.getD 7 undef = .int .i64 (kdX n p m q c d) at h7
            subst hdf
            have htm := tmps_fold [25, 26, 27, 28, 29, 30, 31, 24, 32, 33, 34, 8, 9, 7] tm _ hz hoff
            simp only [List.foldl, List.setIfInBounds_toArray, List.set_cons_zero, List.set_cons_succ, h7] at htm
            clear hz hoff
            generalize tm.getD 25 undef = u0, tm.getD 26 undef = u1, tm.getD 27 undef = u2, tm.getD 28 undef = u3, tm.getD 29 undef = u4, tm.getD 30 undef = u5, tm.getD 31 undef = u6, tm.getD 24 undef = u7, tm.getD 32 undef = u8, tm.getD 33 undef = u9, tm.getD 34 undef = u10, tm.getD 8 undef = u11, tm.getD 9 undef = u12 at htm
            clear h7
            subst htm
            go_wp2_with fail
            go_meet
            exact ⟨rfl, hBz⟩
          case rest =>
            obtain ⟨hm, hBc⟩ := hcut
            subst hm
            have HBN := HB.trans (hBc.mono HB.size)
            clear hBc HB E0 E1 HSP HSQ i1 i2 i3 i4 j1 j2 j3 j4 b1
            by_cases hk : kdX n p m q c d = 0
            · have HK : Hid (kdX n p m q c d = 0) := hk
              rw [hk]
              clear hk
              go_wp2
              go_roundw
              case rel => exact ⟨d + 1, by omega, by go_num, fun k hk => by
                rcases Nat.lt_or_ge k d with h | h
                · exact HE.out k h
                · obtain rfl : k = d := by omega
                  exact HK.out, HBN⟩
              case measure => simp [intOf]; omega
            · have HO : Hid (rmB n p m q = true) := decide_eq_true (fun h => hk (h c hcn d hdn))
              have hk2 : (kdX n p m q c d != 0) = true := by simp [hk]
              revert hk2
              generalize kdX n p m q c d = z
              intro hk2
              have HBF := HB0.trans ((HBo.trans (HBN.mono HBo.size)).mono HB0.size)
              clear hk HBN HBo
              go_wp2
              go_ret
              exact ⟨by rw [HO.out]; rfl, HBF⟩
        · obtain rfl : d = m := by omega
          have HBN := HBo.trans (HB.mono HBo.size)
          clear HBo HB D0 D1 HSp2 HSq2
          go_wp2
          go_roundw
          case rel => exact ⟨c + 1, by omega, by go_num, fun j hj => by
            rcases Nat.lt_or_ge j c with h | h
            · exact HD.out j h
            · obtain rfl : j = c := by omega
              exact HE.out, HBN⟩
          case measure => simp [intOf]; omega
    · obtain rfl : c = n := by omega
      have HO : Hid (rmB c p m q = false) := decide_eq_false (fun h => h HD.out)
      have HBF := HB0.trans (HB.mono HB0.size)
      clear HB HD HSp HSq A0 A1
      go_wp2
      go_ret
      exact ⟨by rw [HO.out]; rfl, HBF⟩
end Go.Proofs.Ytibbjjlapglndaa
