/- Part 22 of the walks that the proof leans on. -/
import Derived.Test.YtibbjjlapglndaaGreatRz20
import Derived.Test.YtibbjjlapglndaaGreatRz21
import Derived.Test.YtibbjjlapglndaaGreatRz17
import Derived.Test.YtibbjjlapglndaaGreatRz13
import Derived.Test.YtibbjjlapglndaaGreatRz10
import Derived.Test.YtibbjjlapglndaaGreatRz8
/- Whether the sides of two rings meet: the model's region, by what each slot holds. -/
namespace Go.Proofs.YtibbjjlapglndaaGreat
open Go.RowKit
/-- The kind of meeting of a side of one ring and a side of another. -/
def kdX (n : Nat) (p : Ps) (m : Nat) (q : Ps) (i k : Nat) : Int := kndZ (sdA n p i).1 (sdA n p i).2.1 (sdA n p i).2.2.1 (sdA n p i).2.2.2 (sdA m q k).1 (sdA m q k).2.1 (sdA m q k).2.2.1 (sdA m q k).2.2.2
/-- Whether two rings meet. -/
def rmB (n : Nat) (p : Ps) (m : Nat) (q : Ps) : Bool := decide (¬ (∀ i, i < n → ∀ k, k < m → kdX n p m q i k = 0))
def VregMeet (ao bo : Option Addr) (n cap m cap2 : Nat) (p q : Ps) (c d : Nat) (B : Nat) : Nat → Value → World → Prop
  | 0, v, _ => v = .agg #[.slice ao n cap]
  | 1, v, _ => v = .int .i64 (c : Int)
  | 2, v, _ => v = Sg (sdA n p c).1 (sdA n p c).2.1 (sdA n p c).2.2.1 (sdA n p c).2.2.2
  | 3, v, _ => v = .agg #[.slice bo m cap2]
  | 4, v, _ => v = .int .i64 (d : Int)
  | 5, v, _ => v = Sg (sdA m q d).1 (sdA m q d).2.1 (sdA m q d).2.2.1 (sdA m q d).2.2.2
  | 6, v, _ => ∃ x y, Lp6 x ∧ Lp6 y ∧ v = .tuple #[.int .i64 (kdX n p m q c d), x, y]
  | 7, v, _ => ∃ x y, Lp6 x ∧ Lp6 y ∧ v = .tuple #[.int .i64 (kdX n p m q c d), x, y]
  | 8, v, _ => v = .int .i64 (kdX n p m q c d)
  | 9, v, _ => Lp6 v
  | 10, v, _ => Lp6 v
  | 11, v, W => ∃ g, v = .pointer (some ⟨g, 0, none⟩) ∧ B ≤ g ∧ BlkN W g 6
  | 12, v, W => ∃ g, v = .pointer (some ⟨g, 0, none⟩) ∧ B ≤ g ∧ BlkN W g 6
  | 13, v, _ => v = .int .i64 (kdX n p m q c d)
  | _, _, _ => True
theorem VregMeet.mono {ao bo : Option Addr} {n cap m cap2 : Nat} {p q : Ps} {c d : Nat} {B j : Nat} {v : Value} {W W2 : World} (hS : ∀ g k, BlkN W g k → BlkN W2 g k) (h : VregMeet ao bo n cap m cap2 p q c d B j v W) : VregMeet ao bo n cap m cap2 p q c d B j v W2 := by
  unfold VregMeet at *
  split <;> simp only at h <;> first | exact h | (obtain ⟨g, h1, h2, h3⟩ := h; exact ⟨g, h1, h2, hS g _ h3⟩) | trivial
set_option maxRecDepth 100000 in
set_option maxHeartbeats 4000000 in
theorem regMeet {Q : Exit → Act → World → Prop} {ao bo : Option Addr} {n cap m cap2 : Nat} {p q : Ps} {c d : Nat} {B1 B2 : Nat} {w0 : World} {a0 : Act} {id : Nat} {t0 t1 t2 t3 t4 t5 t6 t7 t8 t9 t10 t11 t12 t13 t14 t15 : TypeId} {q0 q1 q2 q3 q4 q5 q6 q7 q8 q9 q10 q11 q12 q13 q14 q15 : String}
    (hc : c < n) (hd : d < m) (hn : n ≤ 1048576) (hm : m ≤ 1048576) (hSp : SpIn w0 ao n p) (hSq : SpIn w0 bo m q) (i1 : In1 (sdA n p c).1) (i2 : In1 (sdA n p c).2.1) (i3 : In1 (sdA n p c).2.2.1) (i4 : In1 (sdA n p c).2.2.2) (j1 : In1 (sdA m q d).1) (j2 : In1 (sdA m q d).2.1) (j3 : In1 (sdA m q d).2.2.1) (j4 : In1 (sdA m q d).2.2.2) (h2 : a0.tmps[2]? = some (.pointer (some ⟨B1, 0, none⟩))) (h3 : a0.tmps[3]? = some (.pointer (some ⟨B2, 0, none⟩))) (h5 : a0.tmps[5]? = some (.int .i64 (c : Int))) (h6 : a0.tmps[6]? = some (.int .i64 (d : Int))) (k0 : w0.cell? ⟨B1, 0, none⟩ = some (.slice ao n cap)) (l0 : (⟨B1, 0, none⟩ : Addr).block < w0.heap.size) (k1 : w0.cell? ⟨B2, 0, none⟩ = some (.slice bo m cap2)) (l1 : (⟨B2, 0, none⟩ : Addr).block < w0.heap.size) (hz : a0.tmps.size = 37)
    (hQ : ∀ a W, a.tmps.size = a0.tmps.size → a.defers = a0.defers → (∀ e, e ∉ ([25, 26, 27, 28, 29, 30, 31, 24, 32, 33, 34, 8, 9, 7] : List Nat) → a.tmps[e]? = a0.tmps[e]?) → VregMeet ao bo n cap m cap2 p q c d w0.heap.size 13 (a.tmps.getD 7 undef) W → Below w0.heap.size w0 W → Q .normal a W) :
    (Code.region id #[{ dst := some 25, op := Op.load 34 (Operand.tmp 2), type := t0, pos := q0, after := #[], guard := none },
    { dst := some 26, op := Op.move (Operand.tmp 5), type := t1, pos := q1, after := #[], guard := none },
    { dst := some 27, op := Op.call { callee := Callee.value (Operand.func 55), args := #[Operand.tmp 25, Operand.tmp 26], argTypes := #[34, 3] }, type := t2, pos := q2, after := #[{ on := 0, ground := Ground.data }, { on := 1, ground := Ground.data }], guard := none },
    { dst := some 28, op := Op.load 34 (Operand.tmp 3), type := t3, pos := q3, after := #[], guard := none },
    { dst := some 29, op := Op.move (Operand.tmp 6), type := t4, pos := q4, after := #[], guard := none },
    { dst := some 30, op := Op.call { callee := Callee.value (Operand.func 55), args := #[Operand.tmp 28, Operand.tmp 29], argTypes := #[34, 3] }, type := t5, pos := q5, after := #[{ on := 3, ground := Ground.data }, { on := 4, ground := Ground.data }, { on := 2, ground := Ground.chain }], guard := none },
    { dst := some 31, op := Op.call { callee := Callee.value (Operand.func 71), args := #[Operand.tmp 27, Operand.tmp 30], argTypes := #[83, 83] }, type := t6, pos := q6, after := #[{ on := 2, ground := Ground.data }, { on := 5, ground := Ground.data }, { on := 5, ground := Ground.chain }], guard := none },
    { dst := some 24, op := Op.move (Operand.tmp 31), type := t7, pos := q7, after := #[{ on := 6, ground := Ground.data }], guard := none },
    { dst := some 32, op := Op.extract (Operand.tmp 24) 0, type := t8, pos := q8, after := #[{ on := 7, ground := Ground.data }], guard := none },
    { dst := some 33, op := Op.extract (Operand.tmp 24) 1, type := t9, pos := q9, after := #[{ on := 7, ground := Ground.data }, { on := 13, ground := Ground.gcOnly Departure.lateStores }], guard := none },
    { dst := some 34, op := Op.extract (Operand.tmp 24) 2, type := t10, pos := q10, after := #[{ on := 7, ground := Ground.data }, { on := 14, ground := Ground.gcOnly Departure.lateStores }], guard := none },
    { dst := some 8, op := Op.alloc 62, type := t11, pos := q11, after := #[], guard := none },
    { dst := some 9, op := Op.alloc 62, type := t12, pos := q12, after := #[], guard := none },
    { dst := some 7, op := Op.assign (Operand.tmp 32), type := t13, pos := q13, after := #[{ on := 8, ground := Ground.data }, { on := 6, ground := Ground.chain }, { on := 0, ground := Ground.phase }, { on := 1, ground := Ground.phase }, { on := 2, ground := Ground.phase }, { on := 3, ground := Ground.phase }, { on := 4, ground := Ground.phase }, { on := 5, ground := Ground.phase }, { on := 6, ground := Ground.phase }, { on := 7, ground := Ground.phase }, { on := 8, ground := Ground.phase }, { on := 9, ground := Ground.textOnly Departure.lateStores }, { on := 10, ground := Ground.textOnly Departure.lateStores }, { on := 11, ground := Ground.phase }, { on := 12, ground := Ground.phase }], guard := none },
    { dst := none, op := Op.store 62 (Operand.tmp 8) (Operand.tmp 33), type := t14, pos := q14, after := #[{ on := 11, ground := Ground.data }, { on := 9, ground := Ground.data }, { on := 13, ground := Ground.chain }, { on := 0, ground := Ground.phase }, { on := 1, ground := Ground.phase }, { on := 2, ground := Ground.phase }, { on := 3, ground := Ground.phase }, { on := 4, ground := Ground.phase }, { on := 5, ground := Ground.phase }, { on := 6, ground := Ground.phase }, { on := 7, ground := Ground.phase }, { on := 8, ground := Ground.phase }, { on := 9, ground := Ground.phase }, { on := 10, ground := Ground.textOnly Departure.lateStores }, { on := 11, ground := Ground.phase }, { on := 12, ground := Ground.phase }, { on := 13, ground := Ground.phase }], guard := none },
    { dst := none, op := Op.store 62 (Operand.tmp 9) (Operand.tmp 34), type := t15, pos := q15, after := #[{ on := 12, ground := Ground.data }, { on := 10, ground := Ground.data }, { on := 14, ground := Ground.chain }, { on := 0, ground := Ground.phase }, { on := 1, ground := Ground.phase }, { on := 2, ground := Ground.phase }, { on := 3, ground := Ground.phase }, { on := 4, ground := Ground.phase }, { on := 5, ground := Ground.phase }, { on := 6, ground := Ground.phase }, { on := 7, ground := Ground.phase }, { on := 8, ground := Ground.phase }, { on := 9, ground := Ground.phase }, { on := 10, ground := Ground.phase }, { on := 11, ground := Ground.phase }, { on := 12, ground := Ground.phase }, { on := 13, ground := Ground.phase }, { on := 14, ground := Ground.phase }], guard := none }] true).wp Tryz.prog Q a0 w0 := by
  have hS : distS [some 25, some 26, some 27, some 28, some 29, some 30, some 31, some 24, some 32, some 33, some 34, some 8, some 9, some 7, none, none] = true := rfl
  refine wp_region_q (by kernel_rfl) w0.heap.size [some 25, some 26, some 27, some 28, some 29, some 30, some 31, some 24, some 32, some 33, some 34, some 8, some 9, some 7, none, none] (VregMeet ao bo n cap m cap2 p q c d w0.heap.size) rfl ?_ ?_
  · intro Q l a W i o hJ hl ho hall
    have hJ2 := hJ
    obtain ⟨z1, z2, z3, z4, z5, z6, z7⟩ := hJ
    have g2 : a.tmps.getD 2 undef = .pointer (some ⟨B1, 0, none⟩) := by rw [Array.getD_eq_getD_getElem?, z4 2 (by decide), h2]; rfl
    have g3 : a.tmps.getD 3 undef = .pointer (some ⟨B2, 0, none⟩) := by rw [Array.getD_eq_getD_getElem?, z4 3 (by decide), h3]; rfl
    have g5 : a.tmps.getD 5 undef = .int .i64 (c : Int) := by rw [Array.getD_eq_getD_getElem?, z4 5 (by decide), h5]; rfl
    have g6 : a.tmps.getD 6 undef = .int .i64 (d : Int) := by rw [Array.getD_eq_getD_getElem?, z4 6 (by decide), h6]; rfl
    have c0 : W.cell? ⟨B1, 0, none⟩ = some (.slice ao n cap) := (z5.cell l0).trans k0
    have c1 : W.cell? ⟨B2, 0, none⟩ = some (.slice bo m cap2) := (z5.cell l1).trans k1
    match i, ho with
    | 0, ho =>
      cases ho
      refine wpOp_of rfl rfl ?_
      have hK := fun (v : Value) (W2 : World) hW hT hv => hJ2.put hS 0 25 rfl (by omega) (W' := W2) hW hT v hv
      clear ho hall hl hQ
      generalize InvQ w0.heap.size [some 25, some 26, some 27, some 28, some 29, some 30, some 31, some 24, some 32, some 33, some 34, some 8, some 9, some 7, none, none] (VregMeet ao bo n cap m cap2 p q c d w0.heap.size) w0 a0 (l.setIfInBounds 0 true) = K at hK ⊢
      clear hJ2 hS z1 z2 z3 z4 z6 z7
      go_simp
      exact hK _ _ z5 (fun _ _ h => h) rfl
    | 1, ho =>
      cases ho
      refine wpOp_of rfl rfl ?_
      have hK := fun (v : Value) (W2 : World) hW hT hv => hJ2.put hS 1 26 rfl (by omega) (W' := W2) hW hT v hv
      clear ho hall hl hQ
      generalize InvQ w0.heap.size [some 25, some 26, some 27, some 28, some 29, some 30, some 31, some 24, some 32, some 33, some 34, some 8, some 9, some 7, none, none] (VregMeet ao bo n cap m cap2 p q c d w0.heap.size) w0 a0 (l.setIfInBounds 1 true) = K at hK ⊢
      clear hJ2 hS z1 z2 z3 z4 z6 z7
      go_simp
      exact hK _ _ z5 (fun _ _ h => h) rfl
    | 2, ho =>
      cases ho
      refine wpOp_of rfl rfl ?_
      have f0 : (a.tmps.getD 25 undef) = .agg #[.slice ao n cap] := z6 0 25 (hall { on := 0, ground := Ground.data } (by simp) rfl) rfl
      have f1 : (a.tmps.getD 26 undef) = .int .i64 (c : Int) := z6 1 26 (hall { on := 1, ground := Ground.data } (by simp) rfl) rfl
      have hK := fun (v : Value) (W2 : World) hW hT hv => hJ2.put hS 2 27 rfl (by omega) (W' := W2) hW hT v hv
      clear ho hall hl hQ
      generalize InvQ w0.heap.size [some 25, some 26, some 27, some 28, some 29, some 30, some 31, some 24, some 32, some 33, some 34, some 8, some 9, some 7, none, none] (VregMeet ao bo n cap m cap2 p q c d w0.heap.size) w0 a0 (l.setIfInBounds 2 true) = K at hK ⊢
      clear hJ2 hS z1 z2 z3 z4 z6 z7
      go_simp
      refine (l5Side_any ao n cap p c hc hn W (hSp.step z5)).mono ?_
      rintro e v1 ⟨rfl, hBv⟩
      exact hK _ _ (z5.trans (hBv.mono z5.size)) (fun j v h => h.mono fun g k hg => hg.step hBv) rfl
    | 3, ho =>
      cases ho
      refine wpOp_of rfl rfl ?_
      have hK := fun (v : Value) (W2 : World) hW hT hv => hJ2.put hS 3 28 rfl (by omega) (W' := W2) hW hT v hv
      clear ho hall hl hQ
      generalize InvQ w0.heap.size [some 25, some 26, some 27, some 28, some 29, some 30, some 31, some 24, some 32, some 33, some 34, some 8, some 9, some 7, none, none] (VregMeet ao bo n cap m cap2 p q c d w0.heap.size) w0 a0 (l.setIfInBounds 3 true) = K at hK ⊢
      clear hJ2 hS z1 z2 z3 z4 z6 z7
      go_simp
      exact hK _ _ z5 (fun _ _ h => h) rfl
    | 4, ho =>
      cases ho
      refine wpOp_of rfl rfl ?_
      have hK := fun (v : Value) (W2 : World) hW hT hv => hJ2.put hS 4 29 rfl (by omega) (W' := W2) hW hT v hv
      clear ho hall hl hQ
      generalize InvQ w0.heap.size [some 25, some 26, some 27, some 28, some 29, some 30, some 31, some 24, some 32, some 33, some 34, some 8, some 9, some 7, none, none] (VregMeet ao bo n cap m cap2 p q c d w0.heap.size) w0 a0 (l.setIfInBounds 4 true) = K at hK ⊢
      clear hJ2 hS z1 z2 z3 z4 z6 z7
      go_simp
      exact hK _ _ z5 (fun _ _ h => h) rfl
    | 5, ho =>
      cases ho
      refine wpOp_of rfl rfl ?_
      have f3 : (a.tmps.getD 28 undef) = .agg #[.slice bo m cap2] := z6 3 28 (hall { on := 3, ground := Ground.data } (by simp) rfl) rfl
      have f4 : (a.tmps.getD 29 undef) = .int .i64 (d : Int) := z6 4 29 (hall { on := 4, ground := Ground.data } (by simp) rfl) rfl
      have hK := fun (v : Value) (W2 : World) hW hT hv => hJ2.put hS 5 30 rfl (by omega) (W' := W2) hW hT v hv
      clear ho hall hl hQ
      generalize InvQ w0.heap.size [some 25, some 26, some 27, some 28, some 29, some 30, some 31, some 24, some 32, some 33, some 34, some 8, some 9, some 7, none, none] (VregMeet ao bo n cap m cap2 p q c d w0.heap.size) w0 a0 (l.setIfInBounds 5 true) = K at hK ⊢
      clear hJ2 hS z1 z2 z3 z4 z6 z7
      go_simp
      refine (l5Side_any bo m cap2 q d hd hm W (hSq.step z5)).mono ?_
      rintro e v1 ⟨rfl, hBv⟩
      exact hK _ _ (z5.trans (hBv.mono z5.size)) (fun j v h => h.mono fun g k hg => hg.step hBv) rfl
    | 6, ho =>
      cases ho
      refine wpOp_of rfl rfl ?_
      have f2 : (a.tmps.getD 27 undef) = Sg (sdA n p c).1 (sdA n p c).2.1 (sdA n p c).2.2.1 (sdA n p c).2.2.2 := z6 2 27 (hall { on := 2, ground := Ground.data } (by simp) rfl) rfl
      have f5 : (a.tmps.getD 30 undef) = Sg (sdA m q d).1 (sdA m q d).2.1 (sdA m q d).2.2.1 (sdA m q d).2.2.2 := z6 5 30 (hall { on := 5, ground := Ground.data } (by simp) rfl) rfl
      have hK := fun (v : Value) (W2 : World) hW hT hv => hJ2.put hS 6 31 rfl (by omega) (W' := W2) hW hT v hv
      clear ho hall hl hQ
      generalize InvQ w0.heap.size [some 25, some 26, some 27, some 28, some 29, some 30, some 31, some 24, some 32, some 33, some 34, some 8, some 9, some 7, none, none] (VregMeet ao bo n cap m cap2 p q c d w0.heap.size) w0 a0 (l.setIfInBounds 6 true) = K at hK ⊢
      clear hJ2 hS z1 z2 z3 z4 z6 z7
      go_simp
      refine (l4Meet_any (sdA n p c).1 (sdA n p c).2.1 (sdA n p c).2.2.1 (sdA n p c).2.2.2 (sdA m q d).1 (sdA m q d).2.1 (sdA m q d).2.2.1 (sdA m q d).2.2.2 i1 i2 i3 i4 j1 j2 j3 j4 W).mono ?_
      rintro e v3 hmt
      obtain ⟨⟨f1, f2, f3, g1, g2, g3, k1, k2, k3, l1, l2, l3, m1, m2, m3, x1, x2, x3, y1, y2, y3, z1, z2, z3, rfl⟩, hBv⟩ := mtP_kind hmt
      exact hK _ _ (z5.trans (hBv.mono z5.size)) (fun j v h => h.mono fun g k hg => hg.step hBv) ⟨_, _, ⟨_, _, _, _, _, _, _, _, _, _, _, _, rfl⟩, ⟨_, _, _, _, _, _, _, _, _, _, _, _, rfl⟩, rfl⟩
    | 7, ho =>
      cases ho
      refine wpOp_of rfl rfl ?_
      have f6 : ∃ x y, Lp6 x ∧ Lp6 y ∧ (a.tmps.getD 31 undef) = .tuple #[.int .i64 (kdX n p m q c d), x, y] := z6 6 31 (hall { on := 6, ground := Ground.data } (by simp) rfl) rfl
      obtain ⟨x, y, hx, hy, he⟩ := f6
      have hK := fun (v : Value) (W2 : World) hW hT hv => hJ2.put hS 7 24 rfl (by omega) (W' := W2) hW hT v hv
      clear ho hall hl hQ
      generalize InvQ w0.heap.size [some 25, some 26, some 27, some 28, some 29, some 30, some 31, some 24, some 32, some 33, some 34, some 8, some 9, some 7, none, none] (VregMeet ao bo n cap m cap2 p q c d w0.heap.size) w0 a0 (l.setIfInBounds 7 true) = K at hK ⊢
      clear hJ2 hS z1 z2 z3 z4 z6 z7
      go_simp
      exact hK _ _ z5 (fun _ _ h => h) ⟨x, y, hx, hy, rfl⟩
    | 8, ho =>
      cases ho
      refine wpOp_of rfl rfl ?_
      have f7 : ∃ x y, Lp6 x ∧ Lp6 y ∧ (a.tmps.getD 24 undef) = .tuple #[.int .i64 (kdX n p m q c d), x, y] := z6 7 24 (hall { on := 7, ground := Ground.data } (by simp) rfl) rfl
      obtain ⟨x, y, hx, hy, he⟩ := f7
      have hK := fun (v : Value) (W2 : World) hW hT hv => hJ2.put hS 8 32 rfl (by omega) (W' := W2) hW hT v hv
      clear ho hall hl hQ
      generalize InvQ w0.heap.size [some 25, some 26, some 27, some 28, some 29, some 30, some 31, some 24, some 32, some 33, some 34, some 8, some 9, some 7, none, none] (VregMeet ao bo n cap m cap2 p q c d w0.heap.size) w0 a0 (l.setIfInBounds 8 true) = K at hK ⊢
      clear hJ2 hS z1 z2 z3 z4 z6 z7
      go_simp
      exact hK _ _ z5 (fun _ _ h => h) rfl
    | 9, ho =>
      cases ho
      refine wpOp_of rfl rfl ?_
      have f7 : ∃ x y, Lp6 x ∧ Lp6 y ∧ (a.tmps.getD 24 undef) = .tuple #[.int .i64 (kdX n p m q c d), x, y] := z6 7 24 (hall { on := 7, ground := Ground.data } (by simp) rfl) rfl
      obtain ⟨x, y, hx, hy, he⟩ := f7
      have hK := fun (v : Value) (W2 : World) hW hT hv => hJ2.put hS 9 33 rfl (by omega) (W' := W2) hW hT v hv
      clear ho hall hl hQ
      generalize InvQ w0.heap.size [some 25, some 26, some 27, some 28, some 29, some 30, some 31, some 24, some 32, some 33, some 34, some 8, some 9, some 7, none, none] (VregMeet ao bo n cap m cap2 p q c d w0.heap.size) w0 a0 (l.setIfInBounds 9 true) = K at hK ⊢
      clear hJ2 hS z1 z2 z3 z4 z6 z7
      go_simp
      exact hK _ _ z5 (fun _ _ h => h) hx
    | 10, ho =>
      cases ho
      refine wpOp_of rfl rfl ?_
      have f7 : ∃ x y, Lp6 x ∧ Lp6 y ∧ (a.tmps.getD 24 undef) = .tuple #[.int .i64 (kdX n p m q c d), x, y] := z6 7 24 (hall { on := 7, ground := Ground.data } (by simp) rfl) rfl
      obtain ⟨x, y, hx, hy, he⟩ := f7
      have hK := fun (v : Value) (W2 : World) hW hT hv => hJ2.put hS 10 34 rfl (by omega) (W' := W2) hW hT v hv
      clear ho hall hl hQ
      generalize InvQ w0.heap.size [some 25, some 26, some 27, some 28, some 29, some 30, some 31, some 24, some 32, some 33, some 34, some 8, some 9, some 7, none, none] (VregMeet ao bo n cap m cap2 p q c d w0.heap.size) w0 a0 (l.setIfInBounds 10 true) = K at hK ⊢
      clear hJ2 hS z1 z2 z3 z4 z6 z7
      go_simp
      exact hK _ _ z5 (fun _ _ h => h) hy
    | 11, ho =>
      cases ho
      refine wpOp_of rfl rfl ?_
      have hK := fun (v : Value) (W2 : World) hW hT hv => hJ2.put hS 11 8 rfl (by omega) (W' := W2) hW hT v hv
      clear ho hall hl hQ
      generalize InvQ w0.heap.size [some 25, some 26, some 27, some 28, some 29, some 30, some 31, some 24, some 32, some 33, some 34, some 8, some 9, some 7, none, none] (VregMeet ao bo n cap m cap2 p q c d w0.heap.size) w0 a0 (l.setIfInBounds 11 true) = K at hK ⊢
      clear hJ2 hS z1 z2 z3 z4 z6 z7
      go_simp
      exact hK _ _ (z5.alloc z5.size _) (fun j v h => h.mono fun g k hg => hg.step ((Below.refl _ _).alloc (Nat.le_refl _) _)) ⟨_, rfl, z5.size, _, rfl, Blk.new W [.bool false, .slice none 0 0, .bool false, .slice none 0 0, .bool false, .slice none 0 0] 62 rfl⟩
    | 12, ho =>
      cases ho
      refine wpOp_of rfl rfl ?_
      have hK := fun (v : Value) (W2 : World) hW hT hv => hJ2.put hS 12 9 rfl (by omega) (W' := W2) hW hT v hv
      clear ho hall hl hQ
      generalize InvQ w0.heap.size [some 25, some 26, some 27, some 28, some 29, some 30, some 31, some 24, some 32, some 33, some 34, some 8, some 9, some 7, none, none] (VregMeet ao bo n cap m cap2 p q c d w0.heap.size) w0 a0 (l.setIfInBounds 12 true) = K at hK ⊢
      clear hJ2 hS z1 z2 z3 z4 z6 z7
      go_simp
      exact hK _ _ (z5.alloc z5.size _) (fun j v h => h.mono fun g k hg => hg.step ((Below.refl _ _).alloc (Nat.le_refl _) _)) ⟨_, rfl, z5.size, _, rfl, Blk.new W [.bool false, .slice none 0 0, .bool false, .slice none 0 0, .bool false, .slice none 0 0] 62 rfl⟩
    | 13, ho =>
      cases ho
      refine wpOp_of rfl rfl ?_
      have f8 : (a.tmps.getD 32 undef) = .int .i64 (kdX n p m q c d) := z6 8 32 (hall { on := 8, ground := Ground.data } (by simp) rfl) rfl
      have hK := fun (v : Value) (W2 : World) hW hT hv => hJ2.put hS 13 7 rfl (by omega) (W' := W2) hW hT v hv
      clear ho hall hl hQ
      generalize InvQ w0.heap.size [some 25, some 26, some 27, some 28, some 29, some 30, some 31, some 24, some 32, some 33, some 34, some 8, some 9, some 7, none, none] (VregMeet ao bo n cap m cap2 p q c d w0.heap.size) w0 a0 (l.setIfInBounds 13 true) = K at hK ⊢
      clear hJ2 hS z1 z2 z3 z4 z6 z7
      go_simp
      exact hK _ _ z5 (fun _ _ h => h) rfl
    | 14, ho =>
      cases ho
      refine wpOp_of rfl rfl ?_
      have f11 : ∃ g, (a.tmps.getD 8 undef) = .pointer (some ⟨g, 0, none⟩) ∧ w0.heap.size ≤ g ∧ BlkN W g 6 := z6 11 8 (hall { on := 11, ground := Ground.data } (by simp) rfl) rfl
      obtain ⟨g, hg, hgB, vs, hvs, G⟩ := f11
      have f9 : Lp6 (a.tmps.getD 33 undef) := z6 9 33 (hall { on := 9, ground := Ground.data } (by simp) rfl) rfl
      obtain ⟨s1, s2, s3, k1, k2, k3, m1, m2, m3, x1, x2, x3, hx⟩ := f9
      have hK := fun (W2 : World) hW hT hv => hJ2.world 14 rfl (W' := W2) hW hT hv
      clear ho hall hl hQ
      generalize InvQ w0.heap.size [some 25, some 26, some 27, some 28, some 29, some 30, some 31, some 24, some 32, some 33, some 34, some 8, some 9, some 7, none, none] (VregMeet ao bo n cap m cap2 p q c d w0.heap.size) w0 a0 (l.setIfInBounds 14 true) = K at hK ⊢
      clear hJ2 hS z1 z2 z3 z4 z6 z7
      obtain ⟨v0, v1, v2, v3, v4, v5, rfl⟩ : ∃ v0 v1 v2 v3 v4 v5, vs = [v0, v1, v2, v3, v4, v5] := by match vs, hvs with | [v0, v1, v2, v3, v4, v5], _ => exact ⟨_, _, _, _, _, _, rfl⟩
      have b0 := G.c 0 rfl; have r0 := G.f 0 rfl
      have b1 := G.c 1 rfl; have r1 := G.f 1 rfl
      have b2 := G.c 2 rfl; have r2 := G.f 2 rfl
      have b3 := G.c 3 rfl; have r3 := G.f 3 rfl
      have b4 := G.c 4 rfl; have r4 := G.f 4 rfl
      have b5 := G.c 5 rfl; have r5 := G.f 5 rfl
      have hlt := G.lt
      clear G
      go_simp
      exact hK _ (below_set6 z5 hgB) (fun j v h => h.mono fun g2 k hg => (((((hg.set _ 0 _).set _ 1 _).set _ 2 _).set _ 3 _).set _ 4 _).set _ 5 _) trivial
    | 15, ho =>
      cases ho
      refine wpOp_of rfl rfl ?_
      have f12 : ∃ g, (a.tmps.getD 9 undef) = .pointer (some ⟨g, 0, none⟩) ∧ w0.heap.size ≤ g ∧ BlkN W g 6 := z6 12 9 (hall { on := 12, ground := Ground.data } (by simp) rfl) rfl
      obtain ⟨g, hg, hgB, vs, hvs, G⟩ := f12
      have f10 : Lp6 (a.tmps.getD 34 undef) := z6 10 34 (hall { on := 10, ground := Ground.data } (by simp) rfl) rfl
      obtain ⟨s1, s2, s3, k1, k2, k3, m1, m2, m3, x1, x2, x3, hx⟩ := f10
      have hK := fun (W2 : World) hW hT hv => hJ2.world 15 rfl (W' := W2) hW hT hv
      clear ho hall hl hQ
      generalize InvQ w0.heap.size [some 25, some 26, some 27, some 28, some 29, some 30, some 31, some 24, some 32, some 33, some 34, some 8, some 9, some 7, none, none] (VregMeet ao bo n cap m cap2 p q c d w0.heap.size) w0 a0 (l.setIfInBounds 15 true) = K at hK ⊢
      clear hJ2 hS z1 z2 z3 z4 z6 z7
      obtain ⟨v0, v1, v2, v3, v4, v5, rfl⟩ : ∃ v0 v1 v2 v3 v4 v5, vs = [v0, v1, v2, v3, v4, v5] := by match vs, hvs with | [v0, v1, v2, v3, v4, v5], _ => exact ⟨_, _, _, _, _, _, rfl⟩
      have b0 := G.c 0 rfl; have r0 := G.f 0 rfl
      have b1 := G.c 1 rfl; have r1 := G.f 1 rfl
      have b2 := G.c 2 rfl; have r2 := G.f 2 rfl
      have b3 := G.c 3 rfl; have r3 := G.f 3 rfl
      have b4 := G.c 4 rfl; have r4 := G.f 4 rfl
      have b5 := G.c 5 rfl; have r5 := G.f 5 rfl
      have hlt := G.lt
      clear G
      go_simp
      exact hK _ (below_set6 z5 hgB) (fun j v h => h.mono fun g2 k hg => (((((hg.set _ 0 _).set _ 1 _).set _ 2 _).set _ 3 _).set _ 4 _).set _ 5 _) trivial
    | i + 16, ho => simp at ho
  · intro l a W hJ hr
    obtain ⟨z1, z2, z3, z4, z5, z6, z7⟩ := hJ
    have hl := listed_of hr [0, 1, 2, 3, 4, 5, 6, 7, 8, 11, 12, 13] [] (by simp) (by kernel_rfl) (by rw [z1]; decide)
    exact hQ a W z2 z3 (fun e he => z4 e (by simpa using he)) (z6 13 7 (hl 13 (by simp)) rfl) z5
end Go.Proofs.YtibbjjlapglndaaGreat

/- Whether two rings meet: the model's walk. -/
namespace Go.Proofs.YtibbjjlapglndaaGreat
open Go.RowKit
/-- What is asked of a ring whose sides are gone through. -/
structure RgOk (n : Nat) (p : Ps) : Prop where
  h3 : 3 ≤ n
  h12 : n ≤ 12
  ok : ∀ i, i < n → spotOk (p i).1 (p i).2 = true
  one : OneN n p
theorem rgF_ok {n : Nat} {p : Ps} (h : rgF n p = 0) : RgOk n p := by
  unfold rgF at h
  repeat' split at h
  all_goals first | omega | skip
  rename_i h1 h2 h3 h4 h5
  exact ⟨by omega, by omega, Decidable.not_not.1 h3, Decidable.not_not.1 h4⟩
set_option maxRecDepth 100000 in
set_option maxHeartbeats 8000000 in
theorem l5Meet_any (ao bo : Option Addr) (n cap m cap2 : Nat) (p q : Ps) (hp : RgOk n p) (hq : RgOk m q) (w : World) (hSp : SpIn w ao n p) (hSq : SpIn w bo m q) : Calls Tryz.prog 36 #[.agg #[.slice ao n cap], .agg #[.slice bo m cap2]] w (VP (.bool (rmB n p m q)) w) := by
  have A0 := (Blk.new w [.slice ao n cap] 34 rfl).alloc (.cells #[.slice bo m cap2] 34)
  have A1 := Blk.new (w.alloc (.cells #[.slice ao n cap] 34)) [.slice bo m cap2] 34 (g := w.heap.size + 1) (by simp)
  have HB0 : Below w.heap.size w ((w.alloc (.cells #[.slice ao n cap] 34)).alloc (.cells #[.slice bo m cap2] 34)) := ((Below.refl _ w).alloc (Nat.le_refl _) _).alloc (by simp) _
  have HP : Hid (RgOk n p) := hp
  have HQ : Hid (RgOk m q) := hq
  have h12 := hp.h12
  have m12 := hq.h12
  have hnI : (n : Int) ≤ 12 := by omega
  have hmI : (m : Int) ≤ 12 := by omega
  have HSp : Hid (SpIn ((w.alloc (.cells #[.slice ao n cap] 34)).alloc (.cells #[.slice bo m cap2] 34)) ao n p) := hSp.step HB0
  have HSq : Hid (SpIn ((w.alloc (.cells #[.slice ao n cap] 34)).alloc (.cells #[.slice bo m cap2] 34)) bo m q) := hSq.step HB0
  clear hSp hSq hp hq
  go_enter Tryz.func36, Tryz.ntmps36
  go_wp2_with fail
  generalize ((w.alloc (.cells #[.slice ao n cap] 34)).alloc (.cells #[.slice bo m cap2] 34)) = W1 at *
  go_loopw [5] (fun i wr => ∃ c : Nat, c ≤ n ∧ i = .int .i64 c ∧ (∀ j, j < c → ∀ k, k < m → kdX n p m q j k = 0) ∧ Below W1.heap.size W1 wr) (fun i _ => n - (intOf i).toNat)
  case atStart => exact ⟨0, by omega, rfl, fun j hj => by omega, Below.refl _ _⟩
  case round =>
    obtain ⟨c, hc, rfl, hall, HB⟩ := hrel
    have HD : Hid (∀ j, j < c → ∀ k, k < m → kdX n p m q j k = 0) := hall
    clear hall
    have b0 := (A0.step HB).c 0 rfl
    by_cases hcn : c < n
    · have hcI : (c : Int) < n := by omega
      have HBo := HB
      have HSp2 : Hid (SpIn wr ao n p) := HSp.out.step HB
      have HSq2 : Hid (SpIn wr bo m q) := HSq.out.step HB
      have D0 := A0.step HB
      have D1 := A1.step HB
      clear HB
      go_wp2_with fail
      clear b0
      generalize wr = W4 at *
      go_loopw [6] (fun i wr => ∃ d : Nat, d ≤ m ∧ i = .int .i64 d ∧ (∀ k, k < d → kdX n p m q c k = 0) ∧ Below W4.heap.size W4 wr) (fun i _ => m - (intOf i).toNat)
      case atStart => exact ⟨0, by omega, rfl, fun j hj => by omega, Below.refl _ _⟩
      case round =>
        rename_i hrel
        obtain ⟨d, hd, rfl, hall, HB⟩ := hrel
        have HE : Hid (∀ k, k < d → kdX n p m q c k = 0) := hall
        clear hall
        have b1 := (D1.step HB).c 0 rfl
        by_cases hdn : d < m
        · have hdI : (d : Int) < m := by omega
          have E0 := D0.step HB
          have E1 := D1.step HB
          have SP := HSp2.out.step HB
          have SQ := HSq2.out.step HB
          obtain ⟨i1, i2, i3, i4⟩ := in1_seg (side_ok HP.out.ok HP.out.one HP.out.h3 hcn)
          obtain ⟨j1, j2, j3, j4⟩ := in1_seg (side_ok HQ.out.ok HQ.out.one HQ.out.h3 hdn)
          have HSP : Hid (SpIn wr ao n p) := SP
          have HSQ : Hid (SpIn wr bo m q) := SQ
          clear SP SQ
          go_upto_region 7 with fail
          go_cut [7] (fun z wx => z = .int .i64 (kdX n p m q c d) ∧ Below wr.heap.size wr wx)
          case first =>
            clear b1 HE HD HSp HSq HSp2 HSq2
            refine regMeet (c := c) (d := d) hcn hdn (by omega) (by omega) HSP.out HSQ.out i1 i2 i3 i4 j1 j2 j3 j4 rfl rfl rfl rfl (E0.c 0 rfl) E0.lt (E1.c 0 rfl) E1.lt rfl ?_
            rintro ⟨tm, df⟩ Wz hz hdf hoff h7 hBz
            simp only at hz hdf hoff h7
            change tm.getD 7 undef = .int .i64 (kdX n p m q c d) at h7
            subst hdf
            have htm := tmps_fold [25, 26, 27, 28, 29, 30, 31, 24, 32, 33, 34, 8, 9, 7] tm _ hz hoff
            simp only [List.foldl, List.setIfInBounds_toArray, List.set_cons_zero, List.set_cons_succ, h7] at htm
            clear hz hoff
            generalize tm.getD 25 undef = u0, tm.getD 26 undef = u1, tm.getD 27 undef = u2, tm.getD 28 undef = u3, tm.getD 29 undef = u4, tm.getD 30 undef = u5, tm.getD 31 undef = u6, tm.getD 24 undef = u7, tm.getD 32 undef = u8, tm.getD 33 undef = u9, tm.getD 34 undef = u10, tm.getD 8 undef = u11, tm.getD 9 undef = u12 at htm
            clear h7
            subst htm
            go_wp2_with fail
            go_meet
            exact ⟨rfl, hBz⟩
          case rest =>
            obtain ⟨hm, hBc⟩ := hcut
            subst hm
            have HBN := HB.trans (hBc.mono HB.size)
            clear hBc HB E0 E1 HSP HSQ i1 i2 i3 i4 j1 j2 j3 j4 b1
            by_cases hk : kdX n p m q c d = 0
            · have HK : Hid (kdX n p m q c d = 0) := hk
              rw [hk]
              clear hk
              go_wp2
              go_roundw
              case rel => exact ⟨d + 1, by omega, by go_num, fun k hk => by
                rcases Nat.lt_or_ge k d with h | h
                · exact HE.out k h
                · obtain rfl : k = d := by omega
                  exact HK.out, HBN⟩
              case measure => simp [intOf]; omega
            · have HO : Hid (rmB n p m q = true) := decide_eq_true (fun h => hk (h c hcn d hdn))
              have hk2 : (kdX n p m q c d != 0) = true := by simp [hk]
              revert hk2
              generalize kdX n p m q c d = z
              intro hk2
              have HBF := HB0.trans ((HBo.trans (HBN.mono HBo.size)).mono HB0.size)
              clear hk HBN HBo
              go_wp2
              go_ret
              exact ⟨by rw [HO.out]; rfl, HBF⟩
        · obtain rfl : d = m := by omega
          have HBN := HBo.trans (HB.mono HBo.size)
          clear HBo HB D0 D1 HSp2 HSq2
          go_wp2
          go_roundw
          case rel => exact ⟨c + 1, by omega, by go_num, fun j hj => by
            rcases Nat.lt_or_ge j c with h | h
            · exact HD.out j h
            · obtain rfl : j = c := by omega
              exact HE.out, HBN⟩
          case measure => simp [intOf]; omega
    · obtain rfl : c = n := by omega
      have HO : Hid (rmB c p m q = false) := decide_eq_false (fun h => h HD.out)
      have HBF := HB0.trans (HB.mono HB0.size)
      clear HB HD HSp HSq A0 A1
      go_wp2
      go_ret
      exact ⟨by rw [HO.out]; rfl, HBF⟩
end Go.Proofs.YtibbjjlapglndaaGreat

/- On which side of a ring a point lies: the model's walk. -/
namespace Go.Proofs.YtibbjjlapglndaaGreat
open Go.RowKit
/-- A point of the model, by its numbers. -/
def L3W (x y z : Int) (v : Value) (W : World) : Prop :=
  ∃ (s1 : Bool) (o1 : Option Addr) (n1 c1 : Nat) (d1 : List Int) (s2 : Bool) (o2 : Option Addr) (n2 c2 : Nat) (d2 : List Int) (s3 : Bool) (o3 : Option Addr) (n3 c3 : Nat) (d3 : List Int), v = .agg #[.bool s1, .slice o1 n1 c1, .bool s2, .slice o2 n2 c2, .bool s3, .slice o3 n3 c3] ∧ IsNum W s1 o1 n1 c1 d1 x 8 ∧ IsNum W s2 o2 n2 c2 d2 y 8 ∧ IsNum W s3 o3 n3 c3 d3 z 8
theorem L3W.step {x y z : Int} {v : Value} {W W2 : World} (h : L3W x y z v W) (hB : Below W.heap.size W W2) : L3W x y z v W2 := by
  obtain ⟨s1, o1, n1, c1, d1, s2, o2, n2, c2, d2, s3, o3, n3, c3, d3, e, N1, N2, N3⟩ := h
  exact ⟨s1, o1, n1, c1, d1, s2, o2, n2, c2, d2, s3, o3, n3, c3, d3, e, N1.below hB, N2.below hB, N3.below hB⟩
def VregCuts (a b c d x y z : Int) (Bs : Nat) (rs1 rs2 rs3 : Bool) (ro1 ro2 ro3 : Option Addr) (rn1 rc1 rn2 rc2 rn3 rc3 : Nat) (_B : Nat) : Nat → Value → World → Prop
  | 0, v, _ => v = .pointer (some ⟨Bs, 0, none⟩)
  | 1, v, _ => v = Sp a b
  | 2, v, W => L3W a b 1 v W
  | 3, v, _ => v = .pointer (some ⟨Bs, 2, none⟩)
  | 4, v, _ => v = Sp c d
  | 5, v, W => L3W c d 1 v W
  | 6, v, _ => v = .agg #[.bool rs1, .slice ro1 rn1 rc1, .bool rs2, .slice ro2 rn2 rc2, .bool rs3, .slice ro3 rn3 rc3]
  | 7, v, _ => v = .bool (ctB a b 1 c d 1 x y z)
  | _, _, _ => True
theorem VregCuts.mono {a b c d x y z : Int} {Bs : Nat} {rs1 rs2 rs3 : Bool} {ro1 ro2 ro3 : Option Addr} {rn1 rc1 rn2 rc2 rn3 rc3 : Nat} {B j : Nat} {v : Value} {W W2 : World} (hB : Below W.heap.size W W2) (h : VregCuts a b c d x y z Bs rs1 rs2 rs3 ro1 ro2 ro3 rn1 rc1 rn2 rc2 rn3 rc3 B j v W) : VregCuts a b c d x y z Bs rs1 rs2 rs3 ro1 ro2 ro3 rn1 rc1 rn2 rc2 rn3 rc3 B j v W2 := by
  unfold VregCuts at *
  split <;> simp only at h <;> first | exact h | exact h.step hB | trivial
set_option maxRecDepth 100000 in
set_option maxHeartbeats 4000000 in
theorem regCuts {Q : Exit → Act → World → Prop} {a b c d x y z : Int} {Bs : Nat} {rs1 rs2 rs3 : Bool} {ro1 ro2 ro3 : Option Addr} {rn1 rc1 rn2 rc2 rn3 rc3 : Nat} {Bp : Nat} {rd1 rd2 rd3 : List Int} {w0 : World} {a0 : Act} {idq : Nat} {t0 t1 t2 t3 t4 t5 t6 t7 : TypeId} {q0 q1 q2 q3 q4 q5 q6 q7 : String}
    (ia : -1000000 ≤ a ∧ a ≤ 1000000) (ib : -1000000 ≤ b ∧ b ≤ 1000000) (ic : -1000000 ≤ c ∧ c ≤ 1000000) (jd : -1000000 ≤ d ∧ d ≤ 1000000) (Nr1 : IsNum w0 rs1 ro1 rn1 rc1 rd1 x 8) (Nr2 : IsNum w0 rs2 ro2 rn2 rc2 rd2 y 8) (Nr3 : IsNum w0 rs3 ro3 rn3 rc3 rd3 z 8) (h3 : a0.tmps[3]? = some (.pointer (some ⟨Bp, 0, none⟩))) (h7 : a0.tmps[7]? = some (.pointer (some ⟨Bs, 0, none⟩))) (k0 : w0.cell? ⟨Bs, 0, none⟩ = some (.int .i64 a)) (l0 : (⟨Bs, 0, none⟩ : Addr).block < w0.heap.size) (k1 : w0.cell? ⟨Bs, 1, none⟩ = some (.int .i64 b)) (l1 : (⟨Bs, 1, none⟩ : Addr).block < w0.heap.size) (k2 : w0.cell? ⟨Bs, 2, none⟩ = some (.int .i64 c)) (l2 : (⟨Bs, 2, none⟩ : Addr).block < w0.heap.size) (k3 : w0.cell? ⟨Bs, 3, none⟩ = some (.int .i64 d)) (l3 : (⟨Bs, 3, none⟩ : Addr).block < w0.heap.size) (k4 : w0.cell? ⟨Bp, 0, none⟩ = some (.bool rs1)) (l4 : (⟨Bp, 0, none⟩ : Addr).block < w0.heap.size) (k5 : w0.cell? ⟨Bp, 1, none⟩ = some (.slice ro1 rn1 rc1)) (l5 : (⟨Bp, 1, none⟩ : Addr).block < w0.heap.size) (k6 : w0.cell? ⟨Bp, 2, none⟩ = some (.bool rs2)) (l6 : (⟨Bp, 2, none⟩ : Addr).block < w0.heap.size) (k7 : w0.cell? ⟨Bp, 3, none⟩ = some (.slice ro2 rn2 rc2)) (l7 : (⟨Bp, 3, none⟩ : Addr).block < w0.heap.size) (k8 : w0.cell? ⟨Bp, 4, none⟩ = some (.bool rs3)) (l8 : (⟨Bp, 4, none⟩ : Addr).block < w0.heap.size) (k9 : w0.cell? ⟨Bp, 5, none⟩ = some (.slice ro3 rn3 rc3)) (l9 : (⟨Bp, 5, none⟩ : Addr).block < w0.heap.size) (hz : a0.tmps.size = 32)
    (hQ : ∀ aq W, aq.tmps.size = a0.tmps.size → aq.defers = a0.defers → (∀ e, e ∉ ([21, 22, 23, 24, 25, 26, 27, 28] : List Nat) → aq.tmps[e]? = a0.tmps[e]?) → VregCuts a b c d x y z Bs rs1 rs2 rs3 ro1 ro2 ro3 rn1 rc1 rn2 rc2 rn3 rc3 w0.heap.size 7 (aq.tmps.getD 28 undef) W → Below w0.heap.size w0 W → Q .normal aq W) :
    (Code.region idq #[{ dst := some 21, op := Op.fieldAddr 83 (Operand.tmp 7) 0, type := t0, pos := q0, after := #[], guard := none },
    { dst := some 22, op := Op.load 81 (Operand.tmp 21), type := t1, pos := q1, after := #[{ on := 0, ground := Ground.data }], guard := none },
    { dst := some 23, op := Op.call { callee := Callee.value (Operand.func 58), args := #[Operand.tmp 22], argTypes := #[81] }, type := t2, pos := q2, after := #[{ on := 1, ground := Ground.data }], guard := none },
    { dst := some 24, op := Op.fieldAddr 83 (Operand.tmp 7) 1, type := t3, pos := q3, after := #[], guard := none },
    { dst := some 25, op := Op.load 81 (Operand.tmp 24), type := t4, pos := q4, after := #[{ on := 3, ground := Ground.data }], guard := none },
    { dst := some 26, op := Op.call { callee := Callee.value (Operand.func 58), args := #[Operand.tmp 25], argTypes := #[81] }, type := t5, pos := q5, after := #[{ on := 4, ground := Ground.data }, { on := 2, ground := Ground.chain }], guard := none },
    { dst := some 27, op := Op.load 62 (Operand.tmp 3), type := t6, pos := q6, after := #[], guard := none },
    { dst := some 28, op := Op.call { callee := Callee.value (Operand.func 57), args := #[Operand.tmp 23, Operand.tmp 26, Operand.tmp 27], argTypes := #[62, 62, 62] }, type := t7, pos := q7, after := #[{ on := 2, ground := Ground.data }, { on := 5, ground := Ground.data }, { on := 6, ground := Ground.data }, { on := 5, ground := Ground.chain }], guard := none }] true).wp Tryz.prog Q a0 w0 := by
  have hS : distS [some 21, some 22, some 23, some 24, some 25, some 26, some 27, some 28] = true := rfl
  refine wp_region_q (by kernel_rfl) w0.heap.size [some 21, some 22, some 23, some 24, some 25, some 26, some 27, some 28] (VregCuts a b c d x y z Bs rs1 rs2 rs3 ro1 ro2 ro3 rn1 rc1 rn2 rc2 rn3 rc3 w0.heap.size) rfl ?_ ?_
  · intro Q lq aq W iq oq hJ hl ho hall
    have hJ2 := hJ
    obtain ⟨z1, z2, z3, z4, z5, z6, z7⟩ := hJ
    have g3 : aq.tmps.getD 3 undef = .pointer (some ⟨Bp, 0, none⟩) := by rw [Array.getD_eq_getD_getElem?, z4 3 (by decide), h3]; rfl
    have g7 : aq.tmps.getD 7 undef = .pointer (some ⟨Bs, 0, none⟩) := by rw [Array.getD_eq_getD_getElem?, z4 7 (by decide), h7]; rfl
    have c0 : W.cell? ⟨Bs, 0, none⟩ = some (.int .i64 a) := (z5.cell l0).trans k0
    have c1 : W.cell? ⟨Bs, 1, none⟩ = some (.int .i64 b) := (z5.cell l1).trans k1
    have c2 : W.cell? ⟨Bs, 2, none⟩ = some (.int .i64 c) := (z5.cell l2).trans k2
    have c3 : W.cell? ⟨Bs, 3, none⟩ = some (.int .i64 d) := (z5.cell l3).trans k3
    have c4 : W.cell? ⟨Bp, 0, none⟩ = some (.bool rs1) := (z5.cell l4).trans k4
    have c5 : W.cell? ⟨Bp, 1, none⟩ = some (.slice ro1 rn1 rc1) := (z5.cell l5).trans k5
    have c6 : W.cell? ⟨Bp, 2, none⟩ = some (.bool rs2) := (z5.cell l6).trans k6
    have c7 : W.cell? ⟨Bp, 3, none⟩ = some (.slice ro2 rn2 rc2) := (z5.cell l7).trans k7
    have c8 : W.cell? ⟨Bp, 4, none⟩ = some (.bool rs3) := (z5.cell l8).trans k8
    have c9 : W.cell? ⟨Bp, 5, none⟩ = some (.slice ro3 rn3 rc3) := (z5.cell l9).trans k9
    match iq, ho with
    | 0, ho =>
      cases ho
      refine wpOp_of rfl rfl ?_
      have hK := fun (v : Value) (W2 : World) hW hT hv => hJ2.put hS 0 21 rfl (by omega) (W' := W2) hW hT v hv
      clear ho hall hl hQ
      generalize InvQ w0.heap.size [some 21, some 22, some 23, some 24, some 25, some 26, some 27, some 28] (VregCuts a b c d x y z Bs rs1 rs2 rs3 ro1 ro2 ro3 rn1 rc1 rn2 rc2 rn3 rc3 w0.heap.size) w0 a0 (lq.setIfInBounds 0 true) = K at hK ⊢
      clear hJ2 hS z1 z2 z3 z4 z6 z7
      go_simp
      exact hK _ _ z5 (fun _ _ h => h) rfl
    | 1, ho =>
      cases ho
      refine wpOp_of rfl rfl ?_
      have f0 : (aq.tmps.getD 21 undef) = .pointer (some ⟨Bs, 0, none⟩) := z6 0 21 (hall { on := 0, ground := Ground.data } (by simp) rfl) rfl
      have hK := fun (v : Value) (W2 : World) hW hT hv => hJ2.put hS 1 22 rfl (by omega) (W' := W2) hW hT v hv
      clear ho hall hl hQ
      generalize InvQ w0.heap.size [some 21, some 22, some 23, some 24, some 25, some 26, some 27, some 28] (VregCuts a b c d x y z Bs rs1 rs2 rs3 ro1 ro2 ro3 rn1 rc1 rn2 rc2 rn3 rc3 w0.heap.size) w0 a0 (lq.setIfInBounds 1 true) = K at hK ⊢
      clear hJ2 hS z1 z2 z3 z4 z6 z7
      go_simp
      exact hK _ _ z5 (fun _ _ h => h) rfl
    | 2, ho =>
      cases ho
      refine wpOp_of rfl rfl ?_
      have f1 : (aq.tmps.getD 22 undef) = Sp a b := z6 1 22 (hall { on := 1, ground := Ground.data } (by simp) rfl) rfl
      have hK := fun (v : Value) (W2 : World) hW hT hv => hJ2.put hS 2 23 rfl (by omega) (W' := W2) hW hT v hv
      clear ho hall hl hQ
      generalize InvQ w0.heap.size [some 21, some 22, some 23, some 24, some 25, some 26, some 27, some 28] (VregCuts a b c d x y z Bs rs1 rs2 rs3 ro1 ro2 ro3 rn1 rc1 rn2 rc2 rn3 rc3 w0.heap.size) w0 a0 (lq.setIfInBounds 2 true) = K at hK ⊢
      clear hJ2 hS z1 z2 z3 z4 z6 z7
      go_simp
      refine (l3Spot_det a b ia ib W).mono ?_
      rintro e v1 ⟨s1, o1, n1, m1, e1, s2, o2, n2, m2, e2, s3, o3, n3, m3, e3, rfl, N1, N2, N3, hBv⟩
      exact hK _ _ (z5.trans (hBv.mono z5.size)) (fun j v h => h.mono hBv) ⟨_, _, _, _, _, _, _, _, _, _, _, _, _, _, _, rfl, N1, N2, N3⟩
    | 3, ho =>
      cases ho
      refine wpOp_of rfl rfl ?_
      have hK := fun (v : Value) (W2 : World) hW hT hv => hJ2.put hS 3 24 rfl (by omega) (W' := W2) hW hT v hv
      clear ho hall hl hQ
      generalize InvQ w0.heap.size [some 21, some 22, some 23, some 24, some 25, some 26, some 27, some 28] (VregCuts a b c d x y z Bs rs1 rs2 rs3 ro1 ro2 ro3 rn1 rc1 rn2 rc2 rn3 rc3 w0.heap.size) w0 a0 (lq.setIfInBounds 3 true) = K at hK ⊢
      clear hJ2 hS z1 z2 z3 z4 z6 z7
      go_simp
      exact hK _ _ z5 (fun _ _ h => h) rfl
    | 4, ho =>
      cases ho
      refine wpOp_of rfl rfl ?_
      have f3 : (aq.tmps.getD 24 undef) = .pointer (some ⟨Bs, 2, none⟩) := z6 3 24 (hall { on := 3, ground := Ground.data } (by simp) rfl) rfl
      have hK := fun (v : Value) (W2 : World) hW hT hv => hJ2.put hS 4 25 rfl (by omega) (W' := W2) hW hT v hv
      clear ho hall hl hQ
      generalize InvQ w0.heap.size [some 21, some 22, some 23, some 24, some 25, some 26, some 27, some 28] (VregCuts a b c d x y z Bs rs1 rs2 rs3 ro1 ro2 ro3 rn1 rc1 rn2 rc2 rn3 rc3 w0.heap.size) w0 a0 (lq.setIfInBounds 4 true) = K at hK ⊢
      clear hJ2 hS z1 z2 z3 z4 z6 z7
      go_simp
      exact hK _ _ z5 (fun _ _ h => h) rfl
    | 5, ho =>
      cases ho
      refine wpOp_of rfl rfl ?_
      have f4 : (aq.tmps.getD 25 undef) = Sp c d := z6 4 25 (hall { on := 4, ground := Ground.data } (by simp) rfl) rfl
      have hK := fun (v : Value) (W2 : World) hW hT hv => hJ2.put hS 5 26 rfl (by omega) (W' := W2) hW hT v hv
      clear ho hall hl hQ
      generalize InvQ w0.heap.size [some 21, some 22, some 23, some 24, some 25, some 26, some 27, some 28] (VregCuts a b c d x y z Bs rs1 rs2 rs3 ro1 ro2 ro3 rn1 rc1 rn2 rc2 rn3 rc3 w0.heap.size) w0 a0 (lq.setIfInBounds 5 true) = K at hK ⊢
      clear hJ2 hS z1 z2 z3 z4 z6 z7
      go_simp
      refine (l3Spot_det c d ic jd W).mono ?_
      rintro e v1 ⟨s1, o1, n1, m1, e1, s2, o2, n2, m2, e2, s3, o3, n3, m3, e3, rfl, N1, N2, N3, hBv⟩
      exact hK _ _ (z5.trans (hBv.mono z5.size)) (fun j v h => h.mono hBv) ⟨_, _, _, _, _, _, _, _, _, _, _, _, _, _, _, rfl, N1, N2, N3⟩
    | 6, ho =>
      cases ho
      refine wpOp_of rfl rfl ?_
      have hK := fun (v : Value) (W2 : World) hW hT hv => hJ2.put hS 6 27 rfl (by omega) (W' := W2) hW hT v hv
      clear ho hall hl hQ
      generalize InvQ w0.heap.size [some 21, some 22, some 23, some 24, some 25, some 26, some 27, some 28] (VregCuts a b c d x y z Bs rs1 rs2 rs3 ro1 ro2 ro3 rn1 rc1 rn2 rc2 rn3 rc3 w0.heap.size) w0 a0 (lq.setIfInBounds 6 true) = K at hK ⊢
      clear hJ2 hS z1 z2 z3 z4 z6 z7
      go_simp
      exact hK _ _ z5 (fun _ _ h => h) rfl
    | 7, ho =>
      cases ho
      refine wpOp_of rfl rfl ?_
      have f2 : L3W a b 1 (aq.tmps.getD 23 undef) W := z6 2 23 (hall { on := 2, ground := Ground.data } (by simp) rfl) rfl
      obtain ⟨ps1, po1, pn1, pc1, pd1, ps2, po2, pn2, pc2, pd2, ps3, po3, pn3, pc3, pd3, pe, P1, P2, P3⟩ := f2
      have f5 : L3W c d 1 (aq.tmps.getD 26 undef) W := z6 5 26 (hall { on := 5, ground := Ground.data } (by simp) rfl) rfl
      obtain ⟨qs1, qo1, qn1, qc1, qd1, qs2, qo2, qn2, qc2, qd2, qs3, qo3, qn3, qc3, qd3, qe, Q1, Q2, Q3⟩ := f5
      have f6 : (aq.tmps.getD 27 undef) = .agg #[.bool rs1, .slice ro1 rn1 rc1, .bool rs2, .slice ro2 rn2 rc2, .bool rs3, .slice ro3 rn3 rc3] := z6 6 27 (hall { on := 6, ground := Ground.data } (by simp) rfl) rfl
      have hK := fun (v : Value) (W2 : World) hW hT hv => hJ2.put hS 7 28 rfl (by omega) (W' := W2) hW hT v hv
      clear ho hall hl hQ
      generalize InvQ w0.heap.size [some 21, some 22, some 23, some 24, some 25, some 26, some 27, some 28] (VregCuts a b c d x y z Bs rs1 rs2 rs3 ro1 ro2 ro3 rn1 rc1 rn2 rc2 rn3 rc3 w0.heap.size) w0 a0 (lq.setIfInBounds 7 true) = K at hK ⊢
      clear hJ2 hS z1 z2 z3 z4 z6 z7
      go_simp
      refine (l5Cuts_any ps1 ps2 ps3 po1 po2 po3 pn1 pc1 pn2 pc2 pn3 pc3 qs1 qs2 qs3 qo1 qo2 qo3 qn1 qc1 qn2 qc2 qn3 qc3 rs1 rs2 rs3 ro1 ro2 ro3 rn1 rc1 rn2 rc2 rn3 rc3 pd1 pd2 pd3 qd1 qd2 qd3 rd1 rd2 rd3 a b 1 c d 1 x y z 8 (by omega) W P1 P2 P3 Q1 Q2 Q3 (Nr1.below z5) (Nr2.below z5) (Nr3.below z5)).mono ?_
      rintro e v1 ⟨rfl, hBv⟩
      exact hK _ _ (z5.trans (hBv.mono z5.size)) (fun j v h => h.mono hBv) rfl
    | iq + 8, ho => simp at ho
  · intro lq aq W hJ hr
    obtain ⟨z1, z2, z3, z4, z5, z6, z7⟩ := hJ
    have hl := listed_of hr [0, 1, 2, 3, 4, 5, 6, 7] [] (by simp) (by kernel_rfl) (by rw [z1]; decide)
    exact hQ aq W z2 z3 (fun e he => z4 e (by simpa using he)) (z6 7 28 (hl 7 (by simp)) rfl) z5
set_option maxRecDepth 100000 in
set_option maxHeartbeats 8000000 in
theorem l5In_any (ao : Option Addr) (n cap : Nat) (p : Ps) (rs1 rs2 rs3 : Bool) (ro1 ro2 ro3 : Option Addr) (rn1 rc1 rn2 rc2 rn3 rc3 : Nat) (rd1 rd2 rd3 : List Int) (x y z : Int) (hp : RgOk n p) (w : World) (hS : SpIn w ao n p) (Nr1 : IsNum w rs1 ro1 rn1 rc1 rd1 x 8) (Nr2 : IsNum w rs2 ro2 rn2 rc2 rd2 y 8) (Nr3 : IsNum w rs3 ro3 rn3 rc3 rd3 z 8) : Calls Tryz.prog 28 #[.agg #[.slice ao n cap], .agg #[.bool rs1, .slice ro1 rn1 rc1, .bool rs2, .slice ro2 rn2 rc2, .bool rs3, .slice ro3 rn3 rc3]] w (VP (.int .i64 (sdR n p x y z)) w) := by
  have A0 := (Blk.new w [.slice ao n cap] 34 rfl).alloc (.cells #[.bool rs1, .slice ro1 rn1 rc1, .bool rs2, .slice ro2 rn2 rc2, .bool rs3, .slice ro3 rn3 rc3] 62)
  have A1 := Blk.new (w.alloc (.cells #[.slice ao n cap] 34)) [.bool rs1, .slice ro1 rn1 rc1, .bool rs2, .slice ro2 rn2 rc2, .bool rs3, .slice ro3 rn3 rc3] 62 (g := w.heap.size + 1) (by simp)
  have HB0 : Below w.heap.size w ((w.alloc (.cells #[.slice ao n cap] 34)).alloc (.cells #[.bool rs1, .slice ro1 rn1 rc1, .bool rs2, .slice ro2 rn2 rc2, .bool rs3, .slice ro3 rn3 rc3] 62)) := ((Below.refl _ w).alloc (Nat.le_refl _) _).alloc (by simp) _
  have HP : Hid (RgOk n p) := hp
  have h12 := hp.h12
  have hnI : (n : Int) ≤ 12 := by omega
  have HS : Hid (SpIn ((w.alloc (.cells #[.slice ao n cap] 34)).alloc (.cells #[.bool rs1, .slice ro1 rn1 rc1, .bool rs2, .slice ro2 rn2 rc2, .bool rs3, .slice ro3 rn3 rc3] 62)) ao n p) := hS.step HB0
  replace Nr1 := Nr1.below HB0; replace Nr2 := Nr2.below HB0; replace Nr3 := Nr3.below HB0
  clear hS hp
  go_enter Tryz.func28, Tryz.ntmps28
  go_wp2_with fail
  generalize ((w.alloc (.cells #[.slice ao n cap] 34)).alloc (.cells #[.bool rs1, .slice ro1 rn1 rc1, .bool rs2, .slice ro2 rn2 rc2, .bool rs3, .slice ro3 rn3 rc3] 62)) = W1 at *
  go_loopw [5, 6] (fun o i wr => ∃ c : Nat, c ≤ n ∧ i = .int .i64 c ∧ o = .bool (ctR n p x y z c) ∧ onR n p x y z c = false ∧ Below W1.heap.size W1 wr) (fun _ i _ => n - (intOf i).toNat)
  case atStart => exact ⟨0, by omega, rfl, rfl, rfl, Below.refl _ _⟩
  case round =>
    obtain ⟨c, hc, rfl, rfl, hon, HB⟩ := hrel
    have HON : Hid (onR n p x y z c = false) := hon
    clear hon
    have b0 := (A0.step HB).c 0 rfl
    by_cases hcn : c < n
    · have hcI : (c : Int) < n := by omega
      have HSr := HS.out.step HB
      obtain ⟨i1, i2, i3, i4⟩ := in1_seg (side_ok HP.out.ok HP.out.one HP.out.h3 hcn)
      have LS := fun w h => l5Side_any ao n cap p c hcn (by omega) w h
      go_wp2_with fail
      refine (LS _ HSr).mono ?_
      rintro e w1 ⟨rfl, hB⟩
      replace HB := HB.trans (hB.mono HB.size)
      clear hB LS HSr b0
      have B2 := Blk.new w1 [.int .i64 (sdA n p c).1, .int .i64 (sdA n p c).2.1, .int .i64 (sdA n p c).2.2.1, .int .i64 (sdA n p c).2.2.2] 83 rfl
      have hB2 := (Below.refl w1.heap.size w1).alloc (Nat.le_refl _) (.cells #[.int .i64 (sdA n p c).1, .int .i64 (sdA n p c).2.1, .int .i64 (sdA n p c).2.2.1, .int .i64 (sdA n p c).2.2.2] 83)
      replace HB := HB.trans (hB2.mono HB.size)
      clear hB2
      go_upto_region 6 with fail
      generalize w1.alloc (.cells #[.int .i64 (sdA n p c).1, .int .i64 (sdA n p c).2.1, .int .i64 (sdA n p c).2.2.1, .int .i64 (sdA n p c).2.2.2] 83) = W2 at *
      generalize w1.heap.size = gs at *
      have D1 := A1.step HB
      have N1 := Nr1.below HB; have N2 := Nr2.below HB; have N3 := Nr3.below HB
      have ON := fun w h1 h2 h3 => l4On_any rs1 rs2 rs3 ro1 ro2 ro3 rn1 rc1 rn2 rc2 rn3 rc3 rd1 rd2 rd3 (sdA n p c).1 (sdA n p c).2.1 (sdA n p c).2.2.1 (sdA n p c).2.2.2 x y z i1 i2 i3 i4 w h1 h2 h3
      have s0 := B2.c 0 rfl; have s1 := B2.c 1 rfl; have s2 := B2.c 2 rfl; have s3 := B2.c 3 rfl
      have d0 := D1.c 0 rfl; have d1 := D1.c 1 rfl; have d2 := D1.c 2 rfl; have d3 := D1.c 3 rfl; have d4 := D1.c 4 rfl; have d5 := D1.c 5 rfl
      have hbt : btwS (sdA n p c).1 (sdA n p c).2.1 1 (sdA n p c).2.2.1 (sdA n p c).2.2.2 1 x y z = onE n p x y z c := rfl
      rw [hbt] at ON
      clear hbt
      go_wp2_with fail
      refine (ON _ N1 N2 N3).mono ?_
      rintro e w3 ⟨rfl, hB⟩
      replace HB := HB.trans (hB.mono HB.size)
      replace B2 := B2.step hB
      replace D1 := D1.step hB
      replace N1 := N1.below hB; replace N2 := N2.below hB; replace N3 := N3.below hB
      clear hB ON s0 s1 s2 s3 d0 d1 d2 d3 d4 d5
      cases he : onE n p x y z c
      · have HN : Hid (onR n p x y z (c + 1) = false) := by show _ = _; rw [onR, HON.out, he]; rfl
        clear he
        go_upto_region 8 with fail
        go_cut [28] (fun zv wx => zv = .bool (ctE n p x y z c) ∧ Below w3.heap.size w3 wx)
        case first =>
            clear HN HON HS Nr1 Nr2 Nr3 HP
            refine regCuts (a := (sdA n p c).1) (b := (sdA n p c).2.1) (c := (sdA n p c).2.2.1) (d := (sdA n p c).2.2.2) (x := x) (y := y) (z := z) (Bs := gs) (Bp := w.heap.size + 1) i1 i2 i3 i4 N1 N2 N3 rfl rfl (B2.c 0 rfl) B2.lt (B2.c 1 rfl) B2.lt (B2.c 2 rfl) B2.lt (B2.c 3 rfl) B2.lt (D1.c 0 rfl) D1.lt (D1.c 1 rfl) D1.lt (D1.c 2 rfl) D1.lt (D1.c 3 rfl) D1.lt (D1.c 4 rfl) D1.lt (D1.c 5 rfl) D1.lt rfl ?_
            rintro ⟨tm, df⟩ Wz hz hdf hoff h28 hBz
            simp only at hz hdf hoff h28
            change tm.getD 28 undef = .bool (ctE n p x y z c) at h28
            subst hdf
            have htm := tmps_fold [21, 22, 23, 24, 25, 26, 27, 28] tm _ hz hoff
            simp only [List.foldl, List.setIfInBounds_toArray, List.set_cons_zero, List.set_cons_succ, h28] at htm
            clear hz hoff
            generalize tm.getD 21 undef = u0, tm.getD 22 undef = u1, tm.getD 23 undef = u2, tm.getD 24 undef = u3, tm.getD 25 undef = u4, tm.getD 26 undef = u5, tm.getD 27 undef = u6 at htm
            clear h28
            subst htm
            go_wp2_with fail
            go_meet
            exact ⟨rfl, hBz⟩
        case rest =>
          obtain ⟨hq, hBc⟩ := hcut
          subst hq
          have HBN := HB.trans (hBc.mono HB.size)
          clear hBc HB B2 D1 N1 N2 N3 i1 i2 i3 i4
          have HX : Hid (ctR n p x y z (c + 1) = (ctR n p x y z c ^^ ctE n p x y z c)) := rfl
          cases hct : ctE n p x y z c
          · have HX2 : Hid (ctR n p x y z (c + 1) = ctR n p x y z c) := by show _ = _; rw [HX.out, hct, Bool.xor_false]
            clear hct HX
            go_wp2
            go_roundw
            case rel => exact ⟨c + 1, by omega, by go_num, by rw [HX2.out], HN.out, HBN⟩
            case measure => simp [intOf]; omega
          · have HX2 : Hid (ctR n p x y z (c + 1) = !(ctR n p x y z c)) := by show _ = _; rw [HX.out, hct, Bool.xor_true]
            clear hct HX
            generalize ctR n p x y z c = zo at *
            go_wp2
            go_roundw
            case rel => exact ⟨c + 1, by omega, by go_num, by rw [HX2.out], HN.out, HBN⟩
            case measure => simp [intOf]; omega
      · have HO : Hid (sdR n p x y z = 0) := by
          show _ = _
          unfold sdR
          rw [onR_mono (show c + 1 ≤ n by omega) (by rw [onR, he, Bool.or_true])]
          rfl
        have HBF := HB0.trans (HB.mono HB0.size)
        clear he
        go_wp2
        go_ret
        exact ⟨by rw [HO.out]; rfl, HBF⟩
    · obtain rfl : c = n := by omega
      have HO : Hid (sdR c p x y z = if ctR c p x y z c = true then 1 else -1) := by
        show _ = _
        unfold sdR
        rw [HON.out]
        rfl
      have HBF := HB0.trans (HB.mono HB0.size)
      clear HB HS A0 A1 Nr1 Nr2 Nr3 HON
      generalize ctR c p x y z c = zo at *
      cases zo
      all_goals go_wp2
      all_goals go_ret
      all_goals exact ⟨by rw [HO.out]; rfl, HBF⟩
end Go.Proofs.YtibbjjlapglndaaGreat

/- On which side of a ring a point lies: both answers. -/
namespace Go.Proofs.YtibbjjlapglndaaGreat
open Go.RowKit
/-- What is told of a ring and a point. -/
def rsV (n : Nat) (p : Ps) (x y z : Int) : Int := if rgF n p = 0 ∧ ptB x y z = true then sdR n p x y z else 2
theorem ring_point (w : World) (a : Value) (x y z : Int) (T U : TypeId) : ArgsB w ((w.alloc (.cells #[a] T)).alloc (.cells #[.int .u64 (ww3 x), .int .u64 (ww2 x), .int .u64 (ww1 x), .int .u64 (ww0 x), .int .u64 (ww3 y), .int .u64 (ww2 y), .int .u64 (ww1 y), .int .u64 (ww0 y), .int .u64 (ww3 z), .int .u64 (ww2 z), .int .u64 (ww1 z), .int .u64 (ww0 z)] U)) [[a], [.int .u64 (ww3 x), .int .u64 (ww2 x), .int .u64 (ww1 x), .int .u64 (ww0 x), .int .u64 (ww3 y), .int .u64 (ww2 y), .int .u64 (ww1 y), .int .u64 (ww0 y), .int .u64 (ww3 z), .int .u64 (ww2 z), .int .u64 (ww1 z), .int .u64 (ww0 z)]] := by
  refine ⟨((Below.refl _ _).alloc (Nat.le_refl _) _).alloc (by simp) _, fun j vs hj => ?_⟩
  match j, hj with
  | 0, hj => cases hj; exact (Blk.new w [a] T rfl).alloc _
  | 1, hj => cases hj; exact Blk.new (w.alloc (.cells #[a] T)) [.int .u64 (ww3 x), .int .u64 (ww2 x), .int .u64 (ww1 x), .int .u64 (ww0 x), .int .u64 (ww3 y), .int .u64 (ww2 y), .int .u64 (ww1 y), .int .u64 (ww0 y), .int .u64 (ww3 z), .int .u64 (ww2 z), .int .u64 (ww1 z), .int .u64 (ww0 z)] U (by simp)
  | j + 2, hj => simp at hj
def VregSpecSide (ao : Option Addr) (n cap : Nat) (p : Ps) (x y z : Int) (_B : Nat) : Nat → Value → World → Prop
  | 0, v, _ => v = .agg #[.slice ao n cap]
  | 1, v, _ => v = PV x y z
  | 2, v, W => L3W x y z v W
  | 3, v, _ => v = .int .i64 (sdR n p x y z)
  | 4, v, _ => v = .int .i64 (sdR n p x y z)
  | _, _, _ => True
theorem VregSpecSide.mono {ao : Option Addr} {n cap : Nat} {p : Ps} {x y z : Int} {B j : Nat} {v : Value} {W W2 : World} (hB : Below W.heap.size W W2) (h : VregSpecSide ao n cap p x y z B j v W) : VregSpecSide ao n cap p x y z B j v W2 := by
  unfold VregSpecSide at *
  split <;> simp only at h <;> first | exact h | exact h.step hB | trivial
set_option maxRecDepth 100000 in
set_option maxHeartbeats 4000000 in
theorem regSpecSide {Q : Exit → Act → World → Prop} {ao : Option Addr} {n cap : Nat} {p : Ps} {x y z : Int} {B1 B2 : Nat} {w0 : World} {a0 : Act} {idq : Nat} {t0 t1 t2 t3 t4 : TypeId} {q0 q1 q2 q3 q4 : String}
    (hp : RgOk n p) (hS : SpIn w0 ao n p) (tx : told x = true) (ty : told y = true) (tz : told z = true) (h2 : a0.tmps[2]? = some (.pointer (some ⟨B1, 0, none⟩))) (h3 : a0.tmps[3]? = some (.pointer (some ⟨B2, 0, none⟩))) (k0 : w0.cell? ⟨B1, 0, none⟩ = some (.slice ao n cap)) (l0 : (⟨B1, 0, none⟩ : Addr).block < w0.heap.size) (k1 : w0.cell? ⟨B2, 0, none⟩ = some (.int .u64 (ww3 x))) (l1 : (⟨B2, 0, none⟩ : Addr).block < w0.heap.size) (k2 : w0.cell? ⟨B2, 1, none⟩ = some (.int .u64 (ww2 x))) (l2 : (⟨B2, 1, none⟩ : Addr).block < w0.heap.size) (k3 : w0.cell? ⟨B2, 2, none⟩ = some (.int .u64 (ww1 x))) (l3 : (⟨B2, 2, none⟩ : Addr).block < w0.heap.size) (k4 : w0.cell? ⟨B2, 3, none⟩ = some (.int .u64 (ww0 x))) (l4 : (⟨B2, 3, none⟩ : Addr).block < w0.heap.size) (k5 : w0.cell? ⟨B2, 4, none⟩ = some (.int .u64 (ww3 y))) (l5 : (⟨B2, 4, none⟩ : Addr).block < w0.heap.size) (k6 : w0.cell? ⟨B2, 5, none⟩ = some (.int .u64 (ww2 y))) (l6 : (⟨B2, 5, none⟩ : Addr).block < w0.heap.size) (k7 : w0.cell? ⟨B2, 6, none⟩ = some (.int .u64 (ww1 y))) (l7 : (⟨B2, 6, none⟩ : Addr).block < w0.heap.size) (k8 : w0.cell? ⟨B2, 7, none⟩ = some (.int .u64 (ww0 y))) (l8 : (⟨B2, 7, none⟩ : Addr).block < w0.heap.size) (k9 : w0.cell? ⟨B2, 8, none⟩ = some (.int .u64 (ww3 z))) (l9 : (⟨B2, 8, none⟩ : Addr).block < w0.heap.size) (k10 : w0.cell? ⟨B2, 9, none⟩ = some (.int .u64 (ww2 z))) (l10 : (⟨B2, 9, none⟩ : Addr).block < w0.heap.size) (k11 : w0.cell? ⟨B2, 10, none⟩ = some (.int .u64 (ww1 z))) (l11 : (⟨B2, 10, none⟩ : Addr).block < w0.heap.size) (k12 : w0.cell? ⟨B2, 11, none⟩ = some (.int .u64 (ww0 z))) (l12 : (⟨B2, 11, none⟩ : Addr).block < w0.heap.size) (hz : a0.tmps.size = 17)
    (hQ : ∀ aq W, aq.tmps.size = a0.tmps.size → aq.defers = a0.defers → (∀ e, e ∉ ([13, 14, 15, 16, 4] : List Nat) → aq.tmps[e]? = a0.tmps[e]?) → VregSpecSide ao n cap p x y z w0.heap.size 4 (aq.tmps.getD 4 undef) W → Below w0.heap.size w0 W → Q .normal aq W) :
    (Code.region idq #[{ dst := some 13, op := Op.load 34 (Operand.tmp 2), type := t0, pos := q0, after := #[], guard := none },
    { dst := some 14, op := Op.load 38 (Operand.tmp 3), type := t1, pos := q1, after := #[], guard := none },
    { dst := some 15, op := Op.call { callee := Callee.value (Operand.func 29), args := #[Operand.tmp 14], argTypes := #[38] }, type := t2, pos := q2, after := #[{ on := 1, ground := Ground.data }], guard := none },
    { dst := some 16, op := Op.call { callee := Callee.value (Operand.func 28), args := #[Operand.tmp 13, Operand.tmp 15], argTypes := #[34, 62] }, type := t3, pos := q3, after := #[{ on := 0, ground := Ground.data }, { on := 2, ground := Ground.data }, { on := 2, ground := Ground.chain }], guard := none },
    { dst := some 4, op := Op.assign (Operand.tmp 16), type := t4, pos := q4, after := #[{ on := 3, ground := Ground.data }, { on := 3, ground := Ground.chain }, { on := 0, ground := Ground.phase }, { on := 1, ground := Ground.phase }, { on := 2, ground := Ground.phase }, { on := 3, ground := Ground.phase }], guard := none }] true).wp Tryz.prog Q a0 w0 := by
  have hS : distS [some 13, some 14, some 15, some 16, some 4] = true := rfl
  refine wp_region_q (by kernel_rfl) w0.heap.size [some 13, some 14, some 15, some 16, some 4] (VregSpecSide ao n cap p x y z w0.heap.size) rfl ?_ ?_
  · intro Q lq aq W iq oq hJ hl ho hall
    have hJ2 := hJ
    obtain ⟨z1, z2, z3, z4, z5, z6, z7⟩ := hJ
    have g2 : aq.tmps.getD 2 undef = .pointer (some ⟨B1, 0, none⟩) := by rw [Array.getD_eq_getD_getElem?, z4 2 (by decide), h2]; rfl
    have g3 : aq.tmps.getD 3 undef = .pointer (some ⟨B2, 0, none⟩) := by rw [Array.getD_eq_getD_getElem?, z4 3 (by decide), h3]; rfl
    have c0 : W.cell? ⟨B1, 0, none⟩ = some (.slice ao n cap) := (z5.cell l0).trans k0
    have c1 : W.cell? ⟨B2, 0, none⟩ = some (.int .u64 (ww3 x)) := (z5.cell l1).trans k1
    have c2 : W.cell? ⟨B2, 1, none⟩ = some (.int .u64 (ww2 x)) := (z5.cell l2).trans k2
    have c3 : W.cell? ⟨B2, 2, none⟩ = some (.int .u64 (ww1 x)) := (z5.cell l3).trans k3
    have c4 : W.cell? ⟨B2, 3, none⟩ = some (.int .u64 (ww0 x)) := (z5.cell l4).trans k4
    have c5 : W.cell? ⟨B2, 4, none⟩ = some (.int .u64 (ww3 y)) := (z5.cell l5).trans k5
    have c6 : W.cell? ⟨B2, 5, none⟩ = some (.int .u64 (ww2 y)) := (z5.cell l6).trans k6
    have c7 : W.cell? ⟨B2, 6, none⟩ = some (.int .u64 (ww1 y)) := (z5.cell l7).trans k7
    have c8 : W.cell? ⟨B2, 7, none⟩ = some (.int .u64 (ww0 y)) := (z5.cell l8).trans k8
    have c9 : W.cell? ⟨B2, 8, none⟩ = some (.int .u64 (ww3 z)) := (z5.cell l9).trans k9
    have c10 : W.cell? ⟨B2, 9, none⟩ = some (.int .u64 (ww2 z)) := (z5.cell l10).trans k10
    have c11 : W.cell? ⟨B2, 10, none⟩ = some (.int .u64 (ww1 z)) := (z5.cell l11).trans k11
    have c12 : W.cell? ⟨B2, 11, none⟩ = some (.int .u64 (ww0 z)) := (z5.cell l12).trans k12
    match iq, ho with
    | 0, ho =>
      cases ho
      refine wpOp_of rfl rfl ?_
      have hK := fun (v : Value) (W2 : World) hW hT hv => hJ2.put hS 0 13 rfl (by omega) (W' := W2) hW hT v hv
      clear ho hall hl hQ
      generalize InvQ w0.heap.size [some 13, some 14, some 15, some 16, some 4] (VregSpecSide ao n cap p x y z w0.heap.size) w0 a0 (lq.setIfInBounds 0 true) = K at hK ⊢
      clear hJ2 hS z1 z2 z3 z4 z6 z7
      go_simp
      exact hK _ _ z5 (fun _ _ h => h) rfl
    | 1, ho =>
      cases ho
      refine wpOp_of rfl rfl ?_
      have hK := fun (v : Value) (W2 : World) hW hT hv => hJ2.put hS 1 14 rfl (by omega) (W' := W2) hW hT v hv
      clear ho hall hl hQ
      generalize InvQ w0.heap.size [some 13, some 14, some 15, some 16, some 4] (VregSpecSide ao n cap p x y z w0.heap.size) w0 a0 (lq.setIfInBounds 1 true) = K at hK ⊢
      clear hJ2 hS z1 z2 z3 z4 z6 z7
      go_simp
      exact hK _ _ z5 (fun _ _ h => h) rfl
    | 2, ho =>
      cases ho
      refine wpOp_of rfl rfl ?_
      have f1 : (aq.tmps.getD 14 undef) = PV x y z := z6 1 14 (hall { on := 1, ground := Ground.data } (by simp) rfl) rfl
      have hK := fun (v : Value) (W2 : World) hW hT hv => hJ2.put hS 2 15 rfl (by omega) (W' := W2) hW hT v hv
      clear ho hall hl hQ
      generalize InvQ w0.heap.size [some 13, some 14, some 15, some 16, some 4] (VregSpecSide ao n cap p x y z w0.heap.size) w0 a0 (lq.setIfInBounds 2 true) = K at hK ⊢
      clear hJ2 hS z1 z2 z3 z4 z6 z7
      go_simp
      refine (l3Of_det x y z tx ty tz W).mono ?_
      rintro e v1 ⟨s1, o1, n1, m1, e1, s2, o2, n2, m2, e2, s3, o3, n3, m3, e3, rfl, N1, N2, N3, hBv⟩
      exact hK _ _ (z5.trans (hBv.mono z5.size)) (fun j v h => h.mono hBv) ⟨_, _, _, _, _, _, _, _, _, _, _, _, _, _, _, rfl, N1, N2, N3⟩
    | 3, ho =>
      cases ho
      refine wpOp_of rfl rfl ?_
      have f0 : (aq.tmps.getD 13 undef) = .agg #[.slice ao n cap] := z6 0 13 (hall { on := 0, ground := Ground.data } (by simp) rfl) rfl
      have f2 : L3W x y z (aq.tmps.getD 15 undef) W := z6 2 15 (hall { on := 2, ground := Ground.data } (by simp) rfl) rfl
      obtain ⟨rs1, ro1, rn1, rc1, rd1, rs2, ro2, rn2, rc2, rd2, rs3, ro3, rn3, rc3, rd3, re, R1, R2, R3⟩ := f2
      have hK := fun (v : Value) (W2 : World) hW hT hv => hJ2.put hS 3 16 rfl (by omega) (W' := W2) hW hT v hv
      clear ho hall hl hQ
      generalize InvQ w0.heap.size [some 13, some 14, some 15, some 16, some 4] (VregSpecSide ao n cap p x y z w0.heap.size) w0 a0 (lq.setIfInBounds 3 true) = K at hK ⊢
      clear hJ2 hS z1 z2 z3 z4 z6 z7
      go_simp
      refine (l5In_any ao n cap p rs1 rs2 rs3 ro1 ro2 ro3 rn1 rc1 rn2 rc2 rn3 rc3 rd1 rd2 rd3 x y z hp W (hS.step z5) R1 R2 R3).mono ?_
      rintro e v1 ⟨rfl, hBv⟩
      exact hK _ _ (z5.trans (hBv.mono z5.size)) (fun j v h => h.mono hBv) rfl
    | 4, ho =>
      cases ho
      refine wpOp_of rfl rfl ?_
      have f3 : (aq.tmps.getD 16 undef) = .int .i64 (sdR n p x y z) := z6 3 16 (hall { on := 3, ground := Ground.data } (by simp) rfl) rfl
      have hK := fun (v : Value) (W2 : World) hW hT hv => hJ2.put hS 4 4 rfl (by omega) (W' := W2) hW hT v hv
      clear ho hall hl hQ
      generalize InvQ w0.heap.size [some 13, some 14, some 15, some 16, some 4] (VregSpecSide ao n cap p x y z w0.heap.size) w0 a0 (lq.setIfInBounds 4 true) = K at hK ⊢
      clear hJ2 hS z1 z2 z3 z4 z6 z7
      go_simp
      exact hK _ _ z5 (fun _ _ h => h) rfl
    | iq + 5, ho => simp at ho
  · intro lq aq W hJ hr
    obtain ⟨z1, z2, z3, z4, z5, z6, z7⟩ := hJ
    have hl := listed_of hr [0, 1, 2, 3, 4] [] (by simp) (by kernel_rfl) (by rw [z1]; decide)
    exact hQ aq W z2 z3 (fun e he => z4 e (by simpa using he)) (z6 4 4 (hl 4 (by simp)) rfl) z5
set_option maxRecDepth 100000 in
set_option maxHeartbeats 8000000 in
theorem specRingSide_any (ao : Option Addr) (n cap : Nat) (p : Ps) (x y z : Int) (hn : n ≤ 1048576) (tx : told x = true) (ty : told y = true) (tz : told z = true) (w : World) (hS : SpIn w ao n p) : Calls Tryz.prog 9 #[.agg #[.slice ao n cap], PV x y z] w (VP (.int .i64 (rsV n p x y z)) w) := by
  have T0 := ring_point w (.slice ao n cap) x y z 34 38
  have HP : Hid (SpIn w ao n p) := hS
  have O1 := fun w h => l5OkD_any ao n cap p hn w h
  have O2 := specPointOk_det x y z tx ty tz
  have hv : Hid (rsV n p x y z = if rgF n p = 0 ∧ ptB x y z = true then sdR n p x y z else 2) := rfl
  clear hS
  generalize rsV n p x y z = o at *
  have X0 : Blk _ w.heap.size _ := T0.b 0 rfl; have a0 := X0.c 0 rfl
  go_enter Tryz.func9, Tryz.ntmps9
  go_upto_region 1 with fail
  generalize ((w.alloc (.cells #[.slice ao n cap] 34)).alloc (.cells #[.int .u64 (ww3 x), .int .u64 (ww2 x), .int .u64 (ww1 x), .int .u64 (ww0 x), .int .u64 (ww3 y), .int .u64 (ww2 y), .int .u64 (ww1 y), .int .u64 (ww0 y), .int .u64 (ww3 z), .int .u64 (ww2 z), .int .u64 (ww1 z), .int .u64 (ww0 z)] 38)) = W at *
  go_wp2_with fail
  refine (O1 _ (HP.out.step T0.below)).mono ?_
  rintro e w1 ⟨rfl, hB⟩
  replace T0 := T0.step hB
  clear hB X0 a0 O1
  by_cases h1 : rgF n p = 0
  · rw [decide_eq_true h1]
    have H1 : Hid (rgF n p = 0) := h1
    clear h1
    have X1 : Blk _ (w.heap.size + 1) _ := T0.b 1 rfl; have b0 := X1.c 0 rfl; have b1 := X1.c 1 rfl; have b2 := X1.c 2 rfl; have b3 := X1.c 3 rfl; have b4 := X1.c 4 rfl; have b5 := X1.c 5 rfl; have b6 := X1.c 6 rfl; have b7 := X1.c 7 rfl; have b8 := X1.c 8 rfl; have b9 := X1.c 9 rfl; have b10 := X1.c 10 rfl; have b11 := X1.c 11 rfl
    go_wp2_with fail
    refine (O2 _).mono ?_
    rintro e w2 ⟨rfl, hB⟩
    replace T0 := T0.step hB
    clear hB X1 b0 b1 b2 b3 b4 b5 b6 b7 b8 b9 b10 b11 O2
    by_cases h2 : ptB x y z = true
    · rw [h2]
      have hv2 : Hid (o = sdR n p x y z) := by show _ = _; rw [hv.out, if_pos ⟨H1.out, h2⟩]
      have H2 : Hid (ptB x y z = true) := h2
      clear h2 hv
      have X0 : Blk _ w.heap.size _ := T0.b 0 rfl; have X1 : Blk _ (w.heap.size + 1) _ := T0.b 1 rfl
      go_upto_region 3 with fail
      go_cut [4] (fun zv wx => zv = .int .i64 (sdR n p x y z) ∧ Below w2.heap.size w2 wx)
      case first =>
        refine regSpecSide (ao := ao) (n := n) (cap := cap) (p := p) (x := x) (y := y) (z := z) (B1 := w.heap.size) (B2 := w.heap.size + 1) (rgF_ok H1.out) (HP.out.step T0.below) tx ty tz rfl rfl (X0.c 0 rfl) X0.lt (X1.c 0 rfl) X1.lt (X1.c 1 rfl) X1.lt (X1.c 2 rfl) X1.lt (X1.c 3 rfl) X1.lt (X1.c 4 rfl) X1.lt (X1.c 5 rfl) X1.lt (X1.c 6 rfl) X1.lt (X1.c 7 rfl) X1.lt (X1.c 8 rfl) X1.lt (X1.c 9 rfl) X1.lt (X1.c 10 rfl) X1.lt (X1.c 11 rfl) X1.lt rfl ?_
        rintro ⟨tm, df⟩ Wz hz hdf hoff h4 hBz
        simp only at hz hdf hoff h4
        change tm.getD 4 undef = .int .i64 (sdR n p x y z) at h4
        subst hdf
        have htm := tmps_fold [13, 14, 15, 16, 4] tm _ hz hoff
        simp only [List.foldl, List.setIfInBounds_toArray, List.set_cons_zero, List.set_cons_succ, h4] at htm
        clear hz hoff
        generalize tm.getD 13 undef = u0, tm.getD 14 undef = u1, tm.getD 15 undef = u2, tm.getD 16 undef = u3 at htm
        clear h4
        subst htm
        go_wp2_with fail
        go_meet
        exact ⟨rfl, hBz⟩
      case rest =>
        obtain ⟨hq, hB⟩ := hcut
        subst hq
        have HB := (T0.step hB).below
        clear hB T0 X0 X1
        go_wp2
        go_ret
        exact ⟨by rw [hv2.out]; rfl, HB⟩
    · rw [Bool.eq_false_iff.2 h2]
      have hv2 : Hid (o = 2) := by show _ = _; rw [hv.out, if_neg (fun h => h2 h.2)]
      have HB := T0.below
      clear h2 hv T0
      go_wp2
      go_ret
      exact ⟨by rw [hv2.out]; rfl, HB⟩
  · rw [decide_eq_false h1]
    have hv2 : Hid (o = 2) := by show _ = _; rw [hv.out, if_neg (fun h => h1 h.1)]
    have HB := T0.below
    clear h1 hv T0 O2
    go_wp2
    go_ret
    exact ⟨by rw [hv2.out]; rfl, HB⟩
set_option maxRecDepth 100000 in
set_option maxHeartbeats 8000000 in
theorem implRingSide_any (ao : Option Addr) (n cap : Nat) (p : Ps) (x y z : Int) (hn : n ≤ 1048576) (hc1 : n ≤ cap) (hc2 : cap ≤ 9223372036854775807) (tx : told x = true) (ty : told y = true) (tz : told z = true) (w : World) (hS : SpIn w ao n p) : Calls Tryz.prog 12 #[.agg #[.slice ao n cap], PV x y z] w (VP (.int .i64 (rsV n p x y z)) w) := by
  have T0 := ring_point w (.slice ao n cap) x y z 34 38
  have HP : Hid (SpIn w ao n p) := hS
  have O1 := fun w h => rright_any ao n cap p hn hc1 hc2 w h
  have O2 := pright_det x y z tx ty tz
  have hv : Hid (rsV n p x y z = if rgF n p = 0 ∧ ptB x y z = true then sdR n p x y z else 2) := rfl
  clear hS
  generalize rsV n p x y z = o at *
  have X0 : Blk _ w.heap.size _ := T0.b 0 rfl; have a0 := X0.c 0 rfl
  go_enter Tryz.func12, Tryz.ntmps12
  go_upto_region 1 with fail
  generalize ((w.alloc (.cells #[.slice ao n cap] 34)).alloc (.cells #[.int .u64 (ww3 x), .int .u64 (ww2 x), .int .u64 (ww1 x), .int .u64 (ww0 x), .int .u64 (ww3 y), .int .u64 (ww2 y), .int .u64 (ww1 y), .int .u64 (ww0 y), .int .u64 (ww3 z), .int .u64 (ww2 z), .int .u64 (ww1 z), .int .u64 (ww0 z)] 38)) = W at *
  go_wp2_with fail
  refine (O1 _ (HP.out.step T0.below)).mono ?_
  rintro e w1 ⟨rfl, hB⟩
  replace T0 := T0.step hB
  clear hB X0 a0 O1
  by_cases h1 : rgF n p = 0
  · rw [decide_eq_true h1]
    have H1 : Hid (rgF n p = 0) := h1
    clear h1
    have X1 : Blk _ (w.heap.size + 1) _ := T0.b 1 rfl; have b0 := X1.c 0 rfl; have b1 := X1.c 1 rfl; have b2 := X1.c 2 rfl; have b3 := X1.c 3 rfl; have b4 := X1.c 4 rfl; have b5 := X1.c 5 rfl; have b6 := X1.c 6 rfl; have b7 := X1.c 7 rfl; have b8 := X1.c 8 rfl; have b9 := X1.c 9 rfl; have b10 := X1.c 10 rfl; have b11 := X1.c 11 rfl
    go_wp2_with fail
    refine (O2 _).mono ?_
    rintro e w2 ⟨rfl, hB⟩
    replace T0 := T0.step hB
    clear hB X1 b0 b1 b2 b3 b4 b5 b6 b7 b8 b9 b10 b11 O2
    by_cases h2 : ptB x y z = true
    · rw [h2]
      have hv2 : Hid (o = sdR n p x y z) := by show _ = _; rw [hv.out, if_pos ⟨H1.out, h2⟩]
      have H2 : Hid (ptB x y z = true) := h2
      clear h2 hv
      have X0 : Blk _ w.heap.size _ := T0.b 0 rfl; have X1 : Blk _ (w.heap.size + 1) _ := T0.b 1 rfl
      have a0 := X0.c 0 rfl; have b0 := X1.c 0 rfl; have b1 := X1.c 1 rfl; have b2 := X1.c 2 rfl; have b3 := X1.c 3 rfl; have b4 := X1.c 4 rfl; have b5 := X1.c 5 rfl; have b6 := X1.c 6 rfl; have b7 := X1.c 7 rfl; have b8 := X1.c 8 rfl; have b9 := X1.c 9 rfl; have b10 := X1.c 10 rfl; have b11 := X1.c 11 rfl
      have SI := fun w h => side_any ao n cap p x y z (rgF_ok H1.out).h3 (rgF_ok H1.out).h12 (rgF_ok H1.out).ok (rgF_ok H1.out).one H2.out w h
      go_wp2_with fail
      refine (SI _ (HP.out.step T0.below)).mono ?_
      rintro e w3 ⟨rfl, hB⟩
      have HB := (T0.step hB).below
      clear hB T0 X0 X1 a0 b0 b1 b2 b3 b4 b5 b6 b7 b8 b9 b10 b11 SI
      go_wp2
      go_ret
      exact ⟨by rw [hv2.out]; rfl, HB⟩
    · rw [Bool.eq_false_iff.2 h2]
      have hv2 : Hid (o = 2) := by show _ = _; rw [hv.out, if_neg (fun h => h2 h.2)]
      have HB := T0.below
      clear h2 hv T0
      go_wp2
      go_ret
      exact ⟨by rw [hv2.out]; rfl, HB⟩
  · rw [decide_eq_false h1]
    have hv2 : Hid (o = 2) := by show _ = _; rw [hv.out, if_neg (fun h => h1 h.1)]
    have HB := T0.below
    clear h1 hv T0 O2
    go_wp2
    go_ret
    exact ⟨by rw [hv2.out]; rfl, HB⟩
end Go.Proofs.YtibbjjlapglndaaGreat

/- Rows of rings: copied, held against one another, counted. -/
namespace Go.Proofs.YtibbjjlapglndaaGreat
open Go.RowKit
/-- n rings lie behind a slice's address, each a slice of spots. -/
def RgIn (w : World) (ao : Option Addr) (n : Nat) (S : Nat → Option Addr × Nat) (L : Nat → Nat) (q : Nat → Ps) : Prop :=
  ∀ i, i < n → ∃ A off, ao = some ⟨A, off, none⟩ ∧ A < w.heap.size ∧ w.cell? ⟨A, off + i, none⟩ = some (.slice (S i).1 (L i) (S i).2) ∧ SpIn w (S i).1 (L i) (q i)
theorem RgIn.step {w w' : World} {ao : Option Addr} {n : Nat} {S : Nat → Option Addr × Nat} {L : Nat → Nat} {q : Nat → Ps} (h : RgIn w ao n S L q) (hB : Below w.heap.size w w') : RgIn w' ao n S L q := fun i hi => by
  obtain ⟨A, off, e, hA, h0, h1⟩ := h i hi
  exact ⟨A, off, e, Nat.lt_of_lt_of_le hA hB.size, (hB.cell (p := ⟨A, off + i, none⟩) hA).trans h0, h1.step hB⟩
theorem RgIn.set {w : World} {ao : Option Addr} {n : Nat} {S : Nat → Option Addr × Nat} {L : Nat → Nat} {q : Nat → Ps} (h : RgIn w ao n S L q) {p : Addr} (ha : ∀ a, ao = some a → a.block ≠ p.block) (hb : ∀ i a, i < n → (S i).1 = some a → a.block ≠ p.block) (u : Value) : RgIn (w.setCell p u) ao n S L q := fun i hi => by
  obtain ⟨A, off, e, hA, h0, h1⟩ := h i hi
  have hk : ∀ g, g ≠ p.block → (w.setCell p u).heap[g]? = w.heap[g]? := fun g hg => Below.heap_setCell _ _ _ _ hg
  refine ⟨A, off, e, by simpa [World.setCell] using hA, (World.cell?_of_block (a := ⟨A, off + i, none⟩) (hk A (ha _ e))).trans h0, fun k hk2 => ?_⟩
  obtain ⟨A2, off2, e2, hA2, c0, c1⟩ := h1 k hk2
  exact ⟨A2, off2, e2, by simpa [World.setCell] using hA2, (World.cell?_of_block (a := ⟨A2, off2 + k * 2, none⟩) (hk A2 (hb i _ hi e2))).trans c0, (World.cell?_of_block (a := ⟨A2, off2 + k * 2 + 1, none⟩) (hk A2 (hb i _ hi e2))).trans c1⟩
theorem RgIn.drew {w : World} {ao : Option Addr} {n : Nat} {S : Nat → Option Addr × Nat} {L : Nat → Nat} {q : Nat → Ps} (h : RgIn w ao n S L q) : RgIn w.drew ao n S L q := h
theorem Tryz.infoRing : (Tryz.prog.info? 34).map (fun i => (i.zero, i.size, i.bytes)) = some (some (.agg #[.slice none 0 0]), 1, 24) := by kernel_rfl
theorem make_rings (n : Nat) (hn : n ≤ 1048576) (w : World) : (Instr.makeSlice 46 (.int .i64 (n : Int)) (.int .i64 (n : Int))).run Tryz.prog w = .ok (.slice (some ⟨w.heap.size, 0, none⟩) n n) (w.alloc (.cells (madeCells #[.slice none 0 0] n) 34)) := by
  obtain ⟨i, hi, hzz⟩ := Option.map_eq_some_iff.1 Tryz.infoRing
  simp only [Prod.mk.injEq] at hzz
  obtain ⟨hz, hs, hb⟩ := hzz
  have hr := run_make (P := Tryz.prog) w 46 34 i (.agg #[.slice none 0 0]) Tryz.underlying46 hi hz .i64 .i64 n n (by omega) (Int.le_refl _) (by rw [hb]; omega) (by omega)
  simp only [Int.toNat_natCast, hs, Value.cells, Nat.mul_one] at hr
  exact hr
/-- So far the row holds what was copied, behind it nothing. -/
def cpR (S : Nat → Nat) (L : Nat → Nat) (c : Nat) (i : Nat) : Value := if i < c then .slice (some ⟨S i, 0, none⟩) (L i) (L i) else .slice none 0 0
set_option maxRecDepth 100000 in
set_option maxHeartbeats 2000000 in
theorem toRingS_any (ao : Option Addr) (n cap : Nat) (S : Nat → Option Addr × Nat) (L : Nat → Nat) (q : Nat → Ps) (hn : n ≤ 1048576) (hL : ∀ i, i < n → L i ≤ 1048576) (w : World) (hS : RgIn w ao n S L q) : Calls Tryz.prog 18 #[.slice ao n cap] w (fun e w' => ∃ g S', e = .returned (.slice (some ⟨g, 0, none⟩) n n) ∧ RgIn w' (some ⟨g, 0, none⟩) n S' L q ∧ (∀ i, (S' i).2 = L i) ∧ (w.heap.size ≤ g ∧ ∀ i a, i < n → (S' i).1 = some a → w.heap.size ≤ a.block) ∧ Below w.heap.size w w') := by
  have MK := make_rings n hn
  have HS : Hid (RgIn w ao n S L q) := hS
  have HL : Hid (∀ i, i < n → L i ≤ 1048576) := hL
  clear hS hL
  go_enter Tryz.func18, Tryz.ntmps18
  go_wp2_with fail
  have R0 := World.rowIs_made w (.slice none 0 0) n 34
  have B0 : Below w.heap.size w (w.alloc (.cells (madeCells #[.slice none 0 0] n) 34)) := (Below.refl _ _).alloc (Nat.le_refl _) _
  generalize w.alloc (.cells (madeCells #[.slice none 0 0] n) 34) = W1 at *
  have hnI : (n : Int) ≤ 1048576 := by omega
  clear MK
  go_loopw [4] (fun i wr => ∃ (c : Nat) (S' : Nat → Nat), c ≤ n ∧ i = .int .i64 c ∧ wr.rowIs w.heap.size 34 n (cpR S' L c) ∧ (∀ j, j < c → w.heap.size < S' j ∧ wr.rowIs (S' j) 81 (L j * 2) (fun i => .int .i64 (spW (q j) i))) ∧ Below w.heap.size w wr) (fun i _ => n - (intOf i).toNat)
  case atStart => exact ⟨0, fun _ => 0, by omega, rfl, R0.congr (fun i _ => by unfold cpR; simp), fun j hj => by omega, B0⟩
  case round =>
    clear R0 B0
    obtain ⟨c, S', hc, rfl, R, hp, HB⟩ := hrel
    have HP : Hid (∀ j, j < c → w.heap.size < S' j ∧ wr.rowIs (S' j) 81 (L j * 2) (fun i => .int .i64 (spW (q j) i))) := hp
    clear hp
    by_cases hcn : c < n
    · obtain ⟨A, off, rfl, hA, hcell, hrow⟩ := HS.out.step HB c hcn
      have hcI : (c : Int) < n := by omega
      have TL := fun w h => toRing_any (S c).1 (L c) (S c).2 (q c) (HL.out c hcn) w h
      have hlr := R.lt
      go_wp2_with fail
      refine (TL _ hrow).mono ?_
      rintro e w1 ⟨g, rfl, hg, RG, hB⟩
      replace R := rows_step R hB
      have HP2 : Hid (∀ j, j < c → w.heap.size < S' j ∧ w1.rowIs (S' j) 81 (L j * 2) (fun i => .int .i64 (spW (q j) i))) := fun j hj => ⟨(HP.out j hj).1, rows_step (HP.out j hj).2 hB⟩
      replace HB := HB.trans (hB.mono HB.size)
      have o0 := R.cell (i := c) (by omega); have f0 := R.frozen c
      have RN : (w1.setCell ⟨w.heap.size, c, none⟩ (.slice (some ⟨g, 0, none⟩) (L c) (L c))).rowIs w.heap.size 34 n (cpR (fun j => if j = c then g else S' j) L (c + 1)) := (R.set c _).congr (fun i hi => by
        unfold cpR
        by_cases h : i = c
        · subst h; simp
        · rcases Nat.lt_or_ge i c with h' | h'
          · rw [if_neg h, if_pos h', if_pos (by omega)]; dsimp only; rw [if_neg h]
          · rw [if_neg h, if_neg (by omega), if_neg (by omega)])
      have HPN : Hid (∀ j, j < c + 1 → w.heap.size < (if j = c then g else S' j) ∧ (w1.setCell ⟨w.heap.size, c, none⟩ (.slice (some ⟨g, 0, none⟩) (L c) (L c))).rowIs (if j = c then g else S' j) 81 (L j * 2) (fun i => .int .i64 (spW (q j) i))) := fun j hj => by
        by_cases h : j = c
        · subst h
          rw [if_pos rfl]
          exact ⟨by omega, RG.setOther (by show g ≠ w.heap.size; omega) _⟩
        · rw [if_neg h]
          have := HP2.out j (by omega)
          exact ⟨this.1, this.2.setOther (by have h2 := this.1; show S' j ≠ w.heap.size; omega) _⟩
      have HN : Below w.heap.size w (w1.setCell ⟨w.heap.size, c, none⟩ (.slice (some ⟨g, 0, none⟩) (L c) (L c))) := Below.setCell HB (Nat.le_refl _) _
      clear hB hcell hrow hA R HB RG HP HP2 TL hlr hg
      go_wp2
      go_roundw
      case rel => exact ⟨c + 1, _, by omega, by go_num, RN, HPN.out, HN⟩
      case measure => simp [intOf]; omega
    · obtain rfl : c = n := by omega
      have LI : Hid (RgIn wr (some ⟨w.heap.size, 0, none⟩) c (fun i => (some ⟨S' i, 0, none⟩, L i)) L q) := fun i hi => by
        refine ⟨w.heap.size, 0, rfl, R.lt, ?_, spIn_row (HP.out i hi).2⟩
        rw [Nat.zero_add, R.cell hi]
        unfold cpR
        rw [if_pos hi]
      have HPB : Hid (∀ i (a : Addr), i < c → (some (⟨S' i, 0, none⟩ : Addr)) = some a → w.heap.size ≤ a.block) := fun i a hi ha => by
        have := (HP.out i hi).1
        cases ha
        exact Nat.le_of_lt this
      clear R HS HP HL
      go_wp2
      go_ret
      exact ⟨_, _, rfl, LI.out, fun _ => rfl, ⟨Nat.le_refl _, HPB.out⟩, HB⟩
set_option maxRecDepth 100000 in
set_option maxHeartbeats 2000000 in
theorem eqRingS_any (ao bo : Option Addr) (n ca cb : Nat) (S S' : Nat → Option Addr × Nat) (L : Nat → Nat) (q : Nat → Ps) (hn : n ≤ 1048576) (hL : ∀ i, i < n → L i ≤ 1048576) (w : World) (hA : RgIn w ao n S L q) (hC : RgIn w bo n S' L q) : Calls Tryz.prog 20 #[.slice ao n ca, .slice bo n cb] w (BoolP true w) := by
  have HA : Hid (RgIn w ao n S L q) := hA
  have HC : Hid (RgIn w bo n S' L q) := hC
  have HL : Hid (∀ i, i < n → L i ≤ 1048576) := hL
  have hnI : (n : Int) ≤ 1048576 := by omega
  clear hA hC hL
  go_enter Tryz.func20, Tryz.ntmps20
  go_wp2_with fail
  go_loopw [5] (fun i wr => ∃ c : Nat, c ≤ n ∧ i = .int .i64 c ∧ Below w.heap.size w wr) (fun i _ => n - (intOf i).toNat)
  case atStart => exact ⟨0, by omega, rfl, Below.refl _ _⟩
  case round =>
    obtain ⟨c, hc, rfl, HB⟩ := hrel
    by_cases hcn : c < n
    · obtain ⟨A, off, rfl, hA, q0, hra⟩ := HA.out.step HB c hcn
      obtain ⟨B, of2, rfl, hB', r0, hrb⟩ := HC.out.step HB c hcn
      have hcI : (c : Int) < n := by omega
      have EL := fun w h h' => eqRing_any (S c).1 (S' c).1 (L c) (S c).2 (S' c).2 (q c) (HL.out c hcn) w h h'
      have KS : (fun w' => w'.cell? ⟨A, off + c, none⟩ = some (.slice (S c).1 (L c) (S c).2) ∧ w'.cell? ⟨B, of2 + c, none⟩ = some (.slice (S' c).1 (L c) (S' c).2)) wr := ⟨q0, r0⟩
      go_wp2_with fail
      go_region_held3 (fun w' => w'.cell? ⟨A, off + c, none⟩ = some (.slice (S c).1 (L c) (S c).2) ∧ w'.cell? ⟨B, of2 + c, none⟩ = some (.slice (S' c).1 (L c) (S' c).2)) (first | (exact KS) | (exact KS'))
        (first
          | (go_at_call 13; refine (EL _ (by first | exact hra | exact hra.drew) (by first | exact hrb | exact hrb.drew)).mono ?_; rintro e w1 ⟨rfl, hB⟩; have KS' : (fun w' => w'.cell? ⟨A, off + c, none⟩ = some (.slice (S c).1 (L c) (S c).2) ∧ w'.cell? ⟨B, of2 + c, none⟩ = some (.slice (S' c).1 (L c) (S' c).2)) w1 := ⟨(hB.cell (p := ⟨A, _, none⟩) hA).trans q0, (hB.cell (p := ⟨B, _, none⟩) hB').trans r0⟩; (first | (have HB2 := HB.trans (hB.mono HB.size)) | (have HB2 := HB.drew.trans (hB.mono HB.drew.size))); clear hB))
      all_goals clear HB KS q0 r0 hra hrb EL
      all_goals go_wp2
      all_goals go_roundw
      case rel => exact ⟨c + 1, by omega, by go_num, HB2⟩
      case measure => simp [intOf]; omega
    · obtain rfl : c = n := by omega
      clear HA HC HL
      go_wp2
      go_ret
      exact ⟨rfl, HB⟩
/-- What is left of the count, if it is not below 0. -/
def SzR (n : Nat) (L : Nat → Nat) (w : World) (e : Ending) (w' : World) : Prop := ∃ z : Int, e = .returned (.int .i64 z) ∧ -1 ≤ z ∧ z ≤ 1048576 ∧ (0 ≤ z → n ≤ 1048576 ∧ ∀ i, i < n → L i ≤ 1048576) ∧ Below w.heap.size w w'
set_option maxRecDepth 100000 in
set_option maxHeartbeats 2000000 in
theorem szRingS_any (l0 : Int) (h00 : 0 ≤ l0) (h01 : l0 ≤ 1048576) (ao : Option Addr) (n cap : Nat) (S : Nat → Option Addr × Nat) (L : Nat → Nat) (q : Nat → Ps) (hn : n ≤ 9223372036854775807) (hL : ∀ i, i < n → L i ≤ 9223372036854775807) (w : World) (hS : RgIn w ao n S L q) : Calls Tryz.prog 16 #[.slice ao n cap, .int .i64 l0] w (SzR n L w) := by
  have hnI : (n : Int) ≤ 9223372036854775807 := by omega
  by_cases h : (n : Int) ≤ l0
  · have h' : (n : Int) ≤ 1048576 := by omega
    have hw' : IntKind.i64.wrap (l0 - (n : Int)) = l0 - n := by rw [IntKind.wrap_i64]; omega
    have hw0 : 0 ≤ l0 - (n : Int) := by omega
    have HS : Hid (RgIn w ao n S L q) := hS
    have HL : Hid (∀ i, i < n → L i ≤ 9223372036854775807) := hL
    clear hS hL
    go_enter Tryz.func16, Tryz.ntmps16
    go_wp2_with fail
    go_loopw [1, 5] (fun s i wr => ∃ (c : Nat) (l : Int), c ≤ n ∧ i = .int .i64 c ∧ s = .int .i64 l ∧ 0 ≤ l ∧ l ≤ 1048576 ∧ (∀ j, j < c → L j ≤ 1048576) ∧ Below w.heap.size w wr) (fun _ i _ => n - (intOf i).toNat)
    case atStart => exact ⟨0, _, by omega, rfl, rfl, by omega, by omega, fun j hj => by omega, Below.refl _ _⟩
    case round =>
      obtain ⟨c, l, hc, rfl, rfl, l0, l1, hall, HB⟩ := hrel
      have HA : Hid (∀ j, j < c → L j ≤ 1048576) := hall
      clear hall
      by_cases hcn : c < n
      · obtain ⟨A, off, rfl, hA, hcell, -⟩ := HS.out.step HB c hcn
        have hcI : (c : Int) < n := by omega
        have SL := szRing_any (S c).1 (L c) (S c).2 l l0 l1 (HL.out c hcn)
        go_wp2_with fail
        refine (SL _).mono ?_
        rintro e w1 ⟨rfl, hB⟩
        replace HB := HB.trans (hB.mono HB.size)
        clear hB SL hcell hA
        by_cases hl : (L c : Int) ≤ l
        · rw [if_pos hl]
          have hl2 : 0 ≤ l - (L c : Int) := by omega
          go_wp2
          go_roundw
          case rel => exact ⟨c + 1, _, by omega, by go_num, rfl, by omega, by omega, fun j hj => by
            rcases Nat.lt_or_ge j c with h | h
            · exact HA.out j h
            · obtain rfl : j = c := by omega
              omega, HB⟩
          case measure => simp [intOf]; omega
        · rw [if_neg hl]
          go_wp2
          go_ret
          exact ⟨-1, rfl, by omega, by omega, fun h => by omega, HB⟩
      · obtain rfl : c = n := by omega
        clear HS HL
        go_wp2
        go_ret
        exact ⟨l, rfl, by omega, l1, fun _ => ⟨by omega, HA.out⟩, HB⟩
  · have h' : l0 < (n : Int) := by omega
    have hw' : IntKind.i64.wrap (l0 - (n : Int)) = l0 - n := by rw [IntKind.wrap_i64]; omega
    have hw0 : l0 - (n : Int) < 0 := by omega
    clear hS hL
    go_enter Tryz.func16, Tryz.ntmps16
    go_wp2
    go_ret
    exact ⟨-1, rfl, by omega, by omega, fun h => by omega, Below.refl _ _⟩
end Go.Proofs.YtibbjjlapglndaaGreat

/- How spots and segments read as data, beside points: opened and shut. -/
namespace Go.Proofs.YtibbjjlapglndaaGreat
open Go.ChangeShapes Go.WideShapes Go.ChangeAt Go.RowKit Go.Joins
abbrev Wf (x : Int) : Prop := (Lit.int .i64 x).wf = true
abbrev SpD {H : Type} (x y : Int) : DataW H := .agg [.lit (.int .i64 x), .lit (.int .i64 y)]
theorem trod_spot {H : Type} {enc : TypeId × Value → H} {w : World} {base : Nat} {spare : TypeId → Bool} {held : Bool} {n : Nat} {c0 c1 : Value} {y : DataW H × List MemPlace} (h : DataW.trod enc Tryz.prog w base spare held n 90 [c0, c1] = some y) :
    ∃ a b : Int, c0 = .int .i64 a ∧ c1 = .int .i64 b ∧ y = (SpD a b, []) ∧ Wf a ∧ Wf b := by
  obtain ⟨y0, y1, m, hx, _, h0, h1⟩ := trod_struct2 Tryz.underlying90 h
  obtain ⟨a, e0, rfl, wa⟩ := DataW.trod_int Tryz.underlying2 h0
  obtain ⟨b, e1, rfl, wb⟩ := DataW.trod_int Tryz.underlying2 h1
  have k : Tryz.prog.cellsOf 2 = 1 := by kernel_rfl
  simp [k] at e0 e1
  exact ⟨a, b, e0, e1, hx, wa, wb⟩
end Go.Proofs.YtibbjjlapglndaaGreat
