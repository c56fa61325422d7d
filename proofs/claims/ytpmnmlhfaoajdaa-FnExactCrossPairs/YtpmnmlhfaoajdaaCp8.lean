/- Part 8 of the walks that the proof leans on. -/
import Derived.Test.YtpmnmlhfaoajdaaCp5
import Derived.Test.YtpmnmlhfaoajdaaCp7
import Derived.OwnWalkIn
import Derived.RangeFuncBox
import Derived.Test.YtpmnmlhfaoajdaaCp3
import Derived.SizedLaws
import Derived.Deep.Slices
import Derived.Test.YtpmnmlhfaoajdaaRows
import Derived.ProofKit
import Derived.Lib.SmallJoins
/- Segments that meet, by pairs: what is told, and the drawn regions of both sides. -/
namespace Go.Proofs.Ytpmnmlhfaoajdaa
open Go.RowKit
/-- The kind of meeting of two segments of a row. -/
def kdS (x : Nat → Int) (i k : Nat) : Int := kndZ (x (i * 4)) (x (i * 4 + 1)) (x (i * 4 + 2)) (x (i * 4 + 3)) (x (k * 4)) (x (k * 4 + 1)) (x (k * 4 + 2)) (x (k * 4 + 3))
/-- Those of some pairs that meet. -/
def mtL (n : Nat) (x : Nat → Int) (pre : List (Pr n)) : List (Pr n) := pre.filter fun y => kdS x y.1.1 y.1.2 != 0
def mtC (n : Nat) (x : Nat → Int) (pre : List (Pr n)) : List Value := (mtL n x pre).flatMap fun y => [.int .i64 (y.1.1 : Int), .int .i64 (y.1.2 : Int)]
theorem mtL_on {n : Nat} {x : Nat → Int} {pre : List (Pr n)} {y : Pr n} (h : ¬ kdS x y.1.1 y.1.2 = 0) : mtL n x (pre ++ [y]) = mtL n x pre ++ [y] := by simp [mtL, List.filter_append, h]
theorem mtL_off {n : Nat} {x : Nat → Int} {pre : List (Pr n)} {y : Pr n} (h : kdS x y.1.1 y.1.2 = 0) : mtL n x (pre ++ [y]) = mtL n x pre := by simp [mtL, List.filter_append, h]
theorem mtC_on {n : Nat} {x : Nat → Int} {pre : List (Pr n)} {y : Pr n} (h : ¬ kdS x y.1.1 y.1.2 = 0) : mtC n x (pre ++ [y]) = mtC n x pre ++ [.int .i64 (y.1.1 : Int), .int .i64 (y.1.2 : Int)] := by
  unfold mtC
  rw [mtL_on h, List.flatMap_append]
  simp
theorem mtC_off {n : Nat} {x : Nat → Int} {pre : List (Pr n)} {y : Pr n} (h : kdS x y.1.1 y.1.2 = 0) : mtC n x (pre ++ [y]) = mtC n x pre := by
  unfold mtC
  rw [mtL_off h]
theorem mtL_len (n : Nat) (x : Nat → Int) (pre : List (Pr n)) : (mtL n x pre).length ≤ pre.length := List.length_filter_le _ _
/-- The numbers of a list of pairs. -/
def qOf {n : Nat} (M : List (Pr n)) : Ps := fun k => (M[k]?.map fun y => ((y.1.1 : Int), (y.1.2 : Int))).getD (0, 0)
theorem spL_same {c : Nat} {p q : Ps} (h : ∀ k, k < c → p k = q k) : spL c p = spL c q := by
  unfold spL
  refine List.map_congr_left fun i hi => ?_
  have hc : i / 2 < c := by rw [List.mem_range] at hi; omega
  have : ∀ r : Ps, spW r i = if i % 2 = 0 then (r (i / 2)).1 else (r (i / 2)).2 := fun r => by
    rcases Nat.mod_two_eq_zero_or_one i with e | e
    · rw [if_pos e]; have := spW0 r (i / 2); rwa [show i / 2 * 2 = i by omega] at this
    · rw [if_neg (by omega)]; have := spW1 r (i / 2); rwa [show i / 2 * 2 + 1 = i by omega] at this
  rw [this p, this q, h _ hc]
theorem qOf_cellsN {n : Nat} : ∀ (c : Nat) (M : List (Pr n)), M.length = c → M.flatMap (fun y => [Value.int .i64 (y.1.1 : Int), .int .i64 (y.1.2 : Int)]) = spL M.length (qOf M)
  | 0, M, h => by
    have e : M = [] := List.eq_nil_of_length_eq_zero h
    subst e
    rfl
  | c + 1, M, h => by
    obtain ⟨M', y, rfl⟩ : ∃ M' y, M = M' ++ [y] := ⟨M.dropLast, M.getLast (by intro e; subst e; cases h), (List.dropLast_concat_getLast _).symm⟩
    rw [List.length_append, List.length_singleton] at h
    rw [List.flatMap_append, qOf_cellsN c M' (by omega), List.length_append, List.length_singleton, spL_succ]
    congr 1
    · refine spL_same fun k hk => ?_
      unfold qOf
      rw [List.getElem?_append_left hk]
    · simp [qOf]
theorem qOf_cells {n : Nat} (M : List (Pr n)) : M.flatMap (fun y => [Value.int .i64 (y.1.1 : Int), .int .i64 (y.1.2 : Int)]) = spL M.length (qOf M) := qOf_cellsN _ M rfl
theorem in1_segS {a b c d : Int} (h : segOk a b c d = true) : In1 a ∧ In1 b ∧ In1 c ∧ In1 d := in1_seg h
theorem Try.infoPair : (Try.prog.info? 66).map (fun i => (i.zero, i.size, i.bytes)) = some (some (.agg #[.int .i64 0, .int .i64 0]), 2, 16) := by kernel_rfl
def W12 (v : Value) : Prop := ∃ r0 r1 r2 r3 r4 r5 r6 r7 r8 r9 r10 r11 : Int, v = .agg #[.int .u64 r0, .int .u64 r1, .int .u64 r2, .int .u64 r3, .int .u64 r4, .int .u64 r5, .int .u64 r6, .int .u64 r7, .int .u64 r8, .int .u64 r9, .int .u64 r10, .int .u64 r11]
theorem below_set12 {B g : Nat} {w W : World} {v0 v1 v2 v3 v4 v5 v6 v7 v8 v9 v10 v11 : Value} (h : Below B w W) (hg : B ≤ g) : Below B w ((((((((((((W.setCell ⟨g, 0, none⟩ v0).setCell ⟨g, 1, none⟩ v1).setCell ⟨g, 2, none⟩ v2).setCell ⟨g, 3, none⟩ v3).setCell ⟨g, 4, none⟩ v4).setCell ⟨g, 5, none⟩ v5).setCell ⟨g, 6, none⟩ v6).setCell ⟨g, 7, none⟩ v7).setCell ⟨g, 8, none⟩ v8).setCell ⟨g, 9, none⟩ v9).setCell ⟨g, 10, none⟩ v10).setCell ⟨g, 11, none⟩ v11) := ((((((((((((h.setCell (p := ⟨g, 0, none⟩) hg _).setCell (p := ⟨g, 1, none⟩) hg _).setCell (p := ⟨g, 2, none⟩) hg _).setCell (p := ⟨g, 3, none⟩) hg _).setCell (p := ⟨g, 4, none⟩) hg _).setCell (p := ⟨g, 5, none⟩) hg _).setCell (p := ⟨g, 6, none⟩) hg _).setCell (p := ⟨g, 7, none⟩) hg _).setCell (p := ⟨g, 8, none⟩) hg _).setCell (p := ⟨g, 9, none⟩) hg _).setCell (p := ⟨g, 10, none⟩) hg _).setCell (p := ⟨g, 11, none⟩) hg _)
def VcpSr (A off n cap ci ck : Nat) (xa xb xc xd ya yb yc yd : Int) (B : Nat) : Nat → Value → World → Prop
  | 0, v, _ => v = .slice (some ⟨A, off, none⟩) n cap
  | 1, v, _ => v = .int .i64 (ci : Nat)
  | 2, v, _ => v = .pointer (some ⟨A, off + ci * 4, none⟩)
  | 3, v, _ => v = .agg #[.int .i64 xa, .int .i64 xb, .int .i64 xc, .int .i64 xd]
  | 4, v, _ => v = .slice (some ⟨A, off, none⟩) n cap
  | 5, v, _ => v = .int .i64 (ck : Nat)
  | 6, v, _ => v = .pointer (some ⟨A, off + ck * 4, none⟩)
  | 7, v, _ => v = .agg #[.int .i64 ya, .int .i64 yb, .int .i64 yc, .int .i64 yd]
  | 8, v, _ => ∃ x y, Lp6 x ∧ Lp6 y ∧ v = .tuple #[.int .i64 (kndZ xa xb xc xd ya yb yc yd), x, y]
  | 9, v, _ => ∃ x y, Lp6 x ∧ Lp6 y ∧ v = .tuple #[.int .i64 (kndZ xa xb xc xd ya yb yc yd), x, y]
  | 10, v, _ => v = .int .i64 (kndZ xa xb xc xd ya yb yc yd)
  | 11, v, _ => Lp6 v
  | 12, v, _ => Lp6 v
  | 13, v, W => ∃ g, v = .pointer (some ⟨g, 0, none⟩) ∧ B ≤ g ∧ BlkN W g 6
  | 14, v, W => ∃ g, v = .pointer (some ⟨g, 0, none⟩) ∧ B ≤ g ∧ BlkN W g 6
  | 15, v, _ => v = .int .i64 (kndZ xa xb xc xd ya yb yc yd)
  | _, _, _ => True
theorem VcpSr.mono {A off n cap ci ck : Nat} {xa xb xc xd ya yb yc yd : Int} {B j : Nat} {v : Value} {W W2 : World} (hS : ∀ g k, BlkN W g k → BlkN W2 g k) (h : VcpSr A off n cap ci ck xa xb xc xd ya yb yc yd B j v W) : VcpSr A off n cap ci ck xa xb xc xd ya yb yc yd B j v W2 := by
  unfold VcpSr at *
  split <;> simp only at h <;> first | exact h | (obtain ⟨g, h1, h2, h3⟩ := h; exact ⟨g, h1, h2, hS g _ h3⟩) | trivial
set_option maxRecDepth 100000 in
set_option maxHeartbeats 4000000 in
theorem cpSr {Q : Exit → Act → World → Prop} {A off n cap ci ck : Nat} {xa xb xc xd ya yb yc yd : Int}  {w0 : World} {a0 : Act} {idq : Nat} {t0 t1 t2 t3 t4 t5 t6 t7 t8 t9 t10 t11 t12 t13 t14 t15 t16 t17 : TypeId} {q0 q1 q2 q3 q4 q5 q6 q7 q8 q9 q10 q11 q12 q13 q14 q15 q16 q17 : String}
    (cn : (ci : Int) < (n : Int)) (kn : (ck : Int) < (n : Int)) (i1 : In1 xa) (i2 : In1 xb) (i3 : In1 xc) (i4 : In1 xd) (j1 : In1 ya) (j2 : In1 yb) (j3 : In1 yc) (j4 : In1 yd) (h0 : a0.tmps[0]? = some (.slice (some ⟨A, off, none⟩) n cap)) (h5 : a0.tmps[5]? = some (.int .i64 (ci : Nat))) (h6 : a0.tmps[6]? = some (.int .i64 (ck : Nat))) (k0 : w0.cell? ⟨A, off + ci * 4, none⟩ = some (.int .i64 xa)) (l0 : (⟨A, off + ci * 4, none⟩ : Addr).block < w0.heap.size) (k1 : w0.cell? ⟨A, off + ci * 4 + 1, none⟩ = some (.int .i64 xb)) (l1 : (⟨A, off + ci * 4 + 1, none⟩ : Addr).block < w0.heap.size) (k2 : w0.cell? ⟨A, off + ci * 4 + 2, none⟩ = some (.int .i64 xc)) (l2 : (⟨A, off + ci * 4 + 2, none⟩ : Addr).block < w0.heap.size) (k3 : w0.cell? ⟨A, off + ci * 4 + 3, none⟩ = some (.int .i64 xd)) (l3 : (⟨A, off + ci * 4 + 3, none⟩ : Addr).block < w0.heap.size) (k4 : w0.cell? ⟨A, off + ck * 4, none⟩ = some (.int .i64 ya)) (l4 : (⟨A, off + ck * 4, none⟩ : Addr).block < w0.heap.size) (k5 : w0.cell? ⟨A, off + ck * 4 + 1, none⟩ = some (.int .i64 yb)) (l5 : (⟨A, off + ck * 4 + 1, none⟩ : Addr).block < w0.heap.size) (k6 : w0.cell? ⟨A, off + ck * 4 + 2, none⟩ = some (.int .i64 yc)) (l6 : (⟨A, off + ck * 4 + 2, none⟩ : Addr).block < w0.heap.size) (k7 : w0.cell? ⟨A, off + ck * 4 + 3, none⟩ = some (.int .i64 yd)) (l7 : (⟨A, off + ck * 4 + 3, none⟩ : Addr).block < w0.heap.size) (hz : a0.tmps.size = 50)
    (hQ : ∀ aq W, aq.tmps.size = a0.tmps.size → aq.defers = a0.defers → (∀ e, e ∉ ([29, 30, 31, 32, 33, 34, 35, 36, 37, 28, 38, 39, 40, 8, 9, 7] : List Nat) → aq.tmps[e]? = a0.tmps[e]?) → VcpSr A off n cap ci ck xa xb xc xd ya yb yc yd w0.heap.size 15 (aq.tmps.getD 7 undef) W → Below w0.heap.size w0 W → Q .normal aq W) :
    (Code.region idq #[{ dst := some 29, op := Op.move (Operand.tmp 0), type := t0, pos := q0, after := #[], guard := none },
    { dst := some 30, op := Op.move (Operand.tmp 5), type := t1, pos := q1, after := #[], guard := none },
    { dst := some 31, op := Op.indexAddr 27 (Operand.tmp 29) (Operand.tmp 30), type := t2, pos := q2, after := #[{ on := 0, ground := Ground.data }, { on := 1, ground := Ground.data }], guard := none },
    { dst := some 32, op := Op.load 64 (Operand.tmp 31), type := t3, pos := q3, after := #[{ on := 2, ground := Ground.data }], guard := none },
    { dst := some 33, op := Op.move (Operand.tmp 0), type := t4, pos := q4, after := #[], guard := none },
    { dst := some 34, op := Op.move (Operand.tmp 6), type := t5, pos := q5, after := #[], guard := none },
    { dst := some 35, op := Op.indexAddr 27 (Operand.tmp 33) (Operand.tmp 34), type := t6, pos := q6, after := #[{ on := 4, ground := Ground.data }, { on := 5, ground := Ground.data }], guard := none },
    { dst := some 36, op := Op.load 64 (Operand.tmp 35), type := t7, pos := q7, after := #[{ on := 6, ground := Ground.data }], guard := none },
    { dst := some 37, op := Op.call { callee := Callee.value (Operand.func 28), args := #[Operand.tmp 32, Operand.tmp 36], argTypes := #[64, 64] }, type := t8, pos := q8, after := #[{ on := 3, ground := Ground.data }, { on := 7, ground := Ground.data }], guard := none },
    { dst := some 28, op := Op.move (Operand.tmp 37), type := t9, pos := q9, after := #[{ on := 8, ground := Ground.data }], guard := none },
    { dst := some 38, op := Op.extract (Operand.tmp 28) 0, type := t10, pos := q10, after := #[{ on := 9, ground := Ground.data }], guard := none },
    { dst := some 39, op := Op.extract (Operand.tmp 28) 1, type := t11, pos := q11, after := #[{ on := 9, ground := Ground.data }, { on := 15, ground := Ground.gcOnly Departure.lateStores }], guard := none },
    { dst := some 40, op := Op.extract (Operand.tmp 28) 2, type := t12, pos := q12, after := #[{ on := 9, ground := Ground.data }, { on := 16, ground := Ground.gcOnly Departure.lateStores }], guard := none },
    { dst := some 8, op := Op.alloc 58, type := t13, pos := q13, after := #[], guard := none },
    { dst := some 9, op := Op.alloc 58, type := t14, pos := q14, after := #[], guard := none },
    { dst := some 7, op := Op.assign (Operand.tmp 38), type := t15, pos := q15, after := #[{ on := 10, ground := Ground.data }, { on := 8, ground := Ground.chain }, { on := 0, ground := Ground.phase }, { on := 1, ground := Ground.phase }, { on := 2, ground := Ground.phase }, { on := 3, ground := Ground.phase }, { on := 4, ground := Ground.phase }, { on := 5, ground := Ground.phase }, { on := 6, ground := Ground.phase }, { on := 7, ground := Ground.phase }, { on := 8, ground := Ground.phase }, { on := 9, ground := Ground.phase }, { on := 10, ground := Ground.phase }, { on := 11, ground := Ground.textOnly Departure.lateStores }, { on := 12, ground := Ground.textOnly Departure.lateStores }, { on := 13, ground := Ground.phase }, { on := 14, ground := Ground.phase }], guard := none },
    { dst := none, op := Op.store 58 (Operand.tmp 8) (Operand.tmp 39), type := t16, pos := q16, after := #[{ on := 13, ground := Ground.data }, { on := 11, ground := Ground.data }, { on := 15, ground := Ground.chain }, { on := 0, ground := Ground.phase }, { on := 1, ground := Ground.phase }, { on := 2, ground := Ground.phase }, { on := 3, ground := Ground.phase }, { on := 4, ground := Ground.phase }, { on := 5, ground := Ground.phase }, { on := 6, ground := Ground.phase }, { on := 7, ground := Ground.phase }, { on := 8, ground := Ground.phase }, { on := 9, ground := Ground.phase }, { on := 10, ground := Ground.phase }, { on := 11, ground := Ground.phase }, { on := 12, ground := Ground.textOnly Departure.lateStores }, { on := 13, ground := Ground.phase }, { on := 14, ground := Ground.phase }, { on := 15, ground := Ground.phase }], guard := none },
    { dst := none, op := Op.store 58 (Operand.tmp 9) (Operand.tmp 40), type := t17, pos := q17, after := #[{ on := 14, ground := Ground.data }, { on := 12, ground := Ground.data }, { on := 16, ground := Ground.chain }, { on := 0, ground := Ground.phase }, { on := 1, ground := Ground.phase }, { on := 2, ground := Ground.phase }, { on := 3, ground := Ground.phase }, { on := 4, ground := Ground.phase }, { on := 5, ground := Ground.phase }, { on := 6, ground := Ground.phase }, { on := 7, ground := Ground.phase }, { on := 8, ground := Ground.phase }, { on := 9, ground := Ground.phase }, { on := 10, ground := Ground.phase }, { on := 11, ground := Ground.phase }, { on := 12, ground := Ground.phase }, { on := 13, ground := Ground.phase }, { on := 14, ground := Ground.phase }, { on := 15, ground := Ground.phase }, { on := 16, ground := Ground.phase }], guard := none }] true).wp Try.prog Q a0 w0 := by
  have hS : distS [some 29, some 30, some 31, some 32, some 33, some 34, some 35, some 36, some 37, some 28, some 38, some 39, some 40, some 8, some 9, some 7, none, none] = true := rfl
  refine wp_region_q (by kernel_rfl) w0.heap.size [some 29, some 30, some 31, some 32, some 33, some 34, some 35, some 36, some 37, some 28, some 38, some 39, some 40, some 8, some 9, some 7, none, none] (VcpSr A off n cap ci ck xa xb xc xd ya yb yc yd w0.heap.size) rfl ?_ ?_
  · intro Q lq aq W iq oq hJ hl ho hall
    have hJ2 := hJ
    obtain ⟨z1, z2, z3, z4, z5, z6, z7⟩ := hJ
    have g0 : aq.tmps.getD 0 undef = .slice (some ⟨A, off, none⟩) n cap := by rw [Array.getD_eq_getD_getElem?, z4 0 (by decide), h0]; rfl
    have g5 : aq.tmps.getD 5 undef = .int .i64 (ci : Nat) := by rw [Array.getD_eq_getD_getElem?, z4 5 (by decide), h5]; rfl
    have g6 : aq.tmps.getD 6 undef = .int .i64 (ck : Nat) := by rw [Array.getD_eq_getD_getElem?, z4 6 (by decide), h6]; rfl
    have c0 : W.cell? ⟨A, off + ci * 4, none⟩ = some (.int .i64 xa) := (z5.cell l0).trans k0
    have c1 : W.cell? ⟨A, off + ci * 4 + 1, none⟩ = some (.int .i64 xb) := (z5.cell l1).trans k1
    have c2 : W.cell? ⟨A, off + ci * 4 + 2, none⟩ = some (.int .i64 xc) := (z5.cell l2).trans k2
    have c3 : W.cell? ⟨A, off + ci * 4 + 3, none⟩ = some (.int .i64 xd) := (z5.cell l3).trans k3
    have c4 : W.cell? ⟨A, off + ck * 4, none⟩ = some (.int .i64 ya) := (z5.cell l4).trans k4
    have c5 : W.cell? ⟨A, off + ck * 4 + 1, none⟩ = some (.int .i64 yb) := (z5.cell l5).trans k5
    have c6 : W.cell? ⟨A, off + ck * 4 + 2, none⟩ = some (.int .i64 yc) := (z5.cell l6).trans k6
    have c7 : W.cell? ⟨A, off + ck * 4 + 3, none⟩ = some (.int .i64 yd) := (z5.cell l7).trans k7
    match iq, ho with
    | 0, ho =>
      cases ho
      refine wpOp_of rfl rfl ?_
      have hK := fun (v : Value) (W2 : World) hW hT hv => hJ2.put hS 0 29 rfl (by omega) (W' := W2) hW hT v hv
      clear ho hall hl hQ
      generalize InvQ _ _ _ w0 a0 (lq.setIfInBounds 0 true) = K at hK ⊢
      clear hJ2 hS z1 z2 z3 z4 z6 z7
      go_simp
      exact hK _ _ z5 (fun _ _ h => h) rfl
    | 1, ho =>
      cases ho
      refine wpOp_of rfl rfl ?_
      have hK := fun (v : Value) (W2 : World) hW hT hv => hJ2.put hS 1 30 rfl (by omega) (W' := W2) hW hT v hv
      clear ho hall hl hQ
      generalize InvQ _ _ _ w0 a0 (lq.setIfInBounds 1 true) = K at hK ⊢
      clear hJ2 hS z1 z2 z3 z4 z6 z7
      go_simp
      exact hK _ _ z5 (fun _ _ h => h) rfl
    | 2, ho =>
      cases ho
      refine wpOp_of rfl rfl ?_
      have f0 : (aq.tmps.getD 29 undef) = .slice (some ⟨A, off, none⟩) n cap := z6 0 29 (hall { on := 0, ground := Ground.data } (by simp) rfl) rfl
      have f1 : (aq.tmps.getD 30 undef) = .int .i64 (ci : Nat) := z6 1 30 (hall { on := 1, ground := Ground.data } (by simp) rfl) rfl
      have hK := fun (v : Value) (W2 : World) hW hT hv => hJ2.put hS 2 31 rfl (by omega) (W' := W2) hW hT v hv
      clear ho hall hl hQ
      generalize InvQ _ _ _ w0 a0 (lq.setIfInBounds 2 true) = K at hK ⊢
      clear hJ2 hS z1 z2 z3 z4 z6 z7
      go_simp
      exact hK _ _ z5 (fun _ _ h => h) rfl
    | 3, ho =>
      cases ho
      refine wpOp_of rfl rfl ?_
      have f2 : (aq.tmps.getD 31 undef) = .pointer (some ⟨A, off + ci * 4, none⟩) := z6 2 31 (hall { on := 2, ground := Ground.data } (by simp) rfl) rfl
      have hK := fun (v : Value) (W2 : World) hW hT hv => hJ2.put hS 3 32 rfl (by omega) (W' := W2) hW hT v hv
      clear ho hall hl hQ
      generalize InvQ _ _ _ w0 a0 (lq.setIfInBounds 3 true) = K at hK ⊢
      clear hJ2 hS z1 z2 z3 z4 z6 z7
      go_simp
      exact hK _ _ z5 (fun _ _ h => h) rfl
    | 4, ho =>
      cases ho
      refine wpOp_of rfl rfl ?_
      have hK := fun (v : Value) (W2 : World) hW hT hv => hJ2.put hS 4 33 rfl (by omega) (W' := W2) hW hT v hv
      clear ho hall hl hQ
      generalize InvQ _ _ _ w0 a0 (lq.setIfInBounds 4 true) = K at hK ⊢
      clear hJ2 hS z1 z2 z3 z4 z6 z7
      go_simp
      exact hK _ _ z5 (fun _ _ h => h) rfl
    | 5, ho =>
      cases ho
      refine wpOp_of rfl rfl ?_
      have hK := fun (v : Value) (W2 : World) hW hT hv => hJ2.put hS 5 34 rfl (by omega) (W' := W2) hW hT v hv
      clear ho hall hl hQ
      generalize InvQ _ _ _ w0 a0 (lq.setIfInBounds 5 true) = K at hK ⊢
      clear hJ2 hS z1 z2 z3 z4 z6 z7
      go_simp
      exact hK _ _ z5 (fun _ _ h => h) rfl
    | 6, ho =>
      cases ho
      refine wpOp_of rfl rfl ?_
      have f4 : (aq.tmps.getD 33 undef) = .slice (some ⟨A, off, none⟩) n cap := z6 4 33 (hall { on := 4, ground := Ground.data } (by simp) rfl) rfl
      have f5 : (aq.tmps.getD 34 undef) = .int .i64 (ck : Nat) := z6 5 34 (hall { on := 5, ground := Ground.data } (by simp) rfl) rfl
      have hK := fun (v : Value) (W2 : World) hW hT hv => hJ2.put hS 6 35 rfl (by omega) (W' := W2) hW hT v hv
      clear ho hall hl hQ
      generalize InvQ _ _ _ w0 a0 (lq.setIfInBounds 6 true) = K at hK ⊢
      clear hJ2 hS z1 z2 z3 z4 z6 z7
      go_simp
      exact hK _ _ z5 (fun _ _ h => h) rfl
    | 7, ho =>
      cases ho
      refine wpOp_of rfl rfl ?_
      have f6 : (aq.tmps.getD 35 undef) = .pointer (some ⟨A, off + ck * 4, none⟩) := z6 6 35 (hall { on := 6, ground := Ground.data } (by simp) rfl) rfl
      have hK := fun (v : Value) (W2 : World) hW hT hv => hJ2.put hS 7 36 rfl (by omega) (W' := W2) hW hT v hv
      clear ho hall hl hQ
      generalize InvQ _ _ _ w0 a0 (lq.setIfInBounds 7 true) = K at hK ⊢
      clear hJ2 hS z1 z2 z3 z4 z6 z7
      go_simp
      exact hK _ _ z5 (fun _ _ h => h) rfl
    | 8, ho =>
      cases ho
      refine wpOp_of rfl rfl ?_
      have f3 : (aq.tmps.getD 32 undef) = .agg #[.int .i64 xa, .int .i64 xb, .int .i64 xc, .int .i64 xd] := z6 3 32 (hall { on := 3, ground := Ground.data } (by simp) rfl) rfl
      have f7 : (aq.tmps.getD 36 undef) = .agg #[.int .i64 ya, .int .i64 yb, .int .i64 yc, .int .i64 yd] := z6 7 36 (hall { on := 7, ground := Ground.data } (by simp) rfl) rfl
      have hK := fun (v : Value) (W2 : World) hW hT hv => hJ2.put hS 8 37 rfl (by omega) (W' := W2) hW hT v hv
      clear ho hall hl hQ
      generalize InvQ _ _ _ w0 a0 (lq.setIfInBounds 8 true) = K at hK ⊢
      clear hJ2 hS z1 z2 z3 z4 z6 z7
      go_simp
      refine (l4Meet_any xa xb xc xd ya yb yc yd i1 i2 i3 i4 j1 j2 j3 j4 W).mono ?_
      rintro e v3 hmt
      obtain ⟨⟨f1, f2, f3, g1, g2, g3, k1, k2, k3, l1, l2, l3, m1, m2, m3, x1, x2, x3, y1, y2, y3, z1, z2, z3, rfl⟩, hBv⟩ := mtP_kind hmt
      exact hK _ _ (z5.trans (hBv.mono z5.size)) (fun j v h => h.mono fun g k hg => hg.step hBv) ⟨_, _, ⟨_, _, _, _, _, _, _, _, _, _, _, _, rfl⟩, ⟨_, _, _, _, _, _, _, _, _, _, _, _, rfl⟩, rfl⟩
    | 9, ho =>
      cases ho
      refine wpOp_of rfl rfl ?_
      have f8 : ∃ x y, Lp6 x ∧ Lp6 y ∧ (aq.tmps.getD 37 undef) = .tuple #[.int .i64 (kndZ xa xb xc xd ya yb yc yd), x, y] := z6 8 37 (hall { on := 8, ground := Ground.data } (by simp) rfl) rfl
      obtain ⟨x, y, hx, hy, he⟩ := f8
      have hK := fun (v : Value) (W2 : World) hW hT hv => hJ2.put hS 9 28 rfl (by omega) (W' := W2) hW hT v hv
      clear ho hall hl hQ
      generalize InvQ _ _ _ w0 a0 (lq.setIfInBounds 9 true) = K at hK ⊢
      clear hJ2 hS z1 z2 z3 z4 z6 z7
      go_simp
      exact hK _ _ z5 (fun _ _ h => h) ⟨x, y, hx, hy, rfl⟩
    | 10, ho =>
      cases ho
      refine wpOp_of rfl rfl ?_
      have f9 : ∃ x y, Lp6 x ∧ Lp6 y ∧ (aq.tmps.getD 28 undef) = .tuple #[.int .i64 (kndZ xa xb xc xd ya yb yc yd), x, y] := z6 9 28 (hall { on := 9, ground := Ground.data } (by simp) rfl) rfl
      obtain ⟨x, y, hx, hy, he⟩ := f9
      have hK := fun (v : Value) (W2 : World) hW hT hv => hJ2.put hS 10 38 rfl (by omega) (W' := W2) hW hT v hv
      clear ho hall hl hQ
      generalize InvQ _ _ _ w0 a0 (lq.setIfInBounds 10 true) = K at hK ⊢
      clear hJ2 hS z1 z2 z3 z4 z6 z7
      go_simp
      exact hK _ _ z5 (fun _ _ h => h) rfl
    | 11, ho =>
      cases ho
      refine wpOp_of rfl rfl ?_
      have f9 : ∃ x y, Lp6 x ∧ Lp6 y ∧ (aq.tmps.getD 28 undef) = .tuple #[.int .i64 (kndZ xa xb xc xd ya yb yc yd), x, y] := z6 9 28 (hall { on := 9, ground := Ground.data } (by simp) rfl) rfl
      obtain ⟨x, y, hx, hy, he⟩ := f9
      have hK := fun (v : Value) (W2 : World) hW hT hv => hJ2.put hS 11 39 rfl (by omega) (W' := W2) hW hT v hv
      clear ho hall hl hQ
      generalize InvQ _ _ _ w0 a0 (lq.setIfInBounds 11 true) = K at hK ⊢
      clear hJ2 hS z1 z2 z3 z4 z6 z7
      go_simp
      exact hK _ _ z5 (fun _ _ h => h) hx
    | 12, ho =>
      cases ho
      refine wpOp_of rfl rfl ?_
      have f9 : ∃ x y, Lp6 x ∧ Lp6 y ∧ (aq.tmps.getD 28 undef) = .tuple #[.int .i64 (kndZ xa xb xc xd ya yb yc yd), x, y] := z6 9 28 (hall { on := 9, ground := Ground.data } (by simp) rfl) rfl
      obtain ⟨x, y, hx, hy, he⟩ := f9
      have hK := fun (v : Value) (W2 : World) hW hT hv => hJ2.put hS 12 40 rfl (by omega) (W' := W2) hW hT v hv
      clear ho hall hl hQ
      generalize InvQ _ _ _ w0 a0 (lq.setIfInBounds 12 true) = K at hK ⊢
      clear hJ2 hS z1 z2 z3 z4 z6 z7
      go_simp
      exact hK _ _ z5 (fun _ _ h => h) hy
    | 13, ho =>
      cases ho
      refine wpOp_of rfl rfl ?_
      have hK := fun (v : Value) (W2 : World) hW hT hv => hJ2.put hS 13 8 rfl (by omega) (W' := W2) hW hT v hv
      clear ho hall hl hQ
      generalize InvQ _ _ _ w0 a0 (lq.setIfInBounds 13 true) = K at hK ⊢
      clear hJ2 hS z1 z2 z3 z4 z6 z7
      go_simp
      exact hK _ _ (z5.alloc z5.size _) (fun j v h => h.mono fun g k hg => hg.step ((Below.refl _ _).alloc (Nat.le_refl _) _)) ⟨_, rfl, z5.size, _, rfl, Blk.new W [.bool false, .slice none 0 0, .bool false, .slice none 0 0, .bool false, .slice none 0 0] 58 rfl⟩
    | 14, ho =>
      cases ho
      refine wpOp_of rfl rfl ?_
      have hK := fun (v : Value) (W2 : World) hW hT hv => hJ2.put hS 14 9 rfl (by omega) (W' := W2) hW hT v hv
      clear ho hall hl hQ
      generalize InvQ _ _ _ w0 a0 (lq.setIfInBounds 14 true) = K at hK ⊢
      clear hJ2 hS z1 z2 z3 z4 z6 z7
      go_simp
      exact hK _ _ (z5.alloc z5.size _) (fun j v h => h.mono fun g k hg => hg.step ((Below.refl _ _).alloc (Nat.le_refl _) _)) ⟨_, rfl, z5.size, _, rfl, Blk.new W [.bool false, .slice none 0 0, .bool false, .slice none 0 0, .bool false, .slice none 0 0] 58 rfl⟩
    | 15, ho =>
      cases ho
      refine wpOp_of rfl rfl ?_
      have f10 : (aq.tmps.getD 38 undef) = .int .i64 (kndZ xa xb xc xd ya yb yc yd) := z6 10 38 (hall { on := 10, ground := Ground.data } (by simp) rfl) rfl
      have hK := fun (v : Value) (W2 : World) hW hT hv => hJ2.put hS 15 7 rfl (by omega) (W' := W2) hW hT v hv
      clear ho hall hl hQ
      generalize InvQ _ _ _ w0 a0 (lq.setIfInBounds 15 true) = K at hK ⊢
      clear hJ2 hS z1 z2 z3 z4 z6 z7
      go_simp
      exact hK _ _ z5 (fun _ _ h => h) rfl
    | 16, ho =>
      cases ho
      refine wpOp_of rfl rfl ?_
      have f13 : ∃ g, (aq.tmps.getD 8 undef) = .pointer (some ⟨g, 0, none⟩) ∧ w0.heap.size ≤ g ∧ BlkN W g 6 := z6 13 8 (hall { on := 13, ground := Ground.data } (by simp) rfl) rfl
      obtain ⟨g, hg, hgB, vs, hvs, G⟩ := f13
      have f11 : Lp6 (aq.tmps.getD 39 undef) := z6 11 39 (hall { on := 11, ground := Ground.data } (by simp) rfl) rfl
      obtain ⟨s1, s2, s3, k1, k2, k3, m1, m2, m3, x1, x2, x3, hx⟩ := f11
      have hK := fun (W2 : World) hW hT hv => hJ2.world 16 rfl (W' := W2) hW hT hv
      clear ho hall hl hQ
      generalize InvQ _ _ _ w0 a0 (lq.setIfInBounds 16 true) = K at hK ⊢
      clear hJ2 hS z1 z2 z3 z4 z6 z7
      obtain ⟨v0, v1, v2, v3, v4, v5, rfl⟩ : ∃ v0 v1 v2 v3 v4 v5, vs = [v0, v1, v2, v3, v4, v5] := by match vs, hvs with | [v0, v1, v2, v3, v4, v5], _ => exact ⟨_, _, _, _, _, _, rfl⟩
      have b0 := G.c 0 rfl; have r0 := G.f 0 rfl
      have b1 := G.c 1 rfl; have r1 := G.f 1 rfl
      have b2 := G.c 2 rfl; have r2 := G.f 2 rfl
      have b3 := G.c 3 rfl; have r3 := G.f 3 rfl
      have b4 := G.c 4 rfl; have r4 := G.f 4 rfl
      have b5 := G.c 5 rfl; have r5 := G.f 5 rfl
      have hlt := G.lt
      clear G
      go_simp
      exact hK _ (below_set6 z5 hgB) (fun j v h => h.mono fun g2 k hg => ((((((hg.set _ 0 _).set _ 1 _).set _ 2 _).set _ 3 _).set _ 4 _).set _ 5 _)) trivial
    | 17, ho =>
      cases ho
      refine wpOp_of rfl rfl ?_
      have f14 : ∃ g, (aq.tmps.getD 9 undef) = .pointer (some ⟨g, 0, none⟩) ∧ w0.heap.size ≤ g ∧ BlkN W g 6 := z6 14 9 (hall { on := 14, ground := Ground.data } (by simp) rfl) rfl
      obtain ⟨g, hg, hgB, vs, hvs, G⟩ := f14
      have f12 : Lp6 (aq.tmps.getD 40 undef) := z6 12 40 (hall { on := 12, ground := Ground.data } (by simp) rfl) rfl
      obtain ⟨s1, s2, s3, k1, k2, k3, m1, m2, m3, x1, x2, x3, hx⟩ := f12
      have hK := fun (W2 : World) hW hT hv => hJ2.world 17 rfl (W' := W2) hW hT hv
      clear ho hall hl hQ
      generalize InvQ _ _ _ w0 a0 (lq.setIfInBounds 17 true) = K at hK ⊢
      clear hJ2 hS z1 z2 z3 z4 z6 z7
      obtain ⟨v0, v1, v2, v3, v4, v5, rfl⟩ : ∃ v0 v1 v2 v3 v4 v5, vs = [v0, v1, v2, v3, v4, v5] := by match vs, hvs with | [v0, v1, v2, v3, v4, v5], _ => exact ⟨_, _, _, _, _, _, rfl⟩
      have b0 := G.c 0 rfl; have r0 := G.f 0 rfl
      have b1 := G.c 1 rfl; have r1 := G.f 1 rfl
      have b2 := G.c 2 rfl; have r2 := G.f 2 rfl
      have b3 := G.c 3 rfl; have r3 := G.f 3 rfl
      have b4 := G.c 4 rfl; have r4 := G.f 4 rfl
      have b5 := G.c 5 rfl; have r5 := G.f 5 rfl
      have hlt := G.lt
      clear G
      go_simp
      exact hK _ (below_set6 z5 hgB) (fun j v h => h.mono fun g2 k hg => ((((((hg.set _ 0 _).set _ 1 _).set _ 2 _).set _ 3 _).set _ 4 _).set _ 5 _)) trivial
    | iq + 18, ho => simp at ho
  · intro lq aq W hJ hr
    obtain ⟨z1, z2, z3, z4, z5, z6, z7⟩ := hJ
    have hl := listed_of hr [0, 1, 2, 3, 4, 5, 6, 7, 8, 9, 10, 13, 14, 15] [] (by simp) (by kernel_rfl) (by rw [z1]; decide)
    exact hQ aq W z2 z3 (fun e he => z4 e (by simpa using he)) (z6 15 7 (hl 15 (by simp)) rfl) z5
def VcpIr (Bp A off n cap ci ck : Nat) (xa xb xc xd ya yb yc yd : Int) (B : Nat) : Nat → Value → World → Prop
  | 0, v, _ => v = .slice (some ⟨A, off, none⟩) n cap
  | 1, v, _ => v = .pointer (some ⟨Bp, 0, none⟩)
  | 2, v, _ => v = .int .i64 (ci : Nat)
  | 3, v, _ => v = .pointer (some ⟨A, off + ci * 4, none⟩)
  | 4, v, _ => v = .agg #[.int .i64 xa, .int .i64 xb, .int .i64 xc, .int .i64 xd]
  | 5, v, _ => v = .slice (some ⟨A, off, none⟩) n cap
  | 6, v, _ => v = .pointer (some ⟨Bp, 1, none⟩)
  | 7, v, _ => v = .int .i64 (ck : Nat)
  | 8, v, _ => v = .pointer (some ⟨A, off + ck * 4, none⟩)
  | 9, v, _ => v = .agg #[.int .i64 ya, .int .i64 yb, .int .i64 yc, .int .i64 yd]
  | 10, v, _ => ∃ x y, W12 x ∧ W12 y ∧ v = .tuple #[.int .i64 (kndZ xa xb xc xd ya yb yc yd), x, y]
  | 11, v, _ => ∃ x y, W12 x ∧ W12 y ∧ v = .tuple #[.int .i64 (kndZ xa xb xc xd ya yb yc yd), x, y]
  | 12, v, _ => v = .int .i64 (kndZ xa xb xc xd ya yb yc yd)
  | 13, v, _ => W12 v
  | 14, v, _ => W12 v
  | 15, v, W => ∃ g, v = .pointer (some ⟨g, 0, none⟩) ∧ B ≤ g ∧ BlkN W g 12
  | 16, v, W => ∃ g, v = .pointer (some ⟨g, 0, none⟩) ∧ B ≤ g ∧ BlkN W g 12
  | 17, v, _ => v = .int .i64 (kndZ xa xb xc xd ya yb yc yd)
  | _, _, _ => True
theorem VcpIr.mono {Bp A off n cap ci ck : Nat} {xa xb xc xd ya yb yc yd : Int} {B j : Nat} {v : Value} {W W2 : World} (hS : ∀ g k, BlkN W g k → BlkN W2 g k) (h : VcpIr Bp A off n cap ci ck xa xb xc xd ya yb yc yd B j v W) : VcpIr Bp A off n cap ci ck xa xb xc xd ya yb yc yd B j v W2 := by
  unfold VcpIr at *
  split <;> simp only at h <;> first | exact h | (obtain ⟨g, h1, h2, h3⟩ := h; exact ⟨g, h1, h2, hS g _ h3⟩) | trivial
set_option maxRecDepth 100000 in
set_option maxHeartbeats 4000000 in
theorem cpIr {Q : Exit → Act → World → Prop} {Bp A off n cap ci ck : Nat} {xa xb xc xd ya yb yc yd : Int} {B1 : Nat}  {lr nr : Nat} {w0 : World} {a0 : Act} {idq : Nat} {t0 t1 t2 t3 t4 t5 t6 t7 t8 t9 t10 t11 t12 t13 t14 t15 t16 t17 t18 t19 : TypeId} {q0 q1 q2 q3 q4 q5 q6 q7 q8 q9 q10 q11 q12 q13 q14 q15 q16 q17 q18 q19 : String}
    (cn : (ci : Int) < (n : Int)) (kn : (ck : Int) < (n : Int)) (i1 : In1 xa) (i2 : In1 xb) (i3 : In1 xc) (i4 : In1 xd) (j1 : In1 ya) (j2 : In1 yb) (j3 : In1 yc) (j4 : In1 yd) (h1 : a0.tmps[1]? = some (.pointer (some ⟨B1, 0, none⟩))) (h5 : a0.tmps[5]? = some (.pointer (some ⟨Bp, 0, none⟩))) (k0 : w0.cell? ⟨B1, 0, none⟩ = some (.slice (some ⟨A, off, none⟩) n cap)) (l0 : (⟨B1, 0, none⟩ : Addr).block < w0.heap.size) (k1 : w0.cell? ⟨Bp, 0, none⟩ = some (.int .i64 (ci : Nat))) (l1 : (⟨Bp, 0, none⟩ : Addr).block < w0.heap.size) (k2 : w0.cell? ⟨Bp, 1, none⟩ = some (.int .i64 (ck : Nat))) (l2 : (⟨Bp, 1, none⟩ : Addr).block < w0.heap.size) (k3 : w0.cell? ⟨A, off + ci * 4, none⟩ = some (.int .i64 xa)) (l3 : (⟨A, off + ci * 4, none⟩ : Addr).block < w0.heap.size) (k4 : w0.cell? ⟨A, off + ci * 4 + 1, none⟩ = some (.int .i64 xb)) (l4 : (⟨A, off + ci * 4 + 1, none⟩ : Addr).block < w0.heap.size) (k5 : w0.cell? ⟨A, off + ci * 4 + 2, none⟩ = some (.int .i64 xc)) (l5 : (⟨A, off + ci * 4 + 2, none⟩ : Addr).block < w0.heap.size) (k6 : w0.cell? ⟨A, off + ci * 4 + 3, none⟩ = some (.int .i64 xd)) (l6 : (⟨A, off + ci * 4 + 3, none⟩ : Addr).block < w0.heap.size) (k7 : w0.cell? ⟨A, off + ck * 4, none⟩ = some (.int .i64 ya)) (l7 : (⟨A, off + ck * 4, none⟩ : Addr).block < w0.heap.size) (k8 : w0.cell? ⟨A, off + ck * 4 + 1, none⟩ = some (.int .i64 yb)) (l8 : (⟨A, off + ck * 4 + 1, none⟩ : Addr).block < w0.heap.size) (k9 : w0.cell? ⟨A, off + ck * 4 + 2, none⟩ = some (.int .i64 yc)) (l9 : (⟨A, off + ck * 4 + 2, none⟩ : Addr).block < w0.heap.size) (k10 : w0.cell? ⟨A, off + ck * 4 + 3, none⟩ = some (.int .i64 yd)) (l10 : (⟨A, off + ck * 4 + 3, none⟩ : Addr).block < w0.heap.size) (hz : a0.tmps.size = 37)
    (hQ : ∀ aq W, aq.tmps.size = a0.tmps.size → aq.defers = a0.defers → (∀ e, e ∉ ([16, 17, 18, 19, 20, 21, 22, 23, 24, 25, 26, 15, 27, 28, 29, 7, 8, 6] : List Nat) → aq.tmps[e]? = a0.tmps[e]?) → VcpIr Bp A off n cap ci ck xa xb xc xd ya yb yc yd w0.heap.size 17 (aq.tmps.getD 6 undef) W → Below w0.heap.size w0 W → Q .normal aq W) :
    (Code.region idq #[{ dst := some 16, op := Op.load 27 (Operand.tmp 1), type := t0, pos := q0, after := #[], guard := none },
    { dst := some 17, op := Op.fieldAddr 66 (Operand.tmp 5) 0, type := t1, pos := q1, after := #[], guard := none },
    { dst := some 18, op := Op.load 2 (Operand.tmp 17), type := t2, pos := q2, after := #[{ on := 1, ground := Ground.data }], guard := none },
    { dst := some 19, op := Op.indexAddr 27 (Operand.tmp 16) (Operand.tmp 18), type := t3, pos := q3, after := #[{ on := 0, ground := Ground.data }, { on := 2, ground := Ground.data }], guard := none },
    { dst := some 20, op := Op.load 64 (Operand.tmp 19), type := t4, pos := q4, after := #[{ on := 3, ground := Ground.data }], guard := none },
    { dst := some 21, op := Op.load 27 (Operand.tmp 1), type := t5, pos := q5, after := #[], guard := none },
    { dst := some 22, op := Op.fieldAddr 66 (Operand.tmp 5) 1, type := t6, pos := q6, after := #[], guard := none },
    { dst := some 23, op := Op.load 2 (Operand.tmp 22), type := t7, pos := q7, after := #[{ on := 6, ground := Ground.data }], guard := none },
    { dst := some 24, op := Op.indexAddr 27 (Operand.tmp 21) (Operand.tmp 23), type := t8, pos := q8, after := #[{ on := 5, ground := Ground.data }, { on := 7, ground := Ground.data }], guard := none },
    { dst := some 25, op := Op.load 64 (Operand.tmp 24), type := t9, pos := q9, after := #[{ on := 8, ground := Ground.data }], guard := none },
    { dst := some 26, op := Op.call { callee := Callee.value (Operand.func 32), args := #[Operand.tmp 20, Operand.tmp 25], argTypes := #[64, 64] }, type := t10, pos := q10, after := #[{ on := 4, ground := Ground.data }, { on := 9, ground := Ground.data }], guard := none },
    { dst := some 15, op := Op.move (Operand.tmp 26), type := t11, pos := q11, after := #[{ on := 10, ground := Ground.data }], guard := none },
    { dst := some 27, op := Op.extract (Operand.tmp 15) 0, type := t12, pos := q12, after := #[{ on := 11, ground := Ground.data }], guard := none },
    { dst := some 28, op := Op.extract (Operand.tmp 15) 1, type := t13, pos := q13, after := #[{ on := 11, ground := Ground.data }, { on := 17, ground := Ground.gcOnly Departure.lateStores }], guard := none },
    { dst := some 29, op := Op.extract (Operand.tmp 15) 2, type := t14, pos := q14, after := #[{ on := 11, ground := Ground.data }, { on := 18, ground := Ground.gcOnly Departure.lateStores }], guard := none },
    { dst := some 7, op := Op.alloc 41, type := t15, pos := q15, after := #[], guard := none },
    { dst := some 8, op := Op.alloc 41, type := t16, pos := q16, after := #[], guard := none },
    { dst := some 6, op := Op.assign (Operand.tmp 27), type := t17, pos := q17, after := #[{ on := 12, ground := Ground.data }, { on := 10, ground := Ground.chain }, { on := 0, ground := Ground.phase }, { on := 1, ground := Ground.phase }, { on := 2, ground := Ground.phase }, { on := 3, ground := Ground.phase }, { on := 4, ground := Ground.phase }, { on := 5, ground := Ground.phase }, { on := 6, ground := Ground.phase }, { on := 7, ground := Ground.phase }, { on := 8, ground := Ground.phase }, { on := 9, ground := Ground.phase }, { on := 10, ground := Ground.phase }, { on := 11, ground := Ground.phase }, { on := 12, ground := Ground.phase }, { on := 13, ground := Ground.textOnly Departure.lateStores }, { on := 14, ground := Ground.textOnly Departure.lateStores }, { on := 15, ground := Ground.phase }, { on := 16, ground := Ground.phase }], guard := none },
    { dst := none, op := Op.store 41 (Operand.tmp 7) (Operand.tmp 28), type := t18, pos := q18, after := #[{ on := 15, ground := Ground.data }, { on := 13, ground := Ground.data }, { on := 17, ground := Ground.chain }, { on := 0, ground := Ground.phase }, { on := 1, ground := Ground.phase }, { on := 2, ground := Ground.phase }, { on := 3, ground := Ground.phase }, { on := 4, ground := Ground.phase }, { on := 5, ground := Ground.phase }, { on := 6, ground := Ground.phase }, { on := 7, ground := Ground.phase }, { on := 8, ground := Ground.phase }, { on := 9, ground := Ground.phase }, { on := 10, ground := Ground.phase }, { on := 11, ground := Ground.phase }, { on := 12, ground := Ground.phase }, { on := 13, ground := Ground.phase }, { on := 14, ground := Ground.textOnly Departure.lateStores }, { on := 15, ground := Ground.phase }, { on := 16, ground := Ground.phase }, { on := 17, ground := Ground.phase }], guard := none },
    { dst := none, op := Op.store 41 (Operand.tmp 8) (Operand.tmp 29), type := t19, pos := q19, after := #[{ on := 16, ground := Ground.data }, { on := 14, ground := Ground.data }, { on := 18, ground := Ground.chain }, { on := 0, ground := Ground.phase }, { on := 1, ground := Ground.phase }, { on := 2, ground := Ground.phase }, { on := 3, ground := Ground.phase }, { on := 4, ground := Ground.phase }, { on := 5, ground := Ground.phase }, { on := 6, ground := Ground.phase }, { on := 7, ground := Ground.phase }, { on := 8, ground := Ground.phase }, { on := 9, ground := Ground.phase }, { on := 10, ground := Ground.phase }, { on := 11, ground := Ground.phase }, { on := 12, ground := Ground.phase }, { on := 13, ground := Ground.phase }, { on := 14, ground := Ground.phase }, { on := 15, ground := Ground.phase }, { on := 16, ground := Ground.phase }, { on := 17, ground := Ground.phase }, { on := 18, ground := Ground.phase }], guard := none }] true).wpIn (Fence.wide.inRound lr) nr Try.prog Q a0 w0 := by
  have hS : distS [some 16, some 17, some 18, some 19, some 20, some 21, some 22, some 23, some 24, some 25, some 26, some 15, some 27, some 28, some 29, some 7, some 8, some 6, none, none] = true := rfl
  refine wpIn_region_q (by kernel_rfl) w0.heap.size [some 16, some 17, some 18, some 19, some 20, some 21, some 22, some 23, some 24, some 25, some 26, some 15, some 27, some 28, some 29, some 7, some 8, some 6, none, none] (VcpIr Bp A off n cap ci ck xa xb xc xd ya yb yc yd w0.heap.size) rfl ?_ ?_
  · intro Q lq aq W iq oq hJ hl ho hall
    have hJ2 := hJ
    obtain ⟨z1, z2, z3, z4, z5, z6, z7⟩ := hJ
    have g1 : aq.tmps.getD 1 undef = .pointer (some ⟨B1, 0, none⟩) := by rw [Array.getD_eq_getD_getElem?, z4 1 (by decide), h1]; rfl
    have g5 : aq.tmps.getD 5 undef = .pointer (some ⟨Bp, 0, none⟩) := by rw [Array.getD_eq_getD_getElem?, z4 5 (by decide), h5]; rfl
    have c0 : W.cell? ⟨B1, 0, none⟩ = some (.slice (some ⟨A, off, none⟩) n cap) := (z5.cell l0).trans k0
    have c1 : W.cell? ⟨Bp, 0, none⟩ = some (.int .i64 (ci : Nat)) := (z5.cell l1).trans k1
    have c2 : W.cell? ⟨Bp, 1, none⟩ = some (.int .i64 (ck : Nat)) := (z5.cell l2).trans k2
    have c3 : W.cell? ⟨A, off + ci * 4, none⟩ = some (.int .i64 xa) := (z5.cell l3).trans k3
    have c4 : W.cell? ⟨A, off + ci * 4 + 1, none⟩ = some (.int .i64 xb) := (z5.cell l4).trans k4
    have c5 : W.cell? ⟨A, off + ci * 4 + 2, none⟩ = some (.int .i64 xc) := (z5.cell l5).trans k5
    have c6 : W.cell? ⟨A, off + ci * 4 + 3, none⟩ = some (.int .i64 xd) := (z5.cell l6).trans k6
    have c7 : W.cell? ⟨A, off + ck * 4, none⟩ = some (.int .i64 ya) := (z5.cell l7).trans k7
    have c8 : W.cell? ⟨A, off + ck * 4 + 1, none⟩ = some (.int .i64 yb) := (z5.cell l8).trans k8
    have c9 : W.cell? ⟨A, off + ck * 4 + 2, none⟩ = some (.int .i64 yc) := (z5.cell l9).trans k9
    have c10 : W.cell? ⟨A, off + ck * 4 + 3, none⟩ = some (.int .i64 yd) := (z5.cell l10).trans k10
    match iq, ho with
    | 0, ho =>
      cases ho
      refine wpOpIn_of rfl rfl (by intro c h; cases h) ?_
      have hK := fun (v : Value) (W2 : World) hW hT hv => hJ2.put hS 0 16 rfl (by omega) (W' := W2) hW hT v hv
      clear ho hall hl hQ
      generalize InvQ _ _ _ w0 a0 (lq.setIfInBounds 0 true) = K at hK ⊢
      clear hJ2 hS z1 z2 z3 z4 z6 z7
      go_simp
      exact hK _ _ z5 (fun _ _ h => h) rfl
    | 1, ho =>
      cases ho
      refine wpOpIn_of rfl rfl (by intro c h; cases h) ?_
      have hK := fun (v : Value) (W2 : World) hW hT hv => hJ2.put hS 1 17 rfl (by omega) (W' := W2) hW hT v hv
      clear ho hall hl hQ
      generalize InvQ _ _ _ w0 a0 (lq.setIfInBounds 1 true) = K at hK ⊢
      clear hJ2 hS z1 z2 z3 z4 z6 z7
      go_simp
      exact hK _ _ z5 (fun _ _ h => h) rfl
    | 2, ho =>
      cases ho
      refine wpOpIn_of rfl rfl (by intro c h; cases h) ?_
      have f1 : (aq.tmps.getD 17 undef) = .pointer (some ⟨Bp, 0, none⟩) := z6 1 17 (hall { on := 1, ground := Ground.data } (by simp) rfl) rfl
      have hK := fun (v : Value) (W2 : World) hW hT hv => hJ2.put hS 2 18 rfl (by omega) (W' := W2) hW hT v hv
      clear ho hall hl hQ
      generalize InvQ _ _ _ w0 a0 (lq.setIfInBounds 2 true) = K at hK ⊢
      clear hJ2 hS z1 z2 z3 z4 z6 z7
      go_simp
      exact hK _ _ z5 (fun _ _ h => h) rfl
    | 3, ho =>
      cases ho
      refine wpOpIn_of rfl rfl (by intro c h; cases h) ?_
      have f0 : (aq.tmps.getD 16 undef) = .slice (some ⟨A, off, none⟩) n cap := z6 0 16 (hall { on := 0, ground := Ground.data } (by simp) rfl) rfl
      have f2 : (aq.tmps.getD 18 undef) = .int .i64 (ci : Nat) := z6 2 18 (hall { on := 2, ground := Ground.data } (by simp) rfl) rfl
      have hK := fun (v : Value) (W2 : World) hW hT hv => hJ2.put hS 3 19 rfl (by omega) (W' := W2) hW hT v hv
      clear ho hall hl hQ
      generalize InvQ _ _ _ w0 a0 (lq.setIfInBounds 3 true) = K at hK ⊢
      clear hJ2 hS z1 z2 z3 z4 z6 z7
      go_simp
      exact hK _ _ z5 (fun _ _ h => h) rfl
    | 4, ho =>
      cases ho
      refine wpOpIn_of rfl rfl (by intro c h; cases h) ?_
      have f3 : (aq.tmps.getD 19 undef) = .pointer (some ⟨A, off + ci * 4, none⟩) := z6 3 19 (hall { on := 3, ground := Ground.data } (by simp) rfl) rfl
      have hK := fun (v : Value) (W2 : World) hW hT hv => hJ2.put hS 4 20 rfl (by omega) (W' := W2) hW hT v hv
      clear ho hall hl hQ
      generalize InvQ _ _ _ w0 a0 (lq.setIfInBounds 4 true) = K at hK ⊢
      clear hJ2 hS z1 z2 z3 z4 z6 z7
      go_simp
      exact hK _ _ z5 (fun _ _ h => h) rfl
    | 5, ho =>
      cases ho
      refine wpOpIn_of rfl rfl (by intro c h; cases h) ?_
      have hK := fun (v : Value) (W2 : World) hW hT hv => hJ2.put hS 5 21 rfl (by omega) (W' := W2) hW hT v hv
      clear ho hall hl hQ
      generalize InvQ _ _ _ w0 a0 (lq.setIfInBounds 5 true) = K at hK ⊢
      clear hJ2 hS z1 z2 z3 z4 z6 z7
      go_simp
      exact hK _ _ z5 (fun _ _ h => h) rfl
    | 6, ho =>
      cases ho
      refine wpOpIn_of rfl rfl (by intro c h; cases h) ?_
      have hK := fun (v : Value) (W2 : World) hW hT hv => hJ2.put hS 6 22 rfl (by omega) (W' := W2) hW hT v hv
      clear ho hall hl hQ
      generalize InvQ _ _ _ w0 a0 (lq.setIfInBounds 6 true) = K at hK ⊢
      clear hJ2 hS z1 z2 z3 z4 z6 z7
      go_simp
      exact hK _ _ z5 (fun _ _ h => h) rfl
    | 7, ho =>
      cases ho
      refine wpOpIn_of rfl rfl (by intro c h; cases h) ?_
      have f6 : (aq.tmps.getD 22 undef) = .pointer (some ⟨Bp, 1, none⟩) := z6 6 22 (hall { on := 6, ground := Ground.data } (by simp) rfl) rfl
      have hK := fun (v : Value) (W2 : World) hW hT hv => hJ2.put hS 7 23 rfl (by omega) (W' := W2) hW hT v hv
      clear ho hall hl hQ
      generalize InvQ _ _ _ w0 a0 (lq.setIfInBounds 7 true) = K at hK ⊢
      clear hJ2 hS z1 z2 z3 z4 z6 z7
      go_simp
      exact hK _ _ z5 (fun _ _ h => h) rfl
    | 8, ho =>
      cases ho
      refine wpOpIn_of rfl rfl (by intro c h; cases h) ?_
      have f5 : (aq.tmps.getD 21 undef) = .slice (some ⟨A, off, none⟩) n cap := z6 5 21 (hall { on := 5, ground := Ground.data } (by simp) rfl) rfl
      have f7 : (aq.tmps.getD 23 undef) = .int .i64 (ck : Nat) := z6 7 23 (hall { on := 7, ground := Ground.data } (by simp) rfl) rfl
      have hK := fun (v : Value) (W2 : World) hW hT hv => hJ2.put hS 8 24 rfl (by omega) (W' := W2) hW hT v hv
      clear ho hall hl hQ
      generalize InvQ _ _ _ w0 a0 (lq.setIfInBounds 8 true) = K at hK ⊢
      clear hJ2 hS z1 z2 z3 z4 z6 z7
      go_simp
      exact hK _ _ z5 (fun _ _ h => h) rfl
    | 9, ho =>
      cases ho
      refine wpOpIn_of rfl rfl (by intro c h; cases h) ?_
      have f8 : (aq.tmps.getD 24 undef) = .pointer (some ⟨A, off + ck * 4, none⟩) := z6 8 24 (hall { on := 8, ground := Ground.data } (by simp) rfl) rfl
      have hK := fun (v : Value) (W2 : World) hW hT hv => hJ2.put hS 9 25 rfl (by omega) (W' := W2) hW hT v hv
      clear ho hall hl hQ
      generalize InvQ _ _ _ w0 a0 (lq.setIfInBounds 9 true) = K at hK ⊢
      clear hJ2 hS z1 z2 z3 z4 z6 z7
      go_simp
      exact hK _ _ z5 (fun _ _ h => h) rfl
    | 10, ho =>
      cases ho
      refine wpOpIn_of rfl rfl (by intro c h; cases h) ?_
      have f4 : (aq.tmps.getD 20 undef) = .agg #[.int .i64 xa, .int .i64 xb, .int .i64 xc, .int .i64 xd] := z6 4 20 (hall { on := 4, ground := Ground.data } (by simp) rfl) rfl
      have f9 : (aq.tmps.getD 25 undef) = .agg #[.int .i64 ya, .int .i64 yb, .int .i64 yc, .int .i64 yd] := z6 9 25 (hall { on := 9, ground := Ground.data } (by simp) rfl) rfl
      have hK := fun (v : Value) (W2 : World) hW hT hv => hJ2.put hS 10 26 rfl (by omega) (W' := W2) hW hT v hv
      clear ho hall hl hQ
      generalize InvQ _ _ _ w0 a0 (lq.setIfInBounds 10 true) = K at hK ⊢
      clear hJ2 hS z1 z2 z3 z4 z6 z7
      obtain ⟨r0, r1, r2, r3, r4, r5, r6, r7, r8, r9, r10, r11, s0, s1, s2, s3, s4, s5, s6, s7, s8, s9, s10, s11, hW12⟩ := meetW_12 xa xb xc xd ya yb yc yd
      have MT := meet_det xa xb xc xd ya yb yc yd i1 i2 i3 i4 j1 j2 j3 j4
      rw [hW12] at MT
      go_simp
      refine (MT W).mono ?_
      rintro e v1 ⟨rfl, hBv⟩
      exact hK _ _ (z5.trans (hBv.mono z5.size)) (fun j v h => h.mono fun g k hg => hg.step hBv) ⟨_, _, ⟨_, _, _, _, _, _, _, _, _, _, _, _, rfl⟩, ⟨_, _, _, _, _, _, _, _, _, _, _, _, rfl⟩, rfl⟩
    | 11, ho =>
      cases ho
      refine wpOpIn_of rfl rfl (by intro c h; cases h) ?_
      have f10 : ∃ x y, W12 x ∧ W12 y ∧ (aq.tmps.getD 26 undef) = .tuple #[.int .i64 (kndZ xa xb xc xd ya yb yc yd), x, y] := z6 10 26 (hall { on := 10, ground := Ground.data } (by simp) rfl) rfl
      obtain ⟨x, y, hx, hy, he⟩ := f10
      have hK := fun (v : Value) (W2 : World) hW hT hv => hJ2.put hS 11 15 rfl (by omega) (W' := W2) hW hT v hv
      clear ho hall hl hQ
      generalize InvQ _ _ _ w0 a0 (lq.setIfInBounds 11 true) = K at hK ⊢
      clear hJ2 hS z1 z2 z3 z4 z6 z7
      go_simp
      exact hK _ _ z5 (fun _ _ h => h) ⟨x, y, hx, hy, rfl⟩
    | 12, ho =>
      cases ho
      refine wpOpIn_of rfl rfl (by intro c h; cases h) ?_
      have f11 : ∃ x y, W12 x ∧ W12 y ∧ (aq.tmps.getD 15 undef) = .tuple #[.int .i64 (kndZ xa xb xc xd ya yb yc yd), x, y] := z6 11 15 (hall { on := 11, ground := Ground.data } (by simp) rfl) rfl
      obtain ⟨x, y, hx, hy, he⟩ := f11
      have hK := fun (v : Value) (W2 : World) hW hT hv => hJ2.put hS 12 27 rfl (by omega) (W' := W2) hW hT v hv
      clear ho hall hl hQ
      generalize InvQ _ _ _ w0 a0 (lq.setIfInBounds 12 true) = K at hK ⊢
      clear hJ2 hS z1 z2 z3 z4 z6 z7
      go_simp
      exact hK _ _ z5 (fun _ _ h => h) rfl
    | 13, ho =>
      cases ho
      refine wpOpIn_of rfl rfl (by intro c h; cases h) ?_
      have f11 : ∃ x y, W12 x ∧ W12 y ∧ (aq.tmps.getD 15 undef) = .tuple #[.int .i64 (kndZ xa xb xc xd ya yb yc yd), x, y] := z6 11 15 (hall { on := 11, ground := Ground.data } (by simp) rfl) rfl
      obtain ⟨x, y, hx, hy, he⟩ := f11
      have hK := fun (v : Value) (W2 : World) hW hT hv => hJ2.put hS 13 28 rfl (by omega) (W' := W2) hW hT v hv
      clear ho hall hl hQ
      generalize InvQ _ _ _ w0 a0 (lq.setIfInBounds 13 true) = K at hK ⊢
      clear hJ2 hS z1 z2 z3 z4 z6 z7
      go_simp
      exact hK _ _ z5 (fun _ _ h => h) hx
    | 14, ho =>
      cases ho
      refine wpOpIn_of rfl rfl (by intro c h; cases h) ?_
      have f11 : ∃ x y, W12 x ∧ W12 y ∧ (aq.tmps.getD 15 undef) = .tuple #[.int .i64 (kndZ xa xb xc xd ya yb yc yd), x, y] := z6 11 15 (hall { on := 11, ground := Ground.data } (by simp) rfl) rfl
      obtain ⟨x, y, hx, hy, he⟩ := f11
      have hK := fun (v : Value) (W2 : World) hW hT hv => hJ2.put hS 14 29 rfl (by omega) (W' := W2) hW hT v hv
      clear ho hall hl hQ
      generalize InvQ _ _ _ w0 a0 (lq.setIfInBounds 14 true) = K at hK ⊢
      clear hJ2 hS z1 z2 z3 z4 z6 z7
      go_simp
      exact hK _ _ z5 (fun _ _ h => h) hy
    | 15, ho =>
      cases ho
      refine wpOpIn_of rfl rfl (by intro c h; cases h) ?_
      have hK := fun (v : Value) (W2 : World) hW hT hv => hJ2.put hS 15 7 rfl (by omega) (W' := W2) hW hT v hv
      clear ho hall hl hQ
      generalize InvQ _ _ _ w0 a0 (lq.setIfInBounds 15 true) = K at hK ⊢
      clear hJ2 hS z1 z2 z3 z4 z6 z7
      go_simp
      exact hK _ _ (z5.alloc z5.size _) (fun j v h => h.mono fun g k hg => hg.step ((Below.refl _ _).alloc (Nat.le_refl _) _)) ⟨_, rfl, z5.size, _, rfl, Blk.new W [.int .u64 0, .int .u64 0, .int .u64 0, .int .u64 0, .int .u64 0, .int .u64 0, .int .u64 0, .int .u64 0, .int .u64 0, .int .u64 0, .int .u64 0, .int .u64 0] 41 rfl⟩
    | 16, ho =>
      cases ho
      refine wpOpIn_of rfl rfl (by intro c h; cases h) ?_
      have hK := fun (v : Value) (W2 : World) hW hT hv => hJ2.put hS 16 8 rfl (by omega) (W' := W2) hW hT v hv
      clear ho hall hl hQ
      generalize InvQ _ _ _ w0 a0 (lq.setIfInBounds 16 true) = K at hK ⊢
      clear hJ2 hS z1 z2 z3 z4 z6 z7
      go_simp
      exact hK _ _ (z5.alloc z5.size _) (fun j v h => h.mono fun g k hg => hg.step ((Below.refl _ _).alloc (Nat.le_refl _) _)) ⟨_, rfl, z5.size, _, rfl, Blk.new W [.int .u64 0, .int .u64 0, .int .u64 0, .int .u64 0, .int .u64 0, .int .u64 0, .int .u64 0, .int .u64 0, .int .u64 0, .int .u64 0, .int .u64 0, .int .u64 0] 41 rfl⟩
    | 17, ho =>
      cases ho
      refine wpOpIn_of rfl rfl (by intro c h; cases h) ?_
      have f12 : (aq.tmps.getD 27 undef) = .int .i64 (kndZ xa xb xc xd ya yb yc yd) := z6 12 27 (hall { on := 12, ground := Ground.data } (by simp) rfl) rfl
      have hK := fun (v : Value) (W2 : World) hW hT hv => hJ2.put hS 17 6 rfl (by omega) (W' := W2) hW hT v hv
      clear ho hall hl hQ
      generalize InvQ _ _ _ w0 a0 (lq.setIfInBounds 17 true) = K at hK ⊢
      clear hJ2 hS z1 z2 z3 z4 z6 z7
      go_simp
      exact hK _ _ z5 (fun _ _ h => h) rfl
    | 18, ho =>
      cases ho
      refine wpOpIn_of rfl rfl (by intro c h; cases h) ?_
      have f15 : ∃ g, (aq.tmps.getD 7 undef) = .pointer (some ⟨g, 0, none⟩) ∧ w0.heap.size ≤ g ∧ BlkN W g 12 := z6 15 7 (hall { on := 15, ground := Ground.data } (by simp) rfl) rfl
      obtain ⟨g, hg, hgB, vs, hvs, G⟩ := f15
      have f13 : W12 (aq.tmps.getD 28 undef) := z6 13 28 (hall { on := 13, ground := Ground.data } (by simp) rfl) rfl
      obtain ⟨u0, u1, u2, u3, u4, u5, u6, u7, u8, u9, u10, u11, hx⟩ := f13
      have hK := fun (W2 : World) hW hT hv => hJ2.world 18 rfl (W' := W2) hW hT hv
      clear ho hall hl hQ
      generalize InvQ _ _ _ w0 a0 (lq.setIfInBounds 18 true) = K at hK ⊢
      clear hJ2 hS z1 z2 z3 z4 z6 z7
      obtain ⟨v0, v1, v2, v3, v4, v5, v6, v7, v8, v9, v10, v11, rfl⟩ : ∃ v0 v1 v2 v3 v4 v5 v6 v7 v8 v9 v10 v11, vs = [v0, v1, v2, v3, v4, v5, v6, v7, v8, v9, v10, v11] := by match vs, hvs with | [v0, v1, v2, v3, v4, v5, v6, v7, v8, v9, v10, v11], _ => exact ⟨_, _, _, _, _, _, _, _, _, _, _, _, rfl⟩
      have b0 := G.c 0 rfl; have r0 := G.f 0 rfl
      have b1 := G.c 1 rfl; have r1 := G.f 1 rfl
      have b2 := G.c 2 rfl; have r2 := G.f 2 rfl
      have b3 := G.c 3 rfl; have r3 := G.f 3 rfl
      have b4 := G.c 4 rfl; have r4 := G.f 4 rfl
      have b5 := G.c 5 rfl; have r5 := G.f 5 rfl
      have b6 := G.c 6 rfl; have r6 := G.f 6 rfl
      have b7 := G.c 7 rfl; have r7 := G.f 7 rfl
      have b8 := G.c 8 rfl; have r8 := G.f 8 rfl
      have b9 := G.c 9 rfl; have r9 := G.f 9 rfl
      have b10 := G.c 10 rfl; have r10 := G.f 10 rfl
      have b11 := G.c 11 rfl; have r11 := G.f 11 rfl
      have hlt := G.lt
      clear G
      go_simp
      exact hK _ (below_set12 z5 hgB) (fun j v h => h.mono fun g2 k hg => ((((((((((((hg.set _ 0 _).set _ 1 _).set _ 2 _).set _ 3 _).set _ 4 _).set _ 5 _).set _ 6 _).set _ 7 _).set _ 8 _).set _ 9 _).set _ 10 _).set _ 11 _)) trivial
    | 19, ho =>
      cases ho
      refine wpOpIn_of rfl rfl (by intro c h; cases h) ?_
      have f16 : ∃ g, (aq.tmps.getD 8 undef) = .pointer (some ⟨g, 0, none⟩) ∧ w0.heap.size ≤ g ∧ BlkN W g 12 := z6 16 8 (hall { on := 16, ground := Ground.data } (by simp) rfl) rfl
      obtain ⟨g, hg, hgB, vs, hvs, G⟩ := f16
      have f14 : W12 (aq.tmps.getD 29 undef) := z6 14 29 (hall { on := 14, ground := Ground.data } (by simp) rfl) rfl
      obtain ⟨u0, u1, u2, u3, u4, u5, u6, u7, u8, u9, u10, u11, hx⟩ := f14
      have hK := fun (W2 : World) hW hT hv => hJ2.world 19 rfl (W' := W2) hW hT hv
      clear ho hall hl hQ
      generalize InvQ _ _ _ w0 a0 (lq.setIfInBounds 19 true) = K at hK ⊢
      clear hJ2 hS z1 z2 z3 z4 z6 z7
      obtain ⟨v0, v1, v2, v3, v4, v5, v6, v7, v8, v9, v10, v11, rfl⟩ : ∃ v0 v1 v2 v3 v4 v5 v6 v7 v8 v9 v10 v11, vs = [v0, v1, v2, v3, v4, v5, v6, v7, v8, v9, v10, v11] := by match vs, hvs with | [v0, v1, v2, v3, v4, v5, v6, v7, v8, v9, v10, v11], _ => exact ⟨_, _, _, _, _, _, _, _, _, _, _, _, rfl⟩
      have b0 := G.c 0 rfl; have r0 := G.f 0 rfl
      have b1 := G.c 1 rfl; have r1 := G.f 1 rfl
      have b2 := G.c 2 rfl; have r2 := G.f 2 rfl
      have b3 := G.c 3 rfl; have r3 := G.f 3 rfl
      have b4 := G.c 4 rfl; have r4 := G.f 4 rfl
      have b5 := G.c 5 rfl; have r5 := G.f 5 rfl
      have b6 := G.c 6 rfl; have r6 := G.f 6 rfl
      have b7 := G.c 7 rfl; have r7 := G.f 7 rfl
      have b8 := G.c 8 rfl; have r8 := G.f 8 rfl
      have b9 := G.c 9 rfl; have r9 := G.f 9 rfl
      have b10 := G.c 10 rfl; have r10 := G.f 10 rfl
      have b11 := G.c 11 rfl; have r11 := G.f 11 rfl
      have hlt := G.lt
      clear G
      go_simp
      exact hK _ (below_set12 z5 hgB) (fun j v h => h.mono fun g2 k hg => ((((((((((((hg.set _ 0 _).set _ 1 _).set _ 2 _).set _ 3 _).set _ 4 _).set _ 5 _).set _ 6 _).set _ 7 _).set _ 8 _).set _ 9 _).set _ 10 _).set _ 11 _)) trivial
    | iq + 20, ho => simp at ho
  · intro lq aq W hJ hr
    obtain ⟨z1, z2, z3, z4, z5, z6, z7⟩ := hJ
    have hl := listed_of hr [0, 1, 2, 3, 4, 5, 6, 7, 8, 9, 10, 11, 12, 15, 16, 17] [] (by simp) (by kernel_rfl) (by rw [z1]; decide)
    exact hQ aq W z2 z3 (fun e he => z4 e (by simpa using he)) (z6 17 6 (hl 17 (by simp)) rfl) z5
end Go.Proofs.Ytpmnmlhfaoajdaa

/- A drawn region that appends one element to a row of the call's own: what every operation keeps. -/
namespace Go.Proofs.Ytpmnmlhfaoajdaa
open Go.RowKit
theorem getD_tf {l : Array Bool} {i : Nat} (h : l.getD i true = false) : l.getD i false = false := by
  rw [Array.getD_eq_getD_getElem?] at *
  cases hh : l[i]? with
  | none => rw [hh] at h; cases h
  | some b => rw [hh] at h; exact h
theorem ownA_step {w w' : World} {base n : Nat} {e : TypeId} {size : Nat} {v : Value} {xs : List Value} (h : w.ownsRow base e size v n xs) (hB : Below w.heap.size w w') : w'.ownsRow base e size v n xs := by
  rcases h with ⟨h0, h1 | ⟨g, cap, cur, h1, h2, h3, h4⟩⟩
  · exact ⟨h0, .inl h1⟩
  · refine ⟨h0, .inr ⟨g, cap, cur, h1, h2, ?_, h4⟩⟩
    rw [hB.block g (Array.getElem?_eq_some_iff.1 h3).1]
    exact h3
/-- ib builds the element (slot de), ia appends it (slot da), iz assigns the row (slot dr), all others being ahead of that. -/
def AppI (n ib ia iz dr de da base : Nat) (T : TypeId) (size : Nat) (o : Value) (c : Nat) (Lz news : List Value) (lz : Array Bool) (az : Act) (W : World) : Prop :=
  (lz.getD iz false = true → ∀ j, j < n → lz.getD j false = true) ∧ (lz.getD iz false = false → az.tmps.getD dr undef = o) ∧
  (lz.getD ia false = false → W.ownsRow base T size o c Lz ∧ (lz.getD ib false = true → ∃ g cp, az.tmps.getD de undef = .slice (some ⟨g, 0, none⟩) 1 cp ∧ Blk W g news)) ∧
  (lz.getD ia false = true → W.ownsRow base T size (az.tmps.getD da undef) (c + 1) (Lz ++ news)) ∧ (lz.getD iz false = true → az.tmps.getD dr undef = az.tmps.getD da undef)
theorem AppI.off {n ib ia iz dr de da base : Nat} {T : TypeId} {size : Nat} {o : Value} {c : Nat} {Lz news : List Value} {lz : Array Bool} {az : Act} {W : World} (h : AppI n ib ia iz dr de da base T size o c Lz news lz az W) {i : Nat} (hi : i < n) (hl : lz.getD i true = false) : lz.getD iz false = false := by
  cases hh : lz.getD iz false with
  | false => rfl
  | true => have := h.1 hh i hi; rw [getD_tf hl] at this; cases this
theorem AppI.done {n ib ia iz dr de da base : Nat} {T : TypeId} {size : Nat} {o : Value} {c : Nat} {Lz news : List Value} {lz : Array Bool} {az : Act} {W : World} (h : AppI n ib ia iz dr de da base T size o c Lz news lz az W) (hia : ia < n) (hl : lz.getD iz false = true) : W.ownsRow base T size (az.tmps.getD dr undef) (c + 1) (Lz ++ news) := by
  rw [h.2.2.2.2 hl]
  exact h.2.2.2.1 (h.1 hl ia hia)
end Go.Proofs.Ytpmnmlhfaoajdaa

/- Segments that meet, by pairs: the document. -/
namespace Go.Proofs.Ytpmnmlhfaoajdaa
open Go.RowKit
/-- What is told of the pairs: a row of its own, and whether it is told. -/
def CrP (n : Nat) (x : Nat → Int) (w : World) (e : Ending) (w' : World) : Prop := ∃ v, e = .returned (.tuple #[v, .bool (decide (sgI n x = 0))]) ∧ w'.ownsRow w.heap.size 66 2 v (if sgI n x = 0 then (mtL n x (prI n n)).length else 0) (if sgI n x = 0 then mtC n x (prI n n) else []) ∧ Below w.heap.size w w'
theorem cp_yes {n : Nat} {x : Nat → Int} {w w' : World} {v : Value} (h : sgI n x = 0) (ho : w'.ownsRow w.heap.size 66 2 v (mtL n x (prI n n)).length (mtC n x (prI n n))) (hB : Below w.heap.size w w') : CrP n x w (.returned (.tuple #[v, .bool true])) w' :=
  ⟨v, by rw [decide_eq_true h], by rw [if_pos h, if_pos h]; exact ho, hB⟩
theorem cp_no {n : Nat} {x : Nat → Int} {w w' : World} (h : ¬ sgI n x = 0) (hB : Below w.heap.size w w') : CrP n x w (.returned (.tuple #[.slice none 0 0, .bool false])) w' :=
  ⟨_, by rw [decide_eq_false h], by rw [if_neg h, if_neg h]; exact World.ownsRow_nil _ _ _ _, hB⟩
set_option maxRecDepth 100000 in
set_option maxHeartbeats 8000000 in
theorem specCross_any (ao : Option Addr) (n cap : Nat) (x : Nat → Int) (w : World) (hS : SegIn w ao n x) : Calls Try.prog 7 #[.slice ao n cap] w (CrP n x w) := by
  have HS : Hid (SegIn w ao n x) := hS
  have C1 := l7Ok_any ao n cap x w hS
  clear hS
  go_enter Try.func7, Try.ntmps7
  go_wp2_with fail
  refine C1.mono ?_
  rintro e w1 ⟨rfl, hB⟩
  clear C1
  by_cases hsg : sgI n x = 0
  · rw [decide_eq_true hsg]
    obtain ⟨h40, hall⟩ := sgI_zero hsg
    have HG : Hid (sgI n x = 0) := hsg
    have HA : Hid (∀ i, i < n → segOk (x (i * 4)) (x (i * 4 + 1)) (x (i * 4 + 2)) (x (i * 4 + 3)) = true) := hall
    have hnI : (n : Int) ≤ 40 := by omega
    obtain ⟨i0, hi, hz0, hz1, hz2⟩ := info_parts Try.infoPair
    have hsz := hB.size
    clear hall hsg
    go_wp2_with fail
    go_loopw [4, 5] (fun o i wr => ∃ c : Nat, c ≤ n ∧ i = .int .i64 c ∧ wr.ownsRow w.heap.size 66 2 o (mtL n x (prI n c)).length (mtC n x (prI n c)) ∧ Below w.heap.size w wr) (fun _ i _ => n - (intOf i).toNat)
    case atStart => exact ⟨0, by omega, rfl, World.ownsRow_made w1 #[] 0 hsz (by decide) rfl, hB.alloc hsz _⟩
    case round =>
      clear hB hsz
      obtain ⟨c, hc, rfl, hown, hB⟩ := hrel
      by_cases hcn : c < n
      · have hcI : (c : Int) < n := by omega
        have HOW : Hid (wr.ownsRow w.heap.size 66 2 u4 (mtL n x (prI n c)).length (mtC n x (prI n c)) ∧ Below w.heap.size w wr) := ⟨hown, hB⟩
        clear hown hB
        go_wp2_with fail
        go_loopw [4, 6] (fun o i wr => ∃ d : Nat, c + 1 ≤ d ∧ d ≤ n ∧ i = .int .i64 d ∧ wr.ownsRow w.heap.size 66 2 o (mtL n x (prI n c ++ rowP n c d)).length (mtC n x (prI n c ++ rowP n c d)) ∧ Below w.heap.size w wr) (fun _ i _ => n - (intOf i).toNat)
        case atStart => exact ⟨c + 1, by omega, by omega, by go_num, by rw [rowP_off (by omega), List.append_nil]; exact HOW.out.1, HOW.out.2⟩
        case round =>
          clear HOW
          obtain ⟨d, hcd, hd, rfl, hown, hB⟩ := hrel
          by_cases hdn : d < n
          · have hdI : (d : Int) < n := by omega
            obtain ⟨A, off, rfl, hA, hcell⟩ := HS.out c hcn
            obtain ⟨A', off', e, _, hcell2⟩ := HS.out d hdn
            cases e
            have e0 : ∀ o, wr.cell? ⟨A, o, none⟩ = w.cell? ⟨A, o, none⟩ := fun o => hB.cell (p := ⟨A, o, none⟩) hA
            have q0 := (e0 _).trans (hcell 0 (by omega)); have q1 := (e0 _).trans (hcell 1 (by omega)); have q2 := (e0 _).trans (hcell 2 (by omega)); have q3 := (e0 _).trans (hcell 3 (by omega))
            have p0 := (e0 _).trans (hcell2 0 (by omega)); have p1 := (e0 _).trans (hcell2 1 (by omega)); have p2 := (e0 _).trans (hcell2 2 (by omega)); have p3 := (e0 _).trans (hcell2 3 (by omega))
            simp only [Nat.add_zero] at q0 p0
            have hA' : A < wr.heap.size := Nat.lt_of_lt_of_le hA hB.size
            obtain ⟨i1, i2, i3, i4⟩ := in1_segS (HA.out c hcn)
            obtain ⟨j1, j2, j3, j4⟩ := in1_segS (HA.out d hdn)
            have hkd : kdS x c d = kndZ (x (c * 4)) (x (c * 4 + 1)) (x (c * 4 + 2)) (x (c * 4 + 3)) (x (d * 4)) (x (d * 4 + 1)) (x (d * 4 + 2)) (x (d * 4 + 3)) := rfl
            have hl1 := prI_len h40 c hc
            have hl2 := rowP_len n c d hd
            have hl3 := mtL_len n x (prI n c ++ rowP n c d)
            rw [List.length_append] at hl3
            have HON : Hid (¬ kdS x c d = 0 → mtL n x (prI n c ++ rowP n c (d + 1)) = mtL n x (prI n c ++ rowP n c d) ++ [⟨(c, d), hcd, hdn⟩] ∧ mtC n x (prI n c ++ rowP n c (d + 1)) = mtC n x (prI n c ++ rowP n c d) ++ [.int .i64 (c : Int), .int .i64 (d : Int)]) := fun h => by
              rw [rowP_on hdn hcd, ← List.append_assoc]
              exact ⟨mtL_on h, mtC_on h⟩
            have HOF : Hid (kdS x c d = 0 → mtL n x (prI n c ++ rowP n c (d + 1)) = mtL n x (prI n c ++ rowP n c d) ∧ mtC n x (prI n c ++ rowP n c (d + 1)) = mtC n x (prI n c ++ rowP n c d)) := fun h => by
              rw [rowP_on hdn hcd, ← List.append_assoc]
              exact ⟨mtL_off h, mtC_off h⟩
            go_upto_region 10 with fail
            refine cpSr (A := A) (off := off) (n := n) (cap := cap) (ci := c) (ck := d) hcI hdI i1 i2 i3 i4 j1 j2 j3 j4 rfl rfl rfl q0 hA' q1 hA' q2 hA' q3 hA' p0 hA' p1 hA' p2 hA' p3 hA' rfl ?_
            rintro ⟨tm, df⟩ w3 hz hdf hoff hV hB1
            simp only at hz hdf hoff hV
            subst hdf
            have hV2 : tm.getD 7 undef = .int .i64 (kdS x c d) := hV
            clear hV
            have htm := tmps_fold [29, 30, 31, 32, 33, 34, 35, 36, 37, 28, 38, 39, 40, 8, 9, 7] tm _ hz hoff
            simp only [List.foldl, List.setIfInBounds_toArray, List.set_cons_zero, List.set_cons_succ, hV2] at htm
            clear hz hoff
            generalize tm.getD 29 undef = tz0, tm.getD 30 undef = tz1, tm.getD 31 undef = tz2, tm.getD 32 undef = tz3, tm.getD 33 undef = tz4, tm.getD 34 undef = tz5, tm.getD 35 undef = tz6, tm.getD 36 undef = tz7, tm.getD 37 undef = tz8, tm.getD 28 undef = tz9, tm.getD 38 undef = tz10, tm.getD 39 undef = tz11, tm.getD 40 undef = tz12, tm.getD 8 undef = tz13, tm.getD 9 undef = tz14 at htm
            clear hV2
            subst htm
            have HB1 : Hid (Below wr.heap.size wr w3) := hB1
            have hs3 := hB1.size
            have hsw := hB.size
            have HO3 := ownA_step hown hB1
            have HBN := hB.trans (hB1.mono hB.size)
            clear q0 q1 q2 q3 p0 p1 p2 p3 hB1 hB hown hcell hcell2 e0 hA hA' i1 i2 i3 i4 j1 j2 j3 j4 hkd
            revert HON HOF
            generalize kdS x c d = kz
            intro HON HOF
            by_cases hk : kz = 0
            · have HO := HOF.out hk
              have HOH : Hid (mtL n x (prI n c ++ rowP n c (d + 1)) = mtL n x (prI n c ++ rowP n c d) ∧ mtC n x (prI n c ++ rowP n c (d + 1)) = mtC n x (prI n c ++ rowP n c d)) := HO
              clear HO HON HOF
              subst hk
              go_wp2
              go_roundw
              case rel => exact ⟨d + 1, by omega, by omega, by go_num, by rw [HOH.out.1, HOH.out.2]; exact HO3, HBN⟩
              case measure => simp [intOf]; omega
            · have hne : (kz != 0) = true := by simp [hk]
              have HOH : Hid (mtL n x (prI n c ++ rowP n c (d + 1)) = mtL n x (prI n c ++ rowP n c d) ++ [⟨(c, d), hcd, hdn⟩] ∧ mtC n x (prI n c ++ rowP n c (d + 1)) = mtC n x (prI n c ++ rowP n c d) ++ [.int .i64 (c : Int), .int .i64 (d : Int)]) := HON.out hk
              clear HON HOF hk
              go_wp2_with (at_builtin; refine wpList_append_own _ rfl _ _ 24 rfl w.heap.size 66 i0 (.agg #[.int .i64 0, .int .i64 0]) 2 16 Try.underlying24 hi hz0 hz1 hz2 rfl (by decide) _ _ _ rfl (HO3.alloc _) ⟨w3.heap.size, 0, none⟩ 1 1 [.int .i64 (c : Int), .int .i64 (d : Int)] rfl rfl (cell_two_new _ _ _ _) (one_cell2 _ _) (by unfold maxLen; omega) (by omega) (by simp; omega) ?_)
              intro v' w4 hown2 hgrow2 hnn
              have R1 : w4.ownsRow w.heap.size 66 2 v' (mtL n x (prI n c ++ rowP n c (d + 1))).length (mtC n x (prI n c ++ rowP n c (d + 1))) := by
                rw [HOH.out.1, HOH.out.2, List.length_append]
                exact hown2
              have T4 : Below w.heap.size w w4 := (HBN.alloc HBN.size _).grown hgrow2 (by simp; omega) (fun j hj => (HO3.lt j hj).1)
              clear hown2 hgrow2 hnn HO3 HBN
              go_wp2
              go_roundw
              case rel => exact ⟨d + 1, by omega, by omega, by go_num, R1, T4⟩
              case measure => simp [intOf]; omega
          · obtain rfl : d = n := by omega
            have HOW : Hid (wr.ownsRow w.heap.size 66 2 u4 (mtL d x (prI d (c + 1))).length (mtC d x (prI d (c + 1)))) := by rw [prI_succ hcn]; exact hown
            clear hown
            go_wp2
            go_roundw
            case rel => exact ⟨c + 1, by omega, by go_num, HOW.out, hB⟩
            case measure => simp [intOf]; omega
      · obtain rfl : c = n := by omega
        have HOW : Hid (wr.ownsRow w.heap.size 66 2 u4 (mtL c x (prI c c)).length (mtC c x (prI c c))) := hown
        clear hown
        go_wp2
        go_ret2
        exact cp_yes HG.out HOW.out hB
  · rw [decide_eq_false hsg]
    have HG : Hid (¬ sgI n x = 0) := hsg
    clear hsg
    go_wp2
    go_ret2
    exact cp_no HG.out hB
end Go.Proofs.Ytpmnmlhfaoajdaa

/- Segments that meet, by pairs: the program. -/
namespace Go.Proofs.Ytpmnmlhfaoajdaa
open Go.RowKit Go.Shelf
attribute [local go_sem] Oper.semAt_some
theorem own_monoP {w : World} {b b' n : Nat} {e : TypeId} {size : Nat} {v : Value} {xs : List Value} (h : w.ownsRow b' e size v n xs) (hb : b ≤ b') : w.ownsRow b e size v n xs := by
  rcases h with ⟨h0, h1 | ⟨g, cap, cur, h1, h2, h3⟩⟩
  · exact ⟨h0, .inl h1⟩
  · exact ⟨h0, .inr ⟨g, cap, cur, h1, Nat.le_trans hb h2, h3⟩⟩
set_option maxRecDepth 100000 in
set_option maxHeartbeats 8000000 in
theorem implCrossNo_any (ao : Option Addr) (n cap : Nat) (x : Nat → Int) (w : World) (hg : ¬ sgI n x = 0) (hS : SegIn w ao n x) : Calls Try.prog 9 #[.slice ao n cap] w (CrP n x w) := by
  have HG : Hid (¬ sgI n x = 0) := hg
  have b0 := Blk.new w [.slice ao n cap] 27 rfl
  have HB := (Below.refl w.heap.size w).alloc (Nat.le_refl _) (.cells #[.slice ao n cap] 27)
  have C := implSegsFault_any ao n cap x _ (hS.step HB)
  have hne : (sgI n x != 0) = true := by simp; omega
  revert C hne
  generalize ho : sgI n x = o
  have HOO : Hid (sgI n x = o) := ho
  clear ho hg
  intro C hne
  have c0 := b0.c 0 rfl
  go_enter Try.func9, Try.ntmps9
  go_wp2_with fail
  refine C.mono ?_
  rintro e w1 ⟨rfl, hB⟩
  replace HB := HB.trans (hB.mono HB.size)
  clear hB C c0 b0
  go_wp2
  go_ret2
  exact cp_no HG.out HB
set_option maxRecDepth 100000 in
set_option maxHeartbeats 8000000 in
theorem implCrossYes_any (ao : Option Addr) (n cap : Nat) (x : Nat → Int) (w : World) (hg : sgI n x = 0) (hS : SegIn w ao n x) : Calls Try.prog 9 #[.slice ao n cap] w (CrP n x w) := by
  obtain ⟨h40, hall⟩ := sgI_zero hg
  have HG : Hid (sgI n x = 0) := hg
  have b0 := Blk.new w [.slice ao n cap] 27 rfl
  have HS := hS.step ((Below.refl w.heap.size w).alloc (Nat.le_refl _) (.cells #[.slice ao n cap] 27))
  have C := fun w h => implSegsFault_any ao n cap x w h
  rw [hg] at C
  clear hg
  refine (callsIn_wide (n := 12)).1 ?_
  refine callsIn_of_wp_marks Try.func9 rfl trivial ?_ rfl
  simp only [Try.ntmps9, List.size_toArray, List.length_cons, List.length_nil, Nat.reduceAdd, Nat.reduceSub, Array.replicate_succ, Array.replicate_zero, List.push_toArray, List.append_toArray, List.nil_append, List.cons_append]
  gi_wp2_with (first
    | (refine ⟨trivial, ?_⟩; gi_at_call 30; refine (callsIn_wide.2 (C _ HS)).mono ?_; rintro e w1 ⟨rfl, hB1⟩; have b1 := b0.step hB1; have c1 := b1.c 0 rfl; have l1 := b1.lt)
    | (refine ⟨trivial, ?_⟩; gi_at_call 31; refine (callsIn_wide.2 (pairs_any _ _ _ _)).mono ?_; rintro e w' ⟨rfl, rfl⟩))
  have HBw : Below w.heap.size w w1 := ((Below.refl _ _).alloc (Nat.le_refl _) _).trans (hB1.mono (by simp))
  have bS := (Boxed.new w1 24 (.slice none 0 0)).alloc (.cells #[.slice ao n cap] 27)
  have bN := Boxed.new (w1.alloc (.cells #[.slice none 0 0] 24)) 27 (.slice ao n cap)
  simp only [World.size_alloc] at bN
  have hB0 : Below w.heap.size w ((w1.alloc (.cells #[.slice none 0 0] 24)).alloc (.cells #[.slice ao n cap] 27)) := (HBw.alloc HBw.size _).alloc (Nat.le_trans HBw.size (by simp)) _
  have bA := (b1.alloc (.cells #[.slice none 0 0] 24)).alloc (.cells #[.slice ao n cap] 27)
  have hsz : ((w1.alloc (.cells #[.slice none 0 0] 24)).alloc (.cells #[.slice ao n cap] 27)).heap.size = w1.heap.size + 2 := by simp
  obtain ⟨W0, hW0⟩ : ∃ W0, ((w1.alloc (.cells #[.slice none 0 0] 24)).alloc (.cells #[.slice ao n cap] 27)) = W0 := ⟨_, rfl⟩
  rw [hW0] at bS bN hB0 hsz bA ⊢
  clear hW0
  obtain ⟨i0, hi, hz0, hz1, hz2⟩ := info_parts Try.infoPair
  have hA1 : Below (w.heap.size + 1) W0 W0 := Below.refl _ _
  clear C HS b0 hB1 b1 c1
  refine wpIn_rangeFunc_ownH rfl (by omega) (gf := 57) (lb := #[.pointer (some ⟨w1.heap.size + 1, 0, none⟩)]) rfl trivial (enters_of Try.func57 (by kernel_rfl) rfl)
    (pairs_stops (12 - 1) (w.heap.size + 1) (w1.heap.size + 1) ao n cap h40 W0 (by omega) bN.cell) (fun h k => h.trans k) (KpB.put (by omega) (by omega)) (Below.refl _ _) (fun _ => rfl)
    (fun pre W => (∃ v, Boxed W w1.heap.size 24 v ∧ W.ownsRow W0.heap.size 66 2 v (mtL n x pre).length (mtC n x pre) ∧ True) ∧ (Below w.heap.size w W ∧ Blk W w.heap.size [.slice ao n cap]) ∧ W0.heap.size ≤ W.heap.size)
    (fun _ _ _ => False)
    (OwnFrom.and (Own.from (holdsRow_own W0.heap.size w1.heap.size 24 66 2 (fun pre : List (Pr n) => (mtL n x pre).length) (fun pre => mtC n x pre) (fun _ _ => True)) _) (OwnFrom.and (OwnFrom.and (ownFrom_below (Nat.le_refl _) (by omega)) ?blkown) (fun _ X Y row hs hg _ => Nat.le_trans hs hg.size)))
    (fun _ _ _ _ _ hs _ _ => hs.elim)
    ⟨⟨_, bS, World.ownsRow_nil _ _ _ _, trivial⟩, ⟨hB0, bA⟩, Nat.le_refl _⟩
    (fun y a' W => ∃ Bs, BoxV W Bs 66 [.int .i64 (y.1.1 : Int), .int .i64 (y.1.2 : Int)] ∧ a' = { tmps := #[.slice ao n cap, .pointer (some ⟨w.heap.size, 0, none⟩), .slice none 0 0, .bool false, .pointer (some ⟨w1.heap.size, 0, none⟩), .pointer (some ⟨Bs, 0, none⟩), undef, undef, undef, .slice ao n cap, .int .i64 0, .bool false, .slice ao n cap, .func (.func 57) #[] #[.pointer (some ⟨w1.heap.size + 1, 0, none⟩)], .agg #[.int .i64 (y.1.1 : Int), .int .i64 (y.1.2 : Int)], undef, undef, undef, undef, undef, undef, undef, undef, undef, undef, undef, undef, undef, undef, undef, undef, undef, undef, undef, undef, undef, undef], defers := [] })
    (fun y a' _ X Y row hs hg hr => by obtain ⟨Bs, e4, e5⟩ := hs; exact ⟨Bs, boxV_own Bs 66 (fun (_ : Unit) => [.int .i64 (y.1.1 : Int), .int .i64 (y.1.2 : Int)]) () X Y row e4 hg (fun r e => (hr r e).2), e5⟩)
    ?assign ?body ?done ?stop
  case blkown =>
    intro s X Y row hs hg hr
    exact hs.below ((Below.refl (w.heap.size + 1) X).grown hg (by have := hs.lt; omega) (fun k hk => by have := (hr k hk).1; omega)) (by omega)
  case assign =>
    rintro l pre y W K ⟨⟨v, hv, hr, _⟩, ⟨hB1, bA1⟩, hs1⟩ hK
    unfold enP
    gi_wp2
    have hB2 : Below W.heap.size W (W.alloc (.cells #[.int .i64 (y.1.1 : Int), .int .i64 (y.1.2 : Int)] 66)) := (Below.refl _ W).alloc (Nat.le_refl _) _
    have hsW := hB1.size
    have b2 := BoxV.new W 66 [.int .i64 (y.1.1 : Int), .int .i64 (y.1.2 : Int)]
    exact hK _ _ (below_keeps hB2) (KpB.of hB2 (by omega) (by omega)) ⟨⟨v, hv.alloc _, hr.alloc _, trivial⟩, ⟨hB1.trans (hB2.mono hB1.size), bA1.step hB2⟩, Nat.le_trans hs1 hB2.size⟩ ⟨_, b2, rfl⟩
  case body =>
    rintro l pre y a' W hl ⟨r, hr0⟩ ⟨⟨v, hv, hr, _⟩, ⟨hB1, bA1⟩, hs1⟩ ⟨Bs, bB, rfl⟩ hlt
    obtain ⟨⟨ci, ck⟩, hck, hkn⟩ := y
    simp only at hck hkn
    have hcn : ci < n := by omega
    have hcI : (ci : Int) < n := by omega
    have hdI : (ck : Int) < n := by omega
    obtain ⟨A, off, rfl, hA, hcell⟩ := hS ci hcn
    obtain ⟨A', off', e, _, hcell2⟩ := hS ck hkn
    cases e
    have e0 : ∀ o, W.cell? ⟨A, o, none⟩ = w.cell? ⟨A, o, none⟩ := fun o => hB1.cell (p := ⟨A, o, none⟩) hA
    have q0 := (e0 _).trans (hcell 0 (by omega)); have q1 := (e0 _).trans (hcell 1 (by omega)); have q2 := (e0 _).trans (hcell 2 (by omega)); have q3 := (e0 _).trans (hcell 3 (by omega))
    have p0 := (e0 _).trans (hcell2 0 (by omega)); have p1 := (e0 _).trans (hcell2 1 (by omega)); have p2 := (e0 _).trans (hcell2 2 (by omega)); have p3 := (e0 _).trans (hcell2 3 (by omega))
    simp only [Nat.add_zero] at q0 p0
    have hA' : A < W.heap.size := Nat.lt_of_lt_of_le hA hB1.size
    obtain ⟨i1, i2, i3, i4⟩ := in1_segS (hall ci hcn)
    obtain ⟨j1, j2, j3, j4⟩ := in1_segS (hall ck hkn)
    have hl3 := mtL_len n x pre
    have HON : Hid (¬ kdS x ci ck = 0 → mtL n x (pre ++ [⟨(ci, ck), hck, hkn⟩]) = mtL n x pre ++ [⟨(ci, ck), hck, hkn⟩] ∧ mtC n x (pre ++ [⟨(ci, ck), hck, hkn⟩]) = mtC n x pre ++ [.int .i64 (ci : Int), .int .i64 (ck : Int)]) := fun h => ⟨mtL_on h, mtC_on h⟩
    have HOF : Hid (kdS x ci ck = 0 → mtL n x (pre ++ [⟨(ci, ck), hck, hkn⟩]) = mtL n x pre ∧ mtC n x (pre ++ [⟨(ci, ck), hck, hkn⟩]) = mtC n x pre) := fun h => ⟨mtL_off h, mtC_off h⟩
    gi_wp2
    refine cpIr (B1 := w.heap.size) (Bp := Bs) (A := A) (off := off) (n := n) (cap := cap) (ci := ci) (ck := ck) hcI hdI i1 i2 i3 i4 j1 j2 j3 j4 rfl rfl (bA1.c 0 rfl) bA1.lt (bB.blk.c 0 rfl) bB.lt (bB.blk.c 1 rfl) bB.lt q0 hA' q1 hA' q2 hA' q3 hA' p0 hA' p1 hA' p2 hA' p3 hA' rfl ?_
    rintro ⟨tm, df⟩ w3 hz hdf hoff hV hB3
    simp only at hz hdf hoff hV
    subst hdf
    have hV2 : tm.getD 6 undef = .int .i64 (kdS x ci ck) := hV
    clear hV
    have htm := tmps_fold [16, 17, 18, 19, 20, 21, 22, 23, 24, 25, 26, 15, 27, 28, 29, 7, 8, 6] tm _ hz hoff
    simp only [List.foldl, List.setIfInBounds_toArray, List.set_cons_zero, List.set_cons_succ, hV2] at htm
    clear hz hoff
    generalize tm.getD 16 undef = tz0, tm.getD 17 undef = tz1, tm.getD 18 undef = tz2, tm.getD 19 undef = tz3, tm.getD 20 undef = tz4, tm.getD 21 undef = tz5, tm.getD 22 undef = tz6, tm.getD 23 undef = tz7, tm.getD 24 undef = tz8, tm.getD 25 undef = tz9, tm.getD 26 undef = tz10, tm.getD 15 undef = tz11, tm.getD 27 undef = tz12, tm.getD 28 undef = tz13, tm.getD 29 undef = tz14, tm.getD 7 undef = tz15, tm.getD 8 undef = tz16 at htm
    clear hV2
    subst htm
    have hs3 := hB3.size
    have HBN := hB1.trans (hB3.mono hB1.size)
    have bA3 := bA1.step hB3
    have hv3 := boxed_step hv hB3
    have bB3 := bB.step hB3
    have hr3 := ownA_step hr hB3
    clear q0 q1 q2 q3 p0 p1 p2 p3 hcell hcell2 e0 hA hA' i1 i2 i3 i4 j1 j2 j3 j4
    revert HON HOF
    generalize kdS x ci ck = kz
    intro HON HOF
    by_cases hk : kz = 0
    · have HOH : Hid (mtL n x (pre ++ [⟨(ci, ck), hck, hkn⟩]) = mtL n x pre ∧ mtC n x (pre ++ [⟨(ci, ck), hck, hkn⟩]) = mtC n x pre) := HOF.out hk
      clear HON HOF
      subst hk
      have HFIN : Hid (KeepsFrom W0.heap.size W w3 ∧ KpB (w.heap.size + 1) (w1.heap.size + 1) W w3 ∧ ((∃ v, Boxed w3 w1.heap.size 24 v ∧ w3.ownsRow W0.heap.size 66 2 v (mtL n x (pre ++ [⟨(ci, ck), hck, hkn⟩])).length (mtC n x (pre ++ [⟨(ci, ck), hck, hkn⟩])) ∧ True) ∧ (Below w.heap.size w w3 ∧ Blk w3 w.heap.size [.slice (some ⟨A, off, none⟩) n cap]) ∧ W0.heap.size ≤ w3.heap.size)) := by
        refine ⟨below_keeps hB3, KpB.of hB3 (by omega) (by omega), ⟨v, hv3, by rw [HOH.out.1, HOH.out.2]; exact hr3, trivial⟩, ⟨HBN, bA3⟩, by omega⟩
      clear hB3 HBN bA3 hv3 bB3 hr3 bA1 hv bB hr hB1
      gi_wp2
      exact HFIN.out
    · have hne : (kz != 0) = true := by simp [hk]
      have HOH : Hid (mtL n x (pre ++ [⟨(ci, ck), hck, hkn⟩]) = mtL n x pre ++ [⟨(ci, ck), hck, hkn⟩] ∧ mtC n x (pre ++ [⟨(ci, ck), hck, hkn⟩]) = mtC n x pre ++ [.int .i64 (ci : Int), .int .i64 (ck : Int)]) := HON.out hk
      clear HON HOF hk
      have cv := hv3.cell
      have s0 := bB3.blk.c 0 rfl; have s1 := bB3.blk.c 1 rfl
      gi_wp2_with (gi_at_builtin; refine wpListIn_append_own _ rfl _ _ 24 rfl W0.heap.size 66 i0 (.agg #[.int .i64 0, .int .i64 0]) 2 16 Try.underlying24 hi hz0 hz1 hz2 rfl (by decide) _ _ _ rfl (hr3.alloc _) ⟨w3.heap.size, 0, none⟩ 1 1 [.int .i64 (ci : Int), .int .i64 (ck : Int)] rfl rfl (cell_two_new _ _ _ _) (one_cell2 _ _) (by unfold maxLen; omega) (by omega) (by simp; omega) ?_)
      intro v' w2 hown' hgrow hnn
      obtain ⟨g', cap', rfl⟩ := ownsRow_succ hown'
      have hvo : ∀ j, v.ownBlock = some j → w1.heap.size + 2 ≤ j := fun j hj => by have := (hr.lt j hj).1; omega
      have hblk : ∀ k, k < w1.heap.size + 2 → w2.heap[k]? = W.heap[k]? := fun k hk => ((hgrow.block k (by simp; omega) (fun e => by have := hvo k e.symm; omega)).trans (Below.heap_alloc w3 _ k (by omega))).trans (hB3.block k (by omega))
      have hv1 : Boxed w2 w1.heap.size 24 v := (hblk _ (by omega)).trans hv
      have c1 := hv1.cell
      have f1 := hv1.frozen
      have hBN : Below w.heap.size w w2 := (HBN.alloc HBN.size _).grown hgrow (by simp; have := HBN.size; omega) (fun j hj => by have := hvo j hj; omega)
      have hbN2 : Blk w2 w.heap.size [.slice (some ⟨A, off, none⟩) n cap] := bA3.below (((Below.refl (w.heap.size + 1) w3).alloc (by omega) _).grown hgrow (by simp; omega) (fun j hj => by have := hvo j hj; omega)) (by omega)
      have hgs := hgrow.size
      simp only [World.size_alloc] at hgs
      have KO := ((KeepsOthers.alloc w3 (.cells #[.int .i64 (ci : Int), .int .i64 (ck : Int)] 66)).trans (KeepsOthers.of_grownBy hgrow fun j o ej hj => by
        rcases (hr3.alloc (.cells #[.int .i64 (ci : Int), .int .i64 (ck : Int)] 66)).2 with ⟨rfl, _⟩ | ⟨g, cap, cur, rfl, _, hgb, _⟩
        · simp [Value.ownBlock] at ej
        · obtain rfl : g = j := by simpa [Value.ownBlock] using ej
          rw [hgb] at hj; cases hj; rfl)).trans (KeepsOthers.setCell w2 ⟨w1.heap.size, 0, none⟩ (.slice (some ⟨g', 0, none⟩) ((mtL n x pre).length + 1) cap'))
      have HFIN : Hid (KeepsFrom W0.heap.size W (w2.setCell ⟨w1.heap.size, 0, none⟩ (.slice (some ⟨g', 0, none⟩) ((mtL n x pre).length + 1) cap')) ∧ KpB (w.heap.size + 1) (w1.heap.size + 1) W (w2.setCell ⟨w1.heap.size, 0, none⟩ (.slice (some ⟨g', 0, none⟩) ((mtL n x pre).length + 1) cap')) ∧ ((∃ v, Boxed (w2.setCell ⟨w1.heap.size, 0, none⟩ (.slice (some ⟨g', 0, none⟩) ((mtL n x pre).length + 1) cap')) w1.heap.size 24 v ∧ (w2.setCell ⟨w1.heap.size, 0, none⟩ (.slice (some ⟨g', 0, none⟩) ((mtL n x pre).length + 1) cap')).ownsRow W0.heap.size 66 2 v (mtL n x (pre ++ [⟨(ci, ck), hck, hkn⟩])).length (mtC n x (pre ++ [⟨(ci, ck), hck, hkn⟩])) ∧ True) ∧ (Below w.heap.size w (w2.setCell ⟨w1.heap.size, 0, none⟩ (.slice (some ⟨g', 0, none⟩) ((mtL n x pre).length + 1) cap')) ∧ Blk (w2.setCell ⟨w1.heap.size, 0, none⟩ (.slice (some ⟨g', 0, none⟩) ((mtL n x pre).length + 1) cap')) w.heap.size [.slice (some ⟨A, off, none⟩) n cap]) ∧ W0.heap.size ≤ (w2.setCell ⟨w1.heap.size, 0, none⟩ (.slice (some ⟨g', 0, none⟩) ((mtL n x pre).length + 1) cap')).heap.size)) := by
        refine ⟨(below_keeps hB3).trans (KO.from _), ⟨by simp [World.setCell]; omega, fun k hk => (Below.heap_setCell _ _ _ _ (by show k ≠ w1.heap.size; omega)).trans (hblk k (by omega)), (Below.heap_setCell _ _ _ _ (by show w1.heap.size + 1 ≠ w1.heap.size; omega)).trans (hblk _ (by omega))⟩, ⟨_, hv1.set _, ?_, trivial⟩, ⟨hBN.setCell (by show w.heap.size ≤ w1.heap.size; omega) _, hbN2.setO (by show w.heap.size ≠ w1.heap.size; omega) _⟩, by simp [World.setCell]; omega⟩
        rw [HOH.out.1, HOH.out.2, List.length_append]
        refine ownsRow_setCell_below ?_ (by show w1.heap.size < W0.heap.size; omega) _
        rw [hsz]
        exact hown'
      clear KO hBN hgs hvo hblk hown' hgrow hnn s0 s1 cv hB3 HBN bA3 hv3 bB3 hr3 bA1 hv bB hr hB1 hbN2
      gi_wp2
      exact HFIN.out
  case done =>
    rintro D zs W hD rfl ⟨⟨v, hv, hr, _⟩, ⟨hB1, bA1⟩, hs1⟩ hK
    obtain ⟨vo, vc, rfl⟩ : ∃ o cap, v = .slice o (mtL n x (prI n n)).length cap := by
      rcases hr.2 with ⟨h, h0⟩ | ⟨g, c, _, h, _⟩
      · exact ⟨none, 0, by rw [h0]; exact h⟩
      · exact ⟨_, c, h⟩
    have cR := hv.cell
    have HR : Hid (W.ownsRow W0.heap.size 66 2 (.slice vo (mtL n x (prI n n)).length vc) (mtL n x (prI n n)).length (mtC n x (prI n n))) := hr
    clear hr hv bA1
    gi_wp2
    refine ⟨by simp, .inl ⟨_, _, rfl, run_takeDeferred hK, ?_⟩⟩
    refine ⟨.tuple #[.slice vo (mtL n x (prI n n)).length vc, .bool true], ?_, cp_yes HG.out (own_monoP (ownsRow_putObj HR.out _ hK rfl) (by omega)) (hB1.trans (belowK_b (w := w) (Nat.le_refl _) _ D _ _ (by omega) hK rfl rfl))⟩
    simp [results, Try.results9, go_sem]
  case stop =>
    rintro D c pre W hD hpre hF hK
    exact hF.elim
theorem implCross_any (ao : Option Addr) (n cap : Nat) (x : Nat → Int) (w : World) (hS : SegIn w ao n x) : Calls Try.prog 9 #[.slice ao n cap] w (CrP n x w) := by
  by_cases hg : sgI n x = 0
  · exact implCrossYes_any ao n cap x w hg hS
  · exact implCrossNo_any ao n cap x w hg hS
end Go.Proofs.Ytpmnmlhfaoajdaa

/- Segments that meet a box: the law. -/
namespace Go.Proofs.Ytpmnmlhfaoajdaa
open Go.RowKit
set_option maxRecDepth 100000 in
set_option maxHeartbeats 2000000 in
theorem toSegS2_any (ao : Option Addr) (n cap : Nat) (x : Nat → Int) (hn : n ≤ 1048576) (w : World) (hS : SegIn w ao n x) : Calls Try.prog 8 #[.slice ao n cap] w (fun e w' => ∃ g, e = .returned (.slice (some ⟨g, 0, none⟩) n n) ∧ w.heap.size ≤ g ∧ w'.rowIs g 64 (n * 4) (fun i => .int .i64 (x i)) ∧ Below w.heap.size w w') := by
  have MK := make_segs n hn
  have HS : Hid (SegIn w ao n x) := hS
  clear hS
  go_enter Try.func8, Try.ntmps8
  go_wp2_with fail
  have R0 := row_made w n 64
  have B0 : Below w.heap.size w (w.alloc (.cells (madeCells #[.int .i64 0, .int .i64 0, .int .i64 0, .int .i64 0] (n * 4)) 64)) := (Below.refl _ _).alloc (Nat.le_refl _) _
  generalize w.alloc (.cells (madeCells #[.int .i64 0, .int .i64 0, .int .i64 0, .int .i64 0] (n * 4)) 64) = W1 at *
  have hnI : (n : Int) ≤ 1048576 := by omega
  clear MK
  go_loopw [4] (fun i wr => ∃ c : Nat, c ≤ n ∧ i = .int .i64 c ∧ wr.rowIs w.heap.size 64 (n * 4) (cpF x c) ∧ Below w.heap.size w wr) (fun i _ => n - (intOf i).toNat)
  case atStart => exact ⟨0, by omega, rfl, R0.congr (fun i _ => by unfold cpF; simp), B0⟩
  case round =>
    clear R0 B0
    obtain ⟨c, hc, rfl, R, HB⟩ := hrel
    by_cases hcn : c < n
    · obtain ⟨A, off, rfl, hA, hcell⟩ := HS.out c hcn
      have e0 : ∀ o, wr.cell? ⟨A, o, none⟩ = w.cell? ⟨A, o, none⟩ := fun o => HB.cell (p := ⟨A, o, none⟩) hA
      have q0 := (e0 _).trans (hcell 0 (by omega)); have q1 := (e0 _).trans (hcell 1 (by omega)); have q2 := (e0 _).trans (hcell 2 (by omega)); have q3 := (e0 _).trans (hcell 3 (by omega))
      simp only [Nat.add_zero] at q0
      have hcI : (c : Int) < n := by omega
      clear hcell e0
      go_wp2_with fail
      refine (toSeg_any (x (c * 4)) (x (c * 4 + 1)) (x (c * 4 + 2)) (x (c * 4 + 3)) _).mono ?_
      rintro e w1 ⟨rfl, hB⟩
      replace R := row_step R hB
      replace HB := HB.trans (hB.mono HB.size)
      have o0 := R.cell (i := c * 4) (by omega); have o1 := R.cell (i := c * 4 + 1) (by omega); have o2 := R.cell (i := c * 4 + 2) (by omega); have o3 := R.cell (i := c * 4 + 3) (by omega)
      have f0 := R.frozen (c * 4); have f1 := R.frozen (c * 4 + 1); have f2 := R.frozen (c * 4 + 2); have f3 := R.frozen (c * 4 + 3)
      have RN := cp_step R hcn
      have HN : Below w.heap.size w ((((w1.setCell ⟨w.heap.size, c * 4, none⟩ (.int .i64 (x (c * 4)))).setCell ⟨w.heap.size, c * 4 + 1, none⟩ (.int .i64 (x (c * 4 + 1)))).setCell ⟨w.heap.size, c * 4 + 2, none⟩ (.int .i64 (x (c * 4 + 2)))).setCell ⟨w.heap.size, c * 4 + 3, none⟩ (.int .i64 (x (c * 4 + 3)))) := (((HB.setCell (by simp) _).setCell (by simp) _).setCell (by simp) _).setCell (by simp) _
      clear hB q0 q1 q2 q3 hA R HB
      go_wp2
      go_roundw
      case rel => exact ⟨c + 1, by omega, by go_num, RN, HN⟩
      case measure => simp [intOf]; omega
    · obtain rfl : c = n := by omega
      have RN : wr.rowIs w.heap.size 64 (c * 4) (fun i => .int .i64 (x i)) := R.congr (fun i hi => by unfold cpF; rw [if_pos hi])
      clear R HS
      go_wp2
      go_ret
      exact ⟨_, rfl, Nat.le_refl _, RN, HB⟩
theorem NoOwn.lt {w : World} {base : Nat} {v : Value} {L : List Int} (h : NoOwn w base v L) {g : Nat} (hg : v.ownBlock = some g) : base ≤ g ∧ g < w.heap.size := by
  rcases h with ⟨h1, _⟩ | ⟨g', cap, f, h1, h2, h3, h4, h5⟩
  · subst h1; cases hg
  · subst h1; cases hg; exact ⟨h2, h4.lt⟩
end Go.Proofs.Ytpmnmlhfaoajdaa

/- Segments that meet, by pairs: the law. -/
namespace Go.Proofs.Ytpmnmlhfaoajdaa
open Go.RowKit
def crN (n : Nat) (x : Nat → Int) : Nat := if sgI n x = 0 then (mtL n x (prI n n)).length else 0
def crQ (n : Nat) (x : Nat → Int) : Ps := qOf (mtL n x (prI n n))
theorem crN_len (n : Nat) (x : Nat → Int) : crN n x ≤ 1048576 := by
  unfold crN
  split
  · rename_i h
    have h40 := (sgI_zero h).1
    have := mtL_len n x (prI n n)
    have := prI_len h40 n (Nat.le_refl _)
    omega
  · omega
theorem CrP.own {n : Nat} {x : Nat → Int} {w w' : World} {e : Ending} (h : CrP n x w e w') : ∃ v, e = .returned (.tuple #[v, .bool (decide (sgI n x = 0))]) ∧ PrOwn w' w.heap.size v (crN n x) (crQ n x) ∧ Below w.heap.size w w' := by
  obtain ⟨v, he, ho, hB⟩ := h
  refine ⟨v, he, PrOwn.of ?_, hB⟩
  unfold crN crQ
  by_cases hg : sgI n x = 0
  · rw [if_pos hg] at ho ⊢
    rw [if_pos hg, mtC, qOf_cells] at ho
    exact ho
  · rw [if_neg hg] at ho ⊢
    rw [if_neg hg] at ho
    exact ho
theorem eqPair_own {v v' : Value} {m : Nat} {q : Ps} {b b' : Nat} (hn : m ≤ 1048576) (w : World) (h : PrOwn w b v m q) (h' : PrOwn w b' v' m q) : Calls Try.prog 10 #[v, v'] w (BoolP true w) := by
  obtain ⟨ao, cap, rfl, hI⟩ := h.in
  obtain ⟨bo, cap', rfl, hI'⟩ := h'.in
  exact eqPairS_any ao bo m cap cap' _ hn w hI hI'
theorem PrOwn.mono {w : World} {b b' : Nat} {v : Value} {n : Nat} {p : Ps} (h : PrOwn w b' v n p) (hb : b ≤ b') : PrOwn w b v n p := by
  rcases h with h | ⟨g, cap, f, h1, h2, h3⟩
  · exact .inl h
  · exact .inr ⟨g, cap, f, h1, by omega, h3⟩
set_option maxRecDepth 100000 in
set_option maxHeartbeats 8000000 in
theorem lawCross_any (ao : Option Addr) (n cap : Nat) (x : Nat → Int) (hn : n ≤ 9223372036854775807) (w : World) (hS : n ≤ 1048576 → SegIn w ao n x) : Calls Try.prog 3 #[.slice ao n cap] w (BoolP true w) := by
  have SZ := szSegS_any ao n cap hn
  have HB : Below w.heap.size w w := Below.refl _ _
  go_enter Try.func3, Try.ntmps3
  by_cases hs : n ≤ 1048576
  · rw [if_pos hs] at SZ
    have HS : Hid (SegIn w ao n x) := hS hs
    have hsI : (n : Int) ≤ 1048576 := by omega
    have TS := fun w => toSegS2_any ao n cap x hs w
    have HL : Hid (crN n x ≤ 1048576) := crN_len n x
    have SW := fun ao' w h => (specCross_any ao' n n x w h).mono fun _ _ h => h.own
    have IW := fun ao' w h => (implCross_any ao' n n x w h).mono fun _ _ h => h.own
    revert SW IW HL
    generalize crN n x = m
    generalize crQ n x = q
    generalize decide (sgI n x = 0) = ok
    intro HL SW IW
    clear hS
    go_wp2_with fail
    refine (SZ _).mono ?_
    rintro e w1 ⟨rfl, hB⟩
    replace HB := HB.trans (hB.mono HB.size)
    clear hB
    clear SZ
    go_wp2_with fail
    refine (TS _ (HS.out.step HB)).mono ?_
    rintro e wa ⟨ga, rfl, la, Ra, hB⟩
    replace HB := HB.trans (hB.mono HB.size)
    clear hB
    go_wp2_with fail
    refine (SW _ _ (segIn_row Ra)).mono ?_
    rintro e wD ⟨v1, rfl, Na, hB⟩
    replace HB := HB.trans (hB.mono HB.size)
    clear hB
    have N1 : PrOwn wD 0 v1 m q := Na.mono (Nat.zero_le _)
    have o1 : Hid (∀ g, v1.ownBlock = some g → g < wD.heap.size) := fun g hg => (Na.lt hg).2
    have hw : w.heap.size ≤ wD.heap.size := HB.size
    clear Na Ra la SW
    go_wp2_with fail
    refine (TS _ (HS.out.step HB)).mono ?_
    rintro e w2 ⟨g2, rfl, l2, R2, hB⟩
    have d2 := hB.size
    replace HB := HB.trans (hB.mono HB.size)
    replace N1 := N1.step hB
    clear hB
    have z2 := R2.lt
    go_wp2_with fail
    refine (IW _ _ (segIn_row R2)).mono ?_
    rintro e w3 ⟨v2, rfl, N2, hB⟩
    have d3 := hB.size
    replace HB := HB.trans (hB.mono HB.size)
    replace N1 := N1.step hB
    replace R2 := row_step R2 hB
    clear hB
    have hok : (ok != ok) = false := by simp
    go_wp2_with fail
    refine (eqPair_own HL.out _ N2 N1).mono ?_
    rintro e w4 ⟨rfl, hB⟩
    replace HB := HB.trans (hB.mono HB.size)
    replace N1 := N1.step hB
    replace N2 := N2.step hB
    replace R2 := row_step R2 hB
    clear hB
    go_wp2_with fail
    refine (TS _ (HS.out.step HB)).mono ?_
    rintro e w5 ⟨g5, rfl, l5, R5, hB⟩
    replace HB := HB.trans (hB.mono HB.size)
    replace N1 := N1.step hB
    replace N2 := N2.step hB
    replace R2 := row_step R2 hB
    clear hB
    go_wp2_with fail
    refine (eqSegS_any _ _ n n n x hs _ (segIn_row R2) (segIn_row R5)).mono ?_
    rintro e w6 ⟨rfl, hB⟩
    clear R5 l5
    replace HB := HB.trans (hB.mono HB.size)
    replace N1 := N1.step hB
    replace N2 := N2.step hB
    replace R2 := row_step R2 hB
    clear hB
    go_wp2_with fail
    refine (markSegS_any g2 n _ hs _ R2 (fun i _ => ⟨_, rfl⟩)).mono ?_
    rintro e w7 ⟨rfl, KM⟩
    replace HB := KM.2.2 w (fun g hg => by cases hg; omega) HB
    replace N1 := KM.prown N1 (fun g hg e => by have e2 := Option.some.inj e; have := o1.out g hg; omega)
    replace N2 := KM.prown N2 (fun g hg e => by have e2 := Option.some.inj e; have := (N2.lt hg).1; omega)
    clear KM R2
    have hk1 : ¬ ((n : Int) * 4 + 1 < 0) := by omega
    go_wp2_with fail
    refine (eqPair_own HL.out _ N2 N1).mono ?_
    rintro e w8 ⟨rfl, hB⟩
    replace HB := HB.trans (hB.mono HB.size)
    replace N1 := N1.step hB
    replace N2 := N2.step hB
    clear hB
    go_wp2_with fail
    have ob := fun g hg => (N2.lt (g := g) hg).1
    refine (markPairS_any v2 m q _ HL.out _ N2).mono ?_
    rintro e w9 ⟨rfl, N2', KM⟩
    replace HB := KM.2.2 w (fun g hg => by have := ob g hg; omega) HB
    replace N1 := KM.prown N1 (fun g hg e => by have := o1.out g hg; have := ob g e.symm; omega)
    clear KM N2 ob
    have N2 := N2'
    clear N2' o1 l2 hw d2 z2 d3
    have hk2 : ¬ ((m : Int) * 2 + 1 < 0) := by omega
    have hk3 : (((m : Int) * 2 + 1) != ((m : Int) * 2 + 1)) = false := by simp
    go_wp2_with fail
    refine (heldPairS_any v2 m _ HL.out _ N2).mono ?_
    rintro e w10 ⟨rfl, hB⟩
    replace HB := HB.trans (hB.mono HB.size)
    replace N1 := N1.step hB
    replace N2 := N2.step hB
    clear hB
    go_wp2_with fail
    refine (TS _ (HS.out.step HB)).mono ?_
    rintro e wb ⟨gb, rfl, lb, Rb, hB⟩
    replace HB := HB.trans (hB.mono HB.size)
    replace N1 := N1.step hB
    replace N2 := N2.step hB
    clear hB
    go_wp2_with fail
    refine (IW _ _ (segIn_row Rb)).mono ?_
    rintro e w11 ⟨v3, rfl, N3, hB⟩
    replace HB := HB.trans (hB.mono HB.size)
    replace N1 := N1.step hB
    replace N2 := N2.step hB
    clear hB
    clear Rb lb IW TS
    go_wp2_with fail
    refine (eqPair_own HL.out _ N3 N1).mono ?_
    rintro e w12 ⟨rfl, hB⟩
    clear N3
    replace HB := HB.trans (hB.mono HB.size)
    replace N1 := N1.step hB
    replace N2 := N2.step hB
    clear hB
    go_wp2_with fail
    refine (heldPairS_any v2 m _ HL.out _ N2).mono ?_
    rintro e w13 ⟨rfl, hB⟩
    replace HB := HB.trans (hB.mono HB.size)
    clear hB
    clear N1 N2
    go_wp2
    go_ret
    exact ⟨rfl, HB⟩
  · rw [if_neg hs] at SZ
    clear hS
    go_wp2_with fail
    refine (SZ _).mono ?_
    rintro e w1 ⟨rfl, hB⟩
    clear SZ HB
    go_wp2
    go_ret
    exact ⟨rfl, hB⟩
end Go.Proofs.Ytpmnmlhfaoajdaa

/- How spots and segments read as data, beside points: opened and shut. -/
namespace Go.Proofs.Ytpmnmlhfaoajdaa
open Go.ChangeShapes Go.WideShapes Go.ChangeAt Go.RowKit Go.Joins
theorem Try.cellsSpot : Try.prog.cellsOf 68 = 2 := by kernel_rfl
theorem Try.cellsSeg : Try.prog.cellsOf 70 = 4 := by kernel_rfl
abbrev Wf (x : Int) : Prop := (Lit.int .i64 x).wf = true
abbrev SpD {H : Type} (x y : Int) : DataW H := .agg [.lit (.int .i64 x), .lit (.int .i64 y)]
theorem trod_spot {H : Type} {enc : TypeId × Value → H} {w : World} {base : Nat} {spare : TypeId → Bool} {held : Bool} {n : Nat} {c0 c1 : Value} {y : DataW H × List MemPlace} (h : DataW.trod enc Try.prog w base spare held n 68 [c0, c1] = some y) :
    ∃ a b : Int, c0 = .int .i64 a ∧ c1 = .int .i64 b ∧ y = (SpD a b, []) ∧ Wf a ∧ Wf b := by
  obtain ⟨y0, y1, m, hx, _, h0, h1⟩ := trod_struct2 Try.underlying68 h
  obtain ⟨a, e0, rfl, wa⟩ := DataW.trod_int Try.underlying2 h0
  obtain ⟨b, e1, rfl, wb⟩ := DataW.trod_int Try.underlying2 h1
  have k : Try.prog.cellsOf 2 = 1 := by kernel_rfl
  simp [k] at e0 e1
  exact ⟨a, b, e0, e1, hx, wa, wb⟩
end Go.Proofs.Ytpmnmlhfaoajdaa

/- How a row of segments reads as data. -/
namespace Go.Proofs.Ytpmnmlhfaoajdaa
open Go.ChangeShapes Go.WideShapes Go.ChangeAt Go.RowKit Go.Joins
theorem Try.laidOut : laidOutB Try.prog = true := by kernel_rfl
/-- The numbers of a row of segments, one behind the other. -/
def flat4 (q : Nat → Int × Int × Int × Int) (k : Nat) : Int := if k % 4 = 0 then (q (k / 4)).1 else if k % 4 = 1 then (q (k / 4)).2.1 else if k % 4 = 2 then (q (k / 4)).2.2.1 else (q (k / 4)).2.2.2
theorem segs_of {H : Type} {enc : TypeId × Value → H} {W : World} {a : Addr} {len m n : Nat} {D : Nat → DataW H} {Pl : Nat → List MemPlace} (hl : len ≤ m)
    (hx : ∀ i, i < m → ∃ cs', W.cells? 0 (a.add (i * Try.prog.cellsOf 70)) (Try.prog.cellsOf 70) = some cs' ∧ DataW.trod enc Try.prog W 0 (fun _ => true) true n 70 cs' = some (D i, Pl i))
    (hlt : ∀ x ∈ MemPlace.row a (m * Try.prog.cellsOf 70), x.block < W.heap.size) : ∃ x : Nat → Int, SegIn W (some a) len x := by
  rw [Try.cellsSeg] at hx hlt
  have each : ∀ i, i < m → ∃ q : Int × Int × Int × Int, W.cell? (a.add (i * 4)) = some (.int .i64 q.1) ∧ W.cell? (a.add (i * 4 + 1)) = some (.int .i64 q.2.1) ∧ W.cell? (a.add (i * 4 + 2)) = some (.int .i64 q.2.2.1) ∧ W.cell? (a.add (i * 4 + 3)) = some (.int .i64 q.2.2.2) := by
    intro i hi
    obtain ⟨cs', h1, h2⟩ := hx i hi
    obtain ⟨_, hlen, hcell⟩ := World.cells?_some h1
    match cs', hlen with
    | [v0, v1, v2, v3], _ =>
      have e0 := hcell 0 (by omega); have e1 := hcell 1 (by omega); have e2 := hcell 2 (by omega); have e3 := hcell 3 (by omega)
      rw [Go.Deep.add_add] at e0 e1 e2 e3
      obtain ⟨y0, y1, k, hy, _, g0, g1⟩ := trod_struct2 Try.underlying70 h2
      simp [Try.cellsSpot] at g0 g1
      obtain ⟨p, q, rfl, rfl, -, -, -⟩ := trod_spot g0
      obtain ⟨r, s, rfl, rfl, -, -, -⟩ := trod_spot g1
      exact ⟨(p, q, r, s), by simpa using e0, by simpa using e1, by simpa using e2, by simpa using e3⟩
  obtain ⟨q, hq⟩ := Go.Deep.choose_lt each
  obtain ⟨ab, ao, spot⟩ := a
  refine ⟨flat4 q, fun i hi => ?_⟩
  have hspot : spot = none := by simpa [Addr.add] using World.cell?_spot (hq 0 (by omega)).1
  subst hspot
  obtain ⟨c0, c1, c2, c3⟩ := hq i (by omega)
  rw [Addr.add_lit] at c0 c1 c2 c3
  refine ⟨ab, ao, rfl, hlt (.cell ab (ao + i * 4)) (by simp only [MemPlace.row, List.mem_map, List.mem_range]; exact ⟨i * 4, by omega, rfl⟩), fun j hj => ?_⟩
  unfold flat4
  have hd : (i * 4 + j) / 4 = i := by omega
  have hm : (i * 4 + j) % 4 = j := by omega
  rw [hd, hm]
  rcases (show j = 0 ∨ j = 1 ∨ j = 2 ∨ j = 3 by omega) with rfl | rfl | rfl | rfl
  · simpa using c0
  · simpa [Nat.add_assoc] using c1
  · simpa [Nat.add_assoc] using c2
  · simpa [Nat.add_assoc] using c3
end Go.Proofs.Ytpmnmlhfaoajdaa

/- How a row of segments, and a row of spots, read as data. -/
namespace Go.Proofs.Ytpmnmlhfaoajdaa
open Go.ChangeShapes Go.WideShapes Go.ChangeAt Go.RowKit Go.Joins
set_option maxRecDepth 100000 in
theorem open_segs {H : Type} {enc : TypeId × Value → H} {W : World} {base : Nat} {v : Value} {d : DataW H} {pl : List MemPlace} (ok : Value.okWide Try.prog W .any base 22 v) (h : DataW.Trod enc Try.prog W 0 (fun _ => true) true 22 v d pl) (hlt : ∀ x ∈ pl, x.block < W.heap.size) :
    ∃ ao n cap p, v = .slice ao n cap ∧ n ≤ 9223372036854775807 ∧ SegIn W ao n p := by
  obtain ⟨a0, len, cap, rfl⟩ := okWide_slice Try.underlying22 ok
  obtain ⟨fuel, hf⟩ := h
  rcases Go.Deep.open_slice Try.underlying22 hf with ⟨hcs, -⟩ | ⟨a', len', cap', m', n', D', Pl', hcs, _, hl', hm', hz', hx', hel'⟩
  · simp [Value.cells] at hcs
    obtain ⟨rfl, rfl, rfl⟩ := hcs
    exact ⟨none, 0, 0, fun _ => 0, rfl, Nat.zero_le _, fun i hi => absurd hi (Nat.not_lt_zero _)⟩
  · simp [Value.cells] at hcs
    obtain ⟨rfl, rfl, rfl⟩ := hcs
    simp only [Prod.mk.injEq] at hx'
    obtain ⟨rfl, rfl⟩ := hx'
    simp only [if_true] at hz'
    obtain ⟨p, hp⟩ := segs_of (len := len) (by omega) hel' (fun y hy => hlt y (List.mem_append_left _ hy))
    exact ⟨some a', len, cap, p, rfl, by have := hm'; simp [maxLen] at this; omega, hp⟩
end Go.Proofs.Ytpmnmlhfaoajdaa

/- What the row of a law asks of the program as a whole, each by itself. -/
namespace Go.Proofs.Ytpmnmlhfaoajdaa
open Go.ChangeShapes Go.WideShapes Go.ChangeAt Go.RowKit Go.Joins
theorem jn_laid : laidOutB Try.pinned.checked.prog = true := by kernel_rfl
theorem jn_maps : mapsRowed Try.pinned.checked.prog = true := by kernel_rfl
theorem jn_enter : Try.pinned.checked.prog.mayEnter = true := by kernel_rfl
theorem jn_heard : Try.pinned.checked.prog.stopsHeard = true := by kernel_rfl
end Go.Proofs.Ytpmnmlhfaoajdaa
