/- Part 3 of the walks that the proof leans on. -/
import Derived.Test.YtjhmacpejfldoaaPart2
/- A row of segments drawn from a code: a drawn region. -/
namespace Go.Proofs.Ytjhmacpejfldoaa
open Go.RowKit
def VsgX (_GA _GB GR k c cap : Nat) (C a b d e d2 e2 x2 y2 : Int) (_B : Nat) : Nat → Value → World → Prop
  | 0, v, _ => v = .slice (some ⟨GR, 0, none⟩) c cap
  | 1, v, _ => v = .int .i64 C
  | 2, v, _ => v = .int .i64 (k : Nat)
  | 3, v, _ => v = .pointer (some ⟨GR, k * 4, none⟩)
  | 4, v, _ => v = .pointer (some ⟨GR, k * 4, none⟩)
  | 5, v, _ => v = .agg #[.int .i64 a, .int .i64 b]
  | 6, v, _ => v = .slice (some ⟨GR, 0, none⟩) c cap
  | 7, v, _ => v = .int .i64 C
  | 8, v, _ => v = .int .i64 (k : Nat)
  | 9, v, _ => v = .pointer (some ⟨GR, k * 4, none⟩)
  | 10, v, _ => v = .pointer (some ⟨GR, k * 4 + 2, none⟩)
  | 11, v, _ => v = .pointer (some ⟨GR, k * 4 + 2, none⟩)
  | 12, v, _ => v = .int .i64 d
  | 13, v, _ => v = .int .i64 d2
  | 14, v, _ => v = .slice (some ⟨GR, 0, none⟩) c cap
  | 15, v, _ => v = .int .i64 C
  | 16, v, _ => v = .int .i64 (k : Nat)
  | 17, v, _ => v = .pointer (some ⟨GR, k * 4, none⟩)
  | 18, v, _ => v = .pointer (some ⟨GR, k * 4, none⟩)
  | 19, v, _ => v = .pointer (some ⟨GR, k * 4, none⟩)
  | 20, v, _ => v = .int .i64 a
  | 21, v, _ => v = .int .i64 x2
  | 22, v, _ => v = .slice (some ⟨GR, 0, none⟩) c cap
  | 23, v, _ => v = .int .i64 C
  | 24, v, _ => v = .int .i64 (k : Nat)
  | 25, v, _ => v = .pointer (some ⟨GR, k * 4, none⟩)
  | 26, v, _ => v = .pointer (some ⟨GR, k * 4 + 2, none⟩)
  | 27, v, _ => v = .pointer (some ⟨GR, k * 4 + 2 + 1, none⟩)
  | 28, v, _ => v = .int .i64 e
  | 29, v, _ => v = .int .i64 e2
  | 30, v, _ => v = .slice (some ⟨GR, 0, none⟩) c cap
  | 31, v, _ => v = .int .i64 C
  | 32, v, _ => v = .int .i64 (k : Nat)
  | 33, v, _ => v = .pointer (some ⟨GR, k * 4, none⟩)
  | 34, v, _ => v = .pointer (some ⟨GR, k * 4, none⟩)
  | 35, v, _ => v = .pointer (some ⟨GR, k * 4 + 1, none⟩)
  | 36, v, _ => v = .int .i64 b
  | 37, v, _ => v = .int .i64 y2
  | 38, v, _ => v = .agg #[.int .i64 x2, .int .i64 y2]
  | _, _, _ => True
theorem VsgX.mono {GA GB GR k c cap : Nat} {C a b d e d2 e2 x2 y2 : Int} {B j : Nat} {v : Value} {W W2 : World} (_hB : Below W.heap.size W W2) (h : VsgX GA GB GR k c cap C a b d e d2 e2 x2 y2 B j v W) : VsgX GA GB GR k c cap C a b d e d2 e2 x2 y2 B j v W2 := by
  unfold VsgX at *
  split <;> simp only at h <;> first | exact h | trivial
theorem VsgX.same {GA GB GR k c cap : Nat} {C a b d e d2 e2 x2 y2 : Int} {B j : Nat} {v : Value} {W W2 : World} (h : VsgX GA GB GR k c cap C a b d e d2 e2 x2 y2 B j v W) : VsgX GA GB GR k c cap C a b d e d2 e2 x2 y2 B j v W2 := by
  unfold VsgX at *
  split <;> simp only at h <;> first | exact h | trivial
def SsgX (GA GB _GR _k _c _cap : Nat) (_C _a _b _d _e _d2 _e2 _x2 _y2 : Int) (W : World) : Prop := (∃ p q : Int, I64 p ∧ I64 q ∧ Blk W GA [.int .i64 p, .int .i64 q]) ∧ ∃ p q : Int, I64 p ∧ I64 q ∧ Blk W GB [.int .i64 p, .int .i64 q]
def JsgX (GA GB GR k c cap : Nat) (C a b d e d2 e2 x2 y2 : Int) (w0 : World) (a0 : Act) (lz : Array Bool) (az : Act) (W : World) : Prop := InvQ (GA) [some 44, some 45, some 46, some 47, some 48, some 49, some 50, some 51, some 52, some 53, some 54, some 55, some 56, some 57, some 58, some 59, some 60, some 61, some 62, some 63, some 64, some 65, some 66, some 67, some 68, some 69, some 70, some 71, some 72, some 73, some 74, some 75, some 76, some 77, some 78, some 79, some 80, some 81, some 82, none, none] (VsgX GA GB GR k c cap C a b d e d2 e2 x2 y2 (GA)) w0 a0 lz az W ∧ SsgX GA GB GR k c cap C a b d e d2 e2 x2 y2 W
set_option maxRecDepth 100000 in
set_option maxHeartbeats 4000000 in
theorem sgX {Q : Exit → Act → World → Prop} {GA GB GR k c cap : Nat} {C a b d e d2 e2 x2 y2 : Int}  {w0 : World} {a0 : Act} {idq : Nat} {t0 t1 t2 t3 t4 t5 t6 t7 t8 t9 t10 t11 t12 t13 t14 t15 t16 t17 t18 t19 t20 t21 t22 t23 t24 t25 t26 t27 t28 t29 t30 t31 t32 t33 t34 t35 t36 t37 t38 t39 t40 : TypeId} {q0 q1 q2 q3 q4 q5 q6 q7 q8 q9 q10 q11 q12 q13 q14 q15 q16 q17 q18 q19 q20 q21 q22 q23 q24 q25 q26 q27 q28 q29 q30 q31 q32 q33 q34 q35 q36 q37 q38 q39 q40 : String}
    (hab : GA < GB) (wC : IntKind.i64.wrap (C - 1) = (k : Int)) (kc : (k : Int) < (c : Int)) (w1 : IntKind.i64.wrap (2 * d) = d2) (w2 : IntKind.i64.wrap (2 * e) = e2) (w3 : IntKind.i64.wrap (d2 - a) = x2) (w4 : IntKind.i64.wrap (e2 - b) = y2) (ia : I64 a) (ib : I64 b) (ix : I64 x2) (iy : I64 y2) (h5 : a0.tmps[5]? = some (.slice (some ⟨GR, 0, none⟩) c cap)) (h7 : a0.tmps[7]? = some (.int .i64 C)) (h8 : a0.tmps[8]? = some (.pointer (some ⟨GA, 0, none⟩))) (h9 : a0.tmps[9]? = some (.pointer (some ⟨GB, 0, none⟩))) (k0 : w0.cell? ⟨GR, k * 4, none⟩ = some (.int .i64 a)) (l0 : (⟨GR, k * 4, none⟩ : Addr).block < GA) (k1 : w0.cell? ⟨GR, k * 4 + 1, none⟩ = some (.int .i64 b)) (l1 : (⟨GR, k * 4 + 1, none⟩ : Addr).block < GA) (k2 : w0.cell? ⟨GR, k * 4 + 2, none⟩ = some (.int .i64 d)) (l2 : (⟨GR, k * 4 + 2, none⟩ : Addr).block < GA) (k3 : w0.cell? ⟨GR, k * 4 + 2 + 1, none⟩ = some (.int .i64 e)) (l3 : (⟨GR, k * 4 + 2 + 1, none⟩ : Addr).block < GA) (hz : a0.tmps.size = 114) (hs0 : SsgX GA GB GR k c cap C a b d e d2 e2 x2 y2 w0.drew)
    (hQ : ∀ aq W, aq.tmps.size = a0.tmps.size → aq.defers = a0.defers → (∀ e, e ∉ ([44, 45, 46, 47, 48, 49, 50, 51, 52, 53, 54, 55, 56, 57, 58, 59, 60, 61, 62, 63, 64, 65, 66, 67, 68, 69, 70, 71, 72, 73, 74, 75, 76, 77, 78, 79, 80, 81, 82] : List Nat) → aq.tmps[e]? = a0.tmps[e]?) → Below (GA) w0 W → SsgX GA GB GR k c cap C a b d e d2 e2 x2 y2 W → Q .normal aq W) :
    (Code.region idq #[{ dst := some 44, op := Op.move (Operand.tmp 5), type := t0, pos := q0, after := #[], guard := none },
    { dst := some 45, op := Op.move (Operand.tmp 7), type := t1, pos := q1, after := #[], guard := none },
    { dst := some 46, op := Op.binOp BinOp.sub 3 (Operand.tmp 45) (Operand.const (Value.int IntKind.i64 1)) 3, type := t2, pos := q2, after := #[{ on := 1, ground := Ground.data }], guard := none },
    { dst := some 47, op := Op.indexAddr 24 (Operand.tmp 44) (Operand.tmp 46), type := t3, pos := q3, after := #[{ on := 0, ground := Ground.data }, { on := 2, ground := Ground.data }], guard := none },
    { dst := some 48, op := Op.fieldAddr 39 (Operand.tmp 47) 0, type := t4, pos := q4, after := #[{ on := 3, ground := Ground.data }], guard := none },
    { dst := some 49, op := Op.load 26 (Operand.tmp 48), type := t5, pos := q5, after := #[{ on := 4, ground := Ground.data }], guard := none },
    { dst := some 50, op := Op.move (Operand.tmp 5), type := t6, pos := q6, after := #[{ on := 39, ground := Ground.gcOnly Departure.lateStores }], guard := none },
    { dst := some 51, op := Op.move (Operand.tmp 7), type := t7, pos := q7, after := #[{ on := 39, ground := Ground.gcOnly Departure.lateStores }], guard := none },
    { dst := some 52, op := Op.binOp BinOp.sub 3 (Operand.tmp 51) (Operand.const (Value.int IntKind.i64 1)) 3, type := t8, pos := q8, after := #[{ on := 7, ground := Ground.data }, { on := 39, ground := Ground.gcOnly Departure.lateStores }], guard := none },
    { dst := some 53, op := Op.indexAddr 24 (Operand.tmp 50) (Operand.tmp 52), type := t9, pos := q9, after := #[{ on := 6, ground := Ground.data }, { on := 8, ground := Ground.data }, { on := 39, ground := Ground.gcOnly Departure.lateStores }], guard := none },
    { dst := some 54, op := Op.fieldAddr 39 (Operand.tmp 53) 1, type := t10, pos := q10, after := #[{ on := 9, ground := Ground.data }, { on := 39, ground := Ground.gcOnly Departure.lateStores }], guard := none },
    { dst := some 55, op := Op.fieldAddr 26 (Operand.tmp 54) 0, type := t11, pos := q11, after := #[{ on := 10, ground := Ground.data }, { on := 39, ground := Ground.gcOnly Departure.lateStores }], guard := none },
    { dst := some 56, op := Op.load 2 (Operand.tmp 55), type := t12, pos := q12, after := #[{ on := 11, ground := Ground.data }, { on := 39, ground := Ground.gcOnly Departure.lateStores }], guard := none },
    { dst := some 57, op := Op.binOp BinOp.mul 2 (Operand.const (Value.int IntKind.i64 2)) (Operand.tmp 56) 2, type := t13, pos := q13, after := #[{ on := 12, ground := Ground.data }, { on := 39, ground := Ground.gcOnly Departure.lateStores }], guard := none },
    { dst := some 58, op := Op.move (Operand.tmp 5), type := t14, pos := q14, after := #[{ on := 39, ground := Ground.gcOnly Departure.lateStores }], guard := none },
    { dst := some 59, op := Op.move (Operand.tmp 7), type := t15, pos := q15, after := #[{ on := 39, ground := Ground.gcOnly Departure.lateStores }], guard := none },
    { dst := some 60, op := Op.binOp BinOp.sub 3 (Operand.tmp 59) (Operand.const (Value.int IntKind.i64 1)) 3, type := t16, pos := q16, after := #[{ on := 15, ground := Ground.data }, { on := 39, ground := Ground.gcOnly Departure.lateStores }], guard := none },
    { dst := some 61, op := Op.indexAddr 24 (Operand.tmp 58) (Operand.tmp 60), type := t17, pos := q17, after := #[{ on := 14, ground := Ground.data }, { on := 16, ground := Ground.data }, { on := 39, ground := Ground.gcOnly Departure.lateStores }], guard := none },
    { dst := some 62, op := Op.fieldAddr 39 (Operand.tmp 61) 0, type := t18, pos := q18, after := #[{ on := 17, ground := Ground.data }, { on := 39, ground := Ground.gcOnly Departure.lateStores }], guard := none },
    { dst := some 63, op := Op.fieldAddr 26 (Operand.tmp 62) 0, type := t19, pos := q19, after := #[{ on := 18, ground := Ground.data }, { on := 39, ground := Ground.gcOnly Departure.lateStores }], guard := none },
    { dst := some 64, op := Op.load 2 (Operand.tmp 63), type := t20, pos := q20, after := #[{ on := 19, ground := Ground.data }, { on := 39, ground := Ground.gcOnly Departure.lateStores }], guard := none },
    { dst := some 65, op := Op.binOp BinOp.sub 2 (Operand.tmp 57) (Operand.tmp 64) 2, type := t21, pos := q21, after := #[{ on := 13, ground := Ground.data }, { on := 20, ground := Ground.data }, { on := 39, ground := Ground.gcOnly Departure.lateStores }], guard := none },
    { dst := some 66, op := Op.move (Operand.tmp 5), type := t22, pos := q22, after := #[{ on := 39, ground := Ground.gcOnly Departure.lateStores }], guard := none },
    { dst := some 67, op := Op.move (Operand.tmp 7), type := t23, pos := q23, after := #[{ on := 39, ground := Ground.gcOnly Departure.lateStores }], guard := none },
    { dst := some 68, op := Op.binOp BinOp.sub 3 (Operand.tmp 67) (Operand.const (Value.int IntKind.i64 1)) 3, type := t24, pos := q24, after := #[{ on := 23, ground := Ground.data }, { on := 39, ground := Ground.gcOnly Departure.lateStores }], guard := none },
    { dst := some 69, op := Op.indexAddr 24 (Operand.tmp 66) (Operand.tmp 68), type := t25, pos := q25, after := #[{ on := 22, ground := Ground.data }, { on := 24, ground := Ground.data }, { on := 39, ground := Ground.gcOnly Departure.lateStores }], guard := none },
    { dst := some 70, op := Op.fieldAddr 39 (Operand.tmp 69) 1, type := t26, pos := q26, after := #[{ on := 25, ground := Ground.data }, { on := 39, ground := Ground.gcOnly Departure.lateStores }], guard := none },
    { dst := some 71, op := Op.fieldAddr 26 (Operand.tmp 70) 1, type := t27, pos := q27, after := #[{ on := 26, ground := Ground.data }, { on := 39, ground := Ground.gcOnly Departure.lateStores }], guard := none },
    { dst := some 72, op := Op.load 2 (Operand.tmp 71), type := t28, pos := q28, after := #[{ on := 27, ground := Ground.data }, { on := 39, ground := Ground.gcOnly Departure.lateStores }], guard := none },
    { dst := some 73, op := Op.binOp BinOp.mul 2 (Operand.const (Value.int IntKind.i64 2)) (Operand.tmp 72) 2, type := t29, pos := q29, after := #[{ on := 28, ground := Ground.data }, { on := 39, ground := Ground.gcOnly Departure.lateStores }], guard := none },
    { dst := some 74, op := Op.move (Operand.tmp 5), type := t30, pos := q30, after := #[{ on := 39, ground := Ground.gcOnly Departure.lateStores }], guard := none },
    { dst := some 75, op := Op.move (Operand.tmp 7), type := t31, pos := q31, after := #[{ on := 39, ground := Ground.gcOnly Departure.lateStores }], guard := none },
    { dst := some 76, op := Op.binOp BinOp.sub 3 (Operand.tmp 75) (Operand.const (Value.int IntKind.i64 1)) 3, type := t32, pos := q32, after := #[{ on := 31, ground := Ground.data }, { on := 39, ground := Ground.gcOnly Departure.lateStores }], guard := none },
    { dst := some 77, op := Op.indexAddr 24 (Operand.tmp 74) (Operand.tmp 76), type := t33, pos := q33, after := #[{ on := 30, ground := Ground.data }, { on := 32, ground := Ground.data }, { on := 39, ground := Ground.gcOnly Departure.lateStores }], guard := none },
    { dst := some 78, op := Op.fieldAddr 39 (Operand.tmp 77) 0, type := t34, pos := q34, after := #[{ on := 33, ground := Ground.data }, { on := 39, ground := Ground.gcOnly Departure.lateStores }], guard := none },
    { dst := some 79, op := Op.fieldAddr 26 (Operand.tmp 78) 1, type := t35, pos := q35, after := #[{ on := 34, ground := Ground.data }, { on := 39, ground := Ground.gcOnly Departure.lateStores }], guard := none },
    { dst := some 80, op := Op.load 2 (Operand.tmp 79), type := t36, pos := q36, after := #[{ on := 35, ground := Ground.data }, { on := 39, ground := Ground.gcOnly Departure.lateStores }], guard := none },
    { dst := some 81, op := Op.binOp BinOp.sub 2 (Operand.tmp 73) (Operand.tmp 80) 2, type := t37, pos := q37, after := #[{ on := 29, ground := Ground.data }, { on := 36, ground := Ground.data }, { on := 39, ground := Ground.gcOnly Departure.lateStores }], guard := none },
    { dst := some 82, op := Op.build 26 #[(0, Operand.tmp 65), (1, Operand.tmp 81)], type := t38, pos := q38, after := #[{ on := 21, ground := Ground.data }, { on := 37, ground := Ground.data }, { on := 39, ground := Ground.gcOnly Departure.lateStores }], guard := none },
    { dst := none, op := Op.store 26 (Operand.tmp 8) (Operand.tmp 49), type := t39, pos := q39, after := #[{ on := 5, ground := Ground.data }, { on := 0, ground := Ground.phase }, { on := 1, ground := Ground.phase }, { on := 2, ground := Ground.phase }, { on := 3, ground := Ground.phase }, { on := 4, ground := Ground.phase }, { on := 5, ground := Ground.phase }, { on := 6, ground := Ground.textOnly Departure.lateStores }, { on := 7, ground := Ground.textOnly Departure.lateStores }, { on := 8, ground := Ground.textOnly Departure.lateStores }, { on := 9, ground := Ground.textOnly Departure.lateStores }, { on := 10, ground := Ground.textOnly Departure.lateStores }, { on := 11, ground := Ground.textOnly Departure.lateStores }, { on := 12, ground := Ground.textOnly Departure.lateStores }, { on := 13, ground := Ground.textOnly Departure.lateStores }, { on := 14, ground := Ground.textOnly Departure.lateStores }, { on := 15, ground := Ground.textOnly Departure.lateStores }, { on := 16, ground := Ground.textOnly Departure.lateStores }, { on := 17, ground := Ground.textOnly Departure.lateStores }, { on := 18, ground := Ground.textOnly Departure.lateStores }, { on := 19, ground := Ground.textOnly Departure.lateStores }, { on := 20, ground := Ground.textOnly Departure.lateStores }, { on := 21, ground := Ground.textOnly Departure.lateStores }, { on := 22, ground := Ground.textOnly Departure.lateStores }, { on := 23, ground := Ground.textOnly Departure.lateStores }, { on := 24, ground := Ground.textOnly Departure.lateStores }, { on := 25, ground := Ground.textOnly Departure.lateStores }, { on := 26, ground := Ground.textOnly Departure.lateStores }, { on := 27, ground := Ground.textOnly Departure.lateStores }, { on := 28, ground := Ground.textOnly Departure.lateStores }, { on := 29, ground := Ground.textOnly Departure.lateStores }, { on := 30, ground := Ground.textOnly Departure.lateStores }, { on := 31, ground := Ground.textOnly Departure.lateStores }, { on := 32, ground := Ground.textOnly Departure.lateStores }, { on := 33, ground := Ground.textOnly Departure.lateStores }, { on := 34, ground := Ground.textOnly Departure.lateStores }, { on := 35, ground := Ground.textOnly Departure.lateStores }, { on := 36, ground := Ground.textOnly Departure.lateStores }, { on := 37, ground := Ground.textOnly Departure.lateStores }, { on := 38, ground := Ground.textOnly Departure.lateStores }], guard := none },
    { dst := none, op := Op.store 26 (Operand.tmp 9) (Operand.tmp 82), type := t40, pos := q40, after := #[{ on := 38, ground := Ground.data }, { on := 39, ground := Ground.chain }, { on := 0, ground := Ground.phase }, { on := 1, ground := Ground.phase }, { on := 2, ground := Ground.phase }, { on := 3, ground := Ground.phase }, { on := 4, ground := Ground.phase }, { on := 5, ground := Ground.phase }, { on := 6, ground := Ground.phase }, { on := 7, ground := Ground.phase }, { on := 8, ground := Ground.phase }, { on := 9, ground := Ground.phase }, { on := 10, ground := Ground.phase }, { on := 11, ground := Ground.phase }, { on := 12, ground := Ground.phase }, { on := 13, ground := Ground.phase }, { on := 14, ground := Ground.phase }, { on := 15, ground := Ground.phase }, { on := 16, ground := Ground.phase }, { on := 17, ground := Ground.phase }, { on := 18, ground := Ground.phase }, { on := 19, ground := Ground.phase }, { on := 20, ground := Ground.phase }, { on := 21, ground := Ground.phase }, { on := 22, ground := Ground.phase }, { on := 23, ground := Ground.phase }, { on := 24, ground := Ground.phase }, { on := 25, ground := Ground.phase }, { on := 26, ground := Ground.phase }, { on := 27, ground := Ground.phase }, { on := 28, ground := Ground.phase }, { on := 29, ground := Ground.phase }, { on := 30, ground := Ground.phase }, { on := 31, ground := Ground.phase }, { on := 32, ground := Ground.phase }, { on := 33, ground := Ground.phase }, { on := 34, ground := Ground.phase }, { on := 35, ground := Ground.phase }, { on := 36, ground := Ground.phase }, { on := 37, ground := Ground.phase }, { on := 38, ground := Ground.phase }, { on := 39, ground := Ground.phase }], guard := none }] true).wp Try.prog Q a0 w0 := by
  have hS : distS [some 44, some 45, some 46, some 47, some 48, some 49, some 50, some 51, some 52, some 53, some 54, some 55, some 56, some 57, some 58, some 59, some 60, some 61, some 62, some 63, some 64, some 65, some 66, some 67, some 68, some 69, some 70, some 71, some 72, some 73, some 74, some 75, some 76, some 77, some 78, some 79, some 80, some 81, some 82, none, none] = true := rfl
  refine wp_region_inv (by kernel_rfl) (JsgX GA GB GR k c cap C a b d e d2 e2 x2 y2 w0 a0) ⟨⟨rfl, rfl, rfl, fun _ _ => rfl, (Below.refl _ w0).drew, fun j d hj => ?_, fun j hj => ?_⟩, hs0⟩ ?_ ?_
  · exfalso
    rw [Array.getD_eq_getD_getElem?, Array.getElem?_replicate] at hj
    split at hj <;> simp at hj
  · exfalso
    rw [Array.getD_eq_getD_getElem?, Array.getElem?_replicate] at hj
    split at hj <;> simp at hj
  · intro lq aq W iq oq ⟨hJ, hs⟩ hl ho hall
    have hJ2 := hJ
    obtain ⟨z1, z2, z3, z4, z5, z6, z7⟩ := hJ
    obtain ⟨⟨pa, qa, ipa, iqa, xa⟩, pb, qb, ir, is, xb⟩ := hs
    have ra0 := xa.c 0 rfl; have sa0 := xa.f 0 rfl; have ra1 := xa.c 1 rfl; have sa1 := xa.f 1 rfl; have rla := xa.lt
    have rb0 := xb.c 0 rfl; have sb0 := xb.f 0 rfl; have rb1 := xb.c 1 rfl; have sb1 := xb.f 1 rfl; have rlb := xb.lt
    have hs : SsgX GA GB GR k c cap C a b d e d2 e2 x2 y2 W := ⟨⟨pa, qa, ipa, iqa, xa⟩, pb, qb, ir, is, xb⟩
    have g5 : aq.tmps.getD 5 undef = .slice (some ⟨GR, 0, none⟩) c cap := by rw [Array.getD_eq_getD_getElem?, z4 5 (by decide), h5]; rfl
    have g7 : aq.tmps.getD 7 undef = .int .i64 C := by rw [Array.getD_eq_getD_getElem?, z4 7 (by decide), h7]; rfl
    have g8 : aq.tmps.getD 8 undef = .pointer (some ⟨GA, 0, none⟩) := by rw [Array.getD_eq_getD_getElem?, z4 8 (by decide), h8]; rfl
    have g9 : aq.tmps.getD 9 undef = .pointer (some ⟨GB, 0, none⟩) := by rw [Array.getD_eq_getD_getElem?, z4 9 (by decide), h9]; rfl
    have c0 : W.cell? ⟨GR, k * 4, none⟩ = some (.int .i64 a) := (z5.cell l0).trans k0
    have c1 : W.cell? ⟨GR, k * 4 + 1, none⟩ = some (.int .i64 b) := (z5.cell l1).trans k1
    have c2 : W.cell? ⟨GR, k * 4 + 2, none⟩ = some (.int .i64 d) := (z5.cell l2).trans k2
    have c3 : W.cell? ⟨GR, k * 4 + 2 + 1, none⟩ = some (.int .i64 e) := (z5.cell l3).trans k3
    match iq, ho with
    | 0, ho =>
      cases ho
      refine wpOp_of rfl rfl ?_
      have hK := fun (v : Value) (W2 : World) hW hT hv (hs : SsgX GA GB GR k c cap C a b d e d2 e2 x2 y2 W2) => show (JsgX GA GB GR k c cap C a b d e d2 e2 x2 y2 w0 a0) (lq.setIfInBounds 0 true) (aq.put (some 44) v) W2 from ⟨hJ2.put hS 0 44 rfl (by omega) (W' := W2) hW hT v hv, hs⟩
      clear ho hall hl hQ
      generalize (JsgX GA GB GR k c cap C a b d e d2 e2 x2 y2 w0 a0) (lq.setIfInBounds 0 true) = K at hK ⊢
      clear hJ2 hS z1 z2 z3 z4 z6 z7
      go_simp
      exact hK _ _ z5 (fun _ _ h => h) rfl hs
    | 1, ho =>
      cases ho
      refine wpOp_of rfl rfl ?_
      have hK := fun (v : Value) (W2 : World) hW hT hv (hs : SsgX GA GB GR k c cap C a b d e d2 e2 x2 y2 W2) => show (JsgX GA GB GR k c cap C a b d e d2 e2 x2 y2 w0 a0) (lq.setIfInBounds 1 true) (aq.put (some 45) v) W2 from ⟨hJ2.put hS 1 45 rfl (by omega) (W' := W2) hW hT v hv, hs⟩
      clear ho hall hl hQ
      generalize (JsgX GA GB GR k c cap C a b d e d2 e2 x2 y2 w0 a0) (lq.setIfInBounds 1 true) = K at hK ⊢
      clear hJ2 hS z1 z2 z3 z4 z6 z7
      go_simp
      exact hK _ _ z5 (fun _ _ h => h) rfl hs
    | 2, ho =>
      cases ho
      refine wpOp_of rfl rfl ?_
      have f1 : (aq.tmps.getD 45 undef) = .int .i64 C := z6 1 45 (hall { on := 1, ground := Ground.data } (by simp) rfl) rfl
      have hK := fun (v : Value) (W2 : World) hW hT hv (hs : SsgX GA GB GR k c cap C a b d e d2 e2 x2 y2 W2) => show (JsgX GA GB GR k c cap C a b d e d2 e2 x2 y2 w0 a0) (lq.setIfInBounds 2 true) (aq.put (some 46) v) W2 from ⟨hJ2.put hS 2 46 rfl (by omega) (W' := W2) hW hT v hv, hs⟩
      clear ho hall hl hQ
      generalize (JsgX GA GB GR k c cap C a b d e d2 e2 x2 y2 w0 a0) (lq.setIfInBounds 2 true) = K at hK ⊢
      clear hJ2 hS z1 z2 z3 z4 z6 z7
      go_simp
      exact hK _ _ z5 (fun _ _ h => h) rfl hs
    | 3, ho =>
      cases ho
      refine wpOp_of rfl rfl ?_
      have f0 : (aq.tmps.getD 44 undef) = .slice (some ⟨GR, 0, none⟩) c cap := z6 0 44 (hall { on := 0, ground := Ground.data } (by simp) rfl) rfl
      have f2 : (aq.tmps.getD 46 undef) = .int .i64 (k : Nat) := z6 2 46 (hall { on := 2, ground := Ground.data } (by simp) rfl) rfl
      have hK := fun (v : Value) (W2 : World) hW hT hv (hs : SsgX GA GB GR k c cap C a b d e d2 e2 x2 y2 W2) => show (JsgX GA GB GR k c cap C a b d e d2 e2 x2 y2 w0 a0) (lq.setIfInBounds 3 true) (aq.put (some 47) v) W2 from ⟨hJ2.put hS 3 47 rfl (by omega) (W' := W2) hW hT v hv, hs⟩
      clear ho hall hl hQ
      generalize (JsgX GA GB GR k c cap C a b d e d2 e2 x2 y2 w0 a0) (lq.setIfInBounds 3 true) = K at hK ⊢
      clear hJ2 hS z1 z2 z3 z4 z6 z7
      go_simp
      exact hK _ _ z5 (fun _ _ h => h) rfl hs
    | 4, ho =>
      cases ho
      refine wpOp_of rfl rfl ?_
      have f3 : (aq.tmps.getD 47 undef) = .pointer (some ⟨GR, k * 4, none⟩) := z6 3 47 (hall { on := 3, ground := Ground.data } (by simp) rfl) rfl
      have hK := fun (v : Value) (W2 : World) hW hT hv (hs : SsgX GA GB GR k c cap C a b d e d2 e2 x2 y2 W2) => show (JsgX GA GB GR k c cap C a b d e d2 e2 x2 y2 w0 a0) (lq.setIfInBounds 4 true) (aq.put (some 48) v) W2 from ⟨hJ2.put hS 4 48 rfl (by omega) (W' := W2) hW hT v hv, hs⟩
      clear ho hall hl hQ
      generalize (JsgX GA GB GR k c cap C a b d e d2 e2 x2 y2 w0 a0) (lq.setIfInBounds 4 true) = K at hK ⊢
      clear hJ2 hS z1 z2 z3 z4 z6 z7
      go_simp
      exact hK _ _ z5 (fun _ _ h => h) rfl hs
    | 5, ho =>
      cases ho
      refine wpOp_of rfl rfl ?_
      have f4 : (aq.tmps.getD 48 undef) = .pointer (some ⟨GR, k * 4, none⟩) := z6 4 48 (hall { on := 4, ground := Ground.data } (by simp) rfl) rfl
      have hK := fun (v : Value) (W2 : World) hW hT hv (hs : SsgX GA GB GR k c cap C a b d e d2 e2 x2 y2 W2) => show (JsgX GA GB GR k c cap C a b d e d2 e2 x2 y2 w0 a0) (lq.setIfInBounds 5 true) (aq.put (some 49) v) W2 from ⟨hJ2.put hS 5 49 rfl (by omega) (W' := W2) hW hT v hv, hs⟩
      clear ho hall hl hQ
      generalize (JsgX GA GB GR k c cap C a b d e d2 e2 x2 y2 w0 a0) (lq.setIfInBounds 5 true) = K at hK ⊢
      clear hJ2 hS z1 z2 z3 z4 z6 z7
      go_simp
      exact hK _ _ z5 (fun _ _ h => h) rfl hs
    | 6, ho =>
      cases ho
      refine wpOp_of rfl rfl ?_
      have hK := fun (v : Value) (W2 : World) hW hT hv (hs : SsgX GA GB GR k c cap C a b d e d2 e2 x2 y2 W2) => show (JsgX GA GB GR k c cap C a b d e d2 e2 x2 y2 w0 a0) (lq.setIfInBounds 6 true) (aq.put (some 50) v) W2 from ⟨hJ2.put hS 6 50 rfl (by omega) (W' := W2) hW hT v hv, hs⟩
      clear ho hall hl hQ
      generalize (JsgX GA GB GR k c cap C a b d e d2 e2 x2 y2 w0 a0) (lq.setIfInBounds 6 true) = K at hK ⊢
      clear hJ2 hS z1 z2 z3 z4 z6 z7
      go_simp
      exact hK _ _ z5 (fun _ _ h => h) rfl hs
    | 7, ho =>
      cases ho
      refine wpOp_of rfl rfl ?_
      have hK := fun (v : Value) (W2 : World) hW hT hv (hs : SsgX GA GB GR k c cap C a b d e d2 e2 x2 y2 W2) => show (JsgX GA GB GR k c cap C a b d e d2 e2 x2 y2 w0 a0) (lq.setIfInBounds 7 true) (aq.put (some 51) v) W2 from ⟨hJ2.put hS 7 51 rfl (by omega) (W' := W2) hW hT v hv, hs⟩
      clear ho hall hl hQ
      generalize (JsgX GA GB GR k c cap C a b d e d2 e2 x2 y2 w0 a0) (lq.setIfInBounds 7 true) = K at hK ⊢
      clear hJ2 hS z1 z2 z3 z4 z6 z7
      go_simp
      exact hK _ _ z5 (fun _ _ h => h) rfl hs
    | 8, ho =>
      cases ho
      refine wpOp_of rfl rfl ?_
      have f7 : (aq.tmps.getD 51 undef) = .int .i64 C := z6 7 51 (hall { on := 7, ground := Ground.data } (by simp) rfl) rfl
      have hK := fun (v : Value) (W2 : World) hW hT hv (hs : SsgX GA GB GR k c cap C a b d e d2 e2 x2 y2 W2) => show (JsgX GA GB GR k c cap C a b d e d2 e2 x2 y2 w0 a0) (lq.setIfInBounds 8 true) (aq.put (some 52) v) W2 from ⟨hJ2.put hS 8 52 rfl (by omega) (W' := W2) hW hT v hv, hs⟩
      clear ho hall hl hQ
      generalize (JsgX GA GB GR k c cap C a b d e d2 e2 x2 y2 w0 a0) (lq.setIfInBounds 8 true) = K at hK ⊢
      clear hJ2 hS z1 z2 z3 z4 z6 z7
      go_simp
      exact hK _ _ z5 (fun _ _ h => h) rfl hs
    | 9, ho =>
      cases ho
      refine wpOp_of rfl rfl ?_
      have f6 : (aq.tmps.getD 50 undef) = .slice (some ⟨GR, 0, none⟩) c cap := z6 6 50 (hall { on := 6, ground := Ground.data } (by simp) rfl) rfl
      have f8 : (aq.tmps.getD 52 undef) = .int .i64 (k : Nat) := z6 8 52 (hall { on := 8, ground := Ground.data } (by simp) rfl) rfl
      have hK := fun (v : Value) (W2 : World) hW hT hv (hs : SsgX GA GB GR k c cap C a b d e d2 e2 x2 y2 W2) => show (JsgX GA GB GR k c cap C a b d e d2 e2 x2 y2 w0 a0) (lq.setIfInBounds 9 true) (aq.put (some 53) v) W2 from ⟨hJ2.put hS 9 53 rfl (by omega) (W' := W2) hW hT v hv, hs⟩
      clear ho hall hl hQ
      generalize (JsgX GA GB GR k c cap C a b d e d2 e2 x2 y2 w0 a0) (lq.setIfInBounds 9 true) = K at hK ⊢
      clear hJ2 hS z1 z2 z3 z4 z6 z7
      go_simp
      exact hK _ _ z5 (fun _ _ h => h) rfl hs
    | 10, ho =>
      cases ho
      refine wpOp_of rfl rfl ?_
      have f9 : (aq.tmps.getD 53 undef) = .pointer (some ⟨GR, k * 4, none⟩) := z6 9 53 (hall { on := 9, ground := Ground.data } (by simp) rfl) rfl
      have hK := fun (v : Value) (W2 : World) hW hT hv (hs : SsgX GA GB GR k c cap C a b d e d2 e2 x2 y2 W2) => show (JsgX GA GB GR k c cap C a b d e d2 e2 x2 y2 w0 a0) (lq.setIfInBounds 10 true) (aq.put (some 54) v) W2 from ⟨hJ2.put hS 10 54 rfl (by omega) (W' := W2) hW hT v hv, hs⟩
      clear ho hall hl hQ
      generalize (JsgX GA GB GR k c cap C a b d e d2 e2 x2 y2 w0 a0) (lq.setIfInBounds 10 true) = K at hK ⊢
      clear hJ2 hS z1 z2 z3 z4 z6 z7
      go_simp
      exact hK _ _ z5 (fun _ _ h => h) rfl hs
    | 11, ho =>
      cases ho
      refine wpOp_of rfl rfl ?_
      have f10 : (aq.tmps.getD 54 undef) = .pointer (some ⟨GR, k * 4 + 2, none⟩) := z6 10 54 (hall { on := 10, ground := Ground.data } (by simp) rfl) rfl
      have hK := fun (v : Value) (W2 : World) hW hT hv (hs : SsgX GA GB GR k c cap C a b d e d2 e2 x2 y2 W2) => show (JsgX GA GB GR k c cap C a b d e d2 e2 x2 y2 w0 a0) (lq.setIfInBounds 11 true) (aq.put (some 55) v) W2 from ⟨hJ2.put hS 11 55 rfl (by omega) (W' := W2) hW hT v hv, hs⟩
      clear ho hall hl hQ
      generalize (JsgX GA GB GR k c cap C a b d e d2 e2 x2 y2 w0 a0) (lq.setIfInBounds 11 true) = K at hK ⊢
      clear hJ2 hS z1 z2 z3 z4 z6 z7
      go_simp
      exact hK _ _ z5 (fun _ _ h => h) rfl hs
    | 12, ho =>
      cases ho
      refine wpOp_of rfl rfl ?_
      have f11 : (aq.tmps.getD 55 undef) = .pointer (some ⟨GR, k * 4 + 2, none⟩) := z6 11 55 (hall { on := 11, ground := Ground.data } (by simp) rfl) rfl
      have hK := fun (v : Value) (W2 : World) hW hT hv (hs : SsgX GA GB GR k c cap C a b d e d2 e2 x2 y2 W2) => show (JsgX GA GB GR k c cap C a b d e d2 e2 x2 y2 w0 a0) (lq.setIfInBounds 12 true) (aq.put (some 56) v) W2 from ⟨hJ2.put hS 12 56 rfl (by omega) (W' := W2) hW hT v hv, hs⟩
      clear ho hall hl hQ
      generalize (JsgX GA GB GR k c cap C a b d e d2 e2 x2 y2 w0 a0) (lq.setIfInBounds 12 true) = K at hK ⊢
      clear hJ2 hS z1 z2 z3 z4 z6 z7
      go_simp
      exact hK _ _ z5 (fun _ _ h => h) rfl hs
    | 13, ho =>
      cases ho
      refine wpOp_of rfl rfl ?_
      have f12 : (aq.tmps.getD 56 undef) = .int .i64 d := z6 12 56 (hall { on := 12, ground := Ground.data } (by simp) rfl) rfl
      have hK := fun (v : Value) (W2 : World) hW hT hv (hs : SsgX GA GB GR k c cap C a b d e d2 e2 x2 y2 W2) => show (JsgX GA GB GR k c cap C a b d e d2 e2 x2 y2 w0 a0) (lq.setIfInBounds 13 true) (aq.put (some 57) v) W2 from ⟨hJ2.put hS 13 57 rfl (by omega) (W' := W2) hW hT v hv, hs⟩
      clear ho hall hl hQ
      generalize (JsgX GA GB GR k c cap C a b d e d2 e2 x2 y2 w0 a0) (lq.setIfInBounds 13 true) = K at hK ⊢
      clear hJ2 hS z1 z2 z3 z4 z6 z7
      go_simp
      exact hK _ _ z5 (fun _ _ h => h) rfl hs
    | 14, ho =>
      cases ho
      refine wpOp_of rfl rfl ?_
      have hK := fun (v : Value) (W2 : World) hW hT hv (hs : SsgX GA GB GR k c cap C a b d e d2 e2 x2 y2 W2) => show (JsgX GA GB GR k c cap C a b d e d2 e2 x2 y2 w0 a0) (lq.setIfInBounds 14 true) (aq.put (some 58) v) W2 from ⟨hJ2.put hS 14 58 rfl (by omega) (W' := W2) hW hT v hv, hs⟩
      clear ho hall hl hQ
      generalize (JsgX GA GB GR k c cap C a b d e d2 e2 x2 y2 w0 a0) (lq.setIfInBounds 14 true) = K at hK ⊢
      clear hJ2 hS z1 z2 z3 z4 z6 z7
      go_simp
      exact hK _ _ z5 (fun _ _ h => h) rfl hs
    | 15, ho =>
      cases ho
      refine wpOp_of rfl rfl ?_
      have hK := fun (v : Value) (W2 : World) hW hT hv (hs : SsgX GA GB GR k c cap C a b d e d2 e2 x2 y2 W2) => show (JsgX GA GB GR k c cap C a b d e d2 e2 x2 y2 w0 a0) (lq.setIfInBounds 15 true) (aq.put (some 59) v) W2 from ⟨hJ2.put hS 15 59 rfl (by omega) (W' := W2) hW hT v hv, hs⟩
      clear ho hall hl hQ
      generalize (JsgX GA GB GR k c cap C a b d e d2 e2 x2 y2 w0 a0) (lq.setIfInBounds 15 true) = K at hK ⊢
      clear hJ2 hS z1 z2 z3 z4 z6 z7
      go_simp
      exact hK _ _ z5 (fun _ _ h => h) rfl hs
    | 16, ho =>
      cases ho
      refine wpOp_of rfl rfl ?_
      have f15 : (aq.tmps.getD 59 undef) = .int .i64 C := z6 15 59 (hall { on := 15, ground := Ground.data } (by simp) rfl) rfl
      have hK := fun (v : Value) (W2 : World) hW hT hv (hs : SsgX GA GB GR k c cap C a b d e d2 e2 x2 y2 W2) => show (JsgX GA GB GR k c cap C a b d e d2 e2 x2 y2 w0 a0) (lq.setIfInBounds 16 true) (aq.put (some 60) v) W2 from ⟨hJ2.put hS 16 60 rfl (by omega) (W' := W2) hW hT v hv, hs⟩
      clear ho hall hl hQ
      generalize (JsgX GA GB GR k c cap C a b d e d2 e2 x2 y2 w0 a0) (lq.setIfInBounds 16 true) = K at hK ⊢
      clear hJ2 hS z1 z2 z3 z4 z6 z7
      go_simp
      exact hK _ _ z5 (fun _ _ h => h) rfl hs
    | 17, ho =>
      cases ho
      refine wpOp_of rfl rfl ?_
      have f14 : (aq.tmps.getD 58 undef) = .slice (some ⟨GR, 0, none⟩) c cap := z6 14 58 (hall { on := 14, ground := Ground.data } (by simp) rfl) rfl
      have f16 : (aq.tmps.getD 60 undef) = .int .i64 (k : Nat) := z6 16 60 (hall { on := 16, ground := Ground.data } (by simp) rfl) rfl
      have hK := fun (v : Value) (W2 : World) hW hT hv (hs : SsgX GA GB GR k c cap C a b d e d2 e2 x2 y2 W2) => show (JsgX GA GB GR k c cap C a b d e d2 e2 x2 y2 w0 a0) (lq.setIfInBounds 17 true) (aq.put (some 61) v) W2 from ⟨hJ2.put hS 17 61 rfl (by omega) (W' := W2) hW hT v hv, hs⟩
      clear ho hall hl hQ
      generalize (JsgX GA GB GR k c cap C a b d e d2 e2 x2 y2 w0 a0) (lq.setIfInBounds 17 true) = K at hK ⊢
      clear hJ2 hS z1 z2 z3 z4 z6 z7
      go_simp
      exact hK _ _ z5 (fun _ _ h => h) rfl hs
    | 18, ho =>
      cases ho
      refine wpOp_of rfl rfl ?_
      have f17 : (aq.tmps.getD 61 undef) = .pointer (some ⟨GR, k * 4, none⟩) := z6 17 61 (hall { on := 17, ground := Ground.data } (by simp) rfl) rfl
      have hK := fun (v : Value) (W2 : World) hW hT hv (hs : SsgX GA GB GR k c cap C a b d e d2 e2 x2 y2 W2) => show (JsgX GA GB GR k c cap C a b d e d2 e2 x2 y2 w0 a0) (lq.setIfInBounds 18 true) (aq.put (some 62) v) W2 from ⟨hJ2.put hS 18 62 rfl (by omega) (W' := W2) hW hT v hv, hs⟩
      clear ho hall hl hQ
      generalize (JsgX GA GB GR k c cap C a b d e d2 e2 x2 y2 w0 a0) (lq.setIfInBounds 18 true) = K at hK ⊢
      clear hJ2 hS z1 z2 z3 z4 z6 z7
      go_simp
      exact hK _ _ z5 (fun _ _ h => h) rfl hs
    | 19, ho =>
      cases ho
      refine wpOp_of rfl rfl ?_
      have f18 : (aq.tmps.getD 62 undef) = .pointer (some ⟨GR, k * 4, none⟩) := z6 18 62 (hall { on := 18, ground := Ground.data } (by simp) rfl) rfl
      have hK := fun (v : Value) (W2 : World) hW hT hv (hs : SsgX GA GB GR k c cap C a b d e d2 e2 x2 y2 W2) => show (JsgX GA GB GR k c cap C a b d e d2 e2 x2 y2 w0 a0) (lq.setIfInBounds 19 true) (aq.put (some 63) v) W2 from ⟨hJ2.put hS 19 63 rfl (by omega) (W' := W2) hW hT v hv, hs⟩
      clear ho hall hl hQ
      generalize (JsgX GA GB GR k c cap C a b d e d2 e2 x2 y2 w0 a0) (lq.setIfInBounds 19 true) = K at hK ⊢
      clear hJ2 hS z1 z2 z3 z4 z6 z7
      go_simp
      exact hK _ _ z5 (fun _ _ h => h) rfl hs
    | 20, ho =>
      cases ho
      refine wpOp_of rfl rfl ?_
      have f19 : (aq.tmps.getD 63 undef) = .pointer (some ⟨GR, k * 4, none⟩) := z6 19 63 (hall { on := 19, ground := Ground.data } (by simp) rfl) rfl
      have hK := fun (v : Value) (W2 : World) hW hT hv (hs : SsgX GA GB GR k c cap C a b d e d2 e2 x2 y2 W2) => show (JsgX GA GB GR k c cap C a b d e d2 e2 x2 y2 w0 a0) (lq.setIfInBounds 20 true) (aq.put (some 64) v) W2 from ⟨hJ2.put hS 20 64 rfl (by omega) (W' := W2) hW hT v hv, hs⟩
      clear ho hall hl hQ
      generalize (JsgX GA GB GR k c cap C a b d e d2 e2 x2 y2 w0 a0) (lq.setIfInBounds 20 true) = K at hK ⊢
      clear hJ2 hS z1 z2 z3 z4 z6 z7
      go_simp
      exact hK _ _ z5 (fun _ _ h => h) rfl hs
    | 21, ho =>
      cases ho
      refine wpOp_of rfl rfl ?_
      have f13 : (aq.tmps.getD 57 undef) = .int .i64 d2 := z6 13 57 (hall { on := 13, ground := Ground.data } (by simp) rfl) rfl
      have f20 : (aq.tmps.getD 64 undef) = .int .i64 a := z6 20 64 (hall { on := 20, ground := Ground.data } (by simp) rfl) rfl
      have hK := fun (v : Value) (W2 : World) hW hT hv (hs : SsgX GA GB GR k c cap C a b d e d2 e2 x2 y2 W2) => show (JsgX GA GB GR k c cap C a b d e d2 e2 x2 y2 w0 a0) (lq.setIfInBounds 21 true) (aq.put (some 65) v) W2 from ⟨hJ2.put hS 21 65 rfl (by omega) (W' := W2) hW hT v hv, hs⟩
      clear ho hall hl hQ
      generalize (JsgX GA GB GR k c cap C a b d e d2 e2 x2 y2 w0 a0) (lq.setIfInBounds 21 true) = K at hK ⊢
      clear hJ2 hS z1 z2 z3 z4 z6 z7
      go_simp
      exact hK _ _ z5 (fun _ _ h => h) rfl hs
    | 22, ho =>
      cases ho
      refine wpOp_of rfl rfl ?_
      have hK := fun (v : Value) (W2 : World) hW hT hv (hs : SsgX GA GB GR k c cap C a b d e d2 e2 x2 y2 W2) => show (JsgX GA GB GR k c cap C a b d e d2 e2 x2 y2 w0 a0) (lq.setIfInBounds 22 true) (aq.put (some 66) v) W2 from ⟨hJ2.put hS 22 66 rfl (by omega) (W' := W2) hW hT v hv, hs⟩
      clear ho hall hl hQ
      generalize (JsgX GA GB GR k c cap C a b d e d2 e2 x2 y2 w0 a0) (lq.setIfInBounds 22 true) = K at hK ⊢
      clear hJ2 hS z1 z2 z3 z4 z6 z7
      go_simp
      exact hK _ _ z5 (fun _ _ h => h) rfl hs
    | 23, ho =>
      cases ho
      refine wpOp_of rfl rfl ?_
      have hK := fun (v : Value) (W2 : World) hW hT hv (hs : SsgX GA GB GR k c cap C a b d e d2 e2 x2 y2 W2) => show (JsgX GA GB GR k c cap C a b d e d2 e2 x2 y2 w0 a0) (lq.setIfInBounds 23 true) (aq.put (some 67) v) W2 from ⟨hJ2.put hS 23 67 rfl (by omega) (W' := W2) hW hT v hv, hs⟩
      clear ho hall hl hQ
      generalize (JsgX GA GB GR k c cap C a b d e d2 e2 x2 y2 w0 a0) (lq.setIfInBounds 23 true) = K at hK ⊢
      clear hJ2 hS z1 z2 z3 z4 z6 z7
      go_simp
      exact hK _ _ z5 (fun _ _ h => h) rfl hs
    | 24, ho =>
      cases ho
      refine wpOp_of rfl rfl ?_
      have f23 : (aq.tmps.getD 67 undef) = .int .i64 C := z6 23 67 (hall { on := 23, ground := Ground.data } (by simp) rfl) rfl
      have hK := fun (v : Value) (W2 : World) hW hT hv (hs : SsgX GA GB GR k c cap C a b d e d2 e2 x2 y2 W2) => show (JsgX GA GB GR k c cap C a b d e d2 e2 x2 y2 w0 a0) (lq.setIfInBounds 24 true) (aq.put (some 68) v) W2 from ⟨hJ2.put hS 24 68 rfl (by omega) (W' := W2) hW hT v hv, hs⟩
      clear ho hall hl hQ
      generalize (JsgX GA GB GR k c cap C a b d e d2 e2 x2 y2 w0 a0) (lq.setIfInBounds 24 true) = K at hK ⊢
      clear hJ2 hS z1 z2 z3 z4 z6 z7
      go_simp
      exact hK _ _ z5 (fun _ _ h => h) rfl hs
    | 25, ho =>
      cases ho
      refine wpOp_of rfl rfl ?_
      have f22 : (aq.tmps.getD 66 undef) = .slice (some ⟨GR, 0, none⟩) c cap := z6 22 66 (hall { on := 22, ground := Ground.data } (by simp) rfl) rfl
      have f24 : (aq.tmps.getD 68 undef) = .int .i64 (k : Nat) := z6 24 68 (hall { on := 24, ground := Ground.data } (by simp) rfl) rfl
      have hK := fun (v : Value) (W2 : World) hW hT hv (hs : SsgX GA GB GR k c cap C a b d e d2 e2 x2 y2 W2) => show (JsgX GA GB GR k c cap C a b d e d2 e2 x2 y2 w0 a0) (lq.setIfInBounds 25 true) (aq.put (some 69) v) W2 from ⟨hJ2.put hS 25 69 rfl (by omega) (W' := W2) hW hT v hv, hs⟩
      clear ho hall hl hQ
      generalize (JsgX GA GB GR k c cap C a b d e d2 e2 x2 y2 w0 a0) (lq.setIfInBounds 25 true) = K at hK ⊢
      clear hJ2 hS z1 z2 z3 z4 z6 z7
      go_simp
      exact hK _ _ z5 (fun _ _ h => h) rfl hs
    | 26, ho =>
      cases ho
      refine wpOp_of rfl rfl ?_
      have f25 : (aq.tmps.getD 69 undef) = .pointer (some ⟨GR, k * 4, none⟩) := z6 25 69 (hall { on := 25, ground := Ground.data } (by simp) rfl) rfl
      have hK := fun (v : Value) (W2 : World) hW hT hv (hs : SsgX GA GB GR k c cap C a b d e d2 e2 x2 y2 W2) => show (JsgX GA GB GR k c cap C a b d e d2 e2 x2 y2 w0 a0) (lq.setIfInBounds 26 true) (aq.put (some 70) v) W2 from ⟨hJ2.put hS 26 70 rfl (by omega) (W' := W2) hW hT v hv, hs⟩
      clear ho hall hl hQ
      generalize (JsgX GA GB GR k c cap C a b d e d2 e2 x2 y2 w0 a0) (lq.setIfInBounds 26 true) = K at hK ⊢
      clear hJ2 hS z1 z2 z3 z4 z6 z7
      go_simp
      exact hK _ _ z5 (fun _ _ h => h) rfl hs
    | 27, ho =>
      cases ho
      refine wpOp_of rfl rfl ?_
      have f26 : (aq.tmps.getD 70 undef) = .pointer (some ⟨GR, k * 4 + 2, none⟩) := z6 26 70 (hall { on := 26, ground := Ground.data } (by simp) rfl) rfl
      have hK := fun (v : Value) (W2 : World) hW hT hv (hs : SsgX GA GB GR k c cap C a b d e d2 e2 x2 y2 W2) => show (JsgX GA GB GR k c cap C a b d e d2 e2 x2 y2 w0 a0) (lq.setIfInBounds 27 true) (aq.put (some 71) v) W2 from ⟨hJ2.put hS 27 71 rfl (by omega) (W' := W2) hW hT v hv, hs⟩
      clear ho hall hl hQ
      generalize (JsgX GA GB GR k c cap C a b d e d2 e2 x2 y2 w0 a0) (lq.setIfInBounds 27 true) = K at hK ⊢
      clear hJ2 hS z1 z2 z3 z4 z6 z7
      go_simp
      exact hK _ _ z5 (fun _ _ h => h) rfl hs
    | 28, ho =>
      cases ho
      refine wpOp_of rfl rfl ?_
      have f27 : (aq.tmps.getD 71 undef) = .pointer (some ⟨GR, k * 4 + 2 + 1, none⟩) := z6 27 71 (hall { on := 27, ground := Ground.data } (by simp) rfl) rfl
      have hK := fun (v : Value) (W2 : World) hW hT hv (hs : SsgX GA GB GR k c cap C a b d e d2 e2 x2 y2 W2) => show (JsgX GA GB GR k c cap C a b d e d2 e2 x2 y2 w0 a0) (lq.setIfInBounds 28 true) (aq.put (some 72) v) W2 from ⟨hJ2.put hS 28 72 rfl (by omega) (W' := W2) hW hT v hv, hs⟩
      clear ho hall hl hQ
      generalize (JsgX GA GB GR k c cap C a b d e d2 e2 x2 y2 w0 a0) (lq.setIfInBounds 28 true) = K at hK ⊢
      clear hJ2 hS z1 z2 z3 z4 z6 z7
      go_simp
      exact hK _ _ z5 (fun _ _ h => h) rfl hs
    | 29, ho =>
      cases ho
      refine wpOp_of rfl rfl ?_
      have f28 : (aq.tmps.getD 72 undef) = .int .i64 e := z6 28 72 (hall { on := 28, ground := Ground.data } (by simp) rfl) rfl
      have hK := fun (v : Value) (W2 : World) hW hT hv (hs : SsgX GA GB GR k c cap C a b d e d2 e2 x2 y2 W2) => show (JsgX GA GB GR k c cap C a b d e d2 e2 x2 y2 w0 a0) (lq.setIfInBounds 29 true) (aq.put (some 73) v) W2 from ⟨hJ2.put hS 29 73 rfl (by omega) (W' := W2) hW hT v hv, hs⟩
      clear ho hall hl hQ
      generalize (JsgX GA GB GR k c cap C a b d e d2 e2 x2 y2 w0 a0) (lq.setIfInBounds 29 true) = K at hK ⊢
      clear hJ2 hS z1 z2 z3 z4 z6 z7
      go_simp
      exact hK _ _ z5 (fun _ _ h => h) rfl hs
    | 30, ho =>
      cases ho
      refine wpOp_of rfl rfl ?_
      have hK := fun (v : Value) (W2 : World) hW hT hv (hs : SsgX GA GB GR k c cap C a b d e d2 e2 x2 y2 W2) => show (JsgX GA GB GR k c cap C a b d e d2 e2 x2 y2 w0 a0) (lq.setIfInBounds 30 true) (aq.put (some 74) v) W2 from ⟨hJ2.put hS 30 74 rfl (by omega) (W' := W2) hW hT v hv, hs⟩
      clear ho hall hl hQ
      generalize (JsgX GA GB GR k c cap C a b d e d2 e2 x2 y2 w0 a0) (lq.setIfInBounds 30 true) = K at hK ⊢
      clear hJ2 hS z1 z2 z3 z4 z6 z7
      go_simp
      exact hK _ _ z5 (fun _ _ h => h) rfl hs
    | 31, ho =>
      cases ho
      refine wpOp_of rfl rfl ?_
      have hK := fun (v : Value) (W2 : World) hW hT hv (hs : SsgX GA GB GR k c cap C a b d e d2 e2 x2 y2 W2) => show (JsgX GA GB GR k c cap C a b d e d2 e2 x2 y2 w0 a0) (lq.setIfInBounds 31 true) (aq.put (some 75) v) W2 from ⟨hJ2.put hS 31 75 rfl (by omega) (W' := W2) hW hT v hv, hs⟩
      clear ho hall hl hQ
      generalize (JsgX GA GB GR k c cap C a b d e d2 e2 x2 y2 w0 a0) (lq.setIfInBounds 31 true) = K at hK ⊢
      clear hJ2 hS z1 z2 z3 z4 z6 z7
      go_simp
      exact hK _ _ z5 (fun _ _ h => h) rfl hs
    | 32, ho =>
      cases ho
      refine wpOp_of rfl rfl ?_
      have f31 : (aq.tmps.getD 75 undef) = .int .i64 C := z6 31 75 (hall { on := 31, ground := Ground.data } (by simp) rfl) rfl
      have hK := fun (v : Value) (W2 : World) hW hT hv (hs : SsgX GA GB GR k c cap C a b d e d2 e2 x2 y2 W2) => show (JsgX GA GB GR k c cap C a b d e d2 e2 x2 y2 w0 a0) (lq.setIfInBounds 32 true) (aq.put (some 76) v) W2 from ⟨hJ2.put hS 32 76 rfl (by omega) (W' := W2) hW hT v hv, hs⟩
      clear ho hall hl hQ
      generalize (JsgX GA GB GR k c cap C a b d e d2 e2 x2 y2 w0 a0) (lq.setIfInBounds 32 true) = K at hK ⊢
      clear hJ2 hS z1 z2 z3 z4 z6 z7
      go_simp
      exact hK _ _ z5 (fun _ _ h => h) rfl hs
    | 33, ho =>
      cases ho
      refine wpOp_of rfl rfl ?_
      have f30 : (aq.tmps.getD 74 undef) = .slice (some ⟨GR, 0, none⟩) c cap := z6 30 74 (hall { on := 30, ground := Ground.data } (by simp) rfl) rfl
      have f32 : (aq.tmps.getD 76 undef) = .int .i64 (k : Nat) := z6 32 76 (hall { on := 32, ground := Ground.data } (by simp) rfl) rfl
      have hK := fun (v : Value) (W2 : World) hW hT hv (hs : SsgX GA GB GR k c cap C a b d e d2 e2 x2 y2 W2) => show (JsgX GA GB GR k c cap C a b d e d2 e2 x2 y2 w0 a0) (lq.setIfInBounds 33 true) (aq.put (some 77) v) W2 from ⟨hJ2.put hS 33 77 rfl (by omega) (W' := W2) hW hT v hv, hs⟩
      clear ho hall hl hQ
      generalize (JsgX GA GB GR k c cap C a b d e d2 e2 x2 y2 w0 a0) (lq.setIfInBounds 33 true) = K at hK ⊢
      clear hJ2 hS z1 z2 z3 z4 z6 z7
      go_simp
      exact hK _ _ z5 (fun _ _ h => h) rfl hs
    | 34, ho =>
      cases ho
      refine wpOp_of rfl rfl ?_
      have f33 : (aq.tmps.getD 77 undef) = .pointer (some ⟨GR, k * 4, none⟩) := z6 33 77 (hall { on := 33, ground := Ground.data } (by simp) rfl) rfl
      have hK := fun (v : Value) (W2 : World) hW hT hv (hs : SsgX GA GB GR k c cap C a b d e d2 e2 x2 y2 W2) => show (JsgX GA GB GR k c cap C a b d e d2 e2 x2 y2 w0 a0) (lq.setIfInBounds 34 true) (aq.put (some 78) v) W2 from ⟨hJ2.put hS 34 78 rfl (by omega) (W' := W2) hW hT v hv, hs⟩
      clear ho hall hl hQ
      generalize (JsgX GA GB GR k c cap C a b d e d2 e2 x2 y2 w0 a0) (lq.setIfInBounds 34 true) = K at hK ⊢
      clear hJ2 hS z1 z2 z3 z4 z6 z7
      go_simp
      exact hK _ _ z5 (fun _ _ h => h) rfl hs
    | 35, ho =>
      cases ho
      refine wpOp_of rfl rfl ?_
      have f34 : (aq.tmps.getD 78 undef) = .pointer (some ⟨GR, k * 4, none⟩) := z6 34 78 (hall { on := 34, ground := Ground.data } (by simp) rfl) rfl
      have hK := fun (v : Value) (W2 : World) hW hT hv (hs : SsgX GA GB GR k c cap C a b d e d2 e2 x2 y2 W2) => show (JsgX GA GB GR k c cap C a b d e d2 e2 x2 y2 w0 a0) (lq.setIfInBounds 35 true) (aq.put (some 79) v) W2 from ⟨hJ2.put hS 35 79 rfl (by omega) (W' := W2) hW hT v hv, hs⟩
      clear ho hall hl hQ
      generalize (JsgX GA GB GR k c cap C a b d e d2 e2 x2 y2 w0 a0) (lq.setIfInBounds 35 true) = K at hK ⊢
      clear hJ2 hS z1 z2 z3 z4 z6 z7
      go_simp
      exact hK _ _ z5 (fun _ _ h => h) rfl hs
    | 36, ho =>
      cases ho
      refine wpOp_of rfl rfl ?_
      have f35 : (aq.tmps.getD 79 undef) = .pointer (some ⟨GR, k * 4 + 1, none⟩) := z6 35 79 (hall { on := 35, ground := Ground.data } (by simp) rfl) rfl
      have hK := fun (v : Value) (W2 : World) hW hT hv (hs : SsgX GA GB GR k c cap C a b d e d2 e2 x2 y2 W2) => show (JsgX GA GB GR k c cap C a b d e d2 e2 x2 y2 w0 a0) (lq.setIfInBounds 36 true) (aq.put (some 80) v) W2 from ⟨hJ2.put hS 36 80 rfl (by omega) (W' := W2) hW hT v hv, hs⟩
      clear ho hall hl hQ
      generalize (JsgX GA GB GR k c cap C a b d e d2 e2 x2 y2 w0 a0) (lq.setIfInBounds 36 true) = K at hK ⊢
      clear hJ2 hS z1 z2 z3 z4 z6 z7
      go_simp
      exact hK _ _ z5 (fun _ _ h => h) rfl hs
    | 37, ho =>
      cases ho
      refine wpOp_of rfl rfl ?_
      have f29 : (aq.tmps.getD 73 undef) = .int .i64 e2 := z6 29 73 (hall { on := 29, ground := Ground.data } (by simp) rfl) rfl
      have f36 : (aq.tmps.getD 80 undef) = .int .i64 b := z6 36 80 (hall { on := 36, ground := Ground.data } (by simp) rfl) rfl
      have hK := fun (v : Value) (W2 : World) hW hT hv (hs : SsgX GA GB GR k c cap C a b d e d2 e2 x2 y2 W2) => show (JsgX GA GB GR k c cap C a b d e d2 e2 x2 y2 w0 a0) (lq.setIfInBounds 37 true) (aq.put (some 81) v) W2 from ⟨hJ2.put hS 37 81 rfl (by omega) (W' := W2) hW hT v hv, hs⟩
      clear ho hall hl hQ
      generalize (JsgX GA GB GR k c cap C a b d e d2 e2 x2 y2 w0 a0) (lq.setIfInBounds 37 true) = K at hK ⊢
      clear hJ2 hS z1 z2 z3 z4 z6 z7
      go_simp
      exact hK _ _ z5 (fun _ _ h => h) rfl hs
    | 38, ho =>
      cases ho
      refine wpOp_of rfl rfl ?_
      have f21 : (aq.tmps.getD 65 undef) = .int .i64 x2 := z6 21 65 (hall { on := 21, ground := Ground.data } (by simp) rfl) rfl
      have f37 : (aq.tmps.getD 81 undef) = .int .i64 y2 := z6 37 81 (hall { on := 37, ground := Ground.data } (by simp) rfl) rfl
      rw [Array.getD_eq_getD_getElem?] at f21 f37
      have hK := fun (v : Value) (W2 : World) hW hT hv (hs : SsgX GA GB GR k c cap C a b d e d2 e2 x2 y2 W2) => show (JsgX GA GB GR k c cap C a b d e d2 e2 x2 y2 w0 a0) (lq.setIfInBounds 38 true) (aq.put (some 82) v) W2 from ⟨hJ2.put hS 38 82 rfl (by omega) (W' := W2) hW hT v hv, hs⟩
      clear ho hall hl hQ
      generalize (JsgX GA GB GR k c cap C a b d e d2 e2 x2 y2 w0 a0) (lq.setIfInBounds 38 true) = K at hK ⊢
      clear hJ2 hS z1 z2 z3 z4 z6 z7
      go_simp
      exact hK _ _ z5 (fun _ _ h => h) rfl hs
    | 39, ho =>
      cases ho
      refine wpOp_of rfl rfl ?_
      have f5 : (aq.tmps.getD 49 undef) = .agg #[.int .i64 a, .int .i64 b] := z6 5 49 (hall { on := 5, ground := Ground.data } (by simp) rfl) rfl
      have hK := fun (W2 : World) hW hT hv (hs : SsgX GA GB GR k c cap C a b d e d2 e2 x2 y2 W2) => show (JsgX GA GB GR k c cap C a b d e d2 e2 x2 y2 w0 a0) (lq.setIfInBounds 39 true) aq W2 from ⟨hJ2.world 39 rfl (W' := W2) hW hT hv, hs⟩
      clear ho hall hl hQ
      generalize (JsgX GA GB GR k c cap C a b d e d2 e2 x2 y2 w0 a0) (lq.setIfInBounds 39 true) = K at hK ⊢
      clear hJ2 hS z1 z2 z3 z4 z6 z7
      have nb : Blk ((W.setCell ⟨GA, 0, none⟩ (.int .i64 a)).setCell ⟨GA, 1, none⟩ (.int .i64 b)) GA [.int .i64 a, .int .i64 b] := (xa.setI 0 (by simp) _).setI 1 (by simp) _
      have ns : SsgX GA GB GR k c cap C a b d e d2 e2 x2 y2 ((W.setCell ⟨GA, 0, none⟩ (.int .i64 a)).setCell ⟨GA, 1, none⟩ (.int .i64 b)) := ⟨⟨a, b, ia, ib, nb⟩, pb, qb, ir, is, (xb.setO (p := ⟨GA, 0, none⟩) (by show GB ≠ GA; omega) _).setO (p := ⟨GA, 1, none⟩) (by show GB ≠ GA; omega) _⟩
      have nB : Below GA w0 ((W.setCell ⟨GA, 0, none⟩ (.int .i64 a)).setCell ⟨GA, 1, none⟩ (.int .i64 b)) := (z5.setCell (p := ⟨GA, 0, none⟩) (Nat.le_refl _) _).setCell (p := ⟨GA, 1, none⟩) (Nat.le_refl _) _
      clear xa xb nb
      go_simp
      exact hK _ nB (fun _ _ h => VsgX.same h) trivial ns
    | 40, ho =>
      cases ho
      refine wpOp_of rfl rfl ?_
      have f38 : (aq.tmps.getD 82 undef) = .agg #[.int .i64 x2, .int .i64 y2] := z6 38 82 (hall { on := 38, ground := Ground.data } (by simp) rfl) rfl
      have hK := fun (W2 : World) hW hT hv (hs : SsgX GA GB GR k c cap C a b d e d2 e2 x2 y2 W2) => show (JsgX GA GB GR k c cap C a b d e d2 e2 x2 y2 w0 a0) (lq.setIfInBounds 40 true) aq W2 from ⟨hJ2.world 40 rfl (W' := W2) hW hT hv, hs⟩
      clear ho hall hl hQ
      generalize (JsgX GA GB GR k c cap C a b d e d2 e2 x2 y2 w0 a0) (lq.setIfInBounds 40 true) = K at hK ⊢
      clear hJ2 hS z1 z2 z3 z4 z6 z7
      have nb : Blk ((W.setCell ⟨GB, 0, none⟩ (.int .i64 x2)).setCell ⟨GB, 1, none⟩ (.int .i64 y2)) GB [.int .i64 x2, .int .i64 y2] := (xb.setI 0 (by simp) _).setI 1 (by simp) _
      have ns : SsgX GA GB GR k c cap C a b d e d2 e2 x2 y2 ((W.setCell ⟨GB, 0, none⟩ (.int .i64 x2)).setCell ⟨GB, 1, none⟩ (.int .i64 y2)) := ⟨⟨pa, qa, ipa, iqa, (xa.setO (p := ⟨GB, 0, none⟩) (by show GA ≠ GB; omega) _).setO (p := ⟨GB, 1, none⟩) (by show GA ≠ GB; omega) _⟩, x2, y2, ix, iy, nb⟩
      have nB : Below GA w0 ((W.setCell ⟨GB, 0, none⟩ (.int .i64 x2)).setCell ⟨GB, 1, none⟩ (.int .i64 y2)) := (z5.setCell (p := ⟨GB, 0, none⟩) (Nat.le_of_lt hab) _).setCell (p := ⟨GB, 1, none⟩) (Nat.le_of_lt hab) _
      clear xa xb nb
      go_simp
      exact hK _ nB (fun _ _ h => VsgX.same h) trivial ns
    | iq + 41, ho => simp at ho
  · intro lq aq W ⟨hJ, hs⟩ hr
    obtain ⟨z1, z2, z3, z4, z5, z6, z7⟩ := hJ
    exact hQ aq W z2 z3 (fun e he => z4 e (by simpa using he))  z5 hs
end Go.Proofs.Ytjhmacpejfldoaa

/- A row of segments drawn from a code: the walk. -/
namespace Go.Proofs.Ytjhmacpejfldoaa
open Go.RowKit
theorem below_pos (m : Int) (h1 : 1 ≤ m) (h256 : m ≤ 256) (g : Nat) (ao : Option Addr) (n cap : Nat) (cs : List Int) (w : World) (h : Rdr w g ao n cap cs) :
    Calls Try.prog 45 #[.pointer (some ⟨g, 0, none⟩), .int .i64 m] w (RdP g ao n cap cs (IsIn 0 m) w) := by
  rcases Int.lt_or_le m 2 with h2 | h2
  · obtain rfl : m = 1 := by omega
    go_enter Try.func45, Try.ntmps45
    go_wp2
    go_ret
    exact ⟨_, rfl, ⟨0, rfl, by decide, by decide⟩, h, Kept.refl _ _⟩
  · exact below_any m h2 h256 g ao n cap cs w h
theorem wrap_i (z : Int) : I64 (IntKind.i64.wrap z) := by
  rw [IntKind.wrap_i64]
  constructor <;> omega
theorem SgRow.setO {w : World} {base : Nat} {v : Value} {c : Nat} {L : List Int} (h : SgRow w base v c L) {p : Addr} (hp : ∀ k, v.ownBlock = some k → k ≠ p.block) (u : Value) : SgRow (w.setCell p u) base v c L := by
  refine ⟨?_, h.i64⟩
  rcases h.own with ⟨h0, h1 | ⟨g, cap, cur, h1, h2, h3, h4⟩⟩
  · exact ⟨h0, .inl h1⟩
  · refine ⟨h0, .inr ⟨g, cap, cur, h1, h2, ?_, h4⟩⟩
    rw [Below.heap_setCell _ _ _ _ (by subst h1; exact hp g rfl)]
    exact h3
theorem SgRow.below {w w' : World} {base B : Nat} {v : Value} {c : Nat} {L : List Int} (h : SgRow w base v c L) (hB : Below B w w') (hp : ∀ k, v.ownBlock = some k → k < B) : SgRow w' base v c L := by
  refine ⟨?_, h.i64⟩
  rcases h.own with ⟨h0, h1 | ⟨g, cap, cur, h1, h2, h3, h4⟩⟩
  · exact ⟨h0, .inl h1⟩
  · refine ⟨h0, .inr ⟨g, cap, cur, h1, h2, ?_, h4⟩⟩
    rw [hB.block g (by subst h1; exact hp g rfl)]
    exact h3
theorem rdr_below {w w' : World} {g B : Nat} {ao : Option Addr} {n cap : Nat} {cs : List Int} (h : Rdr w g ao n cap cs) (hB : Below B w w') (hg : g < B) : Rdr w' g ao n cap cs := by
  obtain ⟨p, hp, X⟩ := h.blk
  refine ⟨⟨p, hp, X.below hB hg⟩, fun i hi => ?_, h.len, h.small, h.byte⟩
  obtain ⟨b, off, e, hb, hc⟩ := h.bytes i hi
  exact ⟨b, off, e, hb, (hB.cell (p := ⟨b, off + i, none⟩) (show b < B by omega)).trans hc⟩
theorem kept_below {g B : Nat} {a b c : World} (h : Kept g a b) (hB : Below B b c) (hg : g < B) (ha : a.heap.size ≤ B) : Kept g a c :=
  ⟨hB.os.trans h.os, hB.tape.trans h.tape, hB.output.trans h.output, Nat.le_trans h.size hB.size, fun k hk hne => (hB.block k (by omega)).trans (h.block k hk hne), fun j hj hl => (hB.cell (p := ⟨g, j, none⟩) hg).trans (h.other j hj hl)⟩
/-- While a segment is drawn: its two ends lie in blocks of their own. -/
structure SgSt (w wx : World) (g : Nat) (ao : Option Addr) (n cap : Nat) (cs : List Int) (v : Value) (c : Nat) (L : List Int) (GA GB : Nat) : Prop where
  rdr : Rdr wx g ao n cap cs
  kept : Kept g w wx
  row : SgRow wx w.heap.size v c L
  a : ∃ p q : Int, I64 p ∧ I64 q ∧ Blk wx GA [.int .i64 p, .int .i64 q]
  b : ∃ p q : Int, I64 p ∧ I64 q ∧ Blk wx GB [.int .i64 p, .int .i64 q]
  hg : g < w.heap.size
  ha : w.heap.size ≤ GA
  hb : GA < GB
  hv : ∀ k, v.ownBlock = some k → k < GA
theorem SgSt.draw {w wx w' : World} {g : Nat} {ao : Option Addr} {n cap : Nat} {cs : List Int} {v : Value} {c : Nat} {L : List Int} {GA GB : Nat} (h : SgSt w wx g ao n cap cs v c L GA GB) (R : Rdr w' g ao n cap cs) (K : Kept g wx w') : SgSt w w' g ao n cap cs v c L GA GB := by
  obtain ⟨p, q, ip, iq, A⟩ := h.a
  obtain ⟨r, s, ir, is, B⟩ := h.b
  have h1 := h.hg; have h2 := h.ha; have h3 := h.hb
  exact ⟨R, h.kept.trans K, h.row.kept K h.hg, ⟨p, q, ip, iq, A.kept K (by omega)⟩, ⟨r, s, ir, is, B.kept K (by omega)⟩, h.hg, h.ha, h.hb, h.hv⟩
theorem SgSt.low {w wx w' : World} {g : Nat} {ao : Option Addr} {n cap : Nat} {cs : List Int} {v : Value} {c : Nat} {L : List Int} {GA GB : Nat} (h : SgSt w wx g ao n cap cs v c L GA GB) (hB : Below GA wx w') (a : ∃ p q : Int, I64 p ∧ I64 q ∧ Blk w' GA [.int .i64 p, .int .i64 q]) (b : ∃ p q : Int, I64 p ∧ I64 q ∧ Blk w' GB [.int .i64 p, .int .i64 q]) : SgSt w w' g ao n cap cs v c L GA GB := by
  have h1 := h.hg; have h2 := h.ha; have h3 := h.hb
  exact ⟨rdr_below h.rdr hB (by omega), kept_below h.kept hB (by omega) h.ha, h.row.below hB h.hv, a, b, h.hg, h.ha, h.hb, h.hv⟩
theorem SgSt.putA {w wx : World} {g : Nat} {ao : Option Addr} {n cap : Nat} {cs : List Int} {v : Value} {c : Nat} {L : List Int} {GA GB : Nat} (h : SgSt w wx g ao n cap cs v c L GA GB) {x y : Int} (hx : I64 x) (hy : I64 y) : SgSt w ((wx.setCell ⟨GA, 0, none⟩ (.int .i64 x)).setCell ⟨GA, 1, none⟩ (.int .i64 y)) g ao n cap cs v c L GA GB := by
  obtain ⟨p, q, ip, iq, A⟩ := h.a
  obtain ⟨r, s, ir, is, B⟩ := h.b
  have h3 := h.hb
  exact h.low (((Below.refl _ _).setCell (p := ⟨GA, 0, none⟩) (Nat.le_refl _) _).setCell (p := ⟨GA, 1, none⟩) (Nat.le_refl _) _) ⟨x, y, hx, hy, (A.setI 0 (by simp) _).setI 1 (by simp) _⟩ ⟨r, s, ir, is, (B.setO (p := ⟨GA, 0, none⟩) (by show GB ≠ GA; omega) _).setO (p := ⟨GA, 1, none⟩) (by show GB ≠ GA; omega) _⟩
theorem SgSt.putB {w wx : World} {g : Nat} {ao : Option Addr} {n cap : Nat} {cs : List Int} {v : Value} {c : Nat} {L : List Int} {GA GB : Nat} (h : SgSt w wx g ao n cap cs v c L GA GB) {y : Int} (hy : I64 y) : SgSt w (wx.setCell ⟨GB, 1, none⟩ (.int .i64 y)) g ao n cap cs v c L GA GB := by
  obtain ⟨p, q, ip, iq, A⟩ := h.a
  obtain ⟨r, s, ir, is, B⟩ := h.b
  have h3 := h.hb
  exact h.low ((Below.refl _ _).setCell (p := ⟨GB, 1, none⟩) (Nat.le_of_lt h3) _) ⟨p, q, ip, iq, A.setO (p := ⟨GB, 1, none⟩) (by show GA ≠ GB; omega) _⟩ ⟨r, y, ir, hy, B.setI 1 (by simp) _⟩
/-- What r.segs() leaves. -/
def SgsP (g : Nat) (ao : Option Addr) (n cap : Nat) (cs : List Int) (w : World) (e : Ending) (w' : World) : Prop := ∃ v c L, e = .returned v ∧ c ≤ 6 ∧ SgRow w' w.heap.size v c L ∧ Rdr w' g ao n cap cs ∧ Kept g w w'
set_option maxRecDepth 100000 in
set_option maxHeartbeats 8000000 in
theorem segs_any (g : Nat) (ao : Option Addr) (n cap : Nat) (cs : List Int) (w : World) (R : Rdr w g ao n cap cs) :
    Calls Try.prog 18 #[.pointer (some ⟨g, 0, none⟩), .int .i64 6] w (SgsP g ao n cap cs w) := by
  have hg := R.lt
  obtain ⟨i0, hi, hz0, hz1, hz2⟩ := info_parts Try.infoSegD
  have O0 : SgRow (w.alloc (.cells #[] 39)) w.heap.size (.slice (some ⟨w.heap.size, 0, none⟩) 0 0) 0 [] := ⟨by
    have := World.ownsRow_made (e := 39) (size := 4) (base := w.heap.size) w #[] 0 (Nat.le_refl _) (by decide) rfl
    simpa using this, fun z hz => by simp at hz⟩
  replace R := R.alloc (.cells #[] 39)
  have K := (Kept.refl g w).alloc (.cells #[] 39)
  go_enter Try.func18, Try.ntmps18
  go_wp2_with fail
  refine (below_any 7 (by decide) (by decide) g ao n cap cs _ R).mono ?_
  rintro e w1 ⟨_, rfl, ⟨m, rfl, m0, m1⟩, R1, K1⟩
  replace O0 := O0.kept K1 hg
  replace K := K.trans K1
  clear R K1
  have R := R1
  clear R1
  go_wp2_with fail
  go_loopw [5, 7] (fun o i wr => ∃ (c : Nat) (L : List Int), (c : Int) ≤ m ∧ i = .int .i64 c ∧ SgRow wr w.heap.size o c L ∧ Rdr wr g ao n cap cs ∧ Kept g w wr) (fun _ i _ => m.toNat - (intOf i).toNat)
  case atStart => exact ⟨0, [], by omega, rfl, O0, R, K⟩
  case round =>
    clear O0 R K
    obtain ⟨c, L, hcm, rfl, O, R, K⟩ := hrel
    by_cases hlt : (c : Int) < m
    · go_wp2_with fail
      refine (spot_any g ao n cap cs _ R).mono ?_
      rintro e w2 ⟨_, rfl, ⟨x, y, rfl, x0, x1, y0, y1⟩, R1, K1⟩
      replace O := O.kept K1 hg
      replace K := K.trans K1
      clear R K1
      have X2 := Blk.new w2 [.int .i64 x, .int .i64 y] 26 rfl
      rw [show ([.int .i64 x, .int .i64 y] : List Value).toArray = #[.int .i64 x, .int .i64 y] from rfl] at X2
      have R := R1.alloc (.cells #[.int .i64 x, .int .i64 y] 26)
      have hk2 := K.size
      have hv2 : ∀ k, u5.ownBlock = some k → k < w2.heap.size := fun k hk => (O.own.lt k hk).2
      replace K := K.alloc (.cells #[.int .i64 x, .int .i64 y] 26)
      replace O := O.alloc (.cells #[.int .i64 x, .int .i64 y] 26)
      clear R1
      go_wp2_with fail
      refine (spot_any g ao n cap cs _ R).mono ?_
      rintro e w3 ⟨_, rfl, ⟨r, s, rfl, r0, r1, s0, s1⟩, R1, K1⟩
      replace O := O.kept K1 hg
      replace K := K.trans K1
      replace X2 := X2.kept K1 (by omega)
      clear R K1
      have hx2 := X2.lt
      have X3 := Blk.new w3 [.int .i64 r, .int .i64 s] 26 rfl
      rw [show ([.int .i64 r, .int .i64 s] : List Value).toArray = #[.int .i64 r, .int .i64 s] from rfl] at X3
      have T : SgSt w (w3.alloc (.cells #[.int .i64 r, .int .i64 s] 26)) g ao n cap cs u5 c L w2.heap.size w3.heap.size := ⟨R1.alloc _, K.alloc _, O.alloc _, ⟨x, y, by constructor <;> omega, by constructor <;> omega, X2.alloc _⟩, ⟨r, s, by constructor <;> omega, by constructor <;> omega, X3⟩, hg, hk2, hx2, hv2⟩
      clear R1 K O X2 X3 x0 x1 y0 y1 r0 r1 s0 s1
      go_upto_region 8 with fail
      revert T
      generalize (w3.alloc (.cells #[.int .i64 r, .int .i64 s] 26)) = W8
      intro T
      clear hx2 hv2 hk2
      generalize w2.heap.size = GA at *
      generalize w3.heap.size = GB at *
      go_cut [31] (fun pv wx => (∃ t : Bool, pv = .bool t ∧ (t = true → 0 < c)) ∧ SgSt w wx g ao n cap cs u5 c L GA GB)
      case first =>
        rcases Nat.eq_zero_or_pos c with h0 | h0
        · have i0' : ¬ (0 : Int) < (c : Int) := by omega
          clear h0
          go_wp2_with fail
          go_meet
          case rel => exact ⟨⟨false, rfl, fun h => by cases h⟩, T⟩
        · have i0' : (0 : Int) < (c : Int) := by omega
          go_wp2_with fail
          refine (once_any 3 (by decide) (by decide) g ao n cap cs _ T.rdr).mono ?_
          rintro e w4 ⟨_, rfl, ⟨t, rfl⟩, R1, K1⟩
          replace T := T.draw R1 K1
          clear R1 K1
          go_wp2
          go_meet
          case rel => exact ⟨⟨t, rfl, fun _ => h0⟩, T⟩
      case rest =>
        clear T
        obtain ⟨⟨t, rfl, ht⟩, T⟩ := hcut
        rename_i hk
        refine hk _ _ ?_
        clear hk
        go_cut [] (fun wx => SgSt w wx g ao n cap cs u5 c L GA GB)
        case first =>
          cases t
          · go_wp2
            go_meet
            case rel => exact T
          · have h0 := ht rfl
            obtain ⟨gr, cap', a, b, d, e, hu, hbr, hgr, c0, c1, c2, c3, c3', ia, ib, id, ie⟩ := T.row.four (i := c - 1) (by omega)
            obtain ⟨k, hk⟩ : ∃ k, k = c - 1 := ⟨_, rfl⟩
            rw [← hk] at c0 c1 c2 c3 c3'
            subst hu
            have wC : IntKind.i64.wrap ((c : Int) - 1) = (k : Int) := by rw [IntKind.wrap_i64]; omega
            have kc : (k : Int) < (c : Int) := by omega
            obtain ⟨p, q, ip, iq, A⟩ := T.a
            obtain ⟨a0, af0, a1, af1⟩ := A.cf2
            have al := A.lt
            have Q := T.putA id ie
            clear A T ht hk
            go_wp2
            go_meet
            case rel => exact Q
        case rest =>
          clear T
          have T := hcut
          clear hcut ht
          go_upto_region 10 with fail
          go_cut [43] (fun pv wx => (∃ t : Bool, pv = .bool t ∧ (t = true → 0 < c)) ∧ SgSt w wx g ao n cap cs u5 c L GA GB)
          case first =>
            rcases Nat.eq_zero_or_pos c with h0 | h0
            · have i0' : ¬ (0 : Int) < (c : Int) := by omega
              clear h0
              go_wp2_with fail
              go_meet
              case rel => exact ⟨⟨false, rfl, fun h => by cases h⟩, T⟩
            · have i0' : (0 : Int) < (c : Int) := by omega
              go_wp2_with fail
              refine (once_any 6 (by decide) (by decide) g ao n cap cs _ T.rdr).mono ?_
              rintro e w4 ⟨_, rfl, ⟨t, rfl⟩, R1, K1⟩
              replace T := T.draw R1 K1
              clear R1 K1
              go_wp2
              go_meet
              case rel => exact ⟨⟨t, rfl, fun _ => h0⟩, T⟩
          case rest =>
            clear T
            obtain ⟨⟨t, rfl, ht⟩, T⟩ := hcut
            rename_i hk
            refine hk _ _ ?_
            clear hk
            go_cut [] (fun wx => SgSt w wx g ao n cap cs u5 c L GA GB)
            case first =>
              cases t
              · go_wp2
                go_meet
                case rel => exact T
              · have h0 := ht rfl
                obtain ⟨gr, cap', a, b, d, e, hu, hbr, hgr, c0, c1, c2, c3, c3', ia, ib, id, ie⟩ := T.row.four (i := c - 1) (by omega)
                obtain ⟨k, hk⟩ : ∃ k, k = c - 1 := ⟨_, rfl⟩
                rw [← hk] at c0 c1 c2 c3 c3'
                subst hu
                have wC : IntKind.i64.wrap ((c : Int) - 1) = (k : Int) := by rw [IntKind.wrap_i64]; omega
                have kc : (k : Int) < (c : Int) := by omega
                have hrl : gr < GA := T.hv gr rfl
                clear ht hk c3
                go_upto_region 11 with fail
                refine sgX (GA := GA) (GB := GB) (GR := gr) (k := k) (c := c) (cap := cap') (C := c) (a := a) (b := b) (d := d) (e := e) (d2 := IntKind.i64.wrap (2 * d)) (e2 := IntKind.i64.wrap (2 * e)) (x2 := IntKind.i64.wrap (IntKind.i64.wrap (2 * d) - a)) (y2 := IntKind.i64.wrap (IntKind.i64.wrap (2 * e) - b)) T.hb wC kc rfl rfl rfl rfl ia ib (wrap_i _) (wrap_i _) rfl rfl rfl rfl c0 hrl c1 hrl c2 hrl c3' hrl rfl (by obtain ⟨p, q, ip, iq, A⟩ := T.a; obtain ⟨r, s, ir, is, B⟩ := T.b; exact ⟨⟨p, q, ip, iq, A.drew⟩, r, s, ir, is, B.drew⟩) ?_
                rintro ⟨tm, df⟩ Wz hz hdf hoff hBz ⟨ha, hb⟩
                simp only at hz hdf hoff
                subst hdf
                have htm := tmps_fold [44, 45, 46, 47, 48, 49, 50, 51, 52, 53, 54, 55, 56, 57, 58, 59, 60, 61, 62, 63, 64, 65, 66, 67, 68, 69, 70, 71, 72, 73, 74, 75, 76, 77, 78, 79, 80, 81, 82] tm _ hz hoff
                simp only [List.foldl, List.setIfInBounds_toArray, List.set_cons_zero, List.set_cons_succ] at htm
                clear hz hoff
                generalize tm.getD 44 undef = sl0, tm.getD 45 undef = sl1, tm.getD 46 undef = sl2, tm.getD 47 undef = sl3, tm.getD 48 undef = sl4, tm.getD 49 undef = sl5, tm.getD 50 undef = sl6, tm.getD 51 undef = sl7, tm.getD 52 undef = sl8, tm.getD 53 undef = sl9, tm.getD 54 undef = sl10, tm.getD 55 undef = sl11, tm.getD 56 undef = sl12, tm.getD 57 undef = sl13, tm.getD 58 undef = sl14, tm.getD 59 undef = sl15, tm.getD 60 undef = sl16, tm.getD 61 undef = sl17, tm.getD 62 undef = sl18, tm.getD 63 undef = sl19, tm.getD 64 undef = sl20, tm.getD 65 undef = sl21, tm.getD 66 undef = sl22, tm.getD 67 undef = sl23, tm.getD 68 undef = sl24, tm.getD 69 undef = sl25, tm.getD 70 undef = sl26, tm.getD 71 undef = sl27, tm.getD 72 undef = sl28, tm.getD 73 undef = sl29, tm.getD 74 undef = sl30, tm.getD 75 undef = sl31, tm.getD 76 undef = sl32, tm.getD 77 undef = sl33, tm.getD 78 undef = sl34, tm.getD 79 undef = sl35, tm.getD 80 undef = sl36, tm.getD 81 undef = sl37, tm.getD 82 undef = sl38 at htm
                subst htm
                have Q := T.low hBz ha hb
                clear hBz ha hb T c0 c1 c2 c3'
                go_wp2
                go_meet
                case rel => exact Q
            case rest =>
              clear T
              have T := hcut
              clear hcut ht
              go_upto_region 12 with fail
              go_cut [85] (fun pv wx => (∃ t : Bool, pv = .bool t) ∧ SgSt w wx g ao n cap cs u5 c L GA GB)
              case first =>
                obtain ⟨p, q, ip, iq, A⟩ := T.a
                obtain ⟨r, s, ir, is, B⟩ := T.b
                obtain ⟨a0, a1⟩ := A.cs2
                obtain ⟨b0, b1⟩ := B.cs2
                have E := eqSpo p q r s
                generalize (decide (p = r) && decide (q = s)) = t at E
                clear A B ip iq ir is
                go_wp2
                go_meet
                case rel => exact ⟨⟨t, rfl⟩, T⟩
              case rest =>
                clear T
                obtain ⟨⟨t, rfl⟩, T⟩ := hcut
                rename_i hk
                refine hk _ _ ?_
                clear hk
                go_cut [] (fun wx => SgSt w wx g ao n cap cs u5 c L GA GB)
                case first =>
                  cases t
                  · go_wp2
                    go_meet
                    case rel => exact T
                  · obtain ⟨r, s, ir, is, B⟩ := T.b
                    obtain ⟨b0, bf0, b1, bf1⟩ := B.cf2
                    have bl := B.lt
                    obtain ⟨s', hs'⟩ : ∃ s', IntKind.i64.wrap (s + 1) = s' := ⟨_, rfl⟩
                    have is' : I64 s' := hs' ▸ wrap_i _
                    have Q := T.putB is'
                    clear T B ir is is'
                    go_wp2
                    go_meet
                    case rel => exact Q
                case rest =>
                  clear T
                  have T := hcut
                  clear hcut
                  obtain ⟨p, q, ip, iq, A⟩ := T.a
                  obtain ⟨r, s, ir, is, B⟩ := T.b
                  obtain ⟨a0, a1⟩ := A.cs2
                  obtain ⟨b0, b1⟩ := B.cs2
                  obtain ⟨a, b, d, e, k, ia, ib, id, ie, CS⟩ := segOf_ex p q r s ip iq ir is
                  clear A B ip iq ir is
                  go_wp2_with fail
                  clear a0 a1 b0 b1
                  refine (CS _).mono ?_
                  rintro ee w5 ⟨rfl, hB⟩
                  have O := T.row.step hB
                  have R := T.rdr.step hB
                  have K := T.kept.trans (Kept.of hB)
                  have hGA := T.ha
                  clear hB CS T
                  have X := Blk.new w5 [.int .i64 a, .int .i64 b, .int .i64 d, .int .i64 e] 39 rfl
                  rw [show ([.int .i64 a, .int .i64 b, .int .i64 d, .int .i64 e] : List Value).toArray = #[.int .i64 a, .int .i64 b, .int .i64 d, .int .i64 e] from rfl] at X
                  replace O := O.alloc (.cells #[.int .i64 a, .int .i64 b, .int .i64 d, .int .i64 e] 39)
                  replace R := R.alloc (.cells #[.int .i64 a, .int .i64 b, .int .i64 d, .int .i64 e] 39)
                  replace K := K.alloc (.cells #[.int .i64 a, .int .i64 b, .int .i64 d, .int .i64 e] 39)
                  go_upto_region 15 with fail
                  revert X O R K
                  generalize (w5.alloc (.cells #[.int .i64 a, .int .i64 b, .int .i64 d, .int .i64 e] 39)) = W5
                  generalize w5.heap.size = gs
                  intro X O R K
                  obtain ⟨x0, x1, x2, x3⟩ := X.cs4
                  have xl := X.lt
                  have hks := K.size
                  clear X
                  replace K := K.alloc (.cells #[.int .i64 a, .int .i64 b, .int .i64 d, .int .i64 e] 39)
                  replace R := R.alloc (.cells #[.int .i64 a, .int .i64 b, .int .i64 d, .int .i64 e] 39)
                  go_wp2_with (at_builtin; refine wpList_append_own _ rfl _ _ 24 rfl w.heap.size 39 i0 (.agg #[.int .i64 0, .int .i64 0, .int .i64 0, .int .i64 0]) 4 32 Try.underlying24 hi hz0 hz1 hz2 rfl (by decide) _ _ _ rfl (O.own.alloc _) ⟨W5.heap.size, 0, none⟩ 1 1 [.int .i64 a, .int .i64 b, .int .i64 d, .int .i64 e] rfl rfl (four_new _ _ _ _ _ _) (four_one _ _ _ _) (by unfold maxLen; omega) (by omega) (by simp; omega) ?_)
                  intro v' w6 hown2 hgrow2 hnn
                  have O2 := SgRow.app hown2 O.i64 ia ib id ie
                  have hlt2 : ∀ k, u5.ownBlock = some k → w.heap.size ≤ k := fun k hk => (O.own.lt k hk).1
                  have K2 := kept_grown K hgrow2 hlt2
                  have R2 := rdr_grown R hgrow2 (fun k hk => by have := hlt2 k hk; omega)
                  clear hown2 hgrow2 hnn O K R x0 x1 x2 x3 hlt2
                  go_wp2
                  go_roundw
                  case rel => exact ⟨c + 1, _, by omega, by go_num, O2, R2, K2⟩
                  case measure => simp [intOf]; omega
    · obtain rfl : m = (c : Int) := by omega
      have hc6 : c ≤ 6 := by omega
      go_wp2_with fail
      refine (once_any 40 (by decide) (by decide) g ao n cap cs _ R).mono ?_
      rintro e w2 ⟨_, rfl, ⟨t, rfl⟩, R1, K1⟩
      replace O := O.kept K1 hg
      replace K := K.trans K1
      clear R K1
      have R := R1
      clear R1
      cases t
      · go_wp2
        go_ret
        exact ⟨_, c, L, rfl, hc6, O, R, K⟩
      · rcases Nat.eq_zero_or_pos c with h0 | h0
        · have i0' : ¬ (0 : Int) < (c : Int) := by omega
          clear h0
          go_wp2
          go_ret
          exact ⟨_, c, L, rfl, hc6, O, R, K⟩
        · have i0' : (0 : Int) < (c : Int) := by omega
          go_wp2_with fail
          refine (below_pos c (by omega) (by omega) g ao n cap cs _ R).mono ?_
          rintro e w3 ⟨_, rfl, ⟨j', rfl, j0, j1⟩, R1, K1⟩
          replace O := O.kept K1 hg
          replace K := K.trans K1
          clear R K1
          have R := R1
          clear R1
          obtain ⟨j, rfl⟩ : ∃ j : Nat, j' = j := ⟨j'.toNat, by omega⟩
          go_wp2_with fail
          refine (seg_any g ao n cap cs _ R).mono ?_
          rintro e w4 ⟨_, rfl, ⟨a, b, d, e, rfl, ia, ib, id, ie⟩, R1, K1⟩
          replace O := O.kept K1 hg
          replace K := K.trans K1
          clear R K1
          have R := R1
          clear R1
          obtain ⟨gr, cap', hu, hbr, _, _⟩ := ownG_form O.own h0
          subst hu
          have hlen := O.len
          have B := ownG_blk O.own
          have bl := B.lt
          have hcf : ∀ i, i < 4 → (∃ u, w4.cell? ⟨gr, j * 4 + i, none⟩ = some u) ∧ w4.frozen? ⟨gr, j * 4 + i, none⟩ = false := fun i hi => by
            have hl2 : j * 4 + i < (L.map (Value.int .i64)).length := by rw [List.length_map]; omega
            exact ⟨⟨_, B.c (j * 4 + i) (List.getElem?_eq_getElem hl2)⟩, B.f (j * 4 + i) (List.getElem?_eq_getElem hl2)⟩
          obtain ⟨⟨v0, c0⟩, f0⟩ := hcf 0 (by decide)
          obtain ⟨⟨v1, c1⟩, f1⟩ := hcf 1 (by decide)
          obtain ⟨⟨v2, c2⟩, f2⟩ := hcf 2 (by decide)
          obtain ⟨⟨v3, c3⟩, f3⟩ := hcf 3 (by decide)
          simp only [Nat.add_zero] at c0 f0
          have Q := (((O.set (j * 4) ia).set (j * 4 + 1) ib).set (j * 4 + 2) id).set (j * 4 + 3) ie
          have K2 := (((K.setN (p := ⟨gr, j * 4, none⟩) hbr (by show g ≠ gr; omega) (.int .i64 a)).setN (p := ⟨gr, j * 4 + 1, none⟩) hbr (by show g ≠ gr; omega) (.int .i64 b)).setN (p := ⟨gr, j * 4 + 2, none⟩) hbr (by show g ≠ gr; omega) (.int .i64 d)).setN (p := ⟨gr, j * 4 + 3, none⟩) hbr (by show g ≠ gr; omega) (.int .i64 e)
          have R2 := (((R.setN (p := ⟨gr, j * 4, none⟩) (by show g < gr; omega) (.int .i64 a)).setN (p := ⟨gr, j * 4 + 1, none⟩) (by show g < gr; omega) (.int .i64 b)).setN (p := ⟨gr, j * 4 + 2, none⟩) (by show g < gr; omega) (.int .i64 d)).setN (p := ⟨gr, j * 4 + 3, none⟩) (by show g < gr; omega) (.int .i64 e)
          clear B O K R hcf
          go_wp2
          go_ret
          exact ⟨_, c, _, rfl, hc6, Q, R2, K2⟩
end Go.Proofs.Ytjhmacpejfldoaa
